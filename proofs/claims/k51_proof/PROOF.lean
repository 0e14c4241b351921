import PyProof.Rows.All
import Wide.All
import OpenK.AllK
import Wide.FinOn
import Lean
import PyProof.EqAt
import PyProof.EqKinds
import PyProof.TupleCall
import PyProof.Rows.SortRunsK
import PyProof.Rows.Walk
import KE.KSortTup
import PyProof.ListRange
import PyProof.Rows.SetFrom
import PySem.Challenge.RW_restdraw_k51_three_cornered_told
set_option Elab.async false
set_option linter.all false
set_option maxRecDepth 100000
local macro_rules | `(tactic| omega) => `(tactic| lia)
noncomputable section
namespace L2
open PySem PySem.Spec PyProof.Rows

abbrev Key := Sum Int Str
def keyIs : Key → Value → Bool
  | .inl k, v => Value.isInt k v
  | .inr x, v => Value.isStrOf x v
def keyH (w : World) : Key → Int
  | .inl k => hashInt k
  | .inr x => hashStr w x
theorem keyIs_shape : ∀ {k : Key} {v : Value}, keyIs k v = true → (∃ i t, k = Sum.inl i ∧ v = Value.int i t) ∨ (∃ x t, k = Sum.inr x ∧ v = Value.str x t)
  | .inl i, v, h => by
    obtain ⟨t, e⟩ := Value.isInt_shape (k := i) (v := v) h
    exact .inl ⟨i, t, rfl, e⟩
  | .inr x, v, h => by
    obtain ⟨t, e⟩ := Value.isStrOf_shape (x := x) (v := v) h
    exact .inr ⟨x, t, rfl, e⟩
theorem keyIs_int (i : Int) (t : Tok) : keyIs (.inl i) (.int i t) = true := by simp [keyIs, Value.isInt]
theorem keyIs_str (x : Str) (t : Tok) : keyIs (.inr x) (.str x t) = true := by simp [keyIs, Value.isStrOf]
theorem key_ll (a b : Int) : decide ((Sum.inl a : Key) = Sum.inl b) = (a == b) := by
  by_cases e : a = b
  · subst e; simp
  · have h : ¬ (Sum.inl a : Key) = Sum.inl b := fun q => e (Sum.inl.inj q)
    rw [decide_eq_false h]
    exact (beq_eq_false_iff_ne.mpr e).symm
theorem key_rr (a b : Str) : decide ((Sum.inr a : Key) = Sum.inr b) = decide (a = b) := by
  by_cases e : a = b
  · subst e; simp
  · have h : ¬ (Sum.inr a : Key) = Sum.inr b := fun q => e (Sum.inr.inj q)
    rw [decide_eq_false h, decide_eq_false e]
theorem key_lr (a : Int) (b : Str) : decide ((Sum.inl a : Key) = Sum.inr b) = false := decide_eq_false (fun q => nomatch q)
theorem key_rl (a : Str) (b : Int) : decide ((Sum.inr a : Key) = Sum.inl b) = false := decide_eq_false (fun q => nomatch q)

def mixKind (prog : Program) (w : World) : PySem.KeyKind prog w Key where
  is := keyIs
  hash := keyH w
  inj := fun v a b ha hb => by
    rcases keyIs_shape ha with ⟨i, t, rfl, rfl⟩ | ⟨x, t, rfl, rfl⟩
    · rcases keyIs_shape hb with ⟨j, u, rfl, e⟩ | ⟨y, u, rfl, e⟩
      · injection e with e1 _; rw [e1]
      · exact nomatch e
    · rcases keyIs_shape hb with ⟨j, u, rfl, e⟩ | ⟨y, u, rfl, e⟩
      · exact nomatch e
      · injection e with e1 _; rw [e1]
  byValue := fun k v h => by
    rcases keyIs_shape h with ⟨i, t, rfl, rfl⟩ | ⟨x, t, rfl, rfl⟩ <;> rfl
  pyHash := fun hv h => by
    rcases keyIs_shape hv with ⟨i, t, rfl, rfl⟩ | ⟨x, t, rfl, rfl⟩
    · exact wpAny_pyHash_int h
    · exact wpAny_pyHash_str h
  eqBool := fun hu hv h => by
    rcases keyIs_shape hu with ⟨i, t, rfl, rfl⟩ | ⟨x, t, rfl, rfl⟩
    · rcases keyIs_shape hv with ⟨j, u, rfl, rfl⟩ | ⟨y, u, rfl, rfl⟩
      · rw [key_ll] at h; exact wpAny_eqBool_int h
      · rw [key_lr] at h; exact SeqAt.EqAt.int_str i t y u _ _ _ _ h
    · rcases keyIs_shape hv with ⟨j, u, rfl, rfl⟩ | ⟨y, u, rfl, rfl⟩
      · rw [key_rl] at h; exact SeqAt.EqAt.str_int x t j u _ _ _ _ h
      · rw [key_rr] at h; exact wpAny_eqBool_str h
  «strs» := fun k x t v h => by
    rcases keyIs_shape h with ⟨i, u, rfl, e⟩ | ⟨y, u, rfl, e⟩
    · exact nomatch e
    · injection e with e1 _
      subst e1
      cases v <;> rfl

theorem mixKind_int (prog : Program) (w : World) (i : Int) (t : Tok) : (mixKind prog w).is (.inl i) (.int i t) = true := keyIs_int i t
theorem mixKind_str (prog : Program) (w : World) (x : Str) (t : Tok) : (mixKind prog w).is (.inr x) (.str x t) = true := keyIs_str x t
end L2

namespace L2
open PySem PySem.Spec PyProof.Rows

inductive V where
  | non | bl (b : Bool) | int (i : Int) | str (x : Str) | byt (b : Array UInt8) | flt (b : UInt64) | ref (a : Addr) | ty (n : String)
  deriving DecidableEq

def RelV : V → Value → Prop
  | .non, u => u = Value.none
  | .bl b, u => u = Value.bool b
  | .int i, u => ∃ t, u = Value.int i t
  | .str x, u => ∃ t, u = Value.str x t
  | .byt b, u => ∃ t, u = Value.bytes b t
  | .flt b, u => ∃ t, u = Value.float b t
  | .ref a, u => u = Value.ref a
  | .ty n, u => u = Value.type n

abbrev Vals : List V → List Value → Prop := Paired RelV
theorem Vals.length {xs : List V} {us : List Value} (r : Vals xs us) : xs.length = us.length := Paired.length r
theorem Vals.get : ∀ {xs : List V} {us : List Value} {i : Nat} {x : V}, Vals xs us → xs[i]? = some x → ∃ u, us[i]? = some u ∧ RelV x u
  | _, _, _, _, .nil, e => by simp at e
  | _, _, 0, _, .cons r _, e => by simp at e; subst e; exact ⟨_, rfl, r⟩
  | _, _, i + 1, x, .cons _ t, e => by
    obtain ⟨u, h1, h2⟩ := Vals.get (i := i) (x := x) t (by simpa using e)
    exact ⟨u, by simpa using h1, h2⟩
theorem Vals.set {x : V} {u : Value} (r : RelV x u) : ∀ {xs : List V} {us : List Value} (i : Nat), Vals xs us → Vals (xs.set i x) (us.set i u)
  | _, _, _, .nil => .nil
  | _, _, 0, .cons _ t => .cons r t
  | _, _, i + 1, .cons q t => .cons q (Vals.set r i t)
theorem Vals.append : ∀ {xs ys : List V} {us ws : List Value}, Vals xs us → Vals ys ws → Vals (xs ++ ys) (us ++ ws)
  | _, _, _, _, .nil, s => s
  | _, _, _, _, .cons r t, s => .cons r (Vals.append t s)
theorem Vals.take : ∀ {xs : List V} {us : List Value} (n : Nat), Vals xs us → Vals (xs.take n) (us.take n)
  | _, _, 0, _ => .nil
  | _, _, _ + 1, .nil => .nil
  | _, _, n + 1, .cons r t => .cons r (Vals.take n t)
theorem Vals.drop : ∀ {xs : List V} {us : List Value} (n : Nat), Vals xs us → Vals (xs.drop n) (us.drop n)
  | _, _, 0, r => r
  | _, _, _ + 1, .nil => .nil
  | _, _, n + 1, .cons _ t => Vals.drop n t
def RelO : Option V → Option Value → Prop
  | some v, some u => RelV v u
  | none, none => True
  | _, _ => False
def KV {κ : Type} : List (κ × V) → List (κ × Value) → Prop := Paired fun (p : κ × V) (q : κ × Value) => p.1 = q.1 ∧ RelV p.2 q.2

def kV : Key → V
  | .inl i => .int i
  | .inr x => .str x

inductive HO where
  /-- a list -/
  | lst (xs : List V)
  /-- a tuple (never changes) -/
  | tup (xs : List V)
  /-- a dict whose keys are ints and texts; one whose keys are tuples of ints and texts (the empty one is both) -/
  | dK (kvs : List (Key × V)) | dT (kvs : List (List Key × V))
  /-- a set of ints: its members, its size -/
  | set (S : Int → Bool) (n : Nat)
  /-- an instance of the class at C, its dict at dx, its attributes -/
  | ins (C dx : Addr) (fs : List (Str × V))
  /-- the dict of the instance at x -/
  | own (x : Addr)
  /-- the dict of an exception -/
  | xd (fs : List (Str × V))
  /-- a bound method, f of x -/
  | met (f x : Addr)
  /-- a range object lo, lo + 1, .. below hi -/
  | rng (lo hi : Int)
  /-- a thing that is known to the object (the script; a dict while a loop walks it): read, never written while it is so -/
  | frz (o : Obj) (u : HO)
  /-- a code object's table -/
  | tbl (ps : Array Value)
  /-- any other thing, by what is true of its one object (a def of one's own: SetO a S n := HO.ext fun h => ..) -/
  | ext (φ : Heap → Prop)

abbrev Hp := Addr → Option HO
def upd (H : Hp) (a : Addr) (o : HO) : Hp := fun b => if b = a then some o else H b
theorem upd_same {H : Hp} {a : Addr} {o : HO} : upd H a o a = some o := by unfold upd; rw [if_pos rfl]
theorem upd_ne {H : Hp} {a b : Addr} {o : HO} (h : b ≠ a) : upd H a o b = H b := by unfold upd; rw [if_neg h]
theorem ne_of {H : Hp} {a b : Addr} {o u : HO} (h : H a = some o) (h' : H b = some u) (d : o ≠ u) : a ≠ b := by
  intro e; subst e; rw [h] at h'; exact d (Option.some.inj h')
theorem ne_of_none {H : Hp} {a b : Addr} {o : HO} (h : H a = some o) (h' : H b = none) : a ≠ b := by
  intro e; subst e; rw [h] at h'; cases h'

section
def IsTupN (h : Heap) (a : Addr) (items : Array Value) : Prop := ∃ o, h.get? a = some o ∧ o.cls = .type "tuple" ∧ ∃ n, o.data = .seq items n ∧ o.dict = none
theorem IsTupN.isTup {h : Heap} {a : Addr} {items : Array Value} : IsTupN h a items → IsTup h a items := fun ⟨o, e, c, n, d, _⟩ => ⟨o, e, c, n, d⟩
theorem IsTupN.lt {h : Heap} {a : Addr} {items : Array Value} (x : IsTupN h a items) : a < h.objs.size := x.isTup.lt
theorem IsTupN.new (h : Heap) (items : Array Value) : IsTupN (h.push { cls := .type "tuple", data := .seq items }) h.objs.size items := ⟨_, Heap.get?_push_size _ rfl, rfl, _, rfl, rfl⟩
variable (P : Program) (w : World)
def ObjOk (H : Hp) (h : Heap) (a : Addr) : HO → Prop
  | .lst xs => xs.length ≤ sizeLine ∧ ∃ (its : List Value) (n : Nat), Vals xs its ∧ h.get? a = some { cls := .type "list", data := .seq its.toArray n }
  | .tup xs => xs.length ≤ sizeLine ∧ ∃ its : List Value, Vals xs its ∧ IsTupN h a its.toArray
  | .dK kvs => kvs.length ≤ sizeLine ∧ (a == sysModules) = false ∧ ∃ vs, KV kvs vs ∧ h.DictOf (mixKind P w) a vs
  | .dT kvs => kvs.length ≤ sizeLine ∧ (a == sysModules) = false ∧ ∃ xs : List (List Key × Addr × Value),
      Paired (fun (p : List Key × V) (q : List Key × Addr × Value) => p.1 = q.1 ∧ H q.2.1 = some (.tup (p.1.map kV)) ∧ RelV p.2 q.2.2) kvs xs ∧
      ∃ o es ep, h.get? a = some o ∧ o.ExactDict ∧ o.data = .dict es ep ∧ es.toList = xs.map (entryOfKey (tupleKind (mixKind P w))) ∧ (xs.map (·.1)).Nodup
  | .set S n => h.SetOf (intKind P w) a S n
  | .ins C dx fs => H dx = some (.own a) ∧ fs.length ≤ 1000 ∧ dx ≠ a ∧ h.get? a = some (PySem.W.instObj C dx) ∧
      ∃ mA, h.Ns1 dx mA ∧ (∀ f, RelO (fs.lookup f) (mA f)) ∧ PySem.Within mA (fs.map (·.1))
  | .own _ => ∃ o, h.get? a = some o
  | .xd fs => ∃ mA, h.Ns1 a mA ∧ ∀ f, RelO (fs.lookup f) (mA f)
  | .rng lo hi => ∃ t u v, h.get? a = some { cls := .type "range", data := .fields #[.int lo t, .int hi u, .int 1 v] }
  | .frz o u => h.get? a = some o ∧ ObjOk H h a u
  | .tbl ps => h.get? a = some { cls := .none, data := .fields ps }
  | .met f x => h.get? a = some (PySem.W.methodObj (.ref f) (.ref x))
  | .ext φ => φ h ∧ (∃ o, h.get? a = some o) ∧ ∀ h1 h2 : Heap, φ h1 → (∀ o, h1.get? a = some o → h2.get? a = some o) → φ h2
def HOk (H : Hp) (h : Heap) : Prop := ∀ a o, H a = some o → ObjOk P w H h a o
end

section
variable {P : Program} {w : World} {H H' : Hp} {h h' : Heap} {a : Addr} {o : HO}
theorem ObjOk.lt (x : ObjOk P w H h a o) : a < h.objs.size := by
  cases o with
  | lst xs => obtain ⟨_, _, _, _, e⟩ := x; exact Heap.lt_size e
  | tup xs => obtain ⟨_, _, _, p⟩ := x; exact p.lt
  | dK kvs => obtain ⟨_, _, _, _, o, _, _, e, _⟩ := x; exact Heap.lt_size e
  | dT kvs => obtain ⟨_, _, _, _, o, _, _, e, _⟩ := x; exact Heap.lt_size e
  | set S n => obtain ⟨o, _, _, _, e, _⟩ := x; exact Heap.lt_size e
  | ins C dx fs => obtain ⟨_, _, _, e, _⟩ := x; exact Heap.lt_size e
  | own y => obtain ⟨_, e⟩ := x; exact Heap.lt_size e
  | xd fs => obtain ⟨_, ⟨_, _, _, e, _⟩, _⟩ := x; exact Heap.lt_size e
  | rng lo hi => obtain ⟨_, _, _, e⟩ := x; exact Heap.lt_size e
  | frz ob u => obtain ⟨e, _⟩ := x; exact Heap.lt_size e
  | tbl ps => exact Heap.lt_size (show h.get? a = some _ from x)
  | met f y => exact Heap.lt_size (show h.get? a = some _ from x)
  | ext φ => obtain ⟨_, ⟨_, e⟩, _⟩ := x; exact Heap.lt_size e
theorem Paired.mapP {α β : Type} {F G : α → β → Prop} : ∀ {l₁ : List α} {l₂ : List β}, Paired F l₁ l₂ → (∀ a b, F a b → G a b) → Paired G l₁ l₂
  | _, _, .nil, _ => .nil
  | _, _, .cons r t, f => .cons (f _ _ r) (Paired.mapP t f)
theorem ObjOk.stay (x : ObjOk P w H h a o) (k : ∀ b u, (b = a ∨ H b = some (.own a)) → h.get? b = some u → h'.get? b = some u)
    (ho : ∀ b, H b = some (.own a) → H' b = some (.own a)) (ht : ∀ b xs, H b = some (.tup xs) → H' b = some (.tup xs)) : ObjOk P w H' h' a o := by
  induction o with
  | lst xs => obtain ⟨z, its, n, r, e⟩ := x; exact ⟨z, its, n, r, k _ _ (.inl rfl) e⟩
  | tup xs => obtain ⟨z, its, r, ob, e, c⟩ := x; exact ⟨z, its, r, ob, k _ _ (.inl rfl) e, c⟩
  | dK kvs => obtain ⟨z, y, vs, r, ob, es, ep, e, c⟩ := x; exact ⟨z, y, vs, r, ob, es, ep, k _ _ (.inl rfl) e, c⟩
  | dT kvs =>
    obtain ⟨z, y, xs, r, ob, es, ep, e, c⟩ := x
    exact ⟨z, y, xs, Paired.mapP r fun p q z => ⟨z.1, ht _ _ z.2.1, z.2.2⟩, ob, es, ep, k _ _ (.inl rfl) e, c⟩
  | set S n => obtain ⟨ob, es, ep, t, e, c⟩ := x; exact ⟨ob, es, ep, t, k _ _ (.inl rfl) e, c⟩
  | ins C dx fs =>
    obtain ⟨d, z, ne, e, mA, ⟨od, es, ep, e2, c⟩, r⟩ := x
    exact ⟨ho _ d, z, ne, k _ _ (.inl rfl) e, mA, ⟨od, es, ep, k _ _ (.inr d) e2, c⟩, r⟩
  | own y => obtain ⟨ob, e⟩ := x; exact ⟨ob, k _ _ (.inl rfl) e⟩
  | xd fs => obtain ⟨mA, ⟨od, es, ep, e, c⟩, r⟩ := x; exact ⟨mA, ⟨od, es, ep, k _ _ (.inl rfl) e, c⟩, r⟩
  | rng lo hi => obtain ⟨t, u, v, e⟩ := x; exact ⟨t, u, v, k _ _ (.inl rfl) e⟩
  | frz ob u ih => obtain ⟨e, q⟩ := x; exact ⟨k _ _ (.inl rfl) e, ih q⟩
  | tbl ps =>
    have e : h.get? a = some { cls := .none, data := .fields ps } := x
    show h'.get? a = some { cls := .none, data := .fields ps }
    exact k a _ (.inl rfl) e
  | met f y =>
    have e : h.get? a = some (PySem.W.methodObj (.ref f) (.ref y)) := x
    show h'.get? a = some (PySem.W.methodObj (.ref f) (.ref y))
    exact k a _ (.inl rfl) e
  | ext φ => obtain ⟨p, ⟨o, e⟩, st⟩ := x; exact ⟨st _ _ p fun o q => k _ _ (.inl rfl) q, ⟨o, k _ _ (.inl rfl) e⟩, st⟩
theorem HOk.lt (x : HOk P w H h) (e : H a = some o) : a < h.objs.size := (x a o e).lt
theorem HOk.fresh (x : HOk P w H h) (e : h.objs.size ≤ a) : H a = none := by
  cases q : H a with
  | none => rfl
  | some u => exact absurd (Nat.lt_of_lt_of_le (x.lt q) e) (Nat.lt_irrefl _)
theorem HOk.kept (x : HOk P w H h) (k : ∀ b u, h.get? b = some u → h'.get? b = some u) : HOk P w H h' := fun a o e =>
  (x a o e).stay (fun b u _ q => k b u q) (fun _ q => q) fun _ _ q => q
theorem HOk.laid (x : HOk P w H h) (k : ∀ b u, h.get? b = some u → h'.get? b = some u) (hp : h.objs.size ≤ a) (new : ObjOk P w (upd H a o) h' a o) : HOk P w (upd H a o) h' := fun b u e => by
  have hn := x.fresh hp
  by_cases hb : b = a
  · subst hb; rw [upd_same] at e; cases e; exact new
  · rw [upd_ne hb] at e
    exact (x b u e).stay (fun c v _ q => k c v q) (fun c q => by rw [upd_ne (ne_of_none q hn)]; exact q) fun c xs q => by rw [upd_ne (ne_of_none q hn)]; exact q
end

def Rd (H : Hp) (a : Addr) (u : HO) : Prop := H a = some u ∨ ∃ o, H a = some (.frz o u)
theorem Rd.ok {P : Program} {w : World} {H : Hp} {h : Heap} {a : Addr} {u : HO} (r : Rd H a u) (x : HOk P w H h) : ObjOk P w H h a u := by
  rcases r with r | ⟨o, r⟩
  · exact x a u r
  · obtain ⟨_, q⟩ := x a _ r
    exact q
def Mut : Option HO → Prop
  | some (.lst _) => True
  | some (.dK _) => True
  | some (.dT _) => True
  | some (.set _ _) => True
  | some (.ins _ _ _) => True
  | some (.ext _) => True
  | _ => False
section
variable {P : Program} {w : World} {H : Hp} {h h' : Heap} {x e : Addr} {o' : HO}
theorem HOk.write (ok : HOk P w H h) (mu : Mut (H x)) (he : e = x ∨ H e = some (.own x)) (k : ∀ b u, b ≠ e → h.get? b = some u → h'.get? b = some u) (heo : ∃ u, h'.get? e = some u)
    (new : ObjOk P w (upd H x o') h' x o') : HOk P w (upd H x o') h' := fun b u q => by
  have nown : ∀ c y, H c = some (.own y) → c ≠ x := fun c y r z => by subst z; rw [r] at mu; exact mu
  have ntup : ∀ c xs, H c = some (.tup xs) → c ≠ x := fun c xs r z => by subst z; rw [r] at mu; exact mu
  by_cases hb : b = x
  · subst hb; rw [upd_same] at q; cases q; exact new
  · rw [upd_ne hb] at q
    by_cases hbe : b = e
    · have q' : H b = some (.own x) := by
        rcases he with z | z
        · exact absurd (hbe.trans z) hb
        · rw [hbe]; exact z
      rw [q] at q'; cases q'
      obtain ⟨v, hv⟩ := heo
      exact ⟨v, by rw [hbe]; exact hv⟩
    · refine (ok b u q).stay (fun c v hc r => k c v ?_ r) (fun c r => by rw [upd_ne (nown c b r)]; exact r) fun c xs r => by rw [upd_ne (ntup c xs r)]; exact r
      rcases hc with rfl | hc
      · exact hbe
      · rintro rfl
        rcases he with z | z
        · exact nown c b hc z
        · rw [hc] at z; cases z; exact hb rfl
end

structure Un (fs ex : List Addr) (H H' : Hp) (h h' : Heap) : Prop where
  keep : ∀ b o, h.get? b = some o → H b = none → b ∉ fs → b ∉ ex → h'.get? b = some o
  slot : ∀ b o, h.get? b = some o → H b = none → b ∈ fs → b ∉ ex → ∃ sl, h'.get? b = some { o with slots := sl }
  free : ∀ b o, h.get? b = some o → H b = none → b ∉ ex → H' b = none
  there : ∀ b o, h.get? b = some o → b ∉ ex → ∃ o', h'.get? b = some o'
  tups : ∀ b xs, H b = some (.tup xs) → H' b = some (.tup xs)
  frzs : ∀ b o u, H b = some (.frz o u) → H' b = some (.frz o u)
  tbls : ∀ b ps, H b = some (.tbl ps) → ∃ more, H' b = some (.tbl (ps ++ more))
section
variable {fs fs' ex ex' : List Addr} {H H1 H2 : Hp} {h h1 h2 h' : Heap} {a x e : Addr} {o : HO}
theorem Un.any (u : Un fs ex H H1 h h1) {b : Addr} {ob : Obj} (q : h.get? b = some ob) (n : H b = none) (hx : b ∉ ex) : ∃ sl, h1.get? b = some { ob with slots := sl } := by
  by_cases hb : b ∈ fs
  · exact u.slot b ob q n hb hx
  · exact ⟨ob.slots, u.keep b ob q n hb hx⟩
theorem Un.kept (k : ∀ b u, h.get? b = some u → h'.get? b = some u) : Un fs ex H H h h' :=
  ⟨fun b ob q _ _ _ => k b ob q, fun b ob q _ _ _ => ⟨ob.slots, k b ob q⟩, fun _ _ _ n _ => n, fun b ob q _ => ⟨ob, k b ob q⟩, fun _ _ q => q, fun _ _ _ q => q, fun _ ps q => ⟨#[], by rw [q]; simp⟩⟩
theorem Un.refl : Un fs ex H H h h := Un.kept fun _ _ q => q
theorem Un.laid (k : ∀ b u, h.get? b = some u → h'.get? b = some u) (hp : h.objs.size ≤ a) (hn : H a = none) : Un fs ex H (upd H a o) h h' where
  keep := fun b u q _ _ _ => k b u q
  slot := fun b u q _ _ _ => ⟨u.slots, k b u q⟩
  free := fun b u q n _ => by rw [upd_ne (Nat.ne_of_lt (Nat.lt_of_lt_of_le (Heap.lt_size q) hp))]; exact n
  there := fun b u q _ => ⟨u, k b u q⟩
  tups := fun b xs q => by rw [upd_ne (ne_of_none q hn)]; exact q
  frzs := fun b u xs q => by rw [upd_ne (ne_of_none q hn)]; exact q
  tbls := fun b ps q => ⟨#[], by rw [upd_ne (ne_of_none q hn), q]; simp⟩
theorem Un.write (mu : Mut (H x)) (he : e = x ∨ H e = some (.own x)) (k : ∀ b u, b ≠ e → h.get? b = some u → h'.get? b = some u) (heo : ∃ u, h'.get? e = some u) : Un fs ex H (upd H x o) h h' := by
  have hx : ∀ b, H b = none → b ≠ x := fun b n z => by subst z; rw [n] at mu; exact mu
  have hb : ∀ b, H b = none → b ≠ e := fun b n z => by
    subst z
    rcases he with r | r
    · exact hx b n r
    · rw [n] at r; cases r
  have hm : ∀ b u, H b = some u → ¬ Mut (some u) → b ≠ x := fun b u q nm z => by subst z; rw [q] at mu; exact nm mu
  refine ⟨fun b u q n _ _ => k b u (hb b n) q, fun b u q n _ _ => ⟨u.slots, k b u (hb b n) q⟩, fun b u q n _ => by rw [upd_ne (hx b n)]; exact n, fun b u q _ => ?_,
    fun b xs q => by rw [upd_ne (hm b _ q fun z => z)]; exact q, fun b u xs q => by rw [upd_ne (hm b _ q fun z => z)]; exact q, fun b ps q => ⟨#[], by rw [upd_ne (hm b _ q fun z => z), q]; simp⟩⟩
  by_cases hbe : b = e
  · subst hbe; exact heo
  · exact ⟨u, k b u hbe q⟩
end

def trk (h : Heap) (H : Hp) : List Addr := (List.range h.objs.size).filter fun a => (H a).isSome
def hidT (h : Heap) (H : Hp) : Heap := PySem.W.hideAll h (trk h H)
theorem hidT_size (h : Heap) (H : Hp) : (hidT h H).objs.size = h.objs.size := PySem.W.hideAll_size _ _
theorem hidT_get {h : Heap} {H : Hp} {b : Addr} {o : Obj} (e : h.get? b = some o) (n : H b = none) : (hidT h H).get? b = some o :=
  PySem.W.hideAll_get _ e fun hm => by
    have q : (H b).isSome = true := (List.mem_filter.mp hm).2
    rw [n] at q; simp at q
theorem of_hidT {h : Heap} {H : Hp} {b : Addr} {o : Obj} (e : (hidT h H).get? b = some o) : h.get? b = some o ∧ H b = none := by
  have e' : h.get? b = some o := PySem.W.of_hideAll (trk h H) e
  refine ⟨e', ?_⟩
  cases q : H b with
  | none => rfl
  | some x =>
    have hm : b ∈ trk h H := List.mem_filter.mpr ⟨List.mem_range.mpr (Heap.lt_size e'), by simp [q]⟩
    have z : (hidT h H).get? b = none := PySem.W.hideAll_none (trk h H) hm
    rw [z] at e; cases e

end L2

namespace L2
open PySem PySem.Spec PyProof.Rows

structure Mod (K : PySem.W.Frag) (mg : Str → Option Value) (base : Heap) : Prop where
  kin : K.In base
  glob : base.Ns mainGlobals mg
  blt : ∃ mb, base.Ns builtinsNs mb ∧ ∀ x : Str, x ≠ "__name__" → mb x = bootBuiltins x
  nolimit : base.NoLimit

/-- the context: a def's body (or a comprehension's block) running. base: fixed through the whole law; s₀, H₀: the entry; outer: the frames whose slots others may change (a def's callers); stack: all frames that run;
   ex: iterators that were made ahead of the entry and are walked here (a comprehension's); fn: the names whose cells were made at the entry (a def: all; a comprehension's block: its own); calm: not within an except suite; pn: pins that every state bears; xe: what is wanted of an exception that leaves the code -/
structure Cx where
  prog : Program
  w : World
  K : PySem.W.Frag
  mg : Str → Option Value
  base : Heap
  A : Around
  N : List Str
  s₀ : Shared
  H₀ : Hp
  env : Env
  outer : List Env
  stack : List Env
  ex : List Addr
  fn : Str → Bool
  calm : Bool
  pn : List (Addr × Obj)
  xe : Value → Shared → Prop
def frs (l : List Env) : List Addr := l.filterMap (·.frame)
abbrev Cx.fs (X : Cx) : List Addr := frs X.outer

def Vis (sc : Scope) (x : Str) : Prop := sc.names.lookup x = some .local ∨ sc.names.lookup x = some .cell ∨ sc.names.lookup x = some .free
def Loc (sc : Scope) (x : Str) : Prop := sc.names.lookup x = some .local ∨ sc.names.lookup x = some .cell
def Look (env : Env) (h : Heap) (m : Str → Option Value) (x : Str) (u : Value) : Prop :=
  (env.kindOf x = some .local ∧ m x = some u) ∨ ((env.kindOf x = some .cell ∨ env.kindOf x = some .free) ∧ ∃ c, env.cells.lookup x = some c ∧ h.IsCell c (some u))

structure Cx.Ok (X : Cx) : Prop where
  mod : Mod X.K X.mg X.base
  kind : X.env.scope.kind = .function
  glob : X.env.globals = mainGlobals
  blt : X.env.builtins = builtinsNs
  above : X.s₀.heap.objs.size ≤ X.env.locals
  inj : ∀ x y c, X.env.cells.lookup x = some c → X.env.cells.lookup y = some c → x = y
  has : ∀ x, (X.env.kindOf x = some .cell ∨ X.env.kindOf x = some .free) → ∃ c, X.env.cells.lookup x = some c
  cab : ∀ x c, X.fn x = true → X.env.cells.lookup x = some c → X.s₀.heap.objs.size ≤ c
  hd : X.calm = true → X.A.handled = none
  frames : X.A.frames = some X.stack
  stk : X.stack = X.outer ∨ (X.stack = X.env :: X.outer ∧ X.env.frame = some X.env.locals)
  exf : ∀ b ∈ X.ex, b ≠ X.env.locals ∧ ∀ x c, X.env.cells.lookup x = some c → c ≠ b
  bs : ∀ b o, X.base.get? b = some o → X.s₀.heap.get? b = some o ∧ X.H₀ b = none
  bsz : X.base.objs.size ≤ X.s₀.heap.objs.size
  noex : ∀ b o, X.base.get? b = some o → b ∉ X.ex
  exfs : ∀ b ∈ X.ex, b ∉ X.fs
  funs : X.s₀.heap.FunFrames X.base X.outer
  frf : ∀ b ∈ X.fs, X.H₀ b = none

structure Inv (X : Cx) (pins : List (Addr × Obj)) (σ : List (Option V)) (H : Hp) (s : Shared) : Prop where
  ok : X.Ok
  os : s.os = X.s₀.os
  bare : AllBare s.gens
  base : Un X.fs X.ex X.H₀ H X.s₀.heap s.heap
  loc : ∃ m, s.heap.Ns X.env.locals m ∧ ∀ (i : Nat) (x : Str) (v : V), X.N[i]? = some x → σ[i]? = some (some v) → Vis X.env.scope x → ∃ u, RelV v u ∧ Look X.env s.heap m x u
  cell : ∀ x c, X.env.cells.lookup x = some c → ∃ v, s.heap.IsCell c v
  free : H X.env.locals = none
  freeC : ∀ x c, X.env.cells.lookup x = some c → H c = none
  pin : ∀ p ∈ X.pn ++ pins, s.heap.get? p.1 = some p.2 ∧ H p.1 = none ∧ p.1 ≠ X.env.locals ∧ p.1 ∉ X.fs ∧ ∀ v, p.2.data ≠ .cell v
  hok : HOk X.prog X.w H s.heap
  len : σ.length = X.N.length

section
variable {X : Cx} {pins : List (Addr × Obj)} {σ : List (Option V)} {H H' : Hp} {s : Shared} {h' : Heap}

theorem Cx.Ok.nofr (ok : X.Ok) {b : Addr} {o : Obj} (e : X.base.get? b = some o) : b ∉ X.fs := fun hb => by
  have := (ok.funs.mem hb).1
  rw [e] at this; cases this
theorem Inv.bs (I : Inv X pins σ H s) : ∀ b o, X.base.get? b = some o → s.heap.get? b = some o ∧ H b = none := fun b o e =>
  ⟨I.base.keep b o (I.ok.bs b o e).1 (I.ok.bs b o e).2 (I.ok.nofr e) (I.ok.noex b o e), I.base.free b o (I.ok.bs b o e).1 (I.ok.bs b o e).2 (I.ok.noex b o e)⟩
theorem Inv.bk (I : Inv X pins σ H s) : ∀ b o, X.base.get? b = some o → s.heap.get? b = some o := fun b o e => (I.bs b o e).1
theorem Inv.mod (I : Inv X pins σ H s) : Mod X.K X.mg X.base := I.ok.mod
theorem Inv.kIn (I : Inv X pins σ H s) : X.K.In s.heap := I.ok.mod.kin.keeps I.bk
theorem Inv.lt (I : Inv X pins σ H s) : X.env.locals < s.heap.objs.size := let ⟨_, hn, _⟩ := I.loc; hn.lt
theorem Inv.sz (I : Inv X pins σ H s) : X.s₀.heap.objs.size ≤ s.heap.objs.size := Nat.le_trans I.ok.above (Nat.le_of_lt I.lt)
theorem Inv.nofs (I : Inv X pins σ H s) {a : Addr} (h : s.heap.objs.size ≤ a) : a ∉ X.fs := fun hb => by
  obtain ⟨_, o, ho, _⟩ := I.ok.funs.mem hb
  exact absurd (Nat.lt_of_lt_of_le (Heap.lt_size ho) (Nat.le_trans I.sz h)) (Nat.lt_irrefl _)
theorem Inv.cne (I : Inv X pins σ H s) : ∀ x c, X.env.cells.lookup x = some c → c ≠ X.env.locals := fun x c e z => by
  obtain ⟨v, o, ho, hd⟩ := I.cell x c e
  obtain ⟨m, ⟨o', es, ep, ho', hd', _⟩, _⟩ := I.loc
  rw [z, ho'] at ho; cases ho; rw [hd'] at hd; cases hd
theorem Inv.funs (I : Inv X pins σ H s) : s.heap.FunFrames X.base X.outer := by
  have all : ∀ (l : List Env), (∀ b ∈ frs l, b ∈ X.fs) → X.s₀.heap.FunFrames X.base l → s.heap.FunFrames X.base l := by
    intro l
    induction l with
    | nil => intro _ _; trivial
    | cons env r ih =>
      intro hs hl
      obtain ⟨hk, ⟨L, o, hf, hn, ho, hd⟩, hr⟩ := hl
      have hL : L ∈ X.fs := hs L (by unfold frs; rw [List.filterMap_cons, hf]; exact List.mem_cons_self)
      obtain ⟨sl, e⟩ := I.base.slot L o ho (I.ok.frf L hL) hL fun z => I.ok.exfs L z hL
      exact ⟨hk, ⟨L, _, hf, hn, e, hd⟩, ih (fun b hb => hs b (by unfold frs; rw [List.filterMap_cons, hf]; exact List.mem_cons_of_mem _ hb)) hr⟩
  exact all X.outer (fun _ hb => hb) I.ok.funs

theorem Inv.stack (I : Inv X pins σ H s) : s.heap.FunFrames X.base X.stack := by
  rcases I.ok.stk with e | ⟨e, hf⟩
  · rw [e]; exact I.funs
  · rw [e]
    obtain ⟨m, hn, _⟩ := I.loc
    refine .cons (by rw [I.ok.kind]; decide) hf hn ?_ I.funs
    exact Heap.get?_none_of_le (Nat.le_trans I.ok.bsz I.ok.above)
theorem Inv.stkSub (I : Inv X pins σ H s) : ∀ b ∈ frs X.stack, b ∈ X.env.locals :: X.fs := fun b hb => by
  rcases I.ok.stk with e | ⟨e, hf⟩
  · rw [e] at hb; exact List.mem_cons_of_mem _ hb
  · rw [e] at hb
    unfold frs at hb
    rw [List.filterMap_cons, hf] at hb
    exact hb
theorem Inv.stkFree (I : Inv X pins σ H s) : ∀ b ∈ frs X.stack, H b = none := fun b hb => by
  rcases List.mem_cons.mp (I.stkSub b hb) with e | hb
  · rw [e]; exact I.free
  · obtain ⟨_, o, ho, _⟩ := I.ok.funs.mem hb
    exact I.base.free b o ho (I.ok.frf b hb) fun z => I.ok.exfs b z hb

theorem Inv.step {g' : Array GenState} {t' : Nat} {d' : Drawn} {ch : List Addr} (I : Inv X pins σ H s)
    (hch : ∀ b ∈ ch, (b ∈ X.ex ∨ X.s₀.heap.objs.size ≤ b) ∧ b ≠ X.env.locals ∧ (∀ x c, X.env.cells.lookup x = some c → c ≠ b) ∧ ∀ p ∈ X.pn ++ pins, p.1 ≠ b)
    (keep : ∀ b o, b ≠ X.env.locals → b ∉ X.fs → b ∉ ch → s.heap.get? b = some o → H b = none → h'.get? b = some o)
    (slot : ∀ b o, b ≠ X.env.locals → b ∈ X.fs → b ∉ ch → s.heap.get? b = some o → H b = none → ∃ sl, h'.get? b = some { o with slots := sl }) (free : ∀ b o, b ∉ ch → s.heap.get? b = some o → H b = none → H' b = none)
    (there : ∀ b o, b ∉ ch → s.heap.get? b = some o → ∃ o', h'.get? b = some o')
    (tups : ∀ b xs, H b = some (.tup xs) → H' b = some (.tup xs)) (frzs : ∀ b o u, H b = some (.frz o u) → H' b = some (.frz o u)) (tbls : ∀ b ps, H b = some (.tbl ps) → ∃ more, H' b = some (.tbl (ps ++ more)))
    (ns : ∀ m, s.heap.Ns X.env.locals m → h'.Ns X.env.locals m) (hok : HOk X.prog X.w H' h') (hg : AllBare g') :
    Inv X pins σ H' { s with heap := h', gens := g', drawn := d', toks := t' } := by
  have neL : ∀ b o, X.s₀.heap.get? b = some o → b ≠ X.env.locals := fun b o e => Nat.ne_of_lt (Nat.lt_of_lt_of_le (Heap.lt_size e) I.ok.above)
  have neC : ∀ b o, X.s₀.heap.get? b = some o → b ∉ X.ex → b ∉ ch := fun b o e hx hb => by
    rcases (hch b hb).1 with z | z
    · exact hx z
    · exact absurd (Nat.lt_of_lt_of_le (Heap.lt_size e) z) (Nat.lt_irrefl _)
  have cellK : ∀ x c, X.env.cells.lookup x = some c → ∀ v, s.heap.IsCell c v → h'.IsCell c v := fun x c e v ⟨o, ho, hd⟩ => by
    have nch : c ∉ ch := fun z => (hch c z).2.2.1 x c e rfl
    by_cases hc : c ∈ X.fs
    · obtain ⟨sl, q⟩ := slot c o (I.cne x c e) hc nch ho (I.freeC x c e)
      exact ⟨_, q, hd⟩
    · exact ⟨o, keep c o (I.cne x c e) hc nch ho (I.freeC x c e), hd⟩
  refine ⟨I.ok, I.os, hg, ⟨fun b o e n hb hx => ?_, fun b o e n hb hx => ?_, fun b o e n hx => ?_, fun b o e hx => ?_, fun b xs e => tups b xs (I.base.tups b xs e), fun b o xs e => frzs b o xs (I.base.frzs b o xs e), fun b ps e => ?_⟩, ?_, fun x c e => ?_, ?_, fun x c e => ?_, fun p hp => ?_, hok, I.len⟩
  · exact keep b o (neL b o e) hb (neC b o e hx) (I.base.keep b o e n hb hx) (I.base.free b o e n hx)
  · obtain ⟨sl, e1⟩ := I.base.slot b o e n hb hx
    obtain ⟨sl', e2⟩ := slot b _ (neL b o e) hb (neC b o e hx) e1 (I.base.free b o e n hx)
    exact ⟨sl', e2⟩
  · obtain ⟨o', e1⟩ := I.base.there b o e hx
    exact free b o' (neC b o e hx) e1 (I.base.free b o e n hx)
  · obtain ⟨o', e1⟩ := I.base.there b o e hx
    exact there b o' (neC b o e hx) e1
  · obtain ⟨m1, e1⟩ := I.base.tbls b ps e
    obtain ⟨m2, e2⟩ := tbls b _ e1
    exact ⟨m1 ++ m2, by rw [e2, Array.append_assoc]⟩
  · obtain ⟨m, hn, hl⟩ := I.loc
    refine ⟨m, ns m hn, fun i x v e1 e2 e3 => ?_⟩
    obtain ⟨u, r, l⟩ := hl i x v e1 e2 e3
    refine ⟨u, r, ?_⟩
    rcases l with l | ⟨k, c, e, z⟩
    · exact .inl l
    · exact .inr ⟨k, c, e, cellK x c e _ z⟩
  · obtain ⟨v, z⟩ := I.cell x c e
    exact ⟨v, cellK x c e v z⟩
  · obtain ⟨m, ⟨o, _, _, ho, _⟩, _⟩ := I.loc
    exact free _ o (fun z => (hch _ z).2.1 rfl) ho I.free
  · obtain ⟨v, o, ho, hd⟩ := I.cell x c e
    exact free c o (fun z => (hch c z).2.2.1 x c e rfl) ho (I.freeC x c e)
  · obtain ⟨e, n, ne, nf, d⟩ := I.pin p hp
    have nch : p.1 ∉ ch := fun z => (hch p.1 z).2.2.2 p hp rfl
    exact ⟨keep p.1 p.2 ne nf nch e n, free p.1 p.2 nch e n, ne, nf, d⟩
theorem Inv.un {t' : Nat} (I : Inv X pins σ H s) (u : Un X.fs [] H H' s.heap h') (hok : HOk X.prog X.w H' h') : Inv X pins σ H' { s with heap := h', toks := t' } := by
  obtain ⟨m, ⟨o, es, ep, ho, r⟩, _⟩ := id I.loc
  obtain ⟨sl, hL⟩ := u.any ho I.free (by simp)
  exact I.step (g' := s.gens) (d' := s.drawn) (ch := []) (fun _ z => nomatch z) (fun b o _ hb _ e n => u.keep b o e n hb (by simp)) (fun b o _ hb _ e n => u.slot b o e n hb (by simp)) (fun b o _ e n => u.free b o e n (by simp)) (fun b o _ e => u.there b o e (by simp)) u.tups u.frzs u.tbls (fun m' hm => by
    obtain ⟨o', es', ep', ho', r'⟩ := hm
    rw [ho] at ho'; cases ho'
    exact ⟨_, es', ep', hL, r'⟩) hok I.bare
theorem Inv.call {g' : Array GenState} {t' : Nat} {d' : Drawn} {ch : List Addr} (I : Inv X pins σ H s) (u : Un (frs X.stack) ch H H' s.heap h') (hok : HOk X.prog X.w H' h') (hg : AllBare g')
    (hch : ∀ b ∈ ch, (b ∈ X.ex ∨ X.s₀.heap.objs.size ≤ b) ∧ b ≠ X.env.locals ∧ (∀ x c, X.env.cells.lookup x = some c → c ≠ b) ∧ ∀ p ∈ X.pn ++ pins, p.1 ≠ b) :
    Inv X pins σ H' { s with heap := h', gens := g', drawn := d', toks := t' } := by
  obtain ⟨m, ⟨o, es, ep, ho, r⟩, _⟩ := id I.loc
  obtain ⟨sl, hL⟩ := u.any ho I.free fun z => (hch _ z).2.1 rfl
  exact I.step (ch := ch) hch (fun b o hL hb hc e n => u.keep b o e n (fun z => (List.mem_cons.mp (I.stkSub b z)).elim hL hb) hc) (fun b o _ _ hc e n => u.any e n hc) (fun b o hc e n => u.free b o e n hc) (fun b o hc e => u.there b o e hc) u.tups u.frzs u.tbls (fun m' hm => by
    obtain ⟨o', es', ep', ho', r'⟩ := hm
    rw [ho] at ho'; cases ho'
    exact ⟨_, es', ep', hL, r'⟩) hok hg
theorem Inv.turned {t' : Nat} {it : Addr} (I : Inv X pins σ H s) (k : ∀ b o, b ≠ it → s.heap.get? b = some o → h'.get? b = some o) (hn : H it = none) (hL : it ≠ X.env.locals)
    (h1 : it ∈ X.ex ∨ X.s₀.heap.objs.size ≤ it) (h2 : ∀ x c, X.env.cells.lookup x = some c → c ≠ it) (h3 : ∀ p ∈ X.pn ++ pins, p.1 ≠ it) : Inv X pins σ H { s with heap := h', toks := t' } := by
  have nit : ∀ b u, H b = some u → b ≠ it := fun b u e z => by rw [z, hn] at e; cases e
  refine I.step (g' := s.gens) (d' := s.drawn) (ch := [it]) (fun b hb => ?_) (fun b o _ _ hc e _ => k b o (fun z => hc (by simp [z])) e) (fun b o _ _ hc e _ => ⟨o.slots, k b o (fun z => hc (by simp [z])) e⟩) (fun _ _ _ _ n => n)
    (fun b o hc e => ⟨o, k b o (fun z => hc (by simp [z])) e⟩) (fun _ _ e => e) (fun _ _ _ e => e) (fun b ps e => ⟨#[], by rw [e]; simp⟩) (fun m hm => ?_) (fun b u e => ?_) I.bare
  · have e : b = it := by simpa using hb
    subst e
    exact ⟨h1, hL, h2, h3⟩
  · obtain ⟨o, es, ep, ho, r⟩ := hm
    exact ⟨o, es, ep, k _ o (Ne.symm hL) ho, r⟩
  · refine (I.hok b u e).stay (fun c v hc q => k c v ?_ q) (fun _ q => q) fun _ _ q => q
    rcases hc with z | z
    · rw [z]; exact nit b u e
    · exact nit c _ z
theorem Inv.tok (I : Inv X pins σ H s) (t : Nat) : Inv X pins σ H { s with toks := t } := I.un (h' := s.heap) (t' := t) Un.refl I.hok
theorem Inv.kept {t' : Nat} (I : Inv X pins σ H s) (k : ∀ b u, s.heap.get? b = some u → h'.get? b = some u) : Inv X pins σ H { s with heap := h', toks := t' } := I.un (Un.kept k) (I.hok.kept k)
theorem Inv.laid {a : Addr} {o : HO} {t' : Nat} (I : Inv X pins σ H s) (k : ∀ b u, s.heap.get? b = some u → h'.get? b = some u) (hp : s.heap.objs.size ≤ a) (new : ObjOk X.prog X.w (upd H a o) h' a o) :
    Inv X pins σ (upd H a o) { s with heap := h', toks := t' } := I.un (Un.laid k hp (I.hok.fresh hp)) (I.hok.laid k hp new)
theorem Inv.write {x e : Addr} {o : HO} {t' : Nat} (I : Inv X pins σ H s) (mu : Mut (H x)) (he : e = x ∨ H e = some (.own x)) (k : ∀ b u, b ≠ e → s.heap.get? b = some u → h'.get? b = some u) (heo : ∃ u, h'.get? e = some u)
    (new : ObjOk X.prog X.w (upd H x o) h' x o) : Inv X pins σ (upd H x o) { s with heap := h', toks := t' } := I.un (Un.write mu he k heo) (I.hok.write mu he k heo new)
theorem Inv.pins_of {pins' : List (Addr × Obj)} (I : Inv X pins σ H s) (h : ∀ p ∈ pins', s.heap.get? p.1 = some p.2 ∧ H p.1 = none ∧ p.1 ≠ X.env.locals ∧ p.1 ∉ X.fs ∧ ∀ v, p.2.data ≠ .cell v) : Inv X pins' σ H s :=
  ⟨I.ok, I.os, I.bare, I.base, I.loc, I.cell, I.free, I.freeC, fun p hp => (List.mem_append.mp hp).elim (fun z => I.pin p (List.mem_append_left _ z)) (h p), I.hok, I.len⟩

theorem nodup_ix {N : List Str} (hN : N.Nodup) {i j : Nat} {x : Str} (a : N[i]? = some x) (b : N[j]? = some x) : i = j := by
  obtain ⟨h1, e1⟩ := List.getElem?_eq_some_iff.mp a
  obtain ⟨h2, e2⟩ := List.getElem?_eq_some_iff.mp b
  exact (List.getElem_inj hN).mp (e1.trans e2.symm)

theorem store_ok2 {M : Model} {A : Around} {E : Value → Shared → Prop} {i : Nat} {x : Str} {v : V} {u : Value} {Q : Unit → Shared → Prop} (I : Inv X pins σ H s) (hN : X.N.Nodup) (hi : X.N[i]? = some x) (hx : Loc X.env.scope x) (r : RelV v u)
    (h : ∀ s', Inv X pins (σ.set i (some v)) H s' → (∃ a, Heap.SameBut a s.heap s'.heap ∧ (a = X.env.locals ∨ X.env.cells.lookup x = some a)) → Q () s') (hf : X.fn x = true ∨ X.env.scope.names.lookup x = some .local := by first | exact .inl rfl | exact .inr rfl | assumption) : wpAny M A (storeName X.env x u) Q E s := by
  obtain ⟨m, hn, hl⟩ := id I.loc
  have hcls : (X.env.scope.kind == .class || (X.env.scope.kind == .module && X.env.locals != X.env.globals)) = false := by rw [I.ok.kind]; rfl
  have hiσ : i < σ.length := by rw [I.len]; exact (List.getElem?_eq_some_iff.mp hi).1
  have cne := I.cne
  have tracked : ∀ {a : Addr} {h' : Heap}, (∃ o, s.heap.get? a = some o ∧ H a = none) → Heap.SameBut a s.heap h' → HOk X.prog X.w H h' := fun {a h'} ha hs b ob e => by
    obtain ⟨_, _, hfree⟩ := ha
    refine (I.hok b ob e).stay (fun c w' hc q => (hs.2 c ?_).trans q) (fun _ q => q) fun _ _ q => q
    rintro rfl
    rcases hc with rfl | hc
    · rw [hfree] at e; cases e
    · rw [hfree] at hc; cases hc
  rcases hx with hk | hk
  · refine wpAny_storeName_local hk hn (fun h' hn' hs => ?_) hcls
    obtain ⟨oL, _, _, hoL, _⟩ := id hn
    refine h _ ⟨I.ok, I.os, I.bare, ⟨fun b o e n hb hx => ?_, fun b o e n hb hx => ?_, I.base.free, fun b o e hx => ?_, I.base.tups, I.base.frzs, I.base.tbls⟩, ⟨_, hn', fun j y v' e1 e2 e3 => ?_⟩, fun y c e => ?_, I.free, I.freeC, fun p hp => ?_, tracked ⟨oL, hoL, I.free⟩ hs, by simpa using I.len⟩ ⟨_, hs, .inl rfl⟩
    · exact (hs.2 b (Nat.ne_of_lt (Nat.lt_of_lt_of_le (Heap.lt_size e) I.ok.above))).trans (I.base.keep b o e n hb hx)
    · obtain ⟨sl, e1⟩ := I.base.slot b o e n hb hx
      exact ⟨sl, (hs.2 b (Nat.ne_of_lt (Nat.lt_of_lt_of_le (Heap.lt_size e) I.ok.above))).trans e1⟩
    · obtain ⟨o', e1⟩ := I.base.there b o e hx
      exact ⟨o', (hs.2 b (Nat.ne_of_lt (Nat.lt_of_lt_of_le (Heap.lt_size e) I.ok.above))).trans e1⟩
    · by_cases hj : j = i
      · subst hj
        rw [hi] at e1; cases e1
        rw [List.getElem?_set_self hiσ] at e2
        cases e2
        exact ⟨u, r, .inl ⟨hk, by simp⟩⟩
      · rw [List.getElem?_set_ne (Ne.symm hj)] at e2
        obtain ⟨u', r', q⟩ := hl j y v' e1 e2 e3
        refine ⟨u', r', ?_⟩
        rcases q with ⟨k, e⟩ | ⟨k, c, e, z⟩
        · refine .inl ⟨k, ?_⟩
          have : y ≠ x := fun e => hj (nodup_ix hN e1 (e ▸ hi))
          simp [this, e]
        · exact .inr ⟨k, c, e, z.sameBut hs (cne y c e)⟩
    · obtain ⟨w', z⟩ := I.cell y c e
      exact ⟨w', z.sameBut hs (cne y c e)⟩
    · obtain ⟨e, n, ne, nf, d⟩ := I.pin p hp
      exact ⟨(hs.2 p.1 ne).trans e, n, ne, nf, d⟩
  · have hfn : X.fn x = true := by
      rcases hf with z | z
      · exact z
      · rw [z] at hk; cases hk
    obtain ⟨c, hc⟩ := I.ok.has x (.inl hk)
    obtain ⟨w', z⟩ := I.cell x c hc
    refine wpAny_storeName_cell I.ok.kind hk hc z (fun h' hc' hs => ?_)
    obtain ⟨oc, hoc, hocd⟩ := id z
    refine h { s with heap := h' } ⟨I.ok, I.os, I.bare, ⟨fun b o e n hb hx => ?_, fun b o e n hb hx => ?_, I.base.free, fun b o e hx => ?_, I.base.tups, I.base.frzs, I.base.tbls⟩, ⟨m, hn.sameBut hs (Ne.symm (cne x c hc)), fun j y v' e1 e2 e3 => ?_⟩, fun y c' e => ?_, I.free, I.freeC, fun p hp => ?_, tracked ⟨oc, hoc, I.freeC x c hc⟩ hs, by simpa using I.len⟩ ⟨c, hs, .inr hc⟩
    · exact (hs.2 b (Nat.ne_of_lt (Nat.lt_of_lt_of_le (Heap.lt_size e) (I.ok.cab x c hfn hc)))).trans (I.base.keep b o e n hb hx)
    · obtain ⟨sl, e1⟩ := I.base.slot b o e n hb hx
      exact ⟨sl, (hs.2 b (Nat.ne_of_lt (Nat.lt_of_lt_of_le (Heap.lt_size e) (I.ok.cab x c hfn hc)))).trans e1⟩
    · obtain ⟨o', e1⟩ := I.base.there b o e hx
      exact ⟨o', (hs.2 b (Nat.ne_of_lt (Nat.lt_of_lt_of_le (Heap.lt_size e) (I.ok.cab x c hfn hc)))).trans e1⟩
    · by_cases hj : j = i
      · subst hj
        rw [hi] at e1; cases e1
        rw [List.getElem?_set_self hiσ] at e2
        cases e2
        exact ⟨u, r, .inr ⟨.inl hk, c, hc, hc'⟩⟩
      · rw [List.getElem?_set_ne (Ne.symm hj)] at e2
        obtain ⟨u', r', q⟩ := hl j y v' e1 e2 e3
        refine ⟨u', r', ?_⟩
        rcases q with q | ⟨k, c', e, z'⟩
        · exact .inl q
        · refine .inr ⟨k, c', e, z'.sameBut hs ?_⟩
          rintro rfl
          exact hj (nodup_ix hN e1 (I.ok.inj _ _ _ e hc ▸ hi))
    · by_cases hcc : c' = c
      · subst hcc; exact ⟨_, hc'⟩
      · obtain ⟨w2, z2⟩ := I.cell y c' e
        exact ⟨w2, z2.sameBut hs hcc⟩
    · obtain ⟨e, n, ne, nf, d⟩ := I.pin p hp
      refine ⟨(hs.2 p.1 ?_).trans e, n, ne, nf, d⟩
      intro q
      rw [q, hoc] at e
      have q' : oc = p.2 := Option.some.inj e
      exact d w' (by rw [← q']; exact hocd)
theorem store_ok {M : Model} {A : Around} {E : Value → Shared → Prop} {i : Nat} {x : Str} {v : V} {u : Value} {Q : Unit → Shared → Prop} (I : Inv X pins σ H s) (hN : X.N.Nodup) (hi : X.N[i]? = some x) (hx : Loc X.env.scope x) (r : RelV v u)
    (h : ∀ s', Inv X pins (σ.set i (some v)) H s' → Q () s') (hf : X.fn x = true ∨ X.env.scope.names.lookup x = some .local := by first | exact .inl rfl | exact .inr rfl | assumption) : wpAny M A (storeName X.env x u) Q E s :=
  store_ok2 I hN hi hx r (fun s' I' _ => h s' I') hf
theorem Inv.call' {s' : Shared} {ch : List Addr} (I : Inv X pins σ H s) (ho : s'.os = s.os) (u : Un (frs X.stack) ch H H' s.heap s'.heap) (hok : HOk X.prog X.w H' s'.heap) (hg : AllBare s'.gens)
    (hch : ∀ b ∈ ch, (b ∈ X.ex ∨ X.s₀.heap.objs.size ≤ b) ∧ b ≠ X.env.locals ∧ (∀ x c, X.env.cells.lookup x = some c → c ≠ b) ∧ ∀ p ∈ X.pn ++ pins, p.1 ≠ b) : Inv X pins σ H' s' := by
  obtain ⟨h', g', d', t', o'⟩ := s'
  have e : o' = s.os := ho
  subst e
  exact I.call (g' := g') (t' := t') (d' := d') u hok hg hch
end

abbrev XK := Value → Option Addr → Hp → Prop
abbrev St := List (Option V)
abbrev VK := V → Hp → Prop
abbrev TE := St → Hp → VK → Prop
abbrev TT := St → Hp → (Bool → Hp → Prop) → Prop
abbrev TA := St → Hp → (List V → Hp → Prop) → Prop
structure Ends where
  nx : St → Hp → Prop
  rt : VK
  bk : St → Hp → Prop := fun _ _ => False
  ct : St → Hp → Prop := fun _ _ => False
abbrev TS := Ends → St → Hp → Prop

def EP (X : Cx) (pins : List (Addr × Obj)) (σ : St) (Q : VK) (u : Value) (s' : Shared) : Prop := ∃ v H', Inv X pins σ H' s' ∧ RelV v u ∧ Q v H'
def TP (X : Cx) (pins : List (Addr × Obj)) (σ : St) (Q : Bool → Hp → Prop) (b : Bool) (s' : Shared) : Prop := ∃ H', Inv X pins σ H' s' ∧ Q b H'
def AP (X : Cx) (pins : List (Addr × Obj)) (σ : St) (Q : List V → Hp → Prop) (us : List Value) (s' : Shared) : Prop := ∃ vs H', Inv X pins σ H' s' ∧ Vals vs us ∧ Q vs H'
def SP (X : Cx) (pins : List (Addr × Obj)) (D : Ends) (f : Flow) (s' : Shared) : Prop :=
  match f with
  | .next => ∃ σ' H', Inv X pins σ' H' s' ∧ D.nx σ' H'
  | .brk => ∃ σ' H', Inv X pins σ' H' s' ∧ D.bk σ' H'
  | .cont => ∃ σ' H', Inv X pins σ' H' s' ∧ D.ct σ' H'
  | .ret u => ∃ v σ' H', Inv X pins σ' H' s' ∧ RelV v u ∧ D.rt v H'

def PE (X : Cx) (e : Expr) (t : TE) : Prop :=
  ∀ (pins : List (Addr × Obj)) (s : Shared) (σ : St) (H : Hp) (Q : VK), Inv X pins σ H s → t σ H Q → wpAny (model X.prog X.w) X.A (eval e X.env) (EP X pins σ Q) X.xe s
def PT (X : Cx) (e : Expr) (t : TT) : Prop :=
  ∀ (pins : List (Addr × Obj)) (s : Shared) (σ : St) (H : Hp) (Q : Bool → Hp → Prop), Inv X pins σ H s → t σ H Q → wpAny (model X.prog X.w) X.A (isTrue e X.env (eval e X.env)) (TP X pins σ Q) X.xe s
def PW (X : Cx) (e : Expr) (t : TT) : Prop :=
  ∀ (whole : Sem Value) (pins : List (Addr × Obj)) (s : Shared) (σ : St) (H : Hp) (Q : Bool → Hp → Prop), Inv X pins σ H s → t σ H Q → wpAny (model X.prog X.w) X.A (isTrue e X.env whole) (TP X pins σ Q) X.xe s
theorem PW.pt {X : Cx} {e : Expr} {t : TT} (h : PW X e t) : PT X e t := h _
def PA (X : Cx) (es : List Expr) (t : TA) : Prop :=
  ∀ (pos : Pos) (pins : List (Addr × Obj)) (s : Shared) (σ : St) (H : Hp) (Q : List V → Hp → Prop), Inv X pins σ H s → t σ H Q → wpAny (model X.prog X.w) X.A (spliced (backTo pos (starEach es X.env))) (AP X pins σ Q) X.xe s
def PS (X : Cx) (st : Stmt) (t : TS) : Prop :=
  ∀ (pins : List (Addr × Obj)) (s : Shared) (σ : St) (H : Hp) (D : Ends), Inv X pins σ H s → t D σ H → wpAny (model X.prog X.w) X.A (exec st X.env) (SP X pins D) X.xe s
def PSs (X : Cx) (st : List Stmt) (t : TS) : Prop :=
  ∀ (pins : List (Addr × Obj)) (s : Shared) (σ : St) (H : Hp) (D : Ends), Inv X pins σ H s → t D σ H → wpAny (model X.prog X.w) X.A (execs st X.env) (SP X pins D) X.xe s
theorem thn {α : Type} {t : Sem α} {Q Q' : α → Shared → Prop} {M : Model} {A : Around} {E : Value → Shared → Prop} {s : Shared} (h : wpAny M A t Q E s) (hQ : ∀ a s, Q a s → Q' a s) : wpAny M A t Q' E s := wpAny_mono h hQ fun _ _ x => x
end L2

namespace L2
open PySem PySem.Spec PyProof.Rows
section
variable {X : Cx}

def tVar (i : Nat) : TE := fun σ H Q => ∃ v, σ[i]? = some (some v) ∧ Q v H
def tC (v : V) : TE := fun _ H Q => Q v H
theorem pe_var {i : Nat} {x : Str} {pos : Pos} (hN : X.N[i]? = some x) (hv : Vis X.env.scope x) (hd : (x == ("__debug__" : Str)) = false := by decide) (hcd : (x == ("__classdict__" : Str)) = false := by decide) : PE X (.Name x pos) (tVar i) := by
  intro pins s σ H Q I h
  obtain ⟨v, e, h⟩ := h
  obtain ⟨m, hn, hl⟩ := I.loc
  obtain ⟨u, r, l⟩ := hl i x v hN e hv
  have fin : EP X pins σ Q u s := ⟨v, H, I, r, h⟩
  rcases l with ⟨hk, hm⟩ | ⟨hk, c, hc, hcell⟩
  · exact wpAny_Name (wpAny_loadName_local I.ok.kind hk hn hm fin) hd
  · rcases hk with hk | hk
    · exact wpAny_Name (wpAny_loadName_cell I.ok.kind hk hc hcell fin) hd
    · exact wpAny_Name (wpAny_loadName_free I.ok.kind hk hc hcell fin hcd) hd
theorem pe_int {i j pos} : PE X (.Constant (.int i) j pos) (tC (.int i)) := fun _ _ _ H _ I h => wpAny_Constant_int ⟨.int i, H, I.tok _, ⟨_, rfl⟩, h⟩
theorem pe_bl {b j pos} : PE X (.Constant (.bool b) j pos) (tC (.bl b)) := fun _ _ _ H _ I h => Constant_bool ⟨.bl b, H, I, rfl, h⟩
theorem pe_non {j pos} : PE X (.Constant .none j pos) (tC .non) := fun _ _ _ H _ I h => Constant_none ⟨.non, H, I, rfl, h⟩
def Gl (X : Cx) (x : Str) : Prop := X.env.kindOf x = some .globalImplicit
theorem ld_glob {E : Value → Shared → Prop} {pins : List (Addr × Obj)} {s : Shared} {σ : St} {H : Hp} {x : Str} {u : Value} {pos : Pos} {Q : Value → Shared → Prop} (I : Inv X pins σ H s) (hg : Gl X x) (hm : X.mg x = some u) (h : Q u s)
    (hd : (x == ("__debug__" : Str)) = false := by decide) : wpAny (model X.prog X.w) X.A (eval (.Name x pos) X.env) Q E s :=
  Calls.Name_function_global I.ok.kind hg (Calls.loadGlobal_global (by rw [I.ok.glob]; exact I.mod.glob.keeps I.bk) hm h) hd
theorem ld_blt {E : Value → Shared → Prop} {pins : List (Addr × Obj)} {s : Shared} {σ : St} {H : Hp} {x : Str} {u : Value} {pos : Pos} {Q : Value → Shared → Prop} (I : Inv X pins σ H s) (hg : Gl X x) (hm : X.mg x = none) (hv : bootBuiltins x = some u) (h : Q u s)
    (hn : x ≠ "__name__" := by decide) (hd : (x == ("__debug__" : Str)) = false := by decide) : wpAny (model X.prog X.w) X.A (eval (.Name x pos) X.env) Q E s := by
  obtain ⟨mb, h1, h2⟩ := I.mod.blt
  exact Calls.Name_function_global I.ok.kind hg (Calls.loadGlobal_builtin (by rw [I.ok.glob]; exact I.mod.glob.keeps I.bk) hm (by rw [I.ok.blt]; exact h1.keeps I.bk) ((h2 x hn).trans hv) h) hd
theorem pe_bltn {x : Str} {v : V} {u : Value} {pos : Pos} (hg : Gl X x) (hm : X.mg x = none) (hv : bootBuiltins x = some u) (r : RelV v u) (hn : x ≠ "__name__" := by decide) (hd : (x == ("__debug__" : Str)) = false := by decide) : PE X (.Name x pos) (tC v) :=
  fun _ _ _ H _ I h => ld_blt I hg hm hv ⟨v, H, I, r, h⟩ hn hd

variable {a b : Expr} {ta tb : TE} {pos : Pos}
def PC (X : Cx) (op : CmpOp) (a b : Expr) (t : TE) : Prop :=
  ∀ (pins : List (Addr × Obj)) (s : Shared) (σ : St) (H : Hp) (Q : VK), Inv X pins σ H s → t σ H Q →
    wpAny (model X.prog X.w) X.A (eval a X.env) (fun v s₁ => wpAny (model X.prog X.w) X.A (eval b X.env) (fun u s₂ => wpAny (model X.prog X.w) X.A (compareOp op v u) (EP X pins σ Q) X.xe s₂) X.xe s₁) X.xe s
def tB (t : TE) : TT := fun σ H Q => t σ H fun x H1 => ∃ c, x = .bl c ∧ Q c H1
theorem pt_cmp {op : CmpOp} {t : TE} (h : PC X op a b t) (h1 : behindInMarks op b = false := by first | exact nobehind _ (by decide) (by decide) | rfl) : PT X (.Compare a [op] [b] pos) (tB t) := by
  intro pins s σ H Q I hw
  refine wpAny_isTrue_Compare1 (thn (h pins s σ H _ I hw) fun v s1 h1 => thn h1 fun u s2 h2 => thn h2 fun c s3 ⟨x, H1, I1, r1, q1⟩ => ?_) h1
  obtain ⟨d, rfl, q⟩ := q1
  cases r1
  exact wpAny_truthy_bool ⟨H1, I1, q⟩
theorem pt_val {e : Expr} {t : TE} (h : PE X e t) (he : ∀ whole, isTrue e X.env whole = (do let v ← whole; standAt e.pos; holding [v] (truthy v)) := by intro _; rfl) : PT X e (tB t) := by
  intro pins s σ H Q I hw
  refine isTrue_plain (thn (h pins s σ H _ I hw) fun v s1 ⟨x, H1, I1, r1, q1⟩ => ?_) (he _)
  obtain ⟨d, rfl, q⟩ := q1
  cases r1
  exact wpAny_truthy_bool ⟨H1, I1, q⟩

variable {tA tB' : TT} {rest : List Expr}
def tAnd (t u : TT) : TT := fun σ H Q => t σ H fun c H1 => if c = true then u σ H1 Q else Q false H1
def tOr (t u : TT) : TT := fun σ H Q => t σ H fun c H1 => if c = true then Q true H1 else u σ H1 Q
def tNot (t : TT) : TT := fun σ H Q => t σ H fun c H1 => Q (!c) H1
theorem pw_and1 (ha : PT X a tA) : PW X (.BoolOp .And [a] pos) tA := by
  intro wh pins s σ H Q I h
  refine isTrue_and (thn (ha pins s σ H Q I h) fun c s1 e => ?_)
  cases c with
  | true => exact isTrue_and_nil e
  | false => exact e
theorem pw_or1 (ha : PT X a tA) : PW X (.BoolOp .Or [a] pos) tA := by
  intro wh pins s σ H Q I h
  refine isTrue_or (thn (ha pins s σ H Q I h) fun c s1 e => ?_)
  cases c with
  | false => exact isTrue_or_nil e
  | true => exact e
theorem pw_and (ha : PT X a tA) (hb : PW X (.BoolOp .And (b :: rest) pos) tB') : PW X (.BoolOp .And (a :: b :: rest) pos) (tAnd tA tB') := by
  intro wh pins s σ H Q I h
  refine isTrue_and (thn (ha pins s σ H _ I h) fun c s1 ⟨H1, I1, q1⟩ => ?_)
  cases c with
  | true => exact hb wh pins s1 σ H1 Q I1 q1
  | false => exact ⟨H1, I1, q1⟩
theorem pw_or (ha : PT X a tA) (hb : PW X (.BoolOp .Or (b :: rest) pos) tB') : PW X (.BoolOp .Or (a :: b :: rest) pos) (tOr tA tB') := by
  intro wh pins s σ H Q I h
  refine isTrue_or (thn (ha pins s σ H _ I h) fun c s1 ⟨H1, I1, q1⟩ => ?_)
  cases c with
  | true => exact ⟨H1, I1, q1⟩
  | false => exact hb wh pins s1 σ H1 Q I1 q1
theorem pt_not (ha : PT X a tA) : PT X (.UnaryOp .Not a pos) (tNot tA) := by
  intro pins s σ H Q I h
  exact isTrue_not (ha pins s σ H (fun c H1 => Q (!c) H1) I h)
def tAndV (ta tb : TE) : TE := fun σ H Q => ta σ H fun x H1 => ∃ c, x = .bl c ∧ if c = true then tb σ H1 Q else Q (.bl false) H1
theorem pe_one {op} {t : TE} (h : PE X a t) : PE X (.BoolOp op [a] pos) t := fun pins s σ H Q I hw => BoolOp_one (h pins s σ H Q I hw)
theorem pe_and (ha : PE X a ta) (hb : PE X (.BoolOp .And (b :: rest) pos) tb) : PE X (.BoolOp .And (a :: b :: rest) pos) (tAndV ta tb) := by
  intro pins s σ H Q I h
  refine BoolOp_and (thn (ha pins s σ H _ I h) fun v s1 ⟨x, H1, I1, r1, q1⟩ => ?_)
  obtain ⟨c, rfl, q1⟩ := q1
  cases r1
  refine wpAny_truthy_bool ?_
  cases c with
  | true => exact hb pins s1 σ H1 Q I1 q1
  | false => exact ⟨.bl false, H1, I1, rfl, q1⟩
def tIf (t : TT) (ta tb : TE) : TE := fun σ H Q => t σ H fun c H1 => if c = true then ta σ H1 Q else tb σ H1 Q
theorem pe_ifExp {c : Expr} (hc : PT X c tA) (ha : PE X a ta) (hb : PE X b tb) : PE X (.IfExp c a b pos) (tIf tA ta tb) := by
  intro pins s σ H Q I h
  refine wpAny_IfExp (thn (hc pins s σ H _ I h) fun d s1 ⟨H1, I1, q1⟩ => ?_)
  cases d with
  | true => exact ha pins s1 σ H1 Q I1 q1
  | false => exact hb pins s1 σ H1 Q I1 q1
end
end L2

namespace L2
open PySem PySem.Spec PyProof.Rows

def SqL (K : PySem.W.Frag) (H : Hp) (a : Addr) (xs : List V) : Prop :=
  Rd H a (.lst xs) ∨
    ∃ (o : Obj) (its : Array Value) (n : Nat), K.lookup a = some o ∧ o.cls = .type "list" ∧ o.dict = none ∧ o.data = .seq its n ∧ its.size ≤ sizeLine ∧ Vals xs its.toList
def SqT (K : PySem.W.Frag) (H : Hp) (a : Addr) (xs : List V) : Prop :=
  Rd H a (.tup xs) ∨
    ∃ (o : Obj) (its : Array Value) (n : Nat), K.lookup a = some o ∧ o.cls = .type "tuple" ∧ o.data = .seq its n ∧ its.size ≤ sizeLine ∧ Vals xs its.toList
def absV : Value → Option V
  | .none => some .non
  | .bool b => some (.bl b)
  | .int i _ => some (.int i)
  | .str x _ => some (.str x)
  | .bytes b _ => some (.byt b)
  | .float b _ => some (.flt b)
  | .ref a => some (.ref a)
  | .type n => some (.ty n)
  | _ => none
theorem RelV.abs {x : V} {u : Value} (r : RelV x u) : absV u = some x := by
  cases x with
  | non => cases r; rfl
  | bl _ => cases r; rfl
  | int _ => obtain ⟨t, rfl⟩ := r; rfl
  | str _ => obtain ⟨t, rfl⟩ := r; rfl
  | byt _ => obtain ⟨t, rfl⟩ := r; rfl
  | flt _ => obtain ⟨t, rfl⟩ := r; rfl
  | ref _ => cases r; rfl
  | ty _ => cases r; rfl
theorem RelV.inj {x y : V} {u : Value} (r : RelV x u) (q : RelV y u) : x = y := Option.some.inj (r.abs.symm.trans q.abs)
theorem Vals.inj : ∀ {xs ys : List V} {us : List Value}, Vals xs us → Vals ys us → xs = ys
  | _, _, _, .nil, .nil => rfl
  | _, _, _, .cons r t, .cons r' t' => by rw [r.inj r', Vals.inj t t']
section
variable {X : Cx} {pins : List (Addr × Obj)} {σ : St} {H : Hp} {s : Shared} {a : Addr} {xs ys : List V}
theorem SqL.of {K : PySem.W.Frag} (h : H a = some (.lst xs)) : SqL K H a xs := .inl (.inl h)
theorem SqT.of {K : PySem.W.Frag} (h : H a = some (.tup xs)) : SqT K H a xs := .inl (.inl h)
theorem Inv.list (I : Inv X pins σ H s) (h : SqL X.K H a xs) : ∃ its : List Value, Vals xs its ∧ PlainL s.heap a its.toArray ∧ xs.length ≤ sizeLine := by
  rcases h with h | ⟨o, its, n, hk, hc, hd, hs, hz, r⟩
  · obtain ⟨z, its, n, r, e⟩ := h.ok I.hok
    exact ⟨its, r, ⟨_, n, e, rfl, rfl, rfl⟩, z⟩
  · refine ⟨its.toList, r, ⟨o, n, I.kIn a o hk, hc, hd, by simpa using hs⟩, ?_⟩
    have e := r.length
    simp only [Array.length_toList] at e
    omega
theorem Inv.tuple (I : Inv X pins σ H s) (h : SqT X.K H a xs) : ∃ its : List Value, Vals xs its ∧ IsTup s.heap a its.toArray ∧ xs.length ≤ sizeLine := by
  rcases h with h | ⟨o, its, n, hk, hc, hs, hz, r⟩
  · obtain ⟨z, its, r, p⟩ := h.ok I.hok
    exact ⟨its, r, p.isTup, z⟩
  · refine ⟨its.toList, r, ⟨o, I.kIn a o hk, hc, n, by simpa using hs⟩, ?_⟩
    have e := r.length
    simp only [Array.length_toList] at e
    omega
theorem Inv.list_inj (I : Inv X pins σ H s) (h : SqL X.K H a xs) (h' : SqL X.K H a ys) : xs = ys := by
  obtain ⟨its, r, ⟨o, n, e, _, _, d⟩, _⟩ := I.list h
  obtain ⟨its', r', ⟨o', n', e', _, _, d'⟩, _⟩ := I.list h'
  rw [e] at e'; cases e'
  rw [d] at d'
  injection d' with d1 _
  have : its = its' := by simpa using congrArg Array.toList d1
  subst this
  exact r.inj r'
theorem Inv.tuple_inj (I : Inv X pins σ H s) (h : SqT X.K H a xs) (h' : SqT X.K H a ys) : xs = ys := by
  obtain ⟨its, r, ⟨o, e, _, n, d⟩, _⟩ := I.tuple h
  obtain ⟨its', r', ⟨o', e', _, n', d'⟩, _⟩ := I.tuple h'
  rw [e] at e'; cases e'
  rw [d] at d'
  injection d' with d1 _
  have : its = its' := by simpa using congrArg Array.toList d1
  subst this
  exact r.inj r'
end

abbrev Cx.wish (X : Cx) (E : Value → Shared → Prop) : Cx := { X with xe := E }
abbrev Cx.nox (X : Cx) : Cx := X.wish fun _ _ => False
theorem Cx.Ok.wish {X : Cx} (ok : X.Ok) (E : Value → Shared → Prop) : (X.wish E).Ok :=
  ⟨ok.mod, ok.kind, ok.glob, ok.blt, ok.above, ok.inj, ok.has, ok.cab, ok.hd, ok.frames, ok.stk, ok.exf, ok.bs, ok.bsz, ok.noex, ok.exfs, ok.funs, ok.frf⟩
theorem Cx.Ok.unwish {X : Cx} {E : Value → Shared → Prop} (ok : (X.wish E).Ok) : X.Ok :=
  ⟨ok.mod, ok.kind, ok.glob, ok.blt, ok.above, ok.inj, ok.has, ok.cab, ok.hd, ok.frames, ok.stk, ok.exf, ok.bs, ok.bsz, ok.noex, ok.exfs, ok.funs, ok.frf⟩
section
variable {X : Cx} {pins : List (Addr × Obj)} {σ : St} {H : Hp} {s : Shared} {E : Value → Shared → Prop}
theorem Inv.wish (I : Inv X pins σ H s) (E : Value → Shared → Prop) : Inv (X.wish E) pins σ H s := ⟨I.ok.wish E, I.os, I.bare, I.base, I.loc, I.cell, I.free, I.freeC, I.pin, I.hok, I.len⟩
theorem Inv.unwish (I : Inv (X.wish E) pins σ H s) : Inv X pins σ H s := ⟨I.ok.unwish, I.os, I.bare, I.base, I.loc, I.cell, I.free, I.freeC, I.pin, I.hok, I.len⟩
theorem SP.unwish {D : Ends} {f : Flow} {s' : Shared} (h : SP (X.wish E) pins D f s') : SP X pins D f s' := by
  cases f with
  | next => obtain ⟨σ', H', I, q⟩ := h; exact ⟨σ', H', I.unwish, q⟩
  | brk => obtain ⟨σ', H', I, q⟩ := h; exact ⟨σ', H', I.unwish, q⟩
  | cont => obtain ⟨σ', H', I, q⟩ := h; exact ⟨σ', H', I.unwish, q⟩
  | ret u => obtain ⟨v, σ', H', I, r, q⟩ := h; exact ⟨v, σ', H', I.unwish, r, q⟩
theorem PSs.nox {st : List Stmt} {t : TS} (h : PSs X.nox st t) : PSs X st t := fun pins s σ H D I hw =>
  wpAny_mono (h pins s σ H D (I.wish _) hw) (fun _ _ q => q.unwish) fun _ _ z => False.elim z
end

section
variable {X : Cx} {st : Stmt} {rest : List Stmt} {t u : TS} {e : Expr} {te : TE} {pos : Pos}
def tNext : TS := fun D σ H => D.nx σ H
def tSeq (t u : TS) : TS := fun D σ H => t { D with nx := u D } σ H
theorem pss_nil : PSs X [] tNext := fun _ _ σ H _ I h => wpAny_execs_nil ⟨σ, H, I, h⟩
theorem pss_cons (h1 : PS X st t) (h2 : PSs X rest u) : PSs X (st :: rest) (tSeq t u) := by
  intro pins s σ H D I h
  refine wpAny_execs_cons (thn (h1 pins s σ H { D with nx := u D } I h) fun f s1 q => ?_)
  cases f with
  | next =>
    obtain ⟨σ', H', I', q⟩ := q
    exact h2 pins s1 σ' H' D I' q
  | ret v => exact q
  | brk => exact q
  | cont => exact q
theorem pss_one (h1 : PS X st t) : PSs X [st] t := by
  intro pins s σ H D I h
  refine wpAny_execs_cons (thn (h1 pins s σ H D I h) fun f s1 q => ?_)
  cases f with
  | next => exact wpAny_execs_nil q
  | ret v => exact q
  | brk => exact q
  | cont => exact q
theorem Inv.quiet {pins : List (Addr × Obj)} {σ : St} {H : Hp} {s : Shared} (I : Inv X pins σ H s) : interactive X.env = false := by simp [interactive, I.ok.kind]
def tDrop (te : TE) : TS := fun D σ H => te σ H fun _ H1 => D.nx σ H1
theorem ps_expr (he : PE X e te) (hs : swapsWith e none pos.line X.env = pure false := by rfl) : PS X (.Expr e pos) (tDrop te) := by
  intro pins s σ H D I h
  exact wpAny_Expr_any (thn (he pins s σ H _ I h) fun v s1 ⟨x, H1, I1, r1, q1⟩ => ⟨σ, H1, I1, q1⟩) I.quiet hs
def tRet (te : TE) : TS := fun D σ H => te σ H D.rt
theorem ps_ret (he : PE X e te) : PS X (.Return (some e) pos) (tRet te) := by
  intro pins s σ H D I h
  exact wpAny_Return_some (thn (he pins s σ H _ I h) fun v s1 ⟨x, H1, I1, r1, q1⟩ => ⟨x, σ, H1, I1, r1, q1⟩)
def tIfS (c : TT) (t u : TS) : TS := fun D σ H => c σ H fun b H1 => if b = true then t D σ H1 else u D σ H1
theorem ps_if {c : Expr} {a b : List Stmt} {tc : TT} (hc : PT X c tc) (ha : PSs X a t) (hb : PSs X b u) : PS X (.If c a b pos) (tIfS tc t u) := by
  intro pins s σ H D I h
  refine wpAny_If (thn (hc pins s σ H _ I h) fun d s1 ⟨H1, I1, q1⟩ => ?_)
  cases d with
  | true => exact ha pins s1 σ H1 D I1 q1
  | false => exact hb pins s1 σ H1 D I1 q1
end

abbrev TG := V → St → Hp → (St → Hp → Prop) → Prop
abbrev TGs := List V → St → Hp → (St → Hp → Prop) → Prop
def PG (X : Cx) (target : Expr) (t : TG) : Prop :=
  ∀ (pins : List (Addr × Obj)) (s : Shared) (σ : St) (H : Hp) (v : V) (u : Value) (Q : St → Hp → Prop), Inv X pins σ H s → RelV v u → t v σ H Q →
    wpAny (model X.prog X.w) X.A (assign target X.env u) (fun _ s' => ∃ σ' H', Inv X pins σ' H' s' ∧ Q σ' H') X.xe s
def PGs (X : Cx) (ts : List Expr) (t : TGs) : Prop :=
  ∀ (pins : List (Addr × Obj)) (s : Shared) (σ : St) (H : Hp) (vs : List V) (us : List Value) (Q : St → Hp → Prop), Inv X pins σ H s → Vals vs us → t vs σ H Q →
    wpAny (model X.prog X.w) X.A (assignInOrder ((assignEach ts X.env).map (·.2)) us) (fun _ s' => ∃ σ' H', Inv X pins σ' H' s' ∧ Q σ' H') X.xe s
abbrev TSet := V → V → V → Hp → (Hp → Prop) → Prop
def PSet (X : Cx) (t : TSet) : Prop :=
  ∀ (pins : List (Addr × Obj)) (s : Shared) (σ : St) (H : Hp) (o i v : V) (ov iv u : Value) (Q : Hp → Prop), Inv X pins σ H s → RelV o ov → RelV i iv → RelV v u → t o i v H Q →
    wpAny (model X.prog X.w) X.A (setItem ov iv u) (fun _ s' => ∃ H', Inv X pins σ H' s' ∧ Q H') X.xe s
section
variable {X : Cx} {pos : Pos}
def gName (i : Nat) : TG := fun v σ H Q => Q (σ.set i (some v)) H
theorem pg_name {i : Nat} {x : Str} (hN : X.N.Nodup) (hi : X.N[i]? = some x) (hx : Loc X.env.scope x) (hf : X.fn x = true ∨ X.env.scope.names.lookup x = some .local := by first | exact .inl rfl | exact .inr rfl | assumption) : PG X (.Name x pos) (gName i) := by
  intro pins s σ H v u Q I r h
  exact wpAny_assign_Name (store_ok I hN hi hx r (fun s' I' => ⟨_, H, I', h⟩) hf)
def gNil : TGs := fun vs σ H Q => vs = [] ∧ Q σ H
def gCons (t : TG) (u : TGs) : TGs := fun vs σ H Q => ∃ v r, vs = v :: r ∧ t v σ H fun σ' H' => u r σ' H' Q
theorem pgs_nil : PGs X [] gNil := by
  intro pins s σ H vs us Q I r h
  obtain ⟨e, h⟩ := h
  subst e
  cases r
  exact assignInOrder_nil ⟨σ, H, I, h⟩
theorem pgs_cons {e : Expr} {es : List Expr} {t : TG} {u : TGs} (h1 : PG X e t) (h2 : PGs X es u)
    (hs : (assignEach (e :: es) X.env).map (·.2) = assign e X.env :: (assignEach es X.env).map (·.2) := by rfl) : PGs X (e :: es) (gCons t u) := by
  intro pins s σ H vs us Q I r h
  obtain ⟨v, vr, e1, h⟩ := h
  subst e1
  cases r with
  | cons r rr =>
    rw [hs]
    refine assignInOrder_cons (thn (h1 pins s σ H _ _ _ I r h) fun _ s1 ⟨σ1, H1, I1, q1⟩ => ?_)
    exact h2 pins s1 σ1 H1 _ _ Q I1 rr q1
def gTup (K : PySem.W.Frag) (n : Nat) (t : TGs) : TG := fun v σ H Q => ∃ a xs, v = .ref a ∧ SqT K H a xs ∧ xs.length = n ∧ t xs σ H Q
theorem pg_tup {es : List Expr} {k : Nat} {t : TGs} {n : Nat} (hc : X.calm = true) (h : PGs X es t)
    (hn : (assignEach es X.env).length = n := by rfl) (hst : (assignEach es X.env).findIdx? (·.1) = none := by rfl) : PG X (.Tuple es k pos) (gTup X.K n t) := by
  intro pins s σ H v u Q I r hw
  obtain ⟨a, xs, e1, hq, hl, hw⟩ := hw
  subst e1
  cases r
  obtain ⟨its, rv, ht, hz⟩ := I.tuple hq
  refine assign_Tuple_tuple (I.ok.hd hc) ht (by simp [hn, ← hl, rv.length]) hst fun h' hx => ?_
  have I1 : Inv X pins σ H { s with heap := h' } := I.kept (t' := s.toks) fun b o e => hx b o (Nat.ne_of_lt (Heap.lt_size e)) e
  exact h pins _ σ H xs _ Q I1 (by simpa using rv) hw
def gSub (to ti : TE) (t : TSet) : TG := fun v σ H Q => to σ H fun o H1 => ti σ H1 fun i H2 => t o i v H2 fun H3 => Q σ H3
theorem pg_sub {o i : Expr} {to ti : TE} {t : TSet} (ho : PE X o to) (hi : PE X i ti) (hs : PSet X t)
    (ha : ∀ v, assign (.Subscript o i pos) X.env v = (do
      let ov ← holding [v] (eval o X.env)
      let iv ← holding [v, ov] (eval i X.env)
      standAt pos
      holding [v, ov, iv] (setItem ov iv v)
      release [v, ov, iv] []) := by intro _; rfl) : PG X (.Subscript o i pos) (gSub to ti t) := by
  intro pins s σ H v u Q I r h
  rw [ha]
  refine wpAny_bind (wpAny_holding (thn (ho pins s σ H _ I h) fun ov s1 ⟨x, H1, I1, r1, q1⟩ => ?_))
  refine wpAny_bind (wpAny_holding (thn (hi pins s1 σ H1 _ I1 q1) fun iv s2 ⟨y, H2, I2, r2, q2⟩ => ?_))
  refine wpAny_bind (wpAny_standAt (wpAny_bind (wpAny_holding (thn (hs pins s2 σ H2 x y v ov iv u _ I2 r1 r2 r q2) fun _ s3 ⟨H3, I3, q3⟩ => ?_))))
  exact wpAny_release ⟨σ, H3, I3, q3⟩
def tAsg (te : TE) (g : TG) : TS := fun D σ H => te σ H fun x H1 => g x σ H1 D.nx
theorem ps_asg {tg e : Expr} {te : TE} {g : TG} (he : PE X e te) (hg : PG X tg g) (hs : swapsWithSole [tg] e pos.line X.env = pure false := by rfl) (hw : swappedStores [tg] e X.env = pure none := by rfl)
    (h1 : (assignEach [tg] X.env).map (·.2) = [assign tg X.env] := by rfl) : PS X (.Assign [tg] e pos) (tAsg te g) := by
  intro pins s σ H D I h
  refine wpAny_Assign_stores (thn (he pins s σ H _ I h) fun v s1 ⟨x, H1, I1, r1, q1⟩ => ?_) hs hw
  rw [h1]
  exact thn (hg pins s1 σ H1 x v _ I1 r1 q1) fun _ s2 q => q
theorem ps_set {i : Nat} {x : Str} {e : Expr} {te : TE} {pos' : Pos} (hN : X.N.Nodup) (hi : X.N[i]? = some x) (hx : Loc X.env.scope x) (he : PE X e te) (hs : swapsWith e (some (.Name x pos')) pos.line X.env = pure false := by rfl) (hf : X.fn x = true ∨ X.env.scope.names.lookup x = some .local := by first | exact .inl rfl | exact .inr rfl | assumption) :
    PS X (.Assign [.Name x pos'] e pos) (tAsg te (gName i)) := by
  intro pins s σ H D I h
  refine wpAny_Assign_Name (thn (he pins s σ H _ I h) fun v s1 ⟨y, H1, I1, r1, q1⟩ => ?_) hs
  exact store_ok I1 hN hi hx r1 (fun s2 I2 => ⟨_, H1, I2, q1⟩) hf
def tPar (i j : Nat) (ta : TA) : TS := fun D σ H => ta σ H fun vs H1 => ∃ v w, vs = [v, w] ∧ D.nx ((σ.set i (some v)).set j (some w)) H1
theorem ps_par {i j : Nat} {x y : Str} {a b : Expr} {ta : TA} {px py pt : Pos} {kt k2 pt2} (hc : X.calm = true) (hN : X.N.Nodup) (hi : X.N[i]? = some x) (hj : X.N[j]? = some y) (hij : i ≠ j)
    (hx : X.env.scope.names.lookup x = some .local) (hy : X.env.scope.names.lookup y = some .local) (ha : PA X [a, b] ta)
    (hw : swappedStores [.Tuple [.Name x px, .Name y py] kt pt] (.Tuple [a, b] k2 pt2) X.env = pure (some [x, y]))
    (hs : swapsWithSole [.Tuple [.Name x px, .Name y py] kt pt] (.Tuple [a, b] k2 pt2) pos.line X.env = pure false := by rfl) :
    PS X (.Assign [.Tuple [.Name x px, .Name y py] kt pt] (.Tuple [a, b] k2 pt2) pos) (tPar i j ta) := by
  intro pins s σ H D I h
  rw [exec_Assign_arm]
  refine wpAny_bind (wpAny_standAt ?_)
  rw [hs]
  refine wpAny_bind (wpAny_pure ?_)
  rw [if_neg (by decide)]
  refine wpAny_bind (Tuple_ (thn (ha _ pins s σ H _ I h) fun us s1 ⟨vs, H1, I1, r1, q1⟩ => ?_))
  obtain ⟨v, w, e1, q1⟩ := q1
  subst e1
  obtain ⟨u1, u2, rfl, rv, rw'⟩ : ∃ u1 u2, us = [u1, u2] ∧ RelV v u1 ∧ RelV w u2 := by
    cases r1 with
    | cons p q =>
      cases q with
      | cons p' q' =>
        cases q'
        exact ⟨_, _, rfl, p, p'⟩
  refine wpAny_newObj_type ?_ (by show 2 ≤ sizeLine; decide)
  have I2 : Inv X pins σ H1 { s1 with heap := s1.heap.push { cls := .type "tuple", data := .seq [u1, u2].toArray } } := I1.kept (t' := s1.toks) fun b o e => Heap.get?_push_of_some _ e
  rw [hw]
  refine wpAny_bind (wpAny_pure ?_)
  show wpAny (model X.prog X.w) X.A (do rule "assign.swapped-stores"; let items ← unpackItems (.ref s1.heap.objs.size) 2 none; assignInOrder [fun v => bindName X.env y v, fun v => bindName X.env x v] items.reverse; pure Flow.next) _ _ _
  refine wpAny_bind (wpAny_rule (wpAny_bind (unpackItems_tuple (items := #[u1, u2]) (I.ok.hd hc) (IsTup.new s1.heap _) fun h' hx' => ?_)))
  have I3 := I2.kept (h' := h') (t' := s1.toks) fun b o e => hx' b o (Nat.ne_of_lt (Heap.lt_size e)) e
  show wpAny _ _ (assignInOrder [fun v => bindName X.env y v, fun v => bindName X.env x v] [u2, u1] >>= fun _ => pure Flow.next) _ _ _
  refine wpAny_bind (assignInOrder_cons (wpAny_bindName (store_ok I3 hN hj (.inl hy) rw' (fun s2 I4 => ?_) (.inr hy))))
  refine assignInOrder_cons (wpAny_bindName (store_ok I4 hN hi (.inl hx) rv (fun s3 I5 => assignInOrder_nil (wpAny_pure ?_)) (.inr hx)))
  rw [List.set_comm _ _ (Ne.symm hij)] at I5
  exact ⟨_, H1, I5, q1⟩
end

section
variable {X : Cx} {pos : Pos}
def tWhile (c : TT) (tb : TS) : TS := fun D σ H => ∃ W : Nat → St → Hp → Prop, (∃ m, W m σ H) ∧ ∀ m σ H, W m σ H →
  c σ H fun b H1 => if b = true then ∃ N : St → Hp → Prop, (∀ σ' H', N σ' H' → ∃ m', m' < m ∧ W m' σ' H') ∧ tb { D with nx := N, ct := N, bk := D.nx } σ H1 else D.nx σ H1
theorem ps_while {c : Expr} {body : List Stmt} {tc : TT} {tb : TS} (hp : PassesOwn (model X.prog X.w) X.A X.env X.xe) (hc : PT X c tc) (hb : PSs X body tb) : PS X (.While c body [] pos) (tWhile tc tb) := by
  intro pins s σ H D I h
  obtain ⟨W, ⟨m0, w0⟩, turn⟩ := h
  refine wpAny_While (codeAny_whileLoop (fun n s' => ∃ σ' H', Inv X pins σ' H' s' ∧ W n σ' H') ?_ m0 ⟨σ, H, I, w0⟩)
  rintro n s1 ⟨σ1, H1, I1, w1⟩
  refine wpAny_passesOwn hp (thn (hc pins s1 σ1 H1 _ I1 (turn n σ1 H1 w1)) fun b s2 ⟨H2, I2, q2⟩ => ?_)
  cases b with
  | true =>
    obtain ⟨N, hN, q2⟩ := q2
    rw [if_pos rfl]
    refine wpAny_passesOwn hp (thn (hb pins s2 σ1 H2 _ I2 q2) fun f s3 q3 => ?_)
    cases f with
    | next =>
      obtain ⟨σ3, H3, I3, n3⟩ := q3
      obtain ⟨m', hm, w3⟩ := hN σ3 H3 n3
      exact ⟨m', hm, σ3, H3, I3, w3⟩
    | cont =>
      obtain ⟨σ3, H3, I3, n3⟩ := q3
      obtain ⟨m', hm, w3⟩ := hN σ3 H3 n3
      exact ⟨m', hm, σ3, H3, I3, w3⟩
    | brk => exact q3
    | ret v => exact q3
  | false =>
    rw [if_neg Bool.false_ne_true]
    exact wpAny_execs_nil ⟨σ1, H2, I2, q2⟩
end

structure It where
  go : Nat → Hp → Prop
  yld : Nat → Hp → V → Hp → Prop
  stop : Nat → Hp → Prop
def FpOk (X : Cx) (pins : List (Addr × Obj)) (H : Hp) (b : Addr) : Prop :=
  H b = none ∧ b ≠ X.env.locals ∧ b ∉ X.fs ∧ (b ∈ X.ex ∨ X.s₀.heap.objs.size ≤ b) ∧ (∀ x c, X.env.cells.lookup x = some c → c ≠ b) ∧ ∀ p ∈ X.pn ++ pins, p.1 ≠ b
theorem Inv.fpOk {X : Cx} {pins : List (Addr × Obj)} {σ : St} {H H' : Hp} {s : Shared} {b : Addr} (I : Inv X pins σ H s) (hb : s.heap.objs.size ≤ b) (hn : H' b = none) : FpOk X pins H' b := by
  refine ⟨hn, Nat.ne_of_gt (Nat.lt_of_lt_of_le I.lt hb), I.nofs hb, .inr (Nat.le_trans I.sz hb), fun x c e z => ?_, fun p hp z => ?_⟩
  · obtain ⟨v, q⟩ := I.cell x c e
    exact absurd (Nat.lt_of_lt_of_le q.lt (by rw [z]; exact hb)) (Nat.lt_irrefl _)
  · exact absurd (Nat.lt_of_lt_of_le (Heap.lt_size (I.pin p hp).1) (by rw [z]; exact hb)) (Nat.lt_irrefl _)
structure Turn (P : Program) (w : World) (K : PySem.W.Frag) (tg : Expr) (J : It) (fp : List Addr) (it : Addr) (tn : Nat → Heap → Prop) : Prop where
  mem : it ∈ fp
  obj : ∀ i h, tn i h → ∀ b ∈ fp, ∃ o, h.get? b = some o ∧ ∀ v, o.data ≠ .cell v
  keep : ∀ i h h', tn i h → (∀ b ∈ fp, ∀ o, h.get? b = some o → h'.get? b = some o) → tn i h'
  item : ∀ (X : Cx), X.prog = P → X.w = w → X.K = K → X.calm = true → ∀ (i : Nat) (pins : List (Addr × Obj)) (s : Shared) (σ : St) (H : Hp) (E : Value → Shared → Prop), Inv X pins σ H s → (∀ b ∈ fp, FpOk X pins H b) → tn i s.heap → J.go i H →
    wpAny (model P w) X.A (pyNext (.ref it)) (fun r s1 => ∃ u, r = some u ∧
      wpAny (model P w) X.A (letOwnedTupleGo tg (.ref it) u) (fun _ s2 => ∃ x H', Inv X pins σ H' s2 ∧ RelV x u ∧ J.yld i H x H' ∧ tn (i + 1) s2.heap ∧ ∀ b ∈ fp, H' b = none) E s1) E s
  done : ∀ (X : Cx), X.prog = P → X.w = w → X.K = K → X.calm = true → ∀ (i : Nat) (pins : List (Addr × Obj)) (s : Shared) (σ : St) (H : Hp) (E : Value → Shared → Prop), Inv X pins σ H s → (∀ b ∈ fp, FpOk X pins H b) → tn i s.heap → J.stop i H →
    wpAny (model P w) X.A (pyNext (.ref it)) (fun r s1 => r = none ∧ Inv X pins σ H s1) E s
  self : ∀ (A : Around) (i : Nat) (s : Shared) (Q : Value → Shared → Prop) (E : Value → Shared → Prop), tn i s.heap → Q (.ref it) s → wpAny (model P w) A (pyIter (.ref it)) Q E s
abbrev TI := St → Hp → (It → Hp → Prop) → Prop
def PIE (X : Cx) (pins : List (Addr × Obj)) (σ : St) (tg : Expr) (R : It → Hp → Prop) (itv : Value) (s2 : Shared) : Prop :=
  ∃ (it : Addr) (fp : List Addr) (tn : Nat → Heap → Prop) (J : It) (H' : Hp), itv = .ref it ∧ Inv X pins σ H' s2 ∧ Turn X.prog X.w X.K tg J fp it tn ∧ tn 0 s2.heap ∧ (∀ b ∈ fp, FpOk X pins H' b) ∧ R J H'
def PI (X : Cx) (tg iter : Expr) (wi : TI) : Prop :=
  ∀ (pins : List (Addr × Obj)) (s : Shared) (σ : St) (H : Hp) (R : It → Hp → Prop), Inv X pins σ H s → wi σ H R →
    wpAny (model X.prog X.w) X.A (eval iter X.env) (fun v s1 => wpAny (model X.prog X.w) X.A (pyIter v) (PIE X pins σ tg R) X.xe s1) X.xe s

theorem go_of {M : Model} {A : Around} {E : Value → Shared → Prop} {s : Shared} {tg : Expr} {it : Addr} {u : Value} {o : Obj} {n : String} {vs : Array Value} {Q : Unit → Shared → Prop} (ho : s.heap.get? it = some o) (hc : o.cls = .type n) (hd : o.data = .fields vs)
    (hn : ["enumerate", "zip", "dict_itemiterator", "dict_reverseitemiterator", "odict_iterator", "itertools.zip_longest", "itertools.pairwise"].contains n = false) (hQ : Q () s) : wpAny M A (letOwnedTupleGo tg (.ref it) u) Q E s := by
  unfold letOwnedTupleGo
  cases tg <;> first
    | exact wpAny_pure hQ
    | (cases u <;> first
        | exact wpAny_pure hQ
        | (refine wpAny_bind (wpAny_load ho ?_)
           rw [hc, hd]
           show wpAny M A (if (["enumerate", "zip", "dict_itemiterator", "dict_reverseitemiterator", "odict_iterator", "itertools.zip_longest", "itertools.pairwise"].contains n && vs[0]? == some (rawInt _)) = true then _ else _) Q E s
           rw [if_neg (by intro h; rw [hn, Bool.false_and] at h; cases h)]
           exact wpAny_pure hQ))

def Itl (K : PySem.W.Frag) (a : Addr) : It :=
  ⟨fun i H => ∃ xs x, SqL K H a xs ∧ xs[i]? = some x, fun i H x H' => H' = H ∧ ∀ xs, SqL K H a xs → xs[i]? = some x, fun i H => ∃ xs, SqL K H a xs ∧ xs.length ≤ i⟩
def Itt (K : PySem.W.Frag) (a : Addr) : It :=
  ⟨fun i H => ∃ xs x, SqT K H a xs ∧ xs[i]? = some x, fun i H x H' => H' = H ∧ ∀ xs, SqT K H a xs → xs[i]? = some x, fun i H => ∃ xs, SqT K H a xs ∧ xs.length ≤ i⟩
def Itr (lo : Int) (n : Nat) : It := ⟨fun i _ => i < n, fun i H x H' => H' = H ∧ x = .int (lo + i), fun i _ => n ≤ i⟩
theorem turn_list {P : Program} {w : World} {K : PySem.W.Frag} {tg : Expr} (a it : Addr) : Turn P w K tg (Itl K a) [it] it (fun i h => h.IsListIter it a i) where
  mem := by simp
  obj := fun i h st b hb => by
    have e : b = it := by simpa using hb
    subst e
    obtain ⟨o, e, c, d⟩ := st
    exact ⟨o, e, fun v z => by rw [d] at z; cases z⟩
  keep := fun i h h' st k => st.at fun o e => k it (by simp) o e
  item := by
    intro X hP hw hK hc i pins s σ H E I hf st hg
    subst hP hw hK
    obtain ⟨xs, x, hq, hx⟩ := hg
    obtain ⟨its, rv, p, hz⟩ := I.list hq
    obtain ⟨u, hu, ru⟩ := rv.get hx
    obtain ⟨f0, f1, f2, f3, f4, f5⟩ := hf it (by simp)
    refine wpAny_pyNext_list_item st p.isList (x := u) (by simpa using hu) fun h' st' sb => ?_
    have I1 : Inv X pins σ H { s with heap := h' } := I.turned (t' := s.toks) (fun b o hb e => (sb.2 b hb).trans e) f0 f1 f3 f4 f5
    obtain ⟨o, e, c, d⟩ := id st'
    exact ⟨u, rfl, go_of (s := { s with heap := h' }) e c d (by decide) ⟨x, H, I1, ru, ⟨rfl, fun ys hy => by rw [I.list_inj hy hq]; exact hx⟩, st', fun b hb => (hf b hb).1⟩⟩
  done := by
    intro X hP hw hK hc i pins s σ H E I hf st hg
    subst hP hw hK
    obtain ⟨xs, hq, hx⟩ := hg
    obtain ⟨its, rv, p, hz⟩ := I.list hq
    obtain ⟨f0, f1, f2, f3, f4, f5⟩ := hf it (by simp)
    have hl := rv.length
    exact wpAny_pyNext_list_end (I.ok.hd hc) st p.isList (by simp; omega) fun h' eb => ⟨rfl, I.turned (t' := s.toks) (fun b o hb e => eb b o hb e) f0 f1 f3 f4 f5⟩
  self := fun _ _ _ _ _ st h => wpAny_pyIter_listiter st h
theorem turn_tuple {P : Program} {w : World} {K : PySem.W.Frag} {tg : Expr} (a it : Addr) : Turn P w K tg (Itt K a) [it] it (fun i h => h.IsTupleIter it a i) where
  mem := by simp
  obj := fun i h st b hb => by
    have e : b = it := by simpa using hb
    subst e
    obtain ⟨o, e, c, d⟩ := st
    exact ⟨o, e, fun v z => by rw [d] at z; cases z⟩
  keep := fun i h h' st k => st.at fun o e => k it (by simp) o e
  item := by
    intro X hP hw hK hc i pins s σ H E I hf st hg
    subst hP hw hK
    obtain ⟨xs, x, hq, hx⟩ := hg
    obtain ⟨its, rv, p, hz⟩ := I.tuple hq
    obtain ⟨u, hu, ru⟩ := rv.get hx
    obtain ⟨f0, f1, f2, f3, f4, f5⟩ := hf it (by simp)
    refine wpAny_pyNext_tuple_item st (show s.heap.IsTuple a its.toArray from p) (x := u) (by simpa using hu) fun h' st' sb => ?_
    have I1 : Inv X pins σ H { s with heap := h' } := I.turned (t' := s.toks) (fun b o hb e => (sb.2 b hb).trans e) f0 f1 f3 f4 f5
    obtain ⟨o, e, c, d⟩ := id st'
    exact ⟨u, rfl, go_of (s := { s with heap := h' }) e c d (by decide) ⟨x, H, I1, ru, ⟨rfl, fun ys hy => by rw [I.tuple_inj hy hq]; exact hx⟩, st', fun b hb => (hf b hb).1⟩⟩
  done := by
    intro X hP hw hK hc i pins s σ H E I hf st hg
    subst hP hw hK
    obtain ⟨xs, hq, hx⟩ := hg
    obtain ⟨its, rv, p, hz⟩ := I.tuple hq
    obtain ⟨f0, f1, f2, f3, f4, f5⟩ := hf it (by simp)
    have hl := rv.length
    exact wpAny_pyNext_tuple_end (I.ok.hd hc) st (show s.heap.IsTuple a its.toArray from p) (by simp; omega) fun h' eb => ⟨rfl, I.turned (t' := s.toks) (fun b o hb e => eb b o hb e) f0 f1 f3 f4 f5⟩
  self := fun _ _ _ _ _ st h => wpAny_pyIter_tupleiter st h
theorem turn_range {P : Program} {w : World} {K : PySem.W.Frag} {tg : Expr} (it : Addr) (lo : Int) (n : Nat) : Turn P w K tg (Itr lo n) [it] it (fun i h => IsRangeIter h it (lo + (i : Nat) * 1) ((n : Int) - (i : Nat)) 1) where
  mem := by simp
  obj := fun i h st b hb => by
    have e : b = it := by simpa using hb
    subst e
    exact ⟨_, st, fun v z => by
      have z' : Data.fields _ = Data.cell v := z
      cases z'⟩
  keep := fun i h h' st k => k it (by simp) _ st
  item := by
    intro X hP hw hK hc i pins s σ H E I hf st hg
    subst hP hw hK
    obtain ⟨f0, f1, f2, f3, f4, f5⟩ := hf it (by simp)
    have W := Walks.range (prog := X.prog) (w := X.w) (I.ok.hd hc) it lo 1 n
    refine W.item i s _ _ hg st fun v h' tk hv st' kk => ?_
    obtain ⟨t, rfl⟩ := hv
    have I1 : Inv X pins σ H { s with heap := h', toks := tk } := I.turned (fun b o hb e => kk b o (by simpa using hb) e) f0 f1 f3 f4 f5
    refine ⟨_, rfl, go_of (s := { s with heap := h', toks := tk }) (n := "range_iterator") st' rfl rfl (by decide) ⟨.int (lo + i), H, I1, ⟨t, ?_⟩, ⟨rfl, rfl⟩, st', fun b hb => (hf b hb).1⟩⟩
    rw [Int.mul_one]
  done := by
    intro X hP hw hK hc i pins s σ H E I hf st hg
    subst hP hw hK
    obtain ⟨f0, f1, f2, f3, f4, f5⟩ := hf it (by simp)
    exact wpAny_pyNext_range_end (I.ok.hd hc) st (by have : n ≤ i := hg; omega) fun h' eb => ⟨rfl, I.turned (t' := s.toks) (fun b o hb e => eb b o hb e) f0 f1 f3 f4 f5⟩
  self := fun _ _ _ _ _ st h => wpAny_pyIter_rangeiter st h
end L2

namespace L2
open PySem PySem.Spec PyProof.Rows
section
variable {X : Cx} {tg : Expr}
def iList (K : PySem.W.Frag) (tl : TE) : TI := fun σ H R => tl σ H fun x H1 => ∃ a, x = .ref a ∧ (∃ xs, SqL K H1 a xs) ∧ R (Itl K a) H1
def iTup (K : PySem.W.Frag) (tl : TE) : TI := fun σ H R => tl σ H fun x H1 => ∃ a, x = .ref a ∧ (∃ xs, SqT K H1 a xs) ∧ R (Itt K a) H1
theorem pi_list {l : Expr} {tl : TE} (hl : PE X l tl) : PI X tg l (iList X.K tl) := by
  intro pins s σ H R I h
  refine thn (hl pins s σ H _ I h) fun v s1 ⟨x, H1, I1, r1, q1⟩ => ?_
  obtain ⟨a, e, ⟨xs, hq⟩, q⟩ := q1
  subst e
  cases r1
  obtain ⟨its, rv, p, hz⟩ := I1.list hq
  refine wpAny_pyIter_list p.isList ?_
  refine ⟨s1.heap.objs.size, [s1.heap.objs.size], _, _, H1, rfl, I1.kept (t' := s1.toks) fun b o e => Heap.get?_push_of_some _ e, turn_list a _, ⟨_, Heap.get?_push_size _ rfl, rfl, rfl⟩, fun b hb => ?_, q⟩
  have e : b = s1.heap.objs.size := by simpa using hb
  subst e
  exact I1.fpOk (Nat.le_refl _) (I1.hok.fresh (Nat.le_refl _))
theorem pi_tup {l : Expr} {tl : TE} (hl : PE X l tl) : PI X tg l (iTup X.K tl) := by
  intro pins s σ H R I h
  refine thn (hl pins s σ H _ I h) fun v s1 ⟨x, H1, I1, r1, q1⟩ => ?_
  obtain ⟨a, e, ⟨xs, hq⟩, q⟩ := q1
  subst e
  cases r1
  obtain ⟨its, rv, p, hz⟩ := I1.tuple hq
  refine wpAny_pyIter_tuple (show s1.heap.IsTuple a its.toArray from p) ?_
  refine ⟨s1.heap.objs.size, [s1.heap.objs.size], _, _, H1, rfl, I1.kept (t' := s1.toks) fun b o e => Heap.get?_push_of_some _ e, turn_tuple a _, ⟨_, Heap.get?_push_size _ rfl, rfl, rfl⟩, fun b hb => ?_, q⟩
  have e : b = s1.heap.objs.size := by simpa using hb
  subst e
  exact I1.fpOk (Nat.le_refl _) (I1.hok.fresh (Nat.le_refl _))
theorem range_it {pins : List (Addr × Obj)} {σ : St} {H : Hp} {s : Shared} {R : It → Hp → Prop} {E : Value → Shared → Prop} {lo hi : Int} {t u v : Tok} {tk : Nat} (I : Inv X pins σ H s) (h1 : -(2 ^ 62) ≤ lo) (h2 : lo < 2 ^ 62) (h3 : -(2 ^ 62) ≤ hi) (h4 : hi < 2 ^ 62)
    (q : R (Itr lo (hi - lo).toNat) H) : wpAny (model X.prog X.w) X.A (pyIter (.ref s.heap.objs.size)) (PIE X pins σ tg R) E { s with heap := s.heap.push { cls := .type "range", data := .fields #[.int lo t, .int hi u, .int 1 v] }, toks := tk } := by
  refine wpAny_pyIter_range (IsRange.new ..) (small_one h1 h2 h3 h4) ?_
  have I1 : Inv X pins σ H { s with heap := s.heap.push { cls := .type "range", data := .fields #[.int lo t, .int hi u, .int 1 v] }, toks := tk } := I.kept fun b o e => Heap.get?_push_of_some _ e
  refine ⟨(s.heap.push { cls := .type "range", data := .fields #[.int lo t, .int hi u, .int 1 v] }).objs.size, [(s.heap.push { cls := .type "range", data := .fields #[.int lo t, .int hi u, .int 1 v] }).objs.size], _, _, H, rfl,
    I1.kept (t' := tk) fun b o e => Heap.get?_push_of_some _ e, turn_range _ lo (hi - lo).toNat, ?_, fun b hb => ?_, q⟩
  · have e1 : lo + ((0 : Nat) : Int) * 1 = lo := by simp
    have e2 : (((hi - lo).toNat : Nat) : Int) - ((0 : Nat) : Int) = Builtin.Range.rangeSize lo hi 1 := by rw [rangeSize_one]; split <;> omega
    show IsRangeIter _ _ (lo + ((0 : Nat) : Int) * 1) ((((hi - lo).toNat : Nat) : Int) - ((0 : Nat) : Int)) 1
    rw [e1, e2]
    exact Heap.get?_push_size _ rfl
  · have e : b = (s.heap.push { cls := .type "range", data := .fields #[.int lo t, .int hi u, .int 1 v] }).objs.size := by simpa using hb
    subst e
    exact I1.fpOk (Nat.le_refl _) (I1.hok.fresh (Nat.le_refl _))
def iRng1 (ta : TA) : TI := fun σ H R => ta σ H fun vs H1 => ∃ j : Int, vs = [.int j] ∧ -(2 ^ 62) ≤ j ∧ j < 2 ^ 62 ∧ R (Itr 0 j.toNat) H1
theorem pi_range1 {a : Expr} {ta : TA} {p pos : Pos} (hg : Gl X "range") (hm : X.mg "range" = none) (ha : PA X [a] ta) (hs : starEach [a] X.env = [(false, eval a X.env)] := by rfl) : PI X tg (.Call (.Name "range" p) [a] [] pos) (iRng1 ta) := by
  intro pins s σ H R I h
  refine Call_ (ld_blt I hg hm boot_range (PyProof.Rows.callWith_type1 (thn (ha pos pins s σ H _ I h) fun us s1 ⟨vs, H1, I1, r1, q1⟩ => ?_) hs rfl))
  obtain ⟨j, e, q1, q2, q⟩ := q1
  subst e
  cases r1 with
  | cons r rr =>
    cases rr
    obtain ⟨t, rfl⟩ := r
    exact call_range_1 (range_it I1 (by omega) (by omega) q1 q2 (by simpa using q))
def tFor (wi : TI) (g : TG) (tb : TS) : TS := fun D σ H => wi σ H fun J H1 => ∃ W : Nat → Nat → St → Hp → Prop, (∃ m, W 0 m σ H1) ∧ ∀ i m σ H, W i m σ H →
  (J.stop i H ∧ D.nx σ H) ∨ (J.go i H ∧ ∃ N : St → Hp → Prop, (∀ σ' H', N σ' H' → ∃ m', m' < m ∧ W (i + 1) m' σ' H') ∧ ∀ x H', J.yld i H x H' → g x σ H' fun σ2 H2 => tb { D with nx := N, ct := N, bk := D.nx } σ2 H2)
def pinsAt (fp : List Addr) (h : Heap) : List (Addr × Obj) := fp.filterMap fun b => (h.get? b).map fun o => (b, o)
theorem mem_pinsAt {fp : List Addr} {h : Heap} {b : Addr} {o : Obj} (hb : b ∈ fp) (e : h.get? b = some o) : (b, o) ∈ pinsAt fp h := List.mem_filterMap.mpr ⟨b, hb, by rw [e]; rfl⟩
theorem of_pinsAt {fp : List Addr} {h : Heap} {p : Addr × Obj} (hp : p ∈ pinsAt fp h) : p.1 ∈ fp ∧ h.get? p.1 = some p.2 := by
  obtain ⟨b, hb, e⟩ := List.mem_filterMap.mp hp
  cases q : h.get? b with
  | none => rw [q] at e; cases e
  | some o =>
    rw [q] at e
    have e' : (b, o) = p := Option.some.inj e
    subst e'
    exact ⟨hb, q⟩
theorem Inv.pinned {pins : List (Addr × Obj)} {σ : St} {H : Hp} {s : Shared} {fp : List Addr} (I : Inv X pins σ H s) (hf : ∀ b ∈ fp, FpOk X pins H b) (ho : ∀ b ∈ fp, ∃ o, s.heap.get? b = some o ∧ ∀ v, o.data ≠ .cell v) : Inv X (pins ++ pinsAt fp s.heap) σ H s :=
  I.pins_of fun p hp => (List.mem_append.mp hp).elim (fun z => I.pin p (List.mem_append_right _ z)) fun z => by
    obtain ⟨hb, e⟩ := of_pinsAt z
    obtain ⟨f0, f1, f2, _⟩ := hf p.1 hb
    obtain ⟨o, e', d⟩ := ho p.1 hb
    rw [e] at e'; cases e'
    exact ⟨e, f0, f1, f2, d⟩
theorem Inv.unpinned {pins pl : List (Addr × Obj)} {σ : St} {H : Hp} {s : Shared} (I : Inv X (pins ++ pl) σ H s) : Inv X pins σ H s := I.pins_of fun p hp => I.pin p (List.mem_append_right _ (List.mem_append_left _ hp))
theorem ps_for {iter : Expr} {body : List Stmt} {wi : TI} {g : TG} {tb : TS} {pos : Pos} (hp : PassesOwn (model X.prog X.w) X.A X.env X.xe) (hc : X.calm = true) (hi : PI X tg iter wi) (hg : PG X tg g) (hb : PSs X body tb)
    (hs : ∀ x, foldedSetIterable iter X.env x = pure x := by intro _; rfl) : PS X (.For tg iter body [] pos) (tFor wi g tb) := by
  intro pins s σ H D I h
  refine wpAny_For (thn (hi pins s σ H _ I h) fun v s1 h1 => thn h1 fun itv s2 h2 => ?_) hs
  obtain ⟨it, fp, tn, J, H2, e, I2, T, st2, f2, W, ⟨m0, w0⟩, turn⟩ := h2
  subst e
  have stat : ∀ {H' : Hp}, (∀ b ∈ fp, H' b = none) → ∀ b ∈ fp, FpOk X pins H' b := fun hn b hb => ⟨hn b hb, (f2 b hb).2⟩
  refine codeAny_forLoop_any (fun n s' => ∃ i σ' H', Inv X pins σ' H' s' ∧ tn i s'.heap ∧ (∀ b ∈ fp, H' b = none) ∧ W i n σ' H') ?_ m0 ⟨0, σ, H2, I2, st2, fun b hb => (f2 b hb).1, w0⟩
  rintro n s3 ⟨i, σ3, H3, I3, st3, fr3, w3⟩
  rcases turn i n σ3 H3 w3 with ⟨stop, qn⟩ | ⟨go, N, hN, step⟩
  · refine wpAny_passesOwn hp (thn (T.done X rfl rfl rfl hc i pins s3 σ3 H3 X.xe I3 (stat fr3) st3 stop) fun r s4 ⟨hr, I4⟩ => ?_)
    subst hr
    exact wpAny_execs_nil ⟨σ3, H3, I4, qn⟩
  · refine wpAny_passesOwn hp (thn (T.item X rfl rfl rfl hc i pins s3 σ3 H3 X.xe I3 (stat fr3) st3 go) fun r s4 ⟨u, hr, h4⟩ => ?_)
    subst hr
    refine wpAny_passesOwn hp (thn h4 fun _ s5 ⟨x, H5, I5, r5, y5, st5, fr5⟩ => ?_)
    have I5' := I5.pinned (stat fr5) (T.obj _ _ st5)
    refine wpAny_passesOwn hp (thn (hg _ s5 σ3 H5 x u _ I5' r5 (step x H5 y5)) fun _ s6 ⟨σ6, H6, I6, q6⟩ => ?_)
    refine wpAny_passesOwn hp (thn (hb _ s6 σ6 H6 _ I6 q6) fun f s7 q7 => ?_)
    have again : ∀ {σ7 : St} {H7 : Hp}, Inv X (pins ++ pinsAt fp s5.heap) σ7 H7 s7 → N σ7 H7 → ∃ m, m < n ∧ ∃ i σ' H', Inv X pins σ' H' s7 ∧ tn i s7.heap ∧ (∀ b ∈ fp, H' b = none) ∧ W i m σ' H' := fun {σ7 H7} I7 n7 => by
      obtain ⟨m', hm, w7⟩ := hN σ7 H7 n7
      refine ⟨m', hm, i + 1, σ7, H7, I7.unpinned, T.keep _ _ _ st5 fun b hb o e => (I7.pin (b, o) (List.mem_append_right _ (List.mem_append_right _ (mem_pinsAt hb e)))).1, fun b hb => ?_, w7⟩
      obtain ⟨o, e, d⟩ := T.obj _ _ st5 b hb
      exact (I7.pin (b, o) (List.mem_append_right _ (List.mem_append_right _ (mem_pinsAt hb e)))).2.1
    cases f with
    | next => obtain ⟨σ7, H7, I7, n7⟩ := q7; exact again I7 n7
    | cont => obtain ⟨σ7, H7, I7, n7⟩ := q7; exact again I7 n7
    | brk => obtain ⟨σ7, H7, I7, q7⟩ := q7; exact ⟨σ7, H7, I7.unpinned, q7⟩
    | ret v => obtain ⟨x7, σ7, H7, I7, r7, q7⟩ := q7; exact ⟨x7, σ7, H7, I7.unpinned, r7, q7⟩
end

theorem for_list {K : PySem.W.Frag} {a : Addr} {xs : List V} {g : TG} {tb : TS} {D : Ends} {σ : St} {H : Hp} (Pv : Nat → St → Hp → Prop) (h0 : Pv 0 σ H) (hl : ∀ i σ H, i ≤ xs.length → Pv i σ H → SqL K H a xs)
    (hs : ∀ i x σ H, xs[i]? = some x → Pv i σ H → g x σ H fun σ2 H2 => tb { D with nx := Pv (i + 1), ct := Pv (i + 1), bk := D.nx } σ2 H2) (hd : ∀ σ H, Pv xs.length σ H → D.nx σ H) :
    ∃ W : Nat → Nat → St → Hp → Prop, (∃ m, W 0 m σ H) ∧ ∀ i m σ H, W i m σ H →
      ((Itl K a).stop i H ∧ D.nx σ H) ∨ ((Itl K a).go i H ∧ ∃ N : St → Hp → Prop, (∀ σ' H', N σ' H' → ∃ m', m' < m ∧ W (i + 1) m' σ' H') ∧ ∀ x H', (Itl K a).yld i H x H' → g x σ H' fun σ2 H2 => tb { D with nx := N, ct := N, bk := D.nx } σ2 H2) := by
  refine ⟨fun i m σ H => m = xs.length - i ∧ i ≤ xs.length ∧ Pv i σ H, ⟨xs.length, by simp, Nat.zero_le _, h0⟩, ?_⟩
  rintro i m σ H ⟨rfl, hi, p⟩
  have q := hl i σ H hi p
  by_cases hlt : i < xs.length
  · refine .inr ⟨⟨xs, xs[i], q, by simp [hlt]⟩, Pv (i + 1), fun σ' H' p' => ⟨xs.length - (i + 1), by omega, rfl, hlt, p'⟩, fun x H' y => ?_⟩
    obtain ⟨e, y⟩ := y
    subst e
    exact hs i x σ _ (y xs q) p
  · have e : i = xs.length := by omega
    subst e
    exact .inl ⟨⟨xs, q, Nat.le_refl _⟩, hd σ H p⟩
theorem for_tup {K : PySem.W.Frag} {a : Addr} {xs : List V} {g : TG} {tb : TS} {D : Ends} {σ : St} {H : Hp} (Pv : Nat → St → Hp → Prop) (h0 : Pv 0 σ H) (hl : ∀ i σ H, i ≤ xs.length → Pv i σ H → SqT K H a xs)
    (hs : ∀ i x σ H, xs[i]? = some x → Pv i σ H → g x σ H fun σ2 H2 => tb { D with nx := Pv (i + 1), ct := Pv (i + 1), bk := D.nx } σ2 H2) (hd : ∀ σ H, Pv xs.length σ H → D.nx σ H) :
    ∃ W : Nat → Nat → St → Hp → Prop, (∃ m, W 0 m σ H) ∧ ∀ i m σ H, W i m σ H →
      ((Itt K a).stop i H ∧ D.nx σ H) ∨ ((Itt K a).go i H ∧ ∃ N : St → Hp → Prop, (∀ σ' H', N σ' H' → ∃ m', m' < m ∧ W (i + 1) m' σ' H') ∧ ∀ x H', (Itt K a).yld i H x H' → g x σ H' fun σ2 H2 => tb { D with nx := N, ct := N, bk := D.nx } σ2 H2) := by
  refine ⟨fun i m σ H => m = xs.length - i ∧ i ≤ xs.length ∧ Pv i σ H, ⟨xs.length, by simp, Nat.zero_le _, h0⟩, ?_⟩
  rintro i m σ H ⟨rfl, hi, p⟩
  have q := hl i σ H hi p
  by_cases hlt : i < xs.length
  · refine .inr ⟨⟨xs, xs[i], q, by simp [hlt]⟩, Pv (i + 1), fun σ' H' p' => ⟨xs.length - (i + 1), by omega, rfl, hlt, p'⟩, fun x H' y => ?_⟩
    obtain ⟨e, y⟩ := y
    subst e
    exact hs i x σ _ (y xs q) p
  · have e : i = xs.length := by omega
    subst e
    exact .inl ⟨⟨xs, q, Nat.le_refl _⟩, hd σ H p⟩
theorem for_range {lo : Int} {n : Nat} {g : TG} {tb : TS} {D : Ends} {σ : St} {H : Hp} (Pv : Nat → St → Hp → Prop) (h0 : Pv 0 σ H)
    (hs : ∀ i σ H, i < n → Pv i σ H → g (.int (lo + i)) σ H fun σ2 H2 => tb { D with nx := Pv (i + 1), ct := Pv (i + 1), bk := D.nx } σ2 H2) (hd : ∀ σ H, Pv n σ H → D.nx σ H) :
    ∃ W : Nat → Nat → St → Hp → Prop, (∃ m, W 0 m σ H) ∧ ∀ i m σ H, W i m σ H →
      ((Itr lo n).stop i H ∧ D.nx σ H) ∨ ((Itr lo n).go i H ∧ ∃ N : St → Hp → Prop, (∀ σ' H', N σ' H' → ∃ m', m' < m ∧ W (i + 1) m' σ' H') ∧ ∀ x H', (Itr lo n).yld i H x H' → g x σ H' fun σ2 H2 => tb { D with nx := N, ct := N, bk := D.nx } σ2 H2) := by
  refine ⟨fun i m σ H => m = n - i ∧ i ≤ n ∧ Pv i σ H, ⟨n, by simp, Nat.zero_le _, h0⟩, ?_⟩
  rintro i m σ H ⟨rfl, hi, p⟩
  by_cases hlt : i < n
  · refine .inr ⟨hlt, Pv (i + 1), fun σ' H' p' => ⟨n - (i + 1), by omega, rfl, hlt, p'⟩, fun x H' y => ?_⟩
    obtain ⟨e, y⟩ := y
    subst e y
    exact hs i σ _ hlt p
  · have e : i = n := by omega
    subst e
    exact .inl ⟨Nat.le_refl _, hd σ H p⟩
theorem while_by {c : TT} {tb : TS} {D : Ends} {σ : St} {H : Hp} (Pv : St → Hp → Prop) (μ : St → Hp → Nat) (h0 : Pv σ H)
    (hs : ∀ σ H, Pv σ H → c σ H fun b H1 => if b = true then tb { D with nx := fun σ' H' => Pv σ' H' ∧ μ σ' H' < μ σ H, ct := fun σ' H' => Pv σ' H' ∧ μ σ' H' < μ σ H, bk := D.nx } σ H1 else D.nx σ H1)
    (mono : ∀ σ H Q Q', (∀ b H1, Q b H1 → Q' b H1) → c σ H Q → c σ H Q') : tWhile c tb D σ H := by
  refine ⟨fun m σ H => m = μ σ H ∧ Pv σ H, ⟨_, rfl, h0⟩, ?_⟩
  rintro m σ H ⟨rfl, p⟩
  refine mono σ H _ _ (fun b H1 q => ?_) (hs σ H p)
  cases b with
  | true => exact ⟨_, fun σ' H' ⟨p', l⟩ => ⟨_, l, rfl, p'⟩, q⟩
  | false => exact q
end L2

namespace L2
open PySem PySem.Spec PyProof.Rows

abbrev R2 := V → V → Hp → VK → Prop
def OpR (X : Cx) (f : Value → Value → Sem Value) (r : R2) : Prop :=
  ∀ (pins : List (Addr × Obj)) (s : Shared) (σ : St) (H : Hp) (x y : V) (v u : Value) (Q : VK), Inv X pins σ H s → RelV x v → RelV y u → r x y H Q →
    wpAny (model X.prog X.w) X.A (f v u) (EP X pins σ Q) X.xe s
def UnR (X : Cx) (f : Value → Sem Value) (r : V → Hp → VK → Prop) : Prop :=
  ∀ (pins : List (Addr × Obj)) (s : Shared) (σ : St) (H : Hp) (x : V) (v : Value) (Q : VK), Inv X pins σ H s → RelV x v → r x H Q →
    wpAny (model X.prog X.w) X.A (f v) (EP X pins σ Q) X.xe s
def CallR (X : Cx) (f : Value) (r : List V → Hp → VK → Prop) : Prop :=
  ∀ (pins : List (Addr × Obj)) (s : Shared) (σ : St) (H : Hp) (xs : List V) (us : List Value) (Q : VK), Inv X pins σ H s → Vals xs us → r xs H Q →
    wpAny (model X.prog X.w) X.A (call f us) (EP X pins σ Q) X.xe s
def TruR (X : Cx) (r : V → Hp → (Bool → Hp → Prop) → Prop) : Prop :=
  ∀ (pins : List (Addr × Obj)) (s : Shared) (σ : St) (H : Hp) (x : V) (v : Value) (Q : Bool → Hp → Prop), Inv X pins σ H s → RelV x v → r x H Q →
    wpAny (model X.prog X.w) X.A (truthy v) (TP X pins σ Q) X.xe s

def tOp (r : R2) (ta tb : TE) : TE := fun σ H Q => ta σ H fun x H1 => tb σ H1 fun y H2 => r x y H2 Q
def tUn (r : V → Hp → VK → Prop) (ta : TE) : TE := fun σ H Q => ta σ H fun x H1 => r x H1 Q
def rI (C : Int → Int → Prop) (g : Int → Int → V) : R2 := fun x y H Q => ∃ i j, x = .int i ∧ y = .int j ∧ C i j ∧ Q (g i j) H
def rI0 (g : Int → Int → V) : R2 := fun x y H Q => ∃ i j, x = .int i ∧ y = .int j ∧ Q (g i j) H
def rU (g : Int → V) : V → Hp → VK → Prop := fun x H Q => ∃ i, x = .int i ∧ Q (g i) H

section
variable {X : Cx} {a b c : Expr} {ta tb tc : TE} {pos : Pos}

theorem binT (ha : PE X a ta) (hb : PE X b tb) {pins : List (Addr × Obj)} {s : Shared} {σ : St} {H : Hp} {R : V → V → Hp → Prop} (I : Inv X pins σ H s)
    (h : ta σ H fun x H1 => tb σ H1 fun y H2 => R x y H2) {Q : Value → Shared → Prop} {f : Value → Value → Sem Value}
    (hf : ∀ v u s2 x y H2, Inv X pins σ H2 s2 → RelV x v → RelV y u → R x y H2 → wpAny (model X.prog X.w) X.A (f v u) Q X.xe s2) :
    wpAny (model X.prog X.w) X.A (eval a X.env) (fun v s₁ => wpAny (model X.prog X.w) X.A (eval b X.env) (fun u s₂ => wpAny (model X.prog X.w) X.A (f v u) Q X.xe s₂) X.xe s₁) X.xe s := by
  refine thn (ha pins s σ H _ I h) fun v s1 ⟨x, H1, I1, r1, q1⟩ => ?_
  refine thn (hb pins s1 σ H1 _ I1 q1) fun u s2 ⟨y, H2, I2, r2, q2⟩ => ?_
  exact hf v u s2 x y H2 I2 r1 r2 q2

theorem pe_op {op : Operator} {r : R2} (ho : OpR X (binaryOp op) r) (ha : PE X a ta) (hb : PE X b tb) : PE X (.BinOp a op b pos) (tOp r ta tb) := by
  intro pins s σ H Q I h
  exact wpAny_BinOp (binT ha hb I h fun v u s2 x y H2 I2 rx ry q => ho pins s2 σ H2 x y v u Q I2 rx ry q)
theorem pe_un {op : UnaryOp} {r : V → Hp → VK → Prop} (ho : UnR X (unaryOp op) r) (ha : PE X a ta) : PE X (.UnaryOp op a pos) (tUn r ta) := by
  intro pins s σ H Q I h
  exact UnaryOp_ (thn (ha pins s σ H _ I h) fun v s1 ⟨x, H1, I1, r1, q1⟩ => ho pins s1 σ H1 x v Q I1 r1 q1)
theorem opI {f : Value → Value → Sem Value} {C : Int → Int → Prop} {g : Int → Int → Int}
    (rule : ∀ (i j : Int) (t u : Tok) (s : Shared) (Q : Value → Shared → Prop) (E : Value → Shared → Prop), C i j → Q (.int (g i j) s.toks) { s with toks := s.toks + 1 } → wpAny (model X.prog X.w) X.A (f (.int i t) (.int j u)) Q E s) :
    OpR X f (rI C fun i j => .int (g i j)) := by
  intro pins s σ H x y v u Q I rx ry h
  obtain ⟨i, j, rfl, rfl, hc, q⟩ := h
  obtain ⟨t, rfl⟩ := rx
  obtain ⟨t', rfl⟩ := ry
  exact rule i j t t' s _ _ hc ⟨.int (g i j), H, I.tok _, ⟨_, rfl⟩, q⟩
theorem opI0 {f : Value → Value → Sem Value} {g : Int → Int → Int}
    (rule : ∀ (i j : Int) (t u : Tok) (s : Shared) (Q : Value → Shared → Prop) (E : Value → Shared → Prop), Q (.int (g i j) s.toks) { s with toks := s.toks + 1 } → wpAny (model X.prog X.w) X.A (f (.int i t) (.int j u)) Q E s) :
    OpR X f (rI0 fun i j => .int (g i j)) := by
  intro pins s σ H x y v u Q I rx ry h
  obtain ⟨i, j, rfl, rfl, q⟩ := h
  obtain ⟨t, rfl⟩ := rx
  obtain ⟨t', rfl⟩ := ry
  exact rule i j t t' s _ _ ⟨.int (g i j), H, I.tok _, ⟨_, rfl⟩, q⟩
theorem opB0 {f : Value → Value → Sem Value} {g : Int → Int → Bool}
    (rule : ∀ (i j : Int) (t u : Tok) (s : Shared) (Q : Value → Shared → Prop) (E : Value → Shared → Prop), Q (.bool (g i j)) s → wpAny (model X.prog X.w) X.A (f (.int i t) (.int j u)) Q E s) :
    OpR X f (rI0 fun i j => .bl (g i j)) := by
  intro pins s σ H x y v u Q I rx ry h
  obtain ⟨i, j, rfl, rfl, q⟩ := h
  obtain ⟨t, rfl⟩ := rx
  obtain ⟨t', rfl⟩ := ry
  exact rule i j t t' s _ _ ⟨.bl (g i j), H, I, rfl, q⟩

def CDiv (i j : Int) : Prop := 0 < j ∧ j < 1073741824
def CPow (i j : Int) : Prop := 0 ≤ j ∧ j ≤ 1000000 ∧ i.natAbs < 2 ^ 64
def CMul (i j : Int) : Prop := (-(2 ^ 64) < i ∧ i < 2 ^ 64) ∨ (-(2 ^ 64) < j ∧ j < 2 ^ 64)
theorem CMul.ok {i j : Int} (h : CMul i j) : IntMulOk i j := by
  rcases h with ⟨h1, h2⟩ | ⟨h1, h2⟩
  · exact .of_left (intBits_le_64 h1 h2)
  · exact .of_right (intBits_le_64 h1 h2)
theorem op_add : OpR X (binaryOp .Add) (rI0 fun i j => .int (i + j)) := opI0 fun _ _ _ _ _ _ _ q => add_int q
theorem op_sub : OpR X (binaryOp .Sub) (rI0 fun i j => .int (i - j)) := opI0 fun _ _ _ _ _ _ _ q => sub_int q
theorem op_mul : OpR X (binaryOp .Mult) (rI CMul fun i j => .int (i * j)) := opI fun _ _ _ _ _ _ _ hc q => mul_int q hc.ok
theorem op_fdiv : OpR X (binaryOp .FloorDiv) (rI CDiv fun i j => .int (i / j)) := opI fun i j _ _ _ _ _ hc q => by
  have h1 : (0 : Int) < j := hc.1
  have h2 : j < 1073741824 := hc.2
  exact floordiv_int (by omega) (by rw [Int.fdiv_eq_ediv_of_nonneg i (by omega)]; exact q) (.inl (PyProof.noPylong_small (by omega)))
theorem op_mod : OpR X (binaryOp .Mod) (rI (fun _ j => 0 < j) fun i j => .int (i % j)) := opI fun i j _ _ _ _ _ hc q => by
  have h1 : (0 : Int) < j := hc
  exact mod_int' (by omega) (by rw [Int.fmod_eq_emod_of_nonneg i (by omega)]; exact q)
theorem op_pow : OpR X (binaryOp .Pow) (rI CPow fun i j => .int (i ^ j.toNat)) := opI fun _ _ _ _ _ _ _ hc q => pow_int_small hc.1 hc.2.1 hc.2.2 q
theorem unI {f : Value → Sem Value} {g : Int → Int}
    (rule : ∀ (i : Int) (t : Tok) (s : Shared) (Q : Value → Shared → Prop) (E : Value → Shared → Prop), Q (.int (g i) s.toks) { s with toks := s.toks + 1 } → wpAny (model X.prog X.w) X.A (f (.int i t)) Q E s) :
    UnR X f (rU fun i => .int (g i)) := by
  intro pins s σ H x v Q I rx h
  obtain ⟨i, rfl, q⟩ := h
  obtain ⟨t, rfl⟩ := rx
  exact rule i t s _ _ ⟨.int (g i), H, I.tok _, ⟨_, rfl⟩, q⟩
theorem un_neg : UnR X (unaryOp .USub) (rU fun i => .int (-i)) := unI fun _ _ _ _ _ q => neg_int q
end

def scal : V → V → Bool
  | .non, .non => true | .non, .int _ => true | .int _, .non => true | .non, .bl _ => true | .bl _, .non => true | .non, .str _ => true | .str _, .non => true
  | .int _, .int _ => true | .bl _, .bl _ => true | .str _, .str _ => true | .byt _, .byt _ => true
  | .int _, .str _ => true | .str _, .int _ => true | .bl _, .str _ => true | .str _, .bl _ => true
  | _, _ => false
def rEq : R2 := fun x y H Q => scal x y = true ∧ Q (.bl (decide (x = y))) H
def rNe : R2 := fun x y H Q => scal x y = true ∧ Q (.bl (!decide (x = y))) H

theorem dec_int {i j : Int} : decide (V.int i = V.int j) = (i == j) := by
  rw [Bool.eq_iff_iff]
  simp
theorem dec_bl {i j : Bool} : decide (V.bl i = V.bl j) = (i == j) := by
  rw [Bool.eq_iff_iff]
  simp
theorem dec_str {i j : Str} : decide (V.str i = V.str j) = (i == j) := by
  rw [Bool.eq_iff_iff]
  simp
theorem dec_byt {i j : Array UInt8} : decide (V.byt i = V.byt j) = (i.toList == j.toList) := by
  rw [Bool.eq_iff_iff]
  cases i
  cases j
  simp

section
variable {X : Cx} {a b c : Expr} {ta tb tc : TE} {pos : Pos}
theorem fin_bl {pins : List (Addr × Obj)} {σ : St} {H : Hp} {s : Shared} {Q : VK} {k k' : Bool} (I : Inv X pins σ H s) (q : Q (.bl k) H) (e : k = k') : EP X pins σ Q (.bool k') s := by
  subst e
  exact ⟨.bl k, H, I, rfl, q⟩
theorem op_eq : OpR X (compareOp .Eq) rEq := by
  intro pins s σ H x y v u Q I rx ry h
  obtain ⟨hs, q⟩ := h
  cases x with
  | non =>
    cases rx
    cases y with
    | non => cases ry; exact PySem.EqNone.eq_none_none (fin_bl I q (by simp))
    | bl j => cases ry; exact PySem.EqNone.eq_none_bool (fin_bl I q (by simp))
    | int j => obtain ⟨t', rfl⟩ := ry; exact PySem.EqNone.eq_none_int (fin_bl I q (by simp))
    | str j => obtain ⟨t', rfl⟩ := ry; exact PySem.EqNone.eq_none_str (fin_bl I q (by simp))
    | _ => exact absurd (show false = true from hs) Bool.false_ne_true
  | bl i =>
    cases rx
    cases y with
    | non => cases ry; exact PySem.EqNone.eq_bool_none (fin_bl I q (by simp))
    | bl j => cases ry; exact eq_bool (fin_bl I q dec_bl)
    | str j => obtain ⟨t', rfl⟩ := ry; exact PySem.EqMixed.eq_bool_str (fin_bl I q (by simp))
    | _ => exact absurd (show false = true from hs) Bool.false_ne_true
  | int i =>
    obtain ⟨t, rfl⟩ := rx
    cases y with
    | non => cases ry; exact PySem.EqNone.eq_int_none (fin_bl I q (by simp))
    | int j => obtain ⟨t', rfl⟩ := ry; exact eq_int (fin_bl I q dec_int)
    | str j => obtain ⟨t', rfl⟩ := ry; exact PySem.EqMixed.eq_int_str (fin_bl I q (by simp))
    | _ => exact absurd (show false = true from hs) Bool.false_ne_true
  | str i =>
    obtain ⟨t, rfl⟩ := rx
    cases y with
    | non => cases ry; exact PySem.EqNone.eq_str_none (fin_bl I q (by simp))
    | bl j => cases ry; exact PySem.EqMixed.eq_str_bool (fin_bl I q (by simp))
    | int j => obtain ⟨t', rfl⟩ := ry; exact PySem.EqMixed.eq_str_int (fin_bl I q (by simp))
    | str j => obtain ⟨t', rfl⟩ := ry; exact eq_str (fin_bl I q dec_str)
    | _ => exact absurd (show false = true from hs) Bool.false_ne_true
  | byt i =>
    obtain ⟨t, rfl⟩ := rx
    cases y with
    | byt j => obtain ⟨t', rfl⟩ := ry; exact PySem.W.eq_bytes (fin_bl I q dec_byt)
    | _ => exact absurd (show false = true from hs) Bool.false_ne_true
  | _ => cases y <;> exact absurd (show false = true from hs) Bool.false_ne_true
theorem op_ne : OpR X (compareOp .NotEq) rNe := by
  intro pins s σ H x y v u Q I rx ry h
  obtain ⟨hs, q⟩ := h
  cases x with
  | non =>
    cases rx
    cases y with
    | non => cases ry; exact PySem.EqNone.ne_none_none (fin_bl I q (by simp))
    | bl j => cases ry; exact PySem.EqNone.ne_none_bool (fin_bl I q (by simp))
    | int j => obtain ⟨t', rfl⟩ := ry; exact PySem.EqNone.ne_none_int (fin_bl I q (by simp))
    | str j => obtain ⟨t', rfl⟩ := ry; exact PySem.EqNone.ne_none_str (fin_bl I q (by simp))
    | _ => exact absurd (show false = true from hs) Bool.false_ne_true
  | bl i =>
    cases rx
    cases y with
    | non => cases ry; exact PySem.EqNone.ne_bool_none (fin_bl I q (by simp))
    | bl j => cases ry; exact ne_bool (fin_bl I q (congrArg not dec_bl))
    | str j => obtain ⟨t', rfl⟩ := ry; exact PySem.EqMixed.ne_bool_str (fin_bl I q (by simp))
    | _ => exact absurd (show false = true from hs) Bool.false_ne_true
  | int i =>
    obtain ⟨t, rfl⟩ := rx
    cases y with
    | non => cases ry; exact PySem.EqNone.ne_int_none (fin_bl I q (by simp))
    | int j => obtain ⟨t', rfl⟩ := ry; exact ne_int (fin_bl I q (congrArg not dec_int))
    | str j => obtain ⟨t', rfl⟩ := ry; exact PySem.EqMixed.ne_int_str (fin_bl I q (by simp))
    | _ => exact absurd (show false = true from hs) Bool.false_ne_true
  | str i =>
    obtain ⟨t, rfl⟩ := rx
    cases y with
    | non => cases ry; exact PySem.EqNone.ne_str_none (fin_bl I q (by simp))
    | bl j => cases ry; exact PySem.EqMixed.ne_str_bool (fin_bl I q (by simp))
    | int j => obtain ⟨t', rfl⟩ := ry; exact PySem.EqMixed.ne_str_int (fin_bl I q (by simp))
    | str j => obtain ⟨t', rfl⟩ := ry; exact ne_str (fin_bl I q (congrArg not dec_str))
    | _ => exact absurd (show false = true from hs) Bool.false_ne_true
  | byt i =>
    obtain ⟨t, rfl⟩ := rx
    cases y with
    | byt j => obtain ⟨t', rfl⟩ := ry; exact PySem.W.ne_bytes (fin_bl I q (congrArg not dec_byt))
    | _ => exact absurd (show false = true from hs) Bool.false_ne_true
  | _ => cases y <;> exact absurd (show false = true from hs) Bool.false_ne_true

theorem op_lt : OpR X (compareOp .Lt) (rI0 fun i j => .bl (decide (i < j))) := opB0 fun _ _ _ _ _ _ _ q => lt_int q
theorem op_gt : OpR X (compareOp .Gt) (rI0 fun i j => .bl (decide (j < i))) := opB0 fun _ _ _ _ _ _ _ q => gt_int q
theorem op_isN : OpR X (compareOp .Is) (fun x y H Q => y = .non ∧ Q (.bl (decide (x = .non))) H) := by
  intro pins s σ H x y v u Q I rx ry h
  obtain ⟨rfl, q⟩ := h
  cases ry
  refine is_none_gen (fin_bl I q ?_)
  cases x <;> first
    | (cases rx; rfl)
    | (obtain ⟨t, rfl⟩ := rx; rfl)
theorem nomark (b : Expr) {op : CmpOp} (h : op ≠ .In := by decide) (h2 : op ≠ .NotIn := by decide) : behindInMarks op b = false := by
  have e1 : (op == CmpOp.In) = false := by cases op <;> first | rfl | exact absurd rfl h
  have e2 : (op == CmpOp.NotIn) = false := by cases op <;> first | rfl | exact absurd rfl h2
  cases b <;> simp [behindInMarks, e1, e2]
theorem pe_cmpR {op : CmpOp} {r : R2} (ho : OpR X (compareOp op) r) (ha : PE X a ta) (hb : PE X b tb) (hm : behindInMarks op b = false) : PE X (.Compare a [op] [b] pos) (tOp r ta tb) := by
  intro pins s σ H Q I h
  exact wpAny_Compare1 (binT ha hb I h fun v u s2 x y H2 I2 rx ry q => ho pins s2 σ H2 x y v u Q I2 rx ry q) hm
def tTest (t : TE) : TT := fun σ H Q => t σ H fun x H' => ∃ k, x = .bl k ∧ Q k H'
theorem pt_cmpR {op : CmpOp} {r : R2} (ho : OpR X (compareOp op) r) (ha : PE X a ta) (hb : PE X b tb) (hm : behindInMarks op b = false) : PT X (.Compare a [op] [b] pos) (tTest (tOp r ta tb)) := by
  intro pins s σ H Q I h
  refine wpAny_isTrue_Compare1 (thn (ha pins s σ H _ I h) fun v s1 ⟨x, H1, I1, r1, q1⟩ => thn (hb pins s1 σ H1 _ I1 q1) fun u s2 ⟨y, H2, I2, r2, q2⟩ =>
    thn (ho pins s2 σ H2 x y v u _ I2 r1 r2 q2) fun c s3 ⟨z, H3, I3, r3, k, e, q3⟩ => ?_) hm
  subst e
  cases r3
  exact wpAny_truthy_bool ⟨H3, I3, q3⟩
def TruV (K : PySem.W.Frag) (x : V) (H : Hp) (k : Bool) : Prop :=
  match x with
  | .non => k = false
  | .bl b => k = b
  | .int i => k = (i != 0)
  | .str y => y.length ≤ sizeLine ∧ k = ((y.length : Int) != 0)
  | .byt y => y.size ≤ sizeLine ∧ k = ((y.size : Int) != 0)
  | .ref p => (∃ xs, SqL K H p xs ∧ k = !xs.isEmpty) ∨ (∃ xs, SqT K H p xs ∧ k = !xs.isEmpty) ∨ ∃ kvs, H p = some (.dK kvs) ∧ k = !kvs.isEmpty
  | _ => False
theorem isEmpty_kv {κ : Type} {kvs : List (κ × V)} {vs : List (κ × Value)} (r : KV kvs vs) : (!vs.isEmpty) = !kvs.isEmpty := by
  cases r <;> rfl
theorem isEmpty_of {xs : List V} {its : List Value} (r : Vals xs its) : (!its.toArray.isEmpty) = !xs.isEmpty := by
  cases r <;> simp
theorem line63 : (sizeLine : Nat) < 2 ^ 63 := by rw [sizeLine_eq]; decide
theorem tru_ok : TruR X (fun x H Q => ∃ k, TruV X.K x H k ∧ Q k H) := by
  intro pins s σ H x v Q I rx h
  obtain ⟨k, e, q⟩ := h
  have hl := line63
  have hs : sizeLine = 16777216 := sizeLine_eq
  cases x with
  | non =>
    cases rx
    have e' : k = false := e
    subst e'
    exact truthy_none ⟨H, I, q⟩
  | bl b =>
    cases rx
    have e' : k = b := e
    subst e'
    exact wpAny_truthy_bool ⟨H, I, q⟩
  | int i =>
    obtain ⟨t, rfl⟩ := rx
    have e' : k = (i != 0) := e
    subst e'
    exact PySem.P.truthy_int ⟨H, I, q⟩
  | str y =>
    obtain ⟨t, rfl⟩ := rx
    obtain ⟨hy, e'⟩ : y.length ≤ sizeLine ∧ k = ((y.length : Int) != 0) := e
    subst e'
    exact PySem.P.truthy_str (by omega) ⟨H, I.tok _, q⟩
  | byt y =>
    obtain ⟨t, rfl⟩ := rx
    obtain ⟨hy, e'⟩ : y.size ≤ sizeLine ∧ k = ((y.size : Int) != 0) := e
    subst e'
    exact PySem.W.truthy_bytes (by omega) ⟨H, I.tok _, q⟩
  | ref p =>
    cases rx
    have e' : (∃ xs, SqL X.K H p xs ∧ k = !xs.isEmpty) ∨ (∃ xs, SqT X.K H p xs ∧ k = !xs.isEmpty) ∨ ∃ kvs, H p = some (.dK kvs) ∧ k = !kvs.isEmpty := e
    rcases e' with ⟨xs, hx, e'⟩ | ⟨xs, hx, e'⟩ | ⟨kvs, hx, e'⟩
    · subst e'
      obtain ⟨its, r, pl, hz⟩ := I.list hx
      have hlen := r.length
      exact wpAny_truthy_list pl.isList (by simp only [List.size_toArray]; omega) ⟨H, I.tok _, by rw [isEmpty_of r]; exact q⟩
    · subst e'
      obtain ⟨its, r, pl, hz⟩ := I.tuple hx
      have hlen := r.length
      exact truthy_tuple pl (by simp only [List.size_toArray]; omega) ⟨H, I.tok _, by rw [isEmpty_of r]; exact q⟩
    · subst e'
      obtain ⟨hz, hS, vs, r, m⟩ : kvs.length ≤ sizeLine ∧ (p == sysModules) = false ∧ ∃ vs, KV kvs vs ∧ s.heap.DictOf (mixKind X.prog X.w) p vs := I.hok p _ hx
      have hlen : kvs.length = vs.length := Paired.length r
      exact wpAny_truthy_dict hS m (by omega) ⟨H, I.tok _, by rw [isEmpty_kv r]; exact q⟩
  | _ => exact (show False from e).elim
theorem pt_truth (ha : PE X a ta) (he : ∀ whole, isTrue a X.env whole = (do let v ← whole; standAt a.pos; holding [v] (truthy v))) :
    PT X a (fun σ H Q => ta σ H fun x H' => ∃ k, TruV X.K x H' k ∧ Q k H') := by
  intro pins s σ H Q I h
  exact isTrue_plain (thn (ha pins s σ H _ I h) fun v s1 ⟨x, H1, I1, r1, q1⟩ => tru_ok pins s1 σ H1 x v Q I1 r1 q1) (he _)

theorem vals1 {x : V} {us : List Value} (r : Vals [x] us) : ∃ u, us = [u] ∧ RelV x u := by
  cases r with
  | cons r1 r2 => cases r2; exact ⟨_, rfl, r1⟩
theorem vals2 {x y : V} {us : List Value} (r : Vals [x, y] us) : ∃ u w', us = [u, w'] ∧ RelV x u ∧ RelV y w' := by
  cases r with
  | cons r1 r2 =>
    cases r2 with
    | cons r3 r4 => cases r4; exact ⟨_, _, rfl, r1, r3⟩
theorem call_abs : CallR X (.builtin "abs") (fun xs H Q => ∃ i, xs = [.int i] ∧ Q (.int (if i < 0 then -i else i)) H) := by
  intro pins s σ H xs us Q I r h
  obtain ⟨i, rfl, q⟩ := h
  obtain ⟨u, rfl, t, rfl⟩ := vals1 r
  exact call_abs_int fun u tk => ⟨.int (if i < 0 then -i else i), H, I.tok _, ⟨_, rfl⟩, q⟩
theorem call_max2 (hc : X.calm = true) : CallR X (.builtin "max") (fun xs H Q => ∃ i j, xs = [.int i, .int j] ∧ Q (.int (if j > i then j else i)) H) := by
  intro pins s σ H xs us Q I r h
  obtain ⟨i, j, rfl, q⟩ := h
  obtain ⟨u, w', rfl, ⟨t, rfl⟩, ⟨t', rfl⟩⟩ := vals2 r
  refine max_two_ints (I.ok.hd hc) fun h' tk k => ⟨_, H, I.kept k, ?_, q⟩
  by_cases hj : j > i
  · rw [if_pos hj, if_pos hj]; exact ⟨_, rfl⟩
  · rw [if_neg hj, if_neg hj]; exact ⟨_, rfl⟩
theorem call_min2 (hc : X.calm = true) : CallR X (.builtin "min") (fun xs H Q => ∃ i j, xs = [.int i, .int j] ∧ Q (.int (if j < i then j else i)) H) := by
  intro pins s σ H xs us Q I r h
  obtain ⟨i, j, rfl, q⟩ := h
  obtain ⟨u, w', rfl, ⟨t, rfl⟩, ⟨t', rfl⟩⟩ := vals2 r
  refine min_two_ints (I.ok.hd hc) fun h' tk k => ⟨_, H, I.kept k, ?_, q⟩
  by_cases hj : j < i
  · rw [if_pos hj, if_pos hj]; exact ⟨_, rfl⟩
  · rw [if_neg hj, if_neg hj]; exact ⟨_, rfl⟩
end
end L2

namespace L2
open PySem PySem.Spec PyProof.Rows

structure ObjM (h : Heap) (x dx C : Addr) (mA : Str → Option Value) : Prop where
  obj : h.get? x = some (PySem.W.instObj C dx)
  ns : h.Ns1 dx mA
  ne : dx ≠ x

theorem lookIn_ns {h : Heap} {dx : Addr} {mA : Str → Option Value} (n : h.Ns1 dx mA) : ∃ od, h.get? dx = some od ∧ ∀ name, PySem.W.lookIn name od = some (mA name) := by
  obtain ⟨o, es, ep, ho, hd, hk, _, hm⟩ := n
  refine ⟨o, ho, fun name => ?_⟩
  have e := hm name
  unfold nsFind findBy at e
  rw [← Array.find?_toList] at e
  unfold PySem.W.lookIn
  rw [hd]
  dsimp only
  split
  · rename_i y q
    rw [q] at e
    exact congrArg some e
  · rename_i q
    rw [q] at e
    have a : es.toList.any (·.refKey) = false := by
      rw [List.any_eq_false]
      intro y hy
      obtain ⟨z, t, hkey⟩ := hk y (Array.mem_toList_iff.mp hy)
      simp [DictEntry.refKey, hkey]
    have a' : ¬ es.toList.any (·.refKey) = true := by rw [a]; exact Bool.false_ne_true
    rw [if_neg a']
    exact congrArg some e

theorem ObjM.look {h : Heap} {x dx C : Addr} {mA : Str → Option Value} (I : ObjM h x dx C mA) : ∃ od, PySem.W.InstAt h x (PySem.W.instObj C dx) C (some od) ∧ ∀ name, PySem.W.lookIn name od = some (mA name) :=
  let ⟨od, ho, hl⟩ := lookIn_ns I.ns
  ⟨od, ⟨I.obj, rfl, rfl, ho⟩, hl⟩

section
variable {prog : Program} {w : World} {A : Around} {E : Value → Shared → Prop} {s : Shared} {K : PySem.W.Frag} {x dx C f : Addr} {mA : Str → Option Value} {name : Str} {v : Value}

end

section
variable {P : Program} {w : World} {H H' : Hp} {h h' : Heap} {a C dx : Addr} {fs fs' : List (Str × V)}
theorem ins_get (hok : HOk P w H h) (e : H a = some (.ins C dx fs)) : ∃ mA, ObjM h a dx C mA ∧ (∀ f, RelO (fs.lookup f) (mA f)) ∧ PySem.Within mA (fs.map (·.1)) ∧ fs.length ≤ 1000 ∧ H dx = some (.own a) := by
  obtain ⟨d, z, ne, ob, mA, n, r, q⟩ := (show ObjOk P w H h a (.ins C dx fs) from hok a _ e)
  exact ⟨mA, ⟨ob, n, ne⟩, r, q, z, d⟩
end

structure Cls (K : PySem.W.Frag) (C : Addr) : Prop where
  pg : PySem.W.plainGet K C Str.empty = true
  hd : PySem.W.hasDictIn K C = true
  po : PySem.W.plainOver K C = true
  sa : PySem.W.findIn K (.ref C) "__setattr__" = some (some (.builtin "object.__setattr__"))
theorem Cls.get {K : PySem.W.Frag} {C : Addr} (c : Cls K C) (f : Str) : PySem.W.plainGet K C f = true := c.pg
section
variable {X : Cx} {pins : List (Addr × Obj)} {σ : St} {H : Hp} {s : Shared} {a C dx : Addr} {fs : List (Str × V)} {f : Str} {v : V} {A : Around} {E : Value → Shared → Prop}

end

section
variable {X : Cx} {o e value : Expr} {f : Str} {pos pos' tpos : Pos} {ta tv : TE}
end

section
variable {X : Cx} {pins : List (Addr × Obj)} {σ : St} {H : Hp} {s : Shared} {A : Around} {E : Value → Shared → Prop} {Q : Value → Shared → Prop} {c : Value} {b : Bool}
inductive TyOf (K : PySem.W.Frag) (H : Hp) : V → Value → Prop where
  | non : TyOf K H .non (.type "NoneType")
  | bl (x : Bool) : TyOf K H (.bl x) (.type "bool")
  | int (i : Int) : TyOf K H (.int i) (.type "int")
  | str (x : Str) : TyOf K H (.str x) (.type "str")
  | flt (x : UInt64) : TyOf K H (.flt x) (.type "float")
  | lst {a : Addr} {xs : List V} (e : H a = some (.lst xs)) : TyOf K H (.ref a) (.type "list")
  | frz {a : Addr} {o : Obj} {xs : List V} (e : H a = some (.frz o (.lst xs))) : TyOf K H (.ref a) (.type "list")
  | tup {a : Addr} {xs : List V} (e : H a = some (.tup xs)) : TyOf K H (.ref a) (.type "tuple")
  | dK {a : Addr} {kvs : List (Key × V)} (e : H a = some (.dK kvs)) : TyOf K H (.ref a) (.type "dict")
  | dT {a : Addr} {kvs : List (List Key × V)} (e : H a = some (.dT kvs)) : TyOf K H (.ref a) (.type "dict")
  | ins {a C dx : Addr} {fs : List (Str × V)} (e : H a = some (.ins C dx fs)) (cl : Cls K C) (ha : PySem.W.findIn K (.ref C) "__class__" = some (some (.builtin "object.__class__")))
      (hn : PySem.W.specialIn K (.builtin "object.__class__") "__get__" = some (some (.builtin "getset_descriptor.__get__"))) (htk : PySem.W.takesIn K (.builtin "object.__class__") = some true)
      (hm : PySem.W.mroIn K C (.type "object") = some true) : TyOf K H (.ref a) (.ref C)
theorem isinst_ok {x : V} {u t : Value} (I : Inv X pins σ H s) (rx : RelV x u) (ty : TyOf X.K H x t) (e : PySem.W.kitOne X.K t c = some b) (h : ∀ tk, Q (.bool b) { s with toks := tk }) :
    wpAny (model X.prog X.w) A (call (.builtin "isinstance") [u, c]) Q E s := by
  cases ty with
  | non => cases (show u = Value.none from rx); exact PySem.W.kia_one PySem.W.kitx_none I.kIn True.intro e (fun z => nomatch z) h
  | bl y => cases (show u = Value.bool y from rx); exact PySem.W.kia_one PySem.W.kitx_bool I.kIn True.intro e (fun z => nomatch z) h
  | int i => obtain ⟨t, q⟩ := (show ∃ t, u = Value.int i t from rx); cases q; exact PySem.W.kia_one PySem.W.kitx_int I.kIn True.intro e (fun z => nomatch z) h
  | str y => obtain ⟨t, q⟩ := (show ∃ t, u = Value.str y t from rx); cases q; exact PySem.W.kia_one PySem.W.kitx_str I.kIn True.intro e (fun z => nomatch z) h
  | flt y => obtain ⟨t, q⟩ := (show ∃ t, u = Value.float y t from rx); cases q; exact PySem.W.kia_one PySem.W.kitx_float I.kIn True.intro e (fun z => nomatch z) h
  | @lst a xs ea =>
    cases (show u = Value.ref a from rx)
    obtain ⟨_, _, n, _, h1⟩ := (show ObjOk X.prog X.w H s.heap a (.lst xs) from I.hok a _ ea)
    exact PySem.W.kia_one PySem.W.kitx_list I.kIn ⟨_, h1, rfl⟩ e (fun z => nomatch z) h
  | @frz a ob xs ea =>
    cases (show u = Value.ref a from rx)
    obtain ⟨_, _, _, n, _, h1⟩ := (show ObjOk X.prog X.w H s.heap a (.frz ob (.lst xs)) from I.hok a _ ea)
    exact PySem.W.kia_one PySem.W.kitx_list I.kIn ⟨_, h1, rfl⟩ e (fun z => nomatch z) h
  | @tup a xs ea =>
    cases (show u = Value.ref a from rx)
    obtain ⟨_, _, _, p⟩ := (show ObjOk X.prog X.w H s.heap a (.tup xs) from I.hok a _ ea)
    obtain ⟨o, h1, h2, _⟩ := p
    exact PySem.W.kia_one PySem.W.kitx_tuple I.kIn ⟨o, h1, h2⟩ e (fun z => nomatch z) h
  | @dK a kvs ea =>
    cases (show u = Value.ref a from rx)
    obtain ⟨_, _, vs, _, p⟩ := (show ObjOk X.prog X.w H s.heap a (.dK kvs) from I.hok a _ ea)
    obtain ⟨o, es, ep, h1, h2, _⟩ := p
    exact PySem.W.kia_one PySem.W.kitx_dict I.kIn ⟨o, h1, h2.1⟩ e (fun z => nomatch z) h
  | @dT a kvs ea =>
    cases (show u = Value.ref a from rx)
    obtain ⟨_, _, xs, _, o, es, ep, h1, h2, _⟩ := (show ObjOk X.prog X.w H s.heap a (.dT kvs) from I.hok a _ ea)
    exact PySem.W.kia_one PySem.W.kitx_dict I.kIn ⟨o, h1, h2.1⟩ e (fun z => nomatch z) h
  | @ins a C dx fs ea cl ha hn htk hm =>
    cases (show u = Value.ref a from rx)
    obtain ⟨mA, O, _⟩ := ins_get I.hok ea
    obtain ⟨od, J, _⟩ := O.look
    exact PySem.W.kia_one (PySem.W.kitx_own (cl.get _) cl.hd ha hn htk hm) I.kIn J e (fun z => nomatch z) h
end
end L2

namespace L2
open PySem PySem.Spec PyProof.Rows

structure Room (k : Nat) (A : Around) : Prop where
  hd : A.handled = none
  dp : A.depth + 3 * k + 5 < recursionLimit
  un : A.units + 16 * k + 200 < cLine
  gd : A.guards = some []
theorem Room.mono {j k : Nat} {A : Around} (r : Room k A) (h : j ≤ k) : Room j A := ⟨r.hd, by have := r.dp; omega, by have := r.un; omega, r.gd⟩
theorem Room.deeper {k : Nat} {A : Around} (r : Room (k + 1) A) (env : Env) : Room k (A.deeper env) :=
  ⟨r.hd, by have := r.dp; show A.depth + 1 + 3 * k + 5 < _; omega, by have := r.un; show A.units + 3 + 16 * k + 200 < _; omega, r.gd⟩
theorem Room.depth {k : Nat} {A : Around} (r : Room k A) : A.depth < recursionLimit := by have := r.dp; omega
theorem Room.units {k : Nat} {A : Around} (r : Room k A) : A.units + 64 < cLine := by have := r.un; omega
def tNil : TA := fun _ H Q => Q [] H
def tCons (ta : TE) (tr : TA) : TA := fun σ H Q => ta σ H fun x H1 => tr σ H1 fun xs H2 => Q (x :: xs) H2
section
variable {X : Cx} {e : Expr} {es : List Expr} {te : TE} {t : TA} {pos : Pos}
theorem pa_nil : PA X [] tNil := fun _ _ _ _ H Q I h => Calls.spliced_nil ⟨[], H, I, .nil, h⟩
theorem pa_cons (ha : PE X e te) (hr : PA X es t) (hs : starEach (e :: es) X.env = (false, eval e X.env) :: starEach es X.env := by rfl) : PA X (e :: es) (tCons te t) := by
  intro pos pins s σ H Q I h
  rw [hs]
  show wpAny _ _ (spliced ((false, eval e X.env) :: backTo pos (starEach es X.env))) _ _ s
  refine Calls.spliced_cons (thn (ha pins s σ H _ I h) fun u s1 ⟨x, H1, I1, r1, q1⟩ => ?_)
  exact thn (hr pos pins s1 σ H1 _ I1 q1) fun us s2 ⟨xs, H2, I2, r2, q2⟩ => ⟨x :: xs, H2, I2, .cons r1 r2, q2⟩

def tTup (t : TA) : TE := fun σ H Q => t σ H fun xs H1 => xs.length ≤ sizeLine ∧ ∀ p, H1 p = none → Q (.ref p) (upd H1 p (.tup xs))
def tLst (t : TA) : TE := fun σ H Q => t σ H fun xs H1 => xs.length ≤ sizeLine ∧ ∀ p, H1 p = none → Q (.ref p) (upd H1 p (.lst xs))
theorem pe_tup {x1} (h : PA X es t) : PE X (.Tuple es x1 pos) (tTup t) := by
  intro pins s σ H Q I hq
  refine wpAny_Tuple_spliced (thn (h pos pins s σ H _ I hq) fun us s1 ⟨xs, H1, I1, r, z, q⟩ => ⟨by rw [← r.length]; exact z, ?_⟩)
  have hf : H1 s1.heap.objs.size = none := I1.hok.fresh (Nat.le_refl _)
  refine ⟨.ref s1.heap.objs.size, upd H1 s1.heap.objs.size (.tup xs), I1.laid (t' := s1.toks) (fun b u e => Heap.get?_push_of_some _ e) (Nat.le_refl _) ?_, rfl, q _ hf⟩
  exact ⟨z, us, r, ⟨_, Heap.get?_push_size _ rfl, rfl, _, rfl, rfl⟩⟩
theorem pe_lst (h : PA X es t) : PE X (.List es pos) (tLst t) := by
  intro pins s σ H Q I hq
  refine wpAny_List_spliced (thn (h pos pins s σ H _ I hq) fun us s1 ⟨xs, H1, I1, r, z, q⟩ => ⟨by rw [← r.length]; exact z, ?_⟩)
  have hf : H1 s1.heap.objs.size = none := I1.hok.fresh (Nat.le_refl _)
  refine ⟨.ref s1.heap.objs.size, upd H1 s1.heap.objs.size (.lst xs), I1.laid (t' := s1.toks) (fun b u e => Heap.get?_push_of_some _ e) (Nat.le_refl _) ?_, rfl, q _ hf⟩
  exact ⟨z, us, 0, r, Heap.get?_push_size _ rfl⟩
end

abbrev Sp := List V → Hp → VK → XK → Prop
abbrev CXT := List Env → Hp → Shared → XK → Value → Shared → Prop

structure Env0 (P : Program) (w : World) (K : PySem.W.Frag) (mg : Str → Option Value) (base : Heap) (A : Around) (outer : List Env) (s : Shared) (H : Hp) : Prop where
  frames : A.frames = some outer
  mod : Mod K mg base
  bs : ∀ b o, base.get? b = some o → s.heap.get? b = some o ∧ H b = none
  bsz : base.objs.size ≤ s.heap.objs.size
  funs : s.heap.FunFrames base outer
  frf : ∀ b ∈ frs outer, H b = none
  hok : HOk P w H s.heap
  bare : AllBare s.gens
def CE (outer : List Env) (P : Program) (w : World) (H : Hp) (s : Shared) (Q : VK) (u : Value) (s' : Shared) : Prop :=
  ∃ v H', s'.os = s.os ∧ AllBare s'.gens ∧ Un (frs outer) [] H H' s.heap s'.heap ∧ HOk P w H' s'.heap ∧ RelV v u ∧ Q v H'
def CR (CX : CXT) (outer : List Env) (P : Program) (w : World) (H : Hp) (s : Shared) (Q : VK) (E : XK) (r : Result) (s' : Shared) : Prop :=
  match r with
  | .ok (.ret u) => CE outer P w H s Q u s'
  | .ok _ => False
  | .error e => CX outer H s E e s'
structure FnOk (P : Program) (w : World) (K : PySem.W.Frag) (mg : Str → Option Value) (base : Heap) (CX : CXT) (k : Nat) (f : Addr) (fd : FuncData) (ps : List Str) (sp : Sp) : Prop where
  len : ∀ vs H Q E, sp vs H Q E → vs.length = ps.length
  run : ∀ (A : Around) (outer : List Env) (s : Shared) (H : Hp) (args : Args) (us : List Value) (vs : List V) (Q : VK) (E : XK), Room k A → Env0 P w K mg base A outer s H → BindsTo s fd args (ps.zip us) → Vals vs us → sp vs H Q E →
    codeAny (model P w) A (.call (.ref f) args) (CR CX outer P w H s Q E) s
section
variable {X : Cx} {pins : List (Addr × Obj)} {σ : St} {H : Hp} {s s' : Shared}
theorem Inv.env0 (I : Inv X pins σ H s) : Env0 X.prog X.w X.K X.mg X.base X.A X.stack s H :=
  ⟨I.ok.frames, I.ok.mod, I.bs, Nat.le_trans I.ok.bsz I.sz, I.stack, I.stkFree, I.hok, I.bare⟩
theorem Inv.after {Q : VK} {u : Value} (I : Inv X pins σ H s) (h : CE X.stack X.prog X.w H s Q u s') : EP X pins σ Q u s' := by
  obtain ⟨v, H', os, bare, un, hok, r, q⟩ := h
  obtain ⟨hh, g, d, t, os'⟩ := s'
  obtain rfl : os' = s.os := os
  exact ⟨v, H', I.call (h' := hh) (g' := g) (d' := d) (t' := t) (ch := []) un hok bare (fun b z => absurd z (by simp)), r, q⟩
end

def tCall (sp : Sp) (dvs : List V) (E : XK) (t : TA) : TE := fun σ H Q => t σ H fun vs H1 => sp (vs ++ dvs) H1 Q E
def Binds (K : PySem.W.Frag) (fd : FuncData) (ps : List Str) (ds : List Value) : Prop :=
  ∀ (s : Shared) (us : List Value), K.In s.heap → (us ++ ds).length = ps.length → BindsTo s fd ⟨us, []⟩ (ps.zip (us ++ ds))
theorem Binds.all {K : PySem.W.Frag} {fd : FuncData} {ps : List Str} (h : ∀ us : List Value, us.length = ps.length → bindArgs fd ⟨us, []⟩ = pure (ps.zip us)) : Binds K fd ps [] := fun s us _ hl => by
  rw [List.append_nil] at hl ⊢
  exact .of_eq (h us hl)

def Passes (CX : CXT) (X : Cx) (E : XK) : Prop := ∀ (pins : List (Addr × Obj)) (σ : St) (H : Hp) (s : Shared) (e : Value) (s' : Shared), Inv X pins σ H s → CX X.stack H s E e s' → X.xe e s'

section
variable {X : Cx} {CX : CXT} {k : Nat} {f C : Addr} {fd : FuncData} {ps : List Str} {sp : Sp} {dvs : List V} {ds : List Value} {E : XK} {x m : Str} {p pos apos : Pos} {e o : Expr} {es : List Expr} {ta : TE} {t : TA}

theorem run_fn {pins : List (Addr × Obj)} {σ : St} {H : Hp} {s : Shared} {Q : VK} {us : List Value} {vs : List V} (F : FnOk X.prog X.w X.K X.mg X.base CX k f fd ps sp) (hr : Room k X.A) (hb : Binds X.K fd ps ds) (hd : Vals dvs ds) (hx : Passes CX X E)
    (I : Inv X pins σ H s) (r : Vals vs us) (h : sp (vs ++ dvs) H Q E) : wpAny (model X.prog X.w) X.A (call (.ref f) us) (EP X pins σ Q) X.xe s := by
  have r2 : Vals (vs ++ dvs) (us ++ ds) := r.append hd
  have hl : (us ++ ds).length = ps.length := by rw [← r2.length]; exact F.len _ _ _ _ h
  refine wpAny_call (codeAny_mono (F.run X.A X.stack s H ⟨us, []⟩ (us ++ ds) (vs ++ dvs) Q E hr I.env0 (hb s us I.kIn hl) r2 h) fun r s' hq => ?_)
  cases r with
  | error e => exact hx pins σ H s e s' I hq
  | ok fl =>
    cases fl with
    | ret u => exact I.after hq
    | next => exact False.elim hq
    | brk => exact False.elim hq
    | cont => exact False.elim hq

theorem pe_call (F : FnOk X.prog X.w X.K X.mg X.base CX k f fd ps sp) (hr : Room k X.A) (hg : Gl X x) (hm : X.mg x = some (.ref f)) (hk : PySem.W.keepIn X.K (.ref f) = true) (hb : Binds X.K fd ps ds) (hd : Vals dvs ds) (hx : Passes CX X E)
    (ha : PA X (e :: es) t) (hdb : (x == ("__debug__" : Str)) = false := by decide) (he : starEach (e :: es) X.env = (false, eval e X.env) :: starEach es X.env := by rfl) (hpl : (backTo pos (starEach es X.env)).any (·.1) = false := by rfl) :
    PE X (.Call (.Name x p) (e :: es) [] pos) (tCall sp dvs E t) := by
  intro pins s σ H Q I h
  refine wpAny_Call_Name_kw (ld_glob I hg hm ?_ hdb)
  refine PySem.W.callWith_K (h₀ := X.base) I.ok.mod.kin hk (thn (ha pos pins s σ H _ I h) fun us s1 ⟨vs, H1, I1, r, q⟩ => ⟨I1.kIn, ?_⟩) he hpl
  exact run_fn F hr hb hd hx I1 r q
end

section
variable {X : Cx} {CX : CXT} {k : Nat} {f C : Addr} {fd : FuncData} {ps ks : List Str} {sp : Sp} {E : XK} {x m : Str} {p pos apos kpos : Pos} {e o : Expr} {es : List Expr} {kws : List Keyword} {te ta : TE} {t tk : TA} {nm : Option Str}
variable {g : List Value → List Value → List Value} {gV : List V → List V → List V}
end

structure FnScope (N P : List Str) (sc : Scope) : Prop where
  kind : sc.kind = .function
  co : sc.isCoroutine = false
  gen : sc.isGenerator = false
  nd : N.Nodup
  pre : N.take P.length = P
  par : ∀ x ∈ P, sc.names.lookup x = some .local ∨ sc.names.lookup x = some .cell
  nofree : ∀ y ∈ sc.names, y.2 ≠ .free

theorem bindL_out {kindOf : Str → Option NameKind} {x : Str} : ∀ {binds : List (Str × Value)} {m : Str → Option Value}, (∀ v, (x, v) ∉ binds) → bindL kindOf binds m x = m x
  | [], _, _ => rfl
  | (n, v) :: r, m, h => by
    unfold bindL
    rw [bindL_out fun w hw => h w (List.mem_cons_of_mem _ hw)]
    split
    · have : x ≠ n := by rintro rfl; exact h v List.mem_cons_self
      simp [this]
    · rfl
theorem bindC_out {kindOf : Str → Option NameKind} {x : Str} : ∀ {binds : List (Str × Value)} {m : Str → Option Value}, (∀ v, (x, v) ∉ binds) → bindC kindOf binds m x = m x
  | [], _, _ => rfl
  | (n, v) :: r, m, h => by
    unfold bindC
    rw [bindC_out fun w hw => h w (List.mem_cons_of_mem _ hw)]
    split
    · rfl
    · have : x ≠ n := by rintro rfl; exact h v List.mem_cons_self
      simp [this]
theorem bindL_get {kindOf : Str → Option NameKind} {x : Str} {v : Value} : ∀ {P : List Str} {vs : List Value} {i : Nat} {m : Str → Option Value}, P.Nodup → P[i]? = some x → vs[i]? = some v → kindOf x = some .local →
    bindL kindOf (P.zip vs) m x = some v
  | [], _, _, _, _, h, _, _ => by simp at h
  | _ :: _, [], _, _, _, _, h, _ => by simp at h
  | p :: P, w :: vs, 0, m, nd, h1, h2, hk => by
    simp at h1 h2; subst h1; subst h2
    show bindL kindOf ((p, w) :: P.zip vs) m p = _
    unfold bindL
    rw [bindL_out fun v hv => (List.nodup_cons.mp nd).1 (List.of_mem_zip hv).1, if_pos hk]
    simp
  | p :: P, w :: vs, i + 1, m, nd, h1, h2, hk => by
    show bindL kindOf ((p, w) :: P.zip vs) m x = _
    unfold bindL
    exact bindL_get (i := i) (List.nodup_cons.mp nd).2 (by simpa using h1) (by simpa using h2) hk
theorem bindC_get {kindOf : Str → Option NameKind} {x : Str} {v : Value} : ∀ {P : List Str} {vs : List Value} {i : Nat} {m : Str → Option Value}, P.Nodup → P[i]? = some x → vs[i]? = some v → kindOf x ≠ some .local →
    bindC kindOf (P.zip vs) m x = some v
  | [], _, _, _, _, h, _, _ => by simp at h
  | _ :: _, [], _, _, _, _, h, _ => by simp at h
  | p :: P, w :: vs, 0, m, nd, h1, h2, hk => by
    simp at h1 h2; subst h1; subst h2
    show bindC kindOf ((p, w) :: P.zip vs) m p = _
    unfold bindC
    rw [bindC_out fun v hv => (List.nodup_cons.mp nd).1 (List.of_mem_zip hv).1, if_neg hk]
    simp
  | p :: P, w :: vs, i + 1, m, nd, h1, h2, hk => by
    show bindC kindOf ((p, w) :: P.zip vs) m x = _
    unfold bindC
    exact bindC_get (i := i) (List.nodup_cons.mp nd).2 (by simpa using h1) (by simpa using h2) hk

def start (N : List Str) (vs : List V) : St := vs.map some ++ List.replicate (N.length - vs.length) none

def cxOf (CX : CXT) (P : Program) (w : World) (K : PySem.W.Frag) (mg : Str → Option Value) (base : Heap) (N : List Str) (qual : Str) (scope : Scope) (f : Addr) (cd : Value) (A : Around) (outer : List Env) (s : Shared) (H : Hp) (E : XK) : Cx where
  prog := P
  w := w
  K := K
  mg := mg
  base := base
  A := A.deeper (envOfC qual scope s.heap.objs.size f cd)
  N := N
  s₀ := s
  H₀ := H
  env := envOfC qual scope s.heap.objs.size f cd
  outer := outer
  stack := envOfC qual scope s.heap.objs.size f cd :: outer
  ex := []
  calm := true
  fn := fun _ => true
  pn := []
  xe := fun e s' => wpAny (model P w) (A.deeper (envOfC qual scope s.heap.objs.size f cd)) (leaving (envOfC qual scope s.heap.objs.size f cd) e) (fun _ s'' => CX outer H s E e s'') (fun e' s'' => CX outer H s E e' s'') s'

theorem cell_has {sc : Scope} {n : Nat} {x : Str} (h : sc.names.lookup x = some .cell) : ∃ c, (cellsFrom n sc.names []).lookup x = some c := by
  have q := PySem.W.cellsFrom_some sc.names n [] (.inl h)
  exact Option.isSome_iff_exists.mp q

theorem inv_start {CX : CXT} {P : Program} {w : World} {K : PySem.W.Frag} {mg : Str → Option Value} {base : Heap} {N ps : List Str} {qual : Str} {scope : Scope} {f : Addr} {cd : Value} {A : Around} {outer : List Env} {s s1 : Shared} {H : Hp} {E : XK} {us : List Value} {vs : List V}
    (S : FnScope N ps scope) (hd : A.handled = none) (e0 : Env0 P w K mg base A outer s H) (hl : vs.length = ps.length) (r : Vals vs us)
    (x : InCallC s s.heap.objs.size (bindL (envOfC qual scope s.heap.objs.size f cd).kindOf (ps.zip us) fun _ => none) (cellsFrom (s.heap.objs.size + 1) scope.names []) (bindC (envOfC qual scope s.heap.objs.size f cd).kindOf (ps.zip us) fun _ => none) s1) :
    Inv (cxOf CX P w K mg base N qual scope f cd A outer s H E) [] (start N vs) H s1 := by
  have hpl : ps.length ≤ N.length := by have := congrArg List.length S.pre; rw [List.length_take] at this; omega
  obtain ⟨h1, tk, rfl, hk⟩ := x.done
  have noA : ∀ b : Addr, b ∉ (cxOf CX P w K mg base N qual scope f cd A outer s H E).ex := fun b z => absurd (show b ∈ ([] : List Addr) from z) (by simp)
  refine ⟨⟨e0.mod, S.kind, rfl, rfl, Nat.le_refl _, fun y z c h1 h2 => ?_, fun y hy => ?_, fun y c _ h => ?_, fun _ => hd, Around.frames_deeper e0.frames, .inr ⟨rfl, rfl⟩, fun b z => absurd z (noA b), e0.bs, e0.bsz, fun b _ _ => noA b, fun b z => absurd z (noA b), e0.funs, e0.frf⟩,
    rfl, e0.bare, Un.kept hk, ⟨_, x.toInCall.ns, fun i y v h1 h2 h3 => ?_⟩, fun y c h => ⟨_, x.cell y c h⟩, e0.hok.fresh (Nat.le_refl _), fun y c h => ?_, fun p hp => absurd (show p ∈ ([] : List (Addr × Obj)) from hp) (by simp), e0.hok.kept hk, ?_⟩
  · exact name_of_addr x.apart (PySem.mem_of_lookup h1) (PySem.mem_of_lookup h2)
  · have hy : scope.names.lookup y = some .cell ∨ scope.names.lookup y = some .free := hy
    rcases hy with hy | hy
    · exact cell_has hy
    · exact absurd rfl (S.nofree _ (PySem.mem_of_lookup hy))
  · exact Nat.le_of_lt (x.above y c (PySem.mem_of_lookup h))
  · have hi : i < vs.length := by
      unfold start at h2
      by_cases hi : i < vs.length
      · exact hi
      · rw [List.getElem?_append_right (by simpa using hi)] at h2
        rw [List.getElem?_replicate] at h2
        split at h2 <;> cases h2
    have ha : vs[i]? = some v := by
      unfold start at h2
      rw [List.getElem?_append_left (by simpa using hi), List.getElem?_map] at h2
      cases e : vs[i]? with
      | none => rw [e] at h2; cases h2
      | some a => rw [e] at h2; cases h2; rfl
    obtain ⟨u, hu, rv⟩ := r.get ha
    have hp : ps[i]? = some y := by
      rw [← S.pre, List.getElem?_take_of_lt (by omega)]; exact h1
    have ndP : ps.Nodup := by rw [← S.pre]; exact S.nd.sublist (List.take_sublist _ _)
    refine ⟨u, rv, ?_⟩
    rcases S.par y (List.mem_of_getElem? hp) with k | k
    · exact .inl ⟨k, bindL_get ndP hp hu k⟩
    · obtain ⟨c, e⟩ := cell_has (n := s.heap.objs.size + 1) k
      refine .inr ⟨.inl k, c, e, ?_⟩
      have q := x.cell y c e
      rw [bindC_get ndP hp hu (by show scope.names.lookup y ≠ _; rw [k]; decide)] at q
      exact q
  · exact e0.hok.fresh (Nat.le_of_lt (x.above y c (PySem.mem_of_lookup h)))
  · unfold start
    show _ = N.length
    rw [List.length_append, List.length_map, List.length_replicate]
    omega

theorem fn_of {CX : CXT} {P : Program} {w : World} {K : PySem.W.Frag} {mg : Str → Option Value} {base : Heap} {k : Nat} {f : Addr} {name qual : Str} {params : Arguments} {body : List Stmt} {scope : Scope} {dV kV doc pm cdv ct oc : Value} {an od : Option Addr}
    {osl : Array (Option Value)} {N ps : List Str} {sp : Sp} (lk : K.lookup f = some ⟨oc, od, .func (PySem.W.fnOf name qual params body scope dV kV doc pm an cdv ct), osl⟩) (hcd : PySem.W.codeIn K cdv qual = true) (S : FnScope N ps scope)
    (len : ∀ vs H Q E, sp vs H Q E → vs.length = ps.length)
    (hbody : ∀ (A : Around) (outer : List Env) (s : Shared) (H : Hp) (vs : List V) (Q : VK) (E : XK), Room k (A.deeper (envOfC qual scope s.heap.objs.size f cdv)) → sp vs H Q E →
      ∃ t, PSs (cxOf CX P w K mg base N qual scope f cdv A outer s H E) body t ∧ t { nx := fun _ H' => Q .non H', rt := Q } (start N vs) H) :
    FnOk P w K mg base CX (k + 1) f (PySem.W.fnOf name qual params body scope dV kV doc pm an cdv ct) ps sp := by
  refine ⟨len, fun A outer s H args us vs Q E hr e0 hb r hsp => ?_⟩
  have hl := len _ _ _ _ hsp
  have KX : K.In s.heap := e0.mod.kin.keeps fun b o e => (e0.bs b o e).1
  have lim : s.heap.NoLimit := e0.mod.nolimit.keeps fun b o e => (e0.bs b o e).1
  have hkind : ∀ y ∈ ps.zip us, scope.names.lookup y.1 = some .local ∨ (scope.names.lookup y.1 = some .cell ∧ ((cellsFrom (s.heap.objs.size + 1) scope.names []).lookup y.1).isSome = true) := fun ⟨n, v⟩ hy => by
    rcases S.par n (List.of_mem_zip hy).1 with q | q
    · exact .inl q
    · exact .inr ⟨q, PySem.W.cellsFrom_some _ _ _ (.inl q)⟩
  refine codeAny_call_function hr.depth (KX _ _ lk) rfl S.co S.gen rfl (PySem.W.codeRec_of KX hcd) (hb _ _ _ _ ?_)
  refine wpAny_newFunctionEnv_cells S.kind hkind fun env he s1 x => ?_
  subst he
  refine ⟨lim.keeps x.toInCall.keep, codeAny_func ?_⟩
  obtain ⟨t, ht, hq⟩ := hbody A outer s H vs Q E (hr.deeper _) hsp
  have I : Inv (cxOf CX P w K mg base N qual scope f cdv A outer s H E) [] (start N vs) H s1 := inv_start S hr.hd e0 hl r x
  refine wpAny_mono (ht [] s1 (start N vs) H _ I hq) (fun fl s' hs => ?_) fun e s' hs => hs
  have fin : ∀ {σ' : St} {H' : Hp} {v : V} {u : Value}, Inv (cxOf CX P w K mg base N qual scope f cdv A outer s H E) [] σ' H' s' → RelV v u → Q v H' → CE outer P w H s Q u s' :=
    fun {σ' H' v u} J rv q => ⟨v, H', J.os, J.bare, J.base, J.hok, rv, q⟩
  cases fl with
  | ret u =>
    obtain ⟨v, σ', H', J, rv, q⟩ := hs
    exact fin J rv q
  | next =>
    obtain ⟨σ', H', J, q⟩ := hs
    exact fin (v := V.non) (u := Value.none) J rfl q
  | brk =>
    obtain ⟨_, _, _, q⟩ := hs
    exact False.elim q
  | cont =>
    obtain ⟨_, _, _, q⟩ := hs
    exact False.elim q
end L2

namespace L2
open PySem PySem.Spec PyProof.Rows
section
variable {X : Cx} {x : Str} {p pos : Pos} {e : Expr} {es : List Expr} {t : TA} {id T : String} {r : List V → Hp → VK → Prop}

def tCB (r : List V → Hp → VK → Prop) (t : TA) : TE := fun σ H Q => t σ H fun vs H1 => r vs H1 Q
theorem pe_callB (hc : CallR X (.builtin id) r) (hg : Gl X x) (hm : X.mg x = none) (hv : bootBuiltins x = some (.builtin id)) (ha : PA X (e :: es) t) (hn : x ≠ "__name__" := by decide) (hdb : (x == ("__debug__" : Str)) = false := by decide)
    (he : starEach (e :: es) X.env = (false, eval e X.env) :: starEach es X.env := by rfl) (hpl : (backTo pos (starEach es X.env)).any (·.1) = false := by rfl) : PE X (.Call (.Name x p) (e :: es) [] pos) (tCB r t) := by
  intro pins s σ H Q I h
  refine wpAny_Call_Name_kw (ld_blt I hg hm hv ?_ hn hdb)
  exact PyProof.Rows.callWith_builtin1 (thn (ha pos pins s σ H _ I h) fun us s1 ⟨vs, H1, I1, r1, q1⟩ => hc pins s1 σ H1 vs us Q I1 r1 q1) he hpl
theorem pe_callTy (hc : CallR X (.type T) r) (hg : Gl X x) (hm : X.mg x = none) (hv : bootBuiltins x = some (.type T)) (ha : PA X (e :: es) t) (hn : x ≠ "__name__" := by decide) (hdb : (x == ("__debug__" : Str)) = false := by decide)
    (he : starEach (e :: es) X.env = (false, eval e X.env) :: starEach es X.env := by rfl) (hpl : (backTo pos (starEach es X.env)).any (·.1) = false := by rfl) : PE X (.Call (.Name x p) (e :: es) [] pos) (tCB r t) := by
  intro pins s σ H Q I h
  refine wpAny_Call_Name_kw (ld_blt I hg hm hv ?_ hn hdb)
  exact PyProof.Rows.callWith_type1 (thn (ha pos pins s σ H _ I h) fun us s1 ⟨vs, H1, I1, r1, q1⟩ => hc pins s1 σ H1 vs us Q I1 r1 q1) he hpl
end
end L2

namespace HT
open PySem PyProof.Rows

section
open PySem.SeqAt
open PySem.AutoSeq1 (wpAny_loadPart')
open PySem.MeetsSeq PySem.MeetsSeq2 PySem.MeetsSeq3

end

section
variable {prog : Program} {w : World} {A : Around} {E : Value → Shared → Prop} {s : Shared}

def sIx (n d : Nat) : Option Int → Nat
  | none => d
  | some v => if v < 0 then (v + (n : Int)).toNat else min v.toNat n
theorem sIx_none (n d : Nat) : sIx n d none = d := rfl
theorem sIx_nat (n d k : Nat) : sIx n d (some (k : Int)) = min k n := by
  show (if (k : Int) < 0 then ((k : Int) + (n : Int)).toNat else min (k : Int).toNat n) = min k n
  rw [if_neg (by omega), Int.toNat_natCast]
end
end HT

namespace L2
open PySem PySem.Spec PyProof.Rows

abbrev TO := St → Hp → (Option Int → Hp → Prop) → Prop
def PO (X : Cx) (e : Option Expr) (t : TO) : Prop :=
  ∀ (pins : List (Addr × Obj)) (s : Shared) (σ : St) (H : Hp) (Q : Option Int → Hp → Prop), Inv X pins σ H s → t σ H Q →
    wpAny (model X.prog X.w) X.A (evalPart e X.env) (fun u s' => ∃ o H', Inv X pins σ H' s' ∧ IsPart u o ∧ Q o H') X.xe s
def tNoPart : TO := fun _ H Q => Q none H
def tPart (t : TE) : TO := fun σ H Q => t σ H fun x H1 => ∃ i, x = .int i ∧ Q (some i) H1

section
variable {X : Cx} {e : Expr} {te : TE} {lo hi : Option Expr} {tl th : TO} {pos p2 : Pos}

theorem po_none : PO X none tNoPart := by
  intro pins s σ H Q I h
  rw [evalPart_none]
  exact wpAny_pure ⟨none, H, I, .none, h⟩
theorem po_some (h : PE X e te) : PO X (some e) (tPart te) := by
  intro pins s σ H Q I hw
  rw [evalPart_some]
  refine thn (h pins s σ H _ I hw) fun u s1 ⟨x, H1, I1, r1, q1⟩ => ?_
  obtain ⟨i, rfl, q⟩ := q1
  obtain ⟨t, rfl⟩ := r1
  exact ⟨some i, H1, I1, .int i t, q⟩

def SlR (X : Cx) (r : V → Option Int → Option Int → Hp → VK → Prop) : Prop :=
  ∀ (pins : List (Addr × Obj)) (s : Shared) (σ : St) (H : Hp) (x : V) (v vl vu : Value) (lo hi : Option Int) (sl : Addr) (Q : VK), Inv X pins σ H s → RelV x v → s.heap.IsSliceOf sl vl vu .none → IsPart vl lo → IsPart vu hi → r x lo hi H Q →
    ∃ T id, typeLookup (.type T) "__getitem__" = pure (some (.builtin id)) ∧ s.TypeIs v T ∧ wpAny (model X.prog X.w) X.A (getItem v (.ref sl)) (EP X pins σ Q) X.xe s
def tSl (r : V → Option Int → Option Int → Hp → VK → Prop) (te : TE) (tl th : TO) : TE := fun σ H Q => te σ H fun x H1 => tl σ H1 fun l H2 => th σ H2 fun u H3 => r x l u H3 Q
theorem pe_slice {r : V → Option Int → Option Int → Hp → VK → Prop} (hr : SlR X r) (he : PE X e te) (hl : PO X lo tl) (hu : PO X hi th) : PE X (.Subscript e (.Slice lo hi none p2) pos) (tSl r te tl th) := by
  intro pins s σ H Q I h
  refine Subscript_ (thn (he pins s σ H _ I h) fun v s1 ⟨x, H1, I1, r1, q1⟩ => ?_)
  refine wpAny_Slice (thn (hl pins s1 σ H1 _ I1 q1) fun vl s2 ⟨l, H2, I2, pl, q2⟩ => thn (hu pins s2 σ H2 _ I2 q2) fun vu s3 ⟨u, H3, I3, pu, q3⟩ => ?_)
  rw [evalPart_none]
  refine wpAny_pure ?_
  have I4 : Inv X pins σ H3 { s3 with heap := s3.heap.push { cls := .type "slice", data := .fields #[vl, vu, .none] } } := I3.kept (t' := s3.toks) fun b ob q => Heap.get?_push_of_some _ q
  obtain ⟨T, id, hT, ht, hg⟩ := hr pins { s3 with heap := s3.heap.push { cls := .type "slice", data := .fields #[vl, vu, .none] } } σ H3 x v vl vu l u s3.heap.objs.size Q I4 r1 (Heap.IsSliceOf.new ..) pl pu q3
  show wpAny (model X.prog X.w) X.A (subscriptTail e (.Slice lo hi none p2) v (.ref s3.heap.objs.size)) (EP X pins σ Q) X.xe { s3 with heap := s3.heap.push { cls := .type "slice", data := .fields #[vl, vu, .none] } }
  exact tail_any (ops := [.ref s3.heap.objs.size, v]) ht hT hg (by with_unfolding_all rfl)

def cutV (xs : List V) (lo hi : Option Int) : List V := (xs.drop (HT.sIx xs.length 0 lo)).take (HT.sIx xs.length xs.length hi - HT.sIx xs.length 0 lo)
theorem cutV_length (xs : List V) (lo hi : Option Int) : (cutV xs lo hi).length ≤ xs.length := by
  unfold cutV
  rw [List.length_take, List.length_drop]
  omega
end
end L2

namespace L2
open PySem PySem.Spec PyProof.Rows

def ixN (n : Nat) (i : Int) : Option Nat := if 0 ≤ i then (if i < n then some i.toNat else none) else if -(n : Int) ≤ i then some (i + n).toNat else none
def atI {α : Type} (xs : List α) (i : Int) : Option α := (ixN xs.length i).bind fun j => xs[j]?
theorem ixN_seq {n : Nat} {i : Int} {j : Nat} (h : ixN n i = some j) : seqIndex? i n = some j ∧ j < n ∧ -(n : Int) ≤ i ∧ i < n := by
  unfold ixN at h
  by_cases h0 : 0 ≤ i
  · rw [if_pos h0] at h
    by_cases h1 : i < n
    · rw [if_pos h1] at h
      have e : i.toNat = j := Option.some.inj h
      exact ⟨by rw [seqIndex_of h0 h1, e], by omega, by omega, h1⟩
    · rw [if_neg h1] at h; cases h
  · rw [if_neg h0] at h
    by_cases h1 : -(n : Int) ≤ i
    · rw [if_pos h1] at h
      have e : (i + n).toNat = j := Option.some.inj h
      exact ⟨by rw [seqIndex_neg (by omega) h1, e], by omega, h1, by omega⟩
    · rw [if_neg h1] at h; cases h
theorem atI_get {α : Type} {xs : List α} {i : Int} {v : α} (h : atI xs i = some v) : ∃ j, seqIndex? i xs.length = some j ∧ xs[j]? = some v ∧ j < xs.length ∧ -(xs.length : Int) ≤ i ∧ i < xs.length := by
  unfold atI at h
  cases e : ixN xs.length i with
  | none => rw [e] at h; cases h
  | some j =>
    rw [e] at h
    obtain ⟨h1, h2, h3, h4⟩ := ixN_seq e
    exact ⟨j, h1, h, h2, h3, h4⟩
theorem atI_nat {α : Type} {xs : List α} {j : Nat} {v : α} (h : xs[j]? = some v) : atI xs (j : Int) = some v := by
  have hj : j < xs.length := (List.getElem?_eq_some_iff.mp h).1
  have e : ixN xs.length (j : Int) = some j := by
    unfold ixN
    rw [if_pos (by omega), if_pos (by omega)]; simp
  unfold atI; rw [e]; exact h
theorem atI_last {α : Type} (xs : List α) (v : α) : atI (xs ++ [v]) (-1) = some v := by
  have hl : (xs ++ [v]).length = xs.length + 1 := by simp
  have e : ixN (xs ++ [v]).length (-1) = some xs.length := by
    unfold ixN
    rw [hl, if_neg (by decide), if_pos (by omega)]
    congr 1
    omega
  unfold atI
  rw [e]
  show (xs ++ [v])[xs.length]? = some v
  simp

def PlainIx (b : Expr) : Prop := ∀ o i, subscripted b false o i = operate [o, i] (getItem o i)
def IxR (X : Cx) (r : R2) : Prop :=
  ∀ (value slice : Expr) (pins : List (Addr × Obj)) (s : Shared) (σ : St) (H : Hp) (x y : V) (v u : Value) (Q : VK), Inv X pins σ H s → RelV x v → RelV y u → r x y H Q →
    subscripted slice false v u = operate [v, u] (getItem v u) → wpAny (model X.prog X.w) X.A (subscriptTail value slice v u) (EP X pins σ Q) X.xe s
def MtR (X : Cx) (id : String) (r : V → List V → Hp → VK → Prop) : Prop :=
  ∀ (pins : List (Addr × Obj)) (s : Shared) (σ : St) (H : Hp) (x : V) (xs : List V) (v : Value) (us : List Value) (Q : VK), Inv X pins σ H s → RelV x v → Vals xs us → r x xs H Q →
    wpAny (model X.prog X.w) X.A (call (.builtin id) (v :: us)) (EP X pins σ Q) X.xe s
section
variable {X : Cx} {a b : Expr} {ta tb : TE} {pos : Pos}
theorem pe_ix {r : R2} (hr : IxR X r) (ha : PE X a ta) (hb : PE X b tb) (hs : PlainIx b) : PE X (.Subscript a b pos) (tOp r ta tb) := by
  intro pins s σ H Q I h
  exact Subscript_ (binT ha hb I h fun v u s2 x y H2 I2 rx ry q => hr a b pins s2 σ H2 x y v u Q I2 rx ry q (hs _ _))

def rIxL (K : PySem.W.Frag) : R2 := fun x y H Q => ∃ p xs i v, x = .ref p ∧ y = .int i ∧ SqL K H p xs ∧ atI xs i = some v ∧ Q v H
def rIxT (K : PySem.W.Frag) : R2 := fun x y H Q => ∃ p xs i v, x = .ref p ∧ y = .int i ∧ SqT K H p xs ∧ atI xs i = some v ∧ Q v H
theorem ix_list : IxR X (rIxL X.K) := by
  intro value slice pins s σ H x y v u Q I rx ry h hs
  obtain ⟨p, xs, i, z, rfl, rfl, hq, he, q⟩ := h
  cases rx
  obtain ⟨t, rfl⟩ := ry
  obtain ⟨its, r, pl, hz⟩ := I.list hq
  obtain ⟨j, h1, h2, h3, h4, h5⟩ := atI_get he
  obtain ⟨w, ew, rw'⟩ := r.get h2
  have hl := r.length
  have hn := line63
  have fin : EP X pins σ Q w s := ⟨z, H, I, rw', q⟩
  by_cases h0 : 0 ≤ i
  · have hj : i.toNat = j := by
      rw [seqIndex_of h0 h5] at h1
      exact Option.some.inj h1
    exact item_listR pl.isList h0 (by omega) (by rw [hj]; simpa using ew) fin hs
  · have hj : (i + (its.toArray.size : Int)).toNat = j := by
      rw [seqIndex_neg (by omega) h4] at h1
      rw [List.size_toArray, ← hl]
      exact Option.some.inj h1
    exact subscriptTail_builtinR (x := w) pl.isList.typeIs slot_list_getitem.lookup
      (wpAny_getItem_list_neg (Q := fun r s' => r = w ∧ EP X pins σ Q r s') pl.isList (by omega) (by rw [List.size_toArray] <;> omega) (by omega) (by rw [hj]; simpa using ew) ⟨rfl, fin⟩) hs
theorem ix_tup : IxR X (rIxT X.K) := by
  intro value slice pins s σ H x y v u Q I rx ry h hs
  obtain ⟨p, xs, i, z, rfl, rfl, hq, he, q⟩ := h
  cases rx
  obtain ⟨t, rfl⟩ := ry
  obtain ⟨its, r, pl, hz⟩ := I.tuple hq
  obtain ⟨j, h1, h2, h3, h4, h5⟩ := atI_get he
  obtain ⟨w, ew, rw'⟩ := r.get h2
  have hl := r.length
  have hn := line63
  have fin : EP X pins σ Q w s := ⟨z, H, I, rw', q⟩
  exact subscriptTail_builtinR (x := w) pl.typeIs slot_tuple_getitem.lookup
    (getItem_tuple (j := j) (Q := fun r s' => r = w ∧ EP X pins σ Q r s') pl (by omega) (by omega) (by rw [List.size_toArray, ← hl]; exact h1) (by simpa using ew) ⟨rfl, fin⟩) hs
theorem mapSeq_set (its : List Value) (n j : Nat) (u : Value) : Obj.mapSeq (·.setIfInBounds j u) { cls := .type "list", data := .seq its.toArray n } = { cls := .type "list", data := .seq (its.set j u).toArray n } := by
  simp [Obj.mapSeq]
theorem Inv.lst {pins : List (Addr × Obj)} {σ : St} {H : Hp} {s : Shared} {p : Addr} {xs : List V} (I : Inv X pins σ H s) (h : H p = some (.lst xs)) :
    ∃ (its : List Value) (n : Nat), Vals xs its ∧ s.heap.get? p = some { cls := .type "list", data := .seq its.toArray n } ∧ xs.length ≤ sizeLine := by
  obtain ⟨z, its, n, r, e⟩ := I.hok p _ h
  exact ⟨its, n, r, e, z⟩
theorem Inv.lstUpd {pins : List (Addr × Obj)} {σ : St} {H : Hp} {s : Shared} {p : Addr} {xs ys : List V} {its its' : List Value} {n n' : Nat} {f : Obj → Obj} (I : Inv X pins σ H s) (h : H p = some (.lst xs))
    (ho : s.heap.get? p = some { cls := .type "list", data := .seq its.toArray n }) (hf : f { cls := .type "list", data := .seq its.toArray n } = { cls := .type "list", data := .seq its'.toArray n' }) (r : Vals ys its') (hz : ys.length ≤ sizeLine) (t : Nat) :
    Inv X pins σ (upd H p (.lst ys)) { s with heap := s.heap.update p f, toks := t } := by
  have e : (s.heap.update p f).get? p = some { cls := .type "list", data := .seq its'.toArray n' } := by
    rw [Heap.get?_update_self f ho (by rw [hf] <;> rfl), hf]
  refine I.write (x := p) (e := p) (by rw [h]; trivial) (.inl rfl) (fun b u hb q => (Heap.get?_update_other _ _ (Ne.symm hb)).trans q) ⟨_, e⟩ ?_
  exact ⟨hz, its', n', r, e⟩
def rSetL : V → V → V → Hp → (Hp → Prop) → Prop := fun o i v H Q => ∃ p xs k j, o = .ref p ∧ i = .int k ∧ H p = some (.lst xs) ∧ ixN xs.length k = some j ∧ Q (upd H p (.lst (xs.set j v)))
theorem set_list : PSet X rSetL := by
  intro pins s σ H o i v ov iv u Q I ro ri rv h
  obtain ⟨p, xs, k, j, rfl, rfl, hp, hj, q⟩ := h
  cases ro
  obtain ⟨t, rfl⟩ := ri
  obtain ⟨its, n, r, ho, hz⟩ := I.lst hp
  obtain ⟨h1, h2, h3, h4⟩ := ixN_seq hj
  have hl := r.length
  have hn := line63
  have I' : Inv X pins σ (upd H p (.lst (xs.set j v))) { s with heap := s.heap.update p (Obj.mapSeq (·.setIfInBounds j u)) } :=
    I.lstUpd hp ho (mapSeq_set its n j u) (r.set rv j) (by rw [List.length_set]; exact hz) s.toks
  by_cases h0 : 0 ≤ k
  · have hk : k.toNat = j := by
      rw [seqIndex_of h0 h4] at h1
      exact Option.some.inj h1
    exact PySem.W.ki_setAt ho h0 (by omega) (by rw [List.size_toArray, ← hl]; exact h4) (by rw [hk]; exact ⟨_, I', q⟩)
  · have hk : (k + (its.toArray.size : Int)).toNat = j := by
      rw [seqIndex_neg (by omega) h3] at h1
      rw [List.size_toArray, ← hl]
      exact Option.some.inj h1
    exact PySem.W.ki_setBack ho (by omega) (by rw [List.size_toArray, ← hl]; exact h3) (by omega) (by rw [hk]; exact ⟨_, I', q⟩)

theorem slice_bounds (lo hi : Option Int) (n : Nat) : (sliceBounds lo hi none n).1 = ((HT.sIx n 0 lo : Nat) : Int) ∧ (sliceBounds lo hi none n).2.1 = ((HT.sIx n n hi : Nat) : Int) ∧ (sliceBounds lo hi none n).2.2 = 1 := by
  refine ⟨?_, ?_, rfl⟩
  · cases lo with
    | none => simp [sliceBounds, HT.sIx]
    | some i =>
      simp only [sliceBounds, HT.sIx, Option.getD_none, show (1 : Int) > 0 by decide, if_true]
      by_cases h : i < 0
      · simp only [h, if_true] <;> omega
      · simp only [h, if_false] <;> omega
  · cases hi with
    | none => simp [sliceBounds, HT.sIx]
    | some i =>
      simp only [sliceBounds, HT.sIx, Option.getD_none, show (1 : Int) > 0 by decide, if_true]
      by_cases h : i < 0
      · simp only [h, if_true] <;> omega
      · simp only [h, if_false] <;> omega
theorem slicePick_cut (its : List Value) (lo hi : Option Int) : slicePick its.toArray lo hi none = ((its.drop (HT.sIx its.length 0 lo)).take (HT.sIx its.length its.length hi - HT.sIx its.length 0 lo)).toArray := by
  obtain ⟨h1, h2, h3⟩ := slice_bounds lo hi its.toArray.size
  unfold slicePick
  rw [h1, h2, h3]
  simp only [sliceRange_one, pick_run, List.size_toArray] <;> rfl
def rSlL (K : PySem.W.Frag) : V → Option Int → Option Int → Hp → VK → Prop := fun x lo hi H Q => ∃ a xs, x = .ref a ∧ SqL K H a xs ∧ ∀ p, H p = none → Q (.ref p) (upd H p (.lst (cutV xs lo hi)))
theorem sl_list : SlR X (rSlL X.K) := by
  intro pins s σ H x v vl vu lo hi sl Q I rx hs pl pu h
  obtain ⟨a, xs, rfl, hx, q⟩ := h
  cases rx
  obtain ⟨its, r, ht, hz⟩ := I.list hx
  have hlen := r.length
  refine ⟨"list", _, slot_list_getitem.lookup, ht.isList.typeIs, ?_⟩
  refine wpAny_getItem_list_slice ht.isList hs pl pu .none (by simp) ?_ (by rw [List.size_toArray] <;> omega)
  rw [slicePick_cut, ← hlen]
  refine ⟨.ref s.heap.objs.size, _, I.laid (t' := s.toks) (o := .lst (cutV xs lo hi)) (fun b ob q => Heap.get?_push_of_some _ q) (Nat.le_refl _) ?_, rfl, q _ (I.hok.fresh (Nat.le_refl _))⟩
  exact ⟨Nat.le_trans (cutV_length xs lo hi) hz, _, 0, (r.drop (HT.sIx xs.length 0 lo)).take (HT.sIx xs.length xs.length hi - HT.sIx xs.length 0 lo), Heap.get?_push_size _ rfl⟩

def flatV : V → Bool
  | .non => true
  | .bl _ => true
  | .int _ => true
  | .str _ => true
  | _ => false
def eqV : V → V → Bool
  | .non, .non => true
  | .bl a, .bl b => a == b
  | .bl a, .int b => (if a then 1 else 0) == b
  | .int a, .bl b => a == (if b then 1 else 0)
  | .int a, .int b => a == b
  | .str a, .str b => a == b
  | _, _ => false
theorem eqAt_V {A : Around} {s : Shared} {y x : V} {u v : Value} (ry : RelV y u) (rx : RelV x v) (fy : flatV y = true) (fx : flatV x = true) : SeqAt.EqAt A s u v (eqV y x) := by
  cases y with
  | non =>
    cases ry
    cases x with
    | non => cases rx; exact SeqAt.EqAt.same _
    | bl b => cases rx; exact SeqAt.EqAt.none_bool b
    | int b => obtain ⟨t, rfl⟩ := rx; exact SeqAt.EqAt.none_int b t
    | str b => obtain ⟨t, rfl⟩ := rx; exact SeqAt.EqAt.none_str b t
    | _ => exact absurd (show false = true from fx) Bool.false_ne_true
  | bl a =>
    cases ry
    cases x with
    | non => cases rx; exact SeqAt.EqAt.bool_none a
    | bl b => cases rx; exact SeqAt.EqAt.bool_bool a b
    | int b => obtain ⟨t, rfl⟩ := rx; exact SeqAt.EqAt.bool_int a b t
    | str b => obtain ⟨t, rfl⟩ := rx; exact SeqAt.EqAt.bool_str a b t
    | _ => exact absurd (show false = true from fx) Bool.false_ne_true
  | int a =>
    obtain ⟨t', rfl⟩ := ry
    cases x with
    | non => cases rx; exact SeqAt.EqAt.int_none a t'
    | bl b => cases rx; exact SeqAt.EqAt.int_bool a t' b
    | int b => obtain ⟨t, rfl⟩ := rx; exact SeqAt.EqAt.int_int a t' b t
    | str b => obtain ⟨t, rfl⟩ := rx; exact SeqAt.EqAt.int_str a t' b t
    | _ => exact absurd (show false = true from fx) Bool.false_ne_true
  | str a =>
    obtain ⟨t', rfl⟩ := ry
    cases x with
    | non => cases rx; exact SeqAt.EqAt.str_none a t'
    | bl b => cases rx; exact SeqAt.EqAt.str_bool a t' b
    | int b => obtain ⟨t, rfl⟩ := rx; exact SeqAt.EqAt.str_int a t' b t
    | str b => obtain ⟨t, rfl⟩ := rx; exact SeqAt.EqAt.str_str a t' b t
    | _ => exact absurd (show false = true from fx) Bool.false_ne_true
  | _ => exact absurd (show false = true from fy) Bool.false_ne_true
def eqU (x : V) (u : Value) : Bool := match u with
  | .none => eqV .non x
  | .bool b => eqV (.bl b) x
  | .int i _ => eqV (.int i) x
  | .str z _ => eqV (.str z) x
  | _ => false
theorem eqU_of {x y : V} {u : Value} (r : RelV y u) (f : flatV y = true) : eqU x u = eqV y x := by
  cases y with
  | non => cases r; rfl
  | bl b => cases r; rfl
  | int i => obtain ⟨t, rfl⟩ := r; rfl
  | str z => obtain ⟨t, rfl⟩ := r; rfl
  | _ => exact absurd (show false = true from f) Bool.false_ne_true
theorem any_eqU {x : V} : ∀ {xs : List V} {us : List Value}, Vals xs us → xs.all flatV = true → us.any (eqU x) = xs.any fun y => eqV y x
  | _, _, .nil, _ => rfl
  | y :: xs, u :: us, .cons r t, f => by
    rw [List.all_cons, Bool.and_eq_true] at f
    rw [List.any_cons, List.any_cons, eqU_of r f.1, any_eqU t f.2]
theorem mem_eqAt {A : Around} {s : Shared} {x : V} {v : Value} (rx : RelV x v) (fx : flatV x = true) : ∀ {xs : List V} {us : List Value}, Vals xs us → xs.all flatV = true → ∀ u ∈ us, SeqAt.EqAt A s u v (eqU x u)
  | _, _, .nil, _ => fun u hu => by cases hu
  | y :: xs, u :: us, .cons r t, f => fun u' hu => by
    rw [List.all_cons, Bool.and_eq_true] at f
    rcases List.mem_cons.mp hu with rfl | hu
    · rw [eqU_of r f.1]; exact eqAt_V r rx f.1 fx
    · exact mem_eqAt rx fx t f.2 u' hu
def inV (x : V) (xs : List V) : Bool := xs.any fun y => eqV y x
def rIn (K : PySem.W.Frag) (neg : Bool) : R2 := fun x y H Q => ∃ p xs, y = .ref p ∧ (SqL K H p xs ∨ SqT K H p xs) ∧ flatV x = true ∧ xs.all flatV = true ∧ Q (.bl (if neg then !inV x xs else inV x xs)) H
theorem op_notIn_seq : OpR X (compareOp .NotIn) (rIn X.K true) := by
  intro pins s σ H x y v u Q I rx ry h
  obtain ⟨p, xs, rfl, hq, fx, fs, q⟩ := h
  cases ry
  rcases hq with hq | hq
  · obtain ⟨its, r, pl, hz⟩ := I.list hq
    refine SeqAt.notIn_listAt (eqU x) pl.isList (fun w hw => mem_eqAt rx fx r fs w (by simpa using hw)) ⟨.bl _, H, I, rfl, ?_⟩
    rw [show its.toArray.any (eqU x) = its.any (eqU x) by simp, any_eqU r fs]
    exact q
  · obtain ⟨its, r, pl, hz⟩ := I.tuple hq
    refine SeqAt.notIn_tupleAt (eqU x) pl (fun w hw => mem_eqAt rx fx r fs w (by simpa using hw)) ⟨.bl _, H, I, rfl, ?_⟩
    rw [show its.toArray.any (eqU x) = its.any (eqU x) by simp, any_eqU r fs]
    exact q
theorem call_len_seq : CallR X (.builtin "len") (fun xs H Q => ∃ p ys, xs = [.ref p] ∧ (SqL X.K H p ys ∨ SqT X.K H p ys) ∧ Q (.int ys.length) H) := by
  intro pins s σ H xs us Q I r h
  obtain ⟨p, ys, rfl, hq, q⟩ := h
  obtain ⟨u, rfl, rx⟩ := vals1 r
  cases rx
  have hn := line63
  rcases hq with hq | hq
  · obtain ⟨its, r', pl, hz⟩ := I.list hq
    have hlen := r'.length
    exact Calls.call_len_list pl.isList (by simp only [List.size_toArray] <;> omega) ⟨.int ys.length, H, I.tok _, ⟨s.toks + 1, by rw [List.size_toArray, hlen]⟩, q⟩
  · obtain ⟨its, r', pl, hz⟩ := I.tuple hq
    have hlen := r'.length
    exact len_tuple pl (by simp only [List.size_toArray] <;> omega) ⟨.int ys.length, H, I.tok _, ⟨s.toks + 1, by rw [List.size_toArray, hlen]⟩, q⟩
theorem call_list_of : CallR X (.type "list") (fun xs H Q => ∃ p ys, xs = [.ref p] ∧ (SqL X.K H p ys ∨ SqT X.K H p ys) ∧ ∀ l, H l = none → Q (.ref l) (upd H l (.lst ys))) := by
  intro pins s σ H xs us Q I r h
  obtain ⟨p, ys, rfl, hq, q⟩ := h
  obtain ⟨u, rfl, rx⟩ := vals1 r
  cases rx
  have fin : ∀ (its : List Value), Vals ys its → ys.length ≤ sizeLine → ∀ (h' : Heap) (c' : Nat), (∀ b o', s.heap.get? b = some o' → h'.get? b = some o') →
      h'.get? s.heap.objs.size = some { cls := .type "list", dict := none, data := .seq its.toArray c', slots := #[] } → EP X pins σ Q (.ref s.heap.objs.size) { s with heap := h' } := fun its r' hz h' c' kp e =>
    ⟨.ref s.heap.objs.size, _, I.laid (t' := s.toks) kp (Nat.le_refl _) (show ObjOk X.prog X.w _ h' _ (.lst ys) from ⟨hz, its, c', r', e⟩), rfl, q _ (I.hok.fresh (Nat.le_refl _))⟩
  rcases hq with hq | hq
  · obtain ⟨its, r', pl, hz⟩ := I.list hq
    have hlen := r'.length
    obtain ⟨o, ho, hc, n, hd⟩ := pl.isList
    exact call_list_seq p (.inl rfl) ho hc hd (fun h' c' kp e => fin its r' hz h' c' kp e) (by simp only [List.size_toArray] <;> omega)
  · obtain ⟨its, r', pl, hz⟩ := I.tuple hq
    have hlen := r'.length
    obtain ⟨o, ho, hc, n, hd⟩ := pl
    exact call_list_seq p (.inr rfl) ho hc hd (fun h' c' kp e => fin its r' hz h' c' kp e) (by simp only [List.size_toArray] <;> omega)
theorem call_tuple_of : CallR X (.type "tuple") (fun xs H Q => ∃ p ys, xs = [.ref p] ∧ ((SqL X.K H p ys ∧ ∀ l, H l = none → Q (.ref l) (upd H l (.tup ys))) ∨ (SqT X.K H p ys ∧ Q (.ref p) H))) := by
  intro pins s σ H xs us Q I r h
  obtain ⟨p, ys, rfl, h⟩ := h
  obtain ⟨u, rfl, rx⟩ := vals1 r
  cases rx
  rcases h with ⟨hq, q⟩ | ⟨hq, q⟩
  · obtain ⟨its, r', pl, hz⟩ := I.list hq
    have hlen := r'.length
    refine call_tuple_list pl.isList (fun h' kp => ?_) (by simp only [List.size_toArray] <;> omega)
    have I1 : Inv X pins σ H { s with heap := h' } := I.kept (t' := s.toks) kp
    have I2 : Inv X pins σ (upd H h'.objs.size (.tup ys)) { s with heap := h'.push { cls := .type "tuple", data := .seq its.toArray } } :=
      I1.laid (t' := s.toks) (fun b o e => Heap.get?_push_of_some _ e) (Nat.le_refl _) (show ObjOk X.prog X.w _ _ _ (.tup ys) from ⟨hz, its, r', IsTupN.new _ _⟩)
    exact ⟨.ref h'.objs.size, _, I2, rfl, q _ (I1.hok.fresh (Nat.le_refl _))⟩
  · obtain ⟨its, r', pl, hz⟩ := I.tuple hq
    exact call_tuple_same pl ⟨.ref p, H, I, rfl, q⟩

def tyV (K : PySem.W.Frag) (T : String) (x : V) (H : Hp) : Prop := match x with
  | .str _ => T = "str"
  | .int _ => T = "int"
  | .ref p => (T = "list" ∧ ∃ xs, SqL K H p xs) ∨ (T = "tuple" ∧ ((∃ o, K.lookup p = some o ∧ o.cls = .type "tuple" ∧ o.dict = none) ∨ ∃ xs, H p = some (.tup xs))) ∨
      (T = "dict" ∧ ((∃ kvs, H p = some (.dK kvs)) ∨ ∃ kvs, H p = some (.dT kvs))) ∨ (T = "set" ∧ ∃ S n, H p = some (.set S n))
  | _ => False
theorem tyV_is {pins : List (Addr × Obj)} {σ : St} {H : Hp} {s : Shared} {T : String} {x : V} {v : Value} (I : Inv X pins σ H s) (r : RelV x v) (ty : tyV X.K T x H) :
    s.TypeIs v T ∧ ∀ a, v = .ref a → ∃ ob, s.heap.get? a = some ob ∧ ob.dict = none := by
  cases x with
  | str z =>
    obtain ⟨t, rfl⟩ := r
    cases (show T = "str" from ty)
    exact ⟨typeIs_str s z t, fun _ e => nomatch e⟩
  | int i =>
    obtain ⟨t, rfl⟩ := r
    cases (show T = "int" from ty)
    exact ⟨typeIs_int s i t, fun _ e => nomatch e⟩
  | ref p =>
    cases r
    rcases ty with ⟨rfl, xs, hq⟩ | ⟨rfl, ⟨o, hk, hc, hd⟩ | ⟨xs, hq⟩⟩ | ⟨rfl, hk⟩ | ⟨rfl, S, n, hk⟩
    · obtain ⟨its, _, pl, _⟩ := I.list hq
      refine ⟨pl.isList.typeIs, fun a e => ?_⟩
      cases e
      obtain ⟨o, n, e, c, hd, _⟩ := pl
      exact ⟨o, e, hd⟩
    · refine ⟨⟨o, I.kIn p o hk, hc⟩, fun a e => ?_⟩
      cases e
      exact ⟨o, I.kIn _ o hk, hd⟩
    · obtain ⟨_, its, _, o, e, c, n, _, hd⟩ := (show ObjOk X.prog X.w H s.heap p (.tup xs) from I.hok p _ hq)
      refine ⟨⟨o, e, c⟩, fun a e2 => ?_⟩
      cases e2
      exact ⟨o, e, hd⟩
    · have z : ∃ o, s.heap.get? p = some o ∧ o.ExactDict := by
        rcases hk with ⟨kvs, hk⟩ | ⟨kvs, hk⟩
        · obtain ⟨_, _, _, _, o, _, _, e, ex, _⟩ := I.hok p _ hk
          exact ⟨o, e, ex⟩
        · obtain ⟨_, _, _, _, o, _, _, e, ex, _⟩ := I.hok p _ hk
          exact ⟨o, e, ex⟩
      obtain ⟨o, e, ex⟩ := z
      refine ⟨⟨o, e, ex.1⟩, fun a e2 => ?_⟩
      cases e2
      exact ⟨o, e, ex.2.1⟩
    · obtain ⟨o, _, _, _, e, ex, _⟩ := I.hok p _ hk
      refine ⟨⟨o, e, ex.1⟩, fun a e2 => ?_⟩
      cases e2
      exact ⟨o, e, ex.2.1⟩
  | _ => exact False.elim ty
def tBM (K : PySem.W.Frag) (T : String) (r : V → List V → Hp → VK → Prop) (to : TE) (t : TA) : TE := fun σ H Q => to σ H fun x H1 => tyV K T x H1 ∧ t σ H1 fun xs H2 => r x xs H2 Q
variable {o e : Expr} {es : List Expr} {to : TE} {t : TA} {name : Str} {apos cpos : Pos} {T id : String} {r : V → List V → Hp → VK → Prop}
theorem pe_bm (pa : PlainAttrs T) (slot : Slot T name id) (hty : typeOf (.builtin id) = pure (.type "method_descriptor")) (hm : MtR X id r) (ho : PE X o to) (ha : PA X (e :: es) t)
    (hbase : attributeBase o name X.env (eval o X.env) = eval o X.env := by rfl)
    (hfew : ((backTo cpos (starEach (e :: es) X.env)).all (fun x => !x.1) && (backToKw cpos (keywordEach [] X.env)).all (fun x => x.1.isSome)
      && decide ((e :: es).length + ([] : List Keyword).length + (if ([] : List Keyword).isEmpty then 0 else 1) < 30)) = true := by rfl)
    (hline : (apos.endLine == cpos.line) = true := by rfl) (hs : starEach (e :: es) X.env = (false, eval e X.env) :: starEach es X.env := by rfl) (hplain : (backTo cpos (starEach es X.env)).any (·.1) = false := by rfl) :
    PE X (.Call (.Attribute o name apos) (e :: es) [] cpos) (tBM X.K T r to t) := by
  intro pins s σ H Q I h
  refine wpAny_Call_method_late hbase hfew hline rfl (thn (ho pins s σ H _ I h) fun v s1 ⟨x, H1, I1, r1, ty, q1⟩ => ?_)
  obtain ⟨h1, h2⟩ := tyV_is I1 r1 ty
  refine ⟨T, id, pa, slot, hty, h1, h2, ?_⟩
  have hA := ha cpos pins s1 σ H1 _ I1 q1
  rw [hs] at hA ⊢
  refine Calls.callWith_builtin (by show (false || (backTo cpos (starEach es X.env)).any (·.1)) = false; rw [hplain] <;> rfl) (Calls.evalArgs_plain ?_)
  exact thn hA fun us s2 ⟨vs, H2, I2, r2, q2⟩ => hm pins s2 σ H2 x vs v us Q I2 r1 r2 q2
end
end L2

namespace L2
open PySem PySem.Spec PyProof.Rows

def MtM (X : Cx) (id : String) (r : V → List V → Hp → VK → Prop) : Prop :=
  ∀ (pins : List (Addr × Obj)) (s : Shared) (σ : St) (H : Hp) (x : V) (xs : List V) (v : Value) (us : List Value) (Q : VK), Inv X pins σ H s → RelV x v → Vals xs us → r x xs H Q →
    wpAny (model X.prog X.w) X.A (call (.builtin id) (v :: us)) (EP X pins σ Q) X.xe s

theorem Vals.one : ∀ {x : V} {us : List Value}, Vals [x] us → ∃ u, us = [u] ∧ RelV x u
  | _, _, .cons r .nil => ⟨_, rfl, r⟩
theorem Vals.two : ∀ {x y : V} {us : List Value}, Vals [x, y] us → ∃ u v, us = [u, v] ∧ RelV x u ∧ RelV y v
  | _, _, _, .cons r (.cons q .nil) => ⟨_, _, rfl, r, q⟩
theorem Vals.eraseIdx : ∀ {xs : List V} {us : List Value} (i : Nat), Vals xs us → Vals (xs.eraseIdx i) (us.eraseIdx i)
  | _, _, _, .nil => .nil
  | _, _, 0, .cons _ t => t
  | _, _, i + 1, .cons r t => .cons r (Vals.eraseIdx i t)
theorem Vals.rep {xs : List V} {us : List Value} (h : Vals xs us) : ∀ k : Nat, Vals (List.replicate k xs).flatten (List.replicate k us).flatten
  | 0 => .nil
  | k + 1 => by
    rw [List.replicate_succ, List.replicate_succ, List.flatten_cons, List.flatten_cons]
    exact Vals.append h (Vals.rep h k)
theorem len_erase {α : Type} : ∀ (l : List α) (i : Nat), (l.eraseIdx i).length ≤ l.length
  | [], _ => Nat.le_refl _
  | _ :: _, 0 => Nat.le_succ _
  | _ :: r, i + 1 => Nat.succ_le_succ (len_erase r i)
theorem foldl_rep (its : List Value) : ∀ (k : Nat) (acc : List Value),
    List.foldl (fun x1 x2 => x1 ++ x2) acc.toArray (List.replicate k its.toArray) = (acc ++ (List.replicate k its).flatten).toArray
  | 0, acc => by simp
  | k + 1, acc => by
    have e : acc.toArray ++ its.toArray = (acc ++ its).toArray := by simp
    have e2 : (acc ++ its) ++ (List.replicate k its).flatten = acc ++ (List.replicate (k + 1) its).flatten := by
      rw [List.replicate_succ, List.flatten_cons, List.append_assoc]
    rw [← e2, ← foldl_rep its k (acc ++ its), ← e, List.replicate_succ, List.foldl_cons]

section
variable {X : Cx} {pins : List (Addr × Obj)} {σ : St} {H : Hp} {s : Shared} {l b : Addr} {xs ys zs : List V}

theorem Inv.lset {its its' : List Value} {n : Nat} {f : Array Value → Array Value} {t' : Nat} (I : Inv X pins σ H s) (hH : H l = some (.lst xs))
    (e : s.heap.get? l = some { cls := .type "list", data := .seq its.toArray n }) (hf : f its.toArray = its'.toArray) (hv : Vals ys its') (hz : ys.length ≤ sizeLine) :
    Inv X pins σ (upd H l (.lst ys)) { s with heap := s.heap.update l (Obj.mapSeq f), toks := t' } := by
  have q := PySem.IsL.update e f
  rw [hf] at q
  refine I.write (x := l) (e := l) (by rw [hH]; exact trivial) (.inl rfl) (fun b' u hb hu => (Heap.get?_update_other s.heap (Obj.mapSeq f) (Ne.symm hb)).trans hu) ⟨_, q⟩ ?_
  exact ⟨hz, its', _, hv, q⟩
theorem Inv.lnew {its : List Value} {t' : Nat} (I : Inv X pins σ H s) (hv : Vals ys its) (hz : ys.length ≤ sizeLine) :
    Inv X pins σ (upd H s.heap.objs.size (.lst ys)) { s with heap := s.heap.push { cls := .type "list", data := .seq its.toArray }, toks := t' } :=
  I.laid (fun _ _ q => Heap.get?_push_of_some _ q) (Nat.le_refl _) ⟨hz, its, 0, hv, Heap.get?_push_size _ rfl⟩
theorem Inv.fresh (I : Inv X pins σ H s) : H s.heap.objs.size = none := I.hok.fresh (Nat.le_refl _)
theorem Inv.lstM (I : Inv X pins σ H s) (hH : H l = some (.lst xs)) : xs.length ≤ sizeLine ∧ ∃ (its : List Value) (n : Nat), Vals xs its ∧ xs.length = its.length ∧ s.heap.get? l = some { cls := .type "list", data := .seq its.toArray n } := by
  obtain ⟨z, its, n, r, e⟩ := I.hok l _ hH
  exact ⟨z, its, n, r, r.length, e⟩

theorem notLongL {n : Nat} (h : n ≤ sizeLine) : Builtin.List.listTooLong n = false := by
  unfold Builtin.List.listTooLong
  exact decide_eq_false (by omega)
end

section
variable {X : Cx}

def rAppend : V → List V → Hp → VK → Prop := fun x vs H Q => ∃ l xs y, x = .ref l ∧ vs = [y] ∧ H l = some (.lst xs) ∧ xs.length < sizeLine ∧ Q .non (upd H l (.lst (xs ++ [y])))
theorem mt_append : MtM X "list.append" rAppend := by
  intro pins s σ H x vs v us Q I rx rv h
  obtain ⟨l, xs, y, rfl, rfl, hH, hz, q⟩ := h
  cases rx
  obtain ⟨u, rfl, ru⟩ := rv.one
  obtain ⟨z, its, n, r, hl, e⟩ := I.lstM hH
  refine call_meets F.slot_list_append ⟨_, e, rfl⟩ F.entry_list_append (F.args_list_append_2 _ _) (PySem.list_append l its.toArray n u (by rw [List.size_toArray]; omega)) ⟨e, ?_⟩
  refine ⟨.non, _, I.lset (its' := its ++ [u]) hH e (by simp) (r.append (.cons ru .nil)) ?_, rfl, q⟩
  rw [List.length_append, List.length_singleton]
  omega

def rCat : R2 := fun x y H Q => ∃ l b xs zs, x = .ref l ∧ y = .ref b ∧ H l = some (.lst xs) ∧ H b = some (.lst zs) ∧ xs.length + zs.length ≤ sizeLine ∧ ∀ p, H p = none → Q (.ref p) (upd H p (.lst (xs ++ zs)))
theorem op_cat : OpR X (binaryOp .Add) rCat := by
  intro pins s σ H x y v u Q I rx ry h
  obtain ⟨l, b, xs, zs, rfl, rfl, hH, hB, hz, q⟩ := h
  cases rx
  cases ry
  obtain ⟨z, its, n, r, hl, e⟩ := I.lstM hH
  obtain ⟨z2, its2, n2, r2, hl2, e2⟩ := I.lstM hB
  refine PySem.P.add_list e e2 ?_ (by rw [List.size_toArray, List.size_toArray]; omega)
  have ea : its.toArray ++ its2.toArray = (its ++ its2).toArray := by simp
  rw [ea]
  exact ⟨.ref _, _, I.lnew (t' := s.toks) (r.append r2) (by rw [List.length_append]; omega), rfl, q _ I.fresh⟩
def rRep : R2 := fun x y H Q => ∃ l k xs, x = .ref l ∧ y = .int k ∧ H l = some (.lst xs) ∧ -(2 ^ 63) ≤ k ∧ k < 2 ^ 63 ∧ xs.length * k.toNat ≤ sizeLine ∧
  ∀ p, H p = none → Q (.ref p) (upd H p (.lst (List.replicate k.toNat xs).flatten))
theorem len_rep {α : Type} (xs : List α) (k : Nat) : (List.replicate k xs).flatten.length = k * xs.length := by
  induction k with
  | zero => simp
  | succ k ih => rw [List.replicate_succ, List.flatten_cons, List.length_append, ih, Nat.succ_mul, Nat.add_comm]
theorem op_rep : OpR X (binaryOp .Mult) rRep := by
  intro pins s σ H x y v u Q I rx ry h
  obtain ⟨l, k, xs, rfl, rfl, hH, h1, h2, hz, q⟩ := h
  cases rx
  obtain ⟨t, rfl⟩ := ry
  obtain ⟨z, its, n, r, hl, e⟩ := I.lstM hH
  have hlen : its.toArray.size * k.toNat ≤ sizeLine := by rw [List.size_toArray, ← hl]; exact hz
  have hcap : ¬ its.toArray.size * k.toNat > (2 ^ 63 - 1) / 8 := by
    have : (sizeLine : Nat) ≤ (2 ^ 63 - 1) / 8 := by decide
    omega
  have hfit : ¬ (!Builtin.List.listFitsIndex k) = true := by
    rw [fitsIndex_both h1 h2]
    exact Bool.false_ne_true
  have hlong : ¬ Builtin.List.listTooLong (its.toArray.size * k.toNat) = true := by
    rw [notLongL hlen]
    exact Bool.false_ne_true
  have hnew : List.foldl (fun x1 x2 => x1 ++ x2) #[] (List.replicate (if its.toArray.isEmpty = true then 0 else k.toNat) its.toArray) = (List.replicate k.toNat its).flatten.toArray := by
    have f0 : ∀ m : Nat, List.foldl (fun x1 x2 => x1 ++ x2) #[] (List.replicate m its.toArray) = (List.replicate m its).flatten.toArray := fun m => by
      have := foldl_rep its m []
      rw [List.nil_append] at this
      exact this
    rw [f0]
    cases its with
    | nil => simp
    | cons a r' => rw [if_neg (by simp)]
  refine wpAny_binaryOp_repeat_ref (T := "list") (U := "int") (by decide) ⟨_, e, rfl⟩ (fun s' => typeIs_int s' k t) noFill_list_mul F.fills_int_mul F.slot_int_rmul repeat_list F.slot_int_index.lookup
    (call_meets F.slot_int_rmul (typeIs_int s k t) F.entry_int_rmul (F.args_int_rmul_2 _ _) (int___rmul___int_list k t l its.toArray n)
      ⟨e, rfl, ⟨_, e, rfl⟩, call_meets F.slot_list_mul ⟨_, e, rfl⟩ F.entry_list_mul (F.args_list_mul_2 _ _) (AutoListH.list___mul___list_int_3 l its.toArray n k t hfit hcap hlong) ⟨e, ?_⟩⟩)
  rw [hnew]
  exact ⟨.ref _, _, I.lnew (t' := s.toks) (r.rep k.toNat) (by rw [len_rep, Nat.mul_comm]; exact hz), rfl, q _ I.fresh⟩

end

section
variable {prog : Program} {w : World} {A : Around} {E : Value → Shared → Prop} {s : Shared}
end

section
variable {X : Cx}
end
end L2

namespace Att
open PySem PySem.W PySem.Calls PyProof.Rows

theorem ints_of_wellAll {P : Params} {h : Heap} : ∀ (ns : List Int) (vs : List Value), WellAll P h vs (ns.map WData.int) → IntsAre vs ns := by
  intro ns
  induction ns with
  | nil =>
    intro vs w
    rw [List.map_nil] at w
    cases w
    exact .nil
  | cons n ns ih =>
    intro vs w
    rw [List.map_cons] at w
    cases w with
    | cons a b =>
      cases a
      exact .cons _ _ (ih _ b)

theorem script_of {l : OpenLaw} {n : Nat} (hn : l.most = some n) {P : Params} {h : Heap} {args : List WData} {vals : List Value}
    (hpre : l.row.toRowW.claim.pre args = true) (hwl : WellAll P h vals args) :
    ∃ a vs ns, vals = [Value.ref a] ∧ args = [WData.list (ns.map WData.int)] ∧ h.get? a = some { cls := .type "list", data := .seq vs.toArray } ∧ IntsAre vs ns ∧ ns.length ≤ n := by
  have hsh : WShape.hasAll [] args [.list .int] = true := (pre_splitW hpre).1
  have hc : l.pre.holds [] { args := args } = true := (pre_splitW hpre).2
  obtain ⟨d, r, rfl, h1, h2⟩ := hasAllW_cons hsh
  obtain rfl := hasAllW_nil h2
  obtain ⟨xs, rfl, h3⟩ := hasW_list h1
  obtain ⟨ns, rfl⟩ := items_int h3
  have hlen : ns.length ≤ n := by
    unfold OpenLaw.pre at hc
    have h4 : (WTm.not (.lt (.lit (.int (n : Int))) (.len (.arg 0)))).holds [] { args := [.list (ns.map .int)] } = true := by
      have h4 := (holds_andW hc).1
      rw [hn] at h4
      exact h4
    have h5 := condW_of h4 (w_not (w_lt w_lit (w_len_list (w_arg rfl))))
    rw [List.length_map] at h5
    refine Nat.le_of_not_lt fun q => ?_
    have q' : (n : Int) < ((ns.length : Nat) : Int) := by omega
    first
      | (rw [decide_eq_true q'] at h5; exact absurd h5 (by decide))
      | (simp at h5; omega)
  cases hwl with
  | cons w1 w2 =>
    cases w2
    cases w1 with
    | list ho hall => exact ⟨_, _, ns, rfl, rfl, ho, ints_of_wellAll ns _ hall, hlen⟩

theorem post_true (l : OpenLaw) (args : List WData) : l.row.toRowW.claim.post args (.bool true) args = true :=
  postW_of (r := l.row.toRowW) (X := (true == true))
    (show WShape.has [] (.bool true) .bool = true by first | rfl | decide | simp [WShape.has, WShape.arms, WShape.armsAll])
    (show (WTm.eq .res (.lit (.bool true))).value [] { args := args, res := some (.bool true), after := args } = some (.bool (true == true)) from w_eq_bool (w_res rfl) w_lit) rfl

theorem attach_call {l : OpenLaw} {n : Nat} {q : Program} {loose : List Str} {XP : (Str → Option Value) → Heap → Prop} {YP : World → Heap → Prop} {d : DefRec}
    (hn : l.most = some n) (hdf : d.params.defaults = [])
    (call : ∀ (w : World) (s₀ s₁ : Shared) (mg mb : Str → Option Value) (fa : Addr) (o : Obj) (pm cd doc : Value) (a : Addr) (vs : List Value) (ns : List Int),
      Ground q loose [] XP w s₀ mg mb s₁.heap → YP w s₁.heap →
      s₁.heap.get? fa = some o → o.data = .func (docDef d.name d.params d.body d.scope pm cd doc) → s₁.heap.CodeRec cd d.name → mg d.name = some (.ref fa) →
      s₁.heap.get? a = some { cls := .type "list", data := .seq vs.toArray } → IntsAre vs ns → ns.length ≤ n → s₁.gens = #[] →
      codeAny (model l.prog w) callerA (.call (.ref fa) ⟨[.ref a], []⟩) (fun r s' => r = .ok (.ret (.bool true)) ∧ OldK s₁.heap s'.heap ∧ s'.os = s₁.os ∧ AllBare s'.gens) s₁) :
    WalkO q loose XP YP l.row.toRowW d [] (fun f vs => PySem.call f vs) := by
  intro w s₀ s₁ mg mb G Y fa o pm cd doc dV kV ho hd hcd hD hmg hg args vals as hpre hlay hrd hwl hlo
  obtain rfl : dV = .none := Dflts.none hD hdf
  obtain rfl : kV = .none := Dflts.noKw hD
  obtain ⟨a, vs, ns, rfl, rfl, hobj, hints, hlen⟩ := script_of hn hpre hwl
  refine enter_call (codeAny_mono (call w s₀ s₁ mg mb fa o pm cd doc a vs ns G Y ho (fd_plain hd) hcd hmg hobj hints hlen hg) fun r s' hq => ?_)
  obtain ⟨rfl, h2, h3, h4⟩ := hq
  exact ⟨.inl ⟨.bool true, .bool true, [], rfl, fun _ => rfl, .bool true, post_true l _, fun _ => ⟨List.Pairwise.nil, fun _ hm => (nomatch hm)⟩⟩, h2, h3, h4⟩

section
variable {prog : Program} {w : World} {A : Around} {E : Value → Shared → Prop} {s : Shared} {K : Frag}

end
end Att

namespace L2
open PySem PySem.Spec PyProof.Rows

theorem vals_ints : ∀ {vs : List Value} {ns : List Int}, IntsAre vs ns → Vals (ns.map V.int) vs
  | _, _, .nil => .nil
  | _, _, .cons n t h => .cons ⟨t, rfl⟩ (vals_ints h)

def Only (H : Hp) : Prop := ∀ b, H b = none ∨ ∃ o xs, H b = some (.frz o (.lst xs))

theorem law_call {P : Program} {w : World} {K : PySem.W.Frag} {mg mb : Str → Option Value} {CX : CXT} {k : Nat} {fa a : Addr} {fd : FuncData} {x : Str} {sp : Sp} {s₁ : Shared} {vs : List Value} {ns : List Int}
    (KX : K.In s₁.heap) (hns : s₁.heap.Ns mainGlobals mg) (hb : s₁.heap.Ns builtinsNs mb) (hbb : ∀ x : Str, x ≠ "__name__" → mb x = bootBuiltins x) (hlim : s₁.heap.NoLimit) (hg : s₁.gens = #[])
    (ha : s₁.heap.get? a = some { cls := .type "list", data := .seq vs.toArray }) (hi : IntsAre vs ns) (hl : ns.length ≤ sizeLine) (hr : Room k callerA)
    (F : ∀ base : Heap, K.In base → base.Ns mainGlobals mg → FnOk P w K mg base CX k fa fd [x] sp) (hbind : ∀ (s : Shared) (u : Value), BindsTo s fd ⟨[u], []⟩ [(x, u)])
    (hsp : ∀ H : Hp, Only H → SqL K H a (ns.map V.int) → sp [.ref a] H (fun v _ => v = .bl true) fun _ _ _ => False)
    (hCX : ∀ H e s', CX [] H s₁ (fun _ _ _ => False) e s' → False) :
    codeAny (model P w) callerA (.call (.ref fa) ⟨[.ref a], []⟩) (fun r s' => r = .ok (.ret (.bool true)) ∧ OldK s₁.heap s'.heap ∧ s'.os = s₁.os ∧ AllBare s'.gens) s₁ := by
  have rv := vals_ints hi
  have lenV := hi.length
  have core : ∀ H : Hp, Only H → SqL K H a (ns.map V.int) → HOk P w H s₁.heap → (∀ b, H b ≠ none → b = a) → (H a ≠ none → K.lookup a = none) →
      codeAny (model P w) callerA (.call (.ref fa) ⟨[.ref a], []⟩) (fun r s' => r = .ok (.ret (.bool true)) ∧ OldK s₁.heap s'.heap ∧ s'.os = s₁.os ∧ AllBare s'.gens) s₁ := by
    intro H hO hS hok hA hK
    have base_of : ∀ {b : Addr} {o : Obj}, s₁.heap.get? b = some o → H b = none → (hidT s₁.heap H).get? b = some o := fun e n => hidT_get e n
    have noA : ∀ {b : Addr} {o : Obj} {es : Array DictEntry} {ep : Nat}, s₁.heap.get? b = some o → o.data = .dict es ep → H b = none := fun {b o es ep} e d => by
      cases q : H b with
      | none => rfl
      | some u =>
        have e' : b = a := hA b (by rw [q]; simp)
        subst e'
        rw [ha] at e; cases e
        have d' : Data.seq vs.toArray _ = Data.dict es ep := d
        cases d'
    have nsK : ∀ {b : Addr} {m : Str → Option Value}, s₁.heap.Ns b m → (hidT s₁.heap H).Ns b m := fun {b m} ⟨o, es, ep, e, d, r⟩ => ⟨o, es, ep, base_of e (noA e d), d, r⟩
    have hKb : K.In (hidT s₁.heap H) := fun b o e => base_of (KX b o e) (by
      cases q : H b with
      | none => rfl
      | some u =>
        have e' : b = a := hA b (by rw [q]; simp)
        subst e'
        rw [hK (by rw [q]; simp)] at e; cases e)
    have hM : Mod K mg (hidT s₁.heap H) := ⟨hKb, nsK hns, ⟨mb, nsK hb, hbb⟩, let ⟨mc, h1, h2⟩ := hlim; ⟨mc, nsK h1, h2⟩⟩
    have e0 : Env0 P w K mg (hidT s₁.heap H) callerA [] s₁ H := ⟨rfl, hM, fun b o e => of_hidT e, Nat.le_of_eq (hidT_size _ _), trivial, fun b hb => absurd (show b ∈ ([] : List Addr) from hb) (by simp), hok, .of_eq hg⟩
    refine codeAny_mono ((F _ hKb (nsK hns)).run callerA [] s₁ H ⟨[.ref a], []⟩ [.ref a] [.ref a] _ _ hr e0 (hbind s₁ (.ref a)) (.cons rfl .nil) (hsp H hO hS)) fun r s' h => ?_
    cases r with
    | error e => exact (hCX H e s' h).elim
    | ok fl =>
      cases fl with
      | next => exact False.elim h
      | brk => exact False.elim h
      | cont => exact False.elim h
      | ret u =>
        obtain ⟨v, H', os, bare, un, hok', r', q⟩ := h
        have q' : v = .bl true := q
        subst q'
        obtain rfl : u = Value.bool true := r'
        refine ⟨rfl, OldK.of_keep fun b o e => ?_, os, bare⟩
        cases q : H b with
        | none => exact un.keep b o e q (by intro z; exact absurd (show b ∈ ([] : List Addr) from z) (by simp)) (by simp)
        | some u =>
          rcases hO b with z | ⟨ob, xs, z⟩
          · rw [q] at z; cases z
          · have z2 := un.frzs b ob _ z
            obtain ⟨e1, _⟩ := hok b _ z
            obtain ⟨e2, _⟩ := hok' b _ z2
            rw [e] at e1; cases e1
            exact e2
  cases hk : K.lookup a with
  | some o =>
    have e := KX a o hk
    rw [ha] at e
    cases e
    refine core (fun _ => none) (fun _ => .inl rfl) (.inr ⟨_, vs.toArray, _, hk, rfl, rfl, rfl, by rw [List.size_toArray, lenV]; exact hl, by simpa using rv⟩) (fun b u z => by have z' : (none : Option HO) = some u := z; cases z') (fun b z => absurd rfl z) fun z => absurd rfl z
  | none =>
    refine core (fun b => if b = a then some (.frz { cls := .type "list", data := .seq vs.toArray } (.lst (ns.map V.int))) else none) (fun b => ?_) (.inl (.inr ⟨{ cls := .type "list", data := .seq vs.toArray }, if_pos rfl⟩)) (fun b u z => ?_) (fun b z => ?_) fun _ => hk
    · by_cases hb : b = a
      · exact .inr ⟨_, _, if_pos hb⟩
      · exact .inl (if_neg hb)
    · by_cases hb : b = a
      · have z' := (if_pos hb).symm.trans z
        cases z'
        subst hb
        exact ⟨ha, by rw [List.length_map]; exact hl, vs, _, rv, ha⟩
      · have z' := (if_neg hb).symm.trans z
        cases z'
    · by_cases hb : b = a
      · exact hb
      · exact absurd (if_neg hb) z
end L2

namespace L2
open PySem PySem.Spec PyProof.Rows

theorem walk_of {l : PySem.W.OpenLaw} {n k : Nat} {q : Program} {loose : List Str} {XP : (Str → Option Value) → Heap → Prop} {YP : World → Heap → Prop} {d : DefRec} {K : Params → PySem.W.Frag} {CX : World → CXT} {sp : World → Sp} {x : Str}
    (hn : l.most = some n) (hn2 : n ≤ sizeLine) (hdf : d.params.defaults = []) (hr : Room k callerA)
    (hY : ∀ (w : World) (h : Heap), YP w h → (K w.params).In h)
    (F : ∀ (w : World) (mg : Str → Option Value) (fa : Addr) (h : Heap), (K w.params).In h → h.Ns mainGlobals mg → mg d.name = some (.ref fa) →
      ∃ fd : FuncData, (∀ (s : Shared) (u : Value), BindsTo s fd ⟨[u], []⟩ [(x, u)]) ∧
        ∀ base : Heap, (K w.params).In base → base.Ns mainGlobals mg → FnOk l.prog w (K w.params) mg base (CX w) k fa fd [x] (sp w))
    (hsp : ∀ (w : World) (H : Hp) (a : Addr) (ns : List Int), ns.length ≤ n → Only H → SqL (K w.params) H a (ns.map V.int) → sp w [.ref a] H (fun v _ => v = .bl true) fun _ _ _ => False)
    (hCX : ∀ (w : World) (H : Hp) (s : Shared) (e : Value) (s' : Shared), CX w [] H s (fun _ _ _ => False) e s' → False) :
    PySem.W.WalkO q loose XP YP l.row.toRowW d [] (fun f vs => PySem.call f vs) := by
  refine Att.attach_call hn hdf fun w s₀ s₁ mg mb fa o pm cd doc a vs ns G Y ho hd hcd hmg hobj hints hlen hg => ?_
  have KX := hY w _ Y
  obtain ⟨fd, hb, hF⟩ := F w mg fa _ KX G.T.g hmg
  exact law_call KX G.T.g G.T.b G.T.builtins G.T.nolimit hg hobj hints (Nat.le_trans hlen hn2) hr hF hb (fun H hO hS => hsp w H a ns hlen hO hS) fun H e s' => hCX w H s₁ e s'
end L2


namespace L2
open PySem PySem.Spec PyProof.Rows

def defArgs (s : Stmt) : Arguments := match s with
  | .FunctionDef _ a _ _ _ _ _ _ _ _ => a
  | _ => { posonlyargs := [], args := [], vararg := none, kwonlyargs := [], kw_defaults := [], kwarg := none, defaults := [] }
def defBody (s : Stmt) : List Stmt := match s with
  | .FunctionDef _ _ b _ _ _ _ _ _ _ => b
  | _ => []
def defScope (s : Stmt) : Scope := match s with
  | .FunctionDef _ _ _ _ _ _ sc _ _ _ => sc
  | _ => { kind := .function, names := [], isGenerator := false, isCoroutine := false }

abbrev CX0 : CXT := fun _ _ _ _ _ _ => False
abbrev E0 : XK := fun _ _ _ => False
theorem pass0 {X : Cx} : Passes CX0 X E0 := fun _ _ _ _ _ _ _ h => h.elim

structure Fun (K : PySem.W.Frag) (x qual : Str) (st : Stmt) (f : Addr) (fd : FuncData) : Prop where
  ex : ∃ (oc : Value) (od : Option Addr) (kV doc pm : Value) (an : Option Addr) (cdv ct : Value) (osl : Array (Option Value)),
    fd = PySem.W.fnOf x qual (defArgs st) (defBody st) (defScope st) .none kV doc pm an cdv ct ∧ K.lookup f = some ⟨oc, od, .func fd, osl⟩ ∧ PySem.W.codeIn K cdv qual = true
  kp : PySem.W.keepIn K (.ref f) = true
section
variable {P : Program} {w : World} {K : PySem.W.Frag} {mg : Str → Option Value} {base : Heap}
theorem Fun.ok {x qual : Str} {st : Stmt} {f : Addr} {fd : FuncData} {N ps : List Str} {k : Nat} {sp : Sp} (F : Fun K x qual st f fd) (S : FnScope N ps (defScope st)) (len : ∀ vs H Q E, sp vs H Q E → vs.length = ps.length)
    (hbody : ∀ (cdv : Value) (A : Around) (outer : List Env) (s : Shared) (H : Hp) (vs : List V) (Q : VK) (E : XK), Room k (A.deeper (envOfC qual (defScope st) s.heap.objs.size f cdv)) → sp vs H Q E →
      ∃ t, PSs (cxOf CX0 P w K mg base N qual (defScope st) f cdv A outer s H E).nox (defBody st) t ∧ t { nx := fun _ H' => Q .non H', rt := Q } (start N vs) H) : FnOk P w K mg base CX0 (k + 1) f fd ps sp := by
  obtain ⟨oc, od, kV, doc, pm, an, cdv, ct, osl, rfl, lk, hcd⟩ := F.ex
  refine fn_of lk hcd S len fun A outer s H vs Q E hr hsp => ?_
  obtain ⟨t, h, q⟩ := hbody cdv A outer s H vs Q E hr hsp
  exact ⟨t, h.nox, q⟩
theorem Fun.binds {x qual : Str} {st : Stmt} {f : Addr} {fd : FuncData} {ps : List Str} (F : Fun K x qual st f fd)
    (h : ∀ (kV doc pm : Value) (an : Option Addr) (cdv ct : Value) (us : List Value), us.length = ps.length → bindArgs (PySem.W.fnOf x qual (defArgs st) (defBody st) (defScope st) .none kV doc pm an cdv ct) ⟨us, []⟩ = pure (ps.zip us)) : Binds K fd ps [] := by
  obtain ⟨oc, od, kV, doc, pm, an, cdv, ct, osl, rfl, lk, hcd⟩ := F.ex
  exact .all (h kV doc pm an cdv ct)
theorem fun_mk {x qual : Str} {st : Stmt} {f : Addr} {oc : Value} {od an : Option Addr} {osl : Array (Option Value)} {kV doc pm cdv ct : Value} (l : K.lookup f = some ⟨oc, od, .func (PySem.W.fnOf x qual (defArgs st) (defBody st) (defScope st) .none kV doc pm an cdv ct), osl⟩)
    (c : PySem.W.codeIn K cdv qual = true) (k : PySem.W.keepIn K (.ref f) = true) : Fun K x qual st f (PySem.W.fnOf x qual (defArgs st) (defBody st) (defScope st) .none kV doc pm an cdv ct) := ⟨⟨oc, od, kV, doc, pm, an, cdv, ct, osl, rfl, l, c⟩, k⟩
end
theorem hu_of {A : Around} {k : Nat} (hr : Room k A) : A.units + 1 < cLine := Nat.lt_of_le_of_lt (Nat.add_le_add_left (by decide : 1 ≤ 64) _) hr.units
theorem small1000 {n : Nat} (h : n ≤ 1000) : n < sizeLine := Nat.lt_of_le_of_lt h (by decide)

section
variable {X : Cx}
theorem pv (i : Nat) {x : Str} {pos : Pos} (hN : X.N[i]? = some x := by rfl) (hv : Vis X.env.scope x := by first | exact Or.inl rfl | exact Or.inr (Or.inl rfl) | exact Or.inr (Or.inr rfl)) (hd : (x == ("__debug__" : Str)) = false := by decide)
    (hcd : (x == ("__classdict__" : Str)) = false := by decide) : PE X (.Name x pos) (tVar i) := pe_var hN hv hd hcd
end

theorem iteF {A B : Prop} (h : B) : if false = true then A else B := by
  rw [if_neg Bool.false_ne_true]
  exact h
theorem iteT {A B : Prop} (h : A) : if true = true then A else B := by
  rw [if_pos rfl]
  exact h
theorem ite2 {c A B : Prop} [Decidable c] (h1 : c → A) (h2 : ¬ c → B) : if c then A else B := by
  by_cases h : c
  · rw [if_pos h]
    exact h1 h
  · rw [if_neg h]
    exact h2 h
def Same (H H' : Hp) : Prop := ∀ b o, H b = some o → H' b = some o
theorem Same.refl (H : Hp) : Same H H := fun _ _ h => h
theorem Same.trans {H H1 H2 : Hp} (a : Same H H1) (b : Same H1 H2) : Same H H2 := fun c o h => b c o (a c o h)
theorem Same.free {H H' : Hp} (e : Same H H') {l : Addr} (h : H' l = Option.none) : H l = Option.none := by
  cases q : H l with
  | none => rfl
  | some o =>
    rw [e l o q] at h
    cases h
theorem Same.seq {K : PySem.W.Frag} {H H' : Hp} {a : Addr} {xs : List V} (e : Same H H') (h : SqL K H a xs) : SqL K H' a xs := by
  rcases h with (h | ⟨o, h⟩) | h
  · exact .inl (.inl (e _ _ h))
  · exact .inl (.inr ⟨o, e _ _ h⟩)
  · exact .inr h

end L2
set_option Elab.async false
set_option linter.all false
set_option maxRecDepth 100000
namespace L2
open PySem PySem.Spec PyProof.Rows

section
variable {κ : Type} [DecidableEq κ]
def valV (kvs : List (κ × V)) (k : κ) : Option V := (kvs.find? fun kv => decide (kv.1 = k)).map (·.2)
def putK (kvs : List (κ × V)) (k : κ) (v : V) : List (κ × V) :=
  if (kvs.any fun kv => decide (kv.1 = k)) = true then kvs.map (fun kv => if kv.1 = k then (kv.1, v) else kv) else kvs ++ [(k, v)]
theorem valV_pos {p : κ × V} {r : List (κ × V)} {k : κ} (e : p.1 = k) : valV (p :: r) k = some p.2 := by simp [valV, List.find?_cons, e]
theorem valV_neg {p : κ × V} {r : List (κ × V)} {k : κ} (e : ¬ p.1 = k) : valV (p :: r) k = valV r k := by simp [valV, List.find?_cons, e]
theorem valV_any (k : κ) : ∀ kvs : List (κ × V), (kvs.any fun kv => decide (kv.1 = k)) = (valV kvs k).isSome
  | [] => rfl
  | p :: r => by
    rw [List.any_cons]
    by_cases e : p.1 = k
    · simp only [valV_pos e, decide_eq_true e, Bool.true_or, Option.isSome_some]
    · rw [valV_neg e, decide_eq_false e, Bool.false_or]; exact valV_any k r
theorem valV_map (k j : κ) (y : V) : ∀ kvs : List (κ × V), valV (kvs.map fun kv => if kv.1 = k then (kv.1, y) else kv) j = (valV kvs j).map fun x => if j = k then y else x
  | [] => rfl
  | p :: r => by
    have ih := valV_map k j y r
    rw [List.map_cons]
    by_cases h : p.1 = k
    · rw [if_pos h]
      by_cases e : p.1 = j
      · rw [valV_pos (p := (p.1, y)) e, valV_pos e, Option.map_some, if_pos (e.symm.trans h)]
      · rw [valV_neg (p := (p.1, y)) e, valV_neg e, ih]
    · rw [if_neg h]
      by_cases e : p.1 = j
      · rw [valV_pos (p := p) e, valV_pos e, Option.map_some, if_neg (fun z => h (e.trans z))]
      · rw [valV_neg (p := p) e, valV_neg e, ih]
theorem valV_snoc (k j : κ) (y : V) : ∀ kvs : List (κ × V), valV kvs k = none → valV (kvs ++ [(k, y)]) j = if j = k then some y else valV kvs j
  | [], _ => by
    by_cases e : k = j
    · rw [if_pos e.symm]; exact valV_pos (p := (k, y)) e
    · rw [if_neg (fun z => e z.symm)]; exact valV_neg (p := (k, y)) e
  | p :: r, hn => by
    rw [List.cons_append]
    have hk : ¬ p.1 = k := fun z => by rw [valV_pos z] at hn; cases hn
    rw [valV_neg hk] at hn
    have ih := valV_snoc k j y r hn
    by_cases e : p.1 = j
    · rw [valV_pos e, valV_pos e, if_neg (fun z => hk (e.trans z))]
    · rw [valV_neg e, valV_neg e, ih]
theorem valV_put (kvs : List (κ × V)) (k j : κ) (y : V) : valV (putK kvs k y) j = if j = k then some y else valV kvs j := by
  unfold putK
  by_cases a : (kvs.any fun kv => decide (kv.1 = k)) = true
  · rw [if_pos a, valV_map]
    rw [valV_any] at a
    by_cases e : j = k
    · obtain ⟨x, hx⟩ := Option.isSome_iff_exists.mp a
      rw [if_pos e, e, hx, Option.map_some, if_pos rfl]
    · rw [if_neg e]
      cases valV kvs j with
      | none => rfl
      | some x => rw [Option.map_some, if_neg e]
  · rw [if_neg a]
    refine valV_snoc k j y kvs ?_
    rw [valV_any] at a
    cases q : valV kvs k with
    | none => rfl
    | some x => rw [q] at a; exact (a rfl).elim
theorem length_putK (kvs : List (κ × V)) (k : κ) (v : V) : (putK kvs k v).length ≤ kvs.length + 1 := by
  unfold putK
  split
  · rw [List.length_map]; omega
  · rw [List.length_append, List.length_cons, List.length_nil]; omega
theorem RelO.isSome_eq {o : Option V} {u : Option Value} (r : RelO o u) : o.isSome = u.isSome := by
  cases o with
  | none => cases u with
    | none => rfl
    | some _ => exact (show False from r).elim
  | some _ => cases u with
    | none => exact (show False from r).elim
    | some _ => rfl
theorem KV.val {kvs : List (κ × V)} {vs : List (κ × Value)} (r : KV kvs vs) (k : κ) : RelO (valV kvs k) (valueAt vs k) := by
  unfold KV at r
  induction r with
  | nil => exact True.intro
  | @cons p q ps qs h t ih =>
    obtain ⟨h1, h2⟩ := h
    by_cases e : p.1 = k
    · have e' : q.1 = k := h1.symm.trans e
      have b : valueAt (q :: qs) k = some q.2 := by simp [valueAt, List.find?_cons, e']
      rw [valV_pos e, b]; exact h2
    · have e' : ¬ q.1 = k := fun z => e (h1.trans z)
      have b : valueAt (q :: qs) k = valueAt qs k := by simp [valueAt, List.find?_cons, e']
      rw [valV_neg e, b]; exact ih
theorem KV.any {kvs : List (κ × V)} {vs : List (κ × Value)} (r : KV kvs vs) (k : κ) : (kvs.any fun kv => decide (kv.1 = k)) = vs.any fun kv => decide (kv.1 = k) := by
  unfold KV at r
  induction r with
  | nil => rfl
  | cons h t ih => rw [List.any_cons, List.any_cons, ih, h.1]
theorem KV.repl {kvs : List (κ × V)} {vs : List (κ × Value)} (r : KV kvs vs) (k : κ) {y : V} {u : Value} (ry : RelV y u) :
    KV (kvs.map fun kv => if kv.1 = k then (kv.1, y) else kv) (vs.map fun kv => if kv.1 = k then (kv.1, u) else kv) := by
  unfold KV at r ⊢
  induction r with
  | nil => exact .nil
  | @cons p q ps qs h t ih =>
    rw [List.map_cons, List.map_cons]
    refine .cons ?_ ih
    obtain ⟨h1, h2⟩ := h
    by_cases e : p.1 = k
    · rw [if_pos e, if_pos (h1.symm.trans e)]; exact ⟨h1, ry⟩
    · rw [if_neg e, if_neg (fun z => e (h1.trans z))]; exact ⟨h1, h2⟩
theorem KV.put {kvs : List (κ × V)} {vs : List (κ × Value)} (r : KV kvs vs) (k : κ) {y : V} {u : Value} (ry : RelV y u) : KV (putK kvs k y) (stored vs k u) := by
  unfold putK stored
  rw [r.any k]
  by_cases e : (vs.any fun kv => decide (kv.1 = k)) = true
  · rw [if_pos e, if_pos e]; exact r.repl k ry
  · rw [if_neg e, if_neg e]; exact Paired.snoc r ⟨rfl, ry⟩
theorem KV.length {kvs : List (κ × V)} {vs : List (κ × Value)} (r : KV kvs vs) : kvs.length = vs.length := Paired.length r
end


theorem kV_is {P : Program} {w : World} {k : Key} {u : Value} (r : RelV (kV k) u) : (mixKind P w).is k u = true := by
  cases k with
  | inl i => obtain ⟨t, e⟩ := (show ∃ t, u = Value.int i t from r); subst e; exact mixKind_int P w i t
  | inr x => obtain ⟨t, e⟩ := (show ∃ t, u = Value.str x t from r); subst e; exact mixKind_str P w x t
theorem items_are {P : Program} {w : World} : ∀ {ks : List Key} {us : List Value}, Vals (ks.map kV) us → ItemsAre (mixKind P w) ks us
  | [], _, r => by rw [List.map_nil] at r; cases r; exact .nil
  | k :: ks, _, r => by
    rw [List.map_cons] at r
    cases r with
    | cons h t => exact .cons (kV_is h) (items_are t)

abbrev KT (H : Hp) : List (List Key × V) → List (List Key × Addr × Value) → Prop := Paired fun p q => p.1 = q.1 ∧ H q.2.1 = some (.tup (p.1.map kV)) ∧ RelV p.2 q.2.2
theorem KT.val {H : Hp} {kvs : List (List Key × V)} {xs : List (List Key × Addr × Value)} (r : KT H kvs xs) (k : List Key) : RelO (valV kvs k) ((atKey xs k).map (·.2)) := by
  induction r with
  | nil => exact True.intro
  | @cons p q ps qs h t ih =>
    obtain ⟨h1, _, h2⟩ := h
    by_cases e : p.1 = k
    · have e' : q.1 = k := h1.symm.trans e
      have b : atKey (q :: qs) k = some q.2 := by simp [atKey, List.find?_cons, e']
      rw [valV_pos e, b]; exact h2
    · have e' : ¬ q.1 = k := fun z => e (h1.trans z)
      have b : atKey (q :: qs) k = atKey qs k := by simp [atKey, List.find?_cons, e']
      rw [valV_neg e, b]; exact ih
theorem KT.repl {H : Hp} {kvs : List (List Key × V)} {xs : List (List Key × Addr × Value)} (r : KT H kvs xs) (k : List Key) {y : V} {u : Value} (ry : RelV y u) :
    KT H (kvs.map fun kv => if kv.1 = k then (kv.1, y) else kv) (xs.map (putAt k u)) := by
  induction r with
  | nil => exact .nil
  | @cons p q ps qs h t ih =>
    rw [List.map_cons, List.map_cons]
    refine .cons ?_ ih
    obtain ⟨h1, h2, h3⟩ := h
    unfold putAt
    by_cases e : p.1 = k
    · rw [if_pos e, if_pos (h1.symm.trans e)]; exact ⟨h1, h2, ry⟩
    · rw [if_neg e, if_neg (fun z => e (h1.trans z))]; exact ⟨h1, h2, h3⟩
theorem KT.put {H : Hp} {kvs : List (List Key × V)} {xs : List (List Key × Addr × Value)} (r : KT H kvs xs) (k : List Key) {b : Addr} {y : V} {u : Value} (hb : H b = some (.tup (k.map kV))) (ry : RelV y u) :
    KT H (putK kvs k y) (storedH xs k b u) := by
  have e : (kvs.any fun kv => decide (kv.1 = k)) = (atKey xs k).isSome := by
    rw [valV_any, (r.val k).isSome_eq, Option.isSome_map]
  unfold putK storedH
  rw [e]
  by_cases q : (atKey xs k).isSome = true
  · rw [if_pos q, if_pos q]; exact r.repl k ry
  · rw [if_neg q, if_neg q]; exact Paired.snoc r ⟨rfl, hb, ry⟩
theorem KT.keeps {H H' : Hp} {kvs : List (List Key × V)} {xs : List (List Key × Addr × Value)} (r : KT H kvs xs) (ht : ∀ b ys, H b = some (.tup ys) → H' b = some (.tup ys)) : KT H' kvs xs :=
  Paired.mapP r fun _ _ z => ⟨z.1, ht _ _ z.2.1, z.2.2⟩

section
variable {P : Program} {w : World} {H : Hp} {h : Heap} {a : Addr}
theorem rd_of {u : HO} (ok : HOk P w H h) (e : Rd H a u) : ObjOk P w H h a u := e.ok ok
theorem dk_rd {kvs : List (Key × V)} (ok : HOk P w H h) (e : Rd H a (.dK kvs)) : kvs.length ≤ sizeLine ∧ (a == sysModules) = false ∧ ∃ vs, KV kvs vs ∧ h.DictOf (mixKind P w) a vs :=
  show ObjOk P w H h a (.dK kvs) from rd_of ok e
theorem dk_of {kvs : List (Key × V)} (ok : HOk P w H h) (e : H a = some (.dK kvs)) : kvs.length ≤ sizeLine ∧ (a == sysModules) = false ∧ ∃ vs, KV kvs vs ∧ h.DictOf (mixKind P w) a vs := dk_rd ok (.inl e)
theorem key_of {ks : List Key} (ok : HOk P w H h) (e : H a = some (.tup (ks.map kV))) : (tupleKind (mixKind P w)).is h ks a := by
  obtain ⟨_, its, r, o, h1, h2, n, h3, _⟩ := (show ObjOk P w H h a (.tup (ks.map kV)) from ok a _ e)
  exact ⟨o, its.toArray, n, h1, h2, h3, by simpa using items_are r⟩
theorem dt_rd {kvs : List (List Key × V)} (ok : HOk P w H h) (e : Rd H a (.dT kvs)) : kvs.length ≤ sizeLine ∧ (a == sysModules) = false ∧
    ∃ xs, KT H kvs xs ∧ h.DictOfH (tupleKind (mixKind P w)) a xs := by
  obtain ⟨z, y, xs, r, o, es, ep, h1, h2, h3, h4, h5⟩ := (show ObjOk P w H h a (.dT kvs) from rd_of ok e)
  refine ⟨z, y, xs, r, o, es, ep, h1, h2, h3, h4, fun x hx => ?_, h5⟩
  have all : ∀ {l : List (List Key × V)} {m : List (List Key × Addr × Value)}, KT H l m → ∀ x ∈ m, (tupleKind (mixKind P w)).is h x.1 x.2.1 := by
    intro l m q
    induction q with
    | nil => intro x hx; exact nomatch hx
    | @cons p q ps qs hq t ih =>
      intro x hx
      rcases List.mem_cons.mp hx with e | hx
      · subst e
        exact key_of ok (by rw [← hq.1]; exact hq.2.1)
      · exact ih x hx
  exact all r x hx
theorem dt_of {kvs : List (List Key × V)} (ok : HOk P w H h) (e : H a = some (.dT kvs)) : kvs.length ≤ sizeLine ∧ (a == sysModules) = false ∧
    ∃ xs, KT H kvs xs ∧ h.DictOfH (tupleKind (mixKind P w)) a xs := dt_rd ok (.inl e)
end

def DGet (H : Hp) (a : Addr) (y : V) (r : Option V) : Prop :=
  (∃ kvs k, Rd H a (.dK kvs) ∧ y = kV k ∧ r = valV kvs k) ∨ ∃ kvs k b, Rd H a (.dT kvs) ∧ y = .ref b ∧ H b = some (.tup (k.map kV)) ∧ r = valV kvs k
def DPut (H : Hp) (a : Addr) (y v : V) (H' : Hp) : Prop :=
  (∃ kvs k, H a = some (.dK kvs) ∧ y = kV k ∧ kvs.length < sizeLine ∧ H' = upd H a (.dK (putK kvs k v))) ∨
  ∃ kvs k b, H a = some (.dT kvs) ∧ y = .ref b ∧ H b = some (.tup (k.map kV)) ∧ kvs.length < sizeLine ∧ H' = upd H a (.dT (putK kvs k v))
theorem DGet.t {H : Hp} {a b : Addr} {kvs : List (List Key × V)} {k : List Key} (e : H a = some (.dT kvs)) (eb : H b = some (.tup (k.map kV))) : DGet H a (.ref b) (valV kvs k) := .inr ⟨kvs, k, b, .inl e, rfl, eb, rfl⟩
theorem DPut.t {H : Hp} {a b : Addr} {kvs : List (List Key × V)} {k : List Key} {v : V} (e : H a = some (.dT kvs)) (eb : H b = some (.tup (k.map kV))) (hl : kvs.length < sizeLine) :
    DPut H a (.ref b) v (upd H a (.dT (putK kvs k v))) := .inr ⟨kvs, k, b, e, rfl, eb, hl, rfl⟩


section
variable {X : Cx} {pins : List (Addr × Obj)} {σ : St} {H : Hp} {s : Shared} {a : Addr} {y v : V} {u r : Value} {o : Option V} {A : Around} {E : Value → Shared → Prop}

theorem Inv.big (I : Inv X pins σ H s) : sysModules < s.heap.objs.size := by
  have h : mainGlobals < s.heap.objs.size := (I.mod.glob.keeps I.bk).lt
  exact Nat.lt_trans (by decide) h

theorem d_notIn {Q : Value → Shared → Prop} (hu : A.units + 1 < cLine) (I : Inv X pins σ H s) (g : DGet H a y o) (ry : RelV y u) (h : ∀ s', Inv X pins σ H s' → Q (.bool (!o.isSome)) s') :
    wpAny (model X.prog X.w) A (compareOp .NotIn u (.ref a)) Q E s := by
  rcases g with ⟨kvs, k, e, ey, l⟩ | ⟨kvs, k, b, e, ey, eb, l⟩
  · subst ey
    obtain ⟨z, hd, vs, rel, dd⟩ := dk_rd I.hok e
    refine wpAny_notIn_of (kV_is ry) hd dd.mapOf ?_
    rw [← (rel.val k).isSome_eq, ← l]
    exact h _ (I.tok _)
  · subst ey
    cases (show u = Value.ref b from ry)
    obtain ⟨z, hd, xs, rel, dd⟩ := dt_rd I.hok e
    refine wpAny_notIn_heap (tupleKind_room_in1 hu) (key_of I.hok eb) hd dd ?_
    have q := (rel.val k).isSome_eq
    rw [Option.isSome_map] at q
    rw [← q, ← l]
    exact h _ (I.tok _)
theorem d_write {h' : Heap} {t' : Nat} {ob : HO} (I : Inv X pins σ H s) (mu : Mut (H a)) (hs : Heap.SameBut a s.heap h') (he : ∃ q, h'.get? a = some q) (new : ObjOk X.prog X.w (upd H a ob) h' a ob) :
    Inv X pins σ (upd H a ob) { s with heap := h', toks := t' } :=
  I.write (x := a) (e := a) mu (.inl rfl) (fun b q hb z => (hs.2 b hb).trans z) he new
theorem dk_new {P : Program} {w : World} {H' : Hp} {h' : Heap} {kvs : List (Key × V)} {vs : List (Key × Value)} (z : kvs.length ≤ sizeLine) (hd : (a == sysModules) = false) (rel : KV kvs vs) (dd : h'.DictOf (mixKind P w) a vs) :
    ObjOk P w H' h' a (.dK kvs) := ⟨z, hd, vs, rel, dd⟩
end

section
variable {X : Cx} {pins : List (Addr × Obj)} {σ : St} {H : Hp} {s : Shared} {a : Addr} {kvs : List (Key × V)} {k : Key} {u : Value} {A : Around} {E : Value → Shared → Prop}
end


def tDNotIn (ty td : TE) : TE := fun σ H Q => ty σ H fun y H1 => td σ H1 fun x H2 => ∃ a o, x = .ref a ∧ DGet H2 a y o ∧ Q (.bl (!o.isSome)) H2
section
variable {X : Cx} {o i e value : Expr} {pos pos' tpos : Pos} {td ty tv : TE}
theorem pc_dnotin (hu : X.A.units + 1 < cLine) (hi : PE X i ty) (ho : PE X o td) : PC X .NotIn i o (tDNotIn ty td) := by
  intro pins s σ H Q I h
  refine thn (hi pins s σ H _ I h) fun iv s1 ⟨y, H1, I1, ry, q1⟩ => thn (ho pins s1 σ H1 _ I1 q1) fun u s2 ⟨x, H2, I2, rx, a, ov, ex, g, q2⟩ => ?_
  subst ex
  obtain rfl : u = Value.ref a := rx
  exact d_notIn hu I2 g ry fun s3 I3 => ⟨.bl (!ov.isSome), H2, I3, rfl, q2⟩
end


theorem dt_empty {P : Program} {w : World} {H : Hp} (h : Heap) (hb : sysModules < h.objs.size) : ObjOk P w H (h.push { cls := .type "dict", data := .dict #[] }) h.objs.size (.dT []) :=
  ⟨Nat.zero_le _, beq_eq_false_iff_ne.mpr (Ne.symm (Nat.ne_of_lt hb)), [], .nil, _, #[], 0, Heap.get?_push_size _ rfl, ⟨rfl, rfl, rfl⟩, rfl, rfl, List.nodup_nil⟩
def tDNewT : TE := fun _ H Q => ∀ p, H p = none → Q (.ref p) (upd H p (.dT []))
section
variable {X : Cx} {pos : Pos}
theorem pe_dnewT : PE X (.Dict [] [] pos) tDNewT := fun pins s σ H Q I h =>
  wpAny_Dict_empty ⟨.ref s.heap.objs.size, _, I.laid (a := s.heap.objs.size) (o := .dT []) (t' := s.toks) (fun _ _ q => Heap.get?_push_of_some _ q) (Nat.le_refl _) (dt_empty s.heap I.big), rfl, h _ (I.hok.fresh (Nat.le_refl _))⟩
end

section
variable {X : Cx} {pins : List (Addr × Obj)} {σ : St} {H : Hp} {s : Shared} {a : Addr} {y d : V} {u r : Value} {o : Option V} {A : Around} {E : Value → Shared → Prop}
end

section
variable {X : Cx} {o e f : Expr} {apos cpos : Pos} {td ty tx : TE}
end

section
variable {X : Cx} {pins : List (Addr × Obj)} {σ : St} {H : Hp} {s : Shared} {a : Addr} {kvs : List (Key × V)} {A : Around} {E : Value → Shared → Prop}
end


section
variable {X : Cx} {pins : List (Addr × Obj)} {σ : St} {H : Hp} {s : Shared} {a : Addr} {y : V} {u : Value} {A : Around} {E : Value → Shared → Prop}
end
end L2

namespace L2
open PySem PySem.Spec PyProof.Rows
section
variable {κ : Type} [DecidableEq κ]
end
end L2
set_option Elab.async false
set_option linter.all false
set_option maxRecDepth 100000
namespace Own
open PySem PySem.Spec PyProof.Rows L2

def Has (P : Program) (w : World) (K : PySem.W.Frag) (mg : Str → Option Value) (base : Heap) (x : Str) (ps : List Str) (k : Nat) (sp : Sp) : Prop :=
  ∃ (f : Addr) (fd : FuncData), FnOk P w K mg base CX0 k f fd ps sp ∧ Binds K fd ps [] ∧ PySem.W.keepIn K (.ref f) = true ∧ mg x = some (.ref f)
section
variable {X : Cx} {k : Nat} {ps : List Str} {sp : Sp} {x : Str} {p pos : Pos} {e : Expr} {es : List Expr} {t : TA}
theorem pe_has (h : Has X.prog X.w X.K X.mg X.base x ps k sp) (hr : Room k X.A) (hg : Gl X x)
    (ha : PA X (e :: es) t) (hdb : (x == ("__debug__" : Str)) = false := by decide) (he : starEach (e :: es) X.env = (false, eval e X.env) :: starEach es X.env := by rfl) (hpl : (backTo pos (starEach es X.env)).any (·.1) = false := by rfl) :
    PE X (.Call (.Name x p) (e :: es) [] pos) (tCall sp [] E0 t) := by
  obtain ⟨f, fd, F, b, kp, m⟩ := h
  exact pe_call F hr hg m kp b .nil pass0 ha hdb he hpl
end
section
variable {X : Cx}
theorem log2_lt {n : Nat} (h : n < 2 ^ 9000) : n.log2 < 9000 := by
  by_cases h0 : n = 0
  · subst h0; decide
  · exact (Nat.log2_lt h0).mpr h
theorem call_isi : CallR X (.builtin "isinstance") (fun xs H Q => ∃ x t T b, xs = [x, .ty T] ∧ TyOf X.K H x t ∧ PySem.W.kitOne X.K t (.type T) = some b ∧ Q (.bl b) H) := by
  intro pins s σ H xs us Q I r h
  obtain ⟨x, t, T, b, rfl, ty, e, q⟩ := h
  obtain ⟨u, w', rfl, r1, r2⟩ := vals2 r
  cases r2
  exact isinst_ok I r1 ty e fun tk => ⟨.bl b, H, I.tok _, rfl, q⟩
end
end Own
set_option Elab.async false
set_option linter.all false
set_option maxRecDepth 100000
set_option maxHeartbeats 4000000
namespace L2
open PySem PySem.Spec PyProof.Rows

abbrev TB := (St → Hp → Prop) → St → Hp → Prop
def PBd (X : Cx) (code : Sem Unit) (b : TB) : Prop :=
  ∀ (pins : List (Addr × Obj)) (s : Shared) (σ : St) (H : Hp) (N : St → Hp → Prop), Inv X pins σ H s → b N σ H →
    wpAny (model X.prog X.w) X.A code (fun _ s' => ∃ σ' H', Inv X pins σ' H' s' ∧ N σ' H') X.xe s
def PTl (X : Cx) (tail : Sem PySem.Fin) (L : Code) (b : TB) : Prop :=
  ∀ (pins : List (Addr × Obj)) (s : Shared) (σ : St) (H : Hp) (N : St → Hp → Prop), Inv X pins σ H s → b N σ H →
    wpAny (model X.prog X.w) X.A tail (fun fin s' => fin = .again L ∧ ∃ σ' H', Inv X pins σ' H' s' ∧ N σ' H') X.xe s
def tailOf (ifs : List Expr) (env : Env) (body : Sem Unit) (L : Code) : Sem PySem.Fin :=
  (forIn ifs true fun c r => if r = true then do let ok ← isTrue c env (eval c env); pure (ForInStep.yield ok) else pure (ForInStep.yield r)) >>= fun ok => if ok = true then body >>= fun _ => again L else again L
def tWalk (J : It) (g : TG) (b : TB) (N0 : St → Hp → Prop) (σ : St) (H : Hp) : Prop :=
  ∃ W : Nat → Nat → St → Hp → Prop, (∃ m, W 0 m σ H) ∧ ∀ i m σ H, W i m σ H →
    (J.stop i H ∧ N0 σ H) ∨ (J.go i H ∧ ∃ N : St → Hp → Prop, (∀ σ' H', N σ' H' → ∃ m', m' < m ∧ W (i + 1) m' σ' H') ∧ ∀ x H', J.yld i H x H' → g x σ H' fun σ2 H2 => b N σ2 H2)
section
variable {X : Cx} {e tg : Expr} {gens : List Comprehension} {sc : Scope} {cpos : Pos} {d : Nat} {it : Addr} {acc : Value} {tail : Sem PySem.Fin} {p : Pos} {g : TG} {b : TB} {J : It} {fp : List Addr} {tn : Nat → Heap → Prop} {N0 : St → Hp → Prop} {R : Result → Shared → Prop}
theorem comp_loop (he : (∃ el, e = .ListComp el gens sc cpos) ∨ ∃ k v, e = .DictComp k v gens sc cpos) (hx : X.xe = fun _ _ => False) (hc : X.calm = true)
    (ht : compTurn e d (.ref it) acc X.env = (standAt p >>= fun _ => pyNext (.ref it) >>= fun r => match r with
      | none => pure (.done .next)
      | some v => letOwnedTupleGo tg (.ref it) v >>= fun _ => assign tg X.env v >>= fun _ => tail))
    (T : Turn X.prog X.w X.K tg J fp it tn) (hg : PG X tg g) (hb : PTl X tail (.compLoop e d (.ref it) acc X.env) b) {pins : List (Addr × Obj)} {σ : St} {H : Hp} {s : Shared}
    (I : Inv X pins σ H s) (st : tn 0 s.heap) (f2 : ∀ b ∈ fp, FpOk X pins H b) (hw : tWalk J g b N0 σ H)
    (hR : ∀ σ' H' s', Inv X pins σ' H' s' → N0 σ' H' → R (.ok .next) s') :
    codeAny (model X.prog X.w) X.A (.compLoop e d (.ref it) acc X.env) R s := by
  obtain ⟨W, ⟨m0, w0⟩, turn⟩ := hw
  have stat : ∀ {H' : Hp}, (∀ b ∈ fp, H' b = none) → ∀ b ∈ fp, FpOk X pins H' b := fun hn b hb => ⟨hn b hb, (f2 b hb).2⟩
  refine codeAny_loop rfl (fun n s' => ∃ i σ' H', Inv X pins σ' H' s' ∧ tn i s'.heap ∧ (∀ b ∈ fp, H' b = none) ∧ W i n σ' H') ?_ m0 ⟨0, σ, H, I, st, fun b hb => (f2 b hb).1, w0⟩
  rintro n s3 ⟨i, σ3, H3, I3, st3, fr3, w3⟩
  have hden : (model X.prog X.w).den (.compLoop e d (.ref it) acc X.env) = ((compTurn e d (.ref it) acc X.env).onRaise (fun x => do noteFrame x X.env; theTreesLotGoes x)) ∧ X.A.under (.compLoop e d (.ref it) acc X.env) = X.A := by
    rcases he with ⟨el, rfl⟩ | ⟨k, v, rfl⟩ <;> exact ⟨rfl, rfl⟩
  rw [hden.1, hden.2]
  show wpAny _ _ ((compTurn e d (.ref it) acc X.env).onRaise (fun x => do noteFrame x X.env; theTreesLotGoes x)) _ _ s3
  refine wpAny_noted ?_
  rw [ht]
  have no : ∀ {α : Type} {t : Sem α} {Q : α → Shared → Prop} {E : Value → Shared → Prop} {s : Shared}, wpAny (model X.prog X.w) X.A t Q X.xe s → wpAny (model X.prog X.w) X.A t Q E s :=
    fun h => wpAny_mono h (fun _ _ q => q) fun _ _ q => by rw [hx] at q; exact q.elim
  refine wpAny_bind (wpAny_standAt (wpAny_bind ?_))
  rcases turn i n σ3 H3 w3 with ⟨stop, qn⟩ | ⟨go, N, hN, step⟩
  · refine no (thn (T.done X rfl rfl rfl hc i pins s3 σ3 H3 X.xe I3 (stat fr3) st3 stop) fun r s4 ⟨hr, I4⟩ => ?_)
    subst hr
    exact wpAny_pure (hR _ _ _ I4 qn)
  · refine no (thn (T.item X rfl rfl rfl hc i pins s3 σ3 H3 X.xe I3 (stat fr3) st3 go) fun r s4 ⟨u, hr, h4⟩ => ?_)
    subst hr
    refine wpAny_bind (no (thn h4 fun _ s5 ⟨x, H5, I5, r5, y5, st5, fr5⟩ => ?_))
    have I5' := I5.pinned (stat fr5) (T.obj _ _ st5)
    refine wpAny_bind (no (thn (hg _ s5 σ3 H5 x u _ I5' r5 (step x H5 y5)) fun _ s6 ⟨σ6, H6, I6, q6⟩ => ?_))
    refine no (thn (hb _ s6 σ6 H6 _ I6 q6) fun fin s7 ⟨hf, σ7, H7, I7, n7⟩ => ?_)
    subst hf
    obtain ⟨m', hm, w7⟩ := hN σ7 H7 n7
    refine ⟨rfl, m', hm, i + 1, σ7, H7, I7.unpinned, T.keep _ _ _ st5 fun b hb o e => (I7.pin (b, o) (List.mem_append_right _ (List.mem_append_right _ (mem_pinsAt hb e)))).1, fun b hb => ?_, w7⟩
    obtain ⟨o, e, d⟩ := T.obj _ _ st5 b hb
    exact (I7.pin (b, o) (List.mem_append_right _ (List.mem_append_right _ (mem_pinsAt hb e)))).2.1
end
def bIf (t : TT) (b : TB) : TB := fun N σ H => t σ H fun c H1 => if c = true then b N σ H1 else N σ H1
theorem pt_tail0 {X : Cx} {body : Sem Unit} {L : Code} {b : TB} (hb : PBd X body b) : PTl X (tailOf [] X.env body L) L b := by
  intro pins s σ H N I h
  unfold tailOf
  refine wpAny_bind (wpAny_tests_nil ?_)
  show wpAny _ _ (body >>= fun _ => again L) _ _ s
  exact wpAny_bind (thn (hb pins s σ H N I h) fun _ s' q => wpAny_pure ⟨rfl, q⟩)
theorem pt_tail1 {X : Cx} {c : Expr} {t : TT} {body : Sem Unit} {L : Code} {b : TB} (hc : PT X c t) (hb : PBd X body b) : PTl X (tailOf [c] X.env body L) L (bIf t b) := by
  intro pins s σ H N I h
  unfold tailOf
  refine wpAny_bind (wpAny_tests_one (thn (hc pins s σ H _ I h) fun ok s1 ⟨H1, I1, q⟩ => ?_))
  cases ok with
  | true => exact wpAny_bind (thn (hb pins s1 σ H1 N I1 (by simpa using q)) fun _ s' q => wpAny_pure ⟨rfl, q⟩)
  | false => exact wpAny_pure ⟨rfl, σ, H1, I1, by simpa using q⟩
def bApp (D : Addr) (te : TE) : TB := fun N σ H => te σ H fun x H1 => ∃ xs, H1 D = some (.lst xs) ∧ xs.length < sizeLine ∧ N σ (upd H1 D (.lst (xs ++ [x])))
theorem pb_app {X : Cx} {el : Expr} {te : TE} {D : Addr} (he : PE X el te) : PBd X (do let _ ← call (.builtin "list.append") [.ref D, ← eval el X.env]) (bApp D te) := by
  intro pins s σ H N I h
  refine wpAny_bind (thn (he pins s σ H _ I h) fun u s1 ⟨x, H1, I1, r, xs, hD, hz, q⟩ => ?_)
  refine wpAny_bind (thn (mt_append pins s1 σ H1 (.ref D) [x] (.ref D) [u] (fun _ H2 => N σ H2) I1 rfl (.cons r .nil) ⟨D, xs, x, rfl, rfl, hD, hz, q⟩) fun _ s2 ⟨_, H2, I2, _, q2⟩ => ?_)
  exact wpAny_pure ⟨σ, H2, I2, q2⟩
theorem turn_l1 (el tg iter : Expr) (ifs : List Expr) (sc : Scope) (pos : Pos) (it acc : Value) (env : Env) :
    compTurn (.ListComp el [⟨tg, iter, ifs, 0⟩] sc pos) 0 it acc env = (standAt iter.pos >>= fun _ => pyNext it >>= fun r => match r with
      | none => pure (.done .next)
      | some v => letOwnedTupleGo tg it v >>= fun _ => assign tg env v >>= fun _ => tailOf ifs env (do let _ ← call (.builtin "list.append") [acc, ← eval el env]) (.compLoop (.ListComp el [⟨tg, iter, ifs, 0⟩] sc pos) 0 it acc env)) := by rfl
def tail2 (ifs : List Expr) (env : Env) (iter2 : Expr) (next : Value → Code) (L : Code) : Sem PySem.Fin :=
  (forIn ifs true fun c r => if r = true then do let ok ← isTrue c env (eval c env); pure (ForInStep.yield ok) else pure (ForInStep.yield r)) >>= fun ok => if ok = true then
    (eval iter2 env >>= fun x => standAt iter2.pos >>= fun _ => foldedSetIterable iter2 env x >>= fun x => holding [x] (pyIter x) >>= fun i => runOwn (next i) env >>= fun _ => again L) else again L
theorem turn_l20 (el tg iter tg2 iter2 : Expr) (ifs ifs2 : List Expr) (sc : Scope) (pos : Pos) (it acc : Value) (env : Env) :
    compTurn (.ListComp el [⟨tg, iter, ifs, 0⟩, ⟨tg2, iter2, ifs2, 0⟩] sc pos) 0 it acc env = (standAt iter.pos >>= fun _ => pyNext it >>= fun r => match r with
      | none => pure (.done .next)
      | some v => letOwnedTupleGo tg it v >>= fun _ => assign tg env v >>= fun _ => tail2 ifs env iter2 (fun i => .compStart (.ListComp el [⟨tg, iter, ifs, 0⟩, ⟨tg2, iter2, ifs2, 0⟩] sc pos) 1 i acc env) (.compLoop (.ListComp el [⟨tg, iter, ifs, 0⟩, ⟨tg2, iter2, ifs2, 0⟩] sc pos) 0 it acc env)) := by rfl
theorem turn_l21 (el tg iter tg2 iter2 : Expr) (ifs ifs2 : List Expr) (sc : Scope) (pos : Pos) (it acc : Value) (env : Env) :
    compTurn (.ListComp el [⟨tg, iter, ifs, 0⟩, ⟨tg2, iter2, ifs2, 0⟩] sc pos) 1 it acc env = (standAt iter2.pos >>= fun _ => pyNext it >>= fun r => match r with
      | none => pure (.done .next)
      | some v => letOwnedTupleGo tg2 it v >>= fun _ => assign tg2 env v >>= fun _ => tailOf ifs2 env (do let _ ← call (.builtin "list.append") [acc, ← eval el env]) (.compLoop (.ListComp el [⟨tg, iter, ifs, 0⟩, ⟨tg2, iter2, ifs2, 0⟩] sc pos) 1 it acc env)) := by rfl
end L2
set_option Elab.async false
set_option linter.all false
set_option maxRecDepth 100000
set_option maxHeartbeats 4000000
namespace L2
open PySem PySem.Spec PyProof.Rows

def clStep (env : Env) (cs : List (Str × Addr)) (y : Str × NameKind) : List (Str × Addr) :=
  if (y.2 == .free) = true then (match env.cells.lookup y.1 with | some c => (y.1, c) :: cs | none => cs) else cs
def clOf (sc : Scope) (env : Env) : List (Str × Addr) := sc.names.foldl (clStep env) []
def clTurn (env : Env) (x : Str × NameKind) (r : List (Str × Addr)) : Sem (ForInStep (List (Str × Addr))) :=
  match x with | (name, kind) => if (kind == .free) = true then (do let a ← cellOf env name; pure (ForInStep.yield ((name, a) :: r))) else pure (ForInStep.yield r)
theorem clTurn_eq {env : Env} {y : Str × NameKind} {cs : List (Str × Addr)} (h : y.2 = .free → ∃ c, env.cells.lookup y.1 = some c) : clTurn env y cs = pure (ForInStep.yield (clStep env cs y)) := by
  obtain ⟨n, k⟩ := y
  unfold clTurn clStep
  cases hk : k == NameKind.free with
  | false => simp [hk]
  | true =>
    obtain ⟨c, hc⟩ := h (by simpa using hk)
    have hc' : List.lookup n env.cells = some c := hc
    simp only [hk, if_true, cellOf, hc', pure_bind]
theorem closure_go {env : Env} : ∀ (l : List (Str × NameKind)) (cs : List (Str × Addr)), (∀ y ∈ l, y.2 = .free → ∃ c, env.cells.lookup y.1 = some c) →
    (forIn l cs (clTurn env) : Sem (List (Str × Addr))) = pure (l.foldl (clStep env) cs)
  | [], cs, _ => rfl
  | y :: r, cs, h => by
    rw [List.forIn_cons, clTurn_eq (h y List.mem_cons_self), pure_bind, List.foldl_cons]
    exact closure_go r _ fun y hy => h y (List.mem_cons_of_mem _ hy)
theorem closure_of {sc : Scope} {env : Env} (h : ∀ y ∈ sc.names, y.2 = .free → ∃ c, env.cells.lookup y.1 = some c) : closureFor sc env = pure (clOf sc env) := by
  have q := closure_go (env := env) sc.names [] h
  have z : closureFor sc env = (forIn sc.names [] (clTurn env) >>= fun r => pure r) := rfl
  rw [z, q]
  rfl
theorem cl_in {env : Env} {x : Str} {c : Addr} : ∀ (l : List (Str × NameKind)) (cs : List (Str × Addr)), (cs.lookup x = some c → env.cells.lookup x = some c) → (l.foldl (clStep env) cs).lookup x = some c → env.cells.lookup x = some c
  | [], cs, h, e => h e
  | (n, k) :: r, cs, h, e => by
    rw [List.foldl_cons] at e
    refine cl_in r _ (fun z => ?_) e
    unfold clStep at z
    split at z
    · split at z
      · rename_i c' hc
        rw [List.lookup_cons] at z
        split at z
        · rename_i hx
          have : x = n := by simpa using hx
          subst this
          cases z
          exact hc
        · exact h z
      · exact h z
    · exact h z
theorem cl_has {env : Env} {x : Str} : ∀ (l : List (Str × NameKind)) (cs : List (Str × Addr)), (∃ c, env.cells.lookup x = some c) → ((∃ c, cs.lookup x = some c) ∨ (x, NameKind.free) ∈ l) → ∃ c, (l.foldl (clStep env) cs).lookup x = some c
  | [], cs, _, h => h.elim id (fun z => nomatch z)
  | (n, k) :: r, cs, he, h => by
    rw [List.foldl_cons]
    refine cl_has r _ he ?_
    rcases h with ⟨c, h⟩ | h
    · left
      unfold clStep
      split
      · split
        · rename_i c' hc
          rw [List.lookup_cons]
          split
          · exact ⟨_, rfl⟩
          · exact ⟨c, h⟩
        · exact ⟨c, h⟩
      · exact ⟨c, h⟩
    · rcases List.mem_cons.mp h with z | z
      · cases z
        obtain ⟨c, hc⟩ := he
        left
        refine ⟨c, ?_⟩
        unfold clStep
        simp [hc]
      · exact .inr z

structure CS (sc S0 : Scope) : Prop where
  kind : sc.kind = .function
  names : ∀ y ∈ sc.names, y.2 = .local → sc.names.lookup y.1 = some .local
  nocell : ∀ y ∈ sc.names, y.2 ≠ .cell
  free : ∀ y ∈ sc.names, y.2 = .free → S0.names.lookup y.1 = some .cell
def relOne (env : Env) (y : Str × NameKind) : Str × NameKind := if (y.2 == .free && env.scope.kind == .function && env.kindOf y.1 == some .cell) = true then (y.1, .cell) else (y.1, y.2)
theorem relOne_fst (env : Env) (y : Str × NameKind) : (relOne env y).1 = y.1 := by
  unfold relOne
  split <;> rfl
theorem rel_look {env : Env} {x : Str} : ∀ (l : List (Str × NameKind)), (l.map (relOne env)).lookup x = (l.lookup x).map fun k => (relOne env (x, k)).2
  | [] => rfl
  | (n, k) :: r => by
    rw [List.map_cons]
    have e : relOne env (n, k) = (n, (relOne env (n, k)).2) := Prod.ext (relOne_fst env (n, k)) rfl
    rw [e, List.lookup_cons, List.lookup_cons]
    cases hx : x == n with
    | true =>
      have : x = n := by simpa using hx
      subst this
      rfl
    | false => exact rel_look r
def cxC (X : Cx) (Nc : List Str) (sc : Scope) (C : Addr) (s₂ : Shared) (H₂ : Hp) (fp : List Addr) (pins : List (Addr × Obj)) : Cx :=
  { X with N := Nc, s₀ := s₂, H₀ := H₂, env := compEnvC sc (clOf sc X.env) C X.env, outer := X.stack, ex := fp, fn := fun _ => false, pn := X.pn ++ pins }
def compSt (js : List (Option Nat)) (σ : St) : St := js.map fun o => o.bind fun j => (σ[j]?).join
def capOk (js : List (Option Nat)) (Nc N : List Str) (names : List (Str × NameKind)) : Bool :=
  decide (js.length = Nc.length) && (js.zip Nc).all fun (o, x) => match o with | none => true | some j => decide (N[j]? = some x) && decide (names.lookup x = some .free)
theorem cap_of {js : List (Option Nat)} {Nc N : List Str} {names : List (Str × NameKind)} (h : capOk js Nc N names = true) : js.length = Nc.length ∧ ∀ (i j : Nat) (x : Str), js[i]? = some (some j) → Nc[i]? = some x → N[j]? = some x ∧ names.lookup x = some .free := by
  unfold capOk at h
  rw [Bool.and_eq_true] at h
  refine ⟨of_decide_eq_true h.1, fun i j x e1 e2 => ?_⟩
  have z : (js.zip Nc)[i]? = some (some j, x) := by
    rw [List.getElem?_zip_eq_some]
    exact ⟨e1, e2⟩
  have q := List.all_eq_true.mp h.2 _ (List.mem_of_getElem? z)
  dsimp only at q
  rw [Bool.and_eq_true] at q
  exact ⟨of_decide_eq_true q.1, of_decide_eq_true q.2⟩
section
variable {X : Cx} {pins : List (Addr × Obj)} {σ : St} {H : Hp} {s : Shared} {sc : Scope} {Nc : List Str} {js : List (Option Nat)} {fp : List Addr}
theorem ok_comp (I : Inv X pins σ H s) (S : CS sc X.env.scope) (f : ∀ b ∈ fp, FpOk X pins H b) (hlt : ∀ b ∈ fp, b < s.heap.objs.size) {C : Addr} (hC : s.heap.objs.size ≤ C) : (cxC X Nc sc C s H fp pins).Ok := by
  have inX : ∀ x c, (clOf sc X.env).lookup x = some c → X.env.cells.lookup x = some c := fun x c e => cl_in sc.names [] (fun z => nomatch z) e
  refine ⟨I.ok.mod, S.kind, I.ok.glob, I.ok.blt, hC, fun x y c e1 e2 => I.ok.inj x y c (inX x c e1) (inX y c e2), fun x hx => ?_, fun x c z => (nomatch z), I.ok.hd, I.ok.frames, .inl rfl, fun b hb => ⟨?_, fun x c e => (f b hb).2.2.2.2.1 x c (inX x c e)⟩, I.bs, Nat.le_trans I.ok.bsz I.sz, fun b o e hb => ?_, fun b hb hs => ?_, I.stack, I.stkFree⟩
  · have hx' : (sc.names.map (relOne X.env)).lookup x = some .cell ∨ (sc.names.map (relOne X.env)).lookup x = some .free := hx
    rw [rel_look] at hx'
    cases e : sc.names.lookup x with
    | none => rw [e] at hx'; rcases hx' with z | z <;> cases z
    | some k =>
      rw [e] at hx'
      have m : (x, k) ∈ sc.names := PySem.mem_of_lookup e
      have kf : k = .free := by
        have nk := S.nocell _ m
        unfold relOne at hx'
        by_cases hk : (k == NameKind.free) = true
        · simpa using hk
        · have hk' : (k == NameKind.free) = false := by simpa using hk
          simp only [hk', Bool.false_and, Option.map_some] at hx'
          rcases hx' with z | z
          · exact absurd (by simpa using z) nk
          · simpa using z
      subst kf
      have hx2 := S.free _ m rfl
      obtain ⟨c, hc⟩ := I.ok.has x (.inl hx2)
      exact cl_has sc.names [] ⟨c, hc⟩ (.inr m)
  · exact Nat.ne_of_lt (Nat.lt_of_lt_of_le (hlt b hb) hC)
  · obtain ⟨h0, h1, h2, h3, h4, h5⟩ := f b hb
    rcases h3 with z | z
    · exact I.ok.noex b o e z
    · exact absurd (Nat.lt_of_lt_of_le (Heap.lt_size (I.ok.bs b o e).1) z) (Nat.lt_irrefl _)
  · obtain ⟨h0, h1, h2, h3, h4, h5⟩ := f b hb
    rcases List.mem_cons.mp (I.stkSub b hs) with z | z
    · exact h1 z
    · exact h2 z
theorem inv_comp (I : Inv X pins σ H s) (S : CS sc X.env.scope) (f : ∀ b ∈ fp, FpOk X pins H b) (hlt : ∀ b ∈ fp, b < s.heap.objs.size) (cap : capOk js Nc X.N sc.names = true) {C D : Addr} {o : HO} {h₁ : Heap} {m : Str → Option Value} {tk : Nat}
    (hC : s.heap.objs.size ≤ C) (hD : s.heap.objs.size ≤ D) (hDC : D ≠ C) (hk : ∀ b ob, s.heap.get? b = some ob → h₁.get? b = some ob) (hns : h₁.Ns C m) (new : ObjOk X.prog X.w (upd H D o) h₁ D o) :
    Inv (cxC X Nc sc C s H fp pins) [] (compSt js σ) (upd H D o) { s with heap := h₁, toks := tk } := by
  have inX : ∀ x c, (clOf sc X.env).lookup x = some c → X.env.cells.lookup x = some c := fun x c e => cl_in sc.names [] (fun z => nomatch z) e
  have fresh : ∀ a, s.heap.objs.size ≤ a → H a = none := fun a ha => I.hok.fresh ha
  obtain ⟨cl, cp⟩ := cap_of cap
  refine ⟨ok_comp I S f hlt hC, rfl, I.bare, Un.laid hk hD (fresh D hD), ⟨m, hns, fun i x v e1 e2 e3 => ?_⟩, fun x c e => ?_, ?_, fun x c e => ?_, fun p hp => ?_, I.hok.laid hk hD new, ?_⟩
  · -- a name of the frame's
    unfold compSt at e2
    rw [List.getElem?_map] at e2
    cases ej : js[i]? with
    | none => rw [ej] at e2; cases e2
    | some oj =>
      rw [ej] at e2
      cases oj with
      | none => cases e2
      | some j =>
        obtain ⟨hN, hfree⟩ := cp i j x ej e1
        have hv : σ[j]? = some (some v) := by
          simp only [Option.map_some, Option.bind_some, Option.some.injEq] at e2
          cases e : σ[j]? with
          | none => rw [e] at e2; cases e2
          | some w => rw [e] at e2; exact congrArg some e2
        have kc : X.env.kindOf x = some .cell := S.free _ (PySem.mem_of_lookup hfree) rfl
        obtain ⟨m', hn', hl⟩ := I.loc
        obtain ⟨u, r, lk⟩ := hl j x v hN hv (.inr (.inl kc))
        refine ⟨u, r, .inr ⟨.inl ?_, ?_⟩⟩
        · show (sc.names.map (relOne X.env)).lookup x = some .cell
          rw [rel_look, hfree]
          unfold relOne
          simp [I.ok.kind, kc]
        · rcases lk with ⟨z, _⟩ | ⟨_, c, hc, ic⟩
          · rw [kc] at z; cases z
          · obtain ⟨c', hc'⟩ := cl_has sc.names [] ⟨c, hc⟩ (.inr (PySem.mem_of_lookup hfree))
            have : c' = c := Option.some.inj ((inX x c' hc').symm.trans hc)
            subst this
            exact ⟨c', hc', ic.keeps hk⟩
  · obtain ⟨v, ic⟩ := I.cell x c (inX x c e)
    exact ⟨v, ic.keeps hk⟩
  · show upd H D o C = none
    rw [upd_ne hDC.symm]
    exact fresh C hC
  · have q := inX x c e
    obtain ⟨v, ic⟩ := I.cell x c q
    show upd H D o c = none
    rw [upd_ne (Nat.ne_of_lt (Nat.lt_of_lt_of_le ic.lt hD))]
    exact I.freeC x c q
  · have hp' : p ∈ X.pn ++ pins := by
      rcases List.mem_append.mp hp with z | z
      · exact z
      · exact absurd z (by simp)
    obtain ⟨a1, a2, a3, a4, a5⟩ := I.pin p hp'
    have lt := Heap.lt_size a1
    refine ⟨hk _ _ a1, ?_, Nat.ne_of_lt (Nat.lt_of_lt_of_le lt hC), fun z => ?_, a5⟩
    · rw [upd_ne (Nat.ne_of_lt (Nat.lt_of_lt_of_le lt hD))]
      exact a2
    · rcases List.mem_cons.mp (I.stkSub _ z) with z | z
      · exact a3 z
      · exact a4 z
  · unfold compSt
    rw [List.length_map]
    exact cl
theorem inv_back {C : Addr} {σ' : St} {H' : Hp} {s' : Shared} {h' : Heap} (I : Inv X pins σ H s) (f : ∀ b ∈ fp, FpOk X pins H b) (hC : s.heap.objs.size ≤ C) (J : Inv (cxC X Nc sc C s H fp pins) [] σ' H' s') (hs : Heap.SameBut C s'.heap h') :
    Inv X pins σ H' { s' with heap := h' } := by
  have u := J.base
  have nC : H' C = none := J.free
  have stay : ∀ b ob, b ≠ C → s'.heap.get? b = some ob → h'.get? b = some ob := fun b ob hb e => hs.extBut b ob hb e
  have neC : ∀ b ob, s.heap.get? b = some ob → b ≠ C := fun b ob e => Nat.ne_of_lt (Nat.lt_of_lt_of_le (Heap.lt_size e) hC)
  refine I.call' (ch := fp) J.os ?_ (fun b v e => ?_) J.bare fun b hb => ⟨(f b hb).2.2.2.1, (f b hb).2.1, (f b hb).2.2.2.2.1, (f b hb).2.2.2.2.2⟩
  · refine ⟨fun b ob e n h1 h2 => stay b ob (neC b ob e) (u.keep b ob e n h1 h2), fun b ob e n h1 h2 => ?_, u.free, fun b ob e h2 => ?_, u.tups, u.frzs, u.tbls⟩
    · obtain ⟨sl, q⟩ := u.slot b ob e n h1 h2
      exact ⟨sl, stay b _ (neC b ob e) q⟩
    · obtain ⟨o', q⟩ := u.there b ob e h2
      exact ⟨o', stay b _ (neC b ob e) q⟩
  · have nb : ∀ c w, H' c = some w → c ≠ C := fun c w e z => by rw [z, nC] at e; cases e
    refine (J.hok b v e).stay (fun c w hc q => stay c w ?_ q) (fun _ q => q) fun _ _ q => q
    rcases hc with z | z
    · rw [z]; exact nb b v e
    · exact nb c _ z
end
end L2
set_option Elab.async false
set_option linter.all false
set_option maxRecDepth 100000
set_option maxHeartbeats 4000000
namespace L2
open PySem PySem.Spec PyProof.Rows
section
variable {X : Cx} {e tg iter el : Expr} {ifs : List Expr} {gens rest : List Comprehension} {sc : Scope} {pos : Pos} {Nc : List Str} {js : List (Option Nat)} {wi : TI}
theorem comp_start {prog : Program} {w : World} {A : Around} {env : Env} {R : Result → Shared → Prop} {s : Shared} {d : Nat} {it acc : Value} {g : Comprehension} (he : (∃ el, e = .ListComp el gens sc pos) ∨ ∃ k v, e = .DictComp k v gens sc pos)
    (hg : (clausesOf e)[d]? = some g) (ha : g.is_async = 0)
    (h0 : codeAny (model prog w) A (.compLoop e d it acc env) R s)
    (h : wpAny (model prog w) A (pyIter it) (fun it' s' => codeAny (model prog w) A (.compLoop e d it' acc env) R s') (fun _ _ => False) s) :
    codeAny (model prog w) A (.compStart e d it acc env) R s := by
  refine codeAny_of_tree ?_
  have hden : (model prog w).den (.compStart e d it acc env) = ((compStart e d it acc env).onRaise (fun x => do noteFrame x env; standAt theWindowsPlace)) ∧ A.under (.compStart e d it acc env) = A := by
    rcases he with ⟨el, rfl⟩ | ⟨k, v, rfl⟩ <;> exact ⟨rfl, rfl⟩
  have hq : ∀ d it acc, (Code.compLoop e d it acc env).quiet = true := fun _ _ _ => rfl
  rw [hden.1, hden.2]
  refine wpAny_notedAt ?_
  unfold compStart
  rw [hg]
  have hz : ((some g).elim false fun x => x.is_async != 0) = false := by show (g.is_async != 0) = false; rw [ha]; rfl
  rw [hz]
  show wpAny _ _ (ask >>= _) _ _ s
  refine wpAny_bind (wpAny_askSetting (wpAny_ite ?_))
  split
  · first
      | exact wpAny_bind (wpAny_pure (wpAny_pure (And.intro rfl h0)))
      | exact wpAny_pure (And.intro rfl h0)
  · refine wpAny_bind (wpAny_rule ?_)
    show wpAny _ _ (standAt g.iter.pos >>= _) _ _ s
    exact wpAny_bind (wpAny_standAt (wpAny_bind (wpAny_mono h (fun it' s' h' => wpAny_pure (And.intro rfl h')) fun _ _ x => x.elim)))
def tLC (js : List (Option Nat)) (wi : TI) (g : TG) (bd : Addr → TB) : TE := fun σ H Q => wi σ H fun J H1 => ∀ D, H1 D = none → tWalk J g (bd D) (fun _ H' => Q (.ref D) H') (compSt js σ) (upd H1 D (.lst []))
theorem pe_lc1x {g : TG} {bd : Addr → TB} (hx : X.xe = fun _ _ => False) (hc : X.calm = true) (hi : PI X tg iter wi) (S : CS sc X.env.scope) (cap : capOk js Nc X.N sc.names = true)
    (hg : ∀ C s₂ H₂ fp pins, PG (cxC X Nc sc C s₂ H₂ fp pins) tg g)
    (hb : ∀ C s₂ H₂ fp pins D L, PTl (cxC X Nc sc C s₂ H₂ fp pins) (tailOf ifs (cxC X Nc sc C s₂ H₂ fp pins).env (do let _ ← call (.builtin "list.append") [.ref D, ← eval el (cxC X Nc sc C s₂ H₂ fp pins).env]) L) L (bd D))
    (hs : ∀ x, foldedSetIterable iter X.env x = pure x := by intro _; rfl) :
    PE X (.ListComp el [⟨tg, iter, ifs, 0⟩] sc pos) (tLC js wi g bd) := by
  intro pins s σ H Q I h
  rw [eval_ListComp]
  have hcl : closureFor sc X.env = pure (clOf sc X.env) := closure_of fun y hy hf => I.ok.has y.1 (.inl (S.free y hy hf))
  refine wpAny_comprehension_free (use := none) rfl hs hcl S.kind S.names (thn (hi pins s σ H _ I h) fun v s1 h1 => thn h1 fun itv s2 h2 => ?_)
  obtain ⟨it, fp, tn, J, H2, e, I2, T, st2, f2, hw⟩ := h2
  subst e
  have hlt : ∀ b ∈ fp, b < s2.heap.objs.size := fun b hb => let ⟨o, ho, _⟩ := T.obj _ _ st2 b hb; Heap.lt_size ho
  refine wpAny_newObj_type (wpAny_newFunctionEnv S.nocell (by intro y hy; simp at hy) (fun h₁ hns₁ hsb₁ => ?_) S.kind)
  dsimp only at hns₁ hsb₁ ⊢
  generalize hH2 : s2.heap.push { cls := .type "list", dict := none, data := .seq ([] : List Value).toArray } = G at hns₁ hsb₁ ⊢
  have hCs : G.objs.size = s2.heap.objs.size + 1 := by rw [← hH2, Heap.size_push]
  have hDC : s2.heap.objs.size ≠ G.objs.size := by omega
  have hCle : s2.heap.objs.size ≤ G.objs.size := by omega
  have old : ∀ b o, s2.heap.get? b = some o → h₁.get? b = some o := fun b o e => hsb₁.extBut b o (Nat.ne_of_lt (Nat.lt_of_lt_of_le (Heap.lt_size e) hCle)) (Heap.get?_push_of_some _ (hH2 ▸ Heap.get?_push_of_some _ e))
  have hacc : h₁.get? s2.heap.objs.size = some { cls := .type "list", dict := none, data := .seq ([] : List Value).toArray } := hsb₁.extBut _ _ hDC (Heap.get?_push_of_some _ (hH2 ▸ Heap.get?_push_size _ rfl))
  have new : ObjOk X.prog X.w (upd H2 s2.heap.objs.size (.lst [])) h₁ s2.heap.objs.size (.lst []) := ⟨Nat.zero_le _, [], _, .nil, hacc⟩
  have I4 := inv_comp (js := js) (Nc := Nc) (tk := s2.toks + ([] : List (Str × Value)).length) I2 S f2 hlt cap hCle (Nat.le_refl _) hDC old hns₁ new
  have hn : H2 s2.heap.objs.size = none := I2.fresh
  have f4 : ∀ b ∈ fp, FpOk (cxC X Nc sc G.objs.size s2 H2 fp pins) [] (upd H2 s2.heap.objs.size (.lst [])) b := fun b hb => by
    obtain ⟨h0, h1, h2, h3, h4, h5⟩ := f2 b hb
    refine ⟨?_, Nat.ne_of_lt (Nat.lt_of_lt_of_le (hlt b hb) hCle), fun z => ?_, .inl hb, fun x c z => ?_, fun p hp => ?_⟩
    · rw [upd_ne (Nat.ne_of_lt (hlt b hb))]; exact h0
    · rcases List.mem_cons.mp (I2.stkSub b z) with q | q
      · exact h1 q
      · exact h2 q
    · exact h4 x c (cl_in sc.names [] (fun z => nomatch z) z)
    · rcases List.mem_append.mp hp with z | z
      · exact h5 p z
      · exact absurd z (by simp)
  have st4 : tn 0 h₁ := T.keep _ _ _ st2 fun b hb o e => old b o e
  have loop : codeAny (model X.prog X.w) X.A (.compLoop (.ListComp el [⟨tg, iter, ifs, 0⟩] sc pos) 0 (.ref it) (.ref s2.heap.objs.size) (compEnvC sc (clOf sc X.env) G.objs.size X.env))
      (compPost (model X.prog X.w) X.A X.xe none (EP X pins σ Q) (.ref s2.heap.objs.size) G.objs.size) { s2 with heap := h₁, toks := s2.toks + ([] : List (Str × Value)).length } := by
    refine comp_loop (X := cxC X Nc sc G.objs.size s2 H2 fp pins) (.inl ⟨el, rfl⟩) hx hc (turn_l1 _ _ _ _ _ _ _ _ _) T (hg _ _ _ _ _) (hb _ _ _ _ _ _ _) I4 st4 f4 (hw _ hn) fun σ' H' s' I' q => ?_
    obtain ⟨m', hm', _⟩ := I'.loc
    exact ⟨m', hm', fun h' hs' => ⟨.ref s2.heap.objs.size, H', inv_back I2 f2 hCle I' hs', rfl, q⟩⟩
  exact comp_start (.inl ⟨el, rfl⟩) rfl rfl loop (T.self _ _ _ _ _ st4 loop)
end
end L2
set_option Elab.async false
set_option linter.all false
set_option maxRecDepth 100000
set_option maxHeartbeats 4000000
namespace L2
open PySem PySem.Spec PyProof.Rows
section
variable {X : Cx}
def rInsert : V → List V → Hp → VK → Prop := fun x vs H Q => ∃ l xs i y, x = .ref l ∧ vs = [.int i, y] ∧ H l = some (.lst xs) ∧ 0 ≤ i ∧ i < 2 ^ 62 ∧ xs.length < sizeLine ∧ Q .non (upd H l (.lst (xs.take i.toNat ++ y :: xs.drop i.toNat)))
theorem mt_insert : MtM X "list.insert" rInsert := by
  intro pins s σ H x vs v us Q I rx rv h
  obtain ⟨l, xs, i, y, rfl, rfl, hH, h1, h2, hz, q⟩ := h
  cases rx
  obtain ⟨u, w, rfl, ⟨t, rfl⟩, rw'⟩ := rv.two
  obtain ⟨z, its, n, r, hl, e⟩ := I.lstM hH
  refine call_meets F.slot_list_insert ⟨_, e, rfl⟩ F.entry_list_insert (F.args_list_insert_3 _ _ _)
    (AutoSeq1.list_insert_list_int_val_1 l its.toArray n i t w (by rw [fitsIndex_both (by omega) (by omega)]; decide) (by rw [List.size_toArray]; omega)) ⟨e, ?_⟩
  refine ⟨.non, _, I.lset (its' := its.take i.toNat ++ w :: its.drop i.toNat) hH e ?_ ((r.take i.toNat).append (.cons rw' (r.drop i.toNat))) ?_, rfl, q⟩
  · have hi : ¬ i < 0 := by omega
    simp only [hi, if_false, List.size_toArray]
    apply Array.toList_inj.mp
    simp
    by_cases hc : i.toNat ≤ its.length
    · rw [Nat.min_eq_left hc, List.take_of_length_le (l := List.drop i.toNat its) (by rw [List.length_drop]; omega)]
    · have hc' : its.length ≤ i.toNat := by omega
      rw [Nat.min_eq_right hc', List.take_of_length_le (Nat.le_refl _), List.take_of_length_le hc', List.drop_eq_nil_of_le (Nat.le_refl _), List.drop_eq_nil_of_le hc', List.take_nil]
  · simp only [List.length_append, List.length_take, List.length_cons, List.length_drop]
    omega
def FirstAt (ns : List Int) (n : Int) (j : Nat) : Prop := ns[j]? = some n ∧ ∀ m : Nat, m < j → ns[m]? ≠ some n
theorem vals_ints_get {ns : List Int} {its : List Value} (r : Vals (ns.map V.int) its) {m : Nat} (hm : m < its.length) : ∃ k t, ns[m]? = some k ∧ its[m] = Value.int k t := by
  have hl := r.length
  rw [List.length_map] at hl
  have hk : m < ns.length := by omega
  obtain ⟨u, hu, q⟩ := r.get (i := m) (x := .int ns[m]) (by rw [List.getElem?_map, List.getElem?_eq_getElem hk]; rfl)
  obtain ⟨t, rfl⟩ := q
  refine ⟨ns[m], t, List.getElem?_eq_getElem hk, ?_⟩
  rw [List.getElem?_eq_getElem hm] at hu
  exact Option.some.inj hu
def eqInt (n : Int) (v : Value) : Bool := match v with | .int k _ => k == n | _ => false
theorem vals_ints_eq {ns : List Int} {its : List Value} (r : Vals (ns.map V.int) its) (n : Int) (t : Tok) : ∀ y, y ∈ its.toArray → MeetsSeq.EqGives y (.int n t) (eqInt n y) := fun y hy => by
  obtain ⟨m, hm, rfl⟩ := List.mem_iff_getElem.mp (List.mem_toArray.mp hy)
  obtain ⟨k, t', _, e⟩ := vals_ints_get r hm
  rw [e]
  exact MeetsSeq.EqGives.int _ _ _ _
theorem first_hit {ns : List Int} {its : List Value} (r : Vals (ns.map V.int) its) {n : Int} {j : Nat} (h : FirstAt ns n j) : ∃ hj : j < its.toArray.size, eqInt n its.toArray[j] = true ∧ ∀ m (hm : m < its.toArray.size), m < j → eqInt n its.toArray[m] = false := by
  have hl := r.length
  rw [List.length_map] at hl
  have hj : j < ns.length := (List.getElem?_eq_some_iff.mp h.1).1
  have hj' : j < its.length := by omega
  refine ⟨by rw [List.size_toArray]; exact hj', ?_, fun m hm hlt => ?_⟩
  · obtain ⟨k, t, e1, e2⟩ := vals_ints_get r hj'
    rw [h.1] at e1
    cases e1
    simp [e2, eqInt]
  · rw [List.size_toArray] at hm
    obtain ⟨k, t, e1, e2⟩ := vals_ints_get r hm
    have : k ≠ n := fun z => h.2 m hlt (by rw [e1, z])
    simp [e2, eqInt, this]
def rIndex : V → List V → Hp → VK → Prop := fun x vs H Q => ∃ (l : Addr) (ns : List Int) (n : Int) (j : Nat), x = .ref l ∧ vs = [.int n] ∧ H l = some (.lst (ns.map V.int)) ∧ FirstAt ns n j ∧ Q (.int j) H
theorem mt_index : MtM X "list.index" rIndex := by
  intro pins s σ H x vs v us Q I rx rv h
  obtain ⟨l, ns, n, j, rfl, rfl, hH, hj, q⟩ := h
  cases rx
  obtain ⟨u, rfl, t, rfl⟩ := rv.one
  obtain ⟨z, its, m, r, hl, e⟩ := I.lstM hH
  obtain ⟨h1, h2, h3⟩ := first_hit r hj
  have hs : (j : Int) < 2 ^ 63 - 1 := by
    have := line63
    rw [List.size_toArray] at h1
    omega
  refine call_meets F.slot_list_index ⟨_, e, rfl⟩ F.entry_list_index (F.args_list_index_2 _ _) (MeetsSeq.list_index l its.toArray m (.int n t) (eqInt n) (vals_ints_eq r n t) j h1 hs h2 h3) ⟨e, ?_⟩
  exact ⟨.int j, H, I.tok _, ⟨_, rfl⟩, q⟩
def rRemove : V → List V → Hp → VK → Prop := fun x vs H Q => ∃ (l : Addr) (ns : List Int) (n : Int) (j : Nat), x = .ref l ∧ vs = [.int n] ∧ H l = some (.lst (ns.map V.int)) ∧ FirstAt ns n j ∧ Q .non (upd H l (.lst ((ns.eraseIdx j).map V.int)))
theorem map_eraseIdx {α β : Type} (f : α → β) : ∀ (l : List α) (j : Nat), (l.eraseIdx j).map f = (l.map f).eraseIdx j
  | [], j => by simp
  | x :: r, 0 => by simp
  | x :: r, j + 1 => by simp [map_eraseIdx f r j]
theorem mt_remove : MtM X "list.remove" rRemove := by
  intro pins s σ H x vs v us Q I rx rv h
  obtain ⟨l, ns, n, j, rfl, rfl, hH, hj, q⟩ := h
  cases rx
  obtain ⟨u, rfl, t, rfl⟩ := rv.one
  obtain ⟨z, its, m, r, hl, e⟩ := I.lstM hH
  obtain ⟨h1, h2, h3⟩ := first_hit r hj
  refine call_meets F.slot_list_remove ⟨_, e, rfl⟩ F.entry_list_remove (F.args_list_remove_2 _ _) (MeetsSeq.list_remove l its.toArray m (.int n t) (eqInt n) (vals_ints_eq r n t) j h1 h2 h3 (by rw [List.size_toArray]; omega)) ⟨e, ?_⟩
  refine ⟨.non, _, I.lset (its' := its.eraseIdx j) hH e ?_ (by rw [map_eraseIdx]; exact r.eraseIdx j) ?_, rfl, q⟩
  · show its.toArray.eraseIdxIfInBounds j = (its.eraseIdx j).toArray
    rw [List.eraseIdxIfInBounds_toArray]
  · rw [List.length_map]
    have := len_erase ns j
    rw [List.length_map] at z
    omega
end
end L2
set_option Elab.async false
set_option linter.all false
set_option maxRecDepth 100000
set_option maxHeartbeats 4000000
namespace L2
open PySem PySem.Spec PyProof.Rows

theorem walk_range {lo : Int} {n : Nat} {g : TG} {b : TB} {N0 : St → Hp → Prop} {σ : St} {H : Hp} (Pv : Nat → St → Hp → Prop) (h0 : Pv 0 σ H)
    (hs : ∀ i σ H, i < n → Pv i σ H → g (.int (lo + i)) σ H fun σ2 H2 => b (Pv (i + 1)) σ2 H2) (hd : ∀ σ H, Pv n σ H → N0 σ H) : tWalk (Itr lo n) g b N0 σ H := by
  refine ⟨fun i m σ H => m = n - i ∧ i ≤ n ∧ Pv i σ H, ⟨n, by simp, Nat.zero_le _, h0⟩, ?_⟩
  rintro i m σ H ⟨rfl, hle, p⟩
  by_cases hi : i < n
  · refine .inr ⟨hi, Pv (i + 1), fun σ' H' q => ⟨n - (i + 1), by omega, rfl, by omega, q⟩, fun x H' hy => ?_⟩
    obtain ⟨rfl, rfl⟩ := hy
    exact hs i σ _ hi p
  · have : i = n := by omega
    subst this
    exact .inl ⟨Nat.le_refl _, hd σ H p⟩
theorem walk_list {K : PySem.W.Frag} {a : Addr} {xs : List V} {g : TG} {b : TB} {N0 : St → Hp → Prop} {σ : St} {H : Hp} (Pv : Nat → St → Hp → Prop) (h0 : Pv 0 σ H) (hl : ∀ i σ H, i ≤ xs.length → Pv i σ H → SqL K H a xs)
    (hs : ∀ i x σ H, xs[i]? = some x → Pv i σ H → g x σ H fun σ2 H2 => b (Pv (i + 1)) σ2 H2) (hd : ∀ σ H, Pv xs.length σ H → N0 σ H) : tWalk (Itl K a) g b N0 σ H := by
  refine ⟨fun i m σ H => m = xs.length - i ∧ i ≤ xs.length ∧ Pv i σ H, ⟨xs.length, by simp, Nat.zero_le _, h0⟩, ?_⟩
  rintro i m σ H ⟨rfl, hle, p⟩
  by_cases hi : i < xs.length
  · refine .inr ⟨⟨xs, xs[i], hl i σ H hle p, by simp [hi]⟩, Pv (i + 1), fun σ' H' q => ⟨xs.length - (i + 1), by omega, rfl, by omega, q⟩, fun x H' hy => ?_⟩
    obtain ⟨rfl, hy⟩ := hy
    exact hs i x σ _ (hy xs (hl i σ _ hle p)) p
  · have : i = xs.length := by omega
    subst this
    exact .inl ⟨⟨xs, hl _ σ H hle p, Nat.le_refl _⟩, hd σ H p⟩
theorem walk_tup {K : PySem.W.Frag} {a : Addr} {xs : List V} {g : TG} {b : TB} {N0 : St → Hp → Prop} {σ : St} {H : Hp} (Pv : Nat → St → Hp → Prop) (h0 : Pv 0 σ H) (hl : ∀ i σ H, i ≤ xs.length → Pv i σ H → SqT K H a xs)
    (hs : ∀ i x σ H, xs[i]? = some x → Pv i σ H → g x σ H fun σ2 H2 => b (Pv (i + 1)) σ2 H2) (hd : ∀ σ H, Pv xs.length σ H → N0 σ H) : tWalk (Itt K a) g b N0 σ H := by
  refine ⟨fun i m σ H => m = xs.length - i ∧ i ≤ xs.length ∧ Pv i σ H, ⟨xs.length, by simp, Nat.zero_le _, h0⟩, ?_⟩
  rintro i m σ H ⟨rfl, hle, p⟩
  by_cases hi : i < xs.length
  · refine .inr ⟨⟨xs, xs[i], hl i σ H hle p, by simp [hi]⟩, Pv (i + 1), fun σ' H' q => ⟨xs.length - (i + 1), by omega, rfl, by omega, q⟩, fun x H' hy => ?_⟩
    obtain ⟨rfl, hy⟩ := hy
    exact hs i x σ _ (hy xs (hl i σ _ hle p)) p
  · have : i = xs.length := by omega
    subst this
    exact .inl ⟨⟨xs, hl _ σ H hle p, Nat.le_refl _⟩, hd σ H p⟩

section
variable {prog : Program} {w : World} {A : Around} {E : Value → Shared → Prop}
end
section
variable {X : Cx} {pos : Pos}
theorem call_divmodW : CallR X (.builtin "divmod") (fun xs H Q => ∃ i j : Int, xs = [.int i, .int j] ∧ (0 < j ∧ j.natAbs < 2 ^ 9000) ∧ ∀ p, H p = none → Q (.ref p) (upd H p (.tup [.int (i / j), .int (i % j)]))) := by
  intro pins s σ H xs us Q I r h
  obtain ⟨i, j, rfl, ⟨h1, h2⟩, q⟩ := h
  obtain ⟨u, w', rfl, ⟨t, rfl⟩, ⟨t', rfl⟩⟩ := vals2 r
  refine divmod_int (by omega) ?_ (.inl (PyProof.noPylong_of_log2 (Own.log2_lt h2)))
  rw [Int.fdiv_eq_ediv_of_nonneg i (by omega), Int.fmod_eq_emod_of_nonneg i (by omega)]
  have hn : H s.heap.objs.size = none := I.hok.fresh (Nat.le_refl _)
  refine ⟨.ref s.heap.objs.size, _, ?_, rfl, q _ hn⟩
  refine I.laid (fun b o e => Heap.get?_push_of_some _ e) (Nat.le_refl _) ⟨by simp only [List.length_cons, List.length_nil]; rw [sizeLine_eq]; decide, [.int (i / j) s.toks, .int (i % j) (s.toks + 1)], .cons ⟨_, rfl⟩ (.cons ⟨_, rfl⟩ .nil), ?_⟩
  exact ⟨_, Heap.get?_push_size s.heap rfl, rfl, 0, rfl, rfl⟩

theorem ints_of : ∀ {ns : List Int} {its : List Value}, Vals (ns.map V.int) its → IntsAre its ns
  | [], _, r => by cases r; exact .nil
  | n :: ns, _, r => by
    cases r with
    | cons r1 r2 =>
      obtain ⟨t, rfl⟩ := r1
      exact .cons n t (ints_of r2)
end

mutual
def Dt (K : PySem.W.Frag) (H : Hp) : PyData → V → Prop
  | .none, v => v = .non
  | .bool b, v => v = .bl b
  | .int i, v => v = .int i
  | .str x, v => v = .str x
  | .tuple xs, v => ∃ a vs, v = .ref a ∧ SqT K H a vs ∧ DtAll K H xs vs
  | .list xs, v => ∃ a vs, v = .ref a ∧ SqL K H a vs ∧ DtAll K H xs vs
  | .dict _, _ => False
def DtAll (K : PySem.W.Frag) (H : Hp) : List PyData → List V → Prop
  | [], vs => vs = []
  | d :: ds, vs => ∃ v vr, vs = v :: vr ∧ Dt K H d v ∧ DtAll K H ds vr
end
section
variable {X : Cx} {pins : List (Addr × Obj)} {σ : St} {H : Hp} {s : Shared}
mutual
theorem Dt.reads (I : Inv X pins σ H s) : ∀ (d : PyData) (v : V) (u : Value), RelV v u → Dt X.K H d v → ∃ as, Reads s.heap u d as
  | .none, v, u, r, h => by unfold Dt at h; subst h; cases r; exact ⟨_, .none⟩
  | .bool b, v, u, r, h => by unfold Dt at h; subst h; cases r; exact ⟨_, .bool b⟩
  | .int i, v, u, r, h => by unfold Dt at h; subst h; obtain ⟨t, rfl⟩ := r; exact ⟨_, .int i t⟩
  | .str x, v, u, r, h => by unfold Dt at h; subst h; obtain ⟨t, rfl⟩ := r; exact ⟨_, .str x t⟩
  | .tuple xs, v, u, r, h => by
    unfold Dt at h
    obtain ⟨a, vs, rfl, hs, hd⟩ := h
    cases r
    obtain ⟨its, rv, ⟨o, e1, e2, n, e3⟩, hz⟩ := I.tuple hs
    obtain ⟨as, ra⟩ := DtAll.reads I xs vs its rv hd
    exact ⟨_, .tuple e1 e2 e3 (by simpa using ra)⟩
  | .list xs, v, u, r, h => by
    unfold Dt at h
    obtain ⟨a, vs, rfl, hs, hd⟩ := h
    cases r
    obtain ⟨its, rv, ht, hz⟩ := I.list hs
    obtain ⟨as, ra⟩ := DtAll.reads I xs vs its rv hd
    obtain ⟨o, e1, e2, n, e3⟩ := ht.isList
    exact ⟨_, .list e1 e2 e3 (by simpa using ra)⟩
  | .dict _, v, u, r, h => by unfold Dt at h; exact h.elim
theorem DtAll.reads (I : Inv X pins σ H s) : ∀ (ds : List PyData) (vs : List V) (us : List Value), Vals vs us → DtAll X.K H ds vs → ∃ as, ReadsAll s.heap us ds as
  | [], vs, us, r, h => by unfold DtAll at h; subst h; cases r; exact ⟨_, .nil⟩
  | d :: ds, vs, us, r, h => by
    unfold DtAll at h
    obtain ⟨v, vr, rfl, h1, h2⟩ := h
    cases r with
    | cons r1 r2 =>
      obtain ⟨as, q1⟩ := Dt.reads I d v _ r1 h1
      obtain ⟨bs, q2⟩ := DtAll.reads I ds vr _ r2 h2
      exact ⟨_, .cons q1 q2⟩
end
end
section
variable {X : Cx}
def rEqD (K : PySem.W.Frag) (neg : Bool) : R2 := fun x y H Q => ∃ d e, Dt K H d x ∧ Dt K H e y ∧ SeqAt.shaped d = true ∧ SeqAt.shaped e = true ∧ Q (.bl (if neg then !PyData.eqv d e else PyData.eqv d e)) H
theorem op_neD (hu : X.A.units + 64 < cLine) : OpR X (compareOp .NotEq) (rEqD X.K true) := by
  intro pins s σ H x y v u Q I rx ry h
  obtain ⟨d, e, h1, h2, s1, s2, q⟩ := h
  obtain ⟨as, p1⟩ := Dt.reads I d x v rx h1
  obtain ⟨bs, p2⟩ := Dt.reads I e y u ry h2
  exact SeqAt.compareNe_shaped p1 p2 s1 s2 hu ⟨.bl _, H, I, rfl, q⟩
end
end L2
set_option Elab.async false
set_option linter.all false
set_option maxRecDepth 100000
set_option maxHeartbeats 4000000
namespace L2
open PySem PySem.Spec PyProof.Rows
section
variable {X : Cx}
end
def csOk (sc S0 : Scope) : Bool := (sc.names.all fun y => (y.2 != .local || sc.names.lookup y.1 == some .local) && y.2 != .cell && (y.2 != .free || S0.names.lookup y.1 == some .cell))
theorem CS.of {sc S0 : Scope} (k : sc.kind = .function) (h : csOk sc S0 = true) : CS sc S0 := by
  have q : ∀ y ∈ sc.names, _ := List.all_eq_true.mp h
  refine ⟨k, fun y hy e => ?_, fun y hy e => ?_, fun y hy e => ?_⟩ <;> have z := q y hy <;> rw [Bool.and_eq_true, Bool.and_eq_true] at z <;> obtain ⟨⟨z1, z2⟩, z3⟩ := z
  · rw [e] at z1; simpa using z1
  · rw [e] at z2; simp at z2
  · rw [e] at z3; simpa using z3
end L2
set_option Elab.async false
set_option linter.all false
set_option maxRecDepth 100000
set_option maxHeartbeats 4000000
namespace L2
open PySem PySem.Spec PyProof.Rows
section
variable {prog : Program} {w : World} {A : Around} {E : Value → Shared → Prop} {s : Shared}
theorem nextOf_tup {it t : Addr} {i : Nat} {items : Array Value} {x : Value} {Q : Value → Shared → Prop} (hit : s.heap.IsTupleIter it t i) (ht : s.heap.IsTuple t items) (hx : items[i]? = some x)
    (hQ : ∀ h', h'.IsTupleIter it t (i + 1) → Heap.SameBut it s.heap h' → Q x { s with heap := h' }) : wpAny (model prog w) A (Builtin.SmallTypes.nextOf (.ref it)) Q E s := by
  obtain ⟨o, ho, hc, hd⟩ := id hit
  obtain ⟨ot, hot, _, nt, hdt⟩ := ht
  unfold Builtin.SmallTypes.nextOf
  refine wpAny_bind (wpAny_callSpecial?_slot (name := Str.ofString "__next__") hit.typeIs F.slot_tuple_iterator_next (wpAny_call_entry F.slot_tuple_iterator_next hit.typeIs F.entry_tuple_iterator_next ?_ (F.args_tuple_iterator_next_1 _)))
  show wpAny _ _ (field (.ref it) 0 >>= _) _ _ s
  refine wpAny_bind (wpAny_field ho hd (x := .ref t) rfl ?_)
  show wpAny _ _ (if (Value.ref t == Value.none) = true then _ else _) _ _ s
  rw [if_neg (show ¬ ((Value.ref t == Value.none) = true) from Bool.false_ne_true)]
  show wpAny _ _ (field (.ref it) 1 >>= _) _ _ s
  refine wpAny_bind (wpAny_field ho hd (x := .int i 0) rfl ?_)
  show wpAny _ _ (seqItems? (.ref t) >>= _) _ _ s
  refine wpAny_bind (wpAny_seqItems hot hdt ?_)
  simp only [Int.toNat_natCast, hx]
  refine wpAny_bind (wpAny_setField ho hd (by simp) (wpAny_pure ⟨x, rfl, wpAny_pure (hQ _ ?_ (Heap.SameBut.update ..))⟩))
  refine ⟨_, Heap.get?_update_self _ ho (Obj.isFreed_of_fields (Obj.data_mapFields hd _)), (Obj.cls_mapFields ..).trans hc, ?_⟩
  rw [Obj.data_mapFields hd]
  simp [rawInt]
theorem nextOf_tup_end {it t : Addr} {i : Nat} {items : Array Value} {Q : Value → Shared → Prop} (hh : A.handled = none) (hit : s.heap.IsTupleIter it t i) (ht : s.heap.IsTuple t items) (hx : items[i]? = none)
    (hE : ∀ h' e, Heap.ExtBut it s.heap h' → (∃ o, h'.get? e = some o ∧ o.cls = .type "StopIteration") → E (.ref e) { s with heap := h' }) : wpAny (model prog w) A (Builtin.SmallTypes.nextOf (.ref it)) Q E s := by
  obtain ⟨o, ho, hc, hd⟩ := id hit
  obtain ⟨ot, hot, _, nt, hdt⟩ := ht
  unfold Builtin.SmallTypes.nextOf
  refine wpAny_bind (wpAny_callSpecial?_slot (name := Str.ofString "__next__") hit.typeIs F.slot_tuple_iterator_next (wpAny_call_entry F.slot_tuple_iterator_next hit.typeIs F.entry_tuple_iterator_next ?_ (F.args_tuple_iterator_next_1 _)))
  show wpAny _ _ (field (.ref it) 0 >>= _) _ _ s
  refine wpAny_bind (wpAny_field ho hd (x := .ref t) rfl ?_)
  show wpAny _ _ (if (Value.ref t == Value.none) = true then _ else _) _ _ s
  rw [if_neg (show ¬ ((Value.ref t == Value.none) = true) from Bool.false_ne_true)]
  show wpAny _ _ (field (.ref it) 1 >>= _) _ _ s
  refine wpAny_bind (wpAny_field ho hd (x := .int i 0) rfl ?_)
  show wpAny _ _ (seqItems? (.ref t) >>= _) _ _ s
  refine wpAny_bind (wpAny_seqItems hot hdt ?_)
  simp only [Int.toNat_natCast, hx]
  refine wpAny_bind (wpAny_rule (wpAny_bind (wpAny_setField ho hd (by simp) ?_)))
  show wpAny _ _ (newExc (.type "StopIteration") [] >>= _) _ _ _
  refine wpAny_bind ?_
  simp only [newExc, newTuple]
  refine wpAny_bind (wpAny_newObj_type ?_ (by size_fits))
  refine wpAny_bind (m := firstArgMember _ _) (wpAny_of_eq (a := Value.none) (by first | rfl | (simp only [firstArgMember]; rfl)) ?_)
  refine wpAny_newObj_type ?_ (by size_fits)
  simp only [raiseNew]
  refine wpAny_bind (wpAny_handled ?_)
  first | rw [show A.in1.handled = none from hh] | rw [hh]
  refine wpAny_bind (wpAny_pure (wpAny_throw ?_))
  exact hE _ _ (((Heap.SameBut.update ..).extBut.push _).push _) ⟨_, Heap.get?_push_size _ rfl, rfl⟩
end
def ItOf (k : Bool) (h : Heap) (it a : Addr) (i : Nat) : Prop := match k with | true => h.IsListIter it a i | false => h.IsTupleIter it a i
def SqOf (k : Bool) (h : Heap) (a : Addr) (items : Array Value) : Prop := match k with | true => h.IsList a items | false => h.IsTuple a items
def itName (k : Bool) : String := match k with | true => "list_iterator" | false => "tuple_iterator"
def SqX (K : PySem.W.Frag) (k : Bool) (H : Hp) (a : Addr) (xs : List V) : Prop := match k with | true => SqL K H a xs | false => SqT K H a xs
theorem ItOf.at {k : Bool} {h h' : Heap} {it a : Addr} {i : Nat} (x : ItOf k h it a i) (g : ∀ o, h.get? it = some o → h'.get? it = some o) : ItOf k h' it a i := by
  cases k
  · obtain ⟨o, e, r⟩ := x; exact ⟨o, g o e, r⟩
  · obtain ⟨o, e, r⟩ := x; exact ⟨o, g o e, r⟩
theorem ItOf.live {k : Bool} {h : Heap} {it a : Addr} {i : Nat} (x : ItOf k h it a i) : ∃ o, h.get? it = some o ∧ ∀ v, o.data ≠ .cell v := by
  cases k
  · obtain ⟨o, e, c, d⟩ := x; exact ⟨o, e, fun v z => by rw [d] at z; cases z⟩
  · obtain ⟨o, e, c, d⟩ := x; exact ⟨o, e, fun v z => by rw [d] at z; cases z⟩
theorem SqOf.at {k : Bool} {h h' : Heap} {a : Addr} {items : Array Value} (x : SqOf k h a items) (g : ∀ o, h.get? a = some o → h'.get? a = some o) : SqOf k h' a items := by
  cases k
  · obtain ⟨o, e, r⟩ := x; exact ⟨o, g o e, r⟩
  · obtain ⟨o, e, r⟩ := x; exact ⟨o, g o e, r⟩
theorem Inv.sq {X : Cx} {pins : List (Addr × Obj)} {σ : St} {H : Hp} {s : Shared} {k : Bool} {a : Addr} {xs : List V} (I : Inv X pins σ H s) (h : SqX X.K k H a xs) : ∃ its : List Value, Vals xs its ∧ SqOf k s.heap a its.toArray := by
  cases k
  · obtain ⟨its, r, p, _⟩ := I.tuple h
    exact ⟨its, r, p⟩
  · obtain ⟨its, r, p, _⟩ := I.list h
    exact ⟨its, r, p.isList⟩
theorem Inv.sq_inj {X : Cx} {pins : List (Addr × Obj)} {σ : St} {H : Hp} {s : Shared} {k : Bool} {a : Addr} {xs ys : List V} (I : Inv X pins σ H s) (h : SqX X.K k H a xs) (h' : SqX X.K k H a ys) : xs = ys := by
  cases k
  · exact I.tuple_inj h h'
  · exact I.list_inj h h'
section
variable {prog : Program} {w : World} {A : Around} {E : Value → Shared → Prop} {s : Shared}
theorem draws_sq (hh : A.handled = none) (k : Bool) (it a : Addr) (hne : a ≠ it) (items : Array Value) : Draws prog w A it [it, a] items.size (fun i v => items[i]? = some v) (fun i h => ItOf k h it a i ∧ SqOf k h a items) where
  live := fun _ _ st => let ⟨o, ho, _⟩ := st.1.live; ⟨o, ho⟩
  frame := fun _ _ _ st hk => ⟨st.1.at fun o e => hk it (by simp) o e, st.2.at fun o e => hk a (by simp) o e⟩
  item := fun i s Q E hi st hQ => by
    have hx : items[i]? = some items[i] := by simp [hi]
    cases k
    · exact nextOf_tup st.1 st.2 hx fun h' hit' hs' => hQ _ h' s.toks hx ⟨hit', st.2.at fun o e => hs'.extBut a o hne e⟩ hs'
    · exact wpAny_nextOf_list_item st.1 st.2 hx fun h' hit' hs' => hQ _ h' s.toks hx ⟨hit', st.2.at fun o e => hs'.extBut a o hne e⟩ hs'
  done := fun s Q E st hE => by
    cases k
    · exact nextOf_tup_end hh st.1 st.2 (by simp) hE
    · exact wpAny_nextOf_list_end hh st.1 st.2 (by simp) hE
end
theorem Inv.turnedL {X : Cx} {pins : List (Addr × Obj)} {σ : St} {H : Hp} {s : Shared} {h' : Heap} {t' : Nat} {ch : List Addr} (I : Inv X pins σ H s) (k : ∀ b o, b ∉ ch → s.heap.get? b = some o → h'.get? b = some o) (hf : ∀ b ∈ ch, FpOk X pins H b) :
    Inv X pins σ H { s with heap := h', toks := t' } := by
  have nit : ∀ b u, H b = some u → b ∉ ch := fun b u e z => by rw [(hf b z).1] at e; cases e
  refine I.step (g' := s.gens) (d' := s.drawn) (ch := ch) (fun b hb => ?_) (fun b o _ _ hc e _ => k b o hc e) (fun b o _ _ hc e _ => ⟨o.slots, k b o hc e⟩) (fun _ _ _ _ n => n)
    (fun b o hc e => ⟨o, k b o hc e⟩) (fun _ _ e => e) (fun _ _ _ e => e) (fun b ps e => ⟨#[], by rw [e]; simp⟩) (fun m hm => ?_) (fun b u e => ?_) I.bare
  · obtain ⟨f0, f1, f2, f3, f4, f5⟩ := hf b hb
    exact ⟨f3, f1, f4, f5⟩
  · obtain ⟨o, es, ep, ho, r⟩ := hm
    exact ⟨o, es, ep, k _ o (fun z => (hf _ z).2.1 rfl) ho, r⟩
  · refine (I.hok b u e).stay (fun c v hc q => k c v ?_ q) (fun _ q => q) fun _ _ q => q
    rcases hc with z | z
    · rw [z]; exact nit b u e
    · exact nit c _ z
end L2
set_option Elab.async false
set_option linter.all false
set_option maxRecDepth 100000
set_option maxHeartbeats 4000000
namespace L2
open PySem PySem.Spec PyProof.Rows
open AutoSeq1 (wpAny_loadPart')
theorem enum_new_tup (l : Addr) (items : Array Value) (n : Nat) (dct : Option Addr) (sl : Array (Option Value)) :
    Meets (Builtin.«enumerate.__new__» ⟨[.type "enumerate", .ref l], []⟩) (fun _ R s => s.heap.get? l = some { cls := .type "tuple", dict := dct, data := .seq items n, slots := sl } ∧
      R (.ok (.ret (.ref (s.heap.push { cls := .type "tuple_iterator", data := .fields #[.ref l, .int 0 0] }).objs.size)))
        { s with heap := (s.heap.push { cls := .type "tuple_iterator", data := .fields #[.ref l, .int 0 0] }).push { cls := .type "enumerate", data := .fields #[.none, .bool false, .ref s.heap.objs.size, rawInt 0, .none, .none] } }) :=
  .of_wp fun prog w A R s h => by
    obtain ⟨hp, g, d, tk, os⟩ := s; obtain ⟨hl, h⟩ := h
    have hsub := sub_enumerate
    have hL : Heap.IsTuple (Shared.heap ⟨hp, g, d, tk, os⟩) l items := ⟨_, hl, rfl, n, rfl⟩
    wp_walk using wpAny_loadPart' hl
    refine wpAny_stack_any fun st => wpAny_pure ?_
    split
    · rename_i c _ _ _ _ _
      cases (c == Value.type "enumerate")
      · wp_walk using wpAny_loadPart' hl, wpAny_pyIter_tuple hL
        exact ⟨_, rfl, h⟩
      · wp_walk using wpAny_loadPart' hl, wpAny_pyIter_tuple hL
        exact ⟨_, rfl, h⟩
    · wp_walk using wpAny_loadPart' hl, wpAny_pyIter_tuple hL
      exact ⟨_, rfl, h⟩
section
variable {prog : Program} {w : World} {A : Around} {E : Value → Shared → Prop} {s : Shared}
theorem call_enum_sq {k : Bool} {l : Addr} {items : Array Value} {Q : Value → Shared → Prop} (hL : SqOf k s.heap l items)
    (h : ∀ h', IsEnum h' (s.heap.objs.size + 1) s.heap.objs.size 0 .none → ItOf k h' s.heap.objs.size l 0 → (∀ b o, s.heap.get? b = some o → h'.get? b = some o) → Q (.ref (s.heap.objs.size + 1)) { s with heap := h' }) :
    wpAny (model prog w) A (call (.type "enumerate") [.ref l]) Q E s := by
  cases k
  · obtain ⟨⟨c, dct, dt, sl⟩, hl, hc, n, hd⟩ := hL
    replace hc : c = .type "tuple" := hc
    replace hd : dt = .seq items n := hd
    subst hc hd
    refine callType_new F.called_enumerate (by decide) (F.typeCall_enumerate_1 _) (F.newCall_enumerate_1 _) (fun obj => F.args_object_init_2 obj _) F.entry_enumerate_new (enum_new_tup l items n dct sl) ⟨hl, ?_⟩
    have hz : (s.heap.push { cls := .type "tuple_iterator", data := .fields #[.ref l, .int 0 0] }).objs.size = s.heap.objs.size + 1 := Heap.size_push ..
    show _ ∧ _
    rw [hz]
    have he := Heap.get?_push_size (s.heap.push { cls := .type "tuple_iterator", data := .fields #[.ref l, .int 0 0] }) (o := { cls := .type "enumerate", data := .fields #[.none, .bool false, .ref s.heap.objs.size, rawInt 0, .none, .none] }) rfl
    rw [hz] at he
    exact ⟨⟨_, he, rfl⟩, h _ he ⟨_, Heap.get?_push_of_some _ (Heap.get?_push_size _ rfl), rfl, rfl⟩ fun b o x => Heap.get?_push_of_some _ (Heap.get?_push_of_some _ x)⟩
  · exact call_enumerate_list hL fun h' he hi _ hk => h h' he hi hk
end
theorem sq_it {k k' : Bool} {h : Heap} {a it b : Addr} {i : Nat} {items : Array Value} (x : SqOf k h a items) (y : ItOf k' h it b i) : a ≠ it := by
  intro z
  subst z
  cases k <;> cases k' <;> obtain ⟨o, e, c, _⟩ := x <;> obtain ⟨o', e', c', _⟩ := y <;> rw [e] at e' <;> cases e' <;> rw [c] at c' <;> revert c' <;> decide
theorem cls_ne {h : Heap} {a b : Addr} {o u : Obj} {m n : String} (h1 : h.get? a = some o) (h2 : h.get? b = some u) (c1 : o.cls = .type m) (c2 : u.cls = .type n) (d : m ≠ n) : a ≠ b := by
  intro z
  subst z
  rw [h1] at h2
  cases h2
  rw [c1] at c2
  injection c2 with e
  exact d e
theorem ItOf.cls {k : Bool} {h : Heap} {it a : Addr} {i : Nat} (x : ItOf k h it a i) : ∃ o, h.get? it = some o ∧ o.cls = .type (itName k) := by
  cases k <;> obtain ⟨o, e, c, _⟩ := x <;> exact ⟨o, e, c⟩
def sqName (k : Bool) : String := match k with | true => "list" | false => "tuple"
theorem SqOf.cls {k : Bool} {h : Heap} {a : Addr} {items : Array Value} (x : SqOf k h a items) : ∃ o, h.get? a = some o ∧ o.cls = .type (sqName k) := by
  cases k <;> obtain ⟨o, e, c, _⟩ := x <;> exact ⟨o, e, c⟩
theorem Inv.handed {X : Cx} {pins : List (Addr × Obj)} {σ : St} {H : Hp} {s : Shared} {h' : Heap} {t' : Nat} {ch : List Addr} {x y : V} {u v : Value} (I : Inv X pins σ H s) (rx : RelV x u) (ry : RelV y v)
    (hT : h'.get? s.heap.objs.size = some { cls := .type "tuple", data := .seq #[u, v] }) (k : ∀ b o, b ∉ ch → s.heap.get? b = some o → h'.get? b = some o) (hf : ∀ b ∈ ch, FpOk X pins H b) (hlt : ∀ b ∈ ch, b < s.heap.objs.size) :
    Inv X pins σ (upd H s.heap.objs.size (.tup [x, y])) { s with heap := h', toks := t' } ∧ (∀ b ∈ ch, upd H s.heap.objs.size (.tup [x, y]) b = none) := by
  have hn : ∀ b ∈ ch, upd H s.heap.objs.size (.tup [x, y]) b = none := fun b hb => by rw [upd_ne (Nat.ne_of_lt (hlt b hb))]; exact (hf b hb).1
  have I1 : Inv X pins σ (upd H s.heap.objs.size (.tup [x, y])) { s with heap := s.heap.push { cls := .type "tuple", data := .seq #[u, v] }, toks := s.toks } :=
    I.laid (fun b o e => Heap.get?_push_of_some _ e) (Nat.le_refl _) ⟨by simp only [List.length_cons, List.length_nil]; rw [sizeLine_eq]; decide, [u, v], .cons rx (.cons ry .nil), ⟨_, Heap.get?_push_size _ rfl, rfl, 0, rfl, rfl⟩⟩
  have I2 := Inv.turnedL (h' := h') (t' := t') (ch := ch) I1 (fun b o hb e => by
    rcases Heap.get?_push_cases e with ⟨rfl, rfl⟩ | e
    · exact hT
    · exact k b o hb e) (fun b hb => by
    obtain ⟨f0, f1, f2, f3, f4, f5⟩ := hf b hb
    exact ⟨hn b hb, f1, f2, f3, f4, f5⟩)
  exact ⟨I2, hn⟩
def Ite (k : Bool) (K : PySem.W.Frag) (a : Addr) : It :=
  ⟨fun i H => ∃ xs x, SqX K k H a xs ∧ xs[i]? = some x, fun i H v H' => ∃ T x, H T = none ∧ v = .ref T ∧ (∀ xs, SqX K k H a xs → xs[i]? = some x) ∧ H' = upd H T (.tup [.int i, x]), fun i H => ∃ xs, SqX K k H a xs ∧ xs.length = i⟩
theorem turn_enum {P : Program} {w : World} {K : PySem.W.Frag} {elts : List Expr} {x1} {pos : Pos} (k : Bool) (a e it : Addr) : Turn P w K (.Tuple elts x1 pos) (Ite k K a) [e, it] e (fun i h => (∃ old, IsEnum h e it i old) ∧ ItOf k h it a i) where
  mem := by simp
  obj := fun i h st b hb => by
    obtain ⟨⟨old, he⟩, hi⟩ := st
    rcases List.mem_cons.mp hb with rfl | hb
    · exact ⟨_, he, fun v z => by cases z⟩
    · have : b = it := by simpa using hb
      subst this
      exact hi.live
  keep := fun i h h' st kk => by
    obtain ⟨⟨old, he⟩, hi⟩ := st
    exact ⟨⟨old, kk e (by simp) _ he⟩, hi.at fun o q => kk it (by simp) o q⟩
  item := by
    intro X hP hw hK hc i pins s σ H E I hf st hg
    subst hP hw hK
    obtain ⟨⟨old, he⟩, hi⟩ := st
    obtain ⟨xs, x, hq, hx⟩ := hg
    obtain ⟨its, rv, p⟩ := I.sq hq
    obtain ⟨u, hu, ru⟩ := rv.get hx
    have nai := sq_it p hi
    obtain ⟨oi, ei, ci⟩ := hi.cls
    obtain ⟨oa, ea, ca⟩ := p.cls
    have nei : e ≠ it := cls_ne he ei rfl ci (by cases k <;> decide)
    have nea : e ≠ a := cls_ne he ea rfl ca (by cases k <;> decide)
    have D := draws_sq (prog := X.prog) (w := X.w) (A := X.A.in1) (I.ok.hd hc) k it a nai its.toArray
    have hlt : i < its.toArray.size := by
      have := (List.getElem?_eq_some_iff.mp hu).1
      simpa using this
    refine wpAny_pyNext_enum_itemD D he ⟨hi, p⟩ hlt nei (by simp [nei, nea]) fun y h' tk hy ho hs' hT hz hk => ?_
    have ey : y = u := by
      have hy' : its[i]? = some y := by simpa using hy
      rw [hu] at hy'
      exact (Option.some.inj hy').symm
    subst ey
    refine ⟨_, rfl, wpAny_letOwnedTupleGo_enum ho fun h2 he2 hs2 => ?_⟩
    have hel : e < s.heap.objs.size := Heap.lt_size he
    have hil : it < s.heap.objs.size := Heap.lt_size ei
    have hT2 : h2.get? s.heap.objs.size = some { cls := .type "tuple", data := .seq #[.int i tk, y] } := hs2.extBut _ _ (Nat.ne_of_gt hel) hT
    obtain ⟨I2, n2⟩ := I.handed (x := .int i) (u := .int i tk) (t' := tk + 1) (ch := [e, it]) ⟨tk, rfl⟩ ru hT2 (fun b o hb q => hs2.extBut b o (fun z => hb (by simp [z])) (hk b o (fun z => hb (by simp [z])) (fun z => hb (by simp [z])) q)) hf
      (fun b hb => by rcases List.mem_cons.mp hb with rfl | hb; exact hel; rw [List.mem_singleton.mp hb]; exact hil)
    refine ⟨.ref s.heap.objs.size, _, I2, rfl, ⟨_, x, I.hok.fresh (Nat.le_refl _), rfl, fun ys hys => by rw [I.sq_inj hys hq]; exact hx, rfl⟩, ⟨⟨_, by simpa using he2⟩, hs'.1.at fun o q => hs2.extBut it o nei.symm q⟩, n2⟩
  done := by
    intro X hP hw hK hc i pins s σ H E I hf st hg
    subst hP hw hK
    obtain ⟨⟨old, he⟩, hi⟩ := st
    obtain ⟨xs, hq, hx⟩ := hg
    obtain ⟨its, rv, p⟩ := I.sq hq
    have nai := sq_it p hi
    have D := draws_sq (prog := X.prog) (w := X.w) (A := X.A.in1) (I.ok.hd hc) k it a nai its.toArray
    have hl : its.toArray.size = i := by rw [← hx, rv.length]; simp
    refine wpAny_pyNext_enum_endD D he ⟨hl ▸ hi, p⟩ fun h' eb => ⟨rfl, I.turnedL (t' := s.toks) (ch := [it]) (fun b o hb q => eb b o (fun z => hb (by simp [z])) q) fun b hb => hf b (by simp at hb ⊢; exact .inr hb)⟩
  self := fun _ _ _ _ _ st h => by
    obtain ⟨⟨old, he⟩, _⟩ := st
    exact wpAny_pyIter_enum he h
section
variable {X : Cx}
def iEnum (k : Bool) (K : PySem.W.Frag) (ta : TA) : TI := fun σ H R => ta σ H fun vs H1 => ∃ a, vs = [.ref a] ∧ (∃ xs, SqX K k H1 a xs) ∧ R (Ite k K a) H1
theorem pi_enum (k : Bool) {a : Expr} {ta : TA} {p pos tpos : Pos} {elts : List Expr} {x1} (hg : Gl X "enumerate") (hm : X.mg "enumerate" = none) (ha : PA X [a] ta) (hs : starEach [a] X.env = [(false, eval a X.env)] := by rfl) :
    PI X (.Tuple elts x1 tpos) (.Call (.Name "enumerate" p) [a] [] pos) (iEnum k X.K ta) := by
  intro pins s σ H R I h
  refine Call_ (ld_blt I hg hm boot_enumerate (PyProof.Rows.callWith_type1 (thn (ha pos pins s σ H _ I h) fun us s1 ⟨vs, H1, I1, r1, q1⟩ => ?_) hs rfl))
  obtain ⟨l, rfl, ⟨xs, hq⟩, q⟩ := q1
  obtain ⟨u, rfl, r⟩ := vals1 r1
  cases r
  obtain ⟨its, rv, pq⟩ := I1.sq hq
  refine call_enum_sq pq fun h' he hi hk => ?_
  refine wpAny_pyIter_enum (s := { s1 with heap := h' }) he ?_
  have f : ∀ b, s1.heap.objs.size ≤ b → FpOk X pins H1 b := fun b hb => I1.fpOk hb (I1.hok.fresh hb)
  refine ⟨_, [s1.heap.objs.size + 1, s1.heap.objs.size], _, _, H1, rfl, I1.kept (t' := s1.toks) hk, turn_enum k l _ _, ⟨⟨_, he⟩, hi⟩, fun b hb => ?_, q⟩
  rcases List.mem_cons.mp hb with rfl | hb
  · exact f _ (by omega)
  · rw [List.mem_singleton.mp hb]; exact f _ (Nat.le_refl _)
end
end L2
set_option Elab.async false
set_option linter.all false
set_option maxRecDepth 100000
set_option maxHeartbeats 4000000
namespace L2
open PySem PySem.Spec PyProof.Rows
section
variable {prog : Program} {w : World} {A : Around} {E : Value → Shared → Prop} {s : Shared} {z TI TO i1 i2 : Addr} {fp1 fp2 : List Addr} {n1 n2 j : Nat} {P1 P2 : Nat → Value → Prop} {S1 S2 : Nat → Heap → Prop} {a b : Value}
end
end L2
set_option Elab.async false
set_option linter.all false
set_option maxRecDepth 100000
set_option maxHeartbeats 4000000
namespace L2
open PySem PySem.Spec PyProof.Rows
section
variable {prog : Program} {w : World} {A : Around} {E : Value → Shared → Prop} {s : Shared}
end
section
variable {X : Cx}
end
end L2
set_option Elab.async false
set_option linter.all false
set_option maxRecDepth 100000
set_option maxHeartbeats 4000000
namespace L2
open PySem PySem.Spec PyProof.Rows
section
variable {X : Cx} {tg iter el : Expr} {ifs : List Expr} {sc : Scope} {pos py spos : Pos} {Nc : List Str} {js : List (Option Nat)} {wi : TI} {i : Nat} {y : Str}
theorem ps_lc1x {g : TG} {bd : Addr → TB} (hx : X.xe = fun _ _ => False) (hc : X.calm = true) (hN : X.N.Nodup) (hiN : X.N[i]? = some y) (hy : Loc X.env.scope y) (hi : PI X tg iter wi) (S : CS sc X.env.scope) (cap : capOk js Nc X.N sc.names = true)
    (hg : ∀ C s₂ H₂ fp pins, PG (cxC X Nc sc C s₂ H₂ fp pins) tg g)
    (hb : ∀ C s₂ H₂ fp pins D L, PTl (cxC X Nc sc C s₂ H₂ fp pins) (tailOf ifs (cxC X Nc sc C s₂ H₂ fp pins).env (do let _ ← call (.builtin "list.append") [.ref D, ← eval el (cxC X Nc sc C s₂ H₂ fp pins).env]) L) L (bd D))
    (hs : ∀ x, foldedSetIterable iter X.env x = pure x := by intro _; rfl)
    (hsw : swapsWith (.ListComp el [⟨tg, iter, ifs, 0⟩] sc pos) (some (.Name y py)) spos.line X.env = pure true := by rfl)
    (hf : X.fn y = true ∨ X.env.scope.names.lookup y = some .local := by first | exact .inl rfl | exact .inr rfl | assumption) :
    PS X (.Assign [.Name y py] (.ListComp el [⟨tg, iter, ifs, 0⟩] sc pos) spos) (tAsg (tLC js wi g bd) (gName i)) := by
  intro pins s σ H D0 I h
  have hcl : closureFor sc X.env = pure (clOf sc X.env) := closure_of fun y hy hf => I.ok.has y.1 (.inl (S.free y hy hf))
  rw [exec_Assign_Name_used _ _ _ _ hsw]
  refine wpAny_bind (wpAny_standAt (wpAny_bind ?_))
  show wpAny _ X.A (do let _ ← comprehension (.ListComp el [⟨tg, iter, ifs, 0⟩] sc pos) sc X.env _ (newList []) false (eval iter X.env) (some (assign (.Name y py) X.env))) _ _ s
  refine wpAny_bind (wpAny_mono (wpAny_comprehension_free (use := some (assign (.Name y py) X.env)) (Q := fun _ s' => SP X pins D0 .next s') rfl hs hcl S.kind S.names
    (thn (hi pins s σ H _ I h) fun v s1 h1 => thn h1 fun itv s2 h2 => ?_)) (fun _ s' hq => wpAny_pure (wpAny_pure hq)) fun _ _ e => e)
  obtain ⟨it, fp, tn, J, H2, e, I2, T, st2, f2, hw⟩ := h2
  subst e
  have hlt : ∀ b ∈ fp, b < s2.heap.objs.size := fun b hb => let ⟨o, ho, _⟩ := T.obj _ _ st2 b hb; Heap.lt_size ho
  refine wpAny_newObj_type (wpAny_newFunctionEnv S.nocell (by intro y hy; simp at hy) (fun h₁ hns₁ hsb₁ => ?_) S.kind)
  dsimp only at hns₁ hsb₁ ⊢
  generalize hH2 : s2.heap.push { cls := .type "list", dict := none, data := .seq ([] : List Value).toArray } = G at hns₁ hsb₁ ⊢
  have hCs : G.objs.size = s2.heap.objs.size + 1 := by rw [← hH2, Heap.size_push]
  have hDC : s2.heap.objs.size ≠ G.objs.size := by omega
  have hCle : s2.heap.objs.size ≤ G.objs.size := by omega
  have old : ∀ b o, s2.heap.get? b = some o → h₁.get? b = some o := fun b o e => hsb₁.extBut b o (Nat.ne_of_lt (Nat.lt_of_lt_of_le (Heap.lt_size e) hCle)) (Heap.get?_push_of_some _ (hH2 ▸ Heap.get?_push_of_some _ e))
  have hacc : h₁.get? s2.heap.objs.size = some { cls := .type "list", dict := none, data := .seq ([] : List Value).toArray } := hsb₁.extBut _ _ hDC (Heap.get?_push_of_some _ (hH2 ▸ Heap.get?_push_size _ rfl))
  have new : ObjOk X.prog X.w (upd H2 s2.heap.objs.size (.lst [])) h₁ s2.heap.objs.size (.lst []) := ⟨Nat.zero_le _, [], _, .nil, hacc⟩
  have I4 := inv_comp (js := js) (Nc := Nc) (tk := s2.toks + ([] : List (Str × Value)).length) I2 S f2 hlt cap hCle (Nat.le_refl _) hDC old hns₁ new
  have hn : H2 s2.heap.objs.size = none := I2.fresh
  have f4 : ∀ b ∈ fp, FpOk (cxC X Nc sc G.objs.size s2 H2 fp pins) [] (upd H2 s2.heap.objs.size (.lst [])) b := fun b hb => by
    obtain ⟨h0, h1, h2, h3, h4, h5⟩ := f2 b hb
    refine ⟨?_, Nat.ne_of_lt (Nat.lt_of_lt_of_le (hlt b hb) hCle), fun z => ?_, .inl hb, fun x c z => ?_, fun p hp => ?_⟩
    · rw [upd_ne (Nat.ne_of_lt (hlt b hb))]; exact h0
    · rcases List.mem_cons.mp (I2.stkSub b z) with q | q
      · exact h1 q
      · exact h2 q
    · exact h4 x c (cl_in sc.names [] (fun z => nomatch z) z)
    · rcases List.mem_append.mp hp with z | z
      · exact h5 p z
      · exact absurd z (by simp)
  have st4 : tn 0 h₁ := T.keep _ _ _ st2 fun b hb o e => old b o e
  have loop : codeAny (model X.prog X.w) X.A (.compLoop (.ListComp el [⟨tg, iter, ifs, 0⟩] sc pos) 0 (.ref it) (.ref s2.heap.objs.size) (compEnvC sc (clOf sc X.env) G.objs.size X.env))
      (compPost (model X.prog X.w) X.A X.xe (some (assign (.Name y py) X.env)) (fun _ s' => SP X pins D0 .next s') (.ref s2.heap.objs.size) G.objs.size) { s2 with heap := h₁, toks := s2.toks + ([] : List (Str × Value)).length } := by
    refine comp_loop (X := cxC X Nc sc G.objs.size s2 H2 fp pins) (.inl ⟨el, rfl⟩) hx hc (turn_l1 _ _ _ _ _ _ _ _ _) T (hg _ _ _ _ _) (hb _ _ _ _ _ _ _) I4 st4 f4 (hw _ hn) fun σ' H' s' I' q => ?_
    obtain ⟨m', hm', _⟩ := I'.loc
    have IB : Inv X pins σ H' { s' with heap := s'.heap } := inv_back I2 f2 hCle I' (Heap.SameBut.refl ..)
    have nC : H' G.objs.size = none := I'.free
    have fC : FpOk X pins H' G.objs.size := I2.fpOk hCle nC
    show wpAny _ X.A (assign (.Name y py) X.env (.ref s2.heap.objs.size)) _ _ s'
    refine wpAny_assign_Name (store_ok2 (v := .ref s2.heap.objs.size) IB hN hiN hy rfl (fun s'' IC hsb => ?_) hf)
    obtain ⟨a, sb, ha⟩ := hsb
    have aC : G.objs.size ≠ a := by
      rcases ha with rfl | ha
      · exact fC.2.1
      · exact fun z => fC.2.2.2.2.1 y a ha z.symm
    refine ⟨m', hm'.sameBut sb aC, fun h' hs' => ?_⟩
    exact ⟨_, H', IC.turnedL (t' := s''.toks) (ch := [G.objs.size]) (fun b o hb' e => hs'.extBut b o (fun z => hb' (by simp [z])) e) (fun b hb' => by rw [List.mem_singleton.mp hb']; exact fC), q⟩
  exact comp_start (.inl ⟨el, rfl⟩) rfl rfl loop (T.self _ _ _ _ _ st4 loop)
end
theorem for_enum {k : Bool} {K : PySem.W.Frag} {a : Addr} {xs : List V} {g : TG} {tb : TS} {D : Ends} {σ : St} {H : Hp} (Pv : Nat → St → Hp → Prop) (h0 : Pv 0 σ H) (hl : ∀ i σ H, i ≤ xs.length → Pv i σ H → SqX K k H a xs)
    (hs : ∀ i x T σ H, xs[i]? = some x → H T = none → Pv i σ H → g (.ref T) σ (upd H T (.tup [.int i, x])) fun σ2 H2 => tb { D with nx := Pv (i + 1), ct := Pv (i + 1), bk := D.nx } σ2 H2) (hd : ∀ σ H, Pv xs.length σ H → D.nx σ H) :
    ∃ W : Nat → Nat → St → Hp → Prop, (∃ m, W 0 m σ H) ∧ ∀ i m σ H, W i m σ H →
      ((Ite k K a).stop i H ∧ D.nx σ H) ∨ ((Ite k K a).go i H ∧ ∃ N : St → Hp → Prop, (∀ σ' H', N σ' H' → ∃ m', m' < m ∧ W (i + 1) m' σ' H') ∧ ∀ x H', (Ite k K a).yld i H x H' → g x σ H' fun σ2 H2 => tb { D with nx := N, ct := N, bk := D.nx } σ2 H2) := by
  refine ⟨fun i m σ H => m = xs.length - i ∧ i ≤ xs.length ∧ Pv i σ H, ⟨xs.length, by simp, Nat.zero_le _, h0⟩, ?_⟩
  rintro i m σ H ⟨rfl, hle, p⟩
  have q1 := hl i σ H hle p
  by_cases hi : i < xs.length
  · refine .inr ⟨⟨xs, xs[i], q1, by simp [hi]⟩, Pv (i + 1), fun σ' H' q => ⟨xs.length - (i + 1), by omega, rfl, by omega, q⟩, fun x H' hy => ?_⟩
    obtain ⟨T, x1, nT, rfl, e1, rfl⟩ := hy
    exact hs i x1 T σ H (e1 xs q1) nT p
  · have : i = xs.length := by omega
    subst this
    exact .inl ⟨⟨xs, q1, rfl⟩, hd σ H p⟩
end L2
set_option Elab.async false
set_option linter.all false
set_option maxRecDepth 100000
set_option maxHeartbeats 4000000
namespace L2
open PySem PySem.Spec PyProof.Rows
section
variable {X : Cx}
end
end L2
set_option Elab.async false
set_option linter.all false
set_option maxRecDepth 100000
set_option maxHeartbeats 4000000
namespace L2
open PySem PySem.Spec PyProof.Rows
section
variable {X : Cx}
theorem call_minL (hc : X.calm = true) : CallR X (.builtin "min") (fun xs H Q => ∃ (a : Addr) (ns : List Int), xs = [.ref a] ∧ SqL X.K H a (ns.map V.int) ∧ 0 < ns.length ∧ ∀ M, M ∈ ns → (∀ i ∈ ns, M ≤ i) → Q (.int M) H) := by
  intro pins s σ H xs us Q I r h
  obtain ⟨a, ns, rfl, hS, hne, q⟩ := h
  obtain ⟨u, rfl, r1⟩ := vals1 r
  cases r1
  obtain ⟨its, rv, ht, hz⟩ := I.list hS
  have hi := ints_of rv
  obtain ⟨xs, e⟩ := hi.allInts.items
  have hns : ns = xs.toList.map (·.1) := by rw [← hi.numsOf, ← nums_intItems, ← e]
  have hsz : 0 < xs.size := by
    have h3 := hne; rw [hns, List.length_map, Array.length_toList] at h3; exact h3
  have hl := ht.isList
  rw [e] at hl
  refine min_intList (I.ok.hd hc) hl hsz fun v h' tk hv hk => ?_
  obtain ⟨t, rfl⟩ := intItems_at hv
  obtain ⟨h1, h2⟩ := argBest_lt (numAt xs) (xs.size - 1)
  refine ⟨.int _, H, I.kept hk, ⟨_, rfl⟩, q _ ?_ fun a ha => ?_⟩
  · rw [hns, numAt_eq]; exact getD_mem (by rw [List.length_map, Array.length_toList]; omega)
  · rw [hns] at ha
    obtain ⟨j, hj, rfl⟩ := mem_getD ha
    rw [List.length_map, Array.length_toList] at hj
    rw [← numAt_eq]; exact h2 j (by omega)
end
section
variable {X : Cx}
end
end L2
set_option Elab.async false
set_option linter.all false
set_option maxRecDepth 100000
set_option maxHeartbeats 4000000
namespace L2
open PySem PySem.Spec PyProof.Rows
section
variable {X : Cx} {tg iter el tg2 iter2 : Expr} {ifs ifs2 : List Expr} {sc : Scope} {pos : Pos} {Nc : List Str} {js : List (Option Nat)} {wi wi2 : TI} {g g2 : TG}
def bFor2 (wi2 : TI) (g2 : TG) (b2 : TB) : TB := fun N σ H => wi2 σ H fun J H1 => tWalk J g2 b2 N σ H1
theorem pt_tail2 {D : Addr} {b2 : TB} {L : Code} {e : Expr} (ee : e = .ListComp el [⟨tg, iter, [], 0⟩, ⟨tg2, iter2, ifs2, 0⟩] sc pos) (hx : X.xe = fun _ _ => False) (hc : X.calm = true) (hi : PI X tg2 iter2 wi2) (hg : PG X tg2 g2)
    (hb : ∀ L, PTl X (tailOf ifs2 X.env (do let _ ← call (.builtin "list.append") [.ref D, ← eval el X.env]) L) L b2) (hs : ∀ x, foldedSetIterable iter2 X.env x = pure x) :
    PTl X (tail2 [] X.env iter2 (fun i => .compStart e 1 i (.ref D) X.env) L) L (bFor2 wi2 g2 b2) := by
  subst ee
  intro pins s σ H N I h
  unfold tail2
  refine wpAny_bind (wpAny_tests_nil ?_)
  show wpAny _ _ (eval iter2 X.env >>= _) _ _ s
  refine wpAny_bind (thn (hi pins s σ H _ I h) fun v s1 h1 => ?_)
  refine wpAny_bind (wpAny_standAt (wpAny_bind (wpAny_of_eq (hs v) (wpAny_bind (wpAny_holding (thn h1 fun itv s2 h2 => ?_))))))
  obtain ⟨it, fp, tn, J, H2, e, I2, T, st2, f2, hw⟩ := h2
  subst e
  refine wpAny_bind (wpAny_runOwn ?_)
  have loop : codeAny (model X.prog X.w) X.A (.compLoop (.ListComp el [⟨tg, iter, [], 0⟩, ⟨tg2, iter2, ifs2, 0⟩] sc pos) 1 (.ref it) (.ref D) X.env)
      (fun r s' => match r with | .ok _ => wpAny (model X.prog X.w) X.A (again L) (fun fin s' => fin = .again L ∧ ∃ σ' H', Inv X pins σ' H' s' ∧ N σ' H') X.xe s' | .error e => cameBackBy (model X.prog X.w) X.A X.env X.xe e s') s2 :=
    comp_loop (.inl ⟨el, rfl⟩) hx hc (turn_l21 _ _ _ _ _ _ _ _ _ _ _ _) T hg (hb _) I2 st2 f2 hw fun σ' H' s' I' q => wpAny_pure ⟨rfl, σ', H', I', q⟩
  exact comp_start (.inl ⟨el, rfl⟩) rfl rfl loop (T.self _ _ _ _ _ st2 loop)
theorem pe_lc2x {bd : Addr → TB} (hx : X.xe = fun _ _ => False) (hc : X.calm = true) (hi : PI X tg iter wi) (S : CS sc X.env.scope) (cap : capOk js Nc X.N sc.names = true)
    (hg : ∀ C s₂ H₂ fp pins, PG (cxC X Nc sc C s₂ H₂ fp pins) tg g) (hi2 : ∀ C s₂ H₂ fp pins, PI (cxC X Nc sc C s₂ H₂ fp pins) tg2 iter2 wi2) (hg2 : ∀ C s₂ H₂ fp pins, PG (cxC X Nc sc C s₂ H₂ fp pins) tg2 g2)
    (hb : ∀ C s₂ H₂ fp pins D L, PTl (cxC X Nc sc C s₂ H₂ fp pins) (tailOf ifs2 (cxC X Nc sc C s₂ H₂ fp pins).env (do let _ ← call (.builtin "list.append") [.ref D, ← eval el (cxC X Nc sc C s₂ H₂ fp pins).env]) L) L (bd D))
    (hs : ∀ x, foldedSetIterable iter X.env x = pure x := by intro _; rfl) (hs2 : ∀ C s₂ H₂ fp pins x, foldedSetIterable iter2 (cxC X Nc sc C s₂ H₂ fp pins).env x = pure x := by intro _ _ _ _ _ _; rfl) :
    PE X (.ListComp el [⟨tg, iter, [], 0⟩, ⟨tg2, iter2, ifs2, 0⟩] sc pos) (tLC js wi g fun D => bFor2 wi2 g2 (bd D)) := by
  intro pins s σ H Q I h
  rw [eval_ListComp]
  have hcl : closureFor sc X.env = pure (clOf sc X.env) := closure_of fun y hy hf => I.ok.has y.1 (.inl (S.free y hy hf))
  refine wpAny_comprehension_free (use := none) rfl hs hcl S.kind S.names (thn (hi pins s σ H _ I h) fun v s1 h1 => thn h1 fun itv s2 h2 => ?_)
  obtain ⟨it, fp, tn, J, H2, e, I2, T, st2, f2, hw⟩ := h2
  subst e
  have hlt : ∀ b ∈ fp, b < s2.heap.objs.size := fun b hb => let ⟨o, ho, _⟩ := T.obj _ _ st2 b hb; Heap.lt_size ho
  refine wpAny_newObj_type (wpAny_newFunctionEnv S.nocell (by intro y hy; simp at hy) (fun h₁ hns₁ hsb₁ => ?_) S.kind)
  dsimp only at hns₁ hsb₁ ⊢
  generalize hH2 : s2.heap.push { cls := .type "list", dict := none, data := .seq ([] : List Value).toArray } = G at hns₁ hsb₁ ⊢
  have hCs : G.objs.size = s2.heap.objs.size + 1 := by rw [← hH2, Heap.size_push]
  have hDC : s2.heap.objs.size ≠ G.objs.size := by omega
  have hCle : s2.heap.objs.size ≤ G.objs.size := by omega
  have old : ∀ b o, s2.heap.get? b = some o → h₁.get? b = some o := fun b o e => hsb₁.extBut b o (Nat.ne_of_lt (Nat.lt_of_lt_of_le (Heap.lt_size e) hCle)) (Heap.get?_push_of_some _ (hH2 ▸ Heap.get?_push_of_some _ e))
  have hacc : h₁.get? s2.heap.objs.size = some { cls := .type "list", dict := none, data := .seq ([] : List Value).toArray } := hsb₁.extBut _ _ hDC (Heap.get?_push_of_some _ (hH2 ▸ Heap.get?_push_size _ rfl))
  have new : ObjOk X.prog X.w (upd H2 s2.heap.objs.size (.lst [])) h₁ s2.heap.objs.size (.lst []) := ⟨Nat.zero_le _, [], _, .nil, hacc⟩
  have I4 := inv_comp (js := js) (Nc := Nc) (tk := s2.toks + ([] : List (Str × Value)).length) I2 S f2 hlt cap hCle (Nat.le_refl _) hDC old hns₁ new
  have hn : H2 s2.heap.objs.size = none := I2.fresh
  have f4 : ∀ b ∈ fp, FpOk (cxC X Nc sc G.objs.size s2 H2 fp pins) [] (upd H2 s2.heap.objs.size (.lst [])) b := fun b hb => by
    obtain ⟨h0, h1, h2, h3, h4, h5⟩ := f2 b hb
    refine ⟨?_, Nat.ne_of_lt (Nat.lt_of_lt_of_le (hlt b hb) hCle), fun z => ?_, .inl hb, fun x c z => ?_, fun p hp => ?_⟩
    · rw [upd_ne (Nat.ne_of_lt (hlt b hb))]; exact h0
    · rcases List.mem_cons.mp (I2.stkSub b z) with q | q
      · exact h1 q
      · exact h2 q
    · exact h4 x c (cl_in sc.names [] (fun z => nomatch z) z)
    · rcases List.mem_append.mp hp with z | z
      · exact h5 p z
      · exact absurd z (by simp)
  have st4 : tn 0 h₁ := T.keep _ _ _ st2 fun b hb o e => old b o e
  have loop : codeAny (model X.prog X.w) X.A (.compLoop (.ListComp el [⟨tg, iter, [], 0⟩, ⟨tg2, iter2, ifs2, 0⟩] sc pos) 0 (.ref it) (.ref s2.heap.objs.size) (compEnvC sc (clOf sc X.env) G.objs.size X.env))
      (compPost (model X.prog X.w) X.A X.xe none (EP X pins σ Q) (.ref s2.heap.objs.size) G.objs.size) { s2 with heap := h₁, toks := s2.toks + ([] : List (Str × Value)).length } := by
    refine comp_loop (X := cxC X Nc sc G.objs.size s2 H2 fp pins) (.inl ⟨el, rfl⟩) hx hc (turn_l20 _ _ _ _ _ _ _ _ _ _ _ _) T (hg _ _ _ _ _)
      (pt_tail2 (X := cxC X Nc sc G.objs.size s2 H2 fp pins) rfl hx hc (hi2 _ _ _ _ _) (hg2 _ _ _ _ _) (fun L => hb _ _ _ _ _ _ L) (hs2 _ _ _ _ _)) I4 st4 f4 (hw _ hn) fun σ' H' s' I' q => ?_
    obtain ⟨m', hm', _⟩ := I'.loc
    exact ⟨m', hm', fun h' hs' => ⟨.ref s2.heap.objs.size, H', inv_back I2 f2 hCle I' hs', rfl, q⟩⟩
  exact comp_start (.inl ⟨el, rfl⟩) rfl rfl loop (T.self _ _ _ _ _ st4 loop)
end
end L2
set_option Elab.async false
set_option linter.all false
set_option maxRecDepth 100000
set_option maxHeartbeats 4000000
namespace L2
open PySem PySem.Spec PyProof.Rows
open AutoSeq1 (wpAny_loadPart')
theorem tup_index (l : Addr) (items : Array Value) (n : Nat) (dd : Option Addr) (sl : Array (Option Value)) (x : Value) (e : Value → Bool) (j : Nat) (hj : j < items.size) (hit : e items[j] = true) (hno : ∀ m (hm : m < items.size), m < j → e items[m] = false) :
    Meets (Builtin.«tuple.index» ⟨[.ref l, x], []⟩) (fun A R s => s.heap.get? l = some { cls := .type "tuple", dict := dd, data := .seq items n, slots := sl } ∧ (∀ y, y ∈ items → SeqAt.EqAt A.in1 s y x (e y)) ∧ R (.ok (.ret (.int j s.toks))) { s with toks := s.toks + 1 }) :=
  .of_wp fun prog w A R s h => by
    obtain ⟨hp, g, d, tk, os⟩ := s; obtain ⟨hl, he, h⟩ := h
    wp_walk using wpAny_loadPart' hl
    have hR : ∀ (f : Nat → Option PySem.Fin × PUnit → Sem (ForInStep (Option PySem.Fin × PUnit))) (Q : Option PySem.Fin × PUnit → Shared → Prop) (E : Value → Shared → Prop) (s0 : Shared),
        wpAny (model prog w) A.in1 (forIn (List.range' 0 items.size) ((none : Option PySem.Fin), PUnit.unit) f) Q E s0 → wpAny (model prog w) A.in1 (forIn [:min items.size items.size] ((none : Option PySem.Fin), PUnit.unit) f) Q E s0 := fun f Q E s0 z => by
      rw [Std.Legacy.Range.forIn_eq_forIn_range']
      simpa [Std.Legacy.Range.size] using z
    refine hR (fun i __s => match items[i]? with
            | some y => do
              if ← eqBool y x then do
                  let r ← retInt (i : Nat)
                  pure (ForInStep.done (some r, ()))
                else pure (ForInStep.yield (none, ()))
            | _ => pure (ForInStep.yield (none, ()))) _ _ _ ?_
    refine wpAny_forIn_list _ (fun rest b s' => b.1 = none ∧ s' = ⟨hp, g, d, tk, os⟩ ∧ ∃ i, i ≤ j ∧ rest = List.range' i (items.size - i)) _ ?_ ?_ _ _ ⟨rfl, rfl, 0, Nat.zero_le _, by simp⟩
    · rintro y rest b s' ⟨hb, rfl, i, hi, er⟩
      have hlt : i < items.size := by omega
      rw [show items.size - i = (items.size - (i + 1)) + 1 by omega, List.range'_succ] at er
      injection er with e1 e2
      subst e1
      have hg : items[y]? = some items[y] := by simp [hlt]
      simp only [hg]
      refine wpAny_bind (he _ (Array.getElem_mem hlt) prog w _ _ ?_)
      by_cases c : y = j
      · subst c
        rw [hit]
        wp_walk
        exact ⟨_, rfl, h⟩
      · rw [hno y hlt (by omega)]
        wp_walk
        exact ⟨rfl, rfl, y + 1, by omega, e2⟩
    · rintro b s' ⟨hb, rfl, i, hi, er⟩
      have : List.length ([] : List Nat) = items.size - i := by rw [er, List.length_range']
      simp at this
      omega
section
variable {X : Cx}
def rIndexT (K : PySem.W.Frag) : V → List V → Hp → VK → Prop := fun x vs H Q => ∃ (l : Addr) (ns : List Int) (n : Int) (j : Nat), x = .ref l ∧ vs = [.int n] ∧ SqT K H l (ns.map V.int) ∧ FirstAt ns n j ∧ Q (.int j) H
theorem mt_indexT : MtM X "tuple.index" (rIndexT X.K) := by
  intro pins s σ H x vs v us Q I rx rv h
  obtain ⟨l, ns, n, j, rfl, rfl, hH, hj, q⟩ := h
  cases rx
  obtain ⟨u, rfl, t, rfl⟩ := rv.one
  obtain ⟨its, r, ⟨⟨cls, dd, dt, sl⟩, ho, hc, m, hd⟩, hz⟩ := I.tuple hH
  simp only at hc hd
  subst hc hd
  obtain ⟨h1, h2, h3⟩ := first_hit r hj
  refine call_meets F.slot_tuple_index ⟨_, ho, rfl⟩ F.entry_tuple_index (F.args_tuple_index_2 _ _) (tup_index l its.toArray m dd sl (.int n t) (eqInt n) j h1 h2 h3) ⟨ho, fun y hy => (vals_ints_eq r n t y hy).at _ _, ?_⟩
  exact ⟨.int j, H, I.tok _, ⟨_, rfl⟩, q⟩
end
end L2
set_option Elab.async false
set_option linter.all false
set_option maxRecDepth 100000
set_option maxHeartbeats 4000000
namespace L2
open PySem PySem.Spec PyProof.Rows
section
variable {X : Cx} {tg iter kx vx : Expr} {ifs : List Expr} {sc : Scope} {pos : Pos} {Nc : List Str} {js : List (Option Nat)} {wi : TI}
def emitD (kx vx : Expr) (env : Env) (acc : Value) : Sem Unit := do
  let kv ← eval kx env
  let vv ← holding [kv] (eval vx env)
  match acc with
  | .ref d => do
    standAt (have __src := kx.pos; { line := __src.line, col := __src.col, endLine := vx.pos.endLine, endCol := vx.pos.endCol })
    holding [kv, vv] (dictSet d kv vv)
  | _ => unsupported "internal:dictcomp"
theorem turn_d1 (kx vx tg iter : Expr) (ifs : List Expr) (sc : Scope) (pos : Pos) (it acc : Value) (env : Env) :
    compTurn (.DictComp kx vx [⟨tg, iter, ifs, 0⟩] sc pos) 0 it acc env = (standAt iter.pos >>= fun _ => pyNext it >>= fun r => match r with
      | none => pure (.done .next)
      | some v => letOwnedTupleGo tg it v >>= fun _ => assign tg env v >>= fun _ => tailOf ifs env (emitD kx vx env acc) (.compLoop (.DictComp kx vx [⟨tg, iter, ifs, 0⟩] sc pos) 0 it acc env)) := by rfl
end
end L2
set_option linter.all false
namespace Cyc
def Adj : List Nat → Nat → Nat → Prop
  | x :: y :: r, a, b => (a = x ∧ b = y) ∨ Adj (y :: r) a b
  | _, _, _ => False
def Nx (row : List Nat) (a b : Nat) : Prop := Adj (row ++ row.head?.toList) a b
theorem adj_one (x a b : Nat) : ¬ Adj [x] a b := id
theorem adj_two (x y : Nat) (r : List Nat) (a b : Nat) : Adj (x :: y :: r) a b ↔ (a = x ∧ b = y) ∨ Adj (y :: r) a b := Iff.rfl
theorem adj_app : ∀ (l : List Nat) (x : Nat) (r : List Nat) (a b : Nat), Adj (l ++ x :: r) a b ↔ Adj (l ++ [x]) a b ∨ Adj (x :: r) a b
  | [], x, r, a, b => ⟨.inr, fun h => h.elim (fun z => (adj_one x a b z).elim) id⟩
  | [y], x, r, a, b => by
    show (a = y ∧ b = x) ∨ Adj (x :: r) a b ↔ ((a = y ∧ b = x) ∨ Adj [x] a b) ∨ Adj (x :: r) a b
    have := adj_one x a b
    exact ⟨fun h => h.elim (fun z => .inl (.inl z)) .inr, fun h => h.elim (fun z => z.elim .inl fun q => (this q).elim) .inr⟩
  | y :: z :: l, x, r, a, b => by
    have ih := adj_app (z :: l) x r a b
    show (a = y ∧ b = z) ∨ Adj (z :: l ++ x :: r) a b ↔ ((a = y ∧ b = z) ∨ Adj (z :: l ++ [x]) a b) ∨ Adj (x :: r) a b
    rw [ih]
    exact ⟨fun h => h.elim (fun q => .inl (.inl q)) fun q => q.elim (fun q => .inl (.inr q)) .inr, fun h => h.elim (fun q => q.elim .inl fun q => .inr (.inl q)) fun q => .inr (.inr q)⟩
theorem adj_mem : ∀ {l : List Nat} {a b : Nat}, Adj l a b → a ∈ l ∧ b ∈ l.tail
  | [], _, _, h => h.elim
  | [_], _, _, h => h.elim
  | x :: y :: r, a, b, h => by
    rcases h with ⟨rfl, rfl⟩ | h
    · exact ⟨List.mem_cons_self, List.mem_cons_self⟩
    · have := adj_mem h
      exact ⟨List.mem_cons_of_mem _ this.1, List.mem_cons_of_mem _ this.2⟩
theorem nx_cons (x : Nat) (r : List Nat) (a b : Nat) : Nx (x :: r) a b ↔ Adj (x :: r ++ [x]) a b := Iff.rfl
theorem nx_rot (A C : List Nat) (a b : Nat) : Nx (A ++ C) a b ↔ Nx (C ++ A) a b := by
  cases A with
  | nil => rw [List.nil_append, List.append_nil]
  | cons a0 A' =>
    cases C with
    | nil => rw [List.nil_append, List.append_nil]
    | cons c0 C' =>
      have e1 : Nx (a0 :: A' ++ c0 :: C') a b ↔ Adj ((a0 :: A') ++ c0 :: (C' ++ [a0])) a b := by
        show Adj ((a0 :: A' ++ c0 :: C') ++ [a0]) a b ↔ _
        rw [List.append_assoc]
        exact Iff.rfl
      have e2 : Nx (c0 :: C' ++ a0 :: A') a b ↔ Adj ((c0 :: C') ++ a0 :: (A' ++ [c0])) a b := by
        show Adj ((c0 :: C' ++ a0 :: A') ++ [c0]) a b ↔ _
        rw [List.append_assoc]
        exact Iff.rfl
      rw [e1, e2, adj_app (a0 :: A') c0, adj_app (c0 :: C') a0]
      exact Or.comm
theorem nx_head (v : Nat) (R : List Nat) (a b : Nat) : Nx (v :: R) a b ↔ (a = v ∧ b = (R ++ [v]).headD 0) ∨ Adj (R ++ [v]) a b := by
  rw [nx_cons]
  cases R with
  | nil => exact Iff.rfl
  | cons y r => exact Iff.rfl
theorem adj_last_ne : ∀ {R : List Nat} {v a b : Nat}, v ∉ R → Adj (R ++ [v]) a b → a ≠ v
  | [], _, _, _, _, h => h.elim
  | x :: r, v, a, b, hv, h => by
    have hv' : v ∉ r := fun z => hv (List.mem_cons_of_mem _ z)
    have hx : x ≠ v := fun z => hv (by rw [z]; exact List.mem_cons_self)
    cases r with
    | nil =>
      rcases h with ⟨rfl, _⟩ | h
      · exact hx
      · exact h.elim
    | cons y r' =>
      rcases h with ⟨rfl, _⟩ | h
      · exact hx
      · exact adj_last_ne hv' h
theorem nx_ins {A B : List Nat} {v w : Nat} (nd : (A ++ v :: B).Nodup) (hw : w ∉ A ++ v :: B) (a b : Nat) :
    Nx (A ++ v :: w :: B) a b ↔ (a = v ∧ b = w) ∨ (a = w ∧ Nx (A ++ v :: B) v b) ∨ (a ≠ v ∧ Nx (A ++ v :: B) a b) := by
  rw [nx_rot A (v :: w :: B), nx_rot A (v :: B), nx_rot A (v :: B)]
  simp only [List.cons_append]
  have nv : v ∉ B ++ A := fun z => by
    rw [List.nodup_append] at nd
    rcases List.mem_append.mp z with z | z
    · exact (List.nodup_cons.mp nd.2.1).1 z
    · exact nd.2.2 v z v List.mem_cons_self rfl
  have nw : w ≠ v := fun z => hw (by rw [z]; simp)
  generalize hR : B ++ A = R at nv
  rw [nx_head, nx_head, nx_head]
  have e1 : (w :: R ++ [v]).headD 0 = w := rfl
  have e2 : Adj (w :: R ++ [v]) a b ↔ (a = w ∧ b = (R ++ [v]).headD 0) ∨ Adj (R ++ [v]) a b := by
    cases R with
    | nil => exact Iff.rfl
    | cons y r => exact Iff.rfl
  rw [e1, e2]
  constructor
  · rintro (h | h | h)
    · exact .inl h
    · exact .inr (.inl ⟨h.1, .inl ⟨rfl, h.2⟩⟩)
    · exact .inr (.inr ⟨adj_last_ne nv h, .inr h⟩)
  · rintro (h | ⟨h, h'⟩ | ⟨h, h'⟩)
    · exact .inl h
    · rcases h' with ⟨_, z⟩ | z
      · exact .inr (.inl ⟨h, z⟩)
      · exact (adj_last_ne nv z rfl).elim
    · rcases h' with ⟨z, _⟩ | z
      · exact (h z).elim
      · exact .inr (.inr z)
theorem adj_nodup_b : ∀ {l : List Nat} {a a' b : Nat}, l.tail.Nodup → Adj l a b → Adj l a' b → a = a'
  | [], _, _, _, _, h, _ => h.elim
  | [_], _, _, _, _, h, _ => h.elim
  | x :: y :: r, a, a', b, nd, h, h' => by
    have nd' : (y :: r).Nodup := nd
    rcases h with ⟨rfl, rfl⟩ | h
    · rcases h' with ⟨rfl, _⟩ | h'
      · rfl
      · exact ((List.nodup_cons.mp nd').1 (adj_mem h').2).elim
    · rcases h' with ⟨rfl, rfl⟩ | h'
      · exact ((List.nodup_cons.mp nd').1 (adj_mem h).2).elim
      · exact adj_nodup_b (l := y :: r) (List.nodup_cons.mp nd').2 h h'
theorem split_of {row : List Nat} {v : Nat} (h : v ∈ row) : ∃ A B, row = A ++ v :: B := List.append_of_mem h
theorem rot_nodup {A B : List Nat} {v : Nat} (nd : (A ++ v :: B).Nodup) : v ∉ B ++ A ∧ (B ++ A).Nodup := by
  rw [List.nodup_append] at nd
  obtain ⟨n1, n2, n3⟩ := nd
  obtain ⟨n4, n5⟩ := List.nodup_cons.mp n2
  refine ⟨fun z => ?_, ?_⟩
  · rcases List.mem_append.mp z with z | z
    · exact n4 z
    · exact n3 v z v List.mem_cons_self rfl
  · rw [List.nodup_append]
    exact ⟨n5, n1, fun a ha b hb e => n3 b hb a (List.mem_cons_of_mem _ ha) e.symm⟩
theorem nx_mem {row : List Nat} {a b : Nat} (h : Nx row a b) : a ∈ row ∧ b ∈ row := by
  cases row with
  | nil => exact h.elim
  | cons x r =>
    have q := adj_mem h
    constructor
    · rcases List.mem_append.mp q.1 with z | z
      · exact z
      · exact List.mem_cons.mpr (.inl (by simpa using z))
    · rcases List.mem_append.mp q.2 with z | z
      · exact List.mem_cons_of_mem _ z
      · exact List.mem_cons.mpr (.inl (by simpa using z))
theorem nx_right {row : List Nat} {a b b' : Nat} (nd : row.Nodup) (h : Nx row a b) (h' : Nx row a b') : b = b' := by
  obtain ⟨A, B, rfl⟩ := split_of (nx_mem h).1
  rw [nx_rot] at h h'
  simp only [List.cons_append] at h h'
  obtain ⟨n1, n2⟩ := rot_nodup nd
  rw [nx_head] at h h'
  rcases h with ⟨_, rfl⟩ | h
  · rcases h' with ⟨_, rfl⟩ | h'
    · rfl
    · exact (adj_last_ne n1 h' rfl).elim
  · exact (adj_last_ne n1 h rfl).elim
theorem nx_left {row : List Nat} {a a' b : Nat} (nd : row.Nodup) (h : Nx row a b) (h' : Nx row a' b) : a = a' := by
  obtain ⟨A, B, rfl⟩ := split_of (nx_mem h).2
  rw [nx_rot] at h h'
  simp only [List.cons_append] at h h'
  obtain ⟨n1, n2⟩ := rot_nodup nd
  rw [nx_cons] at h h'
  refine adj_nodup_b ?_ h h'
  show (B ++ A ++ [b]).Nodup
  rw [List.nodup_append]
  exact ⟨n2, by simp, fun x hx y hy e => n1 (by simp at hy; rw [← hy, ← e]; exact hx)⟩
end Cyc
set_option linter.all false
set_option maxHeartbeats 1000000
namespace Tri
open Cyc
abbrev Rows := List (List Nat)
def R (L : Rows) (q a b : Nat) : Prop := ∃ row, L[q]? = some row ∧ Nx row a b
def E (L : Rows) (a b : Nat) : Prop := ∃ row, L[a]? = some row ∧ b ∈ row
inductive Reach (L : Rows) : Nat → Nat → Prop
  | here (a : Nat) : Reach L a a
  | more {a b c : Nat} : Reach L a b → E L b c → Reach L a c
theorem Reach.trans {L : Rows} {a b c : Nat} (h : Reach L a b) (h' : Reach L b c) : Reach L a c := by
  induction h' with
  | here => exact h
  | more _ e ih => exact .more ih e
theorem Reach.by {L L' : Rows} (h : ∀ a b, E L a b → Reach L' a b) {a b : Nat} (r : Reach L a b) : Reach L' a b := by
  induction r with
  | here => exact .here _
  | more _ e ih => exact ih.trans (h _ _ e)
structure Good (L : Rows) : Prop where
  three : 3 ≤ L.length
  ne : ∀ (p : Nat) (row : List Nat), L[p]? = some row → row ≠ []
  nd : ∀ (p : Nat) (row : List Nat), L[p]? = some row → row.Nodup
  rng : ∀ (p : Nat) (row : List Nat) (a : Nat), L[p]? = some row → a ∈ row → a < L.length ∧ a ≠ p
  tri : ∀ q a b, R L q a b → R L a b q
  con : ∀ p, p < L.length → Reach L 0 p
  tot : (L.map List.length).sum + 12 = 6 * L.length
theorem r_app {L : Rows} {row : List Nat} (x a b : Nat) : R (L ++ [row]) x a b ↔ R L x a b ∨ (x = L.length ∧ Nx row a b) := by
  unfold R
  rcases Nat.lt_trichotomy x L.length with h | h | h
  · rw [List.getElem?_append_left h]
    constructor
    · exact .inl
    · rintro (z | ⟨z, _⟩)
      · exact z
      · omega
  · subst h
    rw [List.getElem?_append_right (Nat.le_refl _), List.getElem?_eq_none (Nat.le_refl _)]
    simp
  · rw [List.getElem?_eq_none (by simp; omega), List.getElem?_eq_none (by omega)]
    constructor
    · rintro ⟨_, z, _⟩; cases z
    · rintro (⟨_, z, _⟩ | ⟨z, _⟩)
      · cases z
      · omega
theorem e_of_r {L : Rows} {q a b : Nat} (h : R L q a b) : E L q a ∧ E L q b := by
  obtain ⟨row, e, n⟩ := h
  exact ⟨⟨row, e, (nx_mem n).1⟩, ⟨row, e, (nx_mem n).2⟩⟩
theorem nx_ex {row : List Nat} {b : Nat} (h : b ∈ row) : ∃ a, Nx row a b := by
  obtain ⟨A, B, rfl⟩ := split_of h
  have key : ∀ (R : List Nat), ∃ a, Nx (b :: R) a b := by
    intro R
    cases R with
    | nil => exact ⟨b, .inl ⟨rfl, rfl⟩⟩
    | cons y r =>
      have : ∀ (r : List Nat) (y : Nat), ∃ a, Adj (y :: r ++ [b]) a b := by
        intro r
        induction r with
        | nil => intro y; exact ⟨y, .inl ⟨rfl, rfl⟩⟩
        | cons z r ih => intro y; obtain ⟨a, q⟩ := ih z; exact ⟨a, .inr q⟩
      obtain ⟨a, q⟩ := this r y
      exact ⟨a, .inr q⟩
  obtain ⟨a, q⟩ := key (B ++ A)
  exact ⟨a, (nx_rot A (b :: B) a b).mpr q⟩
theorem nx_ex' {row : List Nat} {a : Nat} (h : a ∈ row) : ∃ b, Nx row a b := by
  obtain ⟨A, B, rfl⟩ := split_of h
  refine ⟨(B ++ A ++ [a]).headD 0, (nx_rot A (a :: B) _ _).mpr ?_⟩
  exact (nx_head a (B ++ A) a _).mpr (.inl ⟨rfl, rfl⟩)
theorem Good.sym {L : Rows} (G : Good L) {a b : Nat} (h : E L a b) : E L b a := by
  obtain ⟨row, e, m⟩ := h
  obtain ⟨c, n⟩ := nx_ex' m
  have := G.tri a b c ⟨row, e, n⟩
  exact (e_of_r this).2

def insB (row : List Nat) (v w : Nat) : List Nat := row.take (row.idxOf v + 1) ++ w :: row.drop (row.idxOf v + 1)
def eraB (row : List Nat) (q : Nat) : List Nat := row.eraseIdx (row.idxOf q)
theorem idx_split {A B : List Nat} {v : Nat} (h : v ∉ A) : (A ++ v :: B).idxOf v = A.length := by
  rw [List.idxOf_append, if_neg h]
  simp
theorem split_first {row : List Nat} {v : Nat} (h : v ∈ row) (nd : row.Nodup) : ∃ A B, row = A ++ v :: B ∧ v ∉ A ∧ v ∉ B := by
  obtain ⟨A, B, rfl⟩ := split_of h
  have q := rot_nodup nd
  exact ⟨A, B, rfl, fun z => q.1 (List.mem_append_right _ z), fun z => q.1 (List.mem_append_left _ z)⟩
theorem insB_eq {A B : List Nat} {v w : Nat} (h : v ∉ A) : insB (A ++ v :: B) v w = A ++ v :: w :: B := by
  unfold insB
  rw [idx_split h]
  have e : A ++ v :: B = (A ++ [v]) ++ B := by simp
  rw [e, List.take_left' (by simp), List.drop_left' (by simp)]
  simp
theorem eraB_eq {A B : List Nat} {q : Nat} (h : q ∉ A) : eraB (A ++ q :: B) q = A ++ B := by
  unfold eraB
  rw [idx_split h, List.eraseIdx_append_of_length_le (Nat.le_refl _)]
  simp
theorem eraB_nd {row : List Nat} {q : Nat} (h : q ∈ row) (nd : row.Nodup) : (eraB row q).Nodup := by
  obtain ⟨A, B, rfl, hA, hB⟩ := split_first h nd
  rw [eraB_eq hA]
  simp only [List.nodup_append, List.nodup_cons, List.mem_cons] at nd ⊢
  grind
theorem nx_insB {row : List Nat} {v w : Nat} (h : v ∈ row) (nd : row.Nodup) (hw : w ∉ row) (a b : Nat) : Nx (insB row v w) a b ↔ (a = v ∧ b = w) ∨ (a = w ∧ Nx row v b) ∨ (a ≠ v ∧ Nx row a b) := by
  obtain ⟨A, B, rfl, hA, hB⟩ := split_first h nd
  rw [insB_eq hA]
  exact nx_ins nd hw a b
theorem sum_set : ∀ (L : Rows) (p : Nat) (row new : List Nat), L[p]? = some row → ((L.set p new).map List.length).sum + row.length = (L.map List.length).sum + new.length
  | [], p, row, new, h => by simp at h
  | x :: r, 0, row, new, h => by
    simp at h
    subst h
    simp
    omega
  | x :: r, p + 1, row, new, h => by
    simp at h
    have q := sum_set r p row new h
    simp only [List.set_cons_succ, List.map_cons, List.sum_cons]
    omega

theorem nx3 (p q r a b : Nat) : Nx [p, q, r] a b ↔ (a = p ∧ b = q) ∨ (a = q ∧ b = r) ∨ (a = r ∧ b = p) := by
  show ((a = p ∧ b = q) ∨ (a = q ∧ b = r) ∨ (a = r ∧ b = p) ∨ False) ↔ _
  simp
theorem mem_set {L : Rows} {p : Nat} {new : List Nat} (hp : p < L.length) {x : Nat} {row : List Nat} (h : (L.set p new)[x]? = some row) : (x = p ∧ row = new) ∨ (x ≠ p ∧ L[x]? = some row) := by
  by_cases e : x = p
  · subst e
    rw [List.getElem?_set_self hp] at h
    exact .inl ⟨rfl, (Option.some.inj h).symm⟩
  · rw [List.getElem?_set_ne (Ne.symm e)] at h
    exact .inr ⟨e, h⟩
theorem e_left {L : Rows} {row : List Nat} {x b : Nat} (h : E L x b) : E (L ++ [row]) x b := by
  obtain ⟨r, e, m⟩ := h
  exact ⟨r, by rw [List.getElem?_append_left (List.getElem?_eq_some_iff.mp e).1]; exact e, m⟩
section
variable {L : Rows} {p q r : Nat} {rp rq rr : List Nat}
end
end Tri
set_option linter.all false
set_option maxHeartbeats 1000000
namespace Tri
open Cyc
section
variable {L : Rows} {p q r s : Nat} {rp rq rr rs : List Nat}
end
end Tri
set_option linter.all false
namespace Tri
open Cyc
def prevB (row : List Nat) (p : Nat) : Option Nat := if row.idxOf p = 0 then row.getLast? else row[row.idxOf p - 1]?
theorem prev_nx {row : List Nat} {p v : Nat} (nd : row.Nodup) (hp : p ∈ row) (h : prevB row p = some v) : Nx row v p := by
  obtain ⟨A, B, rfl, hA, hB⟩ := split_first hp nd
  unfold prevB at h
  rw [idx_split hA] at h
  by_cases h0 : A.length = 0
  · have : A = [] := List.length_eq_zero_iff.mp h0
    subst this
    rw [if_pos h0, List.nil_append] at h
    show Adj (p :: B ++ [p]) v p
    have e : p :: B = (p :: B).dropLast ++ [v] := by
      rw [List.getLast?_eq_some_getLast (List.cons_ne_nil p B)] at h
      rw [← Option.some.inj h]
      exact (List.dropLast_concat_getLast (List.cons_ne_nil p B)).symm
    rw [e, List.append_assoc]
    exact (adj_app _ v [p] v p).mpr (.inr (.inl ⟨rfl, rfl⟩))
  · rw [if_neg h0] at h
    rw [List.getElem?_append_left (by omega)] at h
    have ne : A ≠ [] := fun z => h0 (by rw [z]; rfl)
    have e : A = A.dropLast ++ [v] := by
      have z : A.getLast? = some v := by rw [List.getLast?_eq_getElem?]; exact h
      rw [List.getLast?_eq_some_getLast ne] at z
      rw [← Option.some.inj z]
      exact (List.dropLast_concat_getLast ne).symm
    rw [e, List.append_assoc]
    rw [nx_rot]
    show Nx (v :: (p :: B) ++ A.dropLast) v p
    exact .inl ⟨rfl, rfl⟩
theorem prev_ex {row : List Nat} {p : Nat} (hp : p ∈ row) : ∃ v, prevB row p = some v := by
  have hl := List.idxOf_lt_length_of_mem hp
  unfold prevB
  split
  · have ne : row ≠ [] := fun z => by rw [z] at hp; cases hp
    exact ⟨_, List.getLast?_eq_some_getLast ne⟩
  · exact ⟨_, List.getElem?_eq_getElem (show row.idxOf p - 1 < row.length by omega)⟩
end Tri
set_option linter.all false
set_option maxHeartbeats 1000000
namespace Rnd
open Cyc Tri
section
variable {α : Type} [DecidableEq α]
def it (f : α → α) : Nat → α → α
  | 0, x => x
  | n + 1, x => f (it f n x)
theorem it_add (f : α → α) (m n : Nat) (x : α) : it f (m + n) x = it f m (it f n x) := by
  induction m with
  | zero => rw [Nat.zero_add]; rfl
  | succ m ih => rw [Nat.succ_add]; show f _ = f _; rw [ih]
structure Perm (f : α → α) (S : List α) : Prop where
  to : ∀ x, x ∈ S → f x ∈ S
  one : ∀ x y, x ∈ S → y ∈ S → f x = f y → x = y
theorem Perm.it {f : α → α} {S : List α} (h : Perm f S) (n : Nat) {x : α} (hx : x ∈ S) : it f n x ∈ S := by
  induction n with
  | zero => exact hx
  | succ n ih => exact h.to _ ih
theorem Perm.back {f : α → α} {S : List α} (h : Perm f S) (n : Nat) {x y : α} (hx : x ∈ S) (hy : y ∈ S) (e : Rnd.it f n x = Rnd.it f n y) : x = y := by
  induction n with
  | zero => exact e
  | succ n ih => exact ih (h.one _ _ (h.it n hx) (h.it n hy) e)
theorem map_nodup {f : Nat → α} : ∀ (n : Nat), (∀ i j, i < j → j < n → f i ≠ f j) → ((List.range n).map f).Nodup
  | 0, _ => by simp
  | n + 1, h => by
    rw [List.range_succ, List.map_append, List.nodup_append]
    refine ⟨map_nodup n fun i j a b => h i j a (by omega), by simp, fun a ha b hb => ?_⟩
    obtain ⟨i, hi, rfl⟩ := List.mem_map.mp ha
    have : b = f n := by simpa using hb
    subst this
    exact h i n (List.mem_range.mp hi) (by omega)
theorem Perm.comes {f : α → α} {S : List α} (h : Perm f S) {x : α} (hx : x ∈ S) : ∃ k, 0 < k ∧ k ≤ S.length ∧ Rnd.it f k x = x ∧ ∀ j, 0 < j → j < k → Rnd.it f j x ≠ x := by
  have some : ∃ k, 0 < k ∧ k ≤ S.length ∧ Rnd.it f k x = x := by
    refine Classical.byContradiction fun no => ?_
    have nd : ((List.range (S.length + 1)).map fun i => Rnd.it f i x).Nodup := map_nodup _ fun i j hij hj e => by
      refine no ⟨j - i, by omega, by omega, ?_⟩
      have e2 : Rnd.it f i (Rnd.it f (j - i) x) = Rnd.it f i x := by
        rw [← it_add, show i + (j - i) = j by omega]; exact e.symm
      exact h.back i (h.it _ hx) hx e2
    have le := List.Nodup.length_le_of_subset nd (l₂ := S) fun y hy => by
      obtain ⟨i, _, rfl⟩ := List.mem_map.mp hy
      exact h.it i hx
    rw [List.length_map, List.length_range] at le
    omega
  obtain ⟨k0, p0, l0, e0⟩ := some
  have least : ∀ n, (∃ k, 0 < k ∧ k ≤ n ∧ Rnd.it f k x = x) → ∃ k, 0 < k ∧ k ≤ n ∧ Rnd.it f k x = x ∧ ∀ j, 0 < j → j < k → Rnd.it f j x ≠ x := fun n => by
    induction n with
    | zero => rintro ⟨k, a, b, _⟩; omega
    | succ n ih =>
      intro hk
      by_cases c : ∃ k, 0 < k ∧ k ≤ n ∧ Rnd.it f k x = x
      · obtain ⟨k, a, b, e, m⟩ := ih c
        exact ⟨k, a, by omega, e, m⟩
      · obtain ⟨k, a, b, e⟩ := hk
        refine ⟨k, a, b, e, fun j j0 jk ej => c ⟨j, j0, by omega, ej⟩⟩
  exact least S.length ⟨k0, p0, l0, e0⟩
theorem Perm.round_nodup {f : α → α} {S : List α} (h : Perm f S) {x : α} (hx : x ∈ S) {k : Nat} (m : ∀ j, 0 < j → j < k → Rnd.it f j x ≠ x) : ((List.range k).map fun i => Rnd.it f i x).Nodup := map_nodup _ fun i j hij hj e => by
  refine m (j - i) (by omega) (by omega) ?_
  have e2 : Rnd.it f i (Rnd.it f (j - i) x) = Rnd.it f i x := by
    rw [← it_add, show i + (j - i) = j by omega]; exact e.symm
  exact h.back i (h.it _ hx) hx e2
end
def stepsL (W : Rows) : List (Nat × Nat) := (List.range W.length).flatMap fun p => (W.getD p []).map fun q => (p, q)
theorem mem_steps {W : Rows} {p q : Nat} : (p, q) ∈ stepsL W ↔ E W p q := by
  unfold stepsL E
  rw [List.mem_flatMap]
  constructor
  · rintro ⟨p', hp, h⟩
    obtain ⟨q', hq, e⟩ := List.mem_map.mp h
    cases e
    have hl := List.mem_range.mp hp
    refine ⟨W[p], List.getElem?_eq_getElem hl, ?_⟩
    simpa [List.getD_eq_getElem?_getD, hl] using hq
  · rintro ⟨row, e, h⟩
    have hl := (List.getElem?_eq_some_iff.mp e).1
    refine ⟨p, List.mem_range.mpr hl, List.mem_map.mpr ⟨q, ?_, rfl⟩⟩
    rw [List.getD_eq_getElem?_getD, e]
    exact h
def nxt (W : Rows) (s : Nat × Nat) : Nat × Nat := (s.2, (prevB (W.getD s.2 []) s.1).getD 0)
theorem prev_mem {row : List Nat} {p v : Nat} (nd : row.Nodup) (hp : p ∈ row) (h : prevB row p = some v) : v ∈ row := (nx_mem (prev_nx nd hp h)).1
theorem nxt_perm {W : Rows} (nd : ∀ (p : Nat) (row : List Nat), W[p]? = some row → row.Nodup) (sym : ∀ a b, E W a b → E W b a) : Perm (nxt W) (stepsL W) := by
  have look : ∀ p q, (p, q) ∈ stepsL W → ∃ row v, W[q]? = some row ∧ p ∈ row ∧ prevB row p = some v ∧ nxt W (p, q) = (q, v) ∧ Nx row v p := fun p q h => by
    obtain ⟨row, e, m⟩ := sym p q (mem_steps.mp h)
    obtain ⟨v, hv⟩ := prev_ex m
    refine ⟨row, v, e, m, hv, ?_, prev_nx (nd q row e) m hv⟩
    unfold nxt
    rw [List.getD_eq_getElem?_getD, e]
    show (q, (prevB row p).getD 0) = (q, v)
    rw [hv]
    rfl
  refine ⟨fun s h => ?_, fun s t hs ht e => ?_⟩
  · obtain ⟨p, q⟩ := s
    obtain ⟨row, v, e1, e2, e3, e4, e5⟩ := look p q h
    rw [e4]
    exact mem_steps.mpr ⟨row, e1, (nx_mem e5).1⟩
  · obtain ⟨p, q⟩ := s
    obtain ⟨p', q'⟩ := t
    obtain ⟨row, v, e1, e2, e3, e4, e5⟩ := look p q hs
    obtain ⟨row', v', f1, f2, f3, f4, f5⟩ := look p' q' ht
    rw [e4, f4] at e
    have eq : q = q' := congrArg Prod.fst e
    have ev : v = v' := congrArg Prod.snd e
    subst eq ev
    rw [e1] at f1
    cases f1
    rw [nx_right (nd q row e1) e5 f5]
end Rnd
set_option linter.all false
namespace Tri
section
variable {R R' : Nat → Nat → Nat → Prop} {N N' K : Nat → Nat → Prop} {inP : Nat → Prop} {f l w : Nat}
structure Put (R R' : Nat → Nat → Nat → Prop) (N N' K : Nat → Nat → Prop) (inP : Nat → Prop) (f l w : Nat) : Prop where
  n' : ∀ a b, N' a b ↔ (a = f ∧ b = w) ∨ (a = w ∧ b = l) ∨ (N a b ∧ (¬ inP a ∨ a = l))
  r' : ∀ q a b, R' q a b ↔ (q = w ∧ (K a b ∨ (a = l ∧ b = f))) ∨ (inP q ∧ N q a ∧ b = w) ∨ (inP q ∧ a = w ∧ N b q) ∨ (R q a b ∧ ¬ (inP q ∧ N q a))
  fl : f ≠ l
  pf : inP f
  pl : inP l
  k : ∀ a b, K a b → N a b ∧ inP a ∧ inP b ∧ a ≠ l ∧ b ≠ f
  ka : ∀ a b, inP a → a ≠ l → N a b → K a b
  kb : ∀ a b, inP b → b ≠ f → N a b → K a b
  nf : ∀ a b, N a b → a ≠ w ∧ b ≠ w
  rf : ∀ q a b, R q a b → q ≠ w ∧ a ≠ w ∧ b ≠ w
  wP : ¬ inP w
  n1 : ∀ a b b', N a b → N a b' → b = b'
  n2 : ∀ a a' b, N a b → N a' b → a = a'
  ex : ∀ a, inP a → ∃ b, N b a
theorem Put.out (h : Put R R' N N' K inP f l w) (out : ∀ q a b, N q a → N b q → R q a b) : ∀ q a b, N' q a → N' b q → R' q a b := by
  intro q a b h1 h2
  rw [h.n'] at h1 h2
  rw [h.r']
  rcases h1 with ⟨rfl, rfl⟩ | ⟨rfl, rfl⟩ | ⟨h1, h3⟩
  · rcases h2 with ⟨_, e⟩ | ⟨_, e⟩ | ⟨h2, _⟩
    · exact absurd (e ▸ h.pf) h.wP
    · exact absurd e h.fl
    · exact .inr (.inr (.inl ⟨h.pf, rfl, h2⟩))
  · rcases h2 with ⟨rfl, _⟩ | ⟨_, e⟩ | ⟨h2, _⟩
    · exact .inl ⟨rfl, .inr ⟨rfl, rfl⟩⟩
    · exact absurd (e ▸ h.pl) h.wP
    · exact absurd rfl (h.nf _ _ h2).2
  · rcases h2 with ⟨_, e⟩ | ⟨rfl, rfl⟩ | ⟨h2, h4⟩
    · exact absurd e (h.nf _ _ h1).1
    · exact .inr (.inl ⟨h.pl, h1, rfl⟩)
    · rcases h3 with h3 | rfl
      · exact .inr (.inr (.inr ⟨out _ _ _ h1 h2, fun z => h3 z.1⟩))
      · obtain ⟨_, k1, _, k2, _⟩ := h.k _ _ (h.kb _ _ h.pl h.fl.symm h2)
        rcases h4 with h4 | h4
        · exact absurd k1 h4
        · exact absurd h4 k2
theorem Put.tri (h : Put R R' N N' K inP f l w) (tri : ∀ q a b, R q a b → ¬ N q a → R a b q ∧ ¬ N a b) : ∀ q a b, R' q a b → ¬ N' q a → R' a b q ∧ ¬ N' a b := by
  intro q a b h1 h2
  rw [h.n'] at h2 ⊢
  rw [h.r'] at h1 ⊢
  have fw : f ≠ w := fun e => h.wP (e ▸ h.pf)
  have lw : l ≠ w := fun e => h.wP (e ▸ h.pl)
  rcases h1 with ⟨rfl, h1 | ⟨rfl, rfl⟩⟩ | ⟨h1, h3, rfl⟩ | ⟨h1, rfl, h3⟩ | ⟨h1, h3⟩
  · obtain ⟨k1, k2, k3, k4, k5⟩ := h.k _ _ h1
    refine ⟨.inr (.inl ⟨k2, k1, rfl⟩), ?_⟩
    rintro (⟨rfl, e⟩ | ⟨e, _⟩ | ⟨_, e | e⟩)
    · exact (h.nf _ _ k1).2 e
    · exact (h.nf _ _ k1).1 e
    · exact e k2
    · exact k4 e
  · exact absurd (.inr (.inl ⟨rfl, rfl⟩)) h2
  · have ql : q ≠ l := fun e => h2 (.inr (.inr ⟨h3, .inr e⟩))
    obtain ⟨k1, k2, k3, k4, k5⟩ := h.k _ _ (h.ka _ _ h1 ql h3)
    refine ⟨.inr (.inr (.inl ⟨k3, rfl, h3⟩)), ?_⟩
    rintro (⟨e, _⟩ | ⟨e, _⟩ | ⟨e, _⟩)
    · exact k5 e
    · exact (h.nf _ _ h3).2 e
    · exact (h.nf _ _ e).2 rfl
  · have qf : q ≠ f := fun e => h2 (.inl ⟨e, rfl⟩)
    have kk := h.kb _ _ h1 qf h3
    obtain ⟨k1, k2, k3, k4, k5⟩ := h.k _ _ kk
    refine ⟨.inl ⟨rfl, .inl kk⟩, ?_⟩
    rintro (⟨e, _⟩ | ⟨_, e⟩ | ⟨e, _⟩)
    · exact fw e.symm
    · exact k4 e
    · exact (h.nf _ _ e).1 rfl
  · obtain ⟨r1, r2, r3⟩ := h.rf _ _ _ h1
    have nn : ¬ N q a := fun e => by
      by_cases p : inP q
      · exact h3 ⟨p, e⟩
      · exact h2 (.inr (.inr ⟨e, .inl p⟩))
    obtain ⟨t1, t2⟩ := tri _ _ _ h1 nn
    refine ⟨.inr (.inr (.inr ⟨t1, fun z => t2 z.2⟩)), ?_⟩
    rintro (⟨_, e⟩ | ⟨e, _⟩ | ⟨e, _⟩)
    · exact r3 e
    · exact r2 e
    · exact t2 e
end
end Tri
set_option linter.all false
namespace Tri
open Cyc
section
variable {A M C : List Nat} {f l w : Nat}
theorem nxP (M : List Nat) (f l a b : Nat) : Nx (f :: M ++ [l]) a b ↔ Adj (f :: M ++ [l]) a b ∨ (a = l ∧ b = f) := by
  show Adj (f :: M ++ [l] ++ [f]) a b ↔ _
  rw [show f :: M ++ [l] ++ [f] = (f :: M) ++ l :: [f] by simp, adj_app]
  simp only [Adj, or_false]
theorem nxO (a b : Nat) : Nx (A ++ (f :: M ++ [l]) ++ C) a b ↔ Adj (f :: M ++ [l]) a b ∨ Adj (l :: (C ++ A) ++ [f]) a b := by
  rw [show A ++ (f :: M ++ [l]) ++ C = A ++ (f :: M ++ l :: C) by simp, nx_rot]
  show Adj (f :: M ++ l :: C ++ A ++ [f]) a b ↔ _
  rw [show f :: M ++ l :: C ++ A ++ [f] = (f :: M) ++ l :: (C ++ A ++ [f]) by simp, adj_app]
  rw [show l :: (C ++ A) ++ [f] = l :: (C ++ A ++ [f]) by simp]
theorem nxO' (a b : Nat) : Nx (A ++ [f, w, l] ++ C) a b ↔ (a = f ∧ b = w) ∨ (a = w ∧ b = l) ∨ Adj (l :: (C ++ A) ++ [f]) a b := by
  rw [show A ++ [f, w, l] ++ C = A ++ (f :: w :: l :: C) by simp, nx_rot]
  show Adj (f :: w :: l :: C ++ A ++ [f]) a b ↔ _
  rw [show f :: w :: l :: C ++ A ++ [f] = f :: w :: l :: (C ++ A ++ [f]) by simp, adj_two, adj_two]
  rw [show l :: (C ++ A) ++ [f] = l :: (C ++ A ++ [f]) by simp]
structure Str (A M C : List Nat) (f l w : Nat) : Prop where
  nd : (A ++ (f :: M ++ [l]) ++ C).Nodup
  fr : w ∉ A ++ (f :: M ++ [l]) ++ C
theorem Str.facts (h : Str A M C f l w) : f ≠ l ∧ f ∉ M ∧ l ∉ M ∧ (∀ x, x ∈ C ++ A → x ≠ f ∧ x ≠ l ∧ x ∉ M) ∧ f ≠ w ∧ l ≠ w ∧ w ∉ M ∧ w ∉ C ++ A := by
  have n1 := (List.nodup_append.mp h.nd).1
  have d1 := (List.nodup_append.mp h.nd).2.2
  have n2 := (List.nodup_append.mp n1).2.1
  have d2 := (List.nodup_append.mp n1).2.2
  have n3 := (List.nodup_append.mp n2).1
  have d3 := (List.nodup_append.mp n2).2.2
  have fr := h.fr
  have mf : f ∈ f :: M ++ [l] := List.mem_append_left _ List.mem_cons_self
  have ml : l ∈ f :: M ++ [l] := List.mem_append_right _ (List.mem_singleton.mpr rfl)
  have mM : ∀ {x}, x ∈ M → x ∈ f :: M ++ [l] := fun z => List.mem_append_left _ (List.mem_cons_of_mem _ z)
  have up : ∀ {x}, x ∈ f :: M ++ [l] → x ∈ A ++ (f :: M ++ [l]) := fun z => List.mem_append_right _ z
  have no : ∀ {x}, x ∈ f :: M ++ [l] → x ≠ w := fun z e => fr (e ▸ List.mem_append_left _ (up z))
  have ap : ∀ {x y}, x ∈ C ++ A → y ∈ f :: M ++ [l] → x ≠ y := fun hx hy e => (List.mem_append.mp hx).elim (fun c => d1 _ (up hy) _ c e.symm) fun a => d2 _ a _ hy e
  exact ⟨d3 _ List.mem_cons_self _ (List.mem_singleton.mpr rfl), (List.nodup_cons.mp n3).1, fun z => d3 _ (List.mem_cons_of_mem _ z) _ (List.mem_singleton.mpr rfl) rfl,
    fun x hx => ⟨ap hx mf, ap hx ml, fun z => ap hx (mM z) rfl⟩, no mf, no ml, fun z => no (mM z) rfl,
    fun z => fr ((List.mem_append.mp z).elim (fun c => List.mem_append_right _ c) fun a => List.mem_append_left _ (List.mem_append_left _ a))⟩
theorem Str.j (h : Str A M C f l w) {a b : Nat} (j : Adj (l :: (C ++ A) ++ [f]) a b) : (a = l ∨ a ∈ C ++ A) ∧ (b = f ∨ b ∈ C ++ A) := by
  obtain ⟨h1, h2, h3, h4, h5, h6, h7, h8⟩ := h.facts
  have m := adj_mem j
  have ne := adj_last_ne (R := l :: (C ++ A)) (v := f) (by simp only [List.mem_cons, not_or]; exact ⟨h1, fun z => (h4 _ z).1 rfl⟩) j
  simp only [List.cons_append, List.mem_cons, List.mem_append, List.mem_singleton, List.tail_cons, List.not_mem_nil, or_false] at m ⊢
  grind
theorem Str.kk (h : Str A M C f l w) {a b : Nat} (k : Adj (f :: M ++ [l]) a b) : a ∈ f :: M ++ [l] ∧ b ∈ f :: M ++ [l] ∧ a ≠ l ∧ b ≠ f := by
  obtain ⟨h1, h2, h3, h4, h5, h6, h7, h8⟩ := h.facts
  have m := adj_mem k
  have ne := adj_last_ne (R := f :: M) (v := l) (by simp only [List.mem_cons, not_or]; exact ⟨fun e => h1 e.symm, h3⟩) k
  refine ⟨m.1, List.mem_of_mem_tail m.2, ne, fun e => ?_⟩
  have := m.2
  simp only [List.cons_append, List.tail_cons, List.mem_append, List.mem_singleton] at this
  grind
theorem Str.put {R R' : Nat → Nat → Nat → Prop} (h : Str A M C f l w) (rf : ∀ q a b, R q a b → q ≠ w ∧ a ≠ w ∧ b ≠ w)
    (r' : ∀ q a b, R' q a b ↔ (q = w ∧ (Adj (f :: M ++ [l]) a b ∨ (a = l ∧ b = f))) ∨ (q ∈ f :: M ++ [l] ∧ Nx (A ++ (f :: M ++ [l]) ++ C) q a ∧ b = w) ∨ (q ∈ f :: M ++ [l] ∧ a = w ∧ Nx (A ++ (f :: M ++ [l]) ++ C) b q) ∨ (R q a b ∧ ¬ (q ∈ f :: M ++ [l] ∧ Nx (A ++ (f :: M ++ [l]) ++ C) q a))) :
    Put R R' (Nx (A ++ (f :: M ++ [l]) ++ C)) (Nx (A ++ [f, w, l] ++ C)) (Adj (f :: M ++ [l])) (· ∈ f :: M ++ [l]) f l w := by
  obtain ⟨h1, h2, h3, h4, h5, h6, h7, h8⟩ := h.facts
  have inB : ∀ x, x ∈ C ++ A → x ∉ f :: M ++ [l] := fun x hx z => by
    obtain ⟨z1, z2, z3⟩ := h4 x hx
    simp only [List.cons_append, List.mem_cons, List.mem_append, List.mem_singleton, List.not_mem_nil, or_false] at z
    grind
  refine ⟨fun a b => ?_, r', h1, by simp, by simp, fun a b k => ?_, fun a b pa al n => ?_, fun a b pb bf n => ?_, fun a b n => ?_, rf, fun z => h.fr (List.mem_append_left _ (List.mem_append_right _ z)), fun a b b' n n' => nx_right h.nd n n', fun a a' b n n' => nx_left h.nd n n', fun a pa => nx_ex (List.mem_append_left _ (List.mem_append_right _ pa))⟩
  · rw [nxO', nxO]
    constructor
    · rintro (z | z | z)
      · exact .inl z
      · exact .inr (.inl z)
      · refine .inr (.inr ⟨.inr z, ?_⟩)
        rcases (h.j z).1 with e | e
        · exact .inr e
        · exact .inl (inB _ e)
    · rintro (z | z | ⟨z | z, e⟩)
      · exact .inl z
      · exact .inr (.inl z)
      · obtain ⟨k1, k2, k3, k4⟩ := h.kk z
        rcases e with e | e
        · exact absurd k1 e
        · exact absurd e k3
      · exact .inr (.inr z)
  · obtain ⟨k1, k2, k3, k4⟩ := h.kk k
    exact ⟨(nxO a b).mpr (.inl k), k1, k2, k3, k4⟩
  · rcases (nxO a b).mp n with z | z
    · exact z
    · rcases (h.j z).1 with e | e
      · exact absurd e al
      · exact absurd pa (inB _ e)
  · rcases (nxO a b).mp n with z | z
    · exact z
    · rcases (h.j z).2 with e | e
      · exact absurd e bf
      · exact absurd pb (inB _ e)
  · have m := nx_mem n
    exact ⟨fun e => h.fr (e ▸ m.1), fun e => h.fr (e ▸ m.2)⟩
end
end Tri
set_option linter.all false
set_option maxHeartbeats 1000000
namespace Tri
open Cyc
structure Half (L : Rows) (O : List Nat) : Prop where
  ne : ∀ (p : Nat) (row : List Nat), L[p]? = some row → row ≠ []
  nd : ∀ (p : Nat) (row : List Nat), L[p]? = some row → row.Nodup
  rng : ∀ (p : Nat) (row : List Nat) (a : Nat), L[p]? = some row → a ∈ row → a < L.length ∧ a ≠ p
  ond : O.Nodup
  orng : ∀ x, x ∈ O → x < L.length
  tri : ∀ q a b, R L q a b → ¬ Nx O q a → R L a b q ∧ ¬ Nx O a b
  out : ∀ q a b, Nx O q a → Nx O b q → R L q a b
  con : ∀ p, p < L.length → Reach L 0 p
  tot : (L.map List.length).sum + 2 * O.length + 6 = 6 * L.length
structure NewRows (L L2 : Rows) (O P : List Nat) (w : Nat) : Prop where
  len : L2.length = L.length
  off : ∀ x, x ∉ P → L2[x]? = L[x]?
  on : ∀ x, x ∈ P → ∃ row row2 y, L[x]? = some row ∧ L2[x]? = some row2 ∧ Nx O x y ∧ row2.Perm (w :: row) ∧ ∀ a b, Nx row2 a b ↔ Nx (insB row y w) a b
  sum : (L2.map List.length).sum = (L.map List.length).sum + P.length
section
variable {L L2 : Rows} {A M C : List Nat} {f l : Nat}
theorem half_r1 {O : List Nat} (H : Half L O) {q a b b' : Nat} (h : R L q a b) (h' : R L q a b') : b = b' := by
  obtain ⟨row, e, n⟩ := h
  obtain ⟨row', e', n'⟩ := h'
  rw [e] at e'; cases e'
  exact nx_right (H.nd _ _ e) n n'
theorem half_str (H : Half L (A ++ (f :: M ++ [l]) ++ C)) : Str A M C f l L.length :=
  ⟨H.ond, fun z => Nat.lt_irrefl _ (H.orng _ z)⟩
theorem half_rf {O : List Nat} (H : Half L O) (q a b : Nat) (h : R L q a b) : q ≠ L.length ∧ a ≠ L.length ∧ b ≠ L.length := by
  obtain ⟨row, e, n⟩ := h
  have m := nx_mem n
  have h1 := (H.rng _ _ _ e m.1).1
  have h2 := (H.rng _ _ _ e m.2).1
  have h3 := (List.getElem?_eq_some_iff.mp e).1
  omega
theorem new_r (H : Half L (A ++ (f :: M ++ [l]) ++ C)) (W : NewRows L L2 (A ++ (f :: M ++ [l]) ++ C) (f :: M ++ [l]) L.length) (q a b : Nat) :
    R (L2 ++ [f :: M ++ [l]]) q a b ↔ (q = L.length ∧ (Adj (f :: M ++ [l]) a b ∨ (a = l ∧ b = f))) ∨ (q ∈ f :: M ++ [l] ∧ Nx (A ++ (f :: M ++ [l]) ++ C) q a ∧ b = L.length) ∨ (q ∈ f :: M ++ [l] ∧ a = L.length ∧ Nx (A ++ (f :: M ++ [l]) ++ C) b q) ∨ (R L q a b ∧ ¬ (q ∈ f :: M ++ [l] ∧ Nx (A ++ (f :: M ++ [l]) ++ C) q a)) := by
  rw [r_app, W.len, nxP]
  have hlt : ∀ x, x ∈ f :: M ++ [l] → x < L.length := fun x hx => H.orng x (List.mem_append_left _ (List.mem_append_right _ hx))
  by_cases hq : q ∈ f :: M ++ [l]
  · obtain ⟨row, row2, y, e, e2, ny, pm, hn⟩ := W.on q hq
    have qw : q ≠ L.length := Nat.ne_of_lt (hlt q hq)
    obtain ⟨z, nz⟩ := nx_ex (row := A ++ (f :: M ++ [l]) ++ C) (b := q) (List.mem_append_left _ (List.mem_append_right _ hq))
    obtain ⟨row', e', nyz⟩ := H.out q y z ny nz
    rw [e] at e'; cases e'
    have hw : L.length ∉ row := fun m => Nat.lt_irrefl _ (H.rng _ _ _ e m).1
    have hR : R L2 q a b ↔ Nx row2 a b := ⟨fun ⟨r, x, n⟩ => by rw [e2] at x; cases x; exact n, fun n => ⟨row2, e2, n⟩⟩
    have hR0 : R L q a b ↔ Nx row a b := ⟨fun ⟨r, x, n⟩ => by rw [e] at x; cases x; exact n, fun n => ⟨row, e, n⟩⟩
    rw [hR, hn, nx_insB (nx_mem nyz).1 (H.nd _ _ e) hw, hR0]
    have c1 : Nx (A ++ (f :: M ++ [l]) ++ C) q a ↔ a = y := ⟨fun n => nx_right H.ond n ny, fun e => e ▸ ny⟩
    have c2 : Nx (A ++ (f :: M ++ [l]) ++ C) b q ↔ b = z := ⟨fun n => nx_left H.ond n nz, fun e => e ▸ nz⟩
    have c3 : Nx row y b ↔ b = z := ⟨fun n => nx_right (H.nd _ _ e) n nyz, fun e => e ▸ nyz⟩
    rw [c1, c2, c3]
    grind
  · have hR : R L2 q a b ↔ R L q a b := by unfold R; rw [W.off q hq]
    rw [hR]
    constructor
    · rintro (h | h)
      · exact .inr (.inr (.inr ⟨h, fun z => hq z.1⟩))
      · exact .inl h
    · rintro (h | ⟨h, _⟩ | ⟨h, _⟩ | ⟨h, _⟩)
      · exact .inr h
      · exact absurd h hq
      · exact absurd h hq
      · exact .inl h
theorem new_e (W : NewRows L L2 (A ++ (f :: M ++ [l]) ++ C) (f :: M ++ [l]) L.length) (x b : Nat) (h : E L x b) : E (L2 ++ [f :: M ++ [l]]) x b := by
  obtain ⟨row, e, m⟩ := h
  refine e_left ?_
  by_cases hq : x ∈ f :: M ++ [l]
  · obtain ⟨row', row2, y, e', e2, ny, pm, hn⟩ := W.on x hq
    rw [e] at e'; cases e'
    exact ⟨row2, e2, pm.mem_iff.mpr (List.mem_cons_of_mem _ m)⟩
  · exact ⟨row, by rw [W.off x hq]; exact e, m⟩
theorem put_half (H : Half L (A ++ (f :: M ++ [l]) ++ C)) (W : NewRows L L2 (A ++ (f :: M ++ [l]) ++ C) (f :: M ++ [l]) L.length) :
    Half (L2 ++ [f :: M ++ [l]]) (A ++ [f, L.length, l] ++ C) := by
  have S := half_str H
  have P := S.put (half_rf H) (new_r H W)
  have hlt : ∀ x, x ∈ f :: M ++ [l] → x < L.length := fun x hx => H.orng x (List.mem_append_left _ (List.mem_append_right _ hx))
  obtain ⟨h1, h2, h3, h4, h5, h6, h7, h8⟩ := S.facts
  have nd := H.ond
  have get : ∀ p row, (L2 ++ [f :: M ++ [l]])[p]? = some row → (p = L.length ∧ row = f :: M ++ [l]) ∨ (p < L.length ∧ L2[p]? = some row) := fun p row e => by
    rcases Nat.lt_or_ge p L2.length with h | h
    · rw [List.getElem?_append_left h] at e
      exact .inr ⟨W.len ▸ h, e⟩
    · rw [List.getElem?_append_right h] at e
      rcases Nat.eq_zero_or_pos (p - L2.length) with z | z
      · rw [z] at e
        simp at e
        exact .inl ⟨by have := W.len; omega, by rw [← e]; simp⟩
      · rw [List.getElem?_eq_none (by simp; omega)] at e
        cases e
  have old : ∀ p row, L2[p]? = some row → ∃ r0, L[p]? = some r0 ∧ (row = r0 ∨ (p ∈ f :: M ++ [l] ∧ row.Perm (L.length :: r0))) := fun p row e => by
    by_cases hq : p ∈ f :: M ++ [l]
    · obtain ⟨r0, row2, y, e', e2, ny, pm, hn⟩ := W.on p hq
      rw [e] at e2; cases e2
      exact ⟨r0, e', .inr ⟨hq, pm⟩⟩
    · rw [W.off p hq] at e
      exact ⟨row, e, .inl rfl⟩
  have pnd : (f :: M ++ [l]).Nodup := (List.nodup_append.mp (List.nodup_append.mp nd).1).2.1
  have len : (L2 ++ [f :: M ++ [l]]).length = L.length + 1 := by simp [W.len]
  refine ⟨fun p row e => ?_, fun p row e => ?_, fun p row a e m => ?_, ?_, fun x hx => ?_, P.tri H.tri, P.out H.out, fun p hp => ?_, ?_⟩
  · rcases get p row e with ⟨_, rfl⟩ | ⟨_, e⟩
    · simp
    · obtain ⟨r0, e0, rfl | ⟨_, pm⟩⟩ := old p row e
      · exact H.ne _ _ e0
      · intro z; subst z; exact absurd pm.length_eq (by simp)
  · rcases get p row e with ⟨_, rfl⟩ | ⟨_, e⟩
    · exact pnd
    · obtain ⟨r0, e0, rfl | ⟨_, pm⟩⟩ := old p row e
      · exact H.nd _ _ e0
      · exact pm.nodup_iff.mpr (List.nodup_cons.mpr ⟨fun m => Nat.lt_irrefl _ (H.rng _ _ _ e0 m).1, H.nd _ _ e0⟩)
  · rw [len]
    rcases get p row e with ⟨rfl, rfl⟩ | ⟨hp, e⟩
    · have := hlt a m; omega
    · obtain ⟨r0, e0, rfl | ⟨_, pm⟩⟩ := old p row e
      · have := H.rng _ _ _ e0 m; omega
      · rcases List.mem_cons.mp (pm.mem_iff.mp m) with rfl | m
        · omega
        · have := H.rng _ _ _ e0 m; omega
  · have fr := S.fr
    simp only [List.nodup_append, List.nodup_cons, List.mem_append, List.mem_cons, List.mem_singleton, List.not_mem_nil, or_false, List.cons_append, not_or, List.nil_append] at nd fr ⊢
    grind
  · rw [len]
    have : x = L.length ∨ x ∈ A ++ (f :: M ++ [l]) ++ C := by
      simp only [List.mem_append, List.mem_cons, List.mem_singleton, List.not_mem_nil, or_false, List.cons_append] at hx ⊢
      grind
    rcases this with rfl | z
    · omega
    · have := H.orng _ z; omega
  · rw [len] at hp
    by_cases z : p < L.length
    · exact (H.con p z).by fun a b e => .more (.here _) (new_e W a b e)
    · have e : p = L.length := by omega
      subst e
      have r1 := (H.con f (hlt f (by simp))).by (L' := L2 ++ [f :: M ++ [l]]) fun a b e => .more (.here _) (new_e W a b e)
      refine .more r1 ?_
      have := (new_r H W f (P.ex f (by simp)).choose L.length)
      obtain ⟨row, row2, y, e, e2, ny, pm, hn⟩ := W.on f (by simp)
      exact e_left ⟨row2, e2, pm.mem_iff.mpr List.mem_cons_self⟩
  · have t := H.tot
    have s := W.sum
    simp only [List.map_append, List.sum_append, List.map_cons, List.map_nil, List.sum_cons, List.sum_nil, List.length_append, List.length_cons, List.length_nil, W.len, List.cons_append] at t s ⊢
    omega
theorem half_good {m : Nat} (H : Half L [f, m, l]) (h3 : 3 ≤ L.length) : Good L := by
  refine ⟨h3, H.ne, H.nd, H.rng, fun q a b h => ?_, H.con, ?_⟩
  · by_cases n : Nx [f, m, l] q a
    · have mm := (nx_mem n).1
      have hb : ∃ b', Nx [f, m, l] b' q := nx_ex mm
      obtain ⟨b', nb⟩ := hb
      have e := half_r1 H h (H.out _ _ _ n nb)
      subst e
      refine H.out _ _ _ ?_ n
      rw [nx3] at n nb ⊢
      have nd := H.ond
      simp only [List.nodup_cons, List.mem_cons, List.not_mem_nil, or_false, not_or] at nd
      grind
    · exact (H.tri _ _ _ h n).1
  · have := H.tot
    simp only [List.length_cons, List.length_nil] at this
    omega
end
end Tri
set_option linter.all false
set_option maxHeartbeats 1000000
namespace Tri
open Cyc
def insF (row : List Nat) (u w : Nat) : List Nat := row.take (row.idxOf u) ++ w :: row.drop (row.idxOf u)
theorem insF_eq {A B : List Nat} {u w : Nat} (h : u ∉ A) : insF (A ++ u :: B) u w = A ++ w :: u :: B := by
  unfold insF
  rw [idx_split h, List.take_left' rfl, List.drop_left' rfl]
theorem insF_perm (row : List Nat) (u w : Nat) : (insF row u w).Perm (w :: row) := by
  unfold insF
  have := List.perm_middle (a := w) (l₁ := row.take (row.idxOf u)) (l₂ := row.drop (row.idxOf u))
  rwa [List.take_append_drop] at this
theorem insB_perm (row : List Nat) (v w : Nat) : (insB row v w).Perm (w :: row) := by
  unfold insB
  have := List.perm_middle (a := w) (l₁ := row.take (row.idxOf v + 1)) (l₂ := row.drop (row.idxOf v + 1))
  rwa [List.take_append_drop] at this
theorem nx_insF {row : List Nat} {u v w : Nat} (nd : row.Nodup) (h : Nx row v u) (a b : Nat) : Nx (insF row u w) a b ↔ Nx (insB row v w) a b := by
  obtain ⟨A, B, rfl, hA, hB⟩ := split_first (nx_mem h).2 nd
  rw [insF_eq hA]
  rcases List.eq_nil_or_concat A with rfl | ⟨A', v', rfl⟩
  · rcases List.eq_nil_or_concat (u :: B) with e | ⟨D, v', e⟩
    · cases e
    · have e' : u :: B = D ++ [v'] := by rw [e]; simp
      simp only [List.nil_append] at h nd ⊢
      have n : Nx (u :: B) v' u := by
        show Adj (u :: B ++ [u]) v' u
        rw [e', show D ++ [v'] ++ [u] = D ++ v' :: [u] by simp, adj_app]
        exact .inr (.inl ⟨rfl, rfl⟩)
      have ev := nx_left nd h n
      subst ev
      have hv : v ∉ D := fun z => by
        rw [e'] at nd
        exact (List.nodup_append.mp nd).2.2 v z v (by simp) rfl
      have ei : insB (u :: B) v w = u :: B ++ [w] := by rw [e', insB_eq hv]; simp
      rw [ei]
      exact nx_rot [w] (u :: B) a b
  · have e1 : A'.concat v' ++ u :: B = A' ++ v' :: (u :: B) := by simp
    have e2 : A'.concat v' ++ w :: u :: B = A' ++ v' :: w :: (u :: B) := by simp
    rw [e1] at nd h ⊢
    rw [e2]
    have n : Nx (A' ++ v' :: (u :: B)) v' u := by
      rw [nx_rot]
      exact .inl ⟨rfl, rfl⟩
    have ev := nx_left nd h n
    subst ev
    have hv : v ∉ A' := fun z => (List.nodup_append.mp nd).2.2 v z v (by simp) rfl
    rw [insB_eq hv]
def putF (w : Nat) : Rows → List Nat → Rows
  | L, x :: y :: r => putF w (L.set x (insB (L.getD x []) y w)) (y :: r)
  | L, _ => L
theorem putF_all (w : Nat) : ∀ (P : List Nat) (L : Rows), P.Nodup → (∀ x, x ∈ P → x < L.length) →
    (putF w L P).length = L.length ∧ (∀ x y, Adj P x y → (putF w L P)[x]? = some (insB (L.getD x []) y w)) ∧ (∀ x, (∀ y, ¬ Adj P x y) → (putF w L P)[x]? = L[x]?) ∧
    ((putF w L P).map List.length).sum = (L.map List.length).sum + (P.length - 1)
  | [], L, _, _ => ⟨rfl, fun _ _ h => h.elim, fun _ _ => rfl, rfl⟩
  | [x], L, _, _ => ⟨rfl, fun _ _ h => h.elim, fun _ _ => rfl, rfl⟩
  | x :: y :: r, L, nd, rng => by
    obtain ⟨nx, nd'⟩ := List.nodup_cons.mp nd
    have hx : x < L.length := rng x List.mem_cons_self
    obtain ⟨h1, h2, h3, h4⟩ := putF_all w (y :: r) (L.set x (insB (L.getD x []) y w)) nd' (fun z hz => by rw [List.length_set]; exact rng z (List.mem_cons_of_mem _ hz))
    have ne : ∀ z, Adj (y :: r) x z → False := fun z h => nx (adj_mem h).1
    refine ⟨by show (putF w _ (y :: r)).length = _; rw [h1, List.length_set], fun a b h => ?_, fun a h => ?_, ?_⟩
    · show (putF w _ (y :: r))[a]? = _
      rcases h with ⟨rfl, rfl⟩ | h
      · rw [h3 _ (fun z hz => ne z hz), List.getElem?_set_self hx]
      · have ax : a ≠ x := fun e => ne b (e ▸ h)
        rw [h2 a b h]
        simp only [List.getD_eq_getElem?_getD]
        rw [List.getElem?_set_ne (Ne.symm ax)]
    · show (putF w _ (y :: r))[a]? = _
      have ax : a ≠ x := fun e => h y (.inl ⟨e, rfl⟩)
      rw [h3 a (fun z hz => h z (.inr hz)), List.getElem?_set_ne (Ne.symm ax)]
    · show ((putF w _ (y :: r)).map List.length).sum = _
      rw [h4]
      have g : L[x]? = some (L.getD x []) := by rw [List.getD_eq_getElem?_getD, List.getElem?_eq_getElem hx]; rfl
      have s := sum_set L x (L.getD x []) (insB (L.getD x []) y w) g
      have p := (insB_perm (L.getD x []) y w).length_eq
      simp only [List.length_cons] at p ⊢
      omega
def putL (L : Rows) (P : List Nat) (w u l : Nat) : Rows := (putF w L P).set l (insF ((putF w L P).getD l []) u w)
section
variable {L : Rows} {A M C : List Nat} {f l u : Nat}
theorem adj_some : ∀ {P : List Nat} {l x : Nat}, x ∈ P → ∃ y, Adj (P ++ [l]) x y
  | [z], l, x, h => ⟨l, .inl ⟨by simpa using h, rfl⟩⟩
  | z :: z' :: r, l, x, h => by
    rcases List.mem_cons.mp h with e | h
    · exact ⟨z', .inl ⟨e, rfl⟩⟩
    · obtain ⟨y, hy⟩ := adj_some (l := l) h
      exact ⟨y, .inr hy⟩
theorem put_new (H : Half L (A ++ (f :: M ++ [l]) ++ C)) (hu : Adj (f :: M ++ [l]) u l) :
    NewRows L (putL L (f :: M ++ [l]) L.length u l) (A ++ (f :: M ++ [l]) ++ C) (f :: M ++ [l]) L.length := by
  have S := half_str H
  have nd := H.ond
  have pnd : (f :: M ++ [l]).Nodup := (List.nodup_append.mp (List.nodup_append.mp nd).1).2.1
  have hO : ∀ x, x ∈ f :: M ++ [l] → x ∈ A ++ (f :: M ++ [l]) ++ C := fun x hx => List.mem_append_left _ (List.mem_append_right _ hx)
  have hlt : ∀ x, x ∈ f :: M ++ [l] → x < L.length := fun x hx => H.orng x (hO x hx)
  obtain ⟨h1, h2, h3, h4⟩ := putF_all L.length (f :: M ++ [l]) L pnd hlt
  have hl : l < L.length := hlt l (by simp)
  have nl : ∀ y, ¬ Adj (f :: M ++ [l]) l y := fun y h => (S.kk h).2.2.1 rfl
  have gl := h3 l nl
  have g : ∀ x, x < L.length → L[x]? = some (L.getD x []) := fun x hx => by rw [List.getD_eq_getElem?_getD, List.getElem?_eq_getElem hx]; rfl
  have el : (putF L.length L (f :: M ++ [l])).getD l [] = L.getD l [] := by rw [List.getD_eq_getElem?_getD, gl, ← List.getD_eq_getElem?_getD]
  unfold putL
  rw [el]
  refine ⟨by rw [List.length_set, h1], fun x hx => ?_, fun x hx => ?_, ?_⟩
  · have xl : x ≠ l := fun e => hx (e ▸ by simp)
    rw [List.getElem?_set_ne (Ne.symm xl)]
    exact h3 x fun y h => hx (S.kk h).1
  · by_cases xl : x = l
    · subst xl
      obtain ⟨y, ny⟩ := nx_ex' (row := A ++ (f :: M ++ [x]) ++ C) (hO x hx)
      obtain ⟨row, e, n⟩ := H.out x y u ny ((nxO u x).mpr (.inl hu))
      rw [g x hl] at e
      injection e with e
      rw [← e] at n
      refine ⟨_, _, y, g x hl, List.getElem?_set_self (by rw [h1]; exact hl), ny, insF_perm _ _ _, fun a b => nx_insF (H.nd _ _ (g x hl)) n a b⟩
    · have hx' : x ∈ f :: M := by
        rcases List.mem_append.mp hx with z | z
        · exact z
        · exact absurd (by simpa using z) xl
      obtain ⟨y, hy⟩ := adj_some (l := l) hx'
      exact ⟨_, _, y, g x (hlt x hx), by rw [List.getElem?_set_ne (Ne.symm xl)]; exact h2 x y hy, (nxO x y).mpr (.inl hy), insB_perm _ _ _, fun a b => Iff.rfl⟩
  · have s := sum_set (putF L.length L (f :: M ++ [l])) l (L.getD l []) (insF (L.getD l []) u L.length) (by rw [gl]; exact g l hl)
    have p := (insF_perm (L.getD l []) u L.length).length_eq
    have pl : (f :: M ++ [l]).length = M.length + 2 := by simp
    rw [pl] at h4 ⊢
    rw [List.length_cons] at p
    omega
theorem put_half' (H : Half L (A ++ (f :: M ++ [l]) ++ C)) (hu : Adj (f :: M ++ [l]) u l) : Half (putL L (f :: M ++ [l]) L.length u l ++ [f :: M ++ [l]]) (A ++ [f, L.length, l] ++ C) := put_half H (put_new H hu)
theorem half_first : Half [[1], [0]] [0, 1] := by
  have g : ∀ p row, ([[1], [0]] : Rows)[p]? = some row → (p = 0 ∧ row = [1]) ∨ (p = 1 ∧ row = [0]) := fun p row e => by
    match p with
    | 0 => simp at e; exact .inl ⟨rfl, e.symm⟩
    | 1 => simp at e; exact .inr ⟨rfl, e.symm⟩
    | p + 2 => simp at e
  have nx1 : ∀ x a b, Nx [x] a b ↔ a = x ∧ b = x := fun x a b => by show ((a = x ∧ b = x) ∨ False) ↔ _; simp
  have nx2 : ∀ a b, Nx [0, 1] a b ↔ (a = 0 ∧ b = 1) ∨ (a = 1 ∧ b = 0) := fun a b => by show ((a = 0 ∧ b = 1) ∨ (a = 1 ∧ b = 0) ∨ False) ↔ _; simp
  refine ⟨fun p row e => ?_, fun p row e => ?_, fun p row a e m => ?_, by decide, fun x hx => ?_, fun q a b h n => ?_, fun q a b h h' => ?_, fun p hp => ?_, by decide⟩
  · rcases g p row e with ⟨_, rfl⟩ | ⟨_, rfl⟩ <;> simp
  · rcases g p row e with ⟨_, rfl⟩ | ⟨_, rfl⟩ <;> simp
  · rcases g p row e with ⟨rfl, rfl⟩ | ⟨rfl, rfl⟩ <;> simp at m <;> subst m <;> simp
  · simp at hx ⊢; omega
  · obtain ⟨row, e, h⟩ := h
    rw [nx2] at n
    rcases g q row e with ⟨rfl, rfl⟩ | ⟨rfl, rfl⟩ <;> rw [nx1] at h <;> exact absurd (by simp [h.1]) n
  · rw [nx2] at h h'
    rcases h with ⟨rfl, rfl⟩ | ⟨rfl, rfl⟩
    · exact ⟨[1], rfl, (nx1 _ _ _).mpr ⟨rfl, by omega⟩⟩
    · exact ⟨[0], rfl, (nx1 _ _ _).mpr ⟨rfl, by omega⟩⟩
  · match p, hp with
    | 0, _ => exact .here _
    | 1, _ => exact .more (.here _) ⟨[1], rfl, by simp⟩
    | p + 2, hp => simp at hp; omega
end
end Tri
set_option linter.all false
set_option maxHeartbeats 1000000
namespace Tri
open Cyc Rnd
section
variable {W : Rows}
theorem prev_of {row : List Nat} {p v : Nat} (nd : row.Nodup) (h : Nx row v p) : prevB row p = some v := by
  obtain ⟨u, hu⟩ := prev_ex (nx_mem h).2
  rw [hu, nx_left nd h (prev_nx nd (nx_mem h).2 hu)]
theorem nxt_of (nd : ∀ (p : Nat) (row : List Nat), W[p]? = some row → row.Nodup) {p q v : Nat} (h : R W q v p) : nxt W (p, q) = (q, v) := by
  obtain ⟨row, e, n⟩ := h
  unfold nxt
  rw [List.getD_eq_getElem?_getD, e]
  show (q, (prevB row p).getD 0) = (q, v)
  rw [prev_of (nd q row e) n]
  rfl
theorem steps_nodup (nd : ∀ (p : Nat) (row : List Nat), W[p]? = some row → row.Nodup) : (stepsL W).Nodup := by
  unfold stepsL
  rw [List.nodup_iff_pairwise_ne, List.pairwise_flatMap]
  refine ⟨fun p hp => ?_, ?_⟩
  · have hl := List.mem_range.mp hp
    have e : W[p]? = some (W.getD p []) := by rw [List.getD_eq_getElem?_getD, List.getElem?_eq_getElem hl]; rfl
    have n := nd p _ e
    refine List.Pairwise.map _ (fun x y (z : x ≠ y) e => z (congrArg Prod.snd e)) n
  · refine List.nodup_range.imp fun {p q} hpq => ?_
    intro x hx y hy e
    obtain ⟨_, _, rfl⟩ := List.mem_map.mp hx
    obtain ⟨_, _, rfl⟩ := List.mem_map.mp hy
    exact hpq (congrArg Prod.fst e)
theorem steps_len_aux : ∀ (W : Rows) , (stepsL W).length = (W.map List.length).sum := by
  intro W
  unfold stepsL
  rw [List.length_flatMap]
  congr 1
  refine List.ext_getElem (by simp) fun i h1 h2 => ?_
  simp at h1 h2
  simp [List.getD_eq_getElem?_getD, h1]
end
end Tri
set_option linter.all false
set_option maxHeartbeats 1000000
namespace Tri
open Cyc Rnd
structure Ren (L W : Rows) (ns : List Nat) : Prop where
  perm : ns.Perm (List.range L.length)
  len : W.length = L.length
  at' : ∀ (p : Nat) (row : List Nat), L[p]? = some row → ∃ n A B, ns[p]? = some n ∧ row.map (fun q => ns.getD q 0) = A ++ B ∧ W[n]? = some (B ++ A)
section
variable {L W : Rows} {ns : List Nat}
theorem Ren.nlen (h : Ren L W ns) : ns.length = L.length := by rw [h.perm.length_eq, List.length_range]
theorem Ren.get (h : Ren L W ns) {p : Nat} (hp : p < L.length) : ns[p]? = some (ns.getD p 0) := by
  rw [List.getD_eq_getElem?_getD, List.getElem?_eq_getElem (by rw [h.nlen]; exact hp)]
  rfl
theorem Ren.lt (h : Ren L W ns) {p : Nat} (hp : p < L.length) : ns.getD p 0 < L.length := List.mem_range.mp (h.perm.mem_iff.mp (List.mem_of_getElem? (h.get hp)))
theorem Ren.inj (h : Ren L W ns) {p q : Nat} (hp : p < L.length) (hq : q < L.length) (e : ns.getD p 0 = ns.getD q 0) : p = q := by
  have nd : ns.Nodup := h.perm.nodup_iff.mpr List.nodup_range
  have h1 := h.get hp
  have h2 := h.get hq
  rw [e, ← h2] at h1
  exact (List.getElem?_inj (by rw [h.nlen]; exact hp) nd).mp h1
theorem Ren.sur (h : Ren L W ns) {x : Nat} (hx : x < L.length) : ∃ p, p < L.length ∧ ns.getD p 0 = x := by
  obtain ⟨p, hp, e⟩ := List.getElem_of_mem (h.perm.mem_iff.mpr (List.mem_range.mpr hx))
  rw [h.nlen] at hp
  refine ⟨p, hp, ?_⟩
  rw [List.getD_eq_getElem?_getD, List.getElem?_eq_getElem (by rw [h.nlen]; exact hp), e]
  rfl
theorem Ren.row (h : Ren L W ns) {x : Nat} {row' : List Nat} (e : W[x]? = some row') : ∃ p row, p < L.length ∧ L[p]? = some row ∧ x = ns.getD p 0 ∧ row'.Perm (row.map fun q => ns.getD q 0) ∧ ∀ a b, Nx row' a b ↔ Nx (row.map fun q => ns.getD q 0) a b := by
  have hx : x < L.length := by rw [← h.len]; exact (List.getElem?_eq_some_iff.mp e).1
  obtain ⟨p, hp, rfl⟩ := h.sur hx
  obtain ⟨n, A, B, e1, e2, e3⟩ := h.at' p _ (List.getElem?_eq_getElem hp)
  rw [h.get hp] at e1
  cases e1
  rw [e] at e3
  cases e3
  refine ⟨p, _, hp, List.getElem?_eq_getElem hp, rfl, ?_, fun a b => ?_⟩
  · rw [e2]; exact List.perm_append_comm
  · rw [e2]; exact nx_rot B A a b
theorem Ren.to (h : Ren L W ns) {p : Nat} {row : List Nat} (e : L[p]? = some row) : ∃ row', W[ns.getD p 0]? = some row' ∧ row'.Perm (row.map fun q => ns.getD q 0) ∧ ∀ a b, Nx row' a b ↔ Nx (row.map fun q => ns.getD q 0) a b := by
  have hp := (List.getElem?_eq_some_iff.mp e).1
  obtain ⟨n, A, B, e1, e2, e3⟩ := h.at' p _ e
  rw [h.get hp] at e1
  cases e1
  exact ⟨_, e3, by rw [e2]; exact List.perm_append_comm, fun a b => by rw [e2]; exact nx_rot B A a b⟩
theorem Ren.e_to (h : Ren L W ns) {a b : Nat} (r : E L a b) : E W (ns.getD a 0) (ns.getD b 0) := by
  obtain ⟨row, e, m⟩ := r
  obtain ⟨row', e', pm, _⟩ := h.to e
  exact ⟨row', e', pm.mem_iff.mpr (List.mem_map.mpr ⟨b, m, rfl⟩)⟩
theorem Ren.e_of (h : Ren L W ns) {a b : Nat} (r : E W a b) : ∃ x y, E L x y ∧ a = ns.getD x 0 ∧ b = ns.getD y 0 := by
  obtain ⟨row', e', m⟩ := r
  obtain ⟨p, row, hp, e, rfl, pm, _⟩ := h.row e'
  obtain ⟨y, my, rfl⟩ := List.mem_map.mp (pm.mem_iff.mp m)
  exact ⟨p, y, ⟨row, e, my⟩, rfl, rfl⟩
end
end Tri
set_option linter.all false
set_option maxHeartbeats 1000000
namespace Tri
open Cyc Rnd
def Ro (r r' : List Nat) : Prop := ∃ A B, r = A ++ B ∧ r' = B ++ A
theorem Ro.refl (r : List Nat) : Ro r r := ⟨r, [], by simp, by simp⟩
theorem Ro.perm {r r' : List Nat} : Ro r r' → r.Perm r' := by
  rintro ⟨A, B, rfl, rfl⟩
  exact List.perm_append_comm
theorem Ro.mem {r r' : List Nat} (h : Ro r r') (x : Nat) : x ∈ r ↔ x ∈ r' := h.perm.mem_iff
def rot (row : List Nat) (M : Nat) : List Nat := row.drop (row.idxOf M) ++ row.take (row.idxOf M)
theorem era_filter {r : List Nat} {q : Nat} (nd : r.Nodup) (h : q ∈ r) : eraB r q = r.filter fun x => x != q := by
  obtain ⟨A, B, rfl⟩ := split_of h
  have n1 : q ∉ A := fun z => by
    rw [List.nodup_append] at nd
    exact nd.2.2 q z q (by simp) rfl
  have n2 : q ∉ B := fun z => by
    have := (List.nodup_append.mp nd).2.1
    rw [List.nodup_cons] at this
    exact this.1 z
  rw [eraB_eq n1, List.filter_append, List.filter_cons]
  have k : ∀ X : List Nat, q ∉ X → X.filter (fun x => x != q) = X := fun X hX => List.filter_eq_self.mpr fun x hx => by
    simp only [bne_iff_ne, ne_eq]
    exact fun z => hX (z ▸ hx)
  rw [k A n1, k B n2]
  simp
end Tri
set_option linter.all false
set_option maxHeartbeats 1000000
namespace Tri
open Cyc Rnd
structure Nb (L : Rows) : Prop where
  nd : ∀ (p : Nat) (row : List Nat), L[p]? = some row → row.Nodup
  rng : ∀ (p : Nat) (row : List Nat) (a : Nat), L[p]? = some row → a ∈ row → a < L.length ∧ a ≠ p
  sym : ∀ a b, E L a b → E L b a
structure Wb (L : Rows) : Prop extends Nb L where
  three : 3 ≤ L.length
  con : ∀ p, p < L.length → Reach L 0 p
theorem Nb.e {L : Rows} (S : Nb L) {p q : Nat} (h : E L p q) : p < L.length ∧ q < L.length ∧ q ≠ p := by
  obtain ⟨row, e, m⟩ := h
  exact ⟨(List.getElem?_eq_some_iff.mp e).1, (S.rng p row q e m).1, (S.rng p row q e m).2⟩
theorem Nb.len {L : Rows} (S : Nb L) {p : Nat} {row : List Nat} (h : L[p]? = some row) : row.length ≤ L.length := by
  have := List.Nodup.length_le_of_subset (S.nd p row h) (l₂ := List.range L.length) fun x hx => List.mem_range.mpr (S.rng p row x h hx).1
  rwa [List.length_range] at this
theorem Wb.of {L : Rows} (G : Good L) : Wb L := ⟨⟨G.nd, G.rng, fun a b h => G.sym h⟩, G.three, G.con⟩
def set2 (L : Rows) (p q : Nat) (a b : List Nat) : Rows := (L.set p a).set q b
theorem set2_len (L : Rows) (p q : Nat) (a b : List Nat) : (set2 L p q a b).length = L.length := by simp [set2]
theorem set2_at {L : Rows} {p q : Nat} {a b : List Nat} (hp : p < L.length) (hq : q < L.length) (pq : p ≠ q) (x : Nat) : (set2 L p q a b)[x]? = if x = q then some b else if x = p then some a else L[x]? := by
  unfold set2
  by_cases h1 : x = q
  · subst h1
    rw [List.getElem?_set_self (by rw [List.length_set]; exact hq), if_pos rfl]
  · rw [List.getElem?_set_ne (fun z => h1 z.symm), if_neg h1]
    by_cases h2 : x = p
    · subst h2
      rw [List.getElem?_set_self hp, if_pos rfl]
    · rw [List.getElem?_set_ne (fun z => h2 z.symm), if_neg h2]
theorem set2_e {L : Rows} (S : Nb L) {p q : Nat} {rp rq a b : List Nat} {c : Prop} (hp : L[p]? = some rp) (hq : L[q]? = some rq) (pq : p ≠ q) (ha : ∀ x, x ∈ a ↔ (x ∈ rp ∧ x ≠ q) ∨ (x = q ∧ c)) (hb : ∀ x, x ∈ b ↔ (x ∈ rq ∧ x ≠ p) ∨ (x = p ∧ c)) (x y : Nat) :
    E (set2 L p q a b) x y ↔ (E L x y ∧ ¬ (x = p ∧ y = q) ∧ ¬ (x = q ∧ y = p)) ∨ (c ∧ ((x = p ∧ y = q) ∨ (x = q ∧ y = p))) := by
  have lp : p < L.length := (List.getElem?_eq_some_iff.mp hp).1
  have lq : q < L.length := (List.getElem?_eq_some_iff.mp hq).1
  have at' := set2_at (a := a) (b := b) lp lq pq x
  constructor
  · rintro ⟨row, e, m⟩
    rw [at'] at e
    by_cases h1 : x = q
    · rw [if_pos h1] at e
      cases e
      rcases (hb y).mp m with ⟨m, n⟩ | ⟨z, hc⟩
      · exact .inl ⟨⟨rq, by rw [h1]; exact hq, m⟩, fun z => pq (z.1.symm.trans h1), fun z => n z.2⟩
      · exact .inr ⟨hc, .inr ⟨h1, z⟩⟩
    · rw [if_neg h1] at e
      by_cases h2 : x = p
      · rw [if_pos h2] at e
        cases e
        rcases (ha y).mp m with ⟨m, n⟩ | ⟨z, hc⟩
        · exact .inl ⟨⟨rp, by rw [h2]; exact hp, m⟩, fun z => n z.2, fun z => h1 z.1⟩
        · exact .inr ⟨hc, .inl ⟨h2, z⟩⟩
      · rw [if_neg h2] at e
        exact .inl ⟨⟨row, e, m⟩, fun z => h2 z.1, fun z => h1 z.1⟩
  · intro h
    by_cases h1 : x = q
    · rw [if_pos h1] at at'
      refine ⟨b, at', (hb y).mpr ?_⟩
      rcases h with ⟨⟨row, e, m⟩, n1, n2⟩ | ⟨hc, ⟨z, _⟩ | ⟨_, z⟩⟩
      · rw [h1, hq] at e
        cases e
        exact .inl ⟨m, fun z => n2 ⟨h1, z⟩⟩
      · exact absurd (z.symm.trans h1) pq
      · exact .inr ⟨z, hc⟩
    · rw [if_neg h1] at at'
      by_cases h2 : x = p
      · rw [if_pos h2] at at'
        refine ⟨a, at', (ha y).mpr ?_⟩
        rcases h with ⟨⟨row, e, m⟩, n1, n2⟩ | ⟨hc, ⟨_, z⟩ | ⟨z, _⟩⟩
        · rw [h2, hp] at e
          cases e
          exact .inl ⟨m, fun z => n1 ⟨h2, z⟩⟩
        · exact .inr ⟨z, hc⟩
        · exact absurd z h1
      · rw [if_neg h2] at at'
        rcases h with ⟨⟨row, e, m⟩, n1, n2⟩ | ⟨hc, ⟨z, _⟩ | ⟨z, _⟩⟩
        · exact ⟨row, at'.trans e, m⟩
        · exact absurd z h2
        · exact absurd z h1
theorem set2_nb {L : Rows} (S : Nb L) {p q : Nat} {rp rq a b : List Nat} {c : Prop} (hp : L[p]? = some rp) (hq : L[q]? = some rq) (pq : p ≠ q) (ha : ∀ x, x ∈ a ↔ (x ∈ rp ∧ x ≠ q) ∨ (x = q ∧ c)) (hb : ∀ x, x ∈ b ↔ (x ∈ rq ∧ x ≠ p) ∨ (x = p ∧ c)) (na : a.Nodup) (nb : b.Nodup) :
    Nb (set2 L p q a b) := by
  have lp : p < L.length := (List.getElem?_eq_some_iff.mp hp).1
  have lq : q < L.length := (List.getElem?_eq_some_iff.mp hq).1
  have ee := set2_e S hp hq pq ha hb
  refine ⟨fun x row e => ?_, fun x row y e m => ?_, fun x y h => ?_⟩
  · rw [set2_at lp lq pq] at e
    split at e
    · cases e; exact nb
    · split at e
      · cases e; exact na
      · exact S.nd x row e
  · rw [set2_len]
    rcases (ee x y).mp ⟨row, e, m⟩ with ⟨h, _⟩ | ⟨_, ⟨rfl, rfl⟩ | ⟨rfl, rfl⟩⟩
    · exact ⟨(S.e h).2.1, (S.e h).2.2⟩
    · exact ⟨lq, pq.symm⟩
    · exact ⟨lp, pq⟩
  · rcases (ee x y).mp h with ⟨h, n1, n2⟩ | ⟨hc, z⟩
    · exact (ee y x).mpr (.inl ⟨S.sym _ _ h, fun z => n2 ⟨z.2, z.1⟩, fun z => n1 ⟨z.2, z.1⟩⟩)
    · refine (ee y x).mpr (.inr ⟨hc, ?_⟩)
      rcases z with ⟨h1, h2⟩ | ⟨h1, h2⟩
      · exact .inr ⟨h2, h1⟩
      · exact .inl ⟨h2, h1⟩
end Tri
set_option linter.all false
set_option maxHeartbeats 1000000
namespace Tri
open Cyc Rnd
theorem out_iff {r a : List Nat} {q : Nat} (h : Ro (r.filter fun x => x != q) a) (x : Nat) : x ∈ a ↔ (x ∈ r ∧ x ≠ q) ∨ (x = q ∧ False) := by
  rw [← h.mem, List.mem_filter]
  simp
end Tri
set_option linter.all false
set_option maxHeartbeats 1000000
namespace Tri
open Cyc Rnd
theorem step_r {W : Rows} (S : Nb W) {x y : Nat} (h : E W x y) : ∃ z, R W y z x ∧ nxt W (x, y) = (y, z) ∧ E W y z := by
  obtain ⟨row, e, m⟩ := S.sym _ _ h
  obtain ⟨z, n⟩ := nx_ex m
  exact ⟨z, ⟨row, e, n⟩, nxt_of S.nd ⟨row, e, n⟩, ⟨row, e, (nx_mem n).1⟩⟩
theorem it_step {W : Rows} (S : Nb W) {x y : Nat} (h : E W x y) (n : Nat) : E W (it (nxt W) n (x, y)).1 (it (nxt W) n (x, y)).2 := by
  have := (nxt_perm S.nd S.sym).it n (mem_steps.mpr h)
  exact mem_steps.mp this
theorem it_mul {α : Type} [DecidableEq α] (f : α → α) (x : α) {k : Nat} (h : it f k x = x) (n : Nat) : it f (k * n) x = x := by
  induction n with
  | zero => rfl
  | succ n ih => rw [Nat.mul_succ, it_add, h, ih]
theorem it_mod {α : Type} [DecidableEq α] (f : α → α) (x : α) {k : Nat} (h : it f k x = x) (n : Nat) : it f n x = it f (n % k) x := by
  conv => lhs; rw [← Nat.mod_add_div n k]
  rw [it_add, it_mul f x h]
end Tri
set_option linter.all false
set_option maxHeartbeats 1000000
namespace Tri
open Cyc Rnd
end Tri
set_option linter.all false
set_option maxHeartbeats 1000000
local macro_rules | `(tactic| walk_at "sort_open gallop") => `(tactic| delta $(Lean.mkIdent (Lean.mkPrivateNameCore `PySem.Builtin.List.W1All `PySem.Builtin.gallop)):ident)
namespace Srt
set_option autoImplicit false
open PySem PyProof.Rows
def gallop' : Bool → Keyed → Array Keyed → Nat → Nat → Nat → StateT SortSt Sem (Option Nat) := sortPriv% PySem.Builtin.gallop
def beyond' (left : Bool) (key : Keyed) (arr : Array Keyed) (base : Nat) (i : Nat) : StateT SortSt Sem (Option Bool) := do
  let x ← elem' arr (base + i)
  if left then lt' x key else return (← lt' key x).map (!·)
section
variable {M : Model} {A : Around} {E : Value → Shared → Prop} {s : Shared}
def gTail (left : Bool) (key : Keyed) (arr : Array Keyed) (base n lo0 hi0 : Nat) : StateT SortSt Sem (Option Nat) := do
  let mut lo := lo0
  let mut hi := hi0
  for _ in [0:n] do
    if lo ≥ hi then break
    let m := lo + (hi - lo) / 2
    let some more ← beyond' left key arr base m | return none
    if more then lo := m + 1 else hi := m
  return some hi
variable {left : Bool} {key : Keyed} {arr : Array Keyed} {base n hint : Nat} {Q : Option Nat → SortSt → Prop} {st : SortSt}
theorem wpS_gTail (b : Nat → Bool) {lo hi : Nat}
    (hb : ∀ i, i < n → ∀ Q : Option Bool → SortSt → Prop, Q (some (b i)) st → wpS M A E s (beyond' left key arr base i) Q st)
    (mono : ∀ i j, i ≤ j → j < n → b j = true → b i = true) (hlh : lo ≤ hi) (hn : hi ≤ n) (h1 : ∀ i, i < lo → b i = true) (h2 : ∀ i, hi ≤ i → i < n → b i = false)
    (h : ∀ k, k ≤ n → (∀ i, i < k → b i = true) → (∀ i, k ≤ i → i < n → b i = false) → Q (some k) st) : wpS M A E s (gTail left key arr base n lo hi) Q st := by
  unfold gTail
  refine wpS_bind (wpS_mono (wpS_forRange (I := fun x c st' => st' = st ∧ ∃ l r, c = (none, l, r) ∧ l ≤ r ∧ r ≤ n ∧ r - l ≤ n - x ∧ (∀ i, i < l → b i = true) ∧ ∀ i, r ≤ i → i < n → b i = false)
    (Q := fun c st' => st' = st ∧ ∃ l, c = (none, l, l) ∧ l ≤ n ∧ (∀ i, i < l → b i = true) ∧ ∀ i, l ≤ i → i < n → b i = false) ?step ?fin ⟨rfl, lo, hi, rfl, hlh, hn, by omega, h1, h2⟩) ?post)
  case post =>
    rintro c st' ⟨rfl, l, rfl, ln, a1, a2⟩
    exact wpS_pure (h l ln a1 a2)
  case fin =>
    rintro c st' ⟨rfl, l, r, rfl, lr, rn, d, a1, a2⟩
    have : l = r := by omega
    subst this
    exact ⟨rfl, l, rfl, rn, a1, a2⟩
  case step =>
    rintro x c st' _ hx ⟨rfl, l, r, rfl, lr, rn, d, a1, a2⟩
    dsimp only
    by_cases hge : l ≥ r
    · rw [if_pos hge]
      have : l = r := by omega
      subst this
      exact wpS_pure ⟨rfl, l, rfl, rn, a1, a2⟩
    · rw [if_neg hge]
      refine wpS_bind (hb _ (by omega) _ ?_)
      cases e : b (l + (r - l) / 2)
      case true =>
        simp only [if_true]
        exact wpS_pure ⟨rfl, _, r, rfl, by omega, rn, by omega, fun i hi => mono i _ (by omega) (by omega) e, a2⟩
      case false =>
        simp only [Bool.false_eq_true, if_false]
        refine wpS_pure ⟨rfl, l, _, rfl, by omega, by omega, by omega, a1, fun i i1 i2 => ?_⟩
        cases z : b i with
        | false => rfl
        | true => rw [mono _ i i1 i2 z] at e; cases e
theorem wpS_gallop (b : Nat → Bool)
    (hb : ∀ i, i < n → ∀ Q : Option Bool → SortSt → Prop, Q (some (b i)) st → wpS M A E s (beyond' left key arr base i) Q st)
    (mono : ∀ i j, i ≤ j → j < n → b j = true → b i = true) (hh : hint < n)
    (h : ∀ k, k ≤ n → (∀ i, i < k → b i = true) → (∀ i, k ≤ i → i < n → b i = false) → Q (some k) st) : wpS M A E s (gallop' left key arr base n hint) Q st := by
  unfold gallop'
  walk_at "sort_open gallop"
  dsimp only
  have nf : ∀ {i j : Nat}, i ≤ j → j < n → b i = false → b j = false := fun {i j} h1 h2 e => by
    cases z : b j with
    | false => rfl
    | true => rw [mono i j h1 h2 z] at e; cases e
  refine wpS_bind (hb hint hh _ ?_)
  cases e : b hint
  case true =>
    simp only [if_true]
    refine wpS_bind (wpS_mono (wpS_forRange (I := fun x c st' => st' = st ∧ ∃ l o, c = (none, l, o) ∧ l < o ∧ x + 1 ≤ o ∧ hint + l < n ∧ b (hint + l) = true)
      (Q := fun c st' => st' = st ∧ ∃ l o, c = (none, l, o) ∧ l < o ∧ hint + l < n ∧ b (hint + l) = true ∧ (n - hint ≤ o ∨ (hint + o < n ∧ b (hint + o) = false))) ?step ?fin ⟨rfl, 0, 1, rfl, by omega, by omega, by omega, e⟩) ?post)
    case fin =>
      rintro c st' ⟨rfl, l, o, rfl, lo, xo, ln, bl⟩
      exact ⟨rfl, l, o, rfl, lo, ln, bl, .inl (by omega)⟩
    case step =>
      rintro x c st' _ hx ⟨rfl, l, o, rfl, lo, xo, ln, bl⟩
      dsimp only
      by_cases hge : o ≥ n - hint
      · rw [if_pos hge]
        exact wpS_pure ⟨rfl, l, o, rfl, lo, ln, bl, .inl hge⟩
      · rw [if_neg hge]
        refine wpS_bind (hb _ (by omega) _ ?_)
        cases z : b (hint + o)
        case true =>
          simp only [Bool.not_true, Bool.false_eq_true, if_false]
          exact wpS_pure ⟨rfl, o, _, rfl, by omega, by omega, by omega, z⟩
        case false =>
          simp only [Bool.not_false, if_true]
          exact wpS_pure ⟨rfl, l, o, rfl, lo, ln, bl, .inr ⟨by omega, z⟩⟩
    case post =>
      rintro c st' ⟨rfl, l, o, rfl, lo, ln, bl, bo⟩
      refine wpS_gTail (lo := hint + l + 1) (hi := hint + min o (n - hint)) b hb mono (by omega) (by omega) (fun i hi => mono i (hint + l) (by omega) ln bl) (fun i i1 i2 => ?_) h
      rcases bo with z | ⟨z1, z2⟩
      · omega
      · exact nf (i := hint + o) (by omega) i2 z2
  case false =>
    simp only [Bool.false_eq_true, if_false]
    refine wpS_bind (wpS_mono (wpS_forRange (I := fun x c st' => st' = st ∧ ∃ l o, c = (none, l, o) ∧ l < o ∧ x + 1 ≤ o ∧ l ≤ hint ∧ b (hint - l) = false)
      (Q := fun c st' => st' = st ∧ ∃ l o, c = (none, l, o) ∧ l < o ∧ l ≤ hint ∧ b (hint - l) = false ∧ (hint + 1 ≤ o ∨ (o ≤ hint ∧ b (hint - o) = true))) ?step ?fin ⟨rfl, 0, 1, rfl, by omega, by omega, by omega, e⟩) ?post)
    case fin =>
      rintro c st' ⟨rfl, l, o, rfl, lo, xo, ln, bl⟩
      exact ⟨rfl, l, o, rfl, lo, ln, bl, .inl (by omega)⟩
    case step =>
      rintro x c st' _ hx ⟨rfl, l, o, rfl, lo, xo, ln, bl⟩
      dsimp only
      by_cases hge : o ≥ hint + 1
      · rw [if_pos hge]
        exact wpS_pure ⟨rfl, l, o, rfl, lo, ln, bl, .inl hge⟩
      · rw [if_neg hge]
        refine wpS_bind (hb _ (by omega) _ ?_)
        cases z : b (hint - o)
        case false =>
          simp only [Bool.false_eq_true, if_false]
          exact wpS_pure ⟨rfl, o, _, rfl, by omega, by omega, by omega, z⟩
        case true =>
          simp only [if_true]
          exact wpS_pure ⟨rfl, l, o, rfl, lo, ln, bl, .inr ⟨by omega, z⟩⟩
    case post =>
      rintro c st' ⟨rfl, l, o, rfl, lo, ln, bl, bo⟩
      refine wpS_gTail (lo := hint + 1 - min o (hint + 1)) (hi := hint - l) b hb mono (by omega) (by omega) (fun i hi => ?_) (fun i i1 i2 => nf (i := hint - l) i1 i2 bl) h
      rcases bo with z | ⟨z1, z2⟩
      · omega
      · exact mono i (hint - o) (by omega) (by omega) z2
end
end Srt
set_option linter.all false
set_option maxHeartbeats 1000000
namespace Srt
set_option autoImplicit false
open PySem PyProof.Rows
section
variable {α : Type}
structure Wk (lb : α → α → Bool) : Prop where
  irr : ∀ a, lb a a = false
  neg : ∀ a b c, lb a c = true → lb a b = true ∨ lb b c = true
  tr : ∀ a b c, lb a b = true → lb b c = true → lb a c = true
variable {lb : α → α → Bool}
def le (lb : α → α → Bool) (a b : α) : Prop := lb b a = false
theorem Wk.refl (W : Wk lb) (a : α) : le lb a a := W.irr a
theorem Wk.of_lt (W : Wk lb) {a b : α} (h : lb a b = true) : le lb a b := by
  unfold le
  cases e : lb b a with
  | false => rfl
  | true => have := W.tr _ _ _ h e; rw [W.irr] at this; cases this
theorem Wk.trans (W : Wk lb) {a b c : α} (h : le lb a b) (k : le lb b c) : le lb a c := by
  unfold le at *
  cases e : lb c a with
  | false => rfl
  | true =>
    rcases W.neg c b a e with z | z
    · rw [k] at z; cases z
    · rw [h] at z; cases z
def Srtd (lb : α → α → Bool) (l : List α) : Prop := l.Pairwise (le lb)
structure Mg (lb : α → α → Bool) (A B : List α) (out ra rb : List α) : Prop where
  sa : Srtd lb (out ++ ra)
  sb : Srtd lb (out ++ rb)
  pm : (out ++ (ra ++ rb)).Perm (A ++ B)
theorem Mg.moveA {A B out c ra rb : List α} (h : Mg lb A B out (c ++ ra) rb) (hc : ∀ x ∈ c, ∀ y ∈ rb, le lb x y) : Mg lb A B (out ++ c) ra rb := by
  refine ⟨by rw [List.append_assoc]; exact h.sa, ?_, ?_⟩
  · have h1 := List.pairwise_append.mp h.sa
    have h2 := List.pairwise_append.mp h.sb
    have h3 := List.pairwise_append.mp h1.2.1
    rw [Srtd, List.append_assoc]
    refine List.pairwise_append.mpr ⟨h1.1, List.pairwise_append.mpr ⟨h3.1, h2.2.1, hc⟩, fun x hx y hy => ?_⟩
    rcases List.mem_append.mp hy with z | z
    · exact h1.2.2 x hx y (List.mem_append_left _ z)
    · exact h2.2.2 x hx y z
  · refine List.Perm.trans ?_ h.pm
    simp only [List.append_assoc]
    exact List.Perm.refl _
theorem Mg.swap {A B out ra rb : List α} (h : Mg lb A B out ra rb) : Mg lb B A out rb ra :=
  ⟨h.sb, h.sa, ((List.perm_append_comm).append_left out).trans (h.pm.trans List.perm_append_comm)⟩
theorem Mg.moveB {A B out c ra rb : List α} (h : Mg lb A B out ra (c ++ rb)) (hc : ∀ x ∈ c, ∀ y ∈ ra, le lb x y) : Mg lb A B (out ++ c) ra rb := (h.swap.moveA hc).swap
def Res (lb : α → α → Bool) (A B r : List α) : Prop := Srtd lb r ∧ r.Perm (A ++ B)
theorem Mg.endA {A B out ra : List α} (h : Mg lb A B out ra []) : Res lb A B (out ++ ra ++ []) := ⟨by simpa using h.sa, by simpa using h.pm⟩
theorem Mg.endB {A B out rb : List α} (h : Mg lb A B out [] rb) : Res lb A B (out ++ [] ++ rb) := ⟨by simpa using h.sb, by simpa using h.pm⟩
theorem Mg.last {A B out rb : List α} {z : α} (h : Mg lb A B out [z] rb) (hz : ∀ y ∈ rb, le lb y z) : Res lb A B (out ++ rb ++ [z]) := by
  refine ⟨?_, ?_⟩
  · have h1 := List.pairwise_append.mp h.sa
    have h2 := List.pairwise_append.mp h.sb
    refine List.pairwise_append.mpr ⟨h.sb, List.pairwise_singleton _ _, fun x hx y hy => ?_⟩
    have : y = z := by simpa using hy
    subst this
    rcases List.mem_append.mp hx with w | w
    · exact h1.2.2 x w y (by simp)
    · exact hz x w
  · refine List.Perm.trans ?_ h.pm
    rw [List.append_assoc]
    exact List.perm_append_comm.append_left out
end
def mergeLo' : Array Keyed → Array Keyed → StateT SortSt Sem (Array Keyed) := sortPriv% PySem.Builtin.mergeLo
def setMinGallop' : Nat → StateT SortSt Sem Unit := sortPriv% PySem.Builtin.setMinGallop
abbrev setGal (st : SortSt) (g : Nat) : SortSt := SortSt.mk' (kindOf st) (arrOf st) (pendingOf st) g (failedOf st)
theorem setMinGallop'_eq (g : Nat) : setMinGallop' g = modify fun s => setGal s g := rfl
end Srt
set_option linter.all false
set_option maxHeartbeats 1000000
local macro_rules | `(tactic| walk_at "sort_open mergeLo") => `(tactic| delta $(Lean.mkIdent (Lean.mkPrivateNameCore `PySem.Builtin.List.W1All `PySem.Builtin.mergeLo)):ident)
namespace Srt
set_option autoImplicit false
open PySem PyProof.Rows
section
variable {M : Model} {A : Around} {E : Value → Shared → Prop} {s : Shared} {lb : Keyed → Keyed → Bool} {D : Keyed → Prop} {kd : SortKind}
def LtOk (M : Model) (A : Around) (E : Value → Shared → Prop) (s : Shared) (lb : Keyed → Keyed → Bool) (D : Keyed → Prop) (kd : SortKind) : Prop :=
  ∀ x y, D x → D y → ∀ (st : SortSt) (Q : Option Bool → SortSt → Prop), kindOf st = kd → Q (some (lb x y)) st → wpS M A E s (lt' x y) Q st
theorem wpS_elem {arr : Array Keyed} {i : Nat} {p : Keyed} {Q : Keyed → SortSt → Prop} {st : SortSt} (h : arr[i]? = some p) (q : Q p st) : wpS M A E s (elem' arr i) Q st := by
  rw [elem'_eq, h]
  exact wpS_pure q
def Sm (st st' : SortSt) : Prop := kindOf st' = kindOf st ∧ arrOf st' = arrOf st ∧ pendingOf st' = pendingOf st ∧ failedOf st' = failedOf st
theorem Sm.refl (st : SortSt) : Sm st st := ⟨rfl, rfl, rfl, rfl⟩
theorem Sm.gal {st st' : SortSt} (h : Sm st st') (g : Nat) : Sm st (setGal st' g) := h
theorem wpS_rule {x : String} {Q : Unit → SortSt → Prop} {st : SortSt} (q : Q () st) : wpS M A E s (liftM (rule x) : StateT SortSt Sem Unit) Q st := wpS_lift (wpAny_rule ⟨rfl, q⟩)
theorem wpS_beyond (hL : LtOk M A E s lb D kd) {left : Bool} {key x : Keyed} {arr : Array Keyed} {base i : Nat} {Q : Option Bool → SortSt → Prop} {st : SortSt} (hk : kindOf st = kd) (hx : arr[base + i]? = some x) (dk : D key) (dx : D x)
    (q : Q (some (if left then lb x key else !lb key x)) st) : wpS M A E s (beyond' left key arr base i) Q st := by
  unfold beyond'
  refine wpS_bind (wpS_elem hx ?_)
  cases left with
  | true =>
    simp only [if_true] at q ⊢
    exact hL _ _ dx dk st _ hk q
  | false =>
    simp only [Bool.false_eq_true, if_false] at q ⊢
    exact wpS_bind (hL _ _ dk dx st _ hk (wpS_pure q))
theorem wpS_gal (W : Wk lb) (hL : LtOk M A E s lb D kd) {left : Bool} {key : Keyed} {arr : Array Keyed} {base n hint : Nat} {Q : Option Nat → SortSt → Prop} {st : SortSt} (hk : kindOf st = kd) (dk : D key) (da : ∀ x ∈ arr.toList, D x)
    (hn : base + n ≤ arr.size) (hs : ∀ i j (hi : i ≤ j) (hj : j < n), le lb (arr[base + i]'(by omega)) (arr[base + j]'(by omega))) (hh : hint < n)
    (h : ∀ k, k ≤ n → (∀ i (hi : i < k) (hin : i < n), if left then lb (arr[base + i]'(by omega)) key = true else le lb (arr[base + i]'(by omega)) key) →
      (∀ i (hi : k ≤ i) (hin : i < n), if left then le lb key (arr[base + i]'(by omega)) else lb key (arr[base + i]'(by omega)) = true) → Q (some k) st) : wpS M A E s (gallop' left key arr base n hint) Q st := by
  have g : ∀ i, i < n → arr[base + i]? = some (arr.getD (base + i) key) := fun i hi => by
    rw [getElem?_pos arr (base + i) (by omega)]
    congr 1
    simp [Array.getD, show base + i < arr.size by omega]
  have ge : ∀ i (hi : i < n), arr.getD (base + i) key = arr[base + i]'(by omega) := fun i hi => by simp [Array.getD, show base + i < arr.size by omega]
  refine wpS_gallop (fun i => if left then lb (arr.getD (base + i) key) key else !lb key (arr.getD (base + i) key)) (fun i hi Q q => wpS_beyond hL hk (g i hi) dk (by rw [ge i hi]; exact da _ (by simp)) q) (fun i j hi hj e => ?_) hh (fun k kn h1 h2 => h k kn (fun i hi hin => ?_) (fun i hi hin => ?_))
  · have := hs i j hi hj
    rw [ge i (by omega)]
    rw [ge j hj] at e
    cases left with
    | true =>
      simp only [if_true] at e ⊢
      rcases W.neg _ (arr[base + i]'(by omega)) _ e with z | z
      · rw [show lb _ _ = false from this] at z; cases z
      · exact z
    | false =>
      simp only [Bool.false_eq_true, if_false, Bool.not_eq_true'] at e ⊢
      exact W.trans (lb := lb) this (show le lb _ _ from e)
  · have := h1 i hi
    rw [ge i hin] at this
    cases left with
    | true => simpa using this
    | false => simp only [Bool.false_eq_true, if_false, Bool.not_eq_true'] at this ⊢; exact this
  · have := h2 i hi hin
    rw [ge i hin] at this
    cases left with
    | true => simp only [if_true] at this ⊢; exact this
    | false => simp only [Bool.false_eq_true, if_false, Bool.not_eq_false'] at this ⊢; exact this
abbrev LS := Option (Array Keyed) × Array Keyed × Nat × Nat × Nat × Nat × Nat
section
variable (a b : Array Keyed)
def pC (out : Array Keyed) (ia ib g k k1 : Nat) : StateT SortSt Sem (ForInStep LS) := do
  let x ← elem' a ia
  if (ia + 1 + 1 == a.size) = true then pure (.done (some (out.push x ++ b.extract ib ++ a.extract (ia + 1)), out.push x, ia + 1, ib, g, k, k1))
  else if (decide (k < 7) && decide (k1 < 7)) = true then pure (.done (none, out.push x, ia + 1, ib, g, k, k1)) else pure (.yield (none, out.push x, ia + 1, ib, g, k, k1))
def pB (out : Array Keyed) (ia ib g k ob : Nat) : StateT SortSt Sem (ForInStep LS) := do
  let y ← elem' b ib
  if (ib + 1 == b.size) = true then pure (.done (some (out.push y ++ a.extract ia ++ b.extract (ib + 1)), out.push y, ia, ib + 1, g, k, ob))
  else do
    let x ← elem' a ia
    let r ← gallop' true x b (ib + 1) (b.size - (ib + 1)) 0
    match r with
    | some k1 =>
      if k1 > 0 then
        if (ib + 1 + k1 == b.size) = true then pure (.done (some (out.push y ++ b.extract (ib + 1) (ib + 1 + k1) ++ a.extract ia ++ b.extract (ib + 1 + k1)), out.push y ++ b.extract (ib + 1) (ib + 1 + k1), ia, ib + 1 + k1, g, k, k1))
        else pC a b (out.push y ++ b.extract (ib + 1) (ib + 1 + k1)) ia (ib + 1 + k1) g k k1
      else pC a b (out.push y) ia (ib + 1) g k k1
    | x => pure (.done (some (out.push y ++ a.extract ia ++ b.extract (ib + 1)), out.push y, ia, ib + 1, g, k, ob))
def pA (out : Array Keyed) (ia ib g oa ob : Nat) : StateT SortSt Sem (ForInStep LS) := do
  setMinGallop' g
  let y ← elem' b ib
  let r ← gallop' false y a ia (a.size - ia) 0
  match r with
  | some k =>
    if k > 0 then
      if (ia + k + 1 == a.size) = true then pure (.done (some (out ++ a.extract ia (ia + k) ++ b.extract ib ++ a.extract (ia + k)), out ++ a.extract ia (ia + k), ia + k, ib, g, k, ob))
      else if (ia + k == a.size) = true then pure (.done (some (out ++ a.extract ia (ia + k) ++ a.extract (ia + k) ++ b.extract ib), out ++ a.extract ia (ia + k), ia + k, ib, g, k, ob))
      else pB a b (out ++ a.extract ia (ia + k)) (ia + k) ib g k ob
    else pB a b out ia ib g k ob
  | x => pure (.done (some (out ++ a.extract ia ++ b.extract ib), out, ia, ib, g, oa, ob))
abbrev LS1 := Option (Array Keyed) × Array Keyed × Nat × Nat × Nat × Nat
def p1 (mg : Nat) (c : LS1) : StateT SortSt Sem (ForInStep LS1) := do
  let y ← elem' b c.2.2.2.1
  let x ← elem' a c.2.2.1
  let r ← lt' y x
  match r with
  | some bw =>
    if bw = true then do
      let y ← elem' b c.2.2.2.1
      if (c.2.2.2.1 + 1 == b.size) = true then pure (.done (some (c.2.1.push y ++ a.extract c.2.2.1 ++ b.extract (c.2.2.2.1 + 1)), c.2.1.push y, c.2.2.1, c.2.2.2.1 + 1, 0, c.2.2.2.2.2 + 1))
      else if c.2.2.2.2.2 + 1 ≥ mg then pure (.done (none, c.2.1.push y, c.2.2.1, c.2.2.2.1 + 1, 0, c.2.2.2.2.2 + 1))
      else pure (.yield (none, c.2.1.push y, c.2.2.1, c.2.2.2.1 + 1, 0, c.2.2.2.2.2 + 1))
    else do
      let x ← elem' a c.2.2.1
      if (c.2.2.1 + 1 + 1 == a.size) = true then pure (.done (some (c.2.1.push x ++ b.extract c.2.2.2.1 ++ a.extract (c.2.2.1 + 1)), c.2.1.push x, c.2.2.1 + 1, c.2.2.2.1, c.2.2.2.2.1 + 1, 0))
      else if c.2.2.2.2.1 + 1 ≥ mg then pure (.done (none, c.2.1.push x, c.2.2.1 + 1, c.2.2.2.1, c.2.2.2.2.1 + 1, 0))
      else pure (.yield (none, c.2.1.push x, c.2.2.1 + 1, c.2.2.2.1, c.2.2.2.2.1 + 1, 0))
  | x => pure (.done (some (c.2.1 ++ a.extract c.2.2.1 ++ b.extract c.2.2.2.1), c.2.1, c.2.2.1, c.2.2.2.1, c.2.2.2.2.1, c.2.2.2.2.2))
abbrev LS0 := Option (Array Keyed) × Array Keyed × Nat × Nat × Nat
def p0 (c : LS0) : StateT SortSt Sem (ForInStep LS0) := do
  let d ← forIn [:a.size + b.size] ((none, c.2.1, c.2.2.1, c.2.2.2.1, 0, 0) : LS1) fun x d => p1 a b c.2.2.2.2 d
  match d.1 with
  | some r => pure (.done (some r, d.2.1, d.2.2.1, d.2.2.2.1, c.2.2.2.2))
  | none => do
    liftM (rule "list.sort.gallop")
    let f ← forIn [:a.size + b.size] ((none, d.2.1, d.2.2.1, d.2.2.2.1, c.2.2.2.2 + 1, d.2.2.2.2.1, d.2.2.2.2.2) : LS) fun x f =>
      if f.2.2.2.2.1 > 1 then pA a b f.2.1 f.2.2.1 f.2.2.2.1 (f.2.2.2.2.1 - 1) f.2.2.2.2.2.1 f.2.2.2.2.2.2 else pA a b f.2.1 f.2.2.1 f.2.2.2.1 f.2.2.2.2.1 f.2.2.2.2.2.1 f.2.2.2.2.2.2
    match f.1 with
    | some r => pure (.done (some r, f.2.1, f.2.2.1, f.2.2.2.1, f.2.2.2.2.1))
    | none => do
      setMinGallop' (f.2.2.2.2.1 + 1)
      pure (.yield (none, f.2.1, f.2.2.1, f.2.2.2.1, f.2.2.2.2.1 + 1))
theorem mergeLo'_parts : mergeLo' a b = (do
    liftM (rule "list.sort.merge-lo")
    let y ← elem' b 0
    if (1 == b.size) = true then pure (#[y] ++ a.extract 0 ++ b.extract 1)
    else if (0 + 1 == a.size) = true then pure (#[y] ++ b.extract 1 ++ a.extract 0)
    else do
      let st ← get
      let c ← forIn [:a.size + b.size] ((none, #[y], 0, 1, gallopOf st) : LS0) fun x c => p0 a b c
      match c.1 with
      | some r => pure r
      | none => unsupported "internal:list.sort.merge-bound") := by
  unfold mergeLo'
  walk_at "sort_open mergeLo"
  dsimp only
  refine congrArg _ (funext fun _ => ?_)
  refine congrArg _ (funext fun y => ?_)
  refine congrArg _ ?_
  refine congrArg _ ?_
  refine congrArg _ (funext fun st => ?_)
  refine congr (congrArg _ (congrArg _ (funext fun x => funext fun c => ?_))) (funext fun c => by cases c.1 <;> rfl)
  unfold p0
  refine congr (congrArg _ (congrArg _ (funext fun x => funext fun d => ?_))) (funext fun d => ?_)
  · unfold p1
    refine congrArg _ (funext fun _ => ?_)
    refine congrArg _ (funext fun _ => ?_)
    refine congrArg _ (funext fun r => ?_)
    cases r <;> rfl
  · cases d.1 with
    | some r => rfl
    | none =>
      dsimp only
      refine congrArg _ (funext fun _ => ?_)
      refine congr (congrArg _ (congrArg _ (funext fun x => funext fun f => ?_))) (funext fun f => by cases f.1 <;> rfl)
      have tail : ∀ (out : Array Keyed) (ia ib g k ob : Nat), True := fun _ _ _ _ _ _ => trivial
      refine ite_congr rfl (fun _ => ?_) (fun _ => ?_)
      all_goals
        unfold pA
        refine congrArg _ (funext fun _ => ?_)
        refine congrArg _ (funext fun y => ?_)
        refine congrArg _ (funext fun r => ?_)
        cases r with
        | none => rfl
        | some k =>
          dsimp only
          refine ite_congr rfl (fun _ => ite_congr rfl (fun _ => rfl) (fun _ => ite_congr rfl (fun _ => rfl) (fun _ => ?_))) (fun _ => ?_)
          all_goals
            unfold pB
            refine congrArg _ (funext fun y => ?_)
            refine ite_congr rfl (fun _ => rfl) (fun _ => ?_)
            refine congrArg _ (funext fun x => ?_)
            refine congrArg _ (funext fun r => ?_)
            cases r <;> rfl
end
end
end Srt
set_option linter.all false
set_option maxHeartbeats 1000000
namespace Srt
set_option autoImplicit false
open PySem PyProof.Rows
section
variable {α : Type}
theorem ext_drop (a : Array α) (i : Nat) : (a.extract i).toList = a.toList.drop i := by
  rw [Array.toList_extract, List.extract_eq_take_drop]
  exact List.take_of_length_le (by simp)
theorem ext_mid (a : Array α) (i k : Nat) : (a.extract i (i + k)).toList = (a.toList.drop i).take k := by
  rw [Array.toList_extract, List.extract_eq_take_drop]
  congr 1
  omega
theorem drop_one {a : Array α} {i : Nat} (h : i < a.size) : a.toList.drop i = [a[i]] ++ a.toList.drop (i + 1) := by
  rw [List.drop_eq_getElem_cons (by simpa using h)]
  rfl
theorem drop_k (l : List α) (i k : Nat) : l.drop i = (l.drop i).take k ++ l.drop (i + k) := by
  conv => lhs; rw [← List.take_append_drop k (l.drop i)]
  rw [List.drop_drop]
end
section
variable {M : Model} {A : Around} {E : Value → Shared → Prop} {s : Shared} {lb : Keyed → Keyed → Bool} {D : Keyed → Prop} {kd : SortKind} {a b : Array Keyed}
structure Hy (M : Model) (A : Around) (E : Value → Shared → Prop) (s : Shared) (lb : Keyed → Keyed → Bool) (D : Keyed → Prop) (kd : SortKind) (a b : Array Keyed) : Prop where
  W : Wk lb
  L : LtOk M A E s lb D kd
  da : ∀ x ∈ a.toList, D x
  db : ∀ x ∈ b.toList, D x
  sa : Srtd lb a.toList
  sb : Srtd lb b.toList
  last : ∀ (h : 0 < a.size), ∀ y ∈ b.toList, le lb y a[a.size - 1]
def MI (lb : Keyed → Keyed → Bool) (a b : Array Keyed) (out : Array Keyed) (ia ib : Nat) : Prop :=
  Mg lb a.toList b.toList out.toList (a.toList.drop ia) (b.toList.drop ib) ∧ ia + 1 < a.size ∧ ib < b.size ∧ out.size = ia + ib
def Yd (lb : Keyed → Keyed → Bool) (a b : Array Keyed) (n : Nat) {γ : Type} (c : Option (Array Keyed) × Array Keyed × Nat × Nat × γ) : Prop := c.1 = none ∧ MI lb a b c.2.1 c.2.2.1 c.2.2.2.1 ∧ n ≤ c.2.1.size
def Dn (lb : Keyed → Keyed → Bool) (a b : Array Keyed) (n : Nat) {γ : Type} (c : Option (Array Keyed) × Array Keyed × Nat × Nat × γ) : Prop := (∃ r, c.1 = some r ∧ Res lb a.toList b.toList r.toList) ∨ Yd lb a b n c
def RR (lb : Keyed → Keyed → Bool) (a b : Array Keyed) (n : Nat) {γ : Type} : ForInStep (Option (Array Keyed) × Array Keyed × Nat × Nat × γ) → Prop
  | .done c => Dn lb a b n c
  | .yield c => Yd lb a b n c
theorem srt_le (W : Wk lb) {a : Array Keyed} (h : Srtd lb a.toList) {i j : Nat} (hij : i ≤ j) (hj : j < a.size) : le lb (a[i]'(by omega)) a[j] := by
  by_cases e : i = j
  · subst e; exact W.refl _
  · have := List.pairwise_iff_getElem.mp h i j (by simp; omega) (by simp; omega) (by omega)
    simpa using this
theorem mem_drop_ix {a : Array Keyed} {i : Nat} {x : Keyed} (h : x ∈ a.toList.drop i) : ∃ j, ∃ hj : j < a.size, i ≤ j ∧ x = a[j] := by
  obtain ⟨k, hk, e⟩ := List.mem_iff_getElem.mp h
  rw [List.length_drop] at hk
  refine ⟨i + k, by simp at hk; omega, by omega, ?_⟩
  rw [← e, List.getElem_drop]
  simp
theorem end_b {out : Array Keyed} {ia ib : Nat} (h : Mg lb a.toList b.toList out.toList (a.toList.drop ia) (b.toList.drop ib)) (e : ib = b.size) : Res lb a.toList b.toList (out ++ a.extract ia ++ b.extract ib).toList := by
  rw [Array.toList_append, Array.toList_append, ext_drop, ext_drop]
  have z : b.toList.drop ib = [] := List.drop_eq_nil_of_le (by simp; omega)
  rw [z] at h ⊢
  exact h.endA
theorem end_a {out : Array Keyed} {ia ib : Nat} (h : Mg lb a.toList b.toList out.toList (a.toList.drop ia) (b.toList.drop ib)) (e : ia = a.size) : Res lb a.toList b.toList (out ++ a.extract ia ++ b.extract ib).toList := by
  rw [Array.toList_append, Array.toList_append, ext_drop, ext_drop]
  have z : a.toList.drop ia = [] := List.drop_eq_nil_of_le (by simp; omega)
  rw [z] at h ⊢
  exact h.endB
theorem end_last (H : Hy M A E s lb D kd a b) {out : Array Keyed} {ia ib : Nat} (h : Mg lb a.toList b.toList out.toList (a.toList.drop ia) (b.toList.drop ib)) (e : ia + 1 = a.size) : Res lb a.toList b.toList (out ++ b.extract ib ++ a.extract ia).toList := by
  rw [Array.toList_append, Array.toList_append, ext_drop, ext_drop]
  have z : a.toList.drop ia = [a[a.size - 1]'(by omega)] := by
    rw [drop_one (show ia < a.size by omega), List.drop_eq_nil_of_le (by simp; omega)]
    simp only [List.append_nil]
    congr 2
    omega
  rw [z] at h ⊢
  exact h.last fun y hy => H.last (by omega) y (List.mem_of_mem_drop hy)
theorem step_b (H : Hy M A E s lb D kd a b) {out : Array Keyed} {ia ib : Nat} (ha : ia < a.size) (hb : ib < b.size) (h : Mg lb a.toList b.toList out.toList (a.toList.drop ia) (b.toList.drop ib)) (c : le lb b[ib] a[ia]) : Mg lb a.toList b.toList (out.push b[ib]).toList (a.toList.drop ia) (b.toList.drop (ib + 1)) := by
  rw [drop_one hb] at h
  rw [Array.toList_push]
  refine h.moveB fun x hx y hy => ?_
  have : x = b[ib] := by simpa using hx
  subst this
  obtain ⟨j, hj, ij, rfl⟩ := mem_drop_ix hy
  exact H.W.trans c (srt_le H.W H.sa ij hj)
theorem step_a (H : Hy M A E s lb D kd a b) {out : Array Keyed} {ia ib : Nat} (ha : ia < a.size) (h : Mg lb a.toList b.toList out.toList (a.toList.drop ia) (b.toList.drop ib)) (c : ∀ y ∈ b.toList.drop ib, le lb a[ia] y) : Mg lb a.toList b.toList (out.push a[ia]).toList (a.toList.drop (ia + 1)) (b.toList.drop ib) := by
  rw [drop_one ha] at h
  rw [Array.toList_push]
  refine h.moveA fun x hx y hy => ?_
  have : x = a[ia] := by simpa using hx
  subst this
  exact c y hy
theorem all_b (H : Hy M A E s lb D kd a b) {ib : Nat} {x : Keyed} (hb : ib < b.size) (c : le lb x b[ib]) : ∀ y ∈ b.toList.drop ib, le lb x y := fun y hy => by
  obtain ⟨j, hj, ij, rfl⟩ := mem_drop_ix hy
  exact H.W.trans c (srt_le H.W H.sb ij hj)
theorem wpS_p1 (H : Hy M A E s lb D kd a b) {st : SortSt} (hk : kindOf st = kd) {out : Array Keyed} {ia ib u v mg : Nat} (h : MI lb a b out ia ib) {Q : ForInStep LS1 → SortSt → Prop}
    (q : ∀ r, RR lb a b (out.size + 1) r → Q r st) : wpS M A E s (p1 a b mg (none, out, ia, ib, u, v)) Q st := by
  obtain ⟨m, h1, h2, h3⟩ := h
  have ha : ia < a.size := by omega
  unfold p1
  dsimp only
  refine wpS_bind (wpS_elem (getElem?_pos b ib h2) ?_)
  refine wpS_bind (wpS_elem (getElem?_pos a ia ha) ?_)
  refine wpS_bind (H.L _ _ (H.db _ (by simp)) (H.da _ (by simp)) st _ hk ?_)
  cases e : lb b[ib] a[ia]
  case true =>
    simp only [if_true]
    refine wpS_bind (wpS_elem (getElem?_pos b ib h2) ?_)
    have m' := step_b H ha h2 m (H.W.of_lt e)
    by_cases c : ib + 1 = b.size
    · rw [if_pos (by simpa using c)]
      exact wpS_pure (q _ (.inl ⟨_, rfl, end_b m' c⟩))
    · rw [if_neg (by simpa using c)]
      have y : Yd lb a b (out.size + 1) (none, out.push b[ib], ia, ib + 1, (0, v + 1)) := ⟨rfl, ⟨m', h1, by show ib + 1 < b.size; omega, by show (out.push b[ib]).size = ia + (ib + 1); rw [Array.size_push]; omega⟩, by show out.size + 1 ≤ (out.push b[ib]).size; rw [Array.size_push]; omega⟩
      split
      · exact wpS_pure (q _ (.inr y))
      · exact wpS_pure (q _ y)
  case false =>
    simp only [Bool.false_eq_true, if_false]
    refine wpS_bind (wpS_elem (getElem?_pos a ia ha) ?_)
    have m' := step_a H ha m (all_b H h2 e)
    by_cases c : ia + 1 + 1 = a.size
    · rw [if_pos (by simpa using c)]
      exact wpS_pure (q _ (.inl ⟨_, rfl, end_last H m' c⟩))
    · rw [if_neg (by simpa using c)]
      have y : Yd lb a b (out.size + 1) (none, out.push a[ia], ia + 1, ib, (u + 1, 0)) := ⟨rfl, ⟨m', by show ia + 1 + 1 < a.size; omega, h2, by show (out.push a[ia]).size = ia + 1 + ib; rw [Array.size_push]; omega⟩, by show out.size + 1 ≤ (out.push a[ia]).size; rw [Array.size_push]; omega⟩
      split
      · exact wpS_pure (q _ (.inr y))
      · exact wpS_pure (q _ y)
end
end Srt
set_option linter.all false
set_option maxHeartbeats 1000000
namespace Srt
set_option autoImplicit false
open PySem PyProof.Rows
section
variable {M : Model} {A : Around} {E : Value → Shared → Prop} {s : Shared} {lb : Keyed → Keyed → Bool} {D : Keyed → Prop} {kd : SortKind} {a b : Array Keyed}
theorem mem_take_ix {a : Array Keyed} {i k : Nat} {x : Keyed} (h : x ∈ (a.toList.drop i).take k) : ∃ j, ∃ hj : i + j < a.size, j < k ∧ x = a[i + j] := by
  obtain ⟨j, hj, e⟩ := List.mem_iff_getElem.mp h
  rw [List.length_take, List.length_drop] at hj
  refine ⟨j, by simp at hj; omega, by omega, ?_⟩
  rw [← e, List.getElem_take, List.getElem_drop]
  simp
theorem chunk_b {out : Array Keyed} {ia ib k : Nat} (h : Mg lb a.toList b.toList out.toList (a.toList.drop ia) (b.toList.drop ib)) (c : ∀ x ∈ (b.toList.drop ib).take k, ∀ y ∈ a.toList.drop ia, le lb x y) : Mg lb a.toList b.toList (out ++ b.extract ib (ib + k)).toList (a.toList.drop ia) (b.toList.drop (ib + k)) := by
  rw [Array.toList_append, ext_mid]
  rw [drop_k b.toList ib k] at h
  exact h.moveB c
theorem chunk_a {out : Array Keyed} {ia ib k : Nat} (h : Mg lb a.toList b.toList out.toList (a.toList.drop ia) (b.toList.drop ib)) (c : ∀ x ∈ (a.toList.drop ia).take k, ∀ y ∈ b.toList.drop ib, le lb x y) : Mg lb a.toList b.toList (out ++ a.extract ia (ia + k)).toList (a.toList.drop (ia + k)) (b.toList.drop ib) := by
  rw [Array.toList_append, ext_mid]
  rw [drop_k a.toList ia k] at h
  exact h.moveA c
theorem wpS_pC (H : Hy M A E s lb D kd a b) {st : SortSt} {out : Array Keyed} {ia ib g k k1 n : Nat} (h : MI lb a b out ia ib) (hn : n ≤ out.size + 1) (c : ∀ (hh : ia < a.size), ∀ y ∈ b.toList.drop ib, le lb a[ia] y) {Q : ForInStep LS → SortSt → Prop}
    (q : ∀ r, RR lb a b n r → Q r st) : wpS M A E s (pC a b out ia ib g k k1) Q st := by
  obtain ⟨m, h1, h2, h3⟩ := h
  have ha : ia < a.size := by omega
  unfold pC
  refine wpS_bind (wpS_elem (getElem?_pos a ia ha) ?_)
  have m' := step_a H ha m (c ha)
  by_cases e : ia + 1 + 1 = a.size
  · rw [if_pos (by simpa using e)]
    exact wpS_pure (q _ (.inl ⟨_, rfl, end_last H m' e⟩))
  · rw [if_neg (by simpa using e)]
    have y : Yd lb a b n (none, out.push a[ia], ia + 1, ib, (g, k, k1)) := ⟨rfl, ⟨m', by show ia + 1 + 1 < a.size; omega, h2, by show (out.push a[ia]).size = ia + 1 + ib; rw [Array.size_push]; omega⟩, by show n ≤ (out.push a[ia]).size; rw [Array.size_push]; omega⟩
    split
    · exact wpS_pure (q _ (.inr y))
    · exact wpS_pure (q _ y)
theorem wpS_pB (H : Hy M A E s lb D kd a b) {st : SortSt} (hk : kindOf st = kd) {out : Array Keyed} {ia ib g k ob n : Nat} (h : MI lb a b out ia ib) (hn : n ≤ out.size + 1) (c : ∀ (ha : ia < a.size) (hb : ib < b.size), le lb b[ib] a[ia]) {Q : ForInStep LS → SortSt → Prop}
    (q : ∀ r, RR lb a b n r → Q r st) : wpS M A E s (pB a b out ia ib g k ob) Q st := by
  obtain ⟨m, h1, h2, h3⟩ := h
  have ha : ia < a.size := by omega
  unfold pB
  refine wpS_bind (wpS_elem (getElem?_pos b ib h2) ?_)
  have m' := step_b H ha h2 m (c ha h2)
  have sz : (out.push b[ib]).size = ia + (ib + 1) := by rw [Array.size_push]; omega
  by_cases e : ib + 1 = b.size
  · rw [if_pos (by simpa using e)]
    exact wpS_pure (q _ (.inl ⟨_, rfl, end_b m' e⟩))
  · rw [if_neg (by simpa using e)]
    refine wpS_bind (wpS_elem (getElem?_pos a ia ha) ?_)
    refine wpS_bind (wpS_gal H.W H.L hk (H.da _ (by simp)) H.db (by omega) (fun i j hi hj => srt_le H.W H.sb (by omega) (by omega)) (by omega) fun k1 kn g1 g2 => ?_)
    simp only [if_true] at g1 g2
    have rest : ∀ y ∈ b.toList.drop (ib + 1 + k1), le lb a[ia] y := fun y hy => by
      obtain ⟨j, hj, ij, rfl⟩ := mem_drop_ix hy
      have := g2 (j - (ib + 1)) (by omega) (by omega)
      simp only [show ib + 1 + (j - (ib + 1)) = j by omega] at this
      exact this
    dsimp only
    by_cases k0 : k1 > 0
    · rw [if_pos k0]
      have m2 := chunk_b (k := k1) m' fun x hx y hy => by
        obtain ⟨j, hj, jk, rfl⟩ := mem_take_ix hx
        obtain ⟨i, hi, ii, rfl⟩ := mem_drop_ix hy
        exact H.W.trans (H.W.of_lt (g1 j jk (by omega))) (srt_le H.W H.sa ii hi)
      have sz2 : (out.push b[ib] ++ b.extract (ib + 1) (ib + 1 + k1)).size = ia + (ib + 1 + k1) := by
        rw [Array.size_append, sz, Array.size_extract]
        omega
      by_cases e2 : ib + 1 + k1 = b.size
      · rw [if_pos (by simpa using e2)]
        exact wpS_pure (q _ (.inl ⟨_, rfl, end_b m2 e2⟩))
      · rw [if_neg (by simpa using e2)]
        exact wpS_pC H ⟨m2, h1, by omega, sz2⟩ (by omega) (fun _ => rest) q
    · rw [if_neg k0]
      have : k1 = 0 := by omega
      subst this
      exact wpS_pC H ⟨m', h1, by omega, sz⟩ (by omega) (fun _ => rest) q
theorem wpS_pA (H : Hy M A E s lb D kd a b) {st : SortSt} (hk : kindOf st = kd) {out : Array Keyed} {ia ib g oa ob n : Nat} (h : MI lb a b out ia ib) (hn : n ≤ out.size + 1) {Q : ForInStep LS → SortSt → Prop}
    (q : ∀ r, RR lb a b n r → Q r (setGal st g)) : wpS M A E s (pA a b out ia ib g oa ob) Q st := by
  obtain ⟨m, h1, h2, h3⟩ := id h
  have ha : ia < a.size := by omega
  unfold pA
  rw [setMinGallop'_eq]
  refine wpS_bind (wpS_modify ?_)
  refine wpS_bind (wpS_elem (getElem?_pos b ib h2) ?_)
  refine wpS_bind (wpS_gal (st := setGal st g) H.W H.L hk (H.db _ (by simp)) H.da (by omega) (fun i j hi hj => srt_le H.W H.sa (by omega) (by omega)) (by omega) fun k kn g1 g2 => ?_)
  simp only [Bool.false_eq_true, if_false] at g1 g2
  dsimp only
  by_cases k0 : k > 0
  · rw [if_pos k0]
    have m2 := chunk_a (k := k) m fun x hx y hy => by
      obtain ⟨j, hj, jk, rfl⟩ := mem_take_ix hx
      obtain ⟨i, hi, ii, rfl⟩ := mem_drop_ix hy
      exact H.W.trans (g1 j jk (by omega)) (srt_le H.W H.sb ii hi)
    have sz2 : (out ++ a.extract ia (ia + k)).size = ia + k + ib := by
      rw [Array.size_append, Array.size_extract]
      omega
    by_cases e1 : ia + k + 1 = a.size
    · rw [if_pos (by simpa using e1)]
      exact wpS_pure (q _ (.inl ⟨_, rfl, end_last H m2 e1⟩))
    · rw [if_neg (by simpa using e1)]
      by_cases e2 : ia + k = a.size
      · rw [if_pos (by simpa using e2)]
        exact wpS_pure (q _ (.inl ⟨_, rfl, end_a m2 e2⟩))
      · rw [if_neg (by simpa using e2)]
        exact wpS_pB (st := setGal st g) H hk ⟨m2, by omega, h2, sz2⟩ (by omega) (fun _ _ => H.W.of_lt (g2 k (by omega) (by omega))) q
  · rw [if_neg k0]
    have : k = 0 := by omega
    subst this
    exact wpS_pB (st := setGal st g) H hk h hn (fun _ _ => H.W.of_lt (g2 0 (by omega) (by omega))) q
end
end Srt
set_option linter.all false
set_option maxHeartbeats 1000000
namespace Srt
set_option autoImplicit false
open PySem PyProof.Rows
section
variable {M : Model} {A : Around} {E : Value → Shared → Prop} {s : Shared} {lb : Keyed → Keyed → Bool} {D : Keyed → Prop} {kd : SortKind} {a b : Array Keyed}
theorem Yd.mono {n n' : Nat} {γ : Type} {c : Option (Array Keyed) × Array Keyed × Nat × Nat × γ} (h : Yd lb a b n c) (k : n' ≤ n) : Yd lb a b n' c := ⟨h.1, h.2.1, Nat.le_trans k h.2.2⟩
theorem Dn.mono {n n' : Nat} {γ : Type} {c : Option (Array Keyed) × Array Keyed × Nat × Nat × γ} (h : Dn lb a b n c) (k : n' ≤ n) : Dn lb a b n' c := h.imp id fun z => z.mono k
theorem wpS_p0 (H : Hy M A E s lb D kd a b) {st : SortSt} (hk : kindOf st = kd) {out : Array Keyed} {ia ib g : Nat} (h : MI lb a b out ia ib) {Q : ForInStep LS0 → SortSt → Prop}
    (qd : ∀ r c st', Sm st st' → Res lb a.toList b.toList r.toList → Q (.done (some r, c)) st') (qy : ∀ c st', Sm st st' → Yd lb a b (out.size + 1) c → Q (.yield c) st') : wpS M A E s (p0 a b (none, out, ia, ib, g)) Q st := by
  unfold p0
  dsimp only
  have tot : 0 < a.size + b.size := by have := h.2.2.1; omega
  refine wpS_bind (wpS_mono (wpS_forRange (I := fun x d st' => st' = st ∧ Yd lb a b (out.size + x) d) (Q := fun d st' => st' = st ∧ Dn lb a b (out.size + 1) d) ?step ?fin ⟨rfl, rfl, h, Nat.le_refl _⟩) ?post)
  case fin =>
    rintro d st' ⟨rfl, y⟩
    exact ⟨rfl, .inr (y.mono (by omega))⟩
  case step =>
    rintro x ⟨r, o, i, j, u, v⟩ st' _ _ ⟨rfl, e, mi, le⟩
    cases (show r = none from e)
    have le : out.size + x ≤ o.size := le
    refine wpS_p1 H hk mi fun r hr => ?_
    cases r with
    | done c => exact ⟨rfl, Dn.mono hr (by omega)⟩
    | yield c => exact ⟨rfl, Yd.mono hr (by omega)⟩
  case post =>
    rintro ⟨r, o, i, j, u, v⟩ st' ⟨rfl, hd⟩
    cases r with
    | some r =>
      dsimp only
      rcases hd with ⟨r', e, res⟩ | ⟨e, _⟩
      · cases e
        exact wpS_pure (qd _ _ _ (Sm.refl _) res)
      · cases e
    | none =>
      dsimp only
      have y : Yd lb a b (out.size + 1) (none, o, i, j, (u, v)) := by
        rcases hd with ⟨r', e, res⟩ | y
        · cases e
        · exact y
      refine wpS_bind (wpS_rule ?_)
      refine wpS_bind (wpS_mono (wpS_forRange (I := fun x f st2 => Sm st' st2 ∧ Yd lb a b (out.size + 1) f) (Q := fun f st2 => Sm st' st2 ∧ Dn lb a b (out.size + 1) f) ?step2 ?fin2 ⟨Sm.refl _, y⟩) ?post2)
      case fin2 =>
        rintro f st2 ⟨sm, y⟩
        exact ⟨sm, .inr y⟩
      case step2 =>
        rintro x ⟨r, o, i, j, g2, u, v⟩ st2 _ _ ⟨sm, e, mi, le⟩
        cases (show r = none from e)
        have le : out.size + 1 ≤ o.size := le
        dsimp only
        split
        all_goals
          refine wpS_pA (n := out.size + 1) H (sm.1.trans hk) mi (by omega) fun r hr => ?_
          cases r with
          | done c => exact ⟨sm.gal _, hr⟩
          | yield c => exact ⟨sm.gal _, hr⟩
      case post2 =>
        rintro ⟨r, o, i, j, g2, u, v⟩ st2 ⟨sm, hd⟩
        cases r with
        | some r =>
          dsimp only
          rcases hd with ⟨r', e, res⟩ | ⟨e, _⟩
          · cases e
            exact wpS_pure (qd _ _ _ sm res)
          · cases e
        | none =>
          dsimp only
          rcases hd with ⟨r', e, res⟩ | y
          · cases e
          · rw [setMinGallop'_eq]
            exact wpS_bind (wpS_modify (wpS_pure (qy _ _ (sm.gal _) y)))
theorem wpS_mergeLo (H : Hy M A E s lb D kd a b) {st : SortSt} (hk : kindOf st = kd) (a0 : 0 < a.size) (b0 : 0 < b.size) (first : le lb b[0] a[0]) {Q : Array Keyed → SortSt → Prop}
    (q : ∀ r st', Sm st st' → Res lb a.toList b.toList r.toList → Q r st') : wpS M A E s (mergeLo' a b) Q st := by
  rw [mergeLo'_parts]
  refine wpS_bind (wpS_rule ?_)
  refine wpS_bind (wpS_elem (getElem?_pos b 0 b0) ?_)
  have m0 : Mg lb a.toList b.toList (#[] : Array Keyed).toList (a.toList.drop 0) (b.toList.drop 0) := ⟨H.sa, H.sb, List.Perm.refl _⟩
  have m1 : Mg lb a.toList b.toList (#[b[0]] : Array Keyed).toList (a.toList.drop 0) (b.toList.drop 1) := step_b H a0 b0 m0 first
  by_cases e1 : 1 = b.size
  · rw [if_pos (by simpa using e1)]
    exact wpS_pure (q _ _ (Sm.refl _) (end_b m1 e1))
  rw [if_neg (by simpa using e1)]
  by_cases e2 : 0 + 1 = a.size
  · rw [if_pos (by simpa using e2)]
    exact wpS_pure (q _ _ (Sm.refl _) (end_last H m1 e2))
  rw [if_neg (by simpa using e2)]
  refine wpS_bind (wpS_get ?_)
  refine wpS_bind (wpS_mono (wpS_forRange (I := fun x c st' => Sm st st' ∧ Yd lb a b (1 + x) c) (Q := fun c st' => Sm st st' ∧ ∃ r, c.1 = some r ∧ Res lb a.toList b.toList r.toList) ?step ?fin ⟨Sm.refl _, rfl, ⟨m1, by show 0 + 1 < a.size; omega, by show 1 < b.size; omega, rfl⟩, Nat.le_refl _⟩) ?post)
  case post =>
    rintro ⟨r, c⟩ st' ⟨sm, r', e, res⟩
    cases e
    exact wpS_pure (q _ _ sm res)
  case fin =>
    rintro ⟨r, o, i, j, g⟩ st' ⟨sm, e, ⟨_, h1, h2, h3⟩, le⟩
    have h3 : o.size = i + j := h3
    have le : 1 + max 0 (a.size + b.size) ≤ o.size := le
    have h1 : i + 1 < a.size := h1
    have h2 : j < b.size := h2
    omega
  case step =>
    rintro x ⟨r, o, i, j, g⟩ st' _ _ ⟨sm, e, mi, le⟩
    cases (show r = none from e)
    have le : 1 + x ≤ o.size := le
    exact wpS_p0 H (sm.1.trans hk) mi (fun r c st2 sm2 res => ⟨⟨sm2.1.trans sm.1, sm2.2.1.trans sm.2.1, sm2.2.2.1.trans sm.2.2.1, sm2.2.2.2.trans sm.2.2.2⟩, r, rfl, res⟩) fun c st2 sm2 y => ⟨⟨sm2.1.trans sm.1, sm2.2.1.trans sm.2.1, sm2.2.2.1.trans sm.2.2.1, sm2.2.2.2.trans sm.2.2.2⟩, y.mono (by omega)⟩
end
end Srt
set_option linter.all false
set_option maxHeartbeats 1000000
local macro_rules | `(tactic| walk_at "sort_open mergeHi") => `(tactic| delta $(Lean.mkIdent (Lean.mkPrivateNameCore `PySem.Builtin.List.W1All `PySem.Builtin.mergeHi)):ident)
namespace Srt
set_option autoImplicit false
open PySem PyProof.Rows
def mergeHi' : Array Keyed → Array Keyed → StateT SortSt Sem (Array Keyed) := sortPriv% PySem.Builtin.mergeHi
abbrev KS := Option (Array Keyed) × Nat × Nat × Array Keyed × Nat × Nat × Nat
abbrev KS1 := Option (Array Keyed) × Nat × Nat × Array Keyed × Nat × Nat
abbrev KS0 := Option (Array Keyed) × Nat × Nat × Array Keyed × Nat
section
variable (a b : Array Keyed)
def hDn (na nb : Nat) (out : Array Keyed) : Array Keyed := a.extract 0 na ++ b.extract 0 nb ++ out.reverse
def hFb (na nb : Nat) (out : Array Keyed) : Array Keyed := b.extract 0 nb ++ a.extract 0 na ++ out.reverse
def hC (na nb : Nat) (out : Array Keyed) (g k k1 : Nat) : StateT SortSt Sem (ForInStep KS) := do
  let x ← elem' a (na - 1)
  if (na - 1 == 0) = true then pure (.done (some (hDn a b (na - 1) nb (out.push x)), na - 1, nb, out.push x, g, k, k1))
  else if (decide (k < 7) && decide (k1 < 7)) = true then pure (.done (none, na - 1, nb, out.push x, g, k, k1)) else pure (.yield (none, na - 1, nb, out.push x, g, k, k1))
def hB (na nb : Nat) (out : Array Keyed) (g k ob : Nat) : StateT SortSt Sem (ForInStep KS) := do
  let y ← elem' b (nb - 1)
  if (nb - 1 == 1) = true then pure (.done (some (hFb a b na (nb - 1) (out.push y)), na, nb - 1, out.push y, g, k, ob))
  else do
    let x ← elem' a (na - 1)
    let r ← gallop' true x b 0 (nb - 1) (nb - 1 - 1)
    match r with
    | some p =>
      if nb - 1 - p > 0 then
        if (p == 1) = true then pure (.done (some (hFb a b na p (out.push y ++ (b.extract p (nb - 1)).reverse)), na, p, out.push y ++ (b.extract p (nb - 1)).reverse, g, k, nb - 1 - p))
        else if (p == 0) = true then pure (.done (some (hDn a b na p (out.push y ++ (b.extract p (nb - 1)).reverse)), na, p, out.push y ++ (b.extract p (nb - 1)).reverse, g, k, nb - 1 - p))
        else hC a b na p (out.push y ++ (b.extract p (nb - 1)).reverse) g k (nb - 1 - p)
      else hC a b na (nb - 1) (out.push y) g k (nb - 1 - p)
    | x => pure (.done (some (hDn a b na (nb - 1) (out.push y)), na, nb - 1, out.push y, g, k, ob))
def hA (na nb : Nat) (out : Array Keyed) (g oa ob : Nat) : StateT SortSt Sem (ForInStep KS) := do
  setMinGallop' g
  let y ← elem' b (nb - 1)
  let r ← gallop' false y a 0 na (na - 1)
  match r with
  | some p =>
    if na - p > 0 then
      if (p == 0) = true then pure (.done (some (hDn a b p nb (out ++ (a.extract p na).reverse)), p, nb, out ++ (a.extract p na).reverse, g, na - p, ob))
      else hB a b p nb (out ++ (a.extract p na).reverse) g (na - p) ob
    else hB a b na nb out g (na - p) ob
  | x => pure (.done (some (hDn a b na nb out), na, nb, out, g, oa, ob))
def h1 (mg : Nat) (c : KS1) : StateT SortSt Sem (ForInStep KS1) := do
  let y ← elem' b (c.2.2.1 - 1)
  let x ← elem' a (c.2.1 - 1)
  let r ← lt' y x
  match r with
  | some aw =>
    if aw = true then do
      let x ← elem' a (c.2.1 - 1)
      if (c.2.1 - 1 == 0) = true then pure (.done (some (hDn a b (c.2.1 - 1) c.2.2.1 (c.2.2.2.1.push x)), c.2.1 - 1, c.2.2.1, c.2.2.2.1.push x, c.2.2.2.2.1 + 1, 0))
      else if c.2.2.2.2.1 + 1 ≥ mg then pure (.done (none, c.2.1 - 1, c.2.2.1, c.2.2.2.1.push x, c.2.2.2.2.1 + 1, 0))
      else pure (.yield (none, c.2.1 - 1, c.2.2.1, c.2.2.2.1.push x, c.2.2.2.2.1 + 1, 0))
    else do
      let y ← elem' b (c.2.2.1 - 1)
      if (c.2.2.1 - 1 == 1) = true then pure (.done (some (hFb a b c.2.1 (c.2.2.1 - 1) (c.2.2.2.1.push y)), c.2.1, c.2.2.1 - 1, c.2.2.2.1.push y, 0, c.2.2.2.2.2 + 1))
      else if c.2.2.2.2.2 + 1 ≥ mg then pure (.done (none, c.2.1, c.2.2.1 - 1, c.2.2.2.1.push y, 0, c.2.2.2.2.2 + 1))
      else pure (.yield (none, c.2.1, c.2.2.1 - 1, c.2.2.2.1.push y, 0, c.2.2.2.2.2 + 1))
  | x => pure (.done (some (hDn a b c.2.1 c.2.2.1 c.2.2.2.1), c.2.1, c.2.2.1, c.2.2.2.1, c.2.2.2.2.1, c.2.2.2.2.2))
def h0 (c : KS0) : StateT SortSt Sem (ForInStep KS0) := do
  let d ← forIn [:a.size + b.size] ((none, c.2.1, c.2.2.1, c.2.2.2.1, 0, 0) : KS1) fun x d => h1 a b c.2.2.2.2 d
  match d.1 with
  | some r => pure (.done (some r, d.2.1, d.2.2.1, d.2.2.2.1, c.2.2.2.2))
  | none => do
    liftM (rule "list.sort.gallop")
    let f ← forIn [:a.size + b.size] ((none, d.2.1, d.2.2.1, d.2.2.2.1, c.2.2.2.2 + 1, d.2.2.2.2.1, d.2.2.2.2.2) : KS) fun x f =>
      if f.2.2.2.2.1 > 1 then hA a b f.2.1 f.2.2.1 f.2.2.2.1 (f.2.2.2.2.1 - 1) f.2.2.2.2.2.1 f.2.2.2.2.2.2 else hA a b f.2.1 f.2.2.1 f.2.2.2.1 f.2.2.2.2.1 f.2.2.2.2.2.1 f.2.2.2.2.2.2
    match f.1 with
    | some r => pure (.done (some r, f.2.1, f.2.2.1, f.2.2.2.1, f.2.2.2.2.1))
    | none => do
      setMinGallop' (f.2.2.2.2.1 + 1)
      pure (.yield (none, f.2.1, f.2.2.1, f.2.2.2.1, f.2.2.2.2.1 + 1))
theorem mergeHi'_parts : mergeHi' a b = (do
    liftM (rule "list.sort.merge-hi")
    let y ← elem' a (a.size - 1)
    if (a.size - 1 == 0) = true then pure (hDn a b (a.size - 1) b.size #[y])
    else if (b.size == 1) = true then pure (hFb a b (a.size - 1) b.size #[y])
    else do
      let st ← get
      let c ← forIn [:a.size + b.size] ((none, a.size - 1, b.size, #[y], gallopOf st) : KS0) fun x c => h0 a b c
      match c.1 with
      | some r => pure r
      | none => unsupported "internal:list.sort.merge-bound") := by
  unfold mergeHi'
  walk_at "sort_open mergeHi"
  dsimp only
  refine congrArg _ (funext fun _ => ?_)
  refine congrArg _ (funext fun y => ?_)
  refine ite_congr rfl (fun _ => rfl) (fun _ => ite_congr rfl (fun _ => rfl) (fun _ => ?_))
  refine congrArg _ (funext fun st => ?_)
  refine congr (congrArg _ (congrArg _ (funext fun x => funext fun c => ?_))) (funext fun c => by cases c.1 <;> rfl)
  unfold h0
  refine congr (congrArg _ (congrArg _ (funext fun x => funext fun d => ?_))) (funext fun d => ?_)
  · unfold h1
    refine congrArg _ (funext fun _ => ?_)
    refine congrArg _ (funext fun _ => ?_)
    refine congrArg _ (funext fun r => ?_)
    cases r <;> rfl
  · cases d.1 with
    | some r => rfl
    | none =>
      dsimp only
      refine congrArg _ (funext fun _ => ?_)
      refine congr (congrArg _ (congrArg _ (funext fun x => funext fun f => ?_))) (funext fun f => by cases f.1 <;> rfl)
      refine ite_congr rfl (fun _ => ?_) (fun _ => ?_)
      all_goals
        unfold hA
        refine congrArg _ (funext fun _ => ?_)
        refine congrArg _ (funext fun y => ?_)
        refine congrArg _ (funext fun r => ?_)
        cases r with
        | none => rfl
        | some k =>
          dsimp only
          refine ite_congr rfl (fun _ => ite_congr rfl (fun _ => rfl) (fun _ => ?_)) (fun _ => ?_)
          all_goals
            unfold hB
            refine congrArg _ (funext fun y => ?_)
            refine ite_congr rfl (fun _ => rfl) (fun _ => ?_)
            refine congrArg _ (funext fun x => ?_)
            refine congrArg _ (funext fun r => ?_)
            cases r <;> rfl
end
end Srt
set_option linter.all false
set_option maxHeartbeats 1000000
namespace Srt
set_option autoImplicit false
open PySem PyProof.Rows
section
variable {α : Type} {lb : α → α → Bool}
structure Mh (lb : α → α → Bool) (A B : List α) (w ra rb : List α) : Prop where
  sa : Srtd lb (ra ++ w)
  sb : Srtd lb (rb ++ w)
  pm : (ra ++ (rb ++ w)).Perm (A ++ B)
theorem Mh.moveA {A B w c ra rb : List α} (h : Mh lb A B w (ra ++ c) rb) (hc : ∀ x ∈ rb, ∀ y ∈ c, le lb x y) : Mh lb A B (c ++ w) ra rb := by
  refine ⟨by rw [← List.append_assoc]; exact h.sa, ?_, ?_⟩
  · have h1 := List.pairwise_append.mp h.sa
    have h2 := List.pairwise_append.mp h.sb
    have h3 := List.pairwise_append.mp h1.1
    refine List.pairwise_append.mpr ⟨h2.1, List.pairwise_append.mpr ⟨h3.2.1, h1.2.1, fun x hx y hy => h1.2.2 x (List.mem_append_right _ hx) y hy⟩, fun x hx y hy => ?_⟩
    rcases List.mem_append.mp hy with z | z
    · exact hc x hx y z
    · exact h2.2.2 x hx y z
  · refine List.Perm.trans ?_ h.pm
    rw [List.append_assoc]
    refine List.Perm.append_left ra ?_
    rw [← List.append_assoc, ← List.append_assoc]
    exact List.Perm.append_right w List.perm_append_comm
theorem Mh.swap {A B w ra rb : List α} (h : Mh lb A B w ra rb) : Mh lb B A w rb ra := by
  refine ⟨h.sb, h.sa, ?_⟩
  refine List.Perm.trans ?_ (h.pm.trans List.perm_append_comm)
  rw [← List.append_assoc, ← List.append_assoc]
  exact List.Perm.append_right w List.perm_append_comm
theorem Mh.moveB {A B w c ra rb : List α} (h : Mh lb A B w ra (rb ++ c)) (hc : ∀ x ∈ ra, ∀ y ∈ c, le lb x y) : Mh lb A B (c ++ w) ra rb := (h.swap.moveA hc).swap
theorem take_one {a : Array α} {n : Nat} (h0 : 0 < n) (h : n ≤ a.size) : a.toList.take n = a.toList.take (n - 1) ++ [a[n - 1]'(by omega)] := by
  obtain ⟨m, rfl⟩ : ∃ m, n = m + 1 := ⟨n - 1, by omega⟩
  rw [List.take_succ_eq_append_getElem (by simp; omega)]
  simp
theorem ext_take (a : Array α) (n : Nat) : (a.extract 0 n).toList = a.toList.take n := by
  rw [Array.toList_extract, List.extract_eq_take_drop]
  simp
theorem take_k (a : Array α) {p n : Nat} (h : p ≤ n) : a.toList.take n = a.toList.take p ++ (a.extract p n).toList := by
  rw [Array.toList_extract, List.extract_eq_take_drop, ← List.drop_take]
  conv => lhs; rw [← List.take_append_drop p (a.toList.take n)]
  rw [List.take_take, Nat.min_eq_left h]
end
section
variable {M : Model} {A : Around} {E : Value → Shared → Prop} {s : Shared} {lb : Keyed → Keyed → Bool} {D : Keyed → Prop} {kd : SortKind} {a b : Array Keyed}
structure Hz (M : Model) (A : Around) (E : Value → Shared → Prop) (s : Shared) (lb : Keyed → Keyed → Bool) (D : Keyed → Prop) (kd : SortKind) (a b : Array Keyed) : Prop where
  W : Wk lb
  L : LtOk M A E s lb D kd
  da : ∀ x ∈ a.toList, D x
  db : ∀ x ∈ b.toList, D x
  sa : Srtd lb a.toList
  sb : Srtd lb b.toList
  first : ∀ (h : 0 < b.size), ∀ y ∈ a.toList, le lb b[0] y
abbrev MM (lb : Keyed → Keyed → Bool) (a b : Array Keyed) (na nb : Nat) (out : Array Keyed) : Prop := Mh lb a.toList b.toList out.toList.reverse (a.toList.take na) (b.toList.take nb)
def MH (lb : Keyed → Keyed → Bool) (a b : Array Keyed) (na nb : Nat) (out : Array Keyed) : Prop := MM lb a b na nb out ∧ 0 < na ∧ na ≤ a.size ∧ 1 < nb ∧ nb ≤ b.size ∧ out.size + na + nb = a.size + b.size
def Zd (lb : Keyed → Keyed → Bool) (a b : Array Keyed) (n : Nat) {γ : Type} (c : Option (Array Keyed) × Nat × Nat × Array Keyed × γ) : Prop := c.1 = none ∧ MH lb a b c.2.1 c.2.2.1 c.2.2.2.1 ∧ n ≤ c.2.2.2.1.size
def En (lb : Keyed → Keyed → Bool) (a b : Array Keyed) (n : Nat) {γ : Type} (c : Option (Array Keyed) × Nat × Nat × Array Keyed × γ) : Prop := (∃ r, c.1 = some r ∧ Res lb a.toList b.toList r.toList) ∨ Zd lb a b n c
def TT (lb : Keyed → Keyed → Bool) (a b : Array Keyed) (n : Nat) {γ : Type} : ForInStep (Option (Array Keyed) × Nat × Nat × Array Keyed × γ) → Prop
  | .done c => En lb a b n c
  | .yield c => Zd lb a b n c
theorem Zd.mono {n n' : Nat} {γ : Type} {c : Option (Array Keyed) × Nat × Nat × Array Keyed × γ} (h : Zd lb a b n c) (k : n' ≤ n) : Zd lb a b n' c := ⟨h.1, h.2.1, Nat.le_trans k h.2.2⟩
theorem En.mono {n n' : Nat} {γ : Type} {c : Option (Array Keyed) × Nat × Nat × Array Keyed × γ} (h : En lb a b n c) (k : n' ≤ n) : En lb a b n' c := h.imp id fun z => z.mono k
theorem mem_take_ix0 {a : Array Keyed} {n : Nat} {x : Keyed} (h : x ∈ a.toList.take n) : ∃ j, ∃ hj : j < a.size, j < n ∧ x = a[j] := by
  have := mem_take_ix (a := a) (i := 0) (k := n) (x := x) (by simpa using h)
  obtain ⟨j, hj, jk, e⟩ := this
  exact ⟨j, by omega, jk, by simpa using e⟩
theorem mem_ext_ix {a : Array Keyed} {p n : Nat} {x : Keyed} (h : x ∈ (a.extract p n).toList) : ∃ j, ∃ hj : j < a.size, p ≤ j ∧ j < n ∧ x = a[j] := by
  rw [Array.toList_extract, List.extract_eq_take_drop] at h
  obtain ⟨j, hj, jk, e⟩ := mem_take_ix h
  exact ⟨p + j, hj, by omega, by omega, e⟩
theorem hDn_list (na nb : Nat) (out : Array Keyed) : (hDn a b na nb out).toList = a.toList.take na ++ (b.toList.take nb ++ out.toList.reverse) := by
  unfold hDn
  rw [Array.toList_append, Array.toList_append, ext_take, ext_take, Array.toList_reverse, List.append_assoc]
theorem hFb_list (na nb : Nat) (out : Array Keyed) : (hFb a b na nb out).toList = b.toList.take nb ++ (a.toList.take na ++ out.toList.reverse) := by
  unfold hFb
  rw [Array.toList_append, Array.toList_append, ext_take, ext_take, Array.toList_reverse, List.append_assoc]
theorem fin_a0 {na nb : Nat} {out : Array Keyed} (m : MM lb a b na nb out) (e : na = 0) : Res lb a.toList b.toList (hDn a b na nb out).toList := by
  subst e
  rw [hDn_list]
  exact ⟨by simpa using m.sb, m.pm⟩
theorem fin_b0 {na nb : Nat} {out : Array Keyed} (m : MM lb a b na nb out) (e : nb = 0) : Res lb a.toList b.toList (hDn a b na nb out).toList := by
  subst e
  rw [hDn_list]
  exact ⟨by simpa using m.sa, m.pm⟩
theorem fin_b1 (H : Hz M A E s lb D kd a b) {na nb : Nat} {out : Array Keyed} (m : MM lb a b na nb out) (e : nb = 1) (hb : 0 < b.size) : Res lb a.toList b.toList (hFb a b na nb out).toList := by
  subst e
  rw [hFb_list]
  have t : b.toList.take 1 = [b[0]] := by rw [take_one (by decide) hb]; simp
  have sb := m.sb
  rw [t] at sb ⊢
  refine ⟨?_, ?_⟩
  · refine List.pairwise_append.mpr ⟨List.pairwise_singleton _ _, m.sa, fun x hx y hy => ?_⟩
    have : x = b[0] := by simpa using hx
    subst this
    rcases List.mem_append.mp hy with z | z
    · exact H.first hb y (List.mem_of_mem_take z)
    · exact (List.pairwise_append.mp sb).2.2 _ (by simp) y z
  · have pm := m.pm
    rw [t] at pm
    refine List.Perm.trans ?_ pm
    rw [← List.append_assoc, ← List.append_assoc]
    exact List.Perm.append_right _ List.perm_append_comm
theorem stp_a (H : Hz M A E s lb D kd a b) {na nb : Nat} {out : Array Keyed} (m : MM lb a b na nb out) (n0 : 0 < na) (hn : na ≤ a.size) (c : ∀ x ∈ b.toList.take nb, le lb x (a[na - 1]'(by omega))) : MM lb a b (na - 1) nb (out.push (a[na - 1]'(by omega))) := by
  have m : Mh lb a.toList b.toList out.toList.reverse (a.toList.take na) (b.toList.take nb) := m
  rw [take_one n0 hn] at m
  show Mh lb _ _ (out.push _).toList.reverse _ _
  rw [Array.toList_push, List.reverse_append]
  refine m.moveA fun x hx y hy => ?_
  have : y = a[na - 1]'(by omega) := by simpa using hy
  rw [this]
  exact c x hx
theorem stp_b (H : Hz M A E s lb D kd a b) {na nb : Nat} {out : Array Keyed} (m : MM lb a b na nb out) (n0 : 0 < nb) (hn : nb ≤ b.size) (c : ∀ x ∈ a.toList.take na, le lb x (b[nb - 1]'(by omega))) : MM lb a b na (nb - 1) (out.push (b[nb - 1]'(by omega))) := by
  have m : Mh lb a.toList b.toList out.toList.reverse (a.toList.take na) (b.toList.take nb) := m
  rw [take_one n0 hn] at m
  show Mh lb _ _ (out.push _).toList.reverse _ _
  rw [Array.toList_push, List.reverse_append]
  refine m.moveB fun x hx y hy => ?_
  have : y = b[nb - 1]'(by omega) := by simpa using hy
  rw [this]
  exact c x hx
theorem chk_a {na nb p : Nat} {out : Array Keyed} (m : MM lb a b na nb out) (hp : p ≤ na) (c : ∀ x ∈ b.toList.take nb, ∀ y ∈ (a.extract p na).toList, le lb x y) : MM lb a b p nb (out ++ (a.extract p na).reverse) := by
  have m : Mh lb a.toList b.toList out.toList.reverse (a.toList.take na) (b.toList.take nb) := m
  rw [take_k a hp] at m
  show Mh lb _ _ (out ++ _).toList.reverse _ _
  rw [Array.toList_append, Array.toList_reverse, List.reverse_append, List.reverse_reverse]
  exact m.moveA c
theorem chk_b {na nb p : Nat} {out : Array Keyed} (m : MM lb a b na nb out) (hp : p ≤ nb) (c : ∀ x ∈ a.toList.take na, ∀ y ∈ (b.extract p nb).toList, le lb x y) : MM lb a b na p (out ++ (b.extract p nb).reverse) := by
  have m : Mh lb a.toList b.toList out.toList.reverse (a.toList.take na) (b.toList.take nb) := m
  rw [take_k b hp] at m
  show Mh lb _ _ (out ++ _).toList.reverse _ _
  rw [Array.toList_append, Array.toList_reverse, List.reverse_append, List.reverse_reverse]
  exact m.moveB c
theorem upto (W : Wk lb) {a : Array Keyed} (sa : Srtd lb a.toList) {n : Nat} {y : Keyed} (n0 : 0 < n) (hn : n ≤ a.size) (c : le lb (a[n - 1]'(by omega)) y) : ∀ x ∈ a.toList.take n, le lb x y := fun x hx => by
  obtain ⟨j, hj, jn, rfl⟩ := mem_take_ix0 hx
  exact W.trans (srt_le W sa (show j ≤ n - 1 by omega) (by omega)) c
theorem wpS_h1 (H : Hz M A E s lb D kd a b) {st : SortSt} (hk : kindOf st = kd) {out : Array Keyed} {na nb u v mg : Nat} (h : MH lb a b na nb out) {Q : ForInStep KS1 → SortSt → Prop}
    (q : ∀ r, TT lb a b (out.size + 1) r → Q r st) : wpS M A E s (h1 a b mg (none, na, nb, out, u, v)) Q st := by
  obtain ⟨m, a1, a2, b1, b2, sz⟩ := h
  unfold h1
  dsimp only
  refine wpS_bind (wpS_elem (getElem?_pos b (nb - 1) (by omega)) ?_)
  refine wpS_bind (wpS_elem (getElem?_pos a (na - 1) (by omega)) ?_)
  refine wpS_bind (H.L _ _ (H.db _ (by simp)) (H.da _ (by simp)) st _ hk ?_)
  cases e : lb (b[nb - 1]'(by omega)) (a[na - 1]'(by omega))
  case true =>
    simp only [if_true]
    refine wpS_bind (wpS_elem (getElem?_pos a (na - 1) (by omega)) ?_)
    have m' := stp_a H m a1 a2 (upto H.W H.sb (by omega) b2 (H.W.of_lt e))
    by_cases c : na - 1 = 0
    · rw [if_pos (by simpa using c)]
      exact wpS_pure (q _ (.inl ⟨_, rfl, fin_a0 m' c⟩))
    · rw [if_neg (by simpa using c)]
      have z : Zd lb a b (out.size + 1) (none, na - 1, nb, out.push (a[na - 1]'(by omega)), (u + 1, 0)) := ⟨rfl, ⟨m', by show 0 < na - 1; omega, by show na - 1 ≤ a.size; omega, b1, b2, by show (out.push _).size + (na - 1) + nb = _; rw [Array.size_push]; omega⟩, by show out.size + 1 ≤ (out.push _).size; rw [Array.size_push]; omega⟩
      split
      · exact wpS_pure (q _ (.inr z))
      · exact wpS_pure (q _ z)
  case false =>
    simp only [Bool.false_eq_true, if_false]
    refine wpS_bind (wpS_elem (getElem?_pos b (nb - 1) (by omega)) ?_)
    have m' := stp_b H m (by omega) b2 (upto H.W H.sa a1 a2 e)
    by_cases c : nb - 1 = 1
    · rw [if_pos (by simpa using c)]
      exact wpS_pure (q _ (.inl ⟨_, rfl, fin_b1 H m' c (by omega)⟩))
    · rw [if_neg (by simpa using c)]
      have z : Zd lb a b (out.size + 1) (none, na, nb - 1, out.push (b[nb - 1]'(by omega)), (0, v + 1)) := ⟨rfl, ⟨m', a1, a2, by show 1 < nb - 1; omega, by show nb - 1 ≤ b.size; omega, by show (out.push _).size + na + (nb - 1) = _; rw [Array.size_push]; omega⟩, by show out.size + 1 ≤ (out.push _).size; rw [Array.size_push]; omega⟩
      split
      · exact wpS_pure (q _ (.inr z))
      · exact wpS_pure (q _ z)
end
end Srt
set_option linter.all false
set_option maxHeartbeats 1000000
namespace Srt
set_option autoImplicit false
open PySem PyProof.Rows
section
variable {M : Model} {A : Around} {E : Value → Shared → Prop} {s : Shared} {lb : Keyed → Keyed → Bool} {D : Keyed → Prop} {kd : SortKind} {a b : Array Keyed}
theorem wpS_hC (H : Hz M A E s lb D kd a b) {st : SortSt} {out : Array Keyed} {na nb g k k1 n : Nat} (m : MM lb a b na nb out) (a1 : 0 < na) (a2 : na ≤ a.size) (b1 : 1 < nb) (b2 : nb ≤ b.size) (sz : out.size + na + nb = a.size + b.size) (hn : n ≤ out.size + 1)
    (c : ∀ x ∈ b.toList.take nb, le lb x (a[na - 1]'(by omega))) {Q : ForInStep KS → SortSt → Prop} (q : ∀ r, TT lb a b n r → Q r st) : wpS M A E s (hC a b na nb out g k k1) Q st := by
  unfold hC
  refine wpS_bind (wpS_elem (getElem?_pos a (na - 1) (by omega)) ?_)
  have m' := stp_a H m a1 a2 c
  by_cases e : na - 1 = 0
  · rw [if_pos (by simpa using e)]
    exact wpS_pure (q _ (.inl ⟨_, rfl, fin_a0 m' e⟩))
  · rw [if_neg (by simpa using e)]
    have z : Zd lb a b n (none, na - 1, nb, out.push (a[na - 1]'(by omega)), (g, k, k1)) := ⟨rfl, ⟨m', by show 0 < na - 1; omega, by show na - 1 ≤ a.size; omega, b1, b2, by show (out.push _).size + (na - 1) + nb = _; rw [Array.size_push]; omega⟩, by show n ≤ (out.push _).size; rw [Array.size_push]; omega⟩
    split
    · exact wpS_pure (q _ (.inr z))
    · exact wpS_pure (q _ z)
theorem wpS_hB (H : Hz M A E s lb D kd a b) {st : SortSt} (hk : kindOf st = kd) {out : Array Keyed} {na nb g k ob n : Nat} (h : MH lb a b na nb out) (hn : n ≤ out.size + 1)
    (c : ∀ (ha : na - 1 < a.size) (hb : nb - 1 < b.size), le lb a[na - 1] b[nb - 1]) {Q : ForInStep KS → SortSt → Prop} (q : ∀ r, TT lb a b n r → Q r st) : wpS M A E s (hB a b na nb out g k ob) Q st := by
  obtain ⟨m, a1, a2, b1, b2, sz⟩ := h
  unfold hB
  refine wpS_bind (wpS_elem (getElem?_pos b (nb - 1) (by omega)) ?_)
  have m' := stp_b H m (by omega) b2 (upto H.W H.sa a1 a2 (c (by omega) (by omega)))
  have sz' : (out.push (b[nb - 1]'(by omega))).size + na + (nb - 1) = a.size + b.size := by rw [Array.size_push]; omega
  have gr : out.size + 1 = (out.push (b[nb - 1]'(by omega))).size := by rw [Array.size_push]
  by_cases e : nb - 1 = 1
  · rw [if_pos (by simpa using e)]
    exact wpS_pure (q _ (.inl ⟨_, rfl, fin_b1 H m' e (by omega)⟩))
  · rw [if_neg (by simpa using e)]
    refine wpS_bind (wpS_elem (getElem?_pos a (na - 1) (by omega)) ?_)
    refine wpS_bind (wpS_gal H.W H.L hk (H.da _ (by simp)) H.db (by omega) (fun i j hi hj => srt_le H.W H.sb (by omega) (by omega)) (by omega) fun p kn g1 g2 => ?_)
    simp only [if_true, Nat.zero_add] at g1 g2
    have rest : ∀ x ∈ b.toList.take p, le lb x (a[na - 1]'(by omega)) := fun x hx => by
      obtain ⟨j, hj, jp, rfl⟩ := mem_take_ix0 hx
      exact H.W.of_lt (g1 j jp (by omega))
    dsimp only
    by_cases k0 : nb - 1 - p > 0
    · rw [if_pos k0]
      have m2 := chk_b (p := p) m' (by omega) fun x hx y hy => by
        obtain ⟨j, hj, pj, jn, rfl⟩ := mem_ext_ix hy
        exact upto H.W H.sa a1 a2 (g2 j pj jn) x hx
      have sz2 : (out.push (b[nb - 1]'(by omega)) ++ (b.extract p (nb - 1)).reverse).size + na + p = a.size + b.size := by
        rw [Array.size_append, Array.size_reverse, Array.size_extract]
        omega
      by_cases e1 : p = 1
      · rw [if_pos (by simpa using e1)]
        exact wpS_pure (q _ (.inl ⟨_, rfl, fin_b1 H m2 e1 (by omega)⟩))
      · rw [if_neg (by simpa using e1)]
        by_cases e2 : p = 0
        · rw [if_pos (by simpa using e2)]
          exact wpS_pure (q _ (.inl ⟨_, rfl, fin_b0 m2 e2⟩))
        · rw [if_neg (by simpa using e2)]
          exact wpS_hC H m2 a1 a2 (by omega) (by omega) sz2 (by omega) rest q
    · rw [if_neg k0]
      have e3 : p = nb - 1 := by omega
      rw [e3] at rest
      exact wpS_hC H m' a1 a2 (by omega) (by omega) sz' (by omega) rest q
theorem wpS_hA (H : Hz M A E s lb D kd a b) {st : SortSt} (hk : kindOf st = kd) {out : Array Keyed} {na nb g oa ob n : Nat} (h : MH lb a b na nb out) (hn : n ≤ out.size + 1) {Q : ForInStep KS → SortSt → Prop}
    (q : ∀ r, TT lb a b n r → Q r (setGal st g)) : wpS M A E s (hA a b na nb out g oa ob) Q st := by
  obtain ⟨m, a1, a2, b1, b2, sz⟩ := id h
  unfold hA
  rw [setMinGallop'_eq]
  refine wpS_bind (wpS_modify ?_)
  refine wpS_bind (wpS_elem (getElem?_pos b (nb - 1) (by omega)) ?_)
  refine wpS_bind (wpS_gal (st := setGal st g) H.W H.L hk (H.db _ (by simp)) H.da (by omega) (fun i j hi hj => srt_le H.W H.sa (by omega) (by omega)) (by omega) fun p kn g1 g2 => ?_)
  simp only [Bool.false_eq_true, if_false, Nat.zero_add] at g1 g2
  dsimp only
  by_cases k0 : na - p > 0
  · rw [if_pos k0]
    have m2 := chk_a (p := p) m (by omega) fun x hx y hy => by
      obtain ⟨j, hj, pj, jn, rfl⟩ := mem_ext_ix hy
      exact upto H.W H.sb (by omega) b2 (H.W.of_lt (g2 j pj jn)) x hx
    have sz2 : (out ++ (a.extract p na).reverse).size + p + nb = a.size + b.size := by
      rw [Array.size_append, Array.size_reverse, Array.size_extract]
      omega
    by_cases e1 : p = 0
    · rw [if_pos (by simpa using e1)]
      exact wpS_pure (q _ (.inl ⟨_, rfl, fin_a0 m2 e1⟩))
    · rw [if_neg (by simpa using e1)]
      exact wpS_hB (st := setGal st g) H hk ⟨m2, by omega, by omega, b1, b2, sz2⟩ (by omega) (fun _ _ => g1 (p - 1) (by omega) (by omega)) q
  · rw [if_neg k0]
    have e3 : p = na := by omega
    exact wpS_hB (st := setGal st g) H hk h hn (fun _ _ => g1 (na - 1) (by omega) (by omega)) q
theorem wpS_h0 (H : Hz M A E s lb D kd a b) {st : SortSt} (hk : kindOf st = kd) {out : Array Keyed} {na nb g : Nat} (h : MH lb a b na nb out) {Q : ForInStep KS0 → SortSt → Prop}
    (qd : ∀ r c st', Sm st st' → Res lb a.toList b.toList r.toList → Q (.done (some r, c)) st') (qy : ∀ c st', Sm st st' → Zd lb a b (out.size + 1) c → Q (.yield c) st') : wpS M A E s (h0 a b (none, na, nb, out, g)) Q st := by
  unfold h0
  dsimp only
  have tot : 0 < a.size + b.size := by have := h.2.2.1; have := h.2.1; omega
  refine wpS_bind (wpS_mono (wpS_forRange (I := fun x d st' => st' = st ∧ Zd lb a b (out.size + x) d) (Q := fun d st' => st' = st ∧ En lb a b (out.size + 1) d) ?step ?fin ⟨rfl, rfl, h, Nat.le_refl _⟩) ?post)
  case fin =>
    rintro d st' ⟨rfl, y⟩
    exact ⟨rfl, .inr (y.mono (by omega))⟩
  case step =>
    rintro x ⟨r, i, j, o, u, v⟩ st' _ _ ⟨rfl, e, mi, le⟩
    cases (show r = none from e)
    have le : out.size + x ≤ o.size := le
    refine wpS_h1 H hk mi fun r hr => ?_
    cases r with
    | done c => exact ⟨rfl, En.mono hr (by omega)⟩
    | yield c => exact ⟨rfl, Zd.mono hr (by omega)⟩
  case post =>
    rintro ⟨r, i, j, o, u, v⟩ st' ⟨rfl, hd⟩
    cases r with
    | some r =>
      dsimp only
      rcases hd with ⟨r', e, res⟩ | ⟨e, _⟩
      · cases e
        exact wpS_pure (qd _ _ _ (Sm.refl _) res)
      · cases e
    | none =>
      dsimp only
      have y : Zd lb a b (out.size + 1) (none, i, j, o, (u, v)) := by
        rcases hd with ⟨r', e, res⟩ | y
        · cases e
        · exact y
      refine wpS_bind (wpS_rule ?_)
      refine wpS_bind (wpS_mono (wpS_forRange (I := fun x f st2 => Sm st' st2 ∧ Zd lb a b (out.size + 1) f) (Q := fun f st2 => Sm st' st2 ∧ En lb a b (out.size + 1) f) ?step2 ?fin2 ⟨Sm.refl _, y⟩) ?post2)
      case fin2 =>
        rintro f st2 ⟨sm, y⟩
        exact ⟨sm, .inr y⟩
      case step2 =>
        rintro x ⟨r, i, j, o, g2, u, v⟩ st2 _ _ ⟨sm, e, mi, le⟩
        cases (show r = none from e)
        have le : out.size + 1 ≤ o.size := le
        dsimp only
        split
        all_goals
          refine wpS_hA (n := out.size + 1) H (sm.1.trans hk) mi (by omega) fun r hr => ?_
          cases r with
          | done c => exact ⟨sm.gal _, hr⟩
          | yield c => exact ⟨sm.gal _, hr⟩
      case post2 =>
        rintro ⟨r, i, j, o, g2, u, v⟩ st2 ⟨sm, hd⟩
        cases r with
        | some r =>
          dsimp only
          rcases hd with ⟨r', e, res⟩ | ⟨e, _⟩
          · cases e
            exact wpS_pure (qd _ _ _ sm res)
          · cases e
        | none =>
          dsimp only
          rcases hd with ⟨r', e, res⟩ | y
          · cases e
          · rw [setMinGallop'_eq]
            exact wpS_bind (wpS_modify (wpS_pure (qy _ _ (sm.gal _) y)))
theorem wpS_mergeHi (H : Hz M A E s lb D kd a b) {st : SortSt} (hk : kindOf st = kd) (a0 : 0 < a.size) (b0 : 0 < b.size) (last : le lb (b[b.size - 1]'(by omega)) (a[a.size - 1]'(by omega))) {Q : Array Keyed → SortSt → Prop}
    (q : ∀ r st', Sm st st' → Res lb a.toList b.toList r.toList → Q r st') : wpS M A E s (mergeHi' a b) Q st := by
  rw [mergeHi'_parts]
  refine wpS_bind (wpS_rule ?_)
  refine wpS_bind (wpS_elem (getElem?_pos a (a.size - 1) (by omega)) ?_)
  have ta : a.toList.take a.size = a.toList := List.take_of_length_le (by simp)
  have tb : b.toList.take b.size = b.toList := List.take_of_length_le (by simp)
  have m0 : MM lb a b a.size b.size #[] := by
    show Mh lb _ _ (#[] : Array Keyed).toList.reverse _ _
    rw [ta, tb]
    exact ⟨by simpa using H.sa, by simpa using H.sb, by simp⟩
  have m1 : MM lb a b (a.size - 1) b.size #[a[a.size - 1]'(by omega)] := stp_a H m0 a0 (Nat.le_refl _) (upto H.W H.sb b0 (Nat.le_refl _) last)
  by_cases e1 : a.size - 1 = 0
  · rw [if_pos (by simpa using e1)]
    exact wpS_pure (q _ _ (Sm.refl _) (fin_a0 m1 e1))
  rw [if_neg (by simpa using e1)]
  by_cases e2 : b.size = 1
  · rw [if_pos (by simpa using e2)]
    exact wpS_pure (q _ _ (Sm.refl _) (fin_b1 H m1 e2 b0))
  rw [if_neg (by simpa using e2)]
  refine wpS_bind (wpS_get ?_)
  refine wpS_bind (wpS_mono (wpS_forRange (I := fun x c st' => Sm st st' ∧ Zd lb a b (1 + x) c) (Q := fun c st' => Sm st st' ∧ ∃ r, c.1 = some r ∧ Res lb a.toList b.toList r.toList) ?step ?fin ⟨Sm.refl _, rfl, ⟨m1, by show 0 < a.size - 1; omega, by show a.size - 1 ≤ a.size; omega, by show 1 < b.size; omega, Nat.le_refl _, by show 1 + (a.size - 1) + b.size = _; omega⟩, Nat.le_refl _⟩) ?post)
  case post =>
    rintro ⟨r, c⟩ st' ⟨sm, r', e, res⟩
    cases e
    exact wpS_pure (q _ _ sm res)
  case fin =>
    rintro ⟨r, i, j, o, g⟩ st' ⟨sm, e, ⟨_, h1, h2, h3, h4, h5⟩, le⟩
    have h5 : o.size + i + j = a.size + b.size := h5
    have le : 1 + max 0 (a.size + b.size) ≤ o.size := le
    omega
  case step =>
    rintro x ⟨r, i, j, o, g⟩ st' _ _ ⟨sm, e, mi, le⟩
    cases (show r = none from e)
    have le : 1 + x ≤ o.size := le
    exact wpS_h0 H (sm.1.trans hk) mi (fun r c st2 sm2 res => ⟨⟨sm2.1.trans sm.1, sm2.2.1.trans sm.2.1, sm2.2.2.1.trans sm.2.2.1, sm2.2.2.2.trans sm.2.2.2⟩, r, rfl, res⟩) fun c st2 sm2 y => ⟨⟨sm2.1.trans sm.1, sm2.2.1.trans sm.2.1, sm2.2.2.1.trans sm.2.2.1, sm2.2.2.2.trans sm.2.2.2⟩, y.mono (by omega)⟩
end
end Srt
set_option linter.all false
set_option maxHeartbeats 1000000
namespace Srt
set_option autoImplicit false
open PySem PyProof.Rows
section
variable {α : Type} {lb : α → α → Bool}
theorem set_split (l : List α) (i : Nat) (x : α) (h : i < l.length) : l.set i x = l.take i ++ x :: l.drop (i + 1) := by
  rw [List.set_eq_take_append_cons_drop, if_pos h]
theorem wr : ∀ (xs : List α) (k : Nat) (arr : Array α) (lo : Nat), lo + k + xs.length ≤ arr.size → ((xs.zipIdx k).foldl (fun a (p : α × Nat) => a.setIfInBounds (lo + p.2) p.1) arr).toList = arr.toList.take (lo + k) ++ (xs ++ arr.toList.drop (lo + k + xs.length))
  | [], k, arr, lo, h => by simp
  | x :: xs, k, arr, lo, h => by
    rw [List.length_cons] at h
    rw [List.zipIdx_cons, List.foldl_cons]
    have ih := wr xs (k + 1) (arr.setIfInBounds (lo + k) x) lo (by rw [Array.size_setIfInBounds]; omega)
    rw [ih, Array.toList_setIfInBounds, set_split _ _ _ (by simp; omega)]
    have e : (arr.toList.take (lo + k)).length = lo + k := by simp; omega
    have t1 : (arr.toList.take (lo + k) ++ x :: arr.toList.drop (lo + k + 1)).take (lo + (k + 1)) = arr.toList.take (lo + k) ++ [x] := by
      rw [List.take_append, e, show lo + (k + 1) - (lo + k) = 1 by omega, List.take_of_length_le (by rw [e]; omega)]
      rfl
    have t2 : (arr.toList.take (lo + k) ++ x :: arr.toList.drop (lo + k + 1)).drop (lo + (k + 1) + xs.length) = arr.toList.drop (lo + k + (x :: xs).length) := by
      rw [List.drop_append, e, List.drop_eq_nil_of_le (by rw [e]; omega), List.nil_append, show lo + (k + 1) + xs.length - (lo + k) = xs.length + 1 by omega, List.drop_succ_cons, List.drop_drop, List.length_cons]
      congr 1
      omega
    rw [t1, t2]
    simp
theorem join_runs (W : Wk lb) {X1 X2 Y1 Y2 Mm : List α} (sx : Srtd lb (X1 ++ X2)) (sy : Srtd lb (Y1 ++ Y2)) (h1 : ∀ x ∈ X1, ∀ y ∈ Y1 ++ Y2, le lb x y) (h2 : ∀ x ∈ X2, ∀ y ∈ Y2, le lb x y) (r : Res lb X2 Y1 Mm) :
    Srtd lb (X1 ++ (Mm ++ Y2)) ∧ (X1 ++ (Mm ++ Y2)).Perm ((X1 ++ X2) ++ (Y1 ++ Y2)) := by
  have a1 := List.pairwise_append.mp sx
  have a2 := List.pairwise_append.mp sy
  have mem : ∀ z ∈ Mm, z ∈ X2 ∨ z ∈ Y1 := fun z hz => List.mem_append.mp ((r.2.mem_iff).mp hz)
  refine ⟨List.pairwise_append.mpr ⟨a1.1, List.pairwise_append.mpr ⟨r.1, a2.2.1, fun x hx y hy => ?_⟩, fun x hx y hy => ?_⟩, ?_⟩
  · rcases mem x hx with z | z
    · exact h2 x z y hy
    · exact a2.2.2 x z y hy
  · rcases List.mem_append.mp hy with z | z
    · rcases mem y z with w | w
      · exact a1.2.2 x hx y w
      · exact h1 x hx y (List.mem_append_left _ w)
    · exact h1 x hx y (List.mem_append_right _ z)
  · rw [List.append_assoc]
    refine List.Perm.append_left X1 ?_
    rw [← List.append_assoc]
    exact r.2.append_right Y2
end
end Srt
set_option linter.all false
set_option maxHeartbeats 1000000
local macro_rules | `(tactic| walk_at "sort_open mergeAt") => `(tactic| delta $(Lean.mkIdent (Lean.mkPrivateNameCore `PySem.Builtin.List.W1All `PySem.Builtin.mergeAt)):ident)
namespace Srt
set_option autoImplicit false
open PySem PyProof.Rows
section
variable {M : Model} {A : Around} {E : Value → Shared → Prop} {s : Shared} {lb : Keyed → Keyed → Bool} {D : Keyed → Prop} {kd : SortKind} {arr : Array Keyed}
theorem wpS_set {st st' : SortSt} {Q : PUnit → SortSt → Prop} (h : Q ⟨⟩ st') : wpS M A E s (set st' : StateT SortSt Sem PUnit) Q st := by
  unfold wpS; rw [StateT.run_set]; exact wpAny_pure ⟨rfl, h⟩
theorem ext_split {i m j : Nat} (h1 : i ≤ m) (h2 : m ≤ j) : (arr.extract i j).toList = (arr.extract i m).toList ++ (arr.extract m j).toList := by
  rw [← Array.toList_append, Array.extract_append_extract, Nat.min_eq_left h1, Nat.max_eq_right h2]
theorem seg_ix (W : Wk lb) {lo n : Nat} (h : Srtd lb (arr.extract lo (lo + n)).toList) (hn : lo + n ≤ arr.size) (i j : Nat) (hi : i ≤ j) (hj : j < n) : le lb (arr[lo + i]'(by omega)) (arr[lo + j]'(by omega)) := by
  have := srt_le W h hi (show j < (arr.extract lo (lo + n)).size by rw [Array.size_extract]; omega)
  simpa using this
def Joined (lb : Keyed → Keyed → Bool) (arr arr' : Array Keyed) (lo n : Nat) : Prop := ∃ m : List Keyed, arr'.toList = arr.toList.take lo ++ (m ++ arr.toList.drop (lo + n)) ∧ Srtd lb m ∧ m.Perm (arr.extract lo (lo + n)).toList
theorem whole {lo n : Nat} (h : lo + n ≤ arr.size) : arr.toList = arr.toList.take lo ++ ((arr.extract lo (lo + n)).toList ++ arr.toList.drop (lo + n)) := by
  rw [ext_mid, ← List.drop_drop, List.take_append_drop, List.take_append_drop]
theorem wpS_mergeAt (W : Wk lb) (hL : LtOk M A E s lb D kd) {st : SortSt} (hk : kindOf st = kd) (hf : failedOf st = none) (dd : ∀ x ∈ (arrOf st).toList, D x) {i sa na nb pa pb : Nat} (hi : (pendingOf st)[i]? = some (sa, na, pa)) (hj : (pendingOf st)[i + 1]? = some (sa + na, nb, pb))
    (na0 : 0 < na) (nb0 : 0 < nb) (hn : sa + na + nb ≤ (arrOf st).size) (sx : Srtd lb ((arrOf st).extract sa (sa + na)).toList) (sy : Srtd lb ((arrOf st).extract (sa + na) (sa + na + nb)).toList) {Q : Bool → SortSt → Prop}
    (q : ∀ st', kindOf st' = kd → failedOf st' = none → pendingOf st' = ((pendingOf st).setIfInBounds i (sa, na + nb, pa)).eraseIdxIfInBounds (i + 1) → Joined lb (arrOf st) (arrOf st') sa (na + nb) → Q true st') : wpS M A E s (mergeAt' i) Q st := by
  unfold mergeAt'
  walk_at "sort_open mergeAt"
  dsimp only
  refine wpS_bind (wpS_get ?_)
  rw [hi, hj]
  dsimp only
  refine wpS_bind (wpS_set ?_)
  generalize hP : ((pendingOf st).setIfInBounds i (sa, na + nb, pa)).eraseIdxIfInBounds (i + 1) = PP at *
  have dx : ∀ {j : Nat} (h : j < (arrOf st).size), D (arrOf st)[j] := fun h => dd _ (by simp)
  have z1 : sa + na < (arrOf st).size := by omega
  have z2 : sa + na - 1 < (arrOf st).size := by omega
  have z3 : sa + na ≤ (arrOf st).size := by omega
  refine wpS_bind (wpS_elem (arr := arrOf st) (getElem?_pos (arrOf st) (sa + na) z1) ?_)
  refine wpS_bind (wpS_gal (arr := arrOf st) (st := setPending st PP) W hL hk (dx z1) dd z3 (seg_ix (arr := arrOf st) W sx z3) na0 fun k kn g1 g2 => ?_)
  simp only [Bool.false_eq_true, if_false] at g1 g2
  dsimp only
  have spX := ext_split (arr := arrOf st) (i := sa) (m := sa + k) (j := sa + na) (by omega) (by omega)
  have spW := ext_split (arr := arrOf st) (i := sa) (m := sa + na) (j := sa + na + nb) (by omega) (by omega)
  have iy := seg_ix W sy (by omega)
  have ix := seg_ix W sx (by omega)
  have same : ∀ {X : List Keyed}, X = ((arrOf st).extract sa (sa + (na + nb))).toList → Srtd lb X → Joined lb (arrOf st) (arrOf st) sa (na + nb) := fun {X} e h => ⟨X, by rw [e]; exact whole (by omega), h, by rw [e]⟩
  have low : ∀ x ∈ ((arrOf st).extract sa (sa + k)).toList, ∀ y ∈ ((arrOf st).extract (sa + na) (sa + na + nb)).toList, le lb x y := fun x hx y hy => by
    obtain ⟨j, hj, j1, j2, rfl⟩ := mem_ext_ix hx
    obtain ⟨j', hj', j1', j2', rfl⟩ := mem_ext_ix hy
    have e1 := g1 (j - sa) (by omega) (by omega)
    have e2 := iy 0 (j' - (sa + na)) (by omega) (by omega)
    simp only [show sa + (j - sa) = j by omega, show sa + na + (j' - (sa + na)) = j' by omega, Nat.add_zero] at e1 e2
    exact W.trans e1 e2
  by_cases e : na - k = 0
  · rw [if_pos (by simpa using e)]
    have ek : sa + k = sa + na := by omega
    rw [ek] at low
    exact wpS_pure (q _ hk hf rfl (same (by rw [← Nat.add_assoc]; exact spW.symm) (List.pairwise_append.mpr ⟨sx, sy, low⟩)))
  rw [if_neg (by simpa using e)]
  have eL : sa + k + (na - k) - 1 = sa + na - 1 := by omega
  rw [eL]
  refine wpS_bind (wpS_elem (arr := arrOf st) (getElem?_pos (arrOf st) (sa + na - 1) z2) ?_)
  refine wpS_bind (wpS_gal (arr := arrOf st) (st := setPending st PP) W hL hk (dx z2) dd hn iy (by omega) fun p pn f1 f2 => ?_)
  simp only [if_true] at f1 f2
  dsimp only
  have toLast : ∀ x ∈ ((arrOf st).extract sa (sa + na)).toList, le lb x ((arrOf st)[sa + na - 1]'(by omega)) := fun x hx => by
    obtain ⟨j, hj, j1, j2, rfl⟩ := mem_ext_ix hx
    have e1 := ix (j - sa) (na - 1) (by omega) (by omega)
    simp only [show sa + (j - sa) = j by omega, show sa + (na - 1) = sa + na - 1 by omega] at e1
    exact e1
  have high : ∀ y ∈ ((arrOf st).extract (sa + na + p) (sa + na + nb)).toList, le lb ((arrOf st)[sa + na - 1]'(by omega)) y := fun y hy => by
    obtain ⟨j, hj, j1, j2, rfl⟩ := mem_ext_ix hy
    have e1 := f2 (j - (sa + na)) (by omega) (by omega)
    simp only [show sa + na + (j - (sa + na)) = j by omega] at e1
    exact e1
  by_cases e0 : p = 0
  · rw [if_pos (by simpa using e0)]
    rw [e0, Nat.add_zero] at high
    exact wpS_pure (q _ hk hf rfl (same (by rw [← Nat.add_assoc]; exact spW.symm) (List.pairwise_append.mpr ⟨sx, sy, fun x hx y hy => W.trans (toLast x hx) (high y hy)⟩)))
  rw [if_neg (by simpa using e0)]
  have spY := ext_split (arr := arrOf st) (i := sa + na) (m := sa + na + p) (j := sa + na + nb) (by omega) (by omega)
  have sx' := sx
  rw [spX] at sx'
  have sy' := sy
  rw [spY] at sy'
  have mx : ∀ {u v : Nat}, ∀ x ∈ ((arrOf st).extract u v).toList, D x := fun x hx => by
    obtain ⟨j, hj, _, _, rfl⟩ := mem_ext_ix hx
    exact dx hj
  have szx : ((arrOf st).extract (sa + k) (sa + na)).size = na - k := by rw [Array.size_extract]; omega
  have szy : ((arrOf st).extract (sa + na) (sa + na + p)).size = p := by rw [Array.size_extract]; omega
  have x0 : ∀ (h : 0 < ((arrOf st).extract (sa + k) (sa + na)).size), ((arrOf st).extract (sa + k) (sa + na))[0] = (arrOf st)[sa + k]'(by omega) := fun h => by simp
  have xl : ∀ (h : 0 < ((arrOf st).extract (sa + k) (sa + na)).size), ((arrOf st).extract (sa + k) (sa + na))[((arrOf st).extract (sa + k) (sa + na)).size - 1]'(by omega) = (arrOf st)[sa + na - 1]'(by omega) := fun h => by
    rw [Array.getElem_extract]
    congr 1
    omega
  have y0 : ∀ (h : 0 < ((arrOf st).extract (sa + na) (sa + na + p)).size), ((arrOf st).extract (sa + na) (sa + na + p))[0] = (arrOf st)[sa + na]'(by omega) := fun h => by simp
  have below : ∀ y ∈ ((arrOf st).extract (sa + na) (sa + na + p)).toList, le lb y ((arrOf st)[sa + na - 1]'(by omega)) := fun y hy => by
    obtain ⟨j, hj, j1, j2, rfl⟩ := mem_ext_ix hy
    have e1 := f1 (j - (sa + na)) (by omega) (by omega)
    simp only [show sa + na + (j - (sa + na)) = j by omega] at e1
    exact W.of_lt e1
  have above : ∀ y ∈ ((arrOf st).extract (sa + k) (sa + na)).toList, le lb ((arrOf st)[sa + na]'(by omega)) y := fun y hy => by
    obtain ⟨j, hj, j1, j2, rfl⟩ := mem_ext_ix hy
    have e1 := g2 (j - sa) (by omega) (by omega)
    simp only [show sa + (j - sa) = j by omega] at e1
    exact W.of_lt e1
  have fin : ∀ (r : Array Keyed) (st' : SortSt), Sm (setPending st PP) st' → Res lb ((arrOf st).extract (sa + k) (sa + na)).toList ((arrOf st).extract (sa + na) (sa + na + p)).toList r.toList →
      wpS M A E s (do modify fun s => setArr s (r.toList.zipIdx.foldl (fun a (p, j) => a.setIfInBounds (sa + k + j) p) (arrOf s)); let __do_lift ← get; pure (failedOf __do_lift).isNone) Q st' := fun r st' sm res => by
    refine wpS_bind (wpS_modify (wpS_bind (wpS_get ?_)))
    have ef : failedOf st' = none := sm.2.2.2.trans hf
    have ea : arrOf st' = arrOf st := sm.2.1
    refine wpS_pure ?_
    show Q (failedOf st').isNone _
    rw [ef]
    refine q _ (sm.1.trans hk) ef sm.2.2.1 ?_
    show Joined lb (arrOf st) (r.toList.zipIdx.foldl (fun a (p : Keyed × Nat) => a.setIfInBounds (sa + k + p.2) p.1) (arrOf st')) sa (na + nb)
    rw [ea]
    obtain ⟨j1, j2⟩ := join_runs W sx' sy' (by rw [← spY]; exact low) (fun x hx y hy => W.trans (toLast x (by rw [spX]; exact List.mem_append_right _ hx)) (high y hy)) res
    rw [← spX, ← spY, ← spW] at j2
    refine ⟨_, ?_, j1, by rw [← Nat.add_assoc]; exact j2⟩
    have len : r.toList.length = na - k + p := by
      have := res.2.length_eq
      rw [List.length_append] at this
      simp only [Array.length_toList, szx, szy] at this
      simpa using this
    rw [wr r.toList 0 (arrOf st) (sa + k) (by rw [len]; omega), len]
    have t1 : (arrOf st).toList.take (sa + k + 0) = (arrOf st).toList.take sa ++ ((arrOf st).extract sa (sa + k)).toList := take_k (arrOf st) (by omega)
    have t2 : (arrOf st).toList.drop (sa + k + 0 + (na - k + p)) = ((arrOf st).extract (sa + na + p) (sa + na + nb)).toList ++ (arrOf st).toList.drop (sa + (na + nb)) := by
      rw [show sa + k + 0 + (na - k + p) = sa + na + p by omega, show sa + na + nb = sa + na + p + (nb - p) by omega, ext_mid, show sa + (na + nb) = sa + na + p + (nb - p) by omega]
      exact drop_k _ _ _
    rw [t1, t2]
    simp only [List.append_assoc]
  have mx0 : (arrOf st)[sa + k]'(by omega) ∈ ((arrOf st).extract (sa + k) (sa + na)).toList := by
    rw [← x0 (by omega), Array.mem_toList_iff]
    exact Array.getElem_mem _
  have myl : ((arrOf st).extract (sa + na) (sa + na + p))[((arrOf st).extract (sa + na) (sa + na + p)).size - 1]'(by omega) ∈ ((arrOf st).extract (sa + na) (sa + na + p)).toList := by
    rw [Array.mem_toList_iff]
    exact Array.getElem_mem _
  by_cases c : na - k ≤ p
  · rw [if_pos c]
    refine wpS_bind ?_
    exact wpS_mergeLo (st := setPending st PP) ⟨W, hL, mx, mx, (List.pairwise_append.mp sx').2.1, (List.pairwise_append.mp sy').1, fun h y hy => by rw [xl h]; exact below y hy⟩ hk (by omega) (by omega) (by rw [x0 (by omega), y0 (by omega)]; exact above _ mx0) fin
  · rw [if_neg c]
    refine wpS_bind ?_
    exact wpS_mergeHi (st := setPending st PP) ⟨W, hL, mx, mx, (List.pairwise_append.mp sx').2.1, (List.pairwise_append.mp sy').1, fun h y hy => by rw [y0 h]; exact above y hy⟩ hk (by omega) (by omega) (by rw [xl (by omega)]; exact below _ myl) fin
end
end Srt
set_option linter.all false
set_option maxHeartbeats 1000000
namespace Srt
theorem pw_le1 {α : Type} {R : α → α → Prop} : ∀ {l : List α}, l.length ≤ 1 → l.Pairwise R
  | [], _ => List.Pairwise.nil
  | [_], _ => List.pairwise_singleton _ _
set_option autoImplicit false
open PySem PyProof.Rows
section
variable {α : Type}
theorem swap_adj (arr : Array α) {Q R : List α} {y x : α} (h : arr.toList = Q ++ y :: x :: R) : (arr.swapIfInBounds (Q.length + 1) Q.length).toList = Q ++ x :: y :: R := by
  have sz : arr.size = Q.length + (R.length + 2) := by
    have := congrArg List.length h
    simpa using this
  have g : ∀ k, arr[k]? = (Q ++ y :: x :: R)[k]? := fun k => by rw [← h, Array.getElem?_toList]
  refine List.ext_getElem? fun k => ?_
  have e := getElem?_swapIB (xs := arr) (i := Q.length + 1) (j := Q.length) (by omega) (by omega) k
  rw [show (arr.swapIfInBounds (Q.length + 1) Q.length).toList[k]? = (arr.swapIfInBounds (Q.length + 1) Q.length)[k]? by simp, e, g, g, g]
  rcases Nat.lt_or_ge k Q.length with c | c
  · rw [if_neg (by omega), if_neg (by omega), List.getElem?_append_left c, List.getElem?_append_left c]
  · obtain ⟨j, rfl⟩ : ∃ j, k = Q.length + j := ⟨k - Q.length, by omega⟩
    rw [List.getElem?_append_right (by omega), List.getElem?_append_right (by omega), List.getElem?_append_right (by omega), List.getElem?_append_right (by omega)]
    rw [show Q.length + j - Q.length = j by omega, show Q.length + 1 - Q.length = 1 by omega, Nat.sub_self]
    match j with
    | 0 => simp
    | 1 => simp
    | j + 2 =>
      rw [if_neg (by omega), if_neg (by omega)]
      simp
theorem bubble_list : ∀ (m2 m1 T : List α) (x : α) (arr : Array α), arr.toList = m1 ++ (m2 ++ x :: T) → (bubble arr (m1.length + m2.length) m2.length).toList = m1 ++ (x :: (m2 ++ T))
  | [], m1, T, x, arr, h => h
  | y :: m2, m1, T, x, arr, h => by
    have ih := bubble_list m2 (m1 ++ [y]) T x arr (by rw [h]; simp)
    rw [List.length_cons, bubble_succ]
    rw [List.length_append, List.length_singleton, show m1.length + 1 + m2.length = m1.length + (m2.length + 1) by omega] at ih
    have e := swap_adj (bubble arr (m1.length + (m2.length + 1)) m2.length) (Q := m1) (y := y) (x := x) (R := m2 ++ T) (by rw [ih]; simp)
    rw [show m1.length + (m2.length + 1) - m2.length = m1.length + 1 by omega, show m1.length + 1 - 1 = m1.length by omega]
    rw [e]
    simp
end
section
variable {M : Model} {A : Around} {E : Value → Shared → Prop} {s : Shared} {lb : Keyed → Keyed → Bool} {D : Keyed → Prop} {kd : SortKind}
theorem wpS_ltL (hL : LtOk M A E s lb D kd) {st : SortSt} (hk : kindOf st = kd) {i j : Nat} {x y : Keyed} (hx : (arrOf st)[i]? = some x) (hy : (arrOf st)[j]? = some y) (dx : D x) (dy : D y) {Q : Option Bool → SortSt → Prop} (q : Q (some (lb x y)) st) : wpS M A E s (ltAt' i j) Q st := by
  rw [ltAt'_eq]
  refine wpS_bind (wpS_get ?_)
  exact wpS_bind (wpS_elem hx (wpS_bind (wpS_elem hy (hL _ _ dx dy st _ hk q))))
def Sa (st st' : SortSt) : Prop := kindOf st' = kindOf st ∧ pendingOf st' = pendingOf st ∧ failedOf st' = failedOf st
theorem ins_srt (W : Wk lb) {m1 m2 : List Keyed} {x : Keyed} (h : Srtd lb (m1 ++ m2)) (h1 : ∀ y ∈ m1, le lb y x) (h2 : ∀ y ∈ m2, le lb x y) : Srtd lb (m1 ++ x :: m2) := by
  have a := List.pairwise_append.mp h
  refine List.pairwise_append.mpr ⟨a.1, List.pairwise_cons.mpr ⟨h2, a.2.1⟩, fun y hy z hz => ?_⟩
  rcases List.mem_cons.mp hz with rfl | w
  · exact h1 y hy
  · exact a.2.2 y hy z w
theorem wpS_binary (W : Wk lb) (hL : LtOk M A E s lb D kd) {st : SortSt} (hk : kindOf st = kd) (dd : ∀ x ∈ (arrOf st).toList, D x) {lo n ok : Nat} (hok : ok ≤ n) (hn : lo + n ≤ (arrOf st).size) (hs : Srtd lb ((arrOf st).extract lo (lo + ok)).toList) {Q : Bool → SortSt → Prop}
    (q : ∀ st', Sa st st' → Joined lb (arrOf st) (arrOf st') lo n → Q true st') : wpS M A E s (binarySort' lo n ok) Q st := by
  rw [binarySort'_eq]
  refine wpS_bind (wpS_mono (wpS_forRange (I := fun k c st' => c = (none, ()) ∧ Sa st st' ∧ Joined lb (arrOf st) (arrOf st') lo (min k n)) (Q := fun c st' => c = (none, ()) ∧ Sa st st' ∧ Joined lb (arrOf st) (arrOf st') lo n) ?step ?fin ?init) ?post)
  case post =>
    rintro c st' ⟨rfl, sm, j⟩
    exact wpS_pure (q st' sm j)
  case fin =>
    rintro c st' ⟨rfl, sm, j⟩
    refine ⟨rfl, sm, ?_⟩
    rwa [show min (max (max ok 1) n) n = n by omega] at j
  case init =>
    refine ⟨rfl, ⟨rfl, rfl, rfl⟩, _, whole (by omega), ?_, List.Perm.refl _⟩
    by_cases o : ok = 0
    · have : ((arrOf st).extract lo (lo + min (max ok 1) n)).toList.length ≤ 1 := by
        rw [Array.length_toList, Array.size_extract]
        omega
      generalize ((arrOf st).extract lo (lo + min (max ok 1) n)).toList = l at *
      exact pw_le1 this
    · rwa [show min (max ok 1) n = ok by omega]
  case step =>
    rintro k c st' _ hkn ⟨rfl, sm, m, e, sr, pm⟩
    rw [show min k n = k by omega] at e pm
    have lm : m.length = k := by rw [pm.length_eq, Array.length_toList, Array.size_extract]; omega
    have lp : ((arrOf st).toList.take lo).length = lo := by simp; omega
    have kz : lo + k < (arrOf st).size := by omega
    rw [drop_one kz] at e
    have ax : (arrOf st')[lo + k]? = some ((arrOf st)[lo + k]) := by
      rw [← Array.getElem?_toList, e, List.getElem?_append_right (by omega), lp, List.getElem?_append_right (by omega), lm, show lo + k - lo - k = 0 by omega]
      rfl
    have am : ∀ j (h : j < m.length), (arrOf st')[lo + j]? = some m[j] := fun j h => by
      rw [← Array.getElem?_toList, e, List.getElem?_append_right (by omega), lp, List.getElem?_append_left (by omega), show lo + j - lo = j by omega]
      exact List.getElem?_eq_getElem h
    have dx : D (arrOf st)[lo + k] := dd _ (by simp)
    have dm : ∀ j (h : j < m.length), D m[j] := fun j h => by
      obtain ⟨i, hi, _, _, ei⟩ := mem_ext_ix (pm.mem_iff.mp (List.getElem_mem h))
      rw [ei]
      exact dd _ (by simp)
    have mono : ∀ i j (h : i ≤ j) (hj : j < m.length), le lb (m[i]'(by omega)) m[j] := fun i j h hj => by
      by_cases z : i = j
      · subst z; exact W.refl _
      · exact List.pairwise_iff_getElem.mp sr i j (by omega) hj (by omega)
    refine wpS_bind (wpS_mono (wpS_forRange (I := fun x c st2 => st2 = st' ∧ ∃ l r, c = (none, l, r) ∧ l ≤ r ∧ r ≤ k ∧ r - l ≤ k - x ∧ (∀ i (h : i < m.length), i < l → le lb m[i] (arrOf st)[lo + k]) ∧ (∀ i (h : i < m.length), r ≤ i → le lb (arrOf st)[lo + k] m[i]))
      (Q := fun c st2 => st2 = st' ∧ ∃ l r, c = (none, l, r) ∧ l ≤ k ∧ (∀ i (h : i < m.length), i < l → le lb m[i] (arrOf st)[lo + k]) ∧ (∀ i (h : i < m.length), l ≤ i → le lb (arrOf st)[lo + k] m[i])) ?istep ?ifin ?iinit) ?ipost)
    case iinit => exact ⟨rfl, 0, k, rfl, by omega, by omega, by omega, fun i _ hi => by omega, fun i h1 h2 => by omega⟩
    case ifin =>
      rintro c st2 ⟨rfl, l, r, rfl, lr, rk, d, a1, a2⟩
      have : l = r := by omega
      subst this
      exact ⟨rfl, l, l, rfl, rk, a1, a2⟩
    case istep =>
      rintro x c st2 _ _ ⟨rfl, l, r, rfl, lr, rk, d, a1, a2⟩
      dsimp only
      by_cases hge : l ≥ r
      · rw [if_pos hge]
        have : l = r := by omega
        subst this
        exact wpS_pure ⟨rfl, l, l, rfl, rk, a1, a2⟩
      · rw [if_neg hge]
        have hm : (l + r) / 2 < m.length := by omega
        refine wpS_bind (wpS_ltL hL (sm.1.trans hk) ax (am _ hm) dx (dm _ hm) ?_)
        cases z : lb (arrOf st)[lo + k] m[(l + r) / 2]
        case true =>
          simp only [if_true]
          exact wpS_pure ⟨rfl, l, _, rfl, by omega, by omega, by omega, a1, fun i h hi => W.trans (W.of_lt z) (mono _ i hi h)⟩
        case false =>
          simp only [Bool.false_eq_true, if_false]
          exact wpS_pure ⟨rfl, _, r, rfl, by omega, by omega, by omega, fun i h hi => W.trans (mono i _ (by omega) hm) z, a2⟩
    case ipost =>
      rintro c st2 ⟨rfl, l, r, rfl, lk, a1, a2⟩
      show wpS _ _ _ _ (do moveDown' (lo + k) (lo + l); pure (ForInStep.yield (none, ()))) _ _
      rw [moveDown'_eq]
      refine wpS_bind (wpS_modify (wpS_pure ⟨rfl, sm, ?_⟩))
      rw [show min (k + 1) n = k + 1 by omega]
      show Joined lb (arrOf st) (bubble (arrOf st2) (lo + k) (lo + k - (lo + l))) lo (k + 1)
      have b := bubble_list (m.drop l) ((arrOf st).toList.take lo ++ m.take l) ((arrOf st).toList.drop (lo + k + 1)) ((arrOf st)[lo + k]) (arrOf st2) (by
        rw [e]
        conv => lhs; rw [← List.take_append_drop l m]
        simp only [List.append_assoc, List.singleton_append])
      have l1 : ((arrOf st).toList.take lo ++ m.take l).length + (m.drop l).length = lo + k := by
        rw [List.length_append, lp, List.length_take, List.length_drop]; omega
      have l2 : (m.drop l).length = lo + k - (lo + l) := by rw [List.length_drop]; omega
      rw [l1, l2] at b
      refine ⟨m.take l ++ (arrOf st)[lo + k] :: m.drop l, ?_, ins_srt W (by rw [List.take_append_drop]; exact sr) (fun y hy => ?_) (fun y hy => ?_), ?_⟩
      · rw [b, ← Nat.add_assoc]
        simp only [List.append_assoc, List.cons_append]
      · obtain ⟨i, hi, rfl⟩ := List.mem_iff_getElem.mp hy
        rw [List.length_take] at hi
        rw [List.getElem_take]
        exact a1 i (by omega) (by omega)
      · obtain ⟨i, hi, rfl⟩ := List.mem_iff_getElem.mp hy
        rw [List.length_drop] at hi
        rw [List.getElem_drop]
        exact a2 _ (by omega) (by omega)
      · refine List.Perm.trans List.perm_middle ?_
        rw [List.take_append_drop, ext_split (i := lo) (m := lo + k) (j := lo + (k + 1)) (by omega) (by omega)]
        have : ((arrOf st).extract (lo + k) (lo + (k + 1))).toList = [(arrOf st)[lo + k]] := by
          rw [← Nat.add_assoc, ext_mid, drop_one kz]
          rfl
        rw [this]
        exact (List.perm_append_comm (l₁ := [(arrOf st)[lo + k]]) (l₂ := m)).trans (pm.append_right _)
end
end Srt
set_option linter.all false
set_option maxHeartbeats 1000000
namespace Srt
set_option autoImplicit false
open PySem PyProof.Rows
section
variable {α : Type}
theorem mirror_list (arr : Array α) {P m T : List α} {i j : Nat} (h : arr.toList = P ++ (m ++ T)) (hi : i = P.length) (hj : j = P.length + m.length) : (mirror arr i j ((j - i) / 2)).toList = P ++ (m.reverse ++ T) := by
  subst hi hj
  have sz : arr.size = P.length + (m.length + T.length) := by
    have := congrArg List.length h
    simpa using this
  have g : ∀ k, arr[k]? = (P ++ (m ++ T))[k]? := fun k => by rw [← h, Array.getElem?_toList]
  refine List.ext_getElem? fun k => ?_
  rw [Array.getElem?_toList, getElem?_mirror_all (by omega), g, g]
  rcases Nat.lt_or_ge k P.length with c | c
  · rw [if_neg (by omega), List.getElem?_append_left c, List.getElem?_append_left c]
  · rcases Nat.lt_or_ge k (P.length + m.length) with c2 | c2
    · rw [if_pos ⟨c, c2⟩, List.getElem?_append_right (by omega), List.getElem?_append_right c, List.getElem?_append_left (by omega), List.getElem?_append_left (by rw [List.length_reverse]; omega), List.getElem?_reverse (by omega)]
      congr 1
      omega
    · rw [if_neg (by omega), List.getElem?_append_right c, List.getElem?_append_right c, List.getElem?_append_right (by omega), List.getElem?_append_right (by rw [List.length_reverse]; omega), List.length_reverse]
end
section
variable {α : Type} {lb : α → α → Bool}
def Fal (lb : α → α → Bool) (l : List α) : Prop := l.Pairwise fun a b => le lb b a
theorem Fal.rev {l : List α} (h : Fal lb l) : Srtd lb l.reverse := List.pairwise_reverse.mpr h
theorem Fal.tail {u t : List α} (h : Fal lb (u ++ t)) (e : Srtd lb t) : Fal lb (u ++ t.reverse) := by
  have a := List.pairwise_append.mp h
  refine List.pairwise_append.mpr ⟨a.1, List.pairwise_reverse.mpr e, fun x hx y hy => a.2.2 x hx y (List.mem_reverse.mp hy)⟩
end
end Srt
set_option linter.all false
set_option maxHeartbeats 1000000
namespace Srt
set_option autoImplicit false
open PySem PyProof.Rows
section
variable {M : Model} {A : Around} {E : Value → Shared → Prop} {s : Shared} {lb : Keyed → Keyed → Bool} {D : Keyed → Prop} {kd : SortKind}
structure Rn (arr0 arr : Array Keyed) (lo n : Nat) (m : List Keyed) : Prop where
  eq : arr.toList = arr0.toList.take lo ++ (m ++ arr0.toList.drop (lo + n))
  pm : m.Perm (arr0.extract lo (lo + n)).toList
  hn : lo + n ≤ arr0.size
variable {arr0 arr : Array Keyed} {lo n : Nat} {m : List Keyed}
theorem Rn.len (h : Rn arr0 arr lo n m) : m.length = n := by
  have := h.hn
  rw [h.pm.length_eq, Array.length_toList, Array.size_extract]; omega
theorem Rn.joined (h : Rn arr0 arr lo n m) (sr : Srtd lb m) : Joined lb arr0 arr lo n := ⟨m, h.eq, sr, h.pm⟩
theorem Rn.start (h : lo + n ≤ arr0.size) : Rn arr0 arr0 lo n (arr0.extract lo (lo + n)).toList := ⟨whole h, List.Perm.refl _, h⟩
theorem Rn.lp (h : Rn arr0 arr lo n m) : (arr0.toList.take lo).length = lo := by have := h.hn; simp; omega
theorem Rn.at (h : Rn arr0 arr lo n m) {j : Nat} (hj : j < m.length) : arr[lo + j]? = some m[j] := by
  rw [← Array.getElem?_toList, h.eq, List.getElem?_append_right (by rw [h.lp]; omega), h.lp, List.getElem?_append_left (by omega), show lo + j - lo = j by omega]
  exact List.getElem?_eq_getElem hj
theorem Rn.next (h : Rn arr0 arr lo n m) (hk : lo + n < arr0.size) : arr[lo + n]? = some arr0[lo + n] := by
  rw [← Array.getElem?_toList, h.eq, List.getElem?_append_right (by rw [h.lp]; omega), h.lp, List.getElem?_append_right (by rw [h.len]; omega), h.len, drop_one hk, show lo + n - lo - n = 0 by omega]
  rfl
theorem Rn.more (h : Rn arr0 arr lo n m) (hk : lo + n < arr0.size) : Rn arr0 arr lo (n + 1) (m ++ [arr0[lo + n]]) := by
  refine ⟨?_, ?_, by omega⟩
  · rw [h.eq, drop_one hk, List.append_assoc]
    rfl
  · rw [ext_split (i := lo) (m := lo + n) (j := lo + (n + 1)) (by omega) (by omega)]
    have : (arr0.extract (lo + n) (lo + (n + 1))).toList = [arr0[lo + n]] := by
      rw [← Nat.add_assoc, ext_mid, drop_one hk]
      rfl
    rw [this]
    exact h.pm.append_right _
theorem Rn.dom (h : Rn arr0 arr lo n m) (dd : ∀ x ∈ arr0.toList, D x) : ∀ x ∈ m, D x := fun x hx => by
  obtain ⟨i, hi, _, _, ei⟩ := mem_ext_ix (h.pm.mem_iff.mp hx)
  rw [ei]
  exact dd _ (by simp)
theorem Rn.turn {u v t : List Keyed} (h : Rn arr0 arr lo n (u ++ (v ++ t))) {i j : Nat} (hi : i = lo + u.length) (hj : j = lo + u.length + v.length) : Rn arr0 (mirror arr i j ((j - i) / 2)) lo n (u ++ (v.reverse ++ t)) := by
  have lp := h.lp
  refine ⟨?_, List.Perm.trans (List.Perm.append_left u (List.Perm.append_right t (List.reverse_perm v))) h.pm, h.hn⟩
  have e := mirror_list arr (P := arr0.toList.take lo ++ u) (m := v) (T := t ++ arr0.toList.drop (lo + n)) (i := i) (j := j) (by rw [h.eq]; simp only [List.append_assoc]) (by rw [List.length_append, lp]; exact hi) (by rw [List.length_append, lp]; exact hj)
  rw [e]
  simp only [List.append_assoc]
theorem last_le (W : Wk lb) {m : List Keyed} {x : Keyed} (sr : Srtd lb m) (h : m.length - 1 < m.length) (c : le lb m[m.length - 1] x) : Srtd lb (m ++ [x]) := by
  refine List.pairwise_append.mpr ⟨sr, List.pairwise_singleton _ _, fun y hy z hz => ?_⟩
  have : z = x := by simpa using hz
  subst this
  obtain ⟨i, hi, rfl⟩ := List.mem_iff_getElem.mp hy
  by_cases e : i = m.length - 1
  · subst e; exact c
  · exact W.trans (List.pairwise_iff_getElem.mp sr i (m.length - 1) hi h (by omega)) c
abbrev AS := Option (Option Nat) × Nat
def ascL (lo a nrem : Nat) : StateT SortSt Sem AS :=
  forIn [a:nrem] ((none, a) : AS) fun _ c => do
    let r ← ltAt' (lo + c.2) (lo + c.2 - 1)
    match r with
    | some smaller => if smaller = true then pure (ForInStep.done (none, c.2)) else pure (ForInStep.yield (none, c.2 + 1))
    | _ => pure (ForInStep.done (some none, c.2))
theorem wpS_ascL (W : Wk lb) (hL : LtOk M A E s lb D kd) {st : SortSt} (hk : kindOf st = kd) (dd : ∀ x ∈ arr0.toList, D x) {nrem : Nat} (hn : lo + nrem ≤ arr0.size) (n1 : 1 ≤ n) (nn : n ≤ nrem) (h : Rn arr0 (arrOf st) lo n m) (sr : Srtd lb m) {Q : AS → SortSt → Prop}
    (q : ∀ k m', n ≤ k → k ≤ nrem → Rn arr0 (arrOf st) lo k m' → Srtd lb m' → (k = nrem ∨ ∃ (h1 : lo + k < arr0.size) (h2 : m'.length - 1 < m'.length), lb arr0[lo + k] m'[m'.length - 1] = true) → Q (none, k) st) : wpS M A E s (ascL lo n nrem) Q st := by
  unfold ascL
  refine wpS_forRange (I := fun x c st' => st' = st ∧ c = (none, x) ∧ ∃ m', Rn arr0 (arrOf st) lo x m' ∧ Srtd lb m') ?step ?fin ⟨rfl, rfl, m, h, sr⟩
  case fin =>
    rintro c st' ⟨rfl, rfl, m', h', sr'⟩
    rw [show max n nrem = nrem by omega] at h' ⊢
    exact q nrem m' nn (Nat.le_refl _) h' sr' (.inl rfl)
  case step =>
    rintro x c st' hx1 hx2 ⟨rfl, rfl, m', h', sr'⟩
    dsimp only
    have lm := h'.len
    have hz : lo + x < arr0.size := by omega
    have hl : m'.length - 1 < m'.length := by omega
    have al := h'.at hl
    rw [show lo + (m'.length - 1) = lo + x - 1 by omega] at al
    refine wpS_bind (wpS_ltL hL hk (h'.next hz) al (dd _ (by simp)) (h'.dom dd _ (List.getElem_mem hl)) ?_)
    cases e : lb arr0[lo + x] m'[m'.length - 1]
    case true =>
      simp only [if_true]
      exact wpS_pure (q x m' hx1 (by omega) h' sr' (.inr ⟨hz, hl, e⟩))
    case false =>
      simp only [Bool.false_eq_true, if_false]
      exact wpS_pure ⟨rfl, rfl, _, h'.more hz, last_le W sr' hl e⟩
end
end Srt
set_option linter.all false
set_option maxHeartbeats 1000000
namespace Srt
set_option autoImplicit false
open PySem PyProof.Rows
section
variable {M : Model} {A : Around} {E : Value → Shared → Prop} {s : Shared} {lb : Keyed → Keyed → Bool} {D : Keyed → Prop} {kd : SortKind}
variable {arr0 arr : Array Keyed} {lo n : Nat} {m : List Keyed}
abbrev DS := Option (Option Nat) × Nat × Nat
def descL (lo n nrem : Nat) : StateT SortSt Sem DS :=
  forIn [n:nrem] ((none, n, 0) : DS) fun _ c => do
    let r ← ltAt' (lo + c.2.1) (lo + c.2.1 - 1)
    match r with
    | some smaller =>
      if smaller = true then
        if c.2.2 > 0 then do
          reverseSlice' (lo + c.2.1 - (c.2.2 + 1)) (lo + c.2.1)
          pure (ForInStep.yield (none, c.2.1 + 1, 0))
        else pure (ForInStep.yield (none, c.2.1 + 1, 0))
      else do
        let r ← ltAt' (lo + c.2.1 - 1) (lo + c.2.1)
        match r with
        | some larger => if larger = true then pure (ForInStep.done (none, c.2.1, c.2.2)) else pure (ForInStep.yield (none, c.2.1 + 1, c.2.2 + 1))
        | _ => pure (ForInStep.done (some none, c.2.1, c.2.2))
    | _ => pure (ForInStep.done (some none, c.2.1, c.2.2))
structure Fl (lb : Keyed → Keyed → Bool) (arr0 arr : Array Keyed) (lo n neq : Nat) (u t : List Keyed) (z : Keyed) : Prop where
  rn : Rn arr0 arr lo n (u ++ (t ++ [z]))
  fal : Fal lb (u ++ (t ++ [z]))
  srt : Srtd lb (t ++ [z])
  len : t.length = neq
theorem Fl.last {neq : Nat} {u t : List Keyed} {z : Keyed} (h : Fl lb arr0 arr lo n neq u t z) (n0 : 0 < n) : arr[lo + n - 1]? = some z := by
  have l := h.rn.len
  rw [List.length_append, List.length_append, List.length_singleton] at l
  have := h.rn.at (j := n - 1) (by rw [List.length_append, List.length_append, List.length_singleton]; omega)
  rw [show lo + (n - 1) = lo + n - 1 by omega] at this
  rw [this, ← List.getElem?_eq_getElem, List.getElem?_append_right (by omega), List.getElem?_append_right (by omega), show n - 1 - u.length - t.length = 0 by omega]
  rfl
theorem Fl.low (W : Wk lb) {neq : Nat} {u t : List Keyed} {z x : Keyed} (h : Fl lb arr0 arr lo n neq u t z) (c : le lb x z) : ∀ y ∈ u ++ (t ++ [z]), le lb x y := fun y hy => by
  have f := h.fal
  rw [Fal, ← List.append_assoc] at f
  rw [← List.append_assoc] at hy
  rcases List.mem_append.mp hy with w | w
  · exact W.trans c ((List.pairwise_append.mp f).2.2 y w z (by simp))
  · have : y = z := by simpa using w
    rw [this]; exact c
theorem fal_snoc {l : List Keyed} {x : Keyed} (h : Fal lb l) (c : ∀ y ∈ l, le lb x y) : Fal lb (l ++ [x]) := by
  refine List.pairwise_append.mpr ⟨h, List.pairwise_singleton _ _, fun y hy w hw => ?_⟩
  have : w = x := by simpa using hw
  rw [this]; exact c y hy
theorem Fl.turned {neq : Nat} {u t : List Keyed} {z : Keyed} (h : Fl lb arr0 arr lo n neq u t z) : Rn arr0 (mirror arr (lo + n - (neq + 1)) (lo + n) ((lo + n - (lo + n - (neq + 1))) / 2)) lo n (u ++ (t ++ [z]).reverse) ∧ Fal lb (u ++ (t ++ [z]).reverse) := by
  have l := h.rn.len
  have ll := h.len
  rw [List.length_append, List.length_append, List.length_singleton] at l
  refine ⟨?_, h.fal.tail h.srt⟩
  have := Rn.turn (u := u) (v := t ++ [z]) (t := []) (by simpa using h.rn) (i := lo + n - (neq + 1)) (j := lo + n) (by omega) (by rw [List.length_append, List.length_singleton]; omega)
  simpa using this
theorem wpS_descL (W : Wk lb) (hL : LtOk M A E s lb D kd) {st : SortSt} (hk : kindOf st = kd) (dd : ∀ x ∈ arr0.toList, D x) {nrem : Nat} (hn : lo + nrem ≤ arr0.size) (n1 : 1 ≤ n) (nn : n ≤ nrem) {u : List Keyed} {z : Keyed} (h : Fl lb arr0 (arrOf st) lo n 0 u [] z) {Q : DS → SortSt → Prop}
    (q : ∀ k neq st' u t z, Sa st st' → n ≤ k → k ≤ nrem → Fl lb arr0 (arrOf st') lo k neq u t z → Q (none, k, neq) st') : wpS M A E s (descL lo n nrem) Q st := by
  unfold descL
  refine wpS_forRange (I := fun x c st' => Sa st st' ∧ ∃ neq u t z, c = (none, x, neq) ∧ Fl lb arr0 (arrOf st') lo x neq u t z) ?step ?fin ⟨⟨rfl, rfl, rfl⟩, 0, u, [], z, rfl, h⟩
  case fin =>
    rintro c st' ⟨sm, neq, u, t, z, rfl, f⟩
    rw [show max n nrem = nrem by omega] at f ⊢
    exact q _ _ _ _ _ _ sm nn (Nat.le_refl _) f
  case step =>
    rintro x c st' hx1 hx2 ⟨sm, neq, u, t, z, rfl, f⟩
    dsimp only
    have hz : lo + x < arr0.size := by omega
    have dz : D z := f.rn.dom dd z (by simp)
    have dx : D arr0[lo + x] := dd _ (by simp)
    refine wpS_bind (wpS_ltL hL (sm.1.trans hk) (f.rn.next hz) (f.last (by omega)) dx dz ?_)
    cases e : lb arr0[lo + x] z
    case true =>
      simp only [if_true]
      have lw := f.low W (W.of_lt e)
      by_cases k0 : neq > 0
      · rw [if_pos k0, reverseSlice'_eq]
        obtain ⟨r1, r2⟩ := f.turned
        refine wpS_bind (wpS_modify (wpS_pure ⟨sm, 0, _, [], _, rfl, ⟨r1.more hz, fal_snoc r2 fun y hy => lw y ?_, List.pairwise_singleton _ _, rfl⟩⟩))
        rcases List.mem_append.mp hy with w | w
        · exact List.mem_append_left _ w
        · exact List.mem_append_right _ (List.mem_reverse.mp w)
      · rw [if_neg k0]
        exact wpS_pure ⟨sm, 0, _, [], _, rfl, ⟨f.rn.more hz, fal_snoc f.fal lw, List.pairwise_singleton _ _, rfl⟩⟩
    case false =>
      simp only [Bool.false_eq_true, if_false]
      refine wpS_bind (wpS_ltL hL (sm.1.trans hk) (f.last (by omega)) (f.rn.next hz) dz dx ?_)
      cases e2 : lb z arr0[lo + x]
      case true =>
        simp only [if_true]
        exact wpS_pure (q _ _ _ _ _ _ sm hx1 (by omega) f)
      case false =>
        simp only [Bool.false_eq_true, if_false]
        refine wpS_pure ⟨sm, neq + 1, u, t ++ [z], arr0[lo + x], rfl, ⟨by have := f.rn.more hz; simpa using this, by have := fal_snoc f.fal (f.low W e2); simpa using this, ?_, by rw [List.length_append, f.len]; rfl⟩⟩
        refine last_le W f.srt (by rw [List.length_append, List.length_singleton]; omega) ?_
        have : (t ++ [z])[(t ++ [z]).length - 1]'(by rw [List.length_append, List.length_singleton]; omega) = z := by simp
        rw [this]
        exact e
end
end Srt
set_option linter.all false
set_option maxHeartbeats 1000000
namespace Srt
set_option autoImplicit false
open PySem PyProof.Rows
def tailL (lo n nrem : Nat) : StateT SortSt Sem (Option Nat) := do
  reverseSlice' lo (lo + n)
  let c ← ascL lo n nrem
  match c.1 with
  | some r => pure r
  | none => pure (some c.2)
def partL (lo n nrem : Nat) : StateT SortSt Sem (Option Nat) := do
  liftM (rule "list.sort.descending-run")
  let c ← descL lo (n + 1) nrem
  match c.1 with
  | some r => pure r
  | none =>
    if c.2.2 > 0 then do
      reverseSlice' (lo + c.2.1 - (c.2.2 + 1)) (lo + c.2.1)
      tailL lo c.2.1 nrem
    else tailL lo c.2.1 nrem
theorem countRun_parts (lo nrem : Nat) : countRun' lo nrem = (do
    let c ← ascL lo 1 nrem
    match c.1 with
    | some r => pure r
    | none =>
      if (c.2 == nrem) = true then pure (some c.2)
      else if c.2 > 1 then do
        let r ← ltAt' lo (lo + c.2 - 1)
        match r with
        | some rose =>
          if rose = true then pure (some c.2)
          else do
            reverseSlice' lo (lo + c.2)
            partL lo c.2 nrem
        | _ => pure none
      else partL lo c.2 nrem) := by
  rw [countRun'_eq]
  dsimp only
  unfold ascL
  refine congr (congrArg _ (congrArg _ (funext fun x => funext fun c => congrArg _ (funext fun r => by cases r <;> rfl)))) (funext fun c => ?_)
  have part : ∀ n : Nat, partL lo n nrem = partL lo n nrem := fun _ => rfl
  cases c.1 with
  | some r => rfl
  | none =>
    dsimp only
    refine ite_congr rfl (fun _ => rfl) (fun _ => ite_congr rfl (fun _ => congrArg _ (funext fun r => ?_)) (fun _ => ?_))
    · cases r with
      | none => rfl
      | some rose =>
        dsimp only
        refine ite_congr rfl (fun _ => rfl) (fun _ => congrArg _ (funext fun _ => ?_))
        unfold partL descL
        refine congrArg _ (funext fun _ => congr (congrArg _ (congrArg _ (funext fun x => funext fun d => congrArg _ (funext fun r => ?_)))) (funext fun d => ?_))
        · cases r with
          | none => rfl
          | some b => exact ite_congr rfl (fun _ => rfl) (fun _ => congrArg _ (funext fun r => by cases r <;> rfl))
        · cases d.1 with
          | some r => rfl
          | none =>
            unfold tailL ascL
            refine ite_congr rfl (fun _ => congrArg _ (funext fun _ => ?_)) (fun _ => ?_)
            all_goals exact congrArg _ (funext fun _ => congr (congrArg _ (congrArg _ (funext fun x => funext fun c => congrArg _ (funext fun r => by cases r <;> rfl)))) (funext fun c => by cases c.1 <;> rfl))
    · unfold partL descL
      refine congrArg _ (funext fun _ => congr (congrArg _ (congrArg _ (funext fun x => funext fun d => congrArg _ (funext fun r => ?_)))) (funext fun d => ?_))
      · cases r with
        | none => rfl
        | some b => exact ite_congr rfl (fun _ => rfl) (fun _ => congrArg _ (funext fun r => by cases r <;> rfl))
      · cases d.1 with
        | some r => rfl
        | none =>
          unfold tailL ascL
          refine ite_congr rfl (fun _ => congrArg _ (funext fun _ => ?_)) (fun _ => ?_)
          all_goals exact congrArg _ (funext fun _ => congr (congrArg _ (congrArg _ (funext fun x => funext fun c => congrArg _ (funext fun r => by cases r <;> rfl)))) (funext fun c => by cases c.1 <;> rfl))
section
variable {M : Model} {A : Around} {E : Value → Shared → Prop} {s : Shared} {lb : Keyed → Keyed → Bool} {D : Keyed → Prop} {kd : SortKind}
variable {arr0 arr : Array Keyed} {lo n : Nat} {m : List Keyed}
theorem wpS_tailL (W : Wk lb) (hL : LtOk M A E s lb D kd) {st : SortSt} (hk : kindOf st = kd) (dd : ∀ x ∈ arr0.toList, D x) {nrem : Nat} (hn : lo + nrem ≤ arr0.size) (n1 : 1 ≤ n) (nn : n ≤ nrem) (h : Rn arr0 (arrOf st) lo n m) (fa : Fal lb m) {Q : Option Nat → SortSt → Prop}
    (q : ∀ k st', Sa st st' → 1 ≤ k → k ≤ nrem → Joined lb arr0 (arrOf st') lo k → Q (some k) st') : wpS M A E s (tailL lo n nrem) Q st := by
  unfold tailL
  rw [reverseSlice'_eq]
  refine wpS_bind (wpS_modify ?_)
  have t := Rn.turn (u := []) (v := m) (t := []) (by simpa using h) (i := lo) (j := lo + n) (by simp) (by rw [h.len]; simp)
  simp only [List.nil_append, List.append_nil] at t
  refine wpS_bind (wpS_ascL (st := setArr st (mirror (arrOf st) lo (lo + n) ((lo + n - lo) / 2))) W hL hk dd hn n1 nn t fa.rev fun k m' k1 k2 r' sr' _ => ?_)
  exact wpS_pure (q k _ ⟨rfl, rfl, rfl⟩ (by omega) k2 (r'.joined sr'))
theorem wpS_partL (W : Wk lb) (hL : LtOk M A E s lb D kd) {st : SortSt} (hk : kindOf st = kd) (dd : ∀ x ∈ arr0.toList, D x) {nrem : Nat} (hn : lo + nrem ≤ arr0.size) (n1 : 1 ≤ n) (nn : n < nrem) (h : Rn arr0 (arrOf st) lo n m) (fa : Fal lb m) (hz : lo + n < arr0.size) (lw : ∀ y ∈ m, le lb arr0[lo + n] y) {Q : Option Nat → SortSt → Prop}
    (q : ∀ k st', Sa st st' → 1 ≤ k → k ≤ nrem → Joined lb arr0 (arrOf st') lo k → Q (some k) st') : wpS M A E s (partL lo n nrem) Q st := by
  unfold partL
  refine wpS_bind (wpS_rule ?_)
  refine wpS_bind (wpS_descL W hL hk dd hn (by omega) (by omega) (u := m) (z := arr0[lo + n]) ⟨h.more hz, fal_snoc fa lw, List.pairwise_singleton _ _, rfl⟩ fun k neq st' u t z sm k1 k2 f => ?_)
  dsimp only
  have tr : ∀ k st2, Sa st' st2 → 1 ≤ k → k ≤ nrem → Joined lb arr0 (arrOf st2) lo k → Q (some k) st2 := fun k st2 s2 => q k st2 ⟨s2.1.trans sm.1, s2.2.1.trans sm.2.1, s2.2.2.trans sm.2.2⟩
  by_cases k0 : neq > 0
  · rw [if_pos k0, reverseSlice'_eq]
    obtain ⟨r1, r2⟩ := f.turned
    refine wpS_bind (wpS_modify ?_)
    exact wpS_tailL (st := setArr st' (mirror (arrOf st') (lo + k - (neq + 1)) (lo + k) ((lo + k - (lo + k - (neq + 1))) / 2))) W hL (sm.1.trans hk) dd hn (by omega) k2 r1 r2 tr
  · rw [if_neg k0]
    exact wpS_tailL W hL (sm.1.trans hk) dd hn (by omega) k2 f.rn f.fal tr
theorem wpS_countRun (W : Wk lb) (hL : LtOk M A E s lb D kd) {st : SortSt} (hk : kindOf st = kd) (dd : ∀ x ∈ (arrOf st).toList, D x) {nrem : Nat} (hn : lo + nrem ≤ (arrOf st).size) (n1 : 1 ≤ nrem) {Q : Option Nat → SortSt → Prop}
    (q : ∀ k st', Sa st st' → 1 ≤ k → k ≤ nrem → Joined lb (arrOf st) (arrOf st') lo k → Q (some k) st') : wpS M A E s (countRun' lo nrem) Q st := by
  rw [countRun_parts]
  have r0 := Rn.start (arr0 := arrOf st) (lo := lo) (n := 1) (by omega)
  have s0 : Srtd lb ((arrOf st).extract lo (lo + 1)).toList := by
    have := r0.len
    generalize ((arrOf st).extract lo (lo + 1)).toList = l at *
    exact pw_le1 (Nat.le_of_eq this)
  refine wpS_bind (wpS_ascL W hL hk dd hn (by omega) n1 r0 s0 fun k m k1 k2 r sr c => ?_)
  dsimp only
  have lm := r.len
  by_cases e : k = nrem
  · rw [if_pos (by simpa using e)]
    exact wpS_pure (q k st ⟨rfl, rfl, rfl⟩ k1 k2 (r.joined sr))
  · rw [if_neg (by simpa using e)]
    obtain ⟨hz, hl, lt⟩ : ∃ (h1 : lo + k < (arrOf st).size) (h2 : m.length - 1 < m.length), lb (arrOf st)[lo + k] m[m.length - 1] = true := by
      rcases c with c | c
      · exact absurd c e
      · exact c
    by_cases g : k > 1
    · rw [if_pos g]
      have a0 := r.at (j := 0) (by omega)
      have al := r.at hl
      rw [Nat.add_zero] at a0
      rw [show lo + (m.length - 1) = lo + k - 1 by omega] at al
      refine wpS_bind (wpS_ltL hL hk a0 al (r.dom dd _ (List.getElem_mem _)) (r.dom dd _ (List.getElem_mem _)) ?_)
      cases e2 : lb (m[0]'(by omega)) m[m.length - 1]
      case true =>
        simp only [if_true]
        exact wpS_pure (q k st ⟨rfl, rfl, rfl⟩ k1 k2 (r.joined sr))
      case false =>
        simp only [Bool.false_eq_true, if_false]
        rw [reverseSlice'_eq]
        refine wpS_bind (wpS_modify ?_)
        have t := Rn.turn (u := []) (v := m) (t := []) (by simpa using r) (i := lo) (j := lo + k) (by simp) (by rw [lm]; simp)
        simp only [List.nil_append, List.append_nil] at t
        refine wpS_partL (st := setArr st (mirror (arrOf st) lo (lo + k) ((lo + k - lo) / 2))) W hL hk dd hn k1 (by omega) t (show List.Pairwise _ _ from List.pairwise_reverse.mpr sr) hz (fun y hy => ?_) fun k' st' sm => q k' st' sm
        obtain ⟨i, hi, rfl⟩ := List.mem_iff_getElem.mp (List.mem_reverse.mp hy)
        have f0 : le lb (m[0]'(by omega)) m[i] := by
          by_cases z : 0 = i
          · subst z; exact W.refl _
          · exact List.pairwise_iff_getElem.mp sr 0 i (by omega) hi (by omega)
        exact W.trans (W.of_lt lt) (W.trans e2 f0)
    · rw [if_neg g]
      have k1' : k = 1 := by omega
      subst k1'
      exact wpS_partL W hL hk dd hn (by omega) (by omega) r (pw_le1 (by omega)) hz (fun y hy => by
        obtain ⟨i, hi, rfl⟩ := List.mem_iff_getElem.mp hy
        have e3 : i = m.length - 1 := by omega
        simp only [e3]
        exact W.of_lt lt) fun k' st' sm => q k' st' sm
end
end Srt
set_option linter.all false
set_option maxHeartbeats 1000000
namespace Srt
set_option autoImplicit false
open PySem PyProof.Rows
abbrev Pn := Nat × Nat × Nat
def Tiles : List Pn → Nat → Nat → Prop
  | [], a, b => a = b
  | x :: r, a, b => x.1 = a ∧ 0 < x.2.1 ∧ Tiles r (a + x.2.1) b
theorem Tiles.le : ∀ {l : List Pn} {a b : Nat}, Tiles l a b → a ≤ b
  | [], a, b, h => by rw [show a = b from h]; exact Nat.le_refl _
  | x :: r, a, b, h => by have := Tiles.le h.2.2; omega
theorem Tiles.app : ∀ {l r : List Pn} {a b : Nat}, Tiles (l ++ r) a b ↔ ∃ c, Tiles l a c ∧ Tiles r c b
  | [], r, a, b => ⟨fun h => ⟨a, rfl, h⟩, fun ⟨c, h1, h2⟩ => by rw [show a = c from h1]; exact h2⟩
  | x :: l, r, a, b => by
    constructor
    · rintro ⟨h1, h2, h3⟩
      obtain ⟨c, h4, h5⟩ := Tiles.app.mp h3
      exact ⟨c, ⟨h1, h2, h4⟩, h5⟩
    · rintro ⟨c, ⟨h1, h2, h3⟩, h4⟩
      exact ⟨h1, h2, Tiles.app.mpr ⟨c, h3, h4⟩⟩
theorem Tiles.join {l r : List Pn} {a b s n s' n' p p' : Nat} (h : Tiles (l ++ (s, n, p) :: (s', n', p') :: r) a b) : s' = s + n ∧ 0 < n ∧ 0 < n' ∧ s + n + n' ≤ b ∧ Tiles l a s ∧ Tiles r (s + n + n') b ∧ Tiles (l ++ (s, n + n', p) :: r) a b := by
  obtain ⟨c, h1, h2, h3, h4, h5, h6⟩ := Tiles.app.mp h
  have h2 : s = c := h2
  have h4 : s' = c + n := h4
  have h3 : 0 < n := h3
  have h5 : 0 < n' := h5
  have h6 : Tiles r (c + n + n') b := h6
  subst h2
  refine ⟨h4, h3, h5, h6.le, h1, h6, Tiles.app.mpr ⟨s, h1, rfl, by show 0 < n + n'; omega, ?_⟩⟩
  show Tiles r (s + (n + n')) b
  rw [← Nat.add_assoc]
  exact h6
theorem pend_merge {P : Array Pn} {l r : List Pn} {x y z : Pn} (h : P.toList = l ++ x :: y :: r) : ((P.setIfInBounds l.length z).eraseIdxIfInBounds (l.length + 1)).toList = l ++ z :: r := by
  have sz : P.size = l.length + (r.length + 2) := by
    have := congrArg List.length h
    simpa using this
  unfold Array.eraseIdxIfInBounds
  rw [dif_pos (by rw [Array.size_setIfInBounds]; omega), Array.toList_eraseIdx, Array.toList_setIfInBounds, h]
  rw [List.set_append_right _ _ (Nat.le_refl _), Nat.sub_self, List.eraseIdx_append_of_length_le (by omega), show l.length + 1 - l.length = 1 by omega]
  rfl
section
variable {lb : Keyed → Keyed → Bool} {arr arr' : Array Keyed} {lo n : Nat}
theorem Joined.low (h : Joined lb arr arr' lo n) (hn : lo + n ≤ arr.size) {a k : Nat} (c : a + k ≤ lo) : (arr'.extract a (a + k)).toList = (arr.extract a (a + k)).toList := by
  obtain ⟨m, e, _, pm⟩ := h
  have lp : (arr.toList.take lo).length = lo := by simp; omega
  rw [ext_mid, ext_mid, e, List.drop_append_of_le_length (by omega), List.take_append_of_le_length (by rw [List.length_drop]; omega), List.drop_take, List.take_take, Nat.min_eq_left (by omega)]
theorem Joined.high (h : Joined lb arr arr' lo n) (hn : lo + n ≤ arr.size) {a k : Nat} (c : lo + n ≤ a) : (arr'.extract a (a + k)).toList = (arr.extract a (a + k)).toList := by
  obtain ⟨m, e, _, pm⟩ := h
  have l : m.length = n := by
    rw [pm.length_eq, ext_mid, List.length_take, List.length_drop, Array.length_toList]
    omega
  have lp : (arr.toList.take lo).length = lo := by simp; omega
  rw [ext_mid, ext_mid, e, List.drop_append, lp, List.drop_eq_nil_of_le (by omega), List.nil_append, List.drop_append, List.drop_eq_nil_of_le (by omega), List.nil_append, List.drop_drop]
  congr 2
  omega
theorem Joined.here (h : Joined lb arr arr' lo n) (hn : lo + n ≤ arr.size) : Srtd lb (arr'.extract lo (lo + n)).toList := by
  obtain ⟨m, e, sr, pm⟩ := h
  have l : m.length = n := by
    rw [pm.length_eq, ext_mid, List.length_take, List.length_drop, Array.length_toList]
    omega
  have lp : (arr.toList.take lo).length = lo := by simp; omega
  rw [ext_mid, e, List.drop_append, lp, List.drop_eq_nil_of_le (by omega), List.nil_append, Nat.sub_self, List.drop_zero, List.take_append_of_le_length (by omega), List.take_of_length_le (by omega)]
  exact sr
theorem Joined.perm (h : Joined lb arr arr' lo n) (hn : lo + n ≤ arr.size) : arr'.toList.Perm arr.toList := by
  obtain ⟨m, e, sr, pm⟩ := h
  rw [e]
  exact (List.Perm.append_left _ (pm.append_right _)).trans (List.Perm.of_eq (whole hn).symm)
end
end Srt
set_option linter.all false
set_option maxHeartbeats 1000000
namespace Srt
set_option autoImplicit false
open PySem PyProof.Rows
section
variable {M : Model} {A : Around} {E : Value → Shared → Prop} {s : Shared} {lb : Keyed → Keyed → Bool} {D : Keyed → Prop} {kd : SortKind}
structure SI (lb : Keyed → Keyed → Bool) (kd : SortKind) (a0 : Array Keyed) (st : SortSt) (lo : Nat) : Prop where
  kind : kindOf st = kd
  failed : failedOf st = none
  perm : (arrOf st).toList.Perm a0.toList
  tiles : Tiles (pendingOf st).toList 0 lo
  top : lo ≤ a0.size
  runs : ∀ x ∈ (pendingOf st).toList, Srtd lb ((arrOf st).extract x.1 (x.1 + x.2.1)).toList
theorem SI.size {a0 : Array Keyed} {st : SortSt} {lo : Nat} (h : SI lb kd a0 st lo) : (arrOf st).size = a0.size := by simpa using h.perm.length_eq
theorem Tiles.in : ∀ {l : List Pn} {a b : Nat}, Tiles l a b → ∀ x ∈ l, a ≤ x.1 ∧ x.1 + x.2.1 ≤ b
  | y :: l, a, b, h, x, hx => by
    rcases List.mem_cons.mp hx with rfl | z
    · have := h.2.2.le
      have := h.1
      omega
    · have := Tiles.in h.2.2 x z
      omega
theorem wpS_mergeT (W : Wk lb) (hL : LtOk M A E s lb D kd) {a0 : Array Keyed} (dd : ∀ x ∈ a0.toList, D x) {st : SortSt} {lo : Nat} (h : SI lb kd a0 st lo) {i : Nat} (hi : i + 1 < (pendingOf st).size) {Q : Bool → SortSt → Prop}
    (q : ∀ st', SI lb kd a0 st' lo → (pendingOf st').size + 1 = (pendingOf st).size → (∀ a k, lo ≤ a → ((arrOf st').extract a (a + k)).toList = ((arrOf st).extract a (a + k)).toList) → Q true st') : wpS M A E s (mergeAt' i) Q st := by
  have sp : (pendingOf st).toList = (pendingOf st).toList.take i ++ (pendingOf st)[i] :: (pendingOf st)[i + 1] :: (pendingOf st).toList.drop (i + 2) := by
    conv => lhs; rw [← List.take_append_drop i (pendingOf st).toList]
    rw [drop_one (show i < (pendingOf st).size by omega), drop_one hi]
    rfl
  have li : ((pendingOf st).toList.take i).length = i := by simp; omega
  have e1 := getElem?_pos (pendingOf st) i (by omega)
  have e2 := getElem?_pos (pendingOf st) (i + 1) hi
  have r1 := h.runs _ (by simp : (pendingOf st)[i] ∈ (pendingOf st).toList)
  have r2 := h.runs _ (by simp : (pendingOf st)[i + 1] ∈ (pendingOf st).toList)
  have ti := h.tiles
  have ru := h.runs
  rw [sp] at ti ru
  generalize hx : (pendingOf st)[i] = x at *
  generalize hy : (pendingOf st)[i + 1] = y at *
  obtain ⟨sa, na, pa⟩ := x
  obtain ⟨sb, nb, pb⟩ := y
  obtain ⟨eb, na0, nb0, le, tl, tr, tj⟩ := ti.join
  subst eb
  have top := h.top
  have sz := h.size
  refine wpS_mergeAt W hL h.kind h.failed (fun x hx => dd x (h.perm.mem_iff.mp hx)) e1 e2 na0 nb0 (by omega) r1 r2 fun st' k' f' p' j' => ?_
  have hn : sa + (na + nb) ≤ (arrOf st).size := by omega
  have pl : (pendingOf st').toList = (pendingOf st).toList.take i ++ (sa, na + nb, pa) :: (pendingOf st).toList.drop (i + 2) := by
    have := pend_merge (z := (sa, na + nb, pa)) sp
    rw [li] at this
    rw [p', this]
  refine q st' ⟨k', f', (j'.perm hn).trans h.perm, by rw [pl]; exact tj, top, fun z hz => ?_⟩ ?_ (fun a k hak => j'.high hn (by omega))
  · rw [pl] at hz
    rcases List.mem_append.mp hz with w | w
    · have := tl.in z w
      rw [j'.low hn (by omega)]
      exact ru z (List.mem_append_left _ w)
    · rcases List.mem_cons.mp w with rfl | w
      · exact j'.here hn
      · have := tr.in z w
        rw [j'.high hn (by omega)]
        exact ru z (List.mem_append_right _ (List.mem_cons_of_mem _ (List.mem_cons_of_mem _ w)))
  · have l1 := congrArg List.length pl
    have l2 := congrArg List.length sp
    simp only [Array.length_toList, List.length_append, List.length_cons] at l1 l2
    omega
end
end Srt
set_option linter.all false
set_option maxHeartbeats 1000000
namespace Srt
set_option autoImplicit false
open PySem PyProof.Rows
theorem Tiles.snoc {l : List Pn} {a b : Nat} {x : Pn} (h : Tiles l a b) (e : x.1 = b) (n : 0 < x.2.1) : Tiles (l ++ [x]) a (b + x.2.1) :=
  Tiles.app.mpr ⟨b, h, e, n, rfl⟩
theorem Tiles.repl : ∀ {l : List Pn} {a b : Nat} (k : Nat) (f : Pn → Pn), (∀ x, (f x).1 = x.1 ∧ (f x).2.1 = x.2.1) → Tiles l a b → Tiles (l.modify k f) a b
  | [], a, b, k, f, hf, h => by simpa using h
  | x :: r, a, b, 0, f, hf, h => by
    obtain ⟨h1, h2, h3⟩ := h
    have := hf x
    rw [List.modify_zero_cons]
    exact ⟨this.1.trans h1, by rw [this.2]; exact h2, by rw [this.2]; exact h3⟩
  | x :: r, a, b, k + 1, f, hf, h => by
    obtain ⟨h1, h2, h3⟩ := h
    rw [List.modify_succ_cons]
    exact ⟨h1, h2, Tiles.repl k f hf h3⟩
theorem mem_mod {l : List Pn} {k : Nat} {f : Pn → Pn} {x : Pn} (h : x ∈ l.modify k f) : ∃ y ∈ l, x = y ∨ x = f y := by
  obtain ⟨i, hi, rfl⟩ := List.mem_iff_getElem.mp h
  rw [List.getElem_modify]
  have hi' : i < l.length := by simpa using hi
  split
  · exact ⟨l[i], List.getElem_mem _, .inr rfl⟩
  · exact ⟨l[i], List.getElem_mem _, .inl rfl⟩
theorem Tiles.one : ∀ {l : List Pn} {a b : Nat}, Tiles l a b → a < b → l.length ≤ 1 → ∃ p, l = [(a, b - a, p)]
  | [], a, b, h, c, _ => by have : a = b := h; omega
  | [(s, n, p)], a, b, h, c, _ => by
    obtain ⟨h1, h2, h3⟩ := h
    have h1 : s = a := h1
    have h3 : a + n = b := h3
    refine ⟨p, ?_⟩
    rw [h1, show n = b - a by omega]
  | _ :: _ :: _, a, b, h, c, z => by simp at z
section
variable {M : Model} {A : Around} {E : Value → Shared → Prop} {s : Shared} {lb : Keyed → Keyed → Bool} {D : Keyed → Prop} {kd : SortKind}
theorem SI.len {a0 : Array Keyed} {st : SortSt} {lo : Nat} (h : SI lb kd a0 st lo) : (pendingOf st).size ≤ lo := by
  have : ∀ (l : List Pn) (a b : Nat), Tiles l a b → a + l.length ≤ b := by
    intro l
    induction l with
    | nil => intro a b h; rw [show a = b from h]; simp
    | cons x r ih =>
      intro a b h
      have := ih _ _ h.2.2
      have := h.2.1
      rw [List.length_cons]
      omega
  have := this _ _ _ h.tiles
  simpa using this
theorem SI.push {a0 : Array Keyed} {st : SortSt} {lo n : Nat} (h : SI lb kd a0 st lo) (n0 : 0 < n) (hn : lo + n ≤ a0.size) (sr : Srtd lb ((arrOf st).extract lo (lo + n)).toList) :
    SI lb kd a0 (setPending st ((pendingOf st).push (lo, n, 0))) (lo + n) := by
  refine ⟨h.kind, h.failed, h.perm, ?_, hn, ?_⟩
  · show Tiles ((pendingOf st).push (lo, n, 0)).toList 0 (lo + n)
    rw [Array.toList_push]
    exact h.tiles.snoc rfl n0
  · intro x hx
    have hx : x ∈ ((pendingOf st).push (lo, n, 0)).toList := hx
    rw [Array.toList_push] at hx
    rcases List.mem_append.mp hx with z | z
    · exact h.runs x z
    · have : x = (lo, n, 0) := by simpa using z
      rw [this]
      exact sr
theorem SI.mod {a0 : Array Keyed} {st : SortSt} {lo : Nat} (h : SI lb kd a0 st lo) (k pw : Nat) : SI lb kd a0 (setPending st ((pendingOf st).modify k fun (x : Pn) => (x.1, x.2.1, pw))) lo := by
  refine ⟨h.kind, h.failed, h.perm, ?_, h.top, ?_⟩
  · show Tiles ((pendingOf st).modify k _).toList 0 lo
    rw [Array.toList_modify]
    exact Tiles.repl k _ (fun x => ⟨rfl, rfl⟩) h.tiles
  · intro x hx
    have hx : x ∈ ((pendingOf st).modify k fun (x : Pn) => (x.1, x.2.1, pw)).toList := hx
    rw [Array.toList_modify] at hx
    obtain ⟨y, hy, e⟩ := mem_mod hx
    have r := h.runs y hy
    rcases e with rfl | rfl
    · exact r
    · exact r
theorem SI.tail {a0 : Array Keyed} {st st' : SortSt} {lo n : Nat} (h : SI lb kd a0 st lo) (sa : Sa st st') (hn : lo + n ≤ a0.size) (j : Joined lb (arrOf st) (arrOf st') lo n) : SI lb kd a0 st' lo := by
  have sz := h.size
  refine ⟨sa.1.trans h.kind, sa.2.2.trans h.failed, (j.perm (by omega)).trans h.perm, by rw [sa.2.1]; exact h.tiles, h.top, fun x hx => ?_⟩
  rw [sa.2.1] at hx
  have := h.tiles.in x hx
  rw [j.low (by omega) (by omega)]
  exact h.runs x hx
end
end Srt
set_option linter.all false
set_option maxHeartbeats 1000000
namespace Srt
set_option autoImplicit false
open PySem PyProof.Rows
section
variable {M : Model} {A : Around} {E : Value → Shared → Prop} {s : Shared} {lb : Keyed → Keyed → Bool} {D : Keyed → Prop} {kd : SortKind}
theorem wpS_sortAll (W : Wk lb) (hL : LtOk M A E s lb D kd) {st : SortSt} (hk : kindOf st = kd) (hf : failedOf st = none) (hp : pendingOf st = #[]) (dd : ∀ x ∈ (arrOf st).toList, D x) {Q : Unit → SortSt → Prop}
    (h : ∀ st', (arrOf st').toList.Perm (arrOf st).toList → failedOf st' = none → Srtd lb (arrOf st').toList → Q () st') : wpS M A E s sortRuns' Q st := by
  rw [sortRuns'_eq]
  refine wpS_bind (wpS_get ?_)
  dsimp only
  generalize hsz : (arrOf st).size = size
  generalize hmr : minRun' size size 0 = mr
  refine wpS_bind (wpS_mono (wpS_forRange
    (I := fun x c st' => ∃ lo, c = (none, lo) ∧ SI lb kd (arrOf st) st' lo ∧ (x ≤ lo ∨ lo = size))
    (Q := fun c st' => c = (none, size) ∧ SI lb kd (arrOf st) st' size) ?step ?fin ⟨0, rfl, ⟨hk, hf, List.Perm.refl _, by rw [hp]; rfl, Nat.zero_le _, by rw [hp]; simp⟩, .inl (Nat.le_refl _)⟩) ?post)
  case fin =>
    rintro c st' ⟨lo, rfl, hI, hx⟩
    have : lo = size := by
      rcases hx with hx | hx
      · have := hI.top; omega
      · exact hx
    subst this
    exact ⟨rfl, hI⟩
  case step =>
    rintro x c st' _ hx ⟨lo, rfl, hI, hx'⟩
    dsimp only
    have top := hI.top
    have sz' := hI.size
    by_cases hge : lo ≥ size
    · rw [if_pos hge]
      have : lo = size := by omega
      subst this
      exact wpS_pure ⟨rfl, hI⟩
    rw [if_neg hge]
    have dd' : ∀ {st2 : SortSt}, SI lb kd (arrOf st) st2 lo → ∀ x ∈ (arrOf st2).toList, D x := fun h x hx => dd x (h.perm.mem_iff.mp hx)
    refine wpS_bind (wpS_countRun W hL hI.kind (dd' hI) (by omega) (by omega) fun m st2 sa2 m1 m2 j2 => ?_)
    dsimp only
    have hI2 := hI.tail sa2 (by omega) j2
    have sr2 := j2.here (by omega)
    have sz2 := hI2.size
    have bin : ∀ n, n = min (size - lo) mr → m < mr → m ≤ n ∧ 0 < n ∧ lo + n ≤ size := fun n e h => by omega
    by_cases hlt : m < mr
    · rw [if_pos hlt]
      refine wpS_bind (wpS_rule ?_)
      generalize hn : min (size - lo) mr = n
      obtain ⟨mn, n0, hnl⟩ := bin n hn.symm hlt
      refine wpS_bind (wpS_binary W hL hI2.kind (dd' hI2) mn (by omega) sr2 fun st3 sa3 j3 => ?_)
      simp only [Bool.not_true, Bool.false_eq_true, if_false]
      have hI3 := hI2.tail sa3 (by omega) j3
      have sr3 := j3.here (by omega)
      clear sr2 hI2 j2 sa2 j3 sa3 sz2 m1 m2 mn hlt hn bin
      clear m st2
      refine wpS_bind (wpS_get ?_)
      cases hb : (pendingOf st3).back? with
      | none =>
        dsimp only
        exact wpS_bind (wpS_modify (wpS_pure ⟨lo + n, rfl, hI3.push n0 (by omega) sr3, by omega⟩))
      | some z =>
        obtain ⟨s1, n1, z1⟩ := z
        dsimp only
        generalize power' size (2 * s1 + n1) (2 * s1 + n1 + n1 + n) size = pw
        refine wpS_bind (wpS_mono (wpS_forRange (I := fun _ c st' => c = (none, ()) ∧ SI lb kd (arrOf st) st' lo ∧ Srtd lb ((arrOf st').extract lo (lo + n)).toList)
          (Q := fun c st' => c = (none, ()) ∧ SI lb kd (arrOf st) st' lo ∧ Srtd lb ((arrOf st').extract lo (lo + n)).toList) ?_ (fun _ _ hh => hh) ⟨rfl, hI3, sr3⟩) ?_)
        · rintro y c st4 _ hy ⟨rfl, hI4, sr4⟩
          refine wpS_bind (wpS_get ?_)
          by_cases h1 : (pendingOf st4).size > 1
          · rw [if_pos h1, getElem?_pos (pendingOf st4) ((pendingOf st4).size - 2) (by omega)]
            generalize (pendingOf st4)[(pendingOf st4).size - 2]'(by omega) = zz
            obtain ⟨y1, y2, y3⟩ := zz
            dsimp only
            by_cases h2 : y3 ≤ pw
            · rw [if_pos h2]
              exact wpS_pure ⟨rfl, hI4, sr4⟩
            · rw [if_neg h2]
              refine wpS_bind (wpS_mergeT W hL dd hI4 (by omega) fun st5 hI5 h5 e5 => ?_)
              simp only [Bool.not_true, Bool.false_eq_true, if_false]
              exact wpS_pure ⟨rfl, hI5, by rw [e5 _ _ (Nat.le_refl _)]; exact sr4⟩
          · rw [if_neg h1]
            exact wpS_pure ⟨rfl, hI4, sr4⟩
        · rintro c st4 ⟨rfl, hI4, sr4⟩
          dsimp only
          refine wpS_bind (wpS_modify ?_)
          have hI5 := hI4.mod ((pendingOf st4).size - 1) pw
          exact wpS_bind (wpS_modify (wpS_pure ⟨lo + n, rfl, hI5.push n0 (by omega) sr4, by omega⟩))
    · rw [if_neg hlt]
      have hnl : lo + m ≤ size := by omega
      have n0 : 0 < m := by omega
      clear bin hlt m2 m1 j2 sz2 sa2
      refine wpS_bind (wpS_get ?_)
      cases hb : (pendingOf st2).back? with
      | none =>
        dsimp only
        exact wpS_bind (wpS_modify (wpS_pure ⟨lo + m, rfl, hI2.push n0 (by omega) sr2, by omega⟩))
      | some z =>
        obtain ⟨s1, n1, z1⟩ := z
        dsimp only
        generalize power' size (2 * s1 + n1) (2 * s1 + n1 + n1 + m) size = pw
        refine wpS_bind (wpS_mono (wpS_forRange (I := fun _ c st' => c = (none, ()) ∧ SI lb kd (arrOf st) st' lo ∧ Srtd lb ((arrOf st').extract lo (lo + m)).toList)
          (Q := fun c st' => c = (none, ()) ∧ SI lb kd (arrOf st) st' lo ∧ Srtd lb ((arrOf st').extract lo (lo + m)).toList) ?_ (fun _ _ hh => hh) ⟨rfl, hI2, sr2⟩) ?_)
        · rintro y c st4 _ hy ⟨rfl, hI4, sr4⟩
          refine wpS_bind (wpS_get ?_)
          by_cases h1 : (pendingOf st4).size > 1
          · rw [if_pos h1, getElem?_pos (pendingOf st4) ((pendingOf st4).size - 2) (by omega)]
            generalize (pendingOf st4)[(pendingOf st4).size - 2]'(by omega) = zz
            obtain ⟨y1, y2, y3⟩ := zz
            dsimp only
            by_cases h2 : y3 ≤ pw
            · rw [if_pos h2]
              exact wpS_pure ⟨rfl, hI4, sr4⟩
            · rw [if_neg h2]
              refine wpS_bind (wpS_mergeT W hL dd hI4 (by omega) fun st5 hI5 h5 e5 => ?_)
              simp only [Bool.not_true, Bool.false_eq_true, if_false]
              exact wpS_pure ⟨rfl, hI5, by rw [e5 _ _ (Nat.le_refl _)]; exact sr4⟩
          · rw [if_neg h1]
            exact wpS_pure ⟨rfl, hI4, sr4⟩
        · rintro c st4 ⟨rfl, hI4, sr4⟩
          dsimp only
          refine wpS_bind (wpS_modify ?_)
          have hI5 := hI4.mod ((pendingOf st4).size - 1) pw
          exact wpS_bind (wpS_modify (wpS_pure ⟨lo + m, rfl, hI5.push n0 (by omega) sr4, by omega⟩))
  case post =>
    rintro c st' ⟨rfl, hI⟩
    dsimp only
    have fin : ∀ st', SI lb kd (arrOf st) st' size → (pendingOf st').size ≤ 1 → Q () st' := fun st' hI hl => by
      refine h st' hI.perm hI.failed ?_
      by_cases z : 0 < size
      · obtain ⟨p, e⟩ := hI.tiles.one z (by simpa using hl)
        have r := hI.runs (0, size - 0, p) (by rw [e]; simp)
        have r : Srtd lb ((arrOf st').extract 0 (0 + (size - 0))).toList := r
        have e1 := hI.size
        rw [show 0 + (size - 0) = (arrOf st').size by omega, Array.extract_size] at r
        exact r
      · have : (arrOf st').toList = [] := List.length_eq_zero_iff.mp (by rw [Array.length_toList]; have := hI.size; omega)
        rw [this]
        exact List.Pairwise.nil
    refine wpS_bind (wpS_mono (wpS_forRange (I := fun x c st' => c = (none, ()) ∧ SI lb kd (arrOf st) st' size ∧ (pendingOf st').size + x ≤ max (size + 1) (1 + x))
      (Q := fun c st' => c = (none, ()) ∧ SI lb kd (arrOf st) st' size ∧ (pendingOf st').size ≤ 1) ?_ ?_ ⟨rfl, hI, by have := hI.len; omega⟩) ?_)
    · rintro x c st' _ hx ⟨rfl, hI, hb⟩
      refine wpS_bind (wpS_get ?_)
      by_cases h1 : (pendingOf st').size ≤ 1
      · rw [if_pos h1]
        exact wpS_pure ⟨rfl, hI, h1⟩
      rw [if_neg h1]
      have hg : ∀ b : Bool, (if b = true then (pendingOf st').size - 2 - 1 else (pendingOf st').size - 2) + 1 < (pendingOf st').size := fun b => by split <;> omega
      replace hg := hg (Option.any (fun x => decide (x < ((pendingOf st')[(pendingOf st').size - 2 + 1]?.elim 0 fun x => x.snd.fst))) (if (pendingOf st').size - 2 > 0 then Option.map (fun x => x.snd.fst) (pendingOf st')[(pendingOf st').size - 2 - 1]? else none))
      generalize (if (if (pendingOf st').size - 2 > 0 then Option.map (fun x => x.snd.fst) (pendingOf st')[(pendingOf st').size - 2 - 1]? else none).any _ = true then (pendingOf st').size - 2 - 1 else (pendingOf st').size - 2) = i at hg ⊢
      refine wpS_bind (wpS_mergeT W hL dd hI hg fun st2 hI2 h2 _ => ?_)
      simp only [Bool.not_true, Bool.false_eq_true, if_false]
      exact wpS_pure ⟨rfl, hI2, by omega⟩
    · rintro c st' ⟨rfl, hI, hb⟩
      exact ⟨rfl, hI, by omega⟩
    · rintro c st' ⟨rfl, hI, hb⟩
      exact wpS_pure (fin _ hI hb)
end
end Srt
set_option linter.all false
set_option maxHeartbeats 1000000
namespace Srt
set_option autoImplicit false
open PySem PySem.W PyProof.Rows
def lexLt : List Int → List Int → Bool
  | [], [] => false
  | [], _ :: _ => true
  | _ :: _, [] => false
  | a :: x, b :: y => if a = b then lexLt x y else decide (a < b)
theorem lex_irr : ∀ x, lexLt x x = false
  | [] => rfl
  | a :: x => by rw [lexLt, if_pos rfl]; exact lex_irr x
theorem lex_tr : ∀ x y z, lexLt x y = true → lexLt y z = true → lexLt x z = true
  | [], [], _, h, _ => nomatch h
  | [], _ :: _, [], _, h => nomatch h
  | [], _ :: _, _ :: _, _, _ => rfl
  | _ :: _, [], _, h, _ => nomatch h
  | _ :: _, _ :: _, [], _, h => nomatch h
  | a :: x, b :: y, c :: z, h, k => by
    rw [lexLt] at *
    by_cases e : a = b
    · subst e
      rw [if_pos rfl] at h
      by_cases e2 : a = c
      · subst e2
        rw [if_pos rfl] at k ⊢
        exact lex_tr x y z h k
      · rw [if_neg e2] at k ⊢
        exact k
    · rw [if_neg e] at h
      by_cases e2 : b = c
      · subst e2
        rw [if_neg e]
        exact h
      · rw [if_neg e2] at k
        have h := of_decide_eq_true h
        have k := of_decide_eq_true k
        rw [if_neg (by omega)]
        exact decide_eq_true (by omega)
theorem lex_neg : ∀ x y z, lexLt x z = true → lexLt x y = true ∨ lexLt y z = true
  | [], [], z, h => .inr h
  | [], _ :: _, z, h => .inl rfl
  | _ :: _, _, [], h => nomatch h
  | _ :: _, [], _ :: _, h => .inr rfl
  | a :: x, b :: y, c :: z, h => by
    rw [lexLt] at *
    by_cases e : a = c
    · subst e
      rw [if_pos rfl] at h
      by_cases e2 : a = b
      · subst e2
        rw [if_pos rfl, lexLt, if_pos rfl]
        exact lex_neg x y z h
      · rw [if_neg e2, lexLt, if_neg (fun q => e2 q.symm)]
        by_cases l : a < b
        · exact .inl (decide_eq_true l)
        · exact .inr (decide_eq_true (by omega))
    · rw [if_neg e] at h
      have h := of_decide_eq_true h
      by_cases e2 : a = b
      · subst e2
        rw [lexLt, if_neg e]
        exact .inr (decide_eq_true h)
      · rw [if_neg e2]
        by_cases l : a < b
        · exact .inl (decide_eq_true l)
        · rw [lexLt, if_neg (by omega)]
          exact .inr (decide_eq_true (by omega))
theorem lex_tot : ∀ x y, lexLt x y = false → lexLt y x = false → x = y
  | [], [], _, _ => rfl
  | [], _ :: _, h, _ => nomatch h
  | _ :: _, [], _, h => nomatch h
  | a :: x, b :: y, h, k => by
    rw [lexLt] at *
    by_cases e : a = b
    · subst e
      rw [if_pos rfl] at h k
      rw [lex_tot x y h k]
    · rw [if_neg e] at h
      rw [if_neg (fun q => e q.symm)] at k
      have h := of_decide_eq_false h
      have k := of_decide_eq_false k
      omega
def keyOf (h : Heap) : Value → List Int
  | .ref a => match h.get? a with
    | some o => match o.data with
      | .seq xs _ => xs.toList.map numOf
      | _ => []
    | none => []
  | _ => []
def lbT (h : Heap) (x y : Keyed) : Bool := lexLt (keyOf h x.1) (keyOf h y.1)
theorem lbT_wk (h : Heap) : Wk (lbT h) := ⟨fun a => lex_irr _, fun a b c => lex_neg _ _ _, fun a b c => lex_tr _ _ _⟩
def TupI (h : Heap) (v : Value) : Prop := ∃ a o xs n, v = .ref a ∧ h.get? a = some o ∧ o.cls = .type "tuple" ∧ o.data = .seq xs n ∧ (∀ u ∈ xs.toList, ∃ k t, u = .int k t) ∧ 0 < xs.size
theorem TupI.kept {h h' : Heap} {v : Value} (x : TupI h v) (k : ∀ a o, o.cls = .type "tuple" → h.get? a = some o → h'.get? a = some o) : TupI h' v ∧ keyOf h' v = keyOf h v := by
  obtain ⟨a, o, xs, n, rfl, ho, hc, hd, hi, hz⟩ := x
  refine ⟨⟨a, o, xs, n, rfl, k _ _ hc ho, hc, hd, hi, hz⟩, ?_⟩
  unfold keyOf
  simp only [ho, k _ _ hc ho]
theorem TupI.key {h : Heap} {a : Addr} {o : Obj} {xs : Array Value} {n : Nat} (ho : h.get? a = some o) (hd : o.data = .seq xs n) : keyOf h (.ref a) = xs.toList.map numOf := by
  unfold keyOf
  simp only [ho, hd]
section
variable {prog : Program} {w : World} {A : Around} {E : Value → Shared → Prop} {s : Shared}
theorem kat_ints {Q : Bool → Shared → Prop} : ∀ (xs ys : List Value) (i : Nat), (∀ u ∈ xs, ∃ k t, u = Value.int k t) → (∀ u ∈ ys, ∃ k t, u = Value.int k t) → Q (lexLt (xs.map numOf) (ys.map numOf)) s → KatLex prog w A true (decide (xs.length < ys.length)) Q (xs.zip ys) i s
  | [], [], i, _, _, h => by exact h
  | [], _ :: _, i, _, _, h => by exact h
  | _ :: _, [], i, _, _, h => by exact h
  | x :: xs, y :: ys, i, hx, hy, h => by
    obtain ⟨a, t, rfl⟩ := hx x (List.mem_cons_self ..)
    obtain ⟨b, u, rfl⟩ := hy y (List.mem_cons_self ..)
    rw [List.zip_cons_cons, show decide ((Value.int a t :: xs).length < (Value.int b u :: ys).length) = decide (xs.length < ys.length) by simp]
    refine kat_cons (wpAny_eqBool_int ?_)
    have h : Q (if a = b then lexLt (xs.map numOf) (ys.map numOf) else decide (a < b)) s := h
    by_cases e : a = b
    · rw [if_pos e] at h
      rw [beq_iff_eq.mpr e]
      exact kat_yes (kat_ints xs ys (i + 1) (fun u hu => hx u (List.mem_cons_of_mem _ hu)) (fun u hu => hy u (List.mem_cons_of_mem _ hu)) h)
    · rw [if_neg e] at h
      rw [beq_eq_false_iff_ne.mpr e]
      refine kat_no ?_
      rw [Bool.true_and]
      cases i == 0 with
      | true => exact oneLt_int h
      | false => exact kat_one _ _ (PyProof.Rows.lt_int h)
theorem ltOk_tups : LtOk (model prog w) A E s (lbT s.heap) (fun x => TupI s.heap x.1) (tuples' true) := by
  intro x y hx hy st Q hk q
  obtain ⟨a, oa, xs, n, ea, ha, ca, da, ia, za⟩ := hx
  obtain ⟨b, ob, ys, m, eb, hb, cb, db, ib, zb⟩ := hy
  rw [lt'_eq]
  refine wpS_bind (wpS_get ?_)
  rw [hk]
  have q : Q (some (lexLt (xs.toList.map numOf) (ys.toList.map numOf))) st := by
    have : lbT s.heap x y = lexLt (xs.toList.map numOf) (ys.toList.map numOf) := by
      unfold lbT
      rw [ea, eb, TupI.key ha da, TupI.key hb db]
    rw [← this]
    exact q
  rw [ea, eb]
  refine wpS_bind (wpS_lift (wpAny_attempt (kat_lt ha da hb db ?_)))
  have := kat_ints (prog := prog) (w := w) (A := A) (s := s) (Q := fun b s' => s' = s ∧ wpS (model prog w) A E s (match (Except.ok b : Except Value Bool) with
    | .ok b => pure (some b)
    | .error e => do
      modify (fun s => SortSt.mk' (kindOf s) (arrOf s) (pendingOf s) (gallopOf s) (some e))
      pure none) Q st) xs.toList ys.toList 0 ia ib ⟨rfl, wpS_pure q⟩
  simpa using this
end
end Srt
set_option linter.all false
set_option maxHeartbeats 1000000
namespace Fc
open Cyc Tri Rnd
section
variable {α : Type} {le : α → α → Bool}
theorem perm_sorted_eq (anti : ∀ a b, le a b = true → le b a = true → a = b) : ∀ {l m : List α}, l.Perm m → l.Pairwise (fun a b => le a b = true) → m.Pairwise (fun a b => le a b = true) → l = m
  | [], m, p, _, _ => (List.nil_perm.mp p).symm
  | a :: l, m, p, hl, hm => by
    match m, p, hm with
    | [], p, _ => exact absurd p.length_eq (by simp)
    | b :: m, p, hm =>
      have hl' := List.pairwise_cons.mp hl
      have hm' := List.pairwise_cons.mp hm
      have e : a = b := by
        rcases List.mem_cons.mp (p.mem_iff.mp (List.mem_cons_self ..)) with z | z
        · exact z
        · rcases List.mem_cons.mp (p.mem_iff.mpr (List.mem_cons_self ..)) with y | y
          · exact y.symm
          · exact anti a b (hl'.1 b y) (hm'.1 a z)
      subst e
      rw [perm_sorted_eq anti (List.Perm.cons_inv p) hl'.2 hm'.2]
theorem sort_is (tr : ∀ a b c, le a b = true → le b c = true → le a c = true) (tot : ∀ a b, (le a b || le b a) = true) (anti : ∀ a b, le a b = true → le b a = true → a = b) {l m : List α} (p : l.Perm m) (h : l.Pairwise (fun a b => le a b = true)) : l = m.mergeSort le :=
  perm_sorted_eq anti (p.trans (List.mergeSort_perm m le).symm) h (List.pairwise_mergeSort tr tot m)
end
def leP (a b : Nat × Nat) : Bool := decide (a.1 < b.1 ∨ a.1 = b.1 ∧ a.2 ≤ b.2)
theorem leP_iff {a b : Nat × Nat} : leP a b = true ↔ a.1 < b.1 ∨ a.1 = b.1 ∧ a.2 ≤ b.2 := decide_eq_true_iff
def sortP (T : List (Nat × Nat)) : List (Nat × Nat) := T.mergeSort leP
theorem sortP_is {l m : List (Nat × Nat)} (p : l.Perm m) (h : l.Pairwise (fun a b => leP a b = true)) : l = sortP m :=
  sort_is (fun a b c h k => by rw [leP_iff] at *; omega) (fun a b => by
    rw [Bool.or_eq_true, leP_iff, leP_iff]
    omega) (fun a b h k => by
    rw [leP_iff] at h k
    exact Prod.ext (by omega) (by omega)) p h
theorem sortP_perm (T : List (Nat × Nat)) : (sortP T).Perm T := List.mergeSort_perm T leP
def zl (l : List Nat) : List Int := l.map fun n : Nat => (n : Int)
theorem zl_inj : ∀ {a b : List Nat}, zl a = zl b → a = b
  | [], [], _ => rfl
  | [], _ :: _, h => nomatch h
  | _ :: _, [], h => nomatch h
  | a :: l, b :: m, h => by
    unfold zl at h
    rw [List.map_cons, List.map_cons] at h
    injection h with h1 h2
    rw [zl_inj (a := l) (b := m) h2, show a = b by omega]
def leL (a b : List Nat) : Bool := !Srt.lexLt (zl b) (zl a)
theorem leL_iff {a b : List Nat} : leL a b = true ↔ Srt.lexLt (zl b) (zl a) = false := by
  unfold leL
  cases Srt.lexLt (zl b) (zl a) <;> simp
def sortL (T : List (List Nat)) : List (List Nat) := T.mergeSort leL
theorem leL_tr (a b c : List Nat) (h : leL a b = true) (k : leL b c = true) : leL a c = true := by
  rw [leL_iff] at *
  cases e : Srt.lexLt (zl c) (zl a) with
  | false => rfl
  | true =>
    rcases Srt.lex_neg _ (zl b) _ e with z | z
    · rw [k] at z; cases z
    · rw [h] at z; cases z
theorem leL_tot (a b : List Nat) : (leL a b || leL b a) = true := by
  rw [Bool.or_eq_true, leL_iff, leL_iff]
  cases e : Srt.lexLt (zl b) (zl a) with
  | false => exact .inl rfl
  | true =>
    right
    cases f : Srt.lexLt (zl a) (zl b) with
    | false => rfl
    | true =>
      have := Srt.lex_tr _ _ _ e f
      rw [Srt.lex_irr] at this
      cases this
theorem leL_anti (a b : List Nat) (h : leL a b = true) (k : leL b a = true) : a = b := by
  rw [leL_iff] at h k
  exact zl_inj (Srt.lex_tot _ _ k h)
theorem sortL_is {l m : List (List Nat)} (p : l.Perm m) (h : l.Pairwise (fun a b => leL a b = true)) : l = sortL m := sort_is leL_tr leL_tot leL_anti p h
theorem sortL_perm (T : List (List Nat)) : (sortL T).Perm T := List.mergeSort_perm T leL
theorem leP_leL (a b : Nat × Nat) : leL [a.1, a.2] [b.1, b.2] = leP a b := by
  rw [Bool.eq_iff_iff, leL_iff, leP_iff]
  show Srt.lexLt [(b.1 : Int), (b.2 : Int)] [(a.1 : Int), (a.2 : Int)] = false ↔ _
  unfold Srt.lexLt
  by_cases e : (b.1 : Int) = a.1
  · rw [if_pos e]
    unfold Srt.lexLt
    by_cases f : (b.2 : Int) = a.2
    · rw [if_pos f]
      exact ⟨fun _ => by omega, fun _ => rfl⟩
    · rw [if_neg f]
      rw [decide_eq_false_iff_not]
      omega
  · rw [if_neg e]
    rw [decide_eq_false_iff_not]
    omega
open Classical in
noncomputable def per (W : Rows) (t : Nat × Nat) : Nat := if h : ∃ k, 0 < k ∧ it (nxt W) k t = t ∧ ∀ j, 0 < j → j < k → it (nxt W) j t ≠ t then Classical.choose h else 0
theorem per_is {W : Rows} {t : Nat × Nat} {k : Nat} (h0 : 0 < k) (h1 : it (nxt W) k t = t) (h2 : ∀ j, 0 < j → j < k → it (nxt W) j t ≠ t) : per W t = k := by
  have ex : ∃ k, 0 < k ∧ it (nxt W) k t = t ∧ ∀ j, 0 < j → j < k → it (nxt W) j t ≠ t := ⟨k, h0, h1, h2⟩
  unfold per
  rw [dif_pos ex]
  obtain ⟨a, b, c⟩ := Classical.choose_spec ex
  generalize Classical.choose ex = m at *
  rcases Nat.lt_trichotomy m k with l | l | l
  · exact absurd b (h2 m a l)
  · exact l
  · exact absurd h1 (c k h0 l)
noncomputable def rnd (W : Rows) (t : Nat × Nat) : List (Nat × Nat) := (List.range (per W t)).map fun i => it (nxt W) i t
noncomputable def fstep (W : Rows) (st : List (List Nat) × List (Nat × Nat)) (t : Nat × Nat) : List (List Nat) × List (Nat × Nat) :=
  if t ∈ st.2 then st else (st.1 ++ [(rnd W t).map (·.1)], st.2 ++ rnd W t)
noncomputable def fgo (W : Rows) (S : List (Nat × Nat)) : List (List Nat) × List (Nat × Nat) := S.foldl (fstep W) ([], [])
theorem fgo_snoc (W : Rows) (S : List (Nat × Nat)) (t : Nat × Nat) : fgo W (S ++ [t]) = fstep W (fgo W S) t := by
  unfold fgo
  rw [List.foldl_append]
  rfl
def stepsS (W : Rows) : List (Nat × Nat) := sortP (stepsL W)
def tiesS (W : Rows) : List (Nat × Nat) := (stepsS W).filter fun t => decide (t.1 < t.2)
noncomputable def facesU (W : Rows) : List (List Nat) := (fgo W (stepsS W)).1
noncomputable def facesS (W : Rows) : List (List Nat) := sortL (facesU W)
theorem mem_stepsS {W : Rows} {t : Nat × Nat} : t ∈ stepsS W ↔ E W t.1 t.2 := by
  unfold stepsS
  rw [(sortP_perm _).mem_iff]
  exact mem_steps
end Fc
set_option linter.all false
set_option maxHeartbeats 1000000
namespace Fc
open Cyc Tri Rnd
section
variable {W : Rows} (S : Nb W)
theorem nxt_ok (S : Nb W) : Rnd.Perm (nxt W) (stepsL W) := nxt_perm S.nd S.sym
theorem per_ok (S : Nb W) {t : Nat × Nat} (h : t ∈ stepsL W) : 0 < per W t ∧ per W t ≤ (stepsL W).length ∧ it (nxt W) (per W t) t = t ∧ ∀ j, 0 < j → j < per W t → it (nxt W) j t ≠ t := by
  obtain ⟨k, h1, h2, h3, h4⟩ := (nxt_ok S).comes h
  have e := per_is h1 h3 h4
  rw [e]
  exact ⟨h1, h2, h3, h4⟩
theorem rnd_nodup (S : Nb W) {t : Nat × Nat} (h : t ∈ stepsL W) : (rnd W t).Nodup := (nxt_ok S).round_nodup h (per_ok S h).2.2.2
theorem rnd_len (W : Rows) (t : Nat × Nat) : (rnd W t).length = per W t := by unfold rnd; simp
theorem rnd_sub (S : Nb W) {t u : Nat × Nat} (h : t ∈ stepsL W) (hu : u ∈ rnd W t) : u ∈ stepsL W := by
  unfold rnd at hu
  obtain ⟨i, _, rfl⟩ := List.mem_map.mp hu
  exact (nxt_ok S).it i h
theorem mem_rnd (S : Nb W) {t u : Nat × Nat} (h : t ∈ stepsL W) : u ∈ rnd W t ↔ ∃ j, it (nxt W) j t = u := by
  obtain ⟨p0, _, back, _⟩ := per_ok S h
  unfold rnd
  rw [List.mem_map]
  constructor
  · rintro ⟨i, _, e⟩
    exact ⟨i, e⟩
  · rintro ⟨j, e⟩
    refine ⟨j % per W t, List.mem_range.mpr (Nat.mod_lt _ p0), ?_⟩
    rw [← it_mod _ _ back]
    exact e
theorem rnd_self (S : Nb W) {t : Nat × Nat} (h : t ∈ stepsL W) : t ∈ rnd W t := (mem_rnd S h).mpr ⟨0, rfl⟩
theorem rnd_next (S : Nb W) {t u : Nat × Nat} (h : t ∈ stepsL W) (hu : u ∈ rnd W t) : nxt W u ∈ rnd W t := by
  obtain ⟨j, rfl⟩ := (mem_rnd S h).mp hu
  exact (mem_rnd S h).mpr ⟨j + 1, rfl⟩
structure FI (W : Rows) (T : List (Nat × Nat)) (st : List (List Nat) × List (Nat × Nat)) : Prop where
  reps : ∃ R : List (Nat × Nat), (∀ r ∈ R, r ∈ T) ∧ st.1 = R.map (fun r => (rnd W r).map (·.1)) ∧ st.2 = R.flatMap (rnd W)
  nd : st.2.Nodup
  sub : ∀ t ∈ st.2, t ∈ stepsL W
  cl : ∀ t ∈ st.2, nxt W t ∈ st.2
  cov : ∀ t ∈ T, t ∈ st.2
theorem FI.start (W : Rows) : FI W [] ([], []) := ⟨⟨[], by simp, rfl, rfl⟩, List.nodup_nil, by simp, by simp, by simp⟩
theorem FI.it {T : List (Nat × Nat)} {st : List (List Nat) × List (Nat × Nat)} (h : FI W T st) {t : Nat × Nat} (ht : t ∈ st.2) (j : Nat) : it (nxt W) j t ∈ st.2 := by
  induction j with
  | zero => exact ht
  | succ j ih => exact h.cl _ ih
theorem FI.step (S : Nb W) {T : List (Nat × Nat)} {st : List (List Nat) × List (Nat × Nat)} (h : FI W T st) {t : Nat × Nat} (ht : t ∈ stepsL W) : FI W (T ++ [t]) (fstep W st t) := by
  unfold fstep
  obtain ⟨R, r1, r2, r3⟩ := h.reps
  split
  · rename_i c
    refine ⟨⟨R, fun r hr => List.mem_append_left _ (r1 r hr), r2, r3⟩, h.nd, h.sub, h.cl, fun u hu => ?_⟩
    rcases List.mem_append.mp hu with z | z
    · exact h.cov u z
    · rw [List.mem_singleton.mp z]
      exact c
  · rename_i c
    have dis : ∀ a ∈ st.2, ∀ b ∈ rnd W t, a ≠ b := fun a ha b hb e => by
      subst e
      obtain ⟨j, rfl⟩ := (mem_rnd S ht).mp hb
      obtain ⟨p0, _, back, _⟩ := per_ok S ht
      have : Rnd.it (nxt W) (per W t * (j + 1) - j) (Rnd.it (nxt W) j t) = t := by
        have le : j ≤ per W t * (j + 1) := Nat.le_trans (Nat.le_succ j) (Nat.le_mul_of_pos_left _ p0)
        rw [← it_add, Nat.sub_add_cancel le, it_mod _ _ back, Nat.mul_mod_right]
        rfl
      rw [← this] at c
      exact c (h.it ha _)
    refine ⟨⟨R ++ [t], fun r hr => ?_, by rw [List.map_append, r2]; rfl, by rw [List.flatMap_append, r3, List.flatMap_singleton]⟩, ?_, fun u hu => ?_, fun u hu => ?_, fun u hu => ?_⟩
    · rcases List.mem_append.mp hr with z | z
      · exact List.mem_append_left _ (r1 r z)
      · exact List.mem_append_right _ z
    · exact List.nodup_append.mpr ⟨h.nd, rnd_nodup S ht, dis⟩
    · rcases List.mem_append.mp hu with z | z
      · exact h.sub u z
      · exact rnd_sub S ht z
    · rcases List.mem_append.mp hu with z | z
      · exact List.mem_append_left _ (h.cl u z)
      · exact List.mem_append_right _ (rnd_next S ht z)
    · rcases List.mem_append.mp hu with z | z
      · exact List.mem_append_left _ (h.cov u z)
      · rw [List.mem_singleton.mp z]
        exact List.mem_append_right _ (rnd_self S ht)
theorem fgo_ok (S : Nb W) : ∀ (T : List (Nat × Nat)), (∀ t ∈ T, t ∈ stepsL W) → FI W T (fgo W T) := by
  intro T
  have : ∀ (n : Nat), n ≤ T.length → (∀ t ∈ T, t ∈ stepsL W) → FI W (T.take n) (fgo W (T.take n)) := fun n => by
    induction n with
    | zero => intro _ _; rw [List.take_zero]; exact FI.start W
    | succ n ih =>
      intro hn hT
      have h := ih (by omega) hT
      have e : T.take (n + 1) = T.take n ++ [T[n]] := by rw [List.take_succ, List.getElem?_eq_getElem (by omega)]; rfl
      rw [e, fgo_snoc]
      exact h.step S (hT _ (List.getElem_mem _))
  intro hT
  have := this T.length (Nat.le_refl _) hT
  rwa [List.take_length] at this
theorem FI.len {T : List (Nat × Nat)} {st : List (List Nat) × List (Nat × Nat)} (h : FI W T st) : st.2.length ≤ (stepsL W).length := List.Nodup.length_le_of_subset h.nd h.sub
end
end Fc
set_option linter.all false
set_option maxHeartbeats 1000000
namespace Fc
open Cyc Tri Rnd
theorem filt_len {α : Type} (l : List α) (p : α → Bool) : (l.filter p).length + (l.filter fun x => !p x).length = l.length := by
  induction l with
  | nil => rfl
  | cons x l ih =>
    rw [List.filter_cons, List.filter_cons, List.length_cons]
    cases p x <;> simp <;> omega
section
variable {W : Rows}
theorem nxt_ne (S : Nb W) {t : Nat × Nat} (h : t ∈ stepsL W) : nxt W t ≠ t := fun e => by
  have a := S.e (mem_steps.mp (show (t.1, t.2) ∈ stepsL W from h))
  have : (nxt W t).1 = t.2 := rfl
  rw [e] at this
  exact a.2.2 this.symm
theorem nodupS (S : Nb W) : (stepsS W).Nodup := (sortP_perm _).nodup_iff.mpr (steps_nodup S.nd)
theorem ties_len (S : Nb W) : 2 * (tiesS W).length = (stepsL W).length := by
  have nd := nodupS S
  have l : (stepsS W).length = (stepsL W).length := (sortP_perm _).length_eq
  have tot := filt_len (stepsS W) fun t => decide (t.1 < t.2)
  have perm : (((stepsS W).filter fun t => !decide (t.1 < t.2)).map fun t => (t.2, t.1)).Perm ((stepsS W).filter fun t => decide (t.1 < t.2)) := by
    refine (List.perm_ext_iff_of_nodup ?_ (nd.filter _)).mpr fun t => ?_
    · exact List.pairwise_map.mpr ((nd.filter _).imp fun {a b} h e => h (by
        injection e with e1 e2
        exact Prod.ext e2 e1))
    · constructor
      · intro h
        obtain ⟨u, hu, rfl⟩ := List.mem_map.mp h
        obtain ⟨a, b⟩ := List.mem_filter.mp hu
        have e := mem_stepsS.mp a
        have ne := (S.e e).2.2
        refine List.mem_filter.mpr ⟨mem_stepsS.mpr (S.sym _ _ e), ?_⟩
        have b : ¬ u.1 < u.2 := by simpa using b
        exact decide_eq_true (show u.2 < u.1 by omega)
      · intro h
        obtain ⟨a, b⟩ := List.mem_filter.mp h
        have b := of_decide_eq_true b
        refine List.mem_map.mpr ⟨(t.2, t.1), List.mem_filter.mpr ⟨mem_stepsS.mpr (S.sym _ _ (mem_stepsS.mp a)), ?_⟩, rfl⟩
        have : ¬ t.2 < t.1 := by omega
        simpa using this
  have e := perm.length_eq
  rw [List.length_map] at e
  unfold tiesS
  omega
theorem all_seen (S : Nb W) : (fgo W (stepsS W)).2.Perm (stepsL W) := by
  have fi := fgo_ok S (stepsS W) fun t h => (sortP_perm _).mem_iff.mp h
  exact (List.perm_ext_iff_of_nodup fi.nd (steps_nodup S.nd)).mpr fun t => ⟨fi.sub t, fun h => fi.cov t ((sortP_perm _).mem_iff.mpr h)⟩
theorem faces_sum (S : Nb W) : ((facesU W).map List.length).sum = (stepsL W).length := by
  have fi := fgo_ok S (stepsS W) fun t h => (sortP_perm _).mem_iff.mp h
  obtain ⟨R, _, r2, r3⟩ := fi.reps
  have e := (all_seen S).length_eq
  unfold facesU
  rw [r2, ← e, r3, List.length_flatMap, List.map_map]
  congr 1
  refine List.map_congr_left fun r _ => ?_
  show ((rnd W r).map _).length = _
  rw [List.length_map]
theorem faces3 (S : Nb W) : (∀ f ∈ facesS W, f.length = 3) ↔ ∀ t ∈ stepsL W, (nxt W (nxt W t)).2 = t.1 := by
  have fi := fgo_ok S (stepsS W) fun t h => (sortP_perm _).mem_iff.mp h
  obtain ⟨R, r1, r2, r3⟩ := fi.reps
  have memF : ∀ f, f ∈ facesS W ↔ ∃ r ∈ R, f = (rnd W r).map (·.1) := fun f => by
    unfold facesS
    rw [(sortL_perm _).mem_iff]
    unfold facesU
    rw [r2, List.mem_map]
    exact ⟨fun ⟨r, a, b⟩ => ⟨r, a, b.symm⟩, fun ⟨r, a, b⟩ => ⟨r, a, b.symm⟩⟩
  have rs : ∀ r ∈ R, r ∈ stepsL W := fun r hr => (sortP_perm _).mem_iff.mp (r1 r hr)
  constructor
  · intro h t ht
    have hm := (all_seen S).mem_iff.mpr ht
    rw [r3, List.mem_flatMap] at hm
    obtain ⟨r, hr, htr⟩ := hm
    have l3 := h _ ((memF _).mpr ⟨r, hr, rfl⟩)
    rw [List.length_map, rnd_len] at l3
    obtain ⟨j, rfl⟩ := (mem_rnd S (rs r hr)).mp htr
    have back := (per_ok S (rs r hr)).2.2.1
    rw [l3] at back
    have e : nxt W (nxt W (nxt W (it (nxt W) j r))) = it (nxt W) j r := by
      show it (nxt W) 3 (it (nxt W) j r) = _
      rw [← it_add, Nat.add_comm, it_add, back]
    have e1 : (nxt W (nxt W (nxt W (it (nxt W) j r)))).1 = (nxt W (nxt W (it (nxt W) j r))).2 := rfl
    rw [e] at e1
    exact e1.symm
  · intro h f hf
    obtain ⟨r, hr, rfl⟩ := (memF f).mp hf
    have hs := rs r hr
    rw [List.length_map, rnd_len]
    have to := (nxt_ok S).to
    have three : it (nxt W) 3 r = r := by
      show nxt W (nxt W (nxt W r)) = r
      have a := h r hs
      have b := h _ (to r hs)
      have e1 : (nxt W (nxt W (nxt W r))).1 = r.1 := a
      have e2 : (nxt W (nxt W (nxt W r))).2 = r.2 := b
      exact Prod.ext e1 e2
    refine per_is (by decide) three fun j j0 j3 => ?_
    have : j = 1 ∨ j = 2 := by omega
    rcases this with rfl | rfl
    · exact nxt_ne S hs
    · intro e
      have e : nxt W (nxt W r) = r := e
      have three : nxt W (nxt W (nxt W r)) = r := three
      rw [e] at three
      exact nxt_ne S hs three
theorem three_cornered (S : Nb W) : (W.length + (facesS W).length = (tiesS W).length + 2 ∧ ∀ f ∈ facesS W, f.length = 3) ↔ ((∀ t ∈ stepsL W, (nxt W (nxt W t)).2 = t.1) ∧ (stepsL W).length + 12 = 6 * W.length) := by
  rw [← faces3 S]
  have tl := ties_len S
  have fs := faces_sum S
  have fl : (facesS W).length = (facesU W).length := (sortL_perm _).length_eq
  have key : (∀ f ∈ facesS W, f.length = 3) → 3 * (facesS W).length = (stepsL W).length := fun h => by
    have h' : ∀ f ∈ facesU W, f.length = 3 := fun f hf => h f ((sortL_perm _).mem_iff.mpr hf)
    rw [fl, ← fs]
    generalize facesU W = F at h'
    clear h fs fl
    induction F with
    | nil => rfl
    | cons f F ih =>
      rw [List.map_cons, List.sum_cons, List.length_cons, ← ih fun g hg => h' g (List.mem_cons_of_mem _ hg), h' f (List.mem_cons_self ..)]
      omega
  constructor
  · rintro ⟨a, b⟩
    have := key b
    exact ⟨b, by omega⟩
  · rintro ⟨b, a⟩
    have := key b
    exact ⟨by omega, b⟩
end
end Fc
set_option linter.all false
namespace Tri
open Cyc
theorem putF_snoc (w : Nat) : ∀ (D : List Nat) (L : Rows) (x y : Nat), putF w L (D ++ [x, y]) = (putF w L (D ++ [x])).set x (insB ((putF w L (D ++ [x])).getD x []) y w)
  | [], L, x, y => rfl
  | [z], L, x, y => rfl
  | z :: z' :: r, L, x, y => putF_snoc w (z' :: r) (L.set z (insB (L.getD z []) z' w)) x y
theorem putF_take (w : Nat) (L : Rows) (P : List Nat) (k x y : Nat) (hx : P[k]? = some x) (hy : P[k + 1]? = some y) :
    putF w L (P.take (k + 2)) = (putF w L (P.take (k + 1))).set x (insB ((putF w L (P.take (k + 1))).getD x []) y w) := by
  have e1 : P.take (k + 1) = P.take k ++ [x] := by rw [List.take_succ, hx]; rfl
  have e2 : P.take (k + 2) = P.take k ++ [x, y] := by rw [List.take_succ, hy, e1]; simp
  rw [e1, e2]
  exact putF_snoc w _ L x y
end Tri
namespace Tri
open Cyc
theorem half_row_le {L : Rows} {O : List Nat} (G : Half L O) {p : Nat} {row : List Nat} (h : L[p]? = some row) : row.length ≤ 6 * L.length := by
  have q := sum_set L p row [] h
  have t := G.tot
  simp only [List.length_nil] at q
  omega
theorem put_at {L : Rows} {B M C : List Nat} {f l : Nat} (G : Half L (B ++ (f :: M ++ [l]) ++ C)) {i x y : Nat} (hx : (f :: M ++ [l])[i]? = some x) (hy : (f :: M ++ [l])[i + 1]? = some y) :
    ∃ row, L[x]? = some row ∧ y ∈ row ∧ row.length ≤ 6 * L.length ∧ (putF L.length L ((f :: M ++ [l]).take (i + 1)))[x]? = some row := by
  have pnd : (f :: M ++ [l]).Nodup := (List.nodup_append.mp (List.nodup_append.mp G.ond).1).2.1
  have hO : ∀ z, z ∈ f :: M ++ [l] → z ∈ B ++ (f :: M ++ [l]) ++ C := fun z hz => List.mem_append_left _ (List.mem_append_right _ hz)
  generalize hP : f :: M ++ [l] = P at *
  have e1 : P.take (i + 1) = P.take i ++ [x] := by rw [List.take_succ, hx]; rfl
  have eP : P = P.take i ++ x :: y :: P.drop (i + 2) := by
    have hi : i < P.length := (List.getElem?_eq_some_iff.mp hx).1
    have hj : i + 1 < P.length := (List.getElem?_eq_some_iff.mp hy).1
    have z : P.drop i = x :: y :: P.drop (i + 2) := by
      rw [List.drop_eq_getElem_cons hi, List.drop_eq_getElem_cons hj]
      rw [List.getElem?_eq_getElem hi] at hx
      rw [List.getElem?_eq_getElem hj] at hy
      cases hx; cases hy; rfl
    rw [← z, List.take_append_drop]
  have ad : Adj P x y := by rw [eP, adj_app]; exact .inr (.inl ⟨rfl, rfl⟩)
  have nx : Nx (B ++ P ++ C) x y := by rw [← hP] at ad ⊢; exact (nxO x y).mpr (.inl ad)
  have xP : x ∈ P := List.mem_of_getElem? hx
  obtain ⟨z, nz⟩ := nx_ex (hO x xP)
  obtain ⟨row, e, n⟩ := G.out x y z nx nz
  refine ⟨row, e, (nx_mem n).1, half_row_le G e, ?_⟩
  have tnd : (P.take (i + 1)).Nodup := pnd.sublist (List.take_sublist _ _)
  obtain ⟨_, _, h3, _⟩ := putF_all L.length (P.take (i + 1)) L tnd (fun z hz => G.orng z (hO z (List.mem_of_mem_take hz)))
  rw [h3 x (fun y' h => ?_), e]
  rw [e1] at h tnd
  exact adj_last_ne (fun z => (List.nodup_append.mp tnd).2.2 x z x (by simp) rfl) h rfl
end Tri
set_option linter.all false
set_option maxHeartbeats 1000000
set_option maxRecDepth 100000
namespace Srt
set_option autoImplicit false
open PySem PySem.W PyProof.Rows
def OrdV (lb : Keyed → Keyed → Bool) (l : List Value) : Prop := l.Pairwise fun u v => le lb (u, u) (v, v)
theorem out_ok {lb : Keyed → Keyed → Bool} {vs : List Value} {l : List Keyed} (p : l.Perm (vs.zip vs)) (sr : Srtd lb l) : (l.map (·.2)).Perm vs ∧ OrdV lb (l.map (·.2)) := by
  have same : ∀ x ∈ l, x = (x.2, x.2) := fun x hx => by
    have := (mem_zip_self (p.mem_iff.mp hx)).1
    obtain ⟨a, b⟩ := x
    have : a = b := this
    rw [this]
  refine ⟨?_, ?_⟩
  · have := p.map (fun x : Keyed => x.2)
    rwa [show (vs.zip vs).map (fun x : Keyed => x.2) = vs from List.map_snd_zip (Nat.le_refl _)] at this
  · refine List.pairwise_map.mpr (sr.imp_of_mem fun {x y} hx hy h => ?_)
    rw [← same x hx, ← same y hy]
    exact h
section
variable {prog : Program} {w : World} {A : Around} {E : Value → Shared → Prop} {s : Shared}
theorem sort_any {lb : Keyed → Keyed → Bool} {D : Keyed → Prop} {kd : SortKind} (W : Wk lb) {a : Addr} {vs : List Value} {n : Nat} {P : PySem.Fin → Shared → Prop} (ho : s.heap.get? a = some (seqObj "list" vs.toArray n)) (hz : vs.length ≤ sizeLine)
    (hkk : 2 ≤ vs.length → ∀ (h6 : Heap), (∀ b o, o.cls ≠ .type "list" → s.heap.get? b = some o → h6.get? b = some o) → ∀ Q : SortKind → Shared → Prop, Q kd { s with heap := h6 } → wpAny (model prog w) A (keyKind' vs.toArray) Q E { s with heap := h6 })
    (hL : ∀ (h6 : Heap), (∀ b o, o.cls ≠ .type "list" → s.heap.get? b = some o → h6.get? b = some o) → LtOk (model prog w) A E { s with heap := h6 } lb D kd) (dd : ∀ v ∈ vs, D (v, v))
    (h : ∀ out : List Value, out.Perm vs → OrdV lb out → P (.done (.ret .none)) { s with heap := sortedHeap s.heap a vs out.toArray }) :
    wpAny (model prog w) A (Builtin.«list.sort» ⟨[.ref a], []⟩) P E s := by
  rw [list_sort_plain]
  have ha : a < s.heap.objs.size := Heap.lt_size ho
  refine wpAny_bind (listItems_at ho rfl (wpAny_bind (listUpdate_at ho rfl ?_ (by simpa using hz) (Nat.zero_le _))))
  obtain ⟨e1, ho1⟩ : ∃ e1, (s.heap.update a (Obj.mapSeq fun _ => #[])).get? a = some (seqObj "list" #[] e1) := ⟨_, get?_update_seq ho (fun _ => #[])⟩
  refine wpAny_bind (seqEpoch_at ho1 rfl (wpAny_bind (wpAny_newTuple (wpAny_bind (wpAny_newList (wpAny_holding ?_) (Nat.zero_le _))) (by simpa using hz))))
  generalize eG : ((s.heap.update a (Obj.mapSeq fun _ => #[])).push (seqObj "tuple" vs.toArray 0)).push (seqObj "list" #[] 0) = G
  have hoG : G.get? a = some (seqObj "list" #[] e1) := by
    rw [← eG]
    exact Heap.get?_push_of_some _ (Heap.get?_push_of_some _ ho1)
  have kG : ∀ b o, o.cls ≠ .type "list" → s.heap.get? b = some o → G.get? b = some o := fun b o hc e => by
    have hb : b ≠ a := fun q => by
      subst q
      rw [ho] at e
      exact hc (by cases e; rfl)
    rw [← eG]
    refine Heap.get?_push_of_some _ (Heap.get?_push_of_some _ ?_)
    rw [Heap.get?_update_ne _ _ _ _ hb]
    exact e
  have heap : ∀ out : List Value, sortedHeap s.heap a vs out.toArray = G.update a (Obj.mapSeq fun _ => out.toArray) := fun out => by rw [← eG]; rfl
  have eS : ∀ X Y : Sem PySem.Fin, X = Y → wpAny (model prog w) A X P E { s with heap := G } → wpAny (model prog w) A Y P E { s with heap := G } := fun X Y e h => e ▸ h
  have fin : ∀ st' : SortSt, failedOf st' = none → (arrOf st').toList.Perm (vs.zip vs) → Srtd lb (arrOf st').toList →
      P (.done (.ret .none)) { s with heap := G.update a (Obj.mapSeq fun _ => (arrOf st').map (·.2)) } := fun st' _ pm sr => by
    have := out_ok pm sr
    have q := h _ this.1 this.2
    rw [heap] at q
    rw [show (arrOf st').map (·.2) = ((arrOf st').toList.map (·.2)).toArray by rw [← Array.toList_map]]
    exact q
  have szP : ∀ {st' : SortSt}, (arrOf st').toList.Perm (vs.zip vs) → ((arrOf st').map (·.2)).size ≤ sizeLine + 1 := fun {st'} pm => by
    have := pm.length_eq
    rw [Array.size_map]
    simp at this
    omega
  dsimp only
  by_cases h2 : vs.toArray.size < 2
  · rw [if_pos h2, if_pos h2]
    refine wpAny_bind (wpAny_pure ?_)
    rw [StateT.run_pure]
    refine wpAny_bind (wpAny_pure ?_)
    have pm : (arrOf (SortSt.mk' general' (vs.toArray.zip vs.toArray) #[] 7 none)).toList.Perm (vs.zip vs) := by
      show (vs.toArray.zip vs.toArray).toList.Perm _
      simp
    refine wpAny_bind (seqEpoch_at hoG rfl (wpAny_bind (listUpdate_at hoG rfl ?_ (Nat.zero_le _) (szP pm))))
    dsimp only
    simp only [bne_self_eq_false, Bool.false_eq_true, if_false]
    refine wpAny_pure (fin (SortSt.mk' general' (vs.toArray.zip vs.toArray) #[] 7 none) rfl pm ?_)
    have : (vs.zip vs).length ≤ 1 := by
      simp at h2 ⊢
      omega
    show Srtd lb (vs.toArray.zip vs.toArray).toList
    rw [show (vs.toArray.zip vs.toArray).toList = vs.zip vs by simp]
    exact pw_le1 this
  · rw [if_neg h2, if_neg h2]
    refine wpAny_bind (hkk (by simp at h2; omega) G kG _ ?_)
    refine wpAny_bind (wpAny_mono (wpS_sortAll (s := { s with heap := G }) W (hL G kG) (st := SortSt.mk' kd (vs.toArray.zip vs.toArray) #[] 7 none) rfl rfl rfl (fun x hx => ?_)
      (Q := fun _ st' => (arrOf st').toList.Perm (vs.zip vs) ∧ failedOf st' = none ∧ Srtd lb (arrOf st').toList) fun st' a1 a2 a3 => ⟨?_, a2, a3⟩) ?_ fun _ _ e => e)
    · have hx : x ∈ (vs.toArray.zip vs.toArray).toList := hx
      rw [show (vs.toArray.zip vs.toArray).toList = vs.zip vs by simp] at hx
      obtain ⟨z1, z2⟩ := mem_zip_self hx
      obtain ⟨u, v⟩ := x
      have z1 : u = v := z1
      subst z1
      exact dd u z2
    · refine a1.trans ?_
      show (vs.toArray.zip vs.toArray).toList.Perm _
      simp
    · rintro ⟨⟨⟩, st'⟩ s' ⟨rfl, pm, hf, sr⟩
      refine wpAny_bind (seqEpoch_at hoG rfl (wpAny_bind (listUpdate_at hoG rfl ?_ (Nat.zero_le _) (szP pm))))
      dsimp only
      rw [hf]
      simp only [bne_self_eq_false, Bool.false_eq_true, if_false]
      exact wpAny_pure (fin st' hf pm sr)
end
end Srt
set_option linter.all false
set_option maxHeartbeats 1000000
set_option maxRecDepth 100000
namespace Srt
set_option autoImplicit false
open PySem PySem.W PyProof.Rows
section
variable {prog : Program} {w : World} {A : Around} {E : Value → Shared → Prop} {s : Shared}
theorem collect_sq {l : Addr} {o : Obj} {vs : List Value} {n : Nat} {Q : List Value → Shared → Prop} (ho : s.heap.get? l = some o) (hc : o.cls = .type "list" ∨ o.cls = .type "tuple") (hd : o.data = .seq vs.toArray n) (hz : vs.length ≤ sizeLine)
    (h : ∀ h1 : Heap, h1.objs.size = s.heap.objs.size + 1 → (∀ b u, s.heap.get? b = some u → h1.get? b = some u) → Q vs { s with heap := h1 }) : wpAny (model prog w) A (collect (.ref l)) Q E s := by
  unfold collect
  refine wpAny_bind (wpAny_runValue (codeAny_builtin entry_proto_collect' ?_))
  show wpAny _ _ (newList [] >>= fun x => again (.builtin "list.__iadd__" ⟨[x, .ref l], []⟩)) _ _ s
  refine wpAny_bind (wpAny_newList (wpAny_pure ⟨Code.quiet_builtin _ (by decide +kernel), codeAny_builtin entry_list_iadd' ?_⟩) (Nat.zero_le _))
  generalize eG : s.heap.push (seqObj "list" #[] 0) = G
  have sG : G.objs.size = s.heap.objs.size + 1 := by rw [← eG, size_push']
  have kG : ∀ b u, s.heap.get? b = some u → G.get? b = some u := fun b u e => by rw [← eG]; exact Heap.get?_push_of_some _ e
  have nG : G.get? s.heap.objs.size = some (seqObj "list" #[] 0) := by rw [← eG]; exact Heap.get?_push_size _ rfl
  show wpAny _ _ (Builtin.List.listExtendWith (.ref s.heap.objs.size) (.ref l) (.ref s.heap.objs.size)) _ _ { s with heap := G }
  unfold Builtin.List.listExtendWith
  have fin : wpAny (model prog w) A (load s.heap.objs.size >>= fun o => match o.data with
      | .seq xs _ => pure xs.toList
      | _ => unsupported "internal:collect") Q E { s with heap := G.update s.heap.objs.size (Obj.mapSeq (· ++ vs.toArray)) } := by
    refine wpAny_bind (wpAny_load (get?_update_seq nG _) ?_)
    show wpAny _ _ (pure ((#[] : Array Value) ++ vs.toArray).toList) Q E _
    rw [show ((#[] : Array Value) ++ vs.toArray).toList = vs by simp]
    refine wpAny_pure (h _ (by rw [Heap.size_update, sG]) fun b u e => ?_)
    rw [Heap.get?_update_ne _ _ _ _ (Nat.ne_of_lt (Heap.lt_size e))]
    exact kG b u e
  have ty : ∃ T : String, o.cls = .type T ∧ (T = "list" ∨ T = "tuple") := by
    rcases hc with e | e
    · exact ⟨_, e, .inl rfl⟩
    · exact ⟨_, e, .inr rfl⟩
  obtain ⟨T, hT, hT2⟩ := ty
  refine wpAny_bind (wpAny_typeOf (T := T) ⟨o, kG l o ho, hT⟩ ?_)
  have hb : (Value.type T == Value.type "list" || Value.type T == Value.type "tuple") = true := by
    rcases hT2 with rfl | rfl <;> rfl
  rw [if_pos (by rw [Bool.or_assoc, hb, Bool.or_true])]
  refine wpAny_bind (listItems_at (kG l o ho) hd (wpAny_bind (listItems_at (xs := #[]) (n := 0) nG rfl ?_)))
  rw [if_neg (by simp)]
  refine wpAny_bind (listUpdate_at (xs := #[]) (n := 0) nG rfl ?_ (Nat.zero_le _) (by show (#[] ++ vs.toArray).size ≤ sizeLine + 1; rw [Array.size_append]; simp; omega))
  exact wpAny_pure fin
theorem sorted_any {lb : Keyed → Keyed → Bool} {D : Keyed → Prop} {kd : SortKind} (W : Wk lb) {l : Addr} {o : Obj} {vs : List Value} {n : Nat} {Q : Value → Shared → Prop} (ho : s.heap.get? l = some o) (hc : o.cls = .type "list" ∨ o.cls = .type "tuple") (hd : o.data = .seq vs.toArray n) (hz : vs.length ≤ sizeLine)
    (hkk : 2 ≤ vs.length → ∀ (A' : Around) (E' : Value → Shared → Prop) (h6 : Heap), (∀ b o, o.cls ≠ .type "list" → s.heap.get? b = some o → h6.get? b = some o) → ∀ Q : SortKind → Shared → Prop, Q kd { s with heap := h6 } → wpAny (model prog w) A' (keyKind' vs.toArray) Q E' { s with heap := h6 })
    (hL : ∀ (A' : Around) (E' : Value → Shared → Prop) (h6 : Heap), (∀ b o, o.cls ≠ .type "list" → s.heap.get? b = some o → h6.get? b = some o) → LtOk (model prog w) A' E' { s with heap := h6 } lb D kd) (dd : ∀ v ∈ vs, D (v, v))
    (h : ∀ (out : List Value) (k : Nat) (h' : Heap), out.Perm vs → OrdV lb out → (∀ b u, s.heap.get? b = some u → h'.get? b = some u) → h'.get? (s.heap.objs.size + 1) = some (seqObj "list" out.toArray k) → Q (.ref (s.heap.objs.size + 1)) { s with heap := h' }) :
    wpAny (model prog w) A (call (.builtin "sorted") [.ref l]) Q E s := by
  refine Calls.call_function_entry kind_sorted plain_sorted entry_sorted (args_sorted1 _) ?_
  unfold Builtin.«sorted»
  refine wpAny_bind (m := checkCount "sorted" 1 1 _) (wpAny_pure (wpAny_bind (collect_sq ho hc hd hz fun h1 sz1 k1 => ?_)))
  refine wpAny_bind (wpAny_newList ?_ (by simpa using hz))
  generalize eG : h1.push (seqObj "list" vs.toArray 0) = G
  have nG : G.get? (s.heap.objs.size + 1) = some (seqObj "list" vs.toArray 0) := by
    rw [← eG, ← sz1]
    exact Heap.get?_push_size _ rfl
  have kG : ∀ b u, s.heap.get? b = some u → G.get? b = some u := fun b u e => by
    rw [← eG]
    exact Heap.get?_push_of_some _ (k1 b u e)
  show wpAny _ _ _ _ _ { s with heap := G }
  rw [sz1]
  refine wpAny_bind (wpAny_holding (wpAny_call_entry slot_list_sort ⟨_, nG, rfl⟩ entry_list_sort (sort_any (s := { s with heap := G }) W nG hz (fun h2 h6 k6 Q q => hkk h2 _ _ h6 (fun b o c e => k6 b o c (kG b o e)) Q q) (fun h6 k6 => hL _ _ h6 fun b o c e => k6 b o c (kG b o e)) dd fun out pm od => ⟨_, rfl, ?_⟩) (args_list_sort _)))
  have hlt : s.heap.objs.size + 1 < G.objs.size := Heap.lt_size nG
  have up : (G.update (s.heap.objs.size + 1) (Obj.mapSeq fun _ => #[])).get? (s.heap.objs.size + 1) = some (seqObj "list" #[] (if (#[] : Array Value).size == vs.toArray.size then 0 else 1)) := get?_update_seq nG (fun _ => #[])
  refine wpAny_pure ⟨_, rfl, h out _ _ pm od (fun b u e => ?_) (get?_update_seq (Heap.get?_push_of_some _ (Heap.get?_push_of_some _ up)) (fun _ => out.toArray))⟩
  have hb : b ≠ s.heap.objs.size + 1 := Nat.ne_of_lt (Nat.lt_succ_of_lt (Heap.lt_size e))
  unfold sortedHeap
  rw [Heap.get?_update_ne _ _ _ _ hb]
  refine Heap.get?_push_of_some _ (Heap.get?_push_of_some _ ?_)
  rw [Heap.get?_update_ne _ _ _ _ hb]
  exact kG b u e
theorem sorted_tups {l : Addr} {o : Obj} {vs : List Value} {n : Nat} {Q : Value → Shared → Prop} (ho : s.heap.get? l = some o) (hc : o.cls = .type "list" ∨ o.cls = .type "tuple") (hd : o.data = .seq vs.toArray n) (hz : vs.length ≤ sizeLine)
    (ht : ∀ v ∈ vs, TupI s.heap v)
    (h : ∀ (out : List Value) (k : Nat) (h' : Heap), out.Perm vs → OrdV (lbT s.heap) out → (∀ b u, s.heap.get? b = some u → h'.get? b = some u) → h'.get? (s.heap.objs.size + 1) = some (seqObj "list" out.toArray k) → Q (.ref (s.heap.objs.size + 1)) { s with heap := h' }) :
    wpAny (model prog w) A (call (.builtin "sorted") [.ref l]) Q E s := by
  have kt : ∀ {h6 : Heap}, (∀ b o, o.cls ≠ .type "list" → s.heap.get? b = some o → h6.get? b = some o) → ∀ b o, o.cls = .type "tuple" → s.heap.get? b = some o → h6.get? b = some o := fun k6 b o c e => k6 b o (by rw [c]; intro q; injection q with q; exact absurd q (by decide)) e
  refine sorted_any (D := fun x => TupI s.heap x.1) (kd := tuples' true) (lbT_wk s.heap) ho hc hd hz (fun h2 A' E' h6 k6 Q q => ?_) (fun A' E' h6 k6 => ?_) (fun v hv => ht v hv) h
  · have t6 : ∀ v ∈ vs, TupI h6 v := fun v hv => ((ht v hv).kept (kt k6)).1
    have : ∀ us : List Value, (∀ v ∈ us, TupI h6 v) → ∃ fs, KatTups h6 us fs ∧ fs.length = us.length ∧ ∀ v ∈ fs, ∃ k t, v = Value.int k t := fun us => by
      induction us with
      | nil => intro _; exact ⟨[], .nil, rfl, by simp⟩
      | cons u us ih =>
        intro hu
        obtain ⟨fs, a1, a2, a3⟩ := ih fun v hv => hu v (List.mem_cons_of_mem _ hv)
        obtain ⟨a, o, xs, m, rfl, e1, e2, e3, e4, e5⟩ := hu u (List.mem_cons_self ..)
        refine ⟨xs[0] :: fs, .cons e1 e2 e3 (getElem?_pos xs 0 e5) a1, by simp [a2], fun v hv => ?_⟩
        rcases List.mem_cons.mp hv with rfl | z
        · exact e4 _ (by simp)
        · exact a3 v z
    obtain ⟨fs, a1, a2, a3⟩ := this vs t6
    refine kat_kind (T := .type "int") a1 (by omega) (fun v hv => ?_) rfl q
    obtain ⟨k, t, rfl⟩ := a3 v hv
    exact Looks.of_pure rfl
  · intro x y hx hy st Q hk q
    have a := hx.kept (kt k6)
    have b := hy.kept (kt k6)
    refine ltOk_tups (s := { s with heap := h6 }) x y a.1 b.1 st Q hk ?_
    show Q (some (lexLt (keyOf h6 x.1) (keyOf h6 y.1))) st
    rw [a.2, b.2]
    exact q
end
end Srt
set_option Elab.async false
set_option linter.all false
set_option maxRecDepth 100000
set_option maxHeartbeats 4000000
namespace Srt
theorem perm_back {α β : Type} {f : α → β} : ∀ {l' l2 : List β}, l'.Perm l2 → ∀ {l : List α}, l2 = l.map f → ∃ m : List α, m.Perm l ∧ l' = m.map f := by
  intro l' l2 h
  induction h with
  | nil =>
    intro l e
    match l, e with
    | [], _ => exact ⟨[], .refl _, rfl⟩
  | cons x _ ih =>
    intro l e
    match l, e with
    | y :: l, e =>
      rw [List.map_cons] at e
      injection e with e1 e2
      obtain ⟨m, a, b⟩ := ih e2
      exact ⟨y :: m, a.cons y, by rw [List.map_cons, b, e1]⟩
  | swap x y l0 =>
    intro l e
    match l, e with
    | a :: b :: l, e =>
      rw [List.map_cons, List.map_cons] at e
      injection e with e1 e2
      injection e2 with e2 e3
      exact ⟨b :: a :: l, .swap _ _ _, by rw [List.map_cons, List.map_cons, e1, e2, e3]⟩
  | trans _ _ ih1 ih2 =>
    intro l e
    obtain ⟨m, a, b⟩ := ih2 e
    obtain ⟨m', a', b'⟩ := ih1 b
    exact ⟨m', a'.trans a, b'⟩
end Srt
namespace L2
open PySem PySem.Spec PyProof.Rows
section
variable {X : Cx}
theorem vals_refs : ∀ {ps : List (Addr × List Int)} {its : List Value}, Vals (ps.map fun q => V.ref q.1) its → its = ps.map fun q => Value.ref q.1
  | [], _, .nil => rfl
  | p :: ps, _, .cons r t => by
    rw [vals_refs t, show _ = Value.ref p.1 from r]
    rfl
theorem refs_vals : ∀ (ps : List (Addr × List Int)), Vals (ps.map fun q => V.ref q.1) (ps.map fun q => Value.ref q.1)
  | [] => .nil
  | p :: ps => .cons rfl (refs_vals ps)
def Tups (H : Hp) (ps : List (Addr × List Int)) : Prop := ∀ q ∈ ps, H q.1 = some (.tup (q.2.map V.int)) ∧ q.2 ≠ []
theorem tupI_of {pins : List (Addr × Obj)} {σ : St} {H : Hp} {s : Shared} (I : Inv X pins σ H s) {a : Addr} {ns : List Int} (h : H a = some (.tup (ns.map V.int))) (h0 : ns ≠ []) : Srt.TupI s.heap (.ref a) ∧ Srt.keyOf s.heap (.ref a) = ns := by
  obtain ⟨its, rv, ⟨o, ho, hc, n, hd⟩, hz⟩ := I.tuple (SqT.of (K := X.K) h)
  have hi := ints_of rv
  have hl := rv.length
  refine ⟨⟨a, o, _, n, rfl, ho, hc, hd, fun u hu => hi.all u (by simpa using hu), ?_⟩, ?_⟩
  · rw [List.length_map] at hl
    have : 0 < ns.length := List.length_pos_iff.mpr h0
    simp
    omega
  · rw [Srt.TupI.key ho hd]
    exact hi.nums
theorem call_sortT : CallR X (.builtin "sorted") (fun xs H Q => ∃ (p : Addr) (ps : List (Addr × List Int)), xs = [.ref p] ∧ (SqL X.K H p (ps.map fun q => V.ref q.1) ∨ SqT X.K H p (ps.map fun q => V.ref q.1)) ∧ Tups H ps ∧
    ∀ (l : Addr) (ps' : List (Addr × List Int)), H l = none → ps'.Perm ps → ps'.Pairwise (fun a b => Srt.lexLt b.2 a.2 = false) → Q (.ref l) (upd H l (.lst (ps'.map fun q => V.ref q.1)))) := by
  intro pins s σ H xs us Q I r h
  obtain ⟨p, ps, rfl, hq, tp, q⟩ := h
  obtain ⟨u, rfl, rx⟩ := vals1 r
  cases rx
  have obj : ∃ (o : Obj) (n : Nat), s.heap.get? p = some o ∧ (o.cls = .type "list" ∨ o.cls = .type "tuple") ∧ o.data = .seq (ps.map fun q => Value.ref q.1).toArray n ∧ ps.length ≤ sizeLine := by
    rcases hq with hq | hq
    · obtain ⟨its, r', pl, hz⟩ := I.list hq
      rw [vals_refs r'] at pl
      obtain ⟨o, ho, hc, n, hd⟩ := pl.isList
      exact ⟨o, n, ho, .inl hc, hd, by simpa using hz⟩
    · obtain ⟨its, r', pl, hz⟩ := I.tuple hq
      rw [vals_refs r'] at pl
      obtain ⟨o, ho, hc, n, hd⟩ := pl
      exact ⟨o, n, ho, .inr hc, hd, by simpa using hz⟩
  obtain ⟨o, n, ho, hc, hd, hz⟩ := obj
  refine Srt.sorted_tups ho hc hd (by simpa using hz) (fun v hv => ?_) fun out k h' pm od kp e => ?_
  · obtain ⟨x, hx, rfl⟩ := List.mem_map.mp hv
    exact (tupI_of I (tp x hx).1 (tp x hx).2).1
  · obtain ⟨ps', pm', rfl⟩ := Srt.perm_back pm rfl
    refine ⟨.ref (s.heap.objs.size + 1), _, I.laid (t' := s.toks) kp (Nat.le_succ _) (show ObjOk X.prog X.w _ h' _ (.lst (ps'.map fun q => V.ref q.1)) from ⟨by simpa [pm'.length_eq] using hz, _, k, refs_vals ps', e⟩), rfl, q _ ps' (I.hok.fresh (Nat.le_succ _)) pm' ?_⟩
    refine (List.pairwise_map.mp od).imp_of_mem fun {a b} ha hb hh => ?_
    have e1 := (tupI_of I (tp a (pm'.mem_iff.mp ha)).1 (tp a (pm'.mem_iff.mp ha)).2).2
    have e2 := (tupI_of I (tp b (pm'.mem_iff.mp hb)).1 (tp b (pm'.mem_iff.mp hb)).2).2
    have hh : Srt.lexLt (Srt.keyOf s.heap (.ref b.1)) (Srt.keyOf s.heap (.ref a.1)) = false := hh
    rw [e1, e2] at hh
    exact hh
end
end L2
set_option Elab.async false
set_option linter.all false
set_option maxRecDepth 100000
set_option maxHeartbeats 4000000
namespace Hsh
set_option autoImplicit false
open PySem PySem.Spec PyProof.Rows
def diff : Nat → List Nat → Bool
  | 0, l => l.length ≤ 1
  | k + 1, l => match l with
    | [] => true
    | [_] => true
    | l => diff k (l.filter fun n => (n / 2 ^ k) % 2 == 0) && diff k (l.filter fun n => !((n / 2 ^ k) % 2 == 0))
theorem diff_ok : ∀ (k : Nat) (l : List Nat), diff k l = true → l.Nodup := by
  intro k
  induction k with
  | zero =>
    intro l h
    match l, h with
    | [], _ => exact List.nodup_nil
    | [x], _ => exact List.nodup_cons.mpr ⟨by simp, List.nodup_nil⟩
    | _ :: _ :: _, h => simp [diff] at h
  | succ k ih =>
    intro l h
    match l, h with
    | [], _ => exact List.nodup_nil
    | [x], _ => exact List.nodup_cons.mpr ⟨by simp, List.nodup_nil⟩
    | a :: b :: l, h =>
      unfold diff at h
      rw [Bool.and_eq_true] at h
      have h1 := ih _ h.1
      have h2 := ih _ h.2
      generalize a :: b :: l = m at *
      have : ∀ m : List Nat, (m.filter fun n => (n / 2 ^ k) % 2 == 0).Nodup → (m.filter fun n => !((n / 2 ^ k) % 2 == 0)).Nodup → m.Nodup := fun m => by
        induction m with
        | nil => intro _ _; exact List.nodup_nil
        | cons x m ih =>
          intro a1 a2
          have mem : x ∉ m := fun hx => by
            cases e : (x / 2 ^ k) % 2 == 0 with
            | true =>
              rw [List.filter_cons, if_pos e] at a1
              exact (List.nodup_cons.mp a1).1 (List.mem_filter.mpr ⟨hx, e⟩)
            | false =>
              rw [List.filter_cons, if_pos (by rw [e]; rfl)] at a2
              exact (List.nodup_cons.mp a2).1 (List.mem_filter.mpr ⟨hx, by rw [e]; rfl⟩)
          refine List.nodup_cons.mpr ⟨mem, ih ?_ ?_⟩
          · rw [List.filter_cons] at a1
            split at a1
            · exact (List.nodup_cons.mp a1).2
            · exact a1
          · rw [List.filter_cons] at a2
            split at a2
            · exact (List.nodup_cons.mp a2).2
            · exact a2
      exact this m h1 h2
def hp (p q : Nat) : Nat := (reduceHash (Builtin.Tuple.tupleHashOf [hashInt (p : Int), hashInt (q : Int)]) + 2 ^ 63).toNat
def all : List Nat := (List.range 1764).map fun i => hp (i / 42) (i % 42)
theorem all_diff : diff 64 all = true := by decide +kernel
theorem hp_inj {p q p' q' : Nat} (h1 : p < 42) (h2 : q < 42) (h3 : p' < 42) (h4 : q' < 42) (e : hp p q = hp p' q') : p = p' ∧ q = q' := by
  have nd := diff_ok 64 all all_diff
  have at' : ∀ p q : Nat, p < 42 → q < 42 → all[42 * p + q]? = some (hp p q) := fun p q a b => by
    unfold all
    rw [List.getElem?_map, List.getElem?_range (by omega)]
    show some (hp ((42 * p + q) / 42) ((42 * p + q) % 42)) = _
    rw [show (42 * p + q) / 42 = p by omega, show (42 * p + q) % 42 = q by omega]
  have a := at' p q h1 h2
  have b := at' p' q' h3 h4
  rw [← e] at b
  have := (List.getElem?_inj (List.getElem?_eq_some_iff.mp a).1 nd).mp (a.trans b.symm)
  omega
end Hsh
set_option Elab.async false
set_option linter.all false
set_option maxRecDepth 100000
set_option maxHeartbeats 4000000
namespace Dct
set_option autoImplicit false
open PySem PySem.Spec PyProof.Rows
section
variable {prog : Program} {w : World} {A : Around} {E : Value → Shared → Prop} {s : Shared} {κ : Type} [DecidableEq κ] {kd : KeyKind prog w κ}
def fold (xs ys : List (List κ × Addr × Value)) : List (List κ × Addr × Value) := ys.foldl (fun acc y => storedH acc y.1 y.2.1 y.2.2) xs
theorem fold_len (xs ys : List (List κ × Addr × Value)) : (fold xs ys).length ≤ xs.length + ys.length := by
  induction ys generalizing xs with
  | nil => exact Nat.le_refl _
  | cons y ys ih =>
    have := ih (storedH xs y.1 y.2.1 y.2.2)
    have l : (storedH xs y.1 y.2.1 y.2.2).length ≤ xs.length + 1 := by
      unfold storedH
      split <;> simp
    rw [List.length_cons]
    unfold fold at *
    rw [List.foldl_cons]
    omega
theorem fold_nil : ∀ (xs ys : List (List κ × Addr × Value)), ((xs ++ ys).map (·.1)).Nodup → fold xs ys = xs ++ ys
  | xs, [], _ => by rw [List.append_nil]; rfl
  | xs, y :: ys, h => by
    have no : atKey xs y.1 = none := by
      refine atKey_none_of_get fun j p e => ?_
      rw [List.map_append, List.map_cons, List.nodup_append] at h
      exact h.2.2 y.1 (List.mem_map.mpr ⟨_, List.mem_of_getElem? e, rfl⟩) y.1 (List.mem_cons_self ..) rfl
    unfold fold
    rw [List.foldl_cons, storedH_new no]
    have := fold_nil (xs ++ [y]) ys (by simpa using h)
    unfold fold at this
    rw [show (y.1, y.2.1, y.2.2) = y from rfl, this]
    simp
theorem fold_step (xs ys : List (List κ × Addr × Value)) (i : Nat) (y : List κ × Addr × Value) (h : ys[i]? = some y) : fold xs (ys.take (i + 1)) = storedH (fold xs (ys.take i)) y.1 y.2.1 y.2.2 := by
  unfold fold
  rw [List.take_add_one, h, List.foldl_append]
  rfl
theorem put_hashed {d a : Addr} {xs : List (List κ × Addr × Value)} {k : List κ} {v : Value} {Q : Unit → Shared → Prop} (hu : A.units < cLine) (hk : (tupleKind kd).is s.heap k a) (hm : s.heap.DictOfH (tupleKind kd) d xs) (hz : xs.length ≤ sizeLine)
    (q : ∀ h', h'.DictOfH (tupleKind kd) d (storedH xs k a v) → Heap.SameBut d s.heap h' → Q () { s with heap := h' }) : wpAny (model prog w) A (dictSetHashed d (.ref a) ((tupleKind kd).hash k) v) Q E s := by
  obtain ⟨o, es, ep, ho, hc, hd, he, his, hn⟩ := hm
  have sz := size_of_entries he
  unfold dictSetHashed
  try with_reducible refine wpAny_holding ?_
  refine wpAny_bind (wpAny_dictFind_heap (knd := tupleKind kd) hu hk ho hd he his hn (fun no => ?_) fun j p hj => ?_)
  · have nk := not_mem_keys_of_get no
    have e := storedH_new (atKey_none_of_get no) a v
    refine wpAny_bind (wpAny_rule (wpAny_updateDictKeys (hz := by omega) ho hd (q _ ⟨_, _, ep + 1, Heap.get?_update_self _ ho (Obj.isFreed_of_dict (Obj.data_mapDictKeys hd _)), hc.mapDictKeys _, Obj.data_mapDictKeys hd _, ?_, ?_, ?_⟩ (Heap.SameBut.update ..))))
    · rw [e]
      simp [he, entryOfKey]
    · rw [e]
      intro x hx
      rcases List.mem_append.mp hx with z | z
      · exact (tupleKind kd).keeps (his x z) ho hd (Heap.SameBut.update ..)
      · rw [List.mem_singleton.mp z]
        exact (tupleKind kd).keeps hk ho hd (Heap.SameBut.update ..)
    · rw [e, List.map_append, List.nodup_append]
      refine ⟨hn, by simp, fun x hx y hy z => nk ?_⟩
      have : y = k := by simpa using hy
      rw [← this, ← z]
      exact hx
  · have e := storedH_old (atKey_of_get hn hj) a v
    refine wpAny_bind (wpAny_rule (wpAny_bind (wpAny_updateDict ho hd (wpAny_point (q _ ⟨_, _, ep, Heap.get?_update_self _ ho (Obj.isFreed_of_dict (Obj.data_mapDict hd _)), hc.mapDict _, Obj.data_mapDict hd _, ?_, ?_, ?_⟩ (Heap.SameBut.update ..))))))
    · rw [e]
      have m := modify_map_putAt (entryOfKey (tupleKind kd)) (fun z : DictEntry => { z with val := v }) k v (fun _ _ => rfl) hn hj
      rw [← he] at m
      obtain ⟨l⟩ := es
      simpa using m
    · rw [e]
      intro x hx
      obtain ⟨y, hy, rfl⟩ := List.mem_map.mp hx
      unfold putAt
      split <;> exact (tupleKind kd).keeps (his y hy) ho hd (Heap.SameBut.update ..)
    · rw [e, keys_map_putAt]
      exact hn
theorem quiet_tup {k : List κ} {a : Addr} {Q : Bool → Shared → Prop} (hk : (tupleKind kd).is s.heap k a) (q : Q false s) : wpAny (model prog w) A (Builtin.Dict.quietEq (.ref a)) Q E s := by
  unfold Builtin.Dict.quietEq
  have hk : IsTupleKey kd s.heap k a := hk
  refine wpAny_bind (wpAny_specialOf hk.typeIs F.slot_tuple_eq.lookup (wpAny_pure ?_))
  exact q
theorem entries_tup {id : String} {d : Addr} {o : Obj} {es : Array DictEntry} {ep : Nat} {xs : List (List κ × Addr × Value)} {Q : Array DictEntry → Shared → Prop} (ho : s.heap.get? d = some o) (hd : o.data = .dict es ep) (he : es.toList = xs.map (entryOfKey (tupleKind kd))) (his : ∀ x ∈ xs, (tupleKind kd).is s.heap x.1 x.2.1)
    (hh : (xs.map fun x => (tupleKind kd).hash x.1).Nodup) (q : Q es s) : wpAny (model prog w) A (Builtin.Dict.entriesForEmpty id d) Q E s := by
  have few : ∀ e ∈ es, ¬ (es.filter fun z => z.hash == e.hash).size > 1 := fun e hin g => by
    have : (es.toList.map fun z => z.hash) = xs.map fun x => (tupleKind kd).hash x.1 := by
      rw [he, List.map_map]
      rfl
    rw [← this] at hh
    have l : (es.filter fun z => z.hash == e.hash).size = ((es.toList.map fun z => z.hash).filter fun z => z == e.hash).length := by
      rw [← Array.length_toList, Array.toList_filter, List.filter_map, List.length_map]
      rfl
    have c := List.nodup_iff_count.mp hh e.hash
    rw [List.count_eq_length_filter] at c
    omega
  unfold Builtin.Dict.entriesForEmpty
  refine wpAny_bind (wpAny_dictEntries ho hd (wpAny_bind ?_))
  rw [← Array.forIn_toList]
  refine wpAny_forIn_list _ (fun rest _ s' => s' = s ∧ ∀ e ∈ rest, e ∈ es) _ ?_ ?_ _ _ ⟨rfl, fun e h => Array.mem_toList_iff.mp h⟩
  · rintro e rest b s' ⟨rfl, hr⟩
    have hin := hr e (List.mem_cons_self ..)
    obtain ⟨x, hx, rfl⟩ : ∃ x ∈ xs, e = entryOfKey (tupleKind kd) x := by
      have : e ∈ xs.map (entryOfKey (tupleKind kd)) := he ▸ Array.mem_toList_iff.mpr hin
      obtain ⟨x, hx, z⟩ := List.mem_map.mp this
      exact ⟨x, hx, z.symm⟩
    refine wpAny_bind (quiet_tup (his x hx) ?_)
    simp only [Bool.not_false, if_true]
    rw [if_neg (few _ hin)]
    exact wpAny_pure ⟨rfl, fun z hz => hr z (List.mem_cons_of_mem _ hz)⟩
  · rintro b s' ⟨rfl, _⟩
    exact wpAny_pure q
theorem merge_tup {nm : String} {d o : Addr} {xs ys : List (List κ × Addr × Value)} {Q : Unit → Shared → Prop} (hu : A.units < cLine) (hdo : d ≠ o) (hoS : (o == sysModules) = false) (hd : s.heap.DictOfH (tupleKind kd) d xs) (ho : s.heap.DictOfH (tupleKind kd) o ys)
    (hz : xs.length + ys.length ≤ sizeLine) (hh : xs = [] → (ys.map fun y => (tupleKind kd).hash y.1).Nodup)
    (q : ∀ h', h'.DictOfH (tupleKind kd) d (fold xs ys) → Heap.SameBut d s.heap h' → Q () { s with heap := h' }) : wpAny (model prog w) A (Builtin.Dict.mergeDict nm d o) Q E s := by
  obtain ⟨od, esd, epd, hod, hcd, hdd, hed, hisd, hnd⟩ := id hd
  obtain ⟨oo, eso, epo, hoo, hco, hdo', heo, hiso, hno⟩ := id ho
  have szo := size_of_entries heo
  have szd := size_of_entries hed
  unfold Builtin.Dict.mergeDict
  rw [if_neg (by simpa using hdo)]
  unfold Builtin.Dict.showsAll
  rw [if_neg (by rw [hoS]; exact Bool.false_ne_true)]
  refine wpAny_bind (wpAny_pure (wpAny_bind (wpAny_dictEntries hoo hdo' ?_)))
  have inv0 : ∃ h' i, s = { s with heap := h' } ∧ List.range' 0 eso.size = List.range' i (eso.size - i) ∧ i ≤ eso.size ∧ h'.DictOfH (tupleKind kd) d (fold xs (ys.take i)) ∧ h'.get? o = some oo ∧ Heap.SameBut d s.heap h' :=
    ⟨s.heap, 0, rfl, rfl, Nat.zero_le _, by rw [List.take_zero]; exact hd, hoo, Heap.SameBut.refl _ _⟩
  dsimp only
  split
  · refine wpAny_bind (wpAny_dictEntries hod hdd ?_)
    split
    · rename_i hemp
      have z : xs = [] := by
        have h0 : esd = #[] := Array.isEmpty_iff.mp hemp
        rw [h0] at szd
        exact List.length_eq_zero_iff.mp szd.symm
      subst z
      have ff : fold [] ys = ys := fold_nil [] ys hno
      rw [ff] at q
      refine wpAny_bind (entries_tup hoo hdo' heo hiso (hh rfl) ?_)
      split
      · refine wpAny_bind (wpAny_updateDictKeysTo hod hdd (wpAny_pure (q _ ⟨_, _, epd + 1, Heap.get?_update_self _ hod (Obj.isFreed_of_dict (Obj.data_mapDictKeys hdd _)), hcd.mapDictKeys _, Obj.data_mapDictKeys hdd _, heo, fun x hx => (tupleKind kd).keeps (hiso x hx) hod hdd (Heap.SameBut.update ..), hno⟩ (Heap.SameBut.update ..))) ?_)
        simp only [List.length_nil] at hz
        omega
      · rename_i hne
        have h0 : eso = #[] := Array.isEmpty_iff.mp (by simpa using hne)
        have z : ys = [] := by
          rw [h0] at szo
          exact List.length_eq_zero_iff.mp szo.symm
        subst z
        exact wpAny_pure (q _ hd (Heap.SameBut.refl _ _))
    · refine wpAny_bind (wpAny_dictEpoch hoo hdo' (wpAny_bind (wpAny_dictEntries hoo hdo' (wpAny_bind ?_))))
      rw [Std.Legacy.Range.forIn_eq_forIn_range']
      simp only [Std.Legacy.Range.size, Nat.sub_zero, Nat.add_sub_cancel, Nat.div_one]
      refine wpAny_forIn_list _ (fun rest _ s' => ∃ h' i, s' = { s with heap := h' } ∧ rest = List.range' i (eso.size - i) ∧ i ≤ eso.size ∧ h'.DictOfH (tupleKind kd) d (fold xs (ys.take i)) ∧ h'.get? o = some oo ∧ Heap.SameBut d s.heap h') _ ?_ ?_ _ _ inv0
      · rintro x rest b s' ⟨h', i, rfl, hr, hi, hd', hoo', hs'⟩
        by_cases hlt : i < eso.size
        · rw [show eso.size - i = (eso.size - (i + 1)) + 1 by omega, List.range'_succ] at hr
          injection hr with h1 h2
          subst h1
          refine wpAny_bind (wpAny_dictEntries hoo' hdo' ?_)
          have hy : ys[x]? = some (ys[x]'(by omega)) := List.getElem?_eq_getElem _
          rw [entry_at heo x, hy]
          generalize ys[x]'(by omega) = y at hy
          have hk : (tupleKind kd).is h' y.1 y.2.1 := (tupleKind kd).keeps (hiso y (List.mem_of_getElem? hy)) hod hdd hs'
          have lz := fold_len xs (ys.take x)
          have lt : (ys.take x).length ≤ ys.length := by rw [List.length_take]; omega
          refine wpAny_bind (wpAny_holding (put_hashed (s := { s with heap := h' }) hu hk hd' (by omega) fun h'' hd'' hs'' => ?_))
          have hoo'' : h''.get? o = some oo := (hs''.2 o (Ne.symm hdo)).trans hoo'
          refine wpAny_bind (wpAny_dictEpoch hoo'' hdo' ?_)
          rw [if_neg (by simp)]
          exact wpAny_pure ⟨h'', x + 1, rfl, h2, hlt, by rw [fold_step xs ys x y hy]; exact hd'', hoo'', hs'.trans hs''⟩
        · rw [show eso.size - i = 0 by omega] at hr
          exact nomatch hr
      · rintro b s' ⟨h', i, rfl, hr, hi, hd', hoo', hs'⟩
        have hin : i = eso.size := by
          by_cases hlt : i < eso.size
          · rw [show eso.size - i = (eso.size - (i + 1)) + 1 by omega, List.range'_succ] at hr
            exact nomatch hr
          · omega
        refine wpAny_pure (q h' ?_ hs')
        rw [hin, szo, List.take_length] at hd'
        exact hd'
  · refine wpAny_bind (wpAny_dictEpoch hoo hdo' (wpAny_bind (wpAny_dictEntries hoo hdo' (wpAny_bind ?_))))
    rw [Std.Legacy.Range.forIn_eq_forIn_range']
    simp only [Std.Legacy.Range.size, Nat.sub_zero, Nat.add_sub_cancel, Nat.div_one]
    refine wpAny_forIn_list _ (fun rest _ s' => ∃ h' i, s' = { s with heap := h' } ∧ rest = List.range' i (eso.size - i) ∧ i ≤ eso.size ∧ h'.DictOfH (tupleKind kd) d (fold xs (ys.take i)) ∧ h'.get? o = some oo ∧ Heap.SameBut d s.heap h') _ ?_ ?_ _ _ inv0
    · rintro x rest b s' ⟨h', i, rfl, hr, hi, hd', hoo', hs'⟩
      by_cases hlt : i < eso.size
      · rw [show eso.size - i = (eso.size - (i + 1)) + 1 by omega, List.range'_succ] at hr
        injection hr with h1 h2
        subst h1
        refine wpAny_bind (wpAny_dictEntries hoo' hdo' ?_)
        have hy : ys[x]? = some (ys[x]'(by omega)) := List.getElem?_eq_getElem _
        rw [entry_at heo x, hy]
        generalize ys[x]'(by omega) = y at hy
        have hk : (tupleKind kd).is h' y.1 y.2.1 := (tupleKind kd).keeps (hiso y (List.mem_of_getElem? hy)) hod hdd hs'
        have lz := fold_len xs (ys.take x)
        have lt : (ys.take x).length ≤ ys.length := by rw [List.length_take]; omega
        refine wpAny_bind (wpAny_holding (put_hashed (s := { s with heap := h' }) hu hk hd' (by omega) fun h'' hd'' hs'' => ?_))
        have hoo'' : h''.get? o = some oo := (hs''.2 o (Ne.symm hdo)).trans hoo'
        refine wpAny_bind (wpAny_dictEpoch hoo'' hdo' ?_)
        rw [if_neg (by simp)]
        exact wpAny_pure ⟨h'', x + 1, rfl, h2, hlt, by rw [fold_step xs ys x y hy]; exact hd'', hoo'', hs'.trans hs''⟩
      · rw [show eso.size - i = 0 by omega] at hr
        exact nomatch hr
    · rintro b s' ⟨h', i, rfl, hr, hi, hd', hoo', hs'⟩
      have hin : i = eso.size := by
        by_cases hlt : i < eso.size
        · rw [show eso.size - i = (eso.size - (i + 1)) + 1 by omega, List.range'_succ] at hr
          exact nomatch hr
        · omega
      refine wpAny_pure (q h' ?_ hs')
      rw [hin, szo, List.take_length] at hd'
      exact hd'
end
end Dct
set_option Elab.async false
set_option linter.all false
set_option maxRecDepth 100000
set_option maxHeartbeats 4000000
namespace Dct
set_option autoImplicit false
open PySem PySem.Spec PyProof.Rows
theorem meets_upd {prog : Program} {w : World} {κ : Type} [DecidableEq κ] (kd : KeyKind prog w κ) (d o : Addr) (hdo : d ≠ o) (hoS : (o == sysModules) = false) :
    MeetsIn prog w (Builtin.«dict.update» ⟨[.ref d, .ref o], []⟩) (fun A R s => A.in1.units < cLine ∧ ∃ xs ys, s.heap.DictOfH (tupleKind kd) d xs ∧ s.heap.DictOfH (tupleKind kd) o ys ∧ xs.length + ys.length ≤ sizeLine ∧ (xs = [] → (ys.map fun y => (tupleKind kd).hash y.1).Nodup) ∧
      ∀ h', h'.DictOfH (tupleKind kd) d (fold xs ys) → Heap.SameBut d s.heap h' → R (.ok (.ret .none)) { s with heap := h' }) :=
  .of_wp fun A R s ⟨hu, xs, ys, hd, ho, hz, hh, h⟩ => by
    unfold Builtin.«dict.update»
    refine wpAny_bind ?_
    unfold Builtin.Dict.selfAndRest
    refine wpAny_bind (wpAny_notOrdered_dict hd.typeIs ?_)
    refine wpAny_pure (show wpAny _ _ (Builtin.Dict.updateFrom "dict.update" d (.ref o) [] .none) _ _ s from ?_)
    unfold Builtin.Dict.updateFrom
    refine wpAny_bind (wpAny_typeOf ho.typeIs ?_)
    rw [if_neg (by decide)]
    refine wpAny_bind ?_
    unfold Builtin.Dict.merge
    refine wpAny_bind ?_
    unfold Builtin.Dict.readDirectly
    refine wpAny_bind (wpAny_isInstance ho.typeIs isSubtype_dict_dict ?_)
    simp only [Bool.not_true, Bool.false_eq_true, if_false]
    refine wpAny_bind (wpAny_specialOf ho.typeIs F.slot_dict_iter.lookup (wpAny_pure ?_))
    simp only [beq_self_eq_true, if_true]
    refine wpAny_bind (wpAny_pure (merge_tup hu hdo hoS hd ho hz hh fun h' hd' hs' => ?_))
    refine show wpAny _ _ (Builtin.Dict.addKeywords d [] >>= _) _ _ _ from ?_
    exact wpAny_bind (wpAny_pure (wpAny_pure ⟨.none, rfl, h h' hd' hs'⟩))
end Dct
namespace L2
open PySem PySem.Spec PyProof.Rows
section
variable {X : Cx} {pins : List (Addr × Obj)} {σ : St} {H : Hp} {s : Shared} {a : Addr} {y v : V} {u r : Value} {o : Option V} {A : Around} {E : Value → Shared → Prop}
theorem d_dictSet {H' : Hp} {Q : Unit → Shared → Prop} (hu : A.units < cLine) (I : Inv X pins σ H s) (g : DPut H a y v H') (ry : RelV y u) (rv : RelV v r) (h : ∀ s', Inv X pins σ H' s' → Q () s') :
    wpAny (model X.prog X.w) A (dictSet a u r) Q E s := by
  rcases g with ⟨kvs, k, e, ey, l, eH⟩ | ⟨kvs, k, b, e, ey, eb, l, eH⟩
  · subst ey eH
    obtain ⟨z, hd, vs, rel, dd⟩ := dk_of I.hok e
    refine wpAny_dictSet_pairs (hsz := by rw [← rel.length]; exact z) (kV_is ry) dd fun h' dd' hs => h _ ?_
    exact d_write I (by rw [e]; exact True.intro) hs (let ⟨q, _, _, hq, _⟩ := dd'; ⟨q, hq⟩) (dk_new (by have := length_putK kvs k v; omega) hd (rel.put k rv) dd')
  · subst ey eH
    cases (show u = Value.ref b from ry)
    obtain ⟨z, hd, xs, rel, dd⟩ := dt_of I.hok e
    refine wpAny_dictSet_heap (hsz := by rw [← Paired.length rel]; exact z) hu (key_of I.hok eb) dd fun h' dd' hs => h _ ?_
    obtain ⟨q, es, ep, hq, h2, h3, h4, _, h5⟩ := dd'
    refine d_write I (by rw [e]; exact True.intro) hs ⟨q, hq⟩ ⟨by have := length_putK kvs k v; omega, hd, _, (rel.put k eb rv).keeps fun c ys ec => ?_, q, es, ep, hq, h2, h3, h4, h5⟩
    rw [upd_ne (ne_of ec e (fun z => nomatch z))]
    exact ec
end
def bDPut (D : Addr) (tk tv : TE) : TB := fun N σ H => tk σ H fun y H1 => tv σ H1 fun v H2 => ∃ H3, DPut H2 D y v H3 ∧ N σ H3
theorem pb_dput {X : Cx} {kx vx : Expr} {tk tv : TE} {D : Addr} (hu : X.A.units + 1 < cLine) (hk : PE X kx tk) (hv : PE X vx tv) : PBd X (emitD kx vx X.env (.ref D)) (bDPut D tk tv) := by
  intro pins s σ H N I h
  unfold emitD
  refine wpAny_bind (thn (hk pins s σ H _ I h) fun ku s1 ⟨y, H1, I1, r1, q1⟩ => ?_)
  refine wpAny_bind (wpAny_holding (thn (hv pins s1 σ H1 _ I1 q1) fun vu s2 ⟨x, H2, I2, r2, H3, g, q2⟩ => ?_))
  exact wpAny_bind (wpAny_standAt (wpAny_holding (d_dictSet (by omega) I2 g r1 r2 fun s3 I3 => ⟨σ, H3, I3, q2⟩)))
section
variable {X : Cx} {tg iter kx vx : Expr} {ifs : List Expr} {sc : Scope} {pos : Pos} {Nc : List Str} {js : List (Option Nat)} {wi : TI}
def tDCt (js : List (Option Nat)) (wi : TI) (g : TG) (bd : Addr → TB) : TE := fun σ H Q => wi σ H fun J H1 => ∀ D, H1 D = none → tWalk J g (bd D) (fun _ H' => Q (.ref D) H') (compSt js σ) (upd H1 D (.dT []))
theorem pe_dc1t {g : TG} {bd : Addr → TB} (hx : X.xe = fun _ _ => False) (hc : X.calm = true) (hi : PI X tg iter wi) (S : CS sc X.env.scope) (cap : capOk js Nc X.N sc.names = true)
    (hg : ∀ C s₂ H₂ fp pins, PG (cxC X Nc sc C s₂ H₂ fp pins) tg g)
    (hb : ∀ C s₂ H₂ fp pins D L, PTl (cxC X Nc sc C s₂ H₂ fp pins) (tailOf ifs (cxC X Nc sc C s₂ H₂ fp pins).env (emitD kx vx (cxC X Nc sc C s₂ H₂ fp pins).env (.ref D)) L) L (bd D))
    (hs : ∀ x, foldedSetIterable iter X.env x = pure x := by intro _; rfl) :
    PE X (.DictComp kx vx [⟨tg, iter, ifs, 0⟩] sc pos) (tDCt js wi g bd) := by
  intro pins s σ H Q I h
  rw [arm_eval_DictComp]
  have hcl : closureFor sc X.env = pure (clOf sc X.env) := closure_of fun y hy hf => I.ok.has y.1 (.inl (S.free y hy hf))
  refine wpAny_comprehension_free (use := none) rfl hs hcl S.kind S.names (thn (hi pins s σ H _ I h) fun v s1 h1 => thn h1 fun itv s2 h2 => ?_)
  obtain ⟨it, fp, tn, J, H2, e, I2, T, st2, f2, hw⟩ := h2
  subst e
  have hlt : ∀ b ∈ fp, b < s2.heap.objs.size := fun b hb => let ⟨o, ho, _⟩ := T.obj _ _ st2 b hb; Heap.lt_size ho
  refine wpAny_newObj_type (wpAny_newFunctionEnv S.nocell (by intro y hy; simp at hy) (fun h₁ hns₁ hsb₁ => ?_) S.kind)
  dsimp only at hns₁ hsb₁ ⊢
  generalize hH2 : s2.heap.push { cls := .type "dict", dict := none, data := .dict #[] } = G at hns₁ hsb₁ ⊢
  have hCs : G.objs.size = s2.heap.objs.size + 1 := by rw [← hH2, Heap.size_push]
  have hDC : s2.heap.objs.size ≠ G.objs.size := by omega
  have hCle : s2.heap.objs.size ≤ G.objs.size := by omega
  have old : ∀ b o, s2.heap.get? b = some o → h₁.get? b = some o := fun b o e => hsb₁.extBut b o (Nat.ne_of_lt (Nat.lt_of_lt_of_le (Heap.lt_size e) hCle)) (Heap.get?_push_of_some _ (hH2 ▸ Heap.get?_push_of_some _ e))
  have hacc : h₁.get? s2.heap.objs.size = some { cls := .type "dict", dict := none, data := .dict #[] } := hsb₁.extBut _ _ hDC (Heap.get?_push_of_some _ (hH2 ▸ Heap.get?_push_size _ rfl))
  have new : ObjOk X.prog X.w (upd H2 s2.heap.objs.size (.dT [])) h₁ s2.heap.objs.size (.dT []) := by
    exact ⟨Nat.zero_le _, beq_eq_false_iff_ne.mpr (Ne.symm (Nat.ne_of_lt I2.big)), [], .nil, _, _, _, hacc, ⟨rfl, rfl, rfl⟩, rfl, rfl, List.nodup_nil⟩
  have I4 := inv_comp (js := js) (Nc := Nc) (tk := s2.toks + ([] : List (Str × Value)).length) I2 S f2 hlt cap hCle (Nat.le_refl _) hDC old hns₁ new
  have hn : H2 s2.heap.objs.size = none := I2.fresh
  have f4 : ∀ b ∈ fp, FpOk (cxC X Nc sc G.objs.size s2 H2 fp pins) [] (upd H2 s2.heap.objs.size (.dT [])) b := fun b hb => by
    obtain ⟨h0, h1, h2, h3, h4, h5⟩ := f2 b hb
    refine ⟨?_, Nat.ne_of_lt (Nat.lt_of_lt_of_le (hlt b hb) hCle), fun z => ?_, .inl hb, fun x c z => ?_, fun p hp => ?_⟩
    · rw [upd_ne (Nat.ne_of_lt (hlt b hb))]; exact h0
    · rcases List.mem_cons.mp (I2.stkSub b z) with q | q
      · exact h1 q
      · exact h2 q
    · exact h4 x c (cl_in sc.names [] (fun z => nomatch z) z)
    · rcases List.mem_append.mp hp with z | z
      · exact h5 p z
      · exact absurd z (by simp)
  have st4 : tn 0 h₁ := T.keep _ _ _ st2 fun b hb o e => old b o e
  have loop : codeAny (model X.prog X.w) X.A (.compLoop (.DictComp kx vx [⟨tg, iter, ifs, 0⟩] sc pos) 0 (.ref it) (.ref s2.heap.objs.size) (compEnvC sc (clOf sc X.env) G.objs.size X.env))
      (compPost (model X.prog X.w) X.A X.xe none (EP X pins σ Q) (.ref s2.heap.objs.size) G.objs.size) { s2 with heap := h₁, toks := s2.toks + ([] : List (Str × Value)).length } := by
    refine comp_loop (X := cxC X Nc sc G.objs.size s2 H2 fp pins) (.inr ⟨kx, vx, rfl⟩) hx hc (turn_d1 _ _ _ _ _ _ _ _ _ _) T (hg _ _ _ _ _) (hb _ _ _ _ _ _ _) I4 st4 f4 (hw _ hn) fun σ' H' s' I' q => ?_
    obtain ⟨m', hm', _⟩ := I'.loc
    exact ⟨m', hm', fun h' hs' => ⟨.ref s2.heap.objs.size, H', inv_back I2 f2 hCle I' hs', rfl, q⟩⟩
  exact comp_start (.inr ⟨kx, vx, rfl⟩) rfl rfl loop (T.self _ _ _ _ _ st4 loop)
def foldK (kvs more : List (List Key × V)) : List (List Key × V) := more.foldl (fun acc y => putK acc y.1 y.2) kvs
theorem KT.fold {H : Hp} : ∀ {more : List (List Key × V)} {ys : List (List Key × Addr × Value)} {kvs : List (List Key × V)} {xs : List (List Key × Addr × Value)}, KT H kvs xs → KT H more ys → KT H (foldK kvs more) (Dct.fold xs ys)
  | [], _, _, _, r, .nil => r
  | p :: more, _, kvs, xs, r, .cons (b := q) z t => by
    have := KT.fold (KT.put r q.1 (b := q.2.1) (y := p.2) (u := q.2.2) (by rw [← z.1]; exact z.2.1) z.2.2) t
    rw [← z.1] at this
    unfold foldK at *
    unfold Dct.fold at *
    rw [List.foldl_cons, List.foldl_cons, ← z.1]
    exact this
def Pr42 (k : List Key) : Prop := ∃ p q : Nat, k = [Sum.inl (p : Int), Sum.inl (q : Int)] ∧ p < 42 ∧ q < 42
theorem hash_nd {prog : Program} {w : World} : ∀ {ys : List (List Key × Addr × Value)}, (∀ y ∈ ys, Pr42 y.1) → (ys.map (·.1)).Nodup → (ys.map fun y => (tupleKind (mixKind prog w)).hash y.1).Nodup := by
  intro ys hp nd
  have : ys.map (fun y => (tupleKind (mixKind prog w)).hash y.1) = (ys.map (·.1)).map (tupleKind (mixKind prog w)).hash := by rw [List.map_map]; rfl
  rw [this]
  refine List.pairwise_map.mpr (nd.imp_of_mem fun {a b} ha hb ne e => ne ?_)
  obtain ⟨x, hx, rfl⟩ := List.mem_map.mp ha
  obtain ⟨y, hy, rfl⟩ := List.mem_map.mp hb
  obtain ⟨p, q, e1, p1, q1⟩ := hp x hx
  obtain ⟨p', q', e2, p2, q2⟩ := hp y hy
  rw [e1, e2] at e ⊢
  have : Hsh.hp p q = Hsh.hp p' q' := by
    unfold Hsh.hp
    exact congrArg (fun z : Int => (z + 2 ^ 63).toNat) e
  obtain ⟨rfl, rfl⟩ := Hsh.hp_inj p1 q1 p2 q2 this
  rfl
def rUpdT : V → List V → Hp → VK → Prop := fun x vs H Q => ∃ (a b : Addr) (kvs more : List (List Key × V)), x = .ref a ∧ vs = [.ref b] ∧ a ≠ b ∧ H a = some (.dT kvs) ∧ H b = some (.dT more) ∧ (∀ y ∈ more, Pr42 y.1) ∧ kvs.length + more.length ≤ sizeLine ∧ Q .non (upd H a (.dT (foldK kvs more)))
theorem mt_updT (hu : X.A.units + 1 < cLine) : MtM X "dict.update" rUpdT := by
  intro pins s σ H x vs v us Q I rx rv h
  obtain ⟨a, b, kvs, more, rfl, rfl, ab, ha, hb, hp, hz, q⟩ := h
  cases rx
  obtain ⟨u, rfl, ru⟩ := rv.one
  cases ru
  obtain ⟨za, hda, xs, ra, da⟩ := dt_of I.hok ha
  obtain ⟨zb, hdb, ys, rb, db⟩ := dt_of I.hok hb
  have hp' : ∀ y ∈ ys, Pr42 y.1 := by
    have : ∀ {l : List (List Key × V)} {m : List (List Key × Addr × Value)}, KT H l m → (∀ y ∈ l, Pr42 y.1) → ∀ y ∈ m, Pr42 y.1 := by
      intro l m r
      induction r with
      | nil => intro _ y hy; exact nomatch hy
      | @cons p1 q1 ps qs z t ih =>
        intro hl y hy
        rcases List.mem_cons.mp hy with rfl | hy
        · rw [← z.1]
          exact hl _ (List.mem_cons_self ..)
        · exact ih (fun y h => hl y (List.mem_cons_of_mem _ h)) y hy
    exact this rb hp
  have nd : (ys.map (·.1)).Nodup := let ⟨_, _, _, _, _, _, _, _, n⟩ := db; n
  have lx := Paired.length ra
  have ly := Paired.length rb
  refine call_meetsIn PySem.F.slot_dict_update da.typeIs PySem.F.entry_dict_update (PySem.F.args_dict_update_2 _ _) (Dct.meets_upd (mixKind X.prog X.w) a b ab hdb) ⟨tupleKind_room_in1 (knd := mixKind X.prog X.w) hu, xs, ys, da, db, by omega, fun _ => hash_nd hp' nd, fun h' dd' hs => ?_⟩
  obtain ⟨qo, es, ep, hq, h2, h3, h4, _, h5⟩ := dd'
  have lf := Paired.length (KT.fold ra rb)
  have lz := Dct.fold_len xs ys
  refine ⟨.non, upd H a (.dT (foldK kvs more)), d_write (t' := s.toks) I (by rw [ha]; exact True.intro) hs ⟨qo, hq⟩ ⟨by omega, hda, _, (KT.fold ra rb).keeps fun c zs ec => ?_, qo, es, ep, hq, h2, h3, h4, h5⟩, rfl, q⟩
  rw [upd_ne (ne_of ec ha (fun z => nomatch z))]
  exact ec
end
end L2
set_option Elab.async false
set_option linter.all false
set_option maxRecDepth 100000
set_option maxHeartbeats 4000000
namespace L2
open PySem PySem.Spec PyProof.Rows
section
variable {X : Cx}
end
end L2
set_option Elab.async false
set_option linter.all false
set_option maxRecDepth 100000
set_option maxHeartbeats 4000000
namespace L2
open PySem PySem.Spec PyProof.Rows
section
variable {X : Cx}
end
end L2
set_option Elab.async false
set_option linter.all false
set_option maxRecDepth 100000
set_option maxHeartbeats 4000000
namespace L2
open PySem PySem.Spec PyProof.Rows
section
variable {prog : Program} {w : World} {A : Around} {E : Value → Shared → Prop} {s : Shared} {z TI TO i1 i2 : Addr} {fp1 fp2 : List Addr} {n1 n2 j : Nat} {P1 P2 : Nat → Value → Prop} {S1 S2 : Nat → Heap → Prop} {a b : Value}
end
section
variable {X : Cx}
end
end L2
set_option Elab.async false
set_option linter.all false
set_option maxRecDepth 100000
set_option maxHeartbeats 4000000
namespace HT
open PySem PySem.Spec PyProof.Rows
section
variable {prog : Program} {w : World} {A : Around} {E : Value → Shared → Prop} {s : Shared}
end
end HT
namespace L2
open PySem PySem.Spec PyProof.Rows
section
variable {X : Cx}
end
end L2
set_option Elab.async false
set_option linter.all false
set_option maxRecDepth 100000
set_option maxHeartbeats 4000000
namespace L2
open PySem PySem.Spec PyProof.Rows
theorem walk_enum {k : Bool} {K : PySem.W.Frag} {a : Addr} {xs : List V} {g : TG} {b : TB} {N0 : St → Hp → Prop} {σ : St} {H : Hp} (Pv : Nat → St → Hp → Prop) (h0 : Pv 0 σ H) (hl : ∀ i σ H, i ≤ xs.length → Pv i σ H → SqX K k H a xs)
    (hs : ∀ i x T σ H, xs[i]? = some x → H T = none → Pv i σ H → g (.ref T) σ (upd H T (.tup [.int i, x])) fun σ2 H2 => b (Pv (i + 1)) σ2 H2) (hd : ∀ σ H, Pv xs.length σ H → N0 σ H) : tWalk (Ite k K a) g b N0 σ H := by
  refine ⟨fun i m σ H => m = xs.length - i ∧ i ≤ xs.length ∧ Pv i σ H, ⟨xs.length, by simp, Nat.zero_le _, h0⟩, ?_⟩
  rintro i m σ H ⟨rfl, hle, p⟩
  have q1 := hl i σ H hle p
  rcases Nat.lt_or_ge i xs.length with hi | hi
  · refine .inr ⟨⟨xs, xs[i], q1, by simp [hi]⟩, Pv (i + 1), fun σ' H' q => ⟨xs.length - (i + 1), by omega, rfl, by omega, q⟩, fun x H' hy => ?_⟩
    obtain ⟨T, x1, nT, rfl, e1, rfl⟩ := hy
    exact hs i x1 T σ H (e1 xs q1) nT p
  · obtain rfl : i = xs.length := by omega
    exact .inl ⟨⟨xs, q1, rfl⟩, hd σ H p⟩
end L2
set_option Elab.async false
set_option linter.all false
set_option maxRecDepth 100000
set_option maxHeartbeats 4000000
namespace L2
open PySem PySem.Spec PyProof.Rows
section
variable {X : Cx}
end
end L2
set_option Elab.async false
set_option linter.all false
set_option maxRecDepth 100000
set_option maxHeartbeats 4000000
namespace SetI
open PySem L2 PyProof.Rows PySem.Spec
theorem no_set : isSubtype (.type "tuple") (.type "set") = pure false := by rw [isSubtype_type]; kernel_rfl
theorem no_frozen : isSubtype (.type "tuple") (.type "frozenset") = pure false := by rw [isSubtype_type]; kernel_rfl
abbrev fresh0 (led : Bool) : Obj := { cls := .type "set", dict := none, data := .set #[] 0 (.fresh 0 0 led) }
theorem met_mem (val : Nat → Int) : ∀ (n : Nat) (x : Int), x ∈ firstMet val n ↔ ∃ i, i < n ∧ val i = x
  | 0, x => ⟨(fun h => nomatch h), fun ⟨i, h, _⟩ => absurd h (Nat.not_lt_zero _)⟩
  | n + 1, x => by
    rw [firstMet_succ]
    unfold step_dedup
    have ih := met_mem val n
    split
    · rename_i h
      rw [ih x]
      constructor
      · rintro ⟨i, a, b⟩; exact ⟨i, by omega, b⟩
      · rintro ⟨i, a, b⟩
        rcases Nat.lt_or_ge i n with z | z
        · exact ⟨i, z, b⟩
        · obtain rfl : i = n := by omega
          obtain ⟨y, hy, e⟩ := List.any_eq_true.mp h
          rw [beq_iff_eq] at e
          rw [← b, ← e]
          exact (ih y).mp hy
    · rw [List.mem_append, ih x, List.mem_singleton]
      constructor
      · rintro (⟨i, a, b⟩ | rfl)
        · exact ⟨i, by omega, b⟩
        · exact ⟨n, by omega, rfl⟩
      · rintro ⟨i, a, b⟩
        rcases Nat.lt_or_ge i n with z | z
        · exact .inl ⟨i, z, b⟩
        · obtain rfl : i = n := by omega
          exact .inr b.symm
theorem met_len (val : Nat → Int) : ∀ (n : Nat), (firstMet val n).length = n ↔ ∀ i j, i < j → j < n → val i ≠ val j
  | 0 => ⟨fun _ i j _ h => absurd h (Nat.not_lt_zero _), fun _ => rfl⟩
  | n + 1 => by
    have ih := met_len val n
    have le := firstMet_length_le val n
    rw [firstMet_succ, step_length]
    split
    · rename_i h
      obtain ⟨y, hy, e⟩ := List.any_eq_true.mp h
      rw [beq_iff_eq] at e
      obtain ⟨i, hi, ei⟩ := (met_mem val n y).mp hy
      exact ⟨fun z => by omega, fun z => absurd (ei.trans e) (z i n hi (by omega))⟩
    · rename_i h
      constructor
      · intro z i j hij hj
        rcases Nat.lt_or_ge j n with l | l
        · exact ih.mp (by omega) i j hij l
        · obtain rfl : j = n := by omega
          intro e
          exact h (List.any_eq_true.mpr ⟨val j, (met_mem val j _).mpr ⟨i, hij, e⟩, by simp⟩)
      · intro z
        rw [ih.mpr fun i j a b => z i j a (by omega)]
theorem met_nodup (ns : List Int) : (firstMet (fun i => ns.getD i 0) ns.length).length = ns.length ↔ ns.Nodup := by
  rw [met_len]
  unfold List.Nodup
  rw [List.pairwise_iff_getElem]
  constructor
  · intro h i j hi hj hij
    have := h i j hij hj
    simpa [hi, hj] using this
  · intro h i j hij hj
    have := h i j (by omega) hj hij
    have hi : i < ns.length := by omega
    simpa [hi, hj] using this
section
variable {prog : Program} {w : World} {A : Around} {E : Value → Shared → Prop} {s : Shared}
theorem call_setT {t : Addr} {its : List Value} {ns : List Int} {Q : Value → Shared → Prop} (hh : A.handled = none) (ht : s.heap.IsTuple t its.toArray) (hi : IntsAre its ns) (h4 : its.toArray.size + 1 < scanBound)
    (q : ∀ (h' : Heap) (tk : Nat), h'.SetOf (intKind prog w) s.heap.objs.size (fun k => (firstMet (fun i => ns.getD i 0) its.toArray.size).any (· == k)) (firstMet (fun i => ns.getD i 0) its.toArray.size).length → (∀ b o, s.heap.get? b = some o → h'.get? b = some o) → Q (.ref s.heap.objs.size) { s with heap := h', toks := tk }) :
    wpAny (model prog w) A (call (.type "set") [.ref t]) Q E s := by
  obtain ⟨_, _, hmro⟩ := F.called_set.mro
  have f1 := F.called_set.made; have f2 := F.called_set.sub
  refine wpAny_call (codeAny_of_tree ?_)
  refine wpAny_pure ⟨Code.quiet_builtin _ (by decide +kernel), codeAny_builtin F.entry_type_call ?_⟩
  rw [Around.under_plain (weight_type_call_type "set" [.ref t] []) rfl]
  have f3 := F.called_set.notType; have f4 := F.called_set.canCreate; have f5 := F.typeCall_set_1 (.ref t)
  repeat (any_goals (first | assumption | wp_step))
  refine codeAny_mono (code_set_new_1 (.ref t) (E := E) (Q₁ := fun v s₁ => ∃ led : Bool, v = .ref s.heap.objs.size ∧ s₁ = { s with heap := s.heap.push (fresh0 led) }) fun led => ⟨led, rfl, rfl⟩) fun r s₁ hr => ?_
  cases r with
  | error e => exact hr
  | ok fl =>
    cases fl with
    | next => exact hr.elim
    | brk => exact hr.elim
    | cont => exact hr.elim
    | ret v =>
      obtain ⟨led, rfl, rfl⟩ := hr
      have hS : (s.heap.push (fresh0 led)).get? s.heap.objs.size = some (fresh0 led) := Heap.get?_push_size _ rfl
      have hT : Shared.TypeIs { s with heap := s.heap.push (fresh0 led) } (.ref s.heap.objs.size) "set" := ⟨_, hS, rfl⟩
      have g1 := F.called_set.init.lookup; have g2 := F.called_set.init.bind (.ref s.heap.objs.size)
      repeat (any_goals (first | assumption | wp_step))
      refine codeAny_mono (codeAny_call_builtin (R := wants (fun r s₂ => r = .none ∧ ∃ h' tk, s₂ = { s with heap := h', toks := tk } ∧ h'.SetOf (intKind prog w) s.heap.objs.size (fun k => (firstMet (fun i => ns.getD i 0) its.toArray.size).any (· == k)) (firstMet (fun i => ns.getD i 0) its.toArray.size).length ∧ (∀ b o, s.heap.get? b = some o → h'.get? b = some o)) E)
        F.called_set.init.plain F.entry_set_init (check_set_init_1 hT ?_)) fun r₂ s₂ hr₂ => ?_
      · have ht1 : (s.heap.push (fresh0 led)).IsTuple t its.toArray := ht.at fun o e => Heap.get?_push_of_some _ e
        obtain ⟨ol, hol, hcl, nl, hdl⟩ := id ht1
        obtain ⟨ocls, odict, odata, oslots⟩ := ol
        simp only at hcl hdl
        subst hcl; subst hdl
        have k1 := no_set; have k2 := no_frozen
        have k3 : (Value.type "tuple" == Value.type "dict") = false := by decide
        have tS : t < s.heap.objs.size := by obtain ⟨o, e, _⟩ := ht; exact Heap.lt_size e
        unfold Builtin.«set.__init__» noKeywords Builtin.Frozenset.updateFrom
        generalize hPI : pyIter = PI
        wp_walk
        subst hPI
        refine wpAny_pyIter_tuple ht1 ?_
        refine wpAny_bind (wpAny_runValue ?_)
        have keep2 : ∀ (b : Addr) (o : Obj) (x : Obj), s.heap.get? b = some o → ((s.heap.push (fresh0 led)).push x).get? b = some o := fun b o x e => Heap.get?_push_of_some _ (Heap.get?_push_of_some _ e)
        have hh3 : A.in1.in1.in1.handled = none := by simp [hh]
        have zS : (s.heap.push (fresh0 led)).objs.size = s.heap.objs.size + 1 := Heap.size_push ..
        refine codeAny_set_update_loopS ((Walks.tuple hh3 _ t (by rw [zS]; exact Nat.ne_of_lt (Nat.lt_succ_of_lt tS)) its.toArray).toS) s.heap.objs.size ?ne (fun i => ns.getD i 0) (fun i v e => IntsAre.int_at hi i v (by rw [← List.getElem?_toArray]; exact e)) h4 (its.toArray.size - 0) 0 _ (by omega) (Nat.zero_le _) ⟨⟨_, Heap.get?_push_size _ rfl, rfl, rfl⟩, ht1.at fun o e => Heap.get?_push_of_some _ e⟩ ?set0 ?fin
        case ne =>
          rw [zS]
          simp only [List.mem_cons, List.not_mem_nil, or_false, not_or]
          exact ⟨Nat.ne_of_lt (Nat.lt_succ_self _), Nat.ne_of_gt tS⟩
        case set0 => exact SetOf_congr ((setObjOf_fresh (knd := intKind prog w) led).setOf (Heap.get?_push_of_some _ hS) (by unfold scanBound; omega)) (fun _ => rfl) rfl
        case fin =>
          intro s' hm hS'
          obtain ⟨h', g', d', tk', os'⟩ := s'
          obtain rfl : g' = s.gens := hm.gens
          obtain rfl : d' = s.drawn := hm.drawn
          obtain rfl : os' = s.os := hm.os
          refine wpAny_pure (wpAny_pure ⟨rfl, h', tk', rfl, hS', fun b o e => ?_⟩)
          refine hm.heap b o ?_ (keep2 b o _ e)
          have := Heap.lt_size e
          simp only [List.mem_cons, List.not_mem_nil, or_false, not_or]
          exact ⟨Nat.ne_of_lt this, by rw [zS]; exact Nat.ne_of_lt (Nat.lt_succ_of_lt this)⟩
      · cases r₂ with
        | error e => exact hr₂
        | ok fl₂ =>
          cases fl₂ with
          | next => exact hr₂.elim
          | brk => exact hr₂.elim
          | cont => exact hr₂.elim
          | ret r =>
            obtain ⟨rfl, h', tk, rfl, k1, k3⟩ := hr₂
            repeat (any_goals (first | assumption | wp_step))
            exact q _ _ k1 k3
end
end SetI
namespace L2
open PySem PySem.Spec PyProof.Rows
section
variable {X : Cx}
theorem call_setI (hc : X.calm = true) : CallR X (.type "set") (fun xs H Q => ∃ (p : Addr) (ns : List Int), xs = [.ref p] ∧ (SqL X.K H p (ns.map V.int) ∨ SqT X.K H p (ns.map V.int)) ∧ ns.length ≤ 4000 ∧ ∀ (S : Addr) (f : Int → Bool) (n : Nat), H S = none → (n = ns.length ↔ ns.Nodup) → n ≤ ns.length → Q (.ref S) (upd H S (.set f n))) := by
  intro pins s σ H xs us Q I r h
  obtain ⟨p, ns, rfl, hq, hn, q⟩ := h
  obtain ⟨u, rfl, rx⟩ := vals1 r
  cases rx
  have hf : H s.heap.objs.size = none := I.hok.fresh (Nat.le_refl _)
  have le := fun n => firstMet_length_le (fun i => ns.getD i 0) n
  rcases hq with hq | hq
  · obtain ⟨its, rv, pl, hz⟩ := I.list hq
    have hi := ints_of rv
    have sz : its.toArray.size = ns.length := by rw [List.size_toArray, ← rv.length, List.length_map]
    refine call_set_list (I.ok.hd hc) pl.isList (by simpa using hi) (by rw [sz]; unfold scanBound; omega) fun h' tk hS k => ?_
    rw [sz] at hS
    exact ⟨.ref s.heap.objs.size, _, I.laid (t' := tk) (fun b o e => k b o (Heap.lt_size e) e) (Nat.le_refl _) (show ObjOk X.prog X.w _ h' _ (.set _ _) from hS), rfl, q _ _ _ hf (SetI.met_nodup ns) (le _)⟩
  · obtain ⟨its, rv, tp, hz⟩ := I.tuple hq
    have hi := ints_of rv
    have sz : its.toArray.size = ns.length := by rw [List.size_toArray, ← rv.length, List.length_map]
    refine SetI.call_setT (I.ok.hd hc) tp hi (by rw [sz]; unfold scanBound; omega) fun h' tk hS k => ?_
    rw [sz] at hS
    exact ⟨.ref s.heap.objs.size, _, I.laid (t' := tk) k (Nat.le_refl _) (show ObjOk X.prog X.w _ h' _ (.set _ _) from hS), rfl, q _ _ _ hf (SetI.met_nodup ns) (le _)⟩
theorem call_lenI : CallR X (.builtin "len") (fun xs H Q => ∃ (S : Addr) (f : Int → Bool) (n : Nat), xs = [.ref S] ∧ H S = some (.set f n) ∧ Q (.int n) H) := by
  intro pins s σ H xs us Q I r h
  obtain ⟨S, f, n, rfl, hS, q⟩ := h
  obtain ⟨u, rfl, rx⟩ := vals1 r
  cases rx
  obtain ⟨o, es, ep, t, ho, hex, hd, _, _, hb, fit, rfl⟩ := I.hok S _ hS
  exact call_len_set ho hex hd fit (by unfold scanBound at hb; omega) ⟨.int es.size, H, I.tok _, ⟨_, rfl⟩, q⟩
end
end L2
set_option linter.all false
set_option maxRecDepth 100000
namespace HT
open PySem PySem.Spec PyProof.Rows
section
variable {M : Model} {A : Around} {E : Value → Shared → Prop} {s : Shared}
theorem nfe_own {scope : Scope} {globals : Addr} {closure : List (Str × Addr)} {qual : Str} {func : Option Addr} {code : Value} {outer : Env} {builtins : Addr} {Q : Env → Shared → Prop}
    (hQ : Q (newEnv scope s.heap.objs.size globals (cellsFrom (s.heap.objs.size + 1) scope.names closure) qual func code (some outer) builtins)
      { s with heap := pushCells (s.heap.push { cls := .type "dict", data := .dict #[] }) scope.names }) :
    wpAny M A (newFunctionEnv scope globals closure [] qual func code (some outer) builtins) Q E s := by
  simp only [newFunctionEnv, Option.isSome_some, if_true]
  refine wpAny_bind (wpAny_alloc ?_)
  refine wpAny_bind (wpAny_layCells _ (fun name kind cells => by cases hkc : kind == NameKind.cell <;> simp [hkc]) _ _ _ _ ?_)
  rw [show ({ s with heap := s.heap.push { cls := .type "dict", data := .dict #[] } } : Shared).heap.objs.size = s.heap.objs.size + 1 from Heap.size_push ..]
  refine wpAny_bind (wpAny_pure (wpAny_pure ?_))
  exact hQ
end
end HT
set_option linter.all false
set_option maxRecDepth 100000
namespace HT
open PySem PySem.Spec PyProof.Rows
theorem cells_of : ∀ (names : List (Str × NameKind)) (lo : Nat) (acc : List (Str × Addr)) (x : Str) (c : Addr), (cellsFrom lo names acc).lookup x = some c → (lo ≤ c ∧ (x, NameKind.cell) ∈ names) ∨ acc.lookup x = some c
  | [], _, _, _, _, h => .inr h
  | (n, k) :: r, lo, acc, x, c, h => by
    unfold cellsFrom at h
    split at h
    · rename_i hk
      have hk : k = .cell := by simpa using hk
      rcases cells_of r (lo + 1) _ x c h with ⟨a, b⟩ | b
      · exact .inl ⟨by omega, List.mem_cons_of_mem _ b⟩
      · rw [List.lookup_cons] at b
        cases e : x == n with
        | true =>
          rw [e] at b
          cases b
          rw [beq_iff_eq.mp e, hk]
          exact .inl ⟨Nat.le_refl _, List.mem_cons_self⟩
        | false =>
          rw [e] at b
          exact .inr b
    · rcases cells_of r lo acc x c h with ⟨a, b⟩ | b
      · exact .inl ⟨a, List.mem_cons_of_mem _ b⟩
      · exact .inr b
theorem cells_keep : ∀ (names : List (Str × NameKind)) (lo : Nat) (acc : List (Str × Addr)) (x : Str), (x, NameKind.cell) ∉ names → (cellsFrom lo names acc).lookup x = acc.lookup x
  | [], _, _, _, _ => rfl
  | (n, k) :: r, lo, acc, x, h => by
    have hr : (x, NameKind.cell) ∉ r := fun z => h (List.mem_cons_of_mem _ z)
    unfold cellsFrom
    split
    · rename_i hk
      have hk : k = .cell := by simpa using hk
      rw [cells_keep r _ _ x hr, List.lookup_cons]
      cases e : x == n with
      | true =>
        rw [beq_iff_eq.mp e, hk] at h
        exact absurd List.mem_cons_self h
      | false => rfl
    · exact cells_keep r _ _ x hr
theorem cells_has : ∀ (names : List (Str × NameKind)) (lo : Nat) (acc : List (Str × Addr)) (x : Str), (x, NameKind.cell) ∈ names ∨ (∃ c, acc.lookup x = some c) → ∃ c, (cellsFrom lo names acc).lookup x = some c
  | [], _, _, _, h => h.elim (fun z => nomatch z) id
  | (n, k) :: r, lo, acc, x, h => by
    unfold cellsFrom
    split
    · refine cells_has r _ _ x ?_
      by_cases e : x = n
      · subst e
        exact .inr ⟨lo, by rw [List.lookup_cons]; simp⟩
      · rcases h with h | ⟨c, h⟩
        · rcases List.mem_cons.mp h with z | z
          · exact absurd (congrArg Prod.fst z) e
          · exact .inl z
        · refine .inr ⟨c, ?_⟩
          rw [List.lookup_cons, show (x == n) = false by simpa using e]
          exact h
    · rename_i hk
      refine cells_has r _ _ x ?_
      rcases h with h | h
      · rcases List.mem_cons.mp h with z | z
        · have z2 : NameKind.cell = k := congrArg Prod.snd z
          exact absurd (by rw [← z2]; rfl) hk
        · exact .inl z
      · exact .inr h
theorem cells_inj : ∀ (names : List (Str × NameKind)) (lo : Nat) (acc : List (Str × Addr)), (∀ x c, acc.lookup x = some c → c < lo) → (∀ x y c, acc.lookup x = some c → acc.lookup y = some c → x = y) →
    ∀ x y c, (cellsFrom lo names acc).lookup x = some c → (cellsFrom lo names acc).lookup y = some c → x = y
  | [], _, _, _, h, x, y, c, e1, e2 => h x y c e1 e2
  | (n, k) :: r, lo, acc, hl, h, x, y, c, e1, e2 => by
    unfold cellsFrom at e1 e2
    split at e1
    · rename_i hk
      rw [if_pos hk] at e2
      have look : ∀ z d, ((n, lo) :: acc).lookup z = some d → (z = n ∧ d = lo) ∨ (z ≠ n ∧ acc.lookup z = some d) := fun z d q => by
        rw [List.lookup_cons] at q
        cases e : z == n with
        | true =>
          rw [e] at q
          cases q
          exact .inl ⟨beq_iff_eq.mp e, rfl⟩
        | false =>
          rw [e] at q
          exact .inr ⟨by simpa using e, q⟩
      refine cells_inj r (lo + 1) ((n, lo) :: acc) (fun z d q => ?_) (fun z z' d q q' => ?_) x y c e1 e2
      · rcases look z d q with ⟨_, b⟩ | ⟨_, b⟩
        · rw [b]; exact Nat.lt_succ_self _
        · exact Nat.lt_succ_of_lt (hl z d b)
      · rcases look z d q with ⟨a, b⟩ | ⟨a, b⟩ <;> rcases look z' d q' with ⟨a', b'⟩ | ⟨a', b'⟩
        · rw [a, a']
        · exact absurd (hl z' d b') (by rw [b]; exact Nat.lt_irrefl _)
        · exact absurd (hl z d b) (by rw [b']; exact Nat.lt_irrefl _)
        · exact h z z' d b b'
    · rename_i hk
      rw [if_neg hk] at e2
      exact cells_inj r lo acc hl h x y c e1 e2
end HT
set_option linter.all false
set_option maxRecDepth 100000
set_option maxHeartbeats 4000000
namespace HT
open PySem PySem.Spec PyProof.Rows
theorem cells_own : ∀ (names : List (Str × NameKind)) (lo : Nat) (acc : List (Str × Addr)) (x : Str) (c : Addr), (x, NameKind.cell) ∈ names → (cellsFrom lo names acc).lookup x = some c → lo ≤ c
  | (n, k) :: r, lo, acc, x, c, m, h => by
    unfold cellsFrom at h
    by_cases mr : (x, NameKind.cell) ∈ r
    · split at h
      · exact Nat.le_of_succ_le (cells_own r (lo + 1) _ x c mr h)
      · exact cells_own r lo acc x c mr h
    · rcases List.mem_cons.mp m with z | z
      · injection z with z1 z2
        subst z1 z2
        rw [if_pos (by rfl), cells_keep r _ _ x mr, List.lookup_cons] at h
        simp at h
        exact Nat.le_of_eq h
      · exact absurd z mr
end HT
namespace L2
open PySem PySem.Spec PyProof.Rows
structure CS2 (sc S0 : Scope) : Prop where
  kind : sc.kind = .function
  names : ∀ y ∈ sc.names, y.2 = .local → sc.names.lookup y.1 = some .local
  own : ∀ y ∈ sc.names, y.2 = .cell → sc.names.lookup y.1 = some .cell
  nof : ∀ x, sc.names.lookup x = some .free → (x, NameKind.cell) ∉ sc.names
  free : ∀ y ∈ sc.names, y.2 = .free → S0.names.lookup y.1 = some .cell
def cxD (X : Cx) (Nc : List Str) (sc : Scope) (C : Addr) (s₂ : Shared) (H₂ : Hp) (fp : List Addr) (pins : List (Addr × Obj)) : Cx :=
  { X with N := Nc, s₀ := s₂, H₀ := H₂, env := compEnvC sc (cellsFrom (C + 1) sc.names (clOf sc X.env)) C X.env, outer := X.stack, ex := fp, fn := fun x => decide ((x, NameKind.cell) ∈ sc.names), pn := X.pn ++ pins }
section
variable {X : Cx} {pins : List (Addr × Obj)} {σ : St} {H : Hp} {s : Shared} {sc : Scope} {Nc : List Str} {js : List (Option Nat)} {fp : List Addr}
theorem ok_comp2 (I : Inv X pins σ H s) (S : CS2 sc X.env.scope) (f : ∀ b ∈ fp, FpOk X pins H b) (hlt : ∀ b ∈ fp, b < s.heap.objs.size) {C : Addr} (hC : s.heap.objs.size ≤ C) : (cxD X Nc sc C s H fp pins).Ok := by
  have inX : ∀ x c, (clOf sc X.env).lookup x = some c → X.env.cells.lookup x = some c := fun x c e => cl_in sc.names [] (fun z => nomatch z) e
  have low : ∀ x c, (clOf sc X.env).lookup x = some c → c < C + 1 := fun x c e => by
    obtain ⟨v, ic⟩ := I.cell x c (inX x c e)
    exact Nat.lt_succ_of_lt (Nat.lt_of_lt_of_le ic.lt hC)
  refine ⟨I.ok.mod, S.kind, I.ok.glob, I.ok.blt, hC, HT.cells_inj sc.names (C + 1) _ low fun x y c e1 e2 => I.ok.inj x y c (inX x c e1) (inX y c e2), fun x hx => ?_, fun x c z e => ?_, I.ok.hd, I.ok.frames, .inl rfl, fun b hb => ⟨?_, fun x c e => ?_⟩, I.bs, Nat.le_trans I.ok.bsz I.sz, fun b o e hb => ?_, fun b hb hs => ?_, I.stack, I.stkFree⟩
  · have hx' : (sc.names.map (relOne X.env)).lookup x = some .cell ∨ (sc.names.map (relOne X.env)).lookup x = some .free := hx
    rw [rel_look] at hx'
    refine HT.cells_has sc.names (C + 1) _ x ?_
    cases e : sc.names.lookup x with
    | none => rw [e] at hx'; rcases hx' with z | z <;> cases z
    | some k =>
      rw [e] at hx'
      have m : (x, k) ∈ sc.names := PySem.mem_of_lookup e
      have kf : k = .free ∨ k = .cell := by
        unfold relOne at hx'
        by_cases hk : (k == NameKind.free) = true
        · exact .inl (by simpa using hk)
        · have hk' : (k == NameKind.free) = false := by simpa using hk
          simp only [hk', Bool.false_and, Option.map_some] at hx'
          rcases hx' with z | z
          · exact .inr (by simpa using z)
          · exact .inl (by simpa using z)
      rcases kf with rfl | rfl
      · have hx2 := S.free _ m rfl
        obtain ⟨c, hc⟩ := I.ok.has x (.inl hx2)
        exact .inr (cl_has sc.names [] ⟨c, hc⟩ (.inr m))
      · exact .inl m
  · exact Nat.le_trans hC (Nat.le_of_succ_le (HT.cells_own sc.names (C + 1) _ x c (of_decide_eq_true z) e))
  · exact Nat.ne_of_lt (Nat.lt_of_lt_of_le (hlt b hb) hC)
  · rcases HT.cells_of sc.names (C + 1) _ x c e with ⟨a, _⟩ | q
    · exact (Nat.ne_of_lt (Nat.lt_of_lt_of_le (hlt b hb) (Nat.le_trans hC (Nat.le_of_succ_le a)))).symm
    · exact (f b hb).2.2.2.2.1 x c (inX x c q)
  · obtain ⟨h0, h1, h2, h3, h4, h5⟩ := f b hb
    rcases h3 with z | z
    · exact I.ok.noex b o e z
    · exact absurd (Nat.lt_of_lt_of_le (Heap.lt_size (I.ok.bs b o e).1) z) (Nat.lt_irrefl _)
  · obtain ⟨h0, h1, h2, h3, h4, h5⟩ := f b hb
    rcases List.mem_cons.mp (I.stkSub b hs) with z | z
    · exact h1 z
    · exact h2 z
end
end L2
set_option linter.all false
set_option maxRecDepth 100000
set_option maxHeartbeats 4000000
namespace L2
open PySem PySem.Spec PyProof.Rows
section
variable {X : Cx} {pins : List (Addr × Obj)} {σ : St} {H : Hp} {s : Shared} {sc : Scope} {Nc : List Str} {js : List (Option Nat)} {fp : List Addr}
theorem inv_comp2 (I : Inv X pins σ H s) (S : CS2 sc X.env.scope) (f : ∀ b ∈ fp, FpOk X pins H b) (hlt : ∀ b ∈ fp, b < s.heap.objs.size) (cap : capOk js Nc X.N sc.names = true) {C D : Addr} {o : HO} {h₁ : Heap} {m : Str → Option Value} {tk : Nat}
    (hC : s.heap.objs.size ≤ C) (hD : s.heap.objs.size ≤ D) (hDC : D < C) (hcl : ∀ x c, (x, NameKind.cell) ∈ sc.names → (cellsFrom (C + 1) sc.names (clOf sc X.env)).lookup x = some c → h₁.IsCell c none) (hk : ∀ b ob, s.heap.get? b = some ob → h₁.get? b = some ob) (hns : h₁.Ns C m) (new : ObjOk X.prog X.w (upd H D o) h₁ D o) :
    Inv (cxD X Nc sc C s H fp pins) [] (compSt js σ) (upd H D o) { s with heap := h₁, toks := tk } := by
  have inX : ∀ x c, (clOf sc X.env).lookup x = some c → X.env.cells.lookup x = some c := fun x c e => cl_in sc.names [] (fun z => nomatch z) e
  have fresh : ∀ a, s.heap.objs.size ≤ a → H a = none := fun a ha => I.hok.fresh ha
  obtain ⟨cl, cp⟩ := cap_of cap
  refine ⟨ok_comp2 I S f hlt hC, rfl, I.bare, Un.laid hk hD (fresh D hD), ⟨m, hns, fun i x v e1 e2 e3 => ?_⟩, fun x c e => ?_, ?_, fun x c e => ?_, fun p hp => ?_, I.hok.laid hk hD new, ?_⟩
  · -- a name of the frame's
    unfold compSt at e2
    rw [List.getElem?_map] at e2
    cases ej : js[i]? with
    | none => rw [ej] at e2; cases e2
    | some oj =>
      rw [ej] at e2
      cases oj with
      | none => cases e2
      | some j =>
        obtain ⟨hN, hfree⟩ := cp i j x ej e1
        have hv : σ[j]? = some (some v) := by
          simp only [Option.map_some, Option.bind_some, Option.some.injEq] at e2
          cases e : σ[j]? with
          | none => rw [e] at e2; cases e2
          | some w => rw [e] at e2; exact congrArg some e2
        have kc : X.env.kindOf x = some .cell := S.free _ (PySem.mem_of_lookup hfree) rfl
        obtain ⟨m', hn', hl⟩ := I.loc
        obtain ⟨u, r, lk⟩ := hl j x v hN hv (.inr (.inl kc))
        refine ⟨u, r, .inr ⟨.inl ?_, ?_⟩⟩
        · show (sc.names.map (relOne X.env)).lookup x = some .cell
          rw [rel_look, hfree]
          unfold relOne
          simp [I.ok.kind, kc]
        · rcases lk with ⟨z, _⟩ | ⟨_, c, hc, ic⟩
          · rw [kc] at z; cases z
          · obtain ⟨c', hc'⟩ := cl_has sc.names [] ⟨c, hc⟩ (.inr (PySem.mem_of_lookup hfree))
            have : c' = c := Option.some.inj ((inX x c' hc').symm.trans hc)
            subst this
            exact ⟨c', by show (cellsFrom (C + 1) sc.names (clOf sc X.env)).lookup x = some c'; rw [HT.cells_keep _ _ _ x (S.nof x hfree)]; exact hc', ic.keeps hk⟩
  · by_cases own : (x, NameKind.cell) ∈ sc.names
    · exact ⟨none, hcl x c own e⟩
    · have e' : (clOf sc X.env).lookup x = some c := by rw [← HT.cells_keep sc.names (C + 1) _ x own]; exact e
      obtain ⟨v, ic⟩ := I.cell x c (inX x c e')
      exact ⟨v, ic.keeps hk⟩
  · show upd H D o C = none
    rw [upd_ne (Nat.ne_of_lt hDC).symm]
    exact fresh C hC
  · by_cases own : (x, NameKind.cell) ∈ sc.names
    · have lo := HT.cells_own sc.names (C + 1) _ x c own e
      show upd H D o c = none
      rw [upd_ne (Nat.ne_of_lt (Nat.lt_trans hDC (Nat.lt_of_succ_le lo))).symm]
      exact fresh c (Nat.le_trans hC (Nat.le_of_succ_le lo))
    · have e' : (clOf sc X.env).lookup x = some c := by rw [← HT.cells_keep sc.names (C + 1) _ x own]; exact e
      have q := inX x c e'
      obtain ⟨v, ic⟩ := I.cell x c q
      show upd H D o c = none
      rw [upd_ne (Nat.ne_of_lt (Nat.lt_of_lt_of_le ic.lt hD))]
      exact I.freeC x c q
  · have hp' : p ∈ X.pn ++ pins := by
      rcases List.mem_append.mp hp with z | z
      · exact z
      · exact absurd z (by simp)
    obtain ⟨a1, a2, a3, a4, a5⟩ := I.pin p hp'
    have lt := Heap.lt_size a1
    refine ⟨hk _ _ a1, ?_, Nat.ne_of_lt (Nat.lt_of_lt_of_le lt hC), fun z => ?_, a5⟩
    · rw [upd_ne (Nat.ne_of_lt (Nat.lt_of_lt_of_le lt hD))]
      exact a2
    · rcases List.mem_cons.mp (I.stkSub _ z) with z | z
      · exact a3 z
      · exact a4 z
  · unfold compSt
    rw [List.length_map]
    exact cl
theorem inv_back2 {C : Addr} {σ' : St} {H' : Hp} {s' : Shared} {h' : Heap} (I : Inv X pins σ H s) (f : ∀ b ∈ fp, FpOk X pins H b) (hC : s.heap.objs.size ≤ C) (J : Inv (cxD X Nc sc C s H fp pins) [] σ' H' s') (hs : Heap.SameBut C s'.heap h') :
    Inv X pins σ H' { s' with heap := h' } := by
  have u := J.base
  have nC : H' C = none := J.free
  have stay : ∀ b ob, b ≠ C → s'.heap.get? b = some ob → h'.get? b = some ob := fun b ob hb e => hs.extBut b ob hb e
  have neC : ∀ b ob, s.heap.get? b = some ob → b ≠ C := fun b ob e => Nat.ne_of_lt (Nat.lt_of_lt_of_le (Heap.lt_size e) hC)
  refine I.call' (ch := fp) J.os ?_ (fun b v e => ?_) J.bare fun b hb => ⟨(f b hb).2.2.2.1, (f b hb).2.1, (f b hb).2.2.2.2.1, (f b hb).2.2.2.2.2⟩
  · refine ⟨fun b ob e n h1 h2 => stay b ob (neC b ob e) (u.keep b ob e n h1 h2), fun b ob e n h1 h2 => ?_, u.free, fun b ob e h2 => ?_, u.tups, u.frzs, u.tbls⟩
    · obtain ⟨sl, q⟩ := u.slot b ob e n h1 h2
      exact ⟨sl, stay b _ (neC b ob e) q⟩
    · obtain ⟨o', q⟩ := u.there b ob e h2
      exact ⟨o', stay b _ (neC b ob e) q⟩
  · have nb : ∀ c w, H' c = some w → c ≠ C := fun c w e z => by rw [z, nC] at e; cases e
    refine (J.hok b v e).stay (fun c w hc q => stay c w ?_ q) (fun _ q => q) fun _ _ q => q
    rcases hc with z | z
    · rw [z]; exact nb b v e
    · exact nb c _ z
end
end L2
set_option Elab.async false
set_option linter.all false
set_option maxRecDepth 100000
set_option maxHeartbeats 4000000
namespace HT
open PySem PySem.Spec PyProof.Rows
theorem cells_none : ∀ (names : List (Str × NameKind)) (h : Heap) (acc : List (Str × Addr)) (x : Str) (c : Addr), (x, NameKind.cell) ∈ names → (cellsFrom h.objs.size names acc).lookup x = some c → (pushCells h names).IsCell c none
  | (n, k) :: r, h, acc, x, c, m, e => by
    unfold cellsFrom at e
    unfold pushCells
    by_cases mr : (x, NameKind.cell) ∈ r
    · split at e
      · rename_i hk
        rw [if_pos hk]
        refine cells_none r _ ((n, h.objs.size) :: acc) x c mr ?_
        rw [Heap.size_push]
        exact e
      · rename_i hk
        rw [if_neg hk]
        exact cells_none r _ _ x c mr e
    · rcases List.mem_cons.mp m with z | z
      · injection z with z1 z2
        subst z1 z2
        rw [if_pos (by rfl), cells_keep r _ _ x mr, List.lookup_cons] at e
        simp at e
        subst e
        rw [if_pos (by rfl)]
        have q : (h.push { cls := .type "cell", data := .cell none }).IsCell h.objs.size none := by
          first
            | exact ⟨_, Heap.get?_push_size _ rfl, rfl⟩
            | exact ⟨_, Heap.get?_push_size _ rfl⟩
            | exact Heap.get?_push_size _ rfl
        exact q.keeps fun b o hb => pushCells_keeps r _ b o hb
      · exact absurd z mr
end HT
namespace L2
open PySem PySem.Spec PyProof.Rows
section
variable {X : Cx} {e tg iter el : Expr} {ifs : List Expr} {gens rest : List Comprehension} {sc : Scope} {pos : Pos} {Nc : List Str} {js : List (Option Nat)} {wi : TI}
theorem pe_lc1y {g : TG} {bd : Addr → TB} (hx : X.xe = fun _ _ => False) (hc : X.calm = true) (hi : PI X tg iter wi) (S : CS2 sc X.env.scope) (cap : capOk js Nc X.N sc.names = true)
    (hg : ∀ C s₂ H₂ fp pins, PG (cxD X Nc sc C s₂ H₂ fp pins) tg g)
    (hb : ∀ C s₂ H₂ fp pins D L, PTl (cxD X Nc sc C s₂ H₂ fp pins) (tailOf ifs (cxD X Nc sc C s₂ H₂ fp pins).env (do let _ ← call (.builtin "list.append") [.ref D, ← eval el (cxD X Nc sc C s₂ H₂ fp pins).env]) L) L (bd D))
    (hs : ∀ x, foldedSetIterable iter X.env x = pure x := by intro _; rfl) :
    PE X (.ListComp el [⟨tg, iter, ifs, 0⟩] sc pos) (tLC js wi g bd) := by
  intro pins s σ H Q I h
  rw [eval_ListComp]
  have hcl : closureFor sc X.env = pure (clOf sc X.env) := closure_of fun y hy hf => I.ok.has y.1 (.inl (S.free y hy hf))
  refine wpAny_comprehension_free (use := none) rfl hs hcl S.kind S.names (thn (hi pins s σ H _ I h) fun v s1 h1 => thn h1 fun itv s2 h2 => ?_)
  obtain ⟨it, fp, tn, J, H2, e, I2, T, st2, f2, hw⟩ := h2
  subst e
  have hlt : ∀ b ∈ fp, b < s2.heap.objs.size := fun b hb => let ⟨o, ho, _⟩ := T.obj _ _ st2 b hb; Heap.lt_size ho
  refine wpAny_newObj_type (HT.nfe_own ?_)
  dsimp only
  generalize hH2 : s2.heap.push { cls := .type "list", dict := none, data := .seq ([] : List Value).toArray } = G
  have hCs : G.objs.size = s2.heap.objs.size + 1 := by rw [← hH2, Heap.size_push]
  have hDC : s2.heap.objs.size < G.objs.size := by omega
  have hCle : s2.heap.objs.size ≤ G.objs.size := by omega
  generalize hh₁ : pushCells (G.push { cls := .type "dict", data := .dict #[] }) sc.names = h₁
  have old : ∀ b o, s2.heap.get? b = some o → h₁.get? b = some o := fun b o e => hh₁ ▸ pushCells_keeps sc.names _ b o (Heap.get?_push_of_some _ (hH2 ▸ Heap.get?_push_of_some _ e))
  have hacc : h₁.get? s2.heap.objs.size = some { cls := .type "list", dict := none, data := .seq ([] : List Value).toArray } := hh₁ ▸ pushCells_keeps sc.names _ _ _ (Heap.get?_push_of_some _ (hH2 ▸ Heap.get?_push_size _ rfl))
  have hns₁ : h₁.Ns G.objs.size fun _ => none := by
    obtain ⟨o, es, k, a, b⟩ := Heap.Ns.new G (.type "dict")
    exact ⟨o, es, k, hh₁ ▸ pushCells_keeps sc.names _ _ _ a, b⟩
  have hcl₁ : ∀ x c, (x, NameKind.cell) ∈ sc.names → (cellsFrom (G.objs.size + 1) sc.names (clOf sc X.env)).lookup x = some c → h₁.IsCell c none := fun x c m e => by
    rw [← hh₁]
    refine HT.cells_none sc.names _ (clOf sc X.env) x c m ?_
    rw [Heap.size_push]
    exact e
  have new : ObjOk X.prog X.w (upd H2 s2.heap.objs.size (.lst [])) h₁ s2.heap.objs.size (.lst []) := ⟨Nat.zero_le _, [], _, .nil, hacc⟩
  have I4 := inv_comp2 (js := js) (Nc := Nc) (tk := s2.toks) I2 S f2 hlt cap hCle (Nat.le_refl _) hDC hcl₁ old hns₁ new
  have hn : H2 s2.heap.objs.size = none := I2.fresh
  have f4 : ∀ b ∈ fp, FpOk (cxD X Nc sc G.objs.size s2 H2 fp pins) [] (upd H2 s2.heap.objs.size (.lst [])) b := fun b hb => by
    obtain ⟨h0, h1, h2, h3, h4, h5⟩ := f2 b hb
    refine ⟨?_, Nat.ne_of_lt (Nat.lt_of_lt_of_le (hlt b hb) hCle), fun z => ?_, .inl hb, fun x c z => ?_, fun p hp => ?_⟩
    · rw [upd_ne (Nat.ne_of_lt (hlt b hb))]; exact h0
    · rcases List.mem_cons.mp (I2.stkSub b z) with q | q
      · exact h1 q
      · exact h2 q
    · rcases HT.cells_of sc.names (G.objs.size + 1) _ x c z with ⟨a, _⟩ | q
      · exact (Nat.ne_of_lt (Nat.lt_of_lt_of_le (hlt b hb) (Nat.le_trans hCle (Nat.le_of_succ_le a)))).symm
      · exact h4 x c (cl_in sc.names [] (fun z => nomatch z) q)
    · rcases List.mem_append.mp hp with z | z
      · exact h5 p z
      · exact absurd z (by simp)
  have st4 : tn 0 h₁ := T.keep _ _ _ st2 fun b hb o e => old b o e
  have loop : codeAny (model X.prog X.w) X.A (.compLoop (.ListComp el [⟨tg, iter, ifs, 0⟩] sc pos) 0 (.ref it) (.ref s2.heap.objs.size) (compEnvC sc (cellsFrom (G.objs.size + 1) sc.names (clOf sc X.env)) G.objs.size X.env))
      (compPost (model X.prog X.w) X.A X.xe none (EP X pins σ Q) (.ref s2.heap.objs.size) G.objs.size) { s2 with heap := h₁, toks := s2.toks } := by
    refine comp_loop (X := cxD X Nc sc G.objs.size s2 H2 fp pins) (.inl ⟨el, rfl⟩) hx hc (turn_l1 _ _ _ _ _ _ _ _ _) T (hg _ _ _ _ _) (hb _ _ _ _ _ _ _) I4 st4 f4 (hw _ hn) fun σ' H' s' I' q => ?_
    obtain ⟨m', hm', _⟩ := I'.loc
    exact ⟨m', hm', fun h' hs' => ⟨.ref s2.heap.objs.size, H', inv_back2 I2 f2 hCle I' hs', rfl, q⟩⟩
  exact comp_start (.inl ⟨el, rfl⟩) rfl rfl loop (T.self _ _ _ _ _ st4 loop)
end
end L2
set_option linter.all false
set_option maxRecDepth 100000
set_option maxHeartbeats 4000000
namespace L2
open PySem PySem.Spec PyProof.Rows
def csOk2 (sc S0 : Scope) : Bool := (sc.names.all fun y => (y.2 != .local || sc.names.lookup y.1 == some .local) && (y.2 != .cell || sc.names.lookup y.1 == some .cell) && (y.2 != .free || S0.names.lookup y.1 == some .cell))
theorem CS2.of {sc S0 : Scope} (k : sc.kind = .function) (h : csOk2 sc S0 = true) : CS2 sc S0 := by
  have q : ∀ y ∈ sc.names, _ := List.all_eq_true.mp h
  have own : ∀ y ∈ sc.names, y.2 = .cell → sc.names.lookup y.1 = some .cell := fun y hy e => by
    have z := q y hy
    rw [Bool.and_eq_true, Bool.and_eq_true] at z
    obtain ⟨⟨z1, z2⟩, z3⟩ := z
    rw [e] at z2
    simpa using z2
  refine ⟨k, fun y hy e => ?_, own, fun x e m => ?_, fun y hy e => ?_⟩
  · have z := q y hy
    rw [Bool.and_eq_true, Bool.and_eq_true] at z
    obtain ⟨⟨z1, z2⟩, z3⟩ := z
    rw [e] at z1; simpa using z1
  · have := own _ m rfl
    rw [e] at this
    cases this
  · have z := q y hy
    rw [Bool.and_eq_true, Bool.and_eq_true] at z
    obtain ⟨⟨z1, z2⟩, z3⟩ := z
    rw [e] at z3; simpa using z3
end L2
set_option Elab.async false
set_option linter.all false
set_option maxRecDepth 100000
set_option maxHeartbeats 4000000
namespace Prf
open PySem L2 Own Tri Cyc Rnd
def top (i : Nat) : Stmt := PySem.Challenge.pw_restdraw_k51_three_cornered_told.main.body.getD i (.Pass ⟨0, 0, 0, 0⟩)
abbrev s_steps_of : Stmt := top 1
theorem sc_steps_of : FnScope ["web"] ["web"] (defScope s_steps_of) := ⟨rfl, rfl, rfl, by decide +kernel, rfl, by decide +kernel, by decide +kernel⟩
abbrev s_ties : Stmt := top 2
theorem sc_ties : FnScope ["web"] ["web"] (defScope s_ties) := ⟨rfl, rfl, rfl, by decide +kernel, rfl, by decide +kernel, by decide +kernel⟩
abbrev s_behind : Stmt := top 3
theorem sc_behind : FnScope ["web", "step", "p", "q", "row"] ["web", "step"] (defScope s_behind) := ⟨rfl, rfl, rfl, by decide +kernel, rfl, by decide +kernel, by decide +kernel⟩
abbrev s_steps_round : Stmt := top 4
theorem sc_steps_round : FnScope ["web", "step", "steps", "further"] ["web", "step"] (defScope s_steps_round) := ⟨rfl, rfl, rfl, by decide +kernel, rfl, by decide +kernel, by decide +kernel⟩
abbrev s_faces : Stmt := top 5
theorem sc_faces : FnScope ["web", "told", "seen", "step", "steps"] ["web"] (defScope s_faces) := ⟨rfl, rfl, rfl, by decide +kernel, rfl, by decide +kernel, by decide +kernel⟩
abbrev s_is_flat : Stmt := top 6
theorem sc_is_flat : FnScope ["web"] ["web"] (defScope s_is_flat) := ⟨rfl, rfl, rfl, by decide +kernel, rfl, by decide +kernel, by decide +kernel⟩
abbrev s_uncornered_face : Stmt := top 8
theorem sc_uncornered_face : FnScope ["web", "some"] ["web"] (defScope s_uncornered_face) := ⟨rfl, rfl, rfl, by decide +kernel, rfl, by decide +kernel, by decide +kernel⟩
abbrev s_is_three_cornered : Stmt := top 9
theorem sc_is_three_cornered : FnScope ["web"] ["web"] (defScope s_is_three_cornered) := ⟨rfl, rfl, rfl, by decide +kernel, rfl, by decide +kernel, by decide +kernel⟩
abbrev s_law_pot : Stmt := top 11
theorem sc_law_pot : FnScope ["_law_script", "_law_k", "_law_cell"] ["_law_script", "_law_k"] (defScope s_law_pot) := ⟨rfl, rfl, rfl, by decide +kernel, rfl, by decide +kernel, by decide +kernel⟩
abbrev s_law_digit : Stmt := top 12
theorem sc_law_digit : FnScope ["_law_pot_here", "_law_many", "_law_digit_here"] ["_law_pot_here", "_law_many"] (defScope s_law_digit) := ⟨rfl, rfl, rfl, by decide +kernel, rfl, by decide +kernel, by decide +kernel⟩
abbrev s_law_put_over : Stmt := top 13
theorem sc_law_put_over : FnScope ["_law_rows_here", "_law_row", "_law_first", "_law_last", "_law_place", "_law_part", "_law_k"] ["_law_rows_here", "_law_row", "_law_first", "_law_last"] (defScope s_law_put_over) := ⟨rfl, rfl, rfl, by decide +kernel, rfl, by decide +kernel, by decide +kernel⟩
abbrev s_law_rows : Stmt := top 14
theorem sc_law_rows : FnScope ["_law_pot_here", "_law_n", "_law_rows_here", "_law_told", "_law_parts", "_law_k", "_law_row", "_law_first", "_law_last"] ["_law_pot_here", "_law_n"] (defScope s_law_rows) := ⟨rfl, rfl, rfl, by decide +kernel, rfl, by decide +kernel, by decide +kernel⟩
abbrev s_law_names : Stmt := top 15
theorem sc_law_names : FnScope ["_law_pot_here", "_law_n", "_law_found", "_law_k"] ["_law_pot_here", "_law_n"] (defScope s_law_names) := ⟨rfl, rfl, rfl, by decide +kernel, rfl, by decide +kernel, by decide +kernel⟩
abbrev s_law_web : Stmt := top 16
theorem sc_law_web : FnScope ["_law_rows_here", "_law_names_here", "_law_found", "_law_p", "_law_row", "_law_renewed", "_law_k"] ["_law_rows_here", "_law_names_here"] (defScope s_law_web) := ⟨rfl, rfl, rfl, by decide +kernel, rfl, by decide +kernel, by decide +kernel⟩
abbrev s_law_third : Stmt := top 17
theorem sc_law_third : FnScope ["_law_web_here", "_law_p", "_law_q"] ["_law_web_here", "_law_p", "_law_q"] (defScope s_law_third) := ⟨rfl, rfl, rfl, by decide +kernel, rfl, by decide +kernel, by decide +kernel⟩
abbrev s_law_reached : Stmt := top 18
theorem sc_law_reached : FnScope ["_law_rows_here", "_law_start", "_law_found", "_law_k"] ["_law_rows_here", "_law_start"] (defScope s_law_reached) := ⟨rfl, rfl, rfl, by decide +kernel, rfl, by decide +kernel, by decide +kernel⟩
abbrev s_law_without : Stmt := top 19
theorem sc_law_without : FnScope ["_law_rows_here", "_law_p", "_law_q", "_law_found"] ["_law_rows_here", "_law_p", "_law_q"] (defScope s_law_without) := ⟨rfl, rfl, rfl, by decide +kernel, rfl, by decide +kernel, by decide +kernel⟩
abbrev s_law_thinned : Stmt := top 20
theorem sc_law_thinned : FnScope ["_law_pot_here", "_law_rows_here", "_law_many", "_law_k", "_law_p", "_law_q"] ["_law_pot_here", "_law_rows_here", "_law_many"] (defScope s_law_thinned) := ⟨rfl, rfl, rfl, by decide +kernel, rfl, by decide +kernel, by decide +kernel⟩
abbrev s_law_shuffled : Stmt := top 21
theorem sc_law_shuffled : FnScope ["_law_pot_here", "_law_row", "_law_found", "_law_q"] ["_law_pot_here", "_law_row"] (defScope s_law_shuffled) := ⟨rfl, rfl, rfl, by decide +kernel, rfl, by decide +kernel, by decide +kernel⟩
abbrev s_law_ring : Stmt := top 22
theorem sc_law_ring : FnScope ["_law_pot_here", "_law_n", "_law_far"] ["_law_pot_here", "_law_n"] (defScope s_law_ring) := ⟨rfl, rfl, rfl, by decide +kernel, rfl, by decide +kernel, by decide +kernel⟩
abbrev s_law_spoilt : Stmt := top 23
theorem sc_law_spoilt : FnScope ["_law_pot_here", "_law_rows_here", "_law_kind", "_law_p"] ["_law_pot_here", "_law_rows_here"] (defScope s_law_spoilt) := ⟨rfl, rfl, rfl, by decide +kernel, rfl, by decide +kernel, by decide +kernel⟩
abbrev s_law_due : Stmt := top 24
theorem sc_law_due : FnScope ["_law_web_here", "_law_many", "_law_p", "_law_row", "_law_q"] ["_law_web_here"] (defScope s_law_due) := ⟨rfl, rfl, rfl, by decide +kernel, rfl, by decide +kernel, by decide +kernel⟩
abbrev s_law : Stmt := top 25
theorem sc_law : FnScope ["_law_script", "_law_k", "_law_pot_here", "_law_n", "_law_rows_here", "_law_web_here", "_law_told"] ["_law_script"] (defScope s_law) := ⟨rfl, rfl, rfl, by decide +kernel, rfl, by decide +kernel, by decide +kernel⟩
theorem same_new {H : Hp} {p : Addr} (h : H p = none) (o : HO) : Same H (upd H p o) := fun b u q => by rw [upd_ne (ne_of_none q h)]; exact q
def SameBut (a : Addr) (H H' : Hp) : Prop := ∀ b o, b ≠ a → H b = some o → H' b = some o
def spPot (K : PySem.W.Frag) : Sp := fun vs H Q _ => ∃ (a : Addr) (ns : List Int) (k : Int), vs = [.ref a, .int k] ∧ SqL K H a (ns.map V.int) ∧ ns.length ≤ 63 ∧ 0 ≤ k ∧ k ≤ 63 ∧
  ∀ (p : Addr) (x y : Int) (H' : Hp), 0 ≤ x → Same H H' → H p = none → H' p = some (.lst [.int x, .int y]) → Q (.ref p) H'
def PotAt (H : Hp) (a : Addr) : Prop := ∃ x y : Int, H a = some (.lst [.int x, .int y]) ∧ 0 ≤ x
def spDigit : Sp := fun vs H Q _ => ∃ (a : Addr) (m : Int), vs = [.ref a, .int m] ∧ PotAt H a ∧ 0 < m ∧ m.natAbs < 2 ^ 9000 ∧
  ∀ (d : Int) (H' : Hp), 0 ≤ d → d < m → SameBut a H H' → PotAt H' a → Q (.int d) H'
def vn (n : Nat) : V := .int (n : Int)
def ci (n : Nat) : Int := n
structure RowsAt (H : Hp) (r : Addr) (A : List Addr) (L : Rows) : Prop where
  top : H r = some (.lst (A.map V.ref))
  len : A.length = L.length
  nd : A.Nodup
  out : r ∉ A
  row : ∀ (i : Nat) (a : Addr) (ns : List Nat), A[i]? = some a → L[i]? = some ns → H a = some (.lst (ns.map vn))
theorem vn_map (ns : List Nat) : ns.map vn = (ns.map ci).map V.int := by
  rw [List.map_map]
  rfl
theorem firstAt_nat {ns : List Nat} {n : Nat} (h : n ∈ ns) : FirstAt (ns.map ci) (n : Int) (ns.idxOf n) := by
  have hl := List.idxOf_lt_length_of_mem h
  refine ⟨?_, fun m hm e => ?_⟩
  · rw [List.getElem?_map, List.getElem?_eq_getElem hl, List.getElem_idxOf hl]
    rfl
  · have hm' : m < ns.length := by omega
    rw [List.getElem?_map, List.getElem?_eq_getElem hm'] at e
    have e2 : ns[m] = n := by
      have z : ((ns[m] : Nat) : Int) = (n : Int) := Option.some.inj e
      omega
    have q := List.not_of_lt_findIdx (p := (· == n)) (xs := ns) hm
    rw [e2] at q
    simp at q
theorem RowsAt.at {H : Hp} {r : Addr} {A : List Addr} {L : Rows} (x : RowsAt H r A L) {i : Nat} {ns : List Nat} (h : L[i]? = some ns) : ∃ a, A[i]? = some a ∧ H a = some (.lst (ns.map vn)) ∧ atI (A.map V.ref) (i : Int) = some (.ref a) := by
  have hi : i < A.length := by rw [x.len]; exact (List.getElem?_eq_some_iff.mp h).1
  refine ⟨A[i], List.getElem?_eq_getElem hi, x.row i _ ns (List.getElem?_eq_getElem hi) h, atI_nat ?_⟩
  rw [List.getElem?_map, List.getElem?_eq_getElem hi]
  rfl
theorem at_prev {row : List Nat} {p v : Nat} (hp : p ∈ row) (h : prevB row p = some v) : atI (row.map vn) ((row.idxOf p : Int) - 1) = some (vn v) := by
  have hl := List.idxOf_lt_length_of_mem hp
  unfold prevB at h
  by_cases h0 : row.idxOf p = 0
  · rw [if_pos h0] at h
    rw [h0]
    have e : row = row.dropLast ++ [v] := by
      have ne : row ≠ [] := fun z => by rw [z] at hp; cases hp
      rw [List.getLast?_eq_some_getLast ne] at h
      rw [← Option.some.inj h]
      exact (List.dropLast_concat_getLast ne).symm
    rw [e, List.map_append]
    exact atI_last _ _
  · rw [if_neg h0] at h
    have e : ((row.idxOf p : Int) - 1) = ((row.idxOf p - 1 : Nat) : Int) := by omega
    rw [e]
    exact atI_nat (by rw [List.getElem?_map, h]; rfl)
section
variable {P : Program} {w : World} {K : PySem.W.Frag} {mg : Str → Option Value} {base : Heap}
theorem at0 {x y : V} : atI [x, y] 0 = some x := rfl
theorem at1 {x y : V} : atI [x, y] 1 = some y := rfl
theorem RowsAt.set {H : Hp} {r : Addr} {A : List Addr} {L : Rows} (x : RowsAt H r A L) {i : Nat} {a : Addr} (h : A[i]? = some a) (ns : List Nat) : RowsAt (upd H a (.lst (ns.map vn))) r A (L.set i ns) := by
  have ra : r ≠ a := fun z => x.out (z ▸ List.mem_of_getElem? h)
  have hi : i < L.length := by rw [← x.len]; exact (List.getElem?_eq_some_iff.mp h).1
  refine ⟨by rw [upd_ne ra]; exact x.top, by rw [List.length_set]; exact x.len, x.nd, x.out, fun j b ms hb hj => ?_⟩
  rcases mem_set hi hj with ⟨rfl, rfl⟩ | ⟨ne, hj⟩
  · rw [h] at hb
    cases hb
    exact upd_same
  · have ba : b ≠ a := fun z => by
      subst z
      have := (List.getElem?_inj (List.getElem?_eq_some_iff.mp hb).1 x.nd).mp (hb.trans h.symm)
      exact ne this
    rw [upd_ne ba]
    exact x.row j b ms hb hj
def ButRows (r : Addr) (A : List Addr) (H H' : Hp) : Prop := ∀ b o, b ≠ r → b ∉ A → H b = some o → H' b = some o
theorem cut_ints (ns : List Int) (lo hi : Option Int) : ∃ ms : List Int, cutV (ns.map V.int) lo hi = ms.map V.int ∧ ms.length ≤ ns.length := by
  refine ⟨(ns.drop (HT.sIx (ns.map V.int).length 0 lo)).take (HT.sIx (ns.map V.int).length (ns.map V.int).length hi - HT.sIx (ns.map V.int).length 0 lo), ?_, ?_⟩
  · unfold cutV
    rw [List.map_take, List.map_drop]
  · rw [List.length_take, List.length_drop]
    omega
theorem first_int (ms : List Int) : ∃ c : Int, atI (ms.map V.int ++ [V.int 0]) 0 = some (V.int c) := by
  cases ms with
  | nil => exact ⟨0, rfl⟩
  | cons x r => exact ⟨x, atI_nat (j := 0) rfl⟩
theorem small20k {n : Nat} (h : n ≤ 20000) : n < sizeLine := Nat.lt_of_le_of_lt h (by rw [sizeLine_eq]; decide)
theorem small {n : Nat} (h : n ≤ 1000) : n ≤ sizeLine := Nat.le_of_lt (small1000 h)
theorem ok_law_pot {f : Addr} {fd : FuncData} (F : Fun K "_law_pot" "_law_pot" s_law_pot f fd) (z_abs : mg "abs" = none) (z_max : mg "max" = none) : FnOk P w K mg base CX0 1 f fd ["_law_script", "_law_k"] (spPot K) := by
  refine F.ok sc_law_pot (fun vs H Q E h => ?_) (fun cdv A outer s H vs Q E hr h => ?_)
  · obtain ⟨a, ns, k, rfl, _⟩ := h
    rfl
  obtain ⟨a, ns, k, rfl, hS, h63, k0, k1, q⟩ := h
  refine ⟨_, (pss_cons (ps_set (i := 2) sc_law_pot.nd rfl (Or.inl rfl) (pe_ix ix_list (pe_op op_cat (pe_slice sl_list (pv 0) (po_some (pv 1)) (po_some (pe_op op_add (pv 1) pe_int))) (pe_lst (pa_cons pe_int pa_nil))) pe_int (fun _ _ => rfl)))
      (pss_one (ps_ret (pe_lst (pa_cons (pe_callB (call_max2 rfl) rfl z_max PyProof.Rows.boot_max (pa_cons pe_int (pa_cons (pe_op op_sub (pv 2) (pe_op op_pow pe_int pe_int)) pa_nil))) (pa_cons (pe_op op_add (pe_op op_mod (pe_op op_add (pe_op op_add (pe_callB call_abs rfl z_abs PyProof.Rows.boot_abs (pa_cons (pv 2) pa_nil)) (pe_op op_mul pe_int (pv 1))) pe_int) pe_int) pe_int) pa_nil)))))), ?_⟩
  obtain ⟨ms, em, lm⟩ := cut_ints ns (some k) (some (k + 1))
  obtain ⟨c, hc⟩ := first_int ms
  refine ⟨_, rfl, _, rfl, k, rfl, _, rfl, _, _, rfl, rfl, k + 1, rfl, a, _, rfl, hS, fun p1 h1 => ?_⟩
  refine ⟨(by show 1 ≤ sizeLine; decide), fun p2 h2 => ?_⟩
  have n12 : p1 ≠ p2 := ne_of_none upd_same h2
  refine ⟨p1, p2, _, _, rfl, rfl, (by rw [upd_ne n12]; exact upd_same), upd_same, (by rw [em, List.length_map, List.length_singleton]; exact small (by omega)), fun p3 h3 => ?_⟩
  refine ⟨p3, _, _, _, rfl, rfl, SqL.of upd_same, (by rw [em]; exact hc), ?_⟩
  have g1 : Same H (upd H p1 (.lst (cutV (ns.map V.int) (some k) (some (k + 1))))) := same_new h1 _
  have g2 := same_new h2 (.lst [V.int 0])
  have g3 := same_new h3 (.lst (cutV (ns.map V.int) (some k) (some (k + 1)) ++ [V.int 0]))
  have g := g1.trans (g2.trans g3)
  refine ⟨_, rfl, _, _, rfl, rfl, ⟨by decide, by decide, by decide⟩, _, _, rfl, rfl, _, _, rfl, _, rfl, c, rfl, _, rfl, _, _, rfl, rfl, .inl ⟨by decide, by decide⟩, _, _, rfl, rfl, _, _, rfl, rfl, _, _, rfl, rfl, (by show (0 : Int) < 2147483629; decide), _, _, rfl, rfl, (by show 2 ≤ sizeLine; decide), fun p4 h4 => ?_⟩
  refine q p4 _ _ _ ?_ (g.trans (same_new h4 _)) (g.free h4) upd_same
  split <;> omega
theorem SameBut.refl (a : Addr) (H : Hp) : SameBut a H H := fun _ _ _ h => h
theorem SameBut.trans {a : Addr} {H H1 H2 : Hp} (x : SameBut a H H1) (y : SameBut a H1 H2) : SameBut a H H2 := fun b o n h => y b o n (x b o n h)
theorem SameBut.of {a : Addr} {H H' : Hp} (h : Same H H') : SameBut a H H' := fun b o _ e => h b o e
theorem but_upd {a : Addr} {H : Hp} {o : HO} : SameBut a H (upd H a o) := fun b u n h => by rw [upd_ne n]; exact h
theorem ok_law_digit {f : Addr} {fd : FuncData} (F : Fun K "_law_digit" "_law_digit" s_law_digit f fd) (z_divmod : mg "divmod" = none) : FnOk P w K mg base CX0 1 f fd ["_law_pot_here", "_law_many"] (spDigit) := by
  refine F.ok sc_law_digit (fun vs H Q E h => ?_) (fun cdv A outer s H vs Q E hr h => ?_)
  · obtain ⟨a, m, rfl, _⟩ := h
    rfl
  obtain ⟨a, m, rfl, ⟨x, y, ha, hx⟩, m0, m1, q⟩ := h
  refine ⟨_, (pss_cons (ps_if (pt_cmpR op_gt (pe_ix ix_list (pv 0) pe_int (fun _ _ => rfl)) pe_int (nomark _)) (pss_cons (ps_asg (pe_callB call_divmodW rfl z_divmod PyProof.Rows.boot_divmod (pa_cons (pe_ix ix_list (pv 0) pe_int (fun _ _ => rfl)) (pa_cons (pv 1) pa_nil))) (pg_tup rfl (pgs_cons (pg_sub (pv 0) pe_int set_list) (pgs_cons (pg_name (i := 2) sc_law_digit.nd rfl (Or.inl rfl)) pgs_nil))))
      (pss_one (ps_ret (pv 2)))) pss_nil)
      (pss_cons (ps_asg (pe_op op_mod (pe_op op_add (pe_op op_mul (pe_ix ix_list (pv 0) pe_int (fun _ _ => rfl)) pe_int) pe_int) pe_int) (pg_sub (pv 0) pe_int set_list))
      (pss_one (ps_ret (pe_op op_mod (pe_op op_fdiv (pe_op op_mod (pe_op op_mul (pe_ix ix_list (pv 0) pe_int (fun _ _ => rfl)) (pe_ix ix_list (pv 0) pe_int (fun _ _ => rfl))) pe_int) pe_int) (pv 1)))))), ?_⟩
  refine ⟨_, rfl, a, _, _, _, rfl, rfl, SqL.of ha, at0, _, _, rfl, rfl, _, rfl, ?_⟩
  refine ite2 (fun c => ?_) (fun c => ?_)
  · refine ⟨_, rfl, a, _, _, _, rfl, rfl, SqL.of ha, at0, _, rfl, x, m, rfl, ⟨m0, m1⟩, fun p hp => ?_⟩
    have nap : a ≠ p := ne_of_none ha hp
    refine ⟨p, _, rfl, SqT.of upd_same, rfl, _, _, rfl, _, rfl, a, _, _, 0, rfl, rfl, (by rw [upd_ne nap]; exact ha), rfl, _, _, rfl, rfl, ?_⟩
    refine ⟨_, rfl, ?_⟩
    refine q _ _ (Int.emod_nonneg _ (by omega)) (Int.emod_lt_of_pos _ m0) ((SameBut.of (same_new hp _)).trans but_upd) ⟨_, _, upd_same, ?_⟩
    exact Int.ediv_nonneg hx (by omega)
  · refine ⟨_, rfl, a, _, _, _, rfl, rfl, SqL.of ha, at1, _, _, rfl, rfl, .inr ⟨by decide, by decide⟩, _, _, rfl, rfl, _, _, rfl, rfl, (by show (0 : Int) < 2147483647; decide), ?_⟩
    refine ⟨_, rfl, a, _, _, 1, rfl, rfl, ha, rfl, ?_⟩
    have b1 : 0 ≤ (y * 48271 + 39373) % 2147483647 := Int.emod_nonneg _ (by decide)
    have b2 : (y * 48271 + 39373) % 2147483647 < 2147483647 := Int.emod_lt_of_pos _ (by decide)
    refine ⟨_, rfl, a, _, _, _, rfl, rfl, SqL.of upd_same, at1, _, rfl, a, _, _, _, rfl, rfl, SqL.of upd_same, at1, _, _, rfl, rfl, .inl ⟨?_, ?_⟩, _, _, rfl, rfl, (by show (0 : Int) < 2147483629; decide), _, _, rfl, rfl, ⟨by decide, by decide⟩, _, rfl, _, _, rfl, rfl, m0, ?_⟩
    · show -(2 ^ 64) < (y * 48271 + 39373) % 2147483647
      omega
    · show (y * 48271 + 39373) % 2147483647 < 2 ^ 64
      omega
    · exact q _ _ (Int.emod_nonneg _ (by omega)) (Int.emod_lt_of_pos _ m0) but_upd ⟨_, _, upd_same, hx⟩
theorem keep {H H1 H2 : Hp} {p : Addr} (g : Same H H1) (n : H p = none) (b : SameBut p H1 H2) : Same H H2 := fun c o e => b c o (ne_of_none e n) (g c o e)
theorem PotAt.kept {H H' : Hp} {p : Addr} (h : PotAt H p) (g : Same H H') : PotAt H' p := by
  obtain ⟨x, y, e, z⟩ := h
  exact ⟨x, y, g _ _ e, z⟩
theorem lit9 {i : Int} (h : i.natAbs < 2 ^ 200) : i.natAbs < 2 ^ 9000 := Nat.lt_of_lt_of_le h (Nat.pow_le_pow_right (by decide) (by decide))
theorem PotAt.other {H : Hp} {a l : Addr} {o : HO} (h : PotAt H a) (n : a ≠ l) : PotAt (upd H l o) a := by
  obtain ⟨x, y, e, z⟩ := h
  exact ⟨x, y, by rw [upd_ne n]; exact e, z⟩
theorem era_vn (row : List Nat) (q : Nat) : ((row.map ci).eraseIdx (row.idxOf q)).map V.int = (eraB row q).map vn := by
  unfold eraB
  rw [vn_map, map_eraseIdx ci]
theorem setX {L : Rows} {i j : Nat} {r : List Nat} {row : List Nat} (h : L[j]? = some row) (n : i ≠ j) : (L.set i r)[j]? = some row := by rw [List.getElem?_set_ne n]; exact h
structure Some' (L : Rows) : Prop where
  pos : 0 < L.length
  le : L.length ≤ 150
  ne : ∀ (p : Nat) (row : List Nat), L[p]? = some row → row ≠ [] ∧ row.length ≤ 1000
theorem RowsAt.but {H H' : Hp} {r a : Addr} {A : List Addr} {L : Rows} (x : RowsAt H r A L) (h1 : a ≠ r) (h2 : a ∉ A) (g : SameBut a H H') : RowsAt H' r A L :=
  ⟨g _ _ h1.symm x.top, x.len, x.nd, x.out, fun i b ns hb hi => g _ _ (fun z => h2 (z ▸ List.mem_of_getElem? hb)) (x.row i b ns hb hi)⟩
theorem RowsAt.kept {H H' : Hp} {r : Addr} {A : List Addr} {L : Rows} (x : RowsAt H r A L) (g : Same H H') : RowsAt H' r A L :=
  ⟨g _ _ x.top, x.len, x.nd, x.out, fun i b ns hb hi => g _ _ (x.row i b ns hb hi)⟩
theorem vn_at {row : List Nat} {j : Nat} (h : j < row.length) : atI (row.map vn) (j : Int) = some (vn row[j]) := atI_nat (by rw [List.getElem?_map, List.getElem?_eq_getElem h]; rfl)
def WebAt (H : Hp) (t : Addr) (W : Rows) : Prop := ∃ ts : List Addr, H t = some (.tup (ts.map V.ref)) ∧ ts.length = W.length ∧ ∀ (j : Nat) (a : Addr) (row : List Nat), ts[j]? = some a → W[j]? = some row → H a = some (.tup (row.map vn))
theorem WebAt.at {H : Hp} {t : Addr} {W : Rows} (h : WebAt H t W) : ∃ ts : List Addr, H t = some (.tup (ts.map V.ref)) ∧ ts.length = W.length ∧ ∀ (q : Nat) (row : List Nat), W[q]? = some row → ∃ b, atI (ts.map V.ref) (q : Int) = some (.ref b) ∧ H b = some (.tup (row.map vn)) := by
  obtain ⟨ts, h1, h2, h3⟩ := h
  refine ⟨ts, h1, h2, fun q row e => ?_⟩
  have hq : q < ts.length := by rw [h2]; exact (List.getElem?_eq_some_iff.mp e).1
  exact ⟨ts[q], atI_nat (by rw [List.getElem?_map, List.getElem?_eq_getElem hq]; rfl), h3 q _ row (List.getElem?_eq_getElem hq) e⟩
theorem WebAt.kept {H H' : Hp} {t : Addr} {W : Rows} (h : WebAt H t W) (g : Same H H') : WebAt H' t W := by
  obtain ⟨ts, h1, h2, h3⟩ := h
  exact ⟨ts, g _ _ h1, h2, fun j a row e1 e2 => g _ _ (h3 j a row e1 e2)⟩
theorem PotAt.rows {H H' : Hp} {a r : Addr} {A : List Addr} (h : PotAt H a) (h1 : a ≠ r) (h2 : a ∉ A) (b : ButRows r A H H') : PotAt H' a := by
  obtain ⟨x, y, e, z⟩ := h
  exact ⟨x, y, b _ _ h1 h2 e, z⟩
def spNames : Sp := fun vs H Q _ => ∃ (a : Addr) (n : Nat), vs = [.ref a, vn n] ∧ PotAt H a ∧ n ≤ 150 ∧
  ∀ (l : Addr) (ns : List Nat) (H' : Hp), SameBut a H H' → PotAt H' a → H l = none → l ≠ a → H' l = some (.lst (ns.map vn)) → ns.Perm (List.range n) → Q (.ref l) H'
theorem perm_ins {ns : List Nat} {i d : Nat} (h : ns.Perm (List.range i)) : (ns.take d ++ i :: ns.drop d).Perm (List.range (i + 1)) := by
  rw [List.range_succ]
  have e : (ns.take d ++ i :: ns.drop d).Perm (i :: ns) := by
    have := List.perm_middle (a := i) (l₁ := ns.take d) (l₂ := ns.drop d)
    rw [List.take_append_drop] at this
    exact this
  exact e.trans ((List.Perm.cons i h).trans (List.perm_append_singleton i _).symm)
theorem ok_law_names {f : Addr} {fd : FuncData} (F : Fun K "_law_names" "_law_names" s_law_names f fd) (h_law_digit : Own.Has P w K mg base "_law_digit" ["_law_pot_here", "_law_many"] 1 (spDigit)) (z_range : mg "range" = none) : FnOk P w K mg base CX0 2 f fd ["_law_pot_here", "_law_n"] (spNames) := by
  refine F.ok sc_law_names (fun vs H Q E h => ?_) (fun cdv A outer s H vs Q E hr h => ?_)
  · obtain ⟨a, n, rfl, _⟩ := h
    rfl
  obtain ⟨a, n, rfl, ha, hn, k⟩ := h
  refine ⟨_, (pss_cons (ps_set (i := 2) sc_law_names.nd rfl (Or.inl rfl) (pe_lst pa_nil))
      (pss_cons (ps_for PassesOwn.never rfl (pi_range1 rfl z_range (pa_cons (pv 1) pa_nil)) (pg_name (i := 3) sc_law_names.nd rfl (Or.inl rfl)) (pss_one (ps_expr (pe_bm PySem.F.plainAttrs_list PySem.F.slot_list_insert PySem.F.type_list_insert mt_insert (pv 2) (pa_cons (Own.pe_has h_law_digit (hr.mono (by decide)) rfl (pa_cons (pv 0) (pa_cons (pe_op op_add (pv 3) pe_int) pa_nil))) (pa_cons (pv 3) pa_nil))))))
      (pss_one (ps_ret (pv 2))))), ?_⟩
  refine ⟨(by show 0 ≤ sizeLine; decide), fun l nl => ?_⟩
  have la : l ≠ a := by
    obtain ⟨x, y, z, _⟩ := ha
    exact (ne_of_none z nl).symm
  have g0 := same_new nl (.lst [])
  refine ⟨_, rfl, (n : Int), rfl, by omega, by omega, for_range (lo := 0) (n := (n : Int).toNat) (fun i σ H2 => ∃ (x : Option V) (ns : List Nat), σ = [some (.ref a), some (vn n), some (.ref l), x] ∧ H2 l = some (.lst (ns.map vn)) ∧ ns.Perm (List.range i) ∧ SameBut a H H2 ∧ PotAt H2 a)
    ⟨none, [], rfl, upd_same, .nil, .of g0, ha.kept g0⟩ ?_ ?_⟩
  · rintro i σ H2 hi ⟨x, ns, rfl, hl, hp, s2, p2⟩
    have ln : ns.length = i := by rw [hp.length_eq, List.length_range]
    refine ⟨_, rfl, .inl ⟨rfl, _, SqL.of hl⟩, _, rfl, _, rfl, _, _, rfl, rfl, a, _, rfl, p2, (by omega), lit9 (Nat.lt_of_le_of_lt (m := 151) (by omega) (by decide)), fun d H3 d0 d1 s3 p3 => ?_⟩
    have hl3 := s3 _ _ la hl
    refine ⟨_, rfl, l, _, _, _, rfl, rfl, hl3, d0, (by omega), (by rw [List.length_map, ln]; exact small1000 (by omega)), ?_⟩
    refine ⟨_, ns.take d.toNat ++ i :: ns.drop d.toNat, rfl, ?_, perm_ins hp, (fun b o nb e => ?_), p3.other la.symm⟩
    · rw [List.map_append, List.map_take, List.map_cons, List.map_drop, show vn i = V.int (0 + (i : Int)) by rw [Int.zero_add]; rfl]
      exact upd_same
    · rw [upd_ne (ne_of_none e nl)]
      exact s3 b o nb (s2 b o nb e)
  · rintro σ H2 ⟨x, ns, rfl, hl, hp, s2, p2⟩
    exact ⟨_, rfl, k l ns H2 s2 p2 nl la hl hp⟩
theorem cut_from (xs : List V) {k : Nat} (h : k ≤ xs.length) : cutV xs (some (k : Int)) none = xs.drop k := by
  unfold cutV
  rw [HT.sIx_none, HT.sIx_nat, Nat.min_eq_left h, List.take_of_length_le]
  rw [List.length_drop]
  exact Nat.le_refl _
theorem cut_to (xs : List V) {k : Nat} (h : k ≤ xs.length) : cutV xs none (some (k : Int)) = xs.take k := by
  unfold cutV
  rw [HT.sIx_none, HT.sIx_nat, Nat.min_eq_left h, List.drop_zero, Nat.sub_zero]
def Named (L : Rows) (ns : List Nat) (W : Rows) (p : Nat) : Prop := ∀ row, L[p]? = some row → ∃ n M, ns[p]? = some n ∧ M ∈ row.map (fun q => ns.getD q 0) ∧ (∀ i ∈ row.map (fun q => ns.getD q 0), M ≤ i) ∧ W[n]? = some (rot (row.map fun q => ns.getD q 0) M)
def spWeb : Sp := fun vs H Q _ => ∃ (r l : Addr) (A : List Addr) (L : Rows) (ns : List Nat), vs = [.ref r, .ref l] ∧ RowsAt H r A L ∧ H l = some (.lst (ns.map vn)) ∧ ns.Perm (List.range L.length) ∧ Some' L ∧ (∀ (p : Nat) (row : List Nat), L[p]? = some row → ∀ x ∈ row, x < L.length) ∧
  ∀ (t : Addr) (W : Rows) (H' : Hp), Same H H' → WebAt H' t W → W.length = L.length → (∀ p, p < L.length → Named L ns W p) → Q (.ref t) H'
theorem ixN_nat {n j : Nat} (h : j < n) : ixN n (j : Int) = some j := by
  unfold ixN
  rw [if_pos (by omega), if_pos (by omega), Int.toNat_natCast]
theorem same_at {H H1 : Hp} {D : Addr} {o : HO} (n : H D = none) (g : Same H H1) : Same H (upd H1 D o) := fun b u e => by
  rw [upd_ne (ne_of_none e n)]
  exact g b u e
theorem rep_flat (n : Nat) (e : Addr) : (List.replicate n [V.ref e]).flatten = (List.replicate n e).map V.ref := by
  induction n with
  | zero => rfl
  | succ n ih => rw [List.replicate_succ, List.replicate_succ, List.flatten_cons, ih]; rfl
end
section
variable {P : Program} {w : World} {K : PySem.W.Frag} {mg : Str → Option Value} {base : Heap}
end
section
variable {P : Program} {w : World} {K : PySem.W.Frag} {mg : Str → Option Value} {base : Heap}
theorem inV_vn' (s : Nat) (row : List Nat) : inV (vn s) (row.map vn) = decide (s ∈ row) := by
  unfold inV
  rw [Bool.eq_iff_iff, List.any_eq_true, decide_eq_true_iff]
  constructor
  · rintro ⟨y, hy, e⟩
    obtain ⟨n, hn, rfl⟩ := List.mem_map.mp hy
    have : (n : Int) = s := by simpa [eqV, vn] using e
    rw [show s = n by omega]
    exact hn
  · intro h
    exact ⟨vn s, List.mem_map.mpr ⟨s, h, rfl⟩, by simp [eqV, vn]⟩
theorem flat_vn' (row : List Nat) : (row.map vn).all flatV = true := by
  rw [List.all_eq_true]
  intro y hy
  obtain ⟨n, hn, rfl⟩ := List.mem_map.mp hy
  rfl
def spBehindW : Sp := fun vs H Q _ => ∃ (t z : Addr) (W : Rows) (p q : Nat), vs = [.ref t, .ref z] ∧ WebAt H t W ∧ H z = some (.tup [vn p, vn q]) ∧ Nb W ∧ E W p q ∧
  ∀ (y : Addr) (H' : Hp), Same H H' → H y = none → H' y = some (.tup [vn (nxt W (p, q)).1, vn (nxt W (p, q)).2]) → Q (.ref y) H'
theorem r_prev' {W : Rows} (S : Nb W) {q v p : Nat} (h : R W q v p) : ∃ row, W[q]? = some row ∧ p ∈ row ∧ prevB row p = some v := by
  obtain ⟨row, e, n⟩ := h
  exact ⟨row, e, (nx_mem n).2, prev_of (S.nd _ _ e) n⟩
theorem ok_behind {f : Addr} {fd : FuncData} (F : Fun K "behind" "behind" s_behind f fd) : FnOk P w K mg base CX0 1 f fd ["web", "step"] (spBehindW) := by
  refine F.ok sc_behind (fun vs H Q E h => ?_) (fun cdv A outer s H vs Q E hr h => ?_)
  · obtain ⟨t, z, W, p, q, rfl, _⟩ := h
    rfl
  obtain ⟨t, z, W, p, q, rfl, hW, hz, S, hE, k⟩ := h
  refine ⟨_, (pss_cons (ps_asg (pv 1) (pg_tup rfl (pgs_cons (pg_name (i := 2) sc_behind.nd rfl (Or.inl rfl)) (pgs_cons (pg_name (i := 3) sc_behind.nd rfl (Or.inl rfl)) pgs_nil))))
      (pss_cons (ps_set (i := 4) sc_behind.nd rfl (Or.inl rfl) (pe_ix ix_tup (pv 0) (pv 3) (fun _ _ => rfl)))
      (pss_one (ps_ret (pe_tup (pa_cons (pv 3) (pa_cons (pe_ix ix_tup (pv 4) (pe_op op_sub (pe_bm PySem.F.plainAttrs_tuple PySem.F.slot_tuple_index PySem.F.type_tuple_index mt_indexT (pv 4) (pa_cons (pv 2) pa_nil)) pe_int) (fun _ _ => rfl)) pa_nil))))))), ?_⟩
  obtain ⟨v, rv, en, _⟩ := step_r S hE
  obtain ⟨row, hq, hp, hv⟩ := r_prev' S rv
  obtain ⟨ts, h1, _, h3⟩ := hW.at
  obtain ⟨b, e1, e2⟩ := h3 q row hq
  rw [en] at k
  refine ⟨_, rfl, z, _, rfl, SqT.of hz, rfl, _, _, rfl, _, _, rfl, rfl, ?_⟩
  refine ⟨_, rfl, _, rfl, t, _, _, _, rfl, rfl, SqT.of h1, e1, ?_⟩
  refine ⟨_, rfl, _, rfl, _, rfl, .inr (.inl ⟨rfl, .inr ⟨_, e2⟩⟩), _, rfl, b, row.map ci, p, row.idxOf p, rfl, rfl, SqT.of (by rw [e2, vn_map]), firstAt_nat hp, _, _, rfl, rfl, b, _, _, _, rfl, rfl, SqT.of e2, at_prev hp hv, (by show 2 ≤ sizeLine; decide), fun y ny => ?_⟩
  exact k y _ (same_new ny _) ny upd_same
def prD (x y : Nat) : PyData := .tuple [.int (x : Int), .int (y : Int)]
theorem prD_shaped (x y : Nat) : SeqAt.shaped (prD x y) = true := by
  first | rfl | simp [prD, SeqAt.shaped, PyData.canLay0, PyData.canLayAll0, PyData.depth, PyData.depthAll]
theorem prD_eqv (x y u v : Nat) : PyData.eqv (prD x y) (prD u v) = decide (x = u ∧ y = v) := by
  have e : ∀ i j : Nat, ((i : Int) == (j : Int)) = decide (i = j) := fun i j => by
    rw [Bool.eq_iff_iff, beq_iff_eq, decide_eq_true_iff]
    omega
  simp [prD, PyData.eqv, PyData.eqvAll, e]
theorem dt_pr {K : PySem.W.Frag} {H : Hp} {z : Addr} {x y : Nat} (h : H z = some (.tup [vn x, vn y])) : Dt K H (prD x y) (.ref z) := by
  unfold prD Dt
  exact ⟨z, _, rfl, SqT.of h, by simp only [DtAll, Dt]; exact ⟨_, _, rfl, rfl, _, _, rfl, rfl, rfl⟩⟩
def PairsAt (H : Hp) (s : Addr) (T : List (Nat × Nat)) : Prop := ∃ ss : List Addr, H s = some (.lst (ss.map V.ref)) ∧ ss.length = T.length ∧ ∀ (i : Nat) (b : Addr) (t : Nat × Nat), ss[i]? = some b → T[i]? = some t → H b = some (.tup [vn t.1, vn t.2])
theorem PairsAt.kept {H H' : Hp} {s : Addr} {T : List (Nat × Nat)} (h : PairsAt H s T) (g : Same H H') : PairsAt H' s T := by
  obtain ⟨ss, h1, h2, h3⟩ := h
  exact ⟨ss, g _ _ h1, h2, fun i b t e1 e2 => g _ _ (h3 i b t e1 e2)⟩
theorem PairsAt.app {H H' : Hp} {s b : Addr} {ss : List Addr} {T : List (Nat × Nat)} {t : Nat × Nat} (h1 : H s = some (.lst (ss.map V.ref))) (h2 : ss.length = T.length) (h3 : ∀ (i : Nat) (b : Addr) (t : Nat × Nat), ss[i]? = some b → T[i]? = some t → H b = some (.tup [vn t.1, vn t.2])) (hb : H b = some (.tup [vn t.1, vn t.2])) :
    PairsAt (upd H s (.lst (ss.map V.ref ++ [.ref b]))) s (T ++ [t]) := by
  refine ⟨ss ++ [b], by rw [List.map_append]; exact upd_same, by simp [h2], fun i c u e1 e2 => ?_⟩
  have cs : c ≠ s → upd H s (.lst (ss.map V.ref ++ [.ref b])) c = H c := fun z => upd_ne z
  by_cases hl : i < ss.length
  · rw [List.getElem?_append_left hl] at e1
    rw [List.getElem?_append_left (by omega)] at e2
    have := h3 i c u e1 e2
    rw [cs (ne_of this h1 (by simp))]
    exact this
  · have : i = ss.length := by
      have := (List.getElem?_eq_some_iff.mp e1).1
      simp at this
      omega
    subst this
    rw [List.getElem?_concat_length] at e1
    rw [h2, List.getElem?_concat_length] at e2
    cases e1
    cases e2
    rw [cs (ne_of hb h1 (by simp))]
    exact hb
def orb (W : Rows) (p q k : Nat) : List (Nat × Nat) := (List.range k).map fun i => it (nxt W) i (p, q)
theorem orb_succ (W : Rows) (p q k : Nat) : orb W p q (k + 1) = orb W p q k ++ [it (nxt W) k (p, q)] := by
  unfold orb
  rw [List.range_succ, List.map_append]
  rfl
theorem orb_len (W : Rows) (p q k : Nat) : (orb W p q k).length = k := by simp [orb]
structure Turns (W : Rows) (p q k : Nat) : Prop where
  pos : 0 < k
  back : it (nxt W) k (p, q) = (p, q)
  first : ∀ j, 0 < j → j < k → it (nxt W) j (p, q) ≠ (p, q)
  few : k ≤ (stepsL W).length
theorem turns_ex {W : Rows} (S : Nb W) {p q : Nat} (h : E W p q) : ∃ k, Turns W p q k := by
  obtain ⟨k, h1, h2, h3, h4⟩ := (nxt_perm S.nd S.sym).comes (mem_steps.mpr h)
  exact ⟨k, h1, h3, h4, h2⟩
theorem steps_le {W : Rows} (S : Nb W) (h : W.length ≤ 42) : (stepsL W).length ≤ 1764 := by
  rw [steps_len_aux]
  have : ∀ (L : List (List Nat)) (n : Nat), (∀ r ∈ L, r.length ≤ n) → (L.map List.length).sum ≤ L.length * n := fun L n hL => by
    induction L with
    | nil => simp
    | cons r L ih =>
      have h1 := hL r (by simp)
      have h2 := ih fun r hr => hL r (by simp [hr])
      simp only [List.map_cons, List.sum_cons, List.length_cons, Nat.add_mul, Nat.one_mul]
      omega
  have h1 := this W W.length fun r hr => by
    obtain ⟨i, hi, rfl⟩ := List.mem_iff_getElem.mp hr
    exact S.len (List.getElem?_eq_getElem hi)
  have h2 : W.length * W.length ≤ 42 * 42 := Nat.mul_le_mul h h
  omega
def spRoundG : Sp := fun vs H Q _ => ∃ (w z : Addr) (W : Rows) (p q : Nat), vs = [.ref w, .ref z] ∧ WebAt H w W ∧ Nb W ∧ W.length ≤ 42 ∧ H z = some (.tup [vn p, vn q]) ∧ E W p q ∧
  ∀ (s : Addr) (k : Nat) (H' : Hp), Same H H' → Turns W p q k → PairsAt H' s (orb W p q k) → Q (.ref s) H'
def lO : Option HO → Nat
  | some (.lst xs) => xs.length
  | some (.dK kvs) => kvs.length
  | _ => 0
def lenAt (K0 : Nat) (σ : St) (H : Hp) : Nat := match σ with
  | [_, _, some (.ref s), _] => K0 - lO (H s)
  | _ => 0
theorem ok_steps_round {f : Addr} {fd : FuncData} (F : Fun K "steps_round" "steps_round" s_steps_round f fd) (h_behind : Own.Has P w K mg base "behind" ["web", "step"] 1 (spBehindW)) : FnOk P w K mg base CX0 2 f fd ["web", "step"] (spRoundG) := by
  refine F.ok sc_steps_round (fun vs H Q E h => ?_) (fun cdv A outer s0 H vs Q E hr h => ?_)
  · obtain ⟨w, z, W, p, q, rfl, _⟩ := h
    rfl
  obtain ⟨w, z, W, p, q, rfl, hW, S, h30, hz, hE, k⟩ := h
  refine ⟨_, (pss_cons (ps_set (i := 2) sc_steps_round.nd rfl (Or.inl rfl) (pe_lst (pa_cons (pv 1) pa_nil)))
      (pss_cons (ps_set (i := 3) sc_steps_round.nd rfl (Or.inl rfl) (Own.pe_has h_behind (hr.mono (by decide)) rfl (pa_cons (pv 0) (pa_cons (pv 1) pa_nil))))
      (pss_cons (ps_while PassesOwn.never (pt_cmpR (op_neD hr.units) (pv 3) (pv 1) (nomark _)) (pss_cons (ps_expr (pe_bm PySem.F.plainAttrs_list PySem.F.slot_list_append PySem.F.type_list_append mt_append (pv 2) (pa_cons (pv 3) pa_nil)))
      (pss_one (ps_set (i := 3) sc_steps_round.nd rfl (Or.inl rfl) (Own.pe_has h_behind (hr.mono (by decide)) rfl (pa_cons (pv 0) (pa_cons (pv 3) pa_nil)))))))
      (pss_one (ps_ret (pv 2)))))), ?_⟩
  obtain ⟨n, T⟩ := turns_ex S hE
  have few := steps_le S h30
  have n9 := T.few
  refine ⟨_, rfl, (by show 1 ≤ sizeLine; decide), fun s ns => ?_⟩
  have gs := same_new ns (.lst [.ref z])
  refine ⟨_, rfl, _, rfl, w, z, W, p, q, rfl, hW.kept gs, gs _ _ hz, S, hE, fun y H1 g1 ny hy => ?_⟩
  have hs1 := g1 _ _ (upd_same (H := H) (a := s) (o := .lst [.ref z]))
  have g01 := gs.trans g1
  refine while_by (fun σ H2 => ∃ (y : Addr) (i : Nat) (ss : List Addr), σ = [some (.ref w), some (.ref z), some (.ref s), some (.ref y)] ∧ Same H H2 ∧ 0 < i ∧ i ≤ n ∧
      H2 s = some (.lst (ss.map V.ref)) ∧ ss.length = i ∧ (∀ (j : Nat) (b : Addr) (t : Nat × Nat), ss[j]? = some b → (orb W p q i)[j]? = some t → H2 b = some (.tup [vn t.1, vn t.2])) ∧ H2 y = some (.tup [vn (it (nxt W) i (p, q)).1, vn (it (nxt W) i (p, q)).2])) (lenAt (n + 1))
    ⟨y, 1, [z], rfl, g01, by omega, T.pos, hs1, rfl, (fun j b t e1 e2 => ?_), hy⟩ ?_ ?_
  · match j, e1 with
    | 0, e1 =>
      cases e1
      have : t = (p, q) := by
        have : (orb W p q 1)[0]? = some (p, q) := rfl
        rw [this] at e2
        exact (Option.some.inj e2).symm
      rw [this]
      exact g01 _ _ hz
  · rintro σ H2 ⟨y, i, ss, rfl, g2, i0, i1, hs, ls, hss, hy⟩
    have hz2 := g2 _ _ hz
    refine ⟨_, rfl, _, rfl, _, prD p q, dt_pr hy, dt_pr hz2, prD_shaped _ _, prD_shaped _ _, _, rfl, ?_⟩
    rw [prD_eqv]
    by_cases c : it (nxt W) i (p, q) = (p, q)
    · rw [decide_eq_true (by rw [c]; exact ⟨rfl, rfl⟩)]
      have : i = n := by
        rcases Nat.lt_or_ge i n with l | l
        · exact absurd c (T.first i i0 l)
        · omega
      subst this
      exact ⟨_, rfl, k s i H2 g2 T ⟨ss, hs, by rw [orb_len]; exact ls, hss⟩⟩
    · rw [decide_eq_false (fun z => c (Prod.ext z.1 z.2))]
      have lt : i < n := by
        rcases Nat.lt_or_ge i n with l | l
        · exact l
        · exact absurd (by rw [show i = n by omega]; exact T.back) c
      refine ⟨_, rfl, .inl ⟨rfl, _, SqL.of hs⟩, _, rfl, s, _, _, rfl, rfl, hs, (by rw [List.length_map]; exact small20k (by omega)), ?_⟩
      have A1 := PairsAt.app (H' := H2) hs (by rw [orb_len]; exact ls) hss (t := it (nxt W) i (p, q)) hy
      rw [← orb_succ] at A1
      have gu : Same H (upd H2 s (.lst (ss.map V.ref ++ [V.ref y]))) := same_at ns g2
      have sy : y ≠ s := ne_of hy hs (by simp)
      have hyu : upd H2 s (.lst (ss.map V.ref ++ [V.ref y])) y = some (.tup [vn (it (nxt W) i (p, q)).1, vn (it (nxt W) i (p, q)).2]) := by rw [upd_ne sy]; exact hy
      generalize upd H2 s (.lst (ss.map V.ref ++ [V.ref y])) = H3 at *
      refine ⟨_, rfl, _, rfl, w, y, W, _, _, rfl, hW.kept gu, hyu, S, it_step S hE i, fun y' H4 g4 ny' hy' => ?_⟩
      obtain ⟨ss', b1, b2, b3⟩ := A1.kept g4
      rw [orb_len] at b2
      refine ⟨⟨y', i + 1, ss', rfl, gu.trans g4, by omega, lt, b1, b2, b3, hy'⟩, ?_⟩
      show n + 1 - lO (H4 s) < n + 1 - lO (H2 s)
      rw [b1, hs]
      show n + 1 - (ss'.map V.ref).length < n + 1 - (ss.map V.ref).length
      rw [List.length_map, List.length_map, b2, ls]
      clear hss b3 few
      omega
  · rintro σ H1 Q1 Q2 m ⟨v, e1, v2, e2, d, e, h1, h2, h3, h4, kk, e5, q1⟩
    exact ⟨v, e1, v2, e2, d, e, h1, h2, h3, h4, kk, e5, m _ _ q1⟩
end
section
variable {P : Program} {w : World} {K : PySem.W.Frag} {mg : Str → Option Value} {base : Heap}
end
section
variable {P : Program} {w : World} {K : PySem.W.Frag} {mg : Str → Option Value} {base : Heap}
end
section
variable {P : Program} {w : World} {K : PySem.W.Frag} {mg : Str → Option Value} {base : Heap}
end
section
variable {P : Program} {w : World} {K : PySem.W.Frag} {mg : Str → Option Value} {base : Heap}
theorem copy_rows (k : Bool) {H : Hp} {r D : Addr} {A1 : List Addr} {L : Rows} {N0 : St → Hp → Prop} (src : if k then H r = some (.lst (A1.map V.ref)) else H r = some (.tup (A1.map V.ref))) (len : A1.length = L.length) (few : L.length ≤ 150)
    (row : ∀ (j : Nat) (a : Addr) (row : List Nat), A1[j]? = some a → L[j]? = some row → H a = some (.lst (row.map vn)) ∨ H a = some (.tup (row.map vn))) (nD : H D = none)
    (fin : ∀ σ H5 B, RowsAt H5 D B L → (∀ b ∈ B, H b = none) → Same H H5 → N0 σ H5) :
    tWalk (if k then Itl K r else Itt K r) (gName 0) (bApp D (tCB (fun xs H Q => ∃ p ys, xs = [V.ref p] ∧ (SqL K H p ys ∨ SqT K H p ys) ∧ ∀ l, H l = none → Q (V.ref l) (upd H l (.lst ys))) (tCons (tVar 0) tNil))) N0 [none] (upd H D (.lst [])) := by
  have turn : ∀ (j : Nat) (x : V) (σ : St) (H5 : Hp), (A1.map V.ref)[j]? = some x → (∃ (x : Option V) (B : List Addr), σ = [x] ∧ H5 D = some (.lst (B.map V.ref)) ∧ B.length = j ∧ B.Nodup ∧ D ∉ B ∧ (∀ (m : Nat) (b : Addr) (row : List Nat), B[m]? = some b → L[m]? = some row → H5 b = some (.lst (row.map vn))) ∧ (∀ b ∈ B, (∃ o, H5 b = some o) ∧ H b = none) ∧ Same H H5) →
      gName 0 x σ H5 fun σ2 H2 => (bApp D (tCB (fun xs H Q => ∃ p ys, xs = [V.ref p] ∧ (SqL K H p ys ∨ SqT K H p ys) ∧ ∀ l, H l = none → Q (V.ref l) (upd H l (.lst ys))) (tCons (tVar 0) tNil))) (fun σ H5 => ∃ (x : Option V) (B : List Addr), σ = [x] ∧ H5 D = some (.lst (B.map V.ref)) ∧ B.length = j + 1 ∧ B.Nodup ∧ D ∉ B ∧ (∀ (m : Nat) (b : Addr) (row : List Nat), B[m]? = some b → L[m]? = some row → H5 b = some (.lst (row.map vn))) ∧ (∀ b ∈ B, (∃ o, H5 b = some o) ∧ H b = none) ∧ Same H H5) σ2 H2 := by
    rintro j x σ H5 hx ⟨y, B, rfl, hD, lB, nB, DB, hB, tB, g5⟩
    rw [List.getElem?_map] at hx
    obtain ⟨b0, eb, rfl⟩ := Option.map_eq_some_iff.mp hx
    have hj : j < L.length := by rw [← len]; exact (List.getElem?_eq_some_iff.mp eb).1
    have hrow := List.getElem?_eq_getElem hj
    have src0 : SqL K H5 b0 (L[j].map vn) ∨ SqT K H5 b0 (L[j].map vn) := by
      rcases row j b0 _ eb hrow with z | z
      · exact .inl (SqL.of (g5 _ _ z))
      · exact .inr (SqT.of (g5 _ _ z))
    refine ⟨_, rfl, b0, _, rfl, src0, fun b nb => ?_⟩
    have gb := same_new nb (.lst (L[j].map vn))
    have hD' := gb _ _ hD
    have bD : b ≠ D := (ne_of_none hD nb).symm
    refine ⟨_, hD', (by rw [List.length_map, lB]; exact small1000 (by omega)), ?_⟩
    refine ⟨_, B ++ [b], rfl, (by rw [List.map_append]; exact upd_same), (by rw [List.length_append, lB]; rfl), ?_, ?_, (fun m c row e1 e2 => ?_), (fun c hc => ?_), same_at nD (g5.trans gb)⟩
    · rw [List.nodup_append]
      refine ⟨nB, by simp, fun c hc c' hc' => ?_⟩
      rw [List.mem_singleton.mp hc']
      obtain ⟨⟨o, eo⟩, _⟩ := tB c hc
      exact ne_of_none eo nb
    · intro z
      rcases List.mem_append.mp z with w | w
      · exact DB w
      · exact bD (List.mem_singleton.mp w).symm
    · have cD : c ≠ D := fun z => by
        have := List.mem_of_getElem? e1
        rw [z] at this
        rcases List.mem_append.mp this with w | w
        · exact DB w
        · exact bD (List.mem_singleton.mp w).symm
      rw [upd_ne cD]
      by_cases cm : m < B.length
      · rw [List.getElem?_append_left cm] at e1
        exact gb _ _ (hB m c row e1 e2)
      · have em : m = B.length := by
          have := (List.getElem?_eq_some_iff.mp e1).1
          rw [List.length_append, List.length_singleton] at this
          omega
        subst em
        rw [List.getElem?_concat_length] at e1
        cases e1
        rw [lB, hrow] at e2
        cases e2
        exact upd_same
    · rcases List.mem_append.mp hc with w | w
      · obtain ⟨⟨o, eo⟩, n4⟩ := tB c w
        have cD : c ≠ D := fun z => DB (z ▸ w)
        exact ⟨⟨o, by rw [upd_ne cD]; exact gb _ _ eo⟩, n4⟩
      · rw [List.mem_singleton.mp w]
        exact ⟨⟨_, by rw [upd_ne bD]; exact upd_same⟩, g5.free nb⟩
  have done : ∀ (σ : St) (H5 : Hp), (∃ (x : Option V) (B : List Addr), σ = [x] ∧ H5 D = some (.lst (B.map V.ref)) ∧ B.length = (A1.map V.ref).length ∧ B.Nodup ∧ D ∉ B ∧ (∀ (m : Nat) (b : Addr) (row : List Nat), B[m]? = some b → L[m]? = some row → H5 b = some (.lst (row.map vn))) ∧ (∀ b ∈ B, (∃ o, H5 b = some o) ∧ H b = none) ∧ Same H H5) → N0 σ H5 := by
    rintro σ H5 ⟨y, B, rfl, hD, lB, nB, DB, hB, tB, g5⟩
    exact fin _ H5 B ⟨hD, by rw [lB, List.length_map]; exact len, nB, DB, hB⟩ (fun b hb => (tB b hb).2) g5
  cases k with
  | true =>
    have src : H r = some (.lst (A1.map V.ref)) := src
    show tWalk (Itl K r) _ _ _ _ _
    exact walk_list (xs := A1.map V.ref) (fun j σ H5 => ∃ (x : Option V) (B : List Addr), σ = [x] ∧ H5 D = some (.lst (B.map V.ref)) ∧ B.length = j ∧ B.Nodup ∧ D ∉ B ∧ (∀ (m : Nat) (b : Addr) (row : List Nat), B[m]? = some b → L[m]? = some row → H5 b = some (.lst (row.map vn))) ∧ (∀ b ∈ B, (∃ o, H5 b = some o) ∧ H b = none) ∧ Same H H5)
      ⟨none, [], rfl, upd_same, rfl, .nil, by simp, (fun m b row e => by simp at e), (fun b hb => by cases hb), same_new nD _⟩ (fun j σ H5 _ ⟨_, _, _, _, _, _, _, _, _, g5⟩ => SqL.of (g5 _ _ src)) turn done
  | false =>
    have src : H r = some (.tup (A1.map V.ref)) := src
    show tWalk (Itt K r) _ _ _ _ _
    exact walk_tup (xs := A1.map V.ref) (fun j σ H5 => ∃ (x : Option V) (B : List Addr), σ = [x] ∧ H5 D = some (.lst (B.map V.ref)) ∧ B.length = j ∧ B.Nodup ∧ D ∉ B ∧ (∀ (m : Nat) (b : Addr) (row : List Nat), B[m]? = some b → L[m]? = some row → H5 b = some (.lst (row.map vn))) ∧ (∀ b ∈ B, (∃ o, H5 b = some o) ∧ H b = none) ∧ Same H H5)
      ⟨none, [], rfl, upd_same, rfl, .nil, by simp, (fun m b row e => by simp at e), (fun b hb => by cases hb), same_new nD _⟩ (fun j σ H5 _ ⟨_, _, _, _, _, _, _, _, _, g5⟩ => SqT.of (g5 _ _ src)) turn done
end
section
variable {P : Program} {w : World} {K : PySem.W.Frag} {mg : Str → Option Value} {base : Heap}
def spWithout : Sp := fun vs H Q _ => ∃ (r : Addr) (L : Rows) (p q : Nat) (rp rq : List Nat), vs = [.ref r, vn p, vn q] ∧ ((∃ A, RowsAt H r A L) ∨ WebAt H r L) ∧ L.length ≤ 150 ∧ p ≠ q ∧ L[p]? = some rp ∧ L[q]? = some rq ∧ q ∈ rp ∧ p ∈ rq ∧
  ∀ (D : Addr) (B : List Addr) (H' : Hp), RowsAt H' D B (set2 L p q (eraB rp q) (eraB rq p)) → (∀ b ∈ B, H b = none) → H D = none → Same H H' → Q (.ref D) H'
theorem ok_law_without {f : Addr} {fd : FuncData} (F : Fun K "_law_without" "_law_without" s_law_without f fd) (z_list : mg "list" = none) : FnOk P w K mg base CX0 1 f fd ["_law_rows_here", "_law_p", "_law_q"] (spWithout) := by
  refine F.ok sc_law_without (fun vs H Q E h => ?_) (fun cdv A outer s0 H vs Q E hr h => ?_)
  · obtain ⟨r, L, p, q, rp, rq, rfl, _⟩ := h
    rfl
  obtain ⟨r, L, p, q, rp, rq, rfl, src, h150, pq, hp, hq, mp, mq, k⟩ := h
  rcases src with ⟨A1, X⟩ | hW
  · refine ⟨_, (pss_cons (ps_lc1x (i := 3) (Nc := ["_law_row"]) (js := [none]) rfl rfl sc_law_without.nd rfl (Or.inl rfl) (pi_list (pv 0)) (CS.of rfl rfl) rfl (fun C s₂ H₂ fp pins => (pg_name (i := 0) (show List.Nodup (α := Str) ["_law_row"] by decide +kernel) rfl (Or.inl rfl))) (fun C s₂ H₂ fp pins D L => (pt_tail0 (pb_app (pe_callTy (show CallR _ _ (fun xs H Q => ∃ p ys, xs = [.ref p] ∧ (SqL K H p ys ∨ SqT K H p ys) ∧ ∀ l, H l = none → Q (.ref l) (upd H l (.lst ys))) from call_list_of) rfl z_list PyProof.Rows.boot_list (pa_cons (pv 0) pa_nil))))))
      (pss_cons (ps_expr (pe_bm PySem.F.plainAttrs_list PySem.F.slot_list_remove PySem.F.type_list_remove mt_remove (pe_ix ix_list (pv 3) (pv 1) (fun _ _ => rfl)) (pa_cons (pv 2) pa_nil)))
      (pss_cons (ps_expr (pe_bm PySem.F.plainAttrs_list PySem.F.slot_list_remove PySem.F.type_list_remove mt_remove (pe_ix ix_list (pv 3) (pv 2) (fun _ _ => rfl)) (pa_cons (pv 1) pa_nil)))
      (pss_one (ps_ret (pv 3)))))), ?_⟩
    refine ⟨_, rfl, r, rfl, ⟨_, SqL.of X.top⟩, fun D nD => ?_⟩
    refine copy_rows true (A1 := A1) (L := L) X.top X.len h150 (fun j a row e1 e2 => .inl (X.row j a row e1 e2)) nD fun σ H5 B Y tB g5 => ?_
    obtain ⟨ap, e1p, e2p, e3p⟩ := Y.at hp
    refine ⟨_, rfl, _, rfl, D, _, _, _, rfl, rfl, SqL.of Y.top, e3p, .inl ⟨rfl, _, SqL.of e2p⟩, _, rfl, ap, rp.map ci, q, rp.idxOf q, rfl, rfl, (by rw [e2p, vn_map]), firstAt_nat mp, ?_⟩
    rw [era_vn]
    have Y1 := Y.set e1p (eraB rp q)
    have hq1 := setX (i := p) (r := eraB rp q) hq pq
    obtain ⟨aq, e1q, e2q, e3q⟩ := Y1.at hq1
    refine ⟨_, rfl, _, rfl, D, _, _, _, rfl, rfl, SqL.of Y1.top, e3q, .inl ⟨rfl, _, SqL.of e2q⟩, _, rfl, aq, rq.map ci, p, rq.idxOf p, rfl, rfl, (by rw [e2q, vn_map]), firstAt_nat mq, ?_⟩
    rw [era_vn]
    have Y2 := Y1.set e1q (eraB rq p)
    refine ⟨_, rfl, k D B _ Y2 tB nD fun b o e => ?_⟩
    have nb : b ∉ B := fun z => by rw [tB b z] at e; cases e
    rw [upd_ne (fun z => nb (by rw [z]; exact List.mem_of_getElem? e1q)), upd_ne (fun z => nb (by rw [z]; exact List.mem_of_getElem? e1p))]
    exact g5 b o e
  · refine ⟨_, (pss_cons (ps_lc1x (i := 3) (Nc := ["_law_row"]) (js := [none]) rfl rfl sc_law_without.nd rfl (Or.inl rfl) (pi_tup (pv 0)) (CS.of rfl rfl) rfl (fun C s₂ H₂ fp pins => (pg_name (i := 0) (show List.Nodup (α := Str) ["_law_row"] by decide +kernel) rfl (Or.inl rfl))) (fun C s₂ H₂ fp pins D L => (pt_tail0 (pb_app (pe_callTy (show CallR _ _ (fun xs H Q => ∃ p ys, xs = [.ref p] ∧ (SqL K H p ys ∨ SqT K H p ys) ∧ ∀ l, H l = none → Q (.ref l) (upd H l (.lst ys))) from call_list_of) rfl z_list PyProof.Rows.boot_list (pa_cons (pv 0) pa_nil))))))
      (pss_cons (ps_expr (pe_bm PySem.F.plainAttrs_list PySem.F.slot_list_remove PySem.F.type_list_remove mt_remove (pe_ix ix_list (pv 3) (pv 1) (fun _ _ => rfl)) (pa_cons (pv 2) pa_nil)))
      (pss_cons (ps_expr (pe_bm PySem.F.plainAttrs_list PySem.F.slot_list_remove PySem.F.type_list_remove mt_remove (pe_ix ix_list (pv 3) (pv 2) (fun _ _ => rfl)) (pa_cons (pv 1) pa_nil)))
      (pss_one (ps_ret (pv 3)))))), ?_⟩
    obtain ⟨ts, h1, lts, h3⟩ := hW
    refine ⟨_, rfl, r, rfl, ⟨_, SqT.of h1⟩, fun D nD => ?_⟩
    refine copy_rows false (A1 := ts) (L := L) h1 lts h150 (fun j a row e1 e2 => .inr (h3 j a row e1 e2)) nD fun σ H5 B Y tB g5 => ?_
    obtain ⟨ap, e1p, e2p, e3p⟩ := Y.at hp
    refine ⟨_, rfl, _, rfl, D, _, _, _, rfl, rfl, SqL.of Y.top, e3p, .inl ⟨rfl, _, SqL.of e2p⟩, _, rfl, ap, rp.map ci, q, rp.idxOf q, rfl, rfl, (by rw [e2p, vn_map]), firstAt_nat mp, ?_⟩
    rw [era_vn]
    have Y1 := Y.set e1p (eraB rp q)
    have hq1 := setX (i := p) (r := eraB rp q) hq pq
    obtain ⟨aq, e1q, e2q, e3q⟩ := Y1.at hq1
    refine ⟨_, rfl, _, rfl, D, _, _, _, rfl, rfl, SqL.of Y1.top, e3q, .inl ⟨rfl, _, SqL.of e2q⟩, _, rfl, aq, rq.map ci, p, rq.idxOf p, rfl, rfl, (by rw [e2q, vn_map]), firstAt_nat mq, ?_⟩
    rw [era_vn]
    have Y2 := Y1.set e1q (eraB rq p)
    refine ⟨_, rfl, k D B _ Y2 tB nD fun b o e => ?_⟩
    have nb : b ∉ B := fun z => by rw [tB b z] at e; cases e
    rw [upd_ne (fun z => nb (by rw [z]; exact List.mem_of_getElem? e1q)), upd_ne (fun z => nb (by rw [z]; exact List.mem_of_getElem? e1p))]
    exact g5 b o e
end
section
variable {P : Program} {w : World} {K : PySem.W.Frag} {mg : Str → Option Value} {base : Heap}
theorem cut_nb {L : Rows} (S : Nb L) {p q : Nat} {rp rq : List Nat} (hp : L[p]? = some rp) (hq : L[q]? = some rq) (pq : p ≠ q) (mq : q ∈ rp) (mp : p ∈ rq) : Nb (set2 L p q (eraB rp q) (eraB rq p)) := by
  have n1 := S.nd _ _ hp
  have n2 := S.nd _ _ hq
  exact set2_nb (c := False) S hp hq pq (out_iff (by rw [era_filter n1 mq]; exact .refl _)) (out_iff (by rw [era_filter n2 mp]; exact .refl _)) (eraB_nd mq n1) (eraB_nd mp n2)
end
section
variable {P : Program} {w : World} {K : PySem.W.Frag} {mg : Str → Option Value} {base : Heap}
end
section
variable {P : Program} {w : World} {K : PySem.W.Frag} {mg : Str → Option Value} {base : Heap}
theorem ok_law_web {f : Addr} {fd : FuncData} (F : Fun K "_law_web" "_law_web" s_law_web f fd) (z_len : mg "len" = none) (z_enumerate : mg "enumerate" = none) (z_min : mg "min" = none) (z_tuple : mg "tuple" = none) : FnOk P w K mg base CX0 1 f fd ["_law_rows_here", "_law_names_here"] (spWeb) := by
  refine F.ok sc_law_web (fun vs H Q E h => ?_) (fun cdv A outer s H vs Q E hr h => ?_)
  · obtain ⟨r, l, A, L, ns, rfl, _⟩ := h
    rfl
  obtain ⟨r, l, A1, L, ns, rfl, X, hl, hp, S, rng, k⟩ := h
  refine ⟨_, (pss_cons (ps_set (i := 2) sc_law_web.nd rfl (Or.inl rfl) (pe_op op_rep (pe_lst (pa_cons (pe_tup pa_nil) pa_nil)) (pe_callB call_len_seq rfl z_len PySem.boot_len (pa_cons (pv 0) pa_nil))))
      (pss_cons (ps_for PassesOwn.never rfl (pi_enum true rfl z_enumerate (pa_cons (pv 0) pa_nil)) (pg_tup rfl (pgs_cons (pg_name (i := 3) sc_law_web.nd rfl (Or.inl rfl)) (pgs_cons (pg_name (i := 4) sc_law_web.nd rfl (Or.inl rfl)) pgs_nil))) (pss_cons (ps_lc1x (i := 5) (Nc := ["_law_q", "_law_names_here"]) (js := [none, some 1]) rfl rfl sc_law_web.nd rfl (Or.inl rfl) (pi_list (pv 4)) (CS.of rfl rfl) rfl (fun C s₂ H₂ fp pins => (pg_name (i := 0) (show List.Nodup (α := Str) ["_law_q", "_law_names_here"] by decide +kernel) rfl (Or.inl rfl))) (fun C s₂ H₂ fp pins D L => (pt_tail0 (pb_app (pe_ix (show IxR _ (rIxL K) from ix_list) (pv 1) (pv 0) (fun _ _ => rfl))))))
      (pss_cons (ps_set (i := 6) sc_law_web.nd rfl (Or.inl rfl) (pe_bm PySem.F.plainAttrs_list PySem.F.slot_list_index PySem.F.type_list_index mt_index (pv 5) (pa_cons (pe_callB (call_minL rfl) rfl z_min PyProof.Rows.boot_min (pa_cons (pv 5) pa_nil)) pa_nil)))
      (pss_one (ps_asg (pe_callTy call_tuple_of rfl z_tuple PyProof.Rows.boot_tuple (pa_cons (pe_op op_cat (pe_slice sl_list (pv 5) (po_some (pv 6)) po_none) (pe_slice sl_list (pv 5) po_none (po_some (pv 6)))) pa_nil)) (pg_sub (pv 2) (pe_ix ix_list (pv 1) (pv 3) (fun _ _ => rfl)) set_list))))))
      (pss_one (ps_ret (pe_callTy call_tuple_of rfl z_tuple PyProof.Rows.boot_tuple (pa_cons (pv 2) pa_nil)))))), ?_⟩
  have lns : ns.length = L.length := by rw [hp.length_eq, List.length_range]
  have nsb : ∀ {j : Nat} {n : Nat}, ns[j]? = some n → n < L.length := fun {j n} e => List.mem_range.mp (hp.mem_iff.mp (List.mem_of_getElem? e))
  have nnd : ns.Nodup := hp.nodup_iff.mpr List.nodup_range
  have lA : ((A1.map V.ref).length : Int) = L.length := by rw [List.length_map, X.len]
  have L150 := S.le
  refine ⟨(by show 0 ≤ sizeLine; decide), fun e ne => ⟨(by show 1 ≤ sizeLine; decide), fun l1 n1 => ?_⟩⟩
  have g1 := (same_new ne (.tup [])).trans (same_new n1 (.lst [.ref e]))
  have he := (same_new n1 (.lst [.ref e])) _ _ (upd_same (H := H) (a := e) (o := .tup []))
  have hl1 := upd_same (H := upd H e (.tup [])) (a := l1) (o := .lst [.ref e])
  generalize upd (upd H e (.tup [])) l1 (.lst [.ref e]) = H1 at *
  refine ⟨_, rfl, r, _, rfl, .inl (SqL.of (g1 _ _ X.top)), l1, _, _, rfl, rfl, hl1, (by omega), (by omega), (by rw [lA]; exact Nat.le_of_lt (small1000 (by simp; omega))), fun f nf => ?_⟩
  rw [lA, Int.toNat_natCast, rep_flat]
  have gf := same_new nf (.lst ((List.replicate L.length e).map V.ref))
  have g2 := g1.trans gf
  have he2 := gf _ _ he
  have hf2 := upd_same (H := H1) (a := f) (o := .lst ((List.replicate L.length e).map V.ref))
  generalize upd H1 f (.lst ((List.replicate L.length e).map V.ref)) = H2 at *
  refine ⟨_, rfl, r, rfl, ⟨_, SqL.of (g2 _ _ X.top)⟩, for_enum (k := true) (xs := A1.map V.ref) (fun i σ H3 => ∃ (x3 x4 x5 x6 : Option V) (ts : List Addr) (W : Rows), σ = [some (.ref r), some (.ref l), some (.ref f), x3, x4, x5, x6] ∧ H3 f = some (.lst (ts.map V.ref)) ∧ ts.length = L.length ∧ W.length = L.length ∧
      (∀ (j : Nat) (a : Addr) (row : List Nat), ts[j]? = some a → W[j]? = some row → H3 a = some (.tup (row.map vn))) ∧ (∀ p, p < i → Named L ns W p) ∧ Same H H3 ∧ H f = none)
    ⟨none, none, none, none, List.replicate L.length e, List.replicate L.length [], rfl, hf2, List.length_replicate, List.length_replicate, (fun j a row e1 e2 => ?_), (fun p hp' => by omega), g2, g1.free nf⟩ ?_ ?_ ?_⟩
  · have a1 := (List.mem_replicate.mp (List.mem_of_getElem? e1)).2
    have a2 := (List.mem_replicate.mp (List.mem_of_getElem? e2)).2
    subst a1 a2
    exact he2
  · rintro i σ H3 _ ⟨x3, x4, x5, x6, ts, W, rfl, hf, lt, lW, hts, hW, g3, nf0⟩
    exact SqL.of (g3 _ _ X.top)
  · rintro i x T σ H3 hx nT ⟨x3, x4, x5, x6, ts, W, rfl, hf, lt, lW, hts, hW, g3, nf0⟩
    rw [List.getElem?_map] at hx
    obtain ⟨a, ea, rfl⟩ := Option.map_eq_some_iff.mp hx
    have hi : i < L.length := by rw [← X.len]; exact (List.getElem?_eq_some_iff.mp ea).1
    have hrow := List.getElem?_eq_getElem hi
    have har := X.row i a _ ea hrow
    obtain ⟨rne, rle⟩ := S.ne i _ hrow
    have rb := rng i _ hrow
    have gT := g3.trans (same_new nT (.tup [.int i, .ref a]))
    have hfT := (same_new nT (.tup [.int i, .ref a])) _ _ hf
    have htsT : ∀ (j : Nat) (b : Addr) (row : List Nat), ts[j]? = some b → W[j]? = some row → upd H3 T (.tup [.int i, .ref a]) b = some (.tup (row.map vn)) := fun j b row w1 w2 => (same_new nT (.tup [.int i, .ref a])) _ _ (hts j b row w1 w2)
    refine ⟨T, _, rfl, SqT.of upd_same, rfl, _, _, rfl, _, _, rfl, rfl, ?_⟩
    generalize upd H3 T (.tup [.int i, .ref a]) = H4 at *
    generalize hr0 : L[i] = row at *
    refine ⟨_, rfl, a, rfl, ⟨_, SqL.of (gT _ _ har)⟩, fun D nD => ?_⟩
    refine walk_list (xs := row.map vn) (fun j σ H5 => ∃ x : Option V, σ = [x, some (.ref l)] ∧ H5 D = some (.lst (((row.take j).map fun q => ns.getD q 0).map vn)) ∧ Same H4 H5) ⟨none, rfl, upd_same, same_new nD _⟩ ?_ ?_ ?_
    · rintro j σ H5 _ ⟨x, rfl, hD, g5⟩
      exact SqL.of (g5 _ _ (gT _ _ har))
    · rintro j x σ H5 hx ⟨y, rfl, hD, g5⟩
      rw [List.getElem?_map] at hx
      obtain ⟨q, eq, rfl⟩ := Option.map_eq_some_iff.mp hx
      have hj : j < row.length := (List.getElem?_eq_some_iff.mp eq).1
      have hq : q < ns.length := by rw [lns]; exact rb q (List.mem_of_getElem? eq)
      refine ⟨_, rfl, _, rfl, l, _, _, _, rfl, rfl, SqL.of (g5 _ _ (gT _ _ hl)), vn_at hq, _, hD, (by rw [List.length_map, List.length_map, List.length_take]; exact small1000 (by omega)), ?_⟩
      refine ⟨_, rfl, ?_, same_at nD g5⟩
      rw [List.take_succ, eq]
      simp only [Option.toList_some, List.map_append, List.map_cons, List.map_nil]
      rw [show ns.getD q 0 = ns[q] by simp [List.getD_eq_getElem?_getD, hq]]
      exact upd_same
    · rintro σ H5 ⟨x, rfl, hD, g5⟩
      rw [List.length_map, List.take_length] at hD
      generalize hc : (row.map fun q => ns.getD q 0) = cl at *
      have lcl : cl.length = row.length := by rw [← hc, List.length_map]
      have cpos : 0 < cl.length := by rw [lcl]; exact List.length_pos_iff.mpr rne
      refine ⟨_, rfl, .inl ⟨rfl, _, SqL.of hD⟩, _, rfl, D, cl.map ci, rfl, SqL.of (by rw [hD, vn_map]), (by rw [List.length_map]; exact cpos), fun M hM hle => ?_⟩
      obtain ⟨m, hm, rfl⟩ := List.mem_map.mp hM
      have mle : ∀ j ∈ cl, m ≤ j := fun j hj => by
        have := hle (ci j) (List.mem_map.mpr ⟨j, hj, rfl⟩)
        simp only [ci] at this
        omega
      have il := List.idxOf_lt_length_of_mem hm
      refine ⟨D, cl.map ci, m, cl.idxOf m, rfl, rfl, (by rw [hD, vn_map]), firstAt_nat hm, ?_⟩
      have lv : (cl.map vn).length = cl.length := List.length_map _
      refine ⟨_, rfl, _, rfl, _, rfl, D, _, rfl, SqL.of hD, fun p1 m1 => ?_⟩
      rw [cut_from _ (by rw [lv]; omega)]
      have h1 := same_new m1 (.lst ((cl.map vn).drop (cl.idxOf m)))
      refine ⟨_, rfl, _, rfl, _, rfl, D, _, rfl, SqL.of (h1 _ _ hD), fun p2 m2 => ?_⟩
      rw [cut_to _ (by rw [lv]; omega)]
      have h2 := same_new m2 (.lst ((cl.map vn).take (cl.idxOf m)))
      refine ⟨p1, p2, _, _, rfl, rfl, h2 _ _ upd_same, upd_same, (by rw [List.length_drop, List.length_take, lv]; exact Nat.le_of_lt (small1000 (by omega))), fun p3 m3 => ?_⟩
      have h3 := same_new m3 (.lst ((cl.map vn).drop (cl.idxOf m) ++ (cl.map vn).take (cl.idxOf m)))
      refine ⟨p3, _, rfl, .inl ⟨SqL.of upd_same, fun t m4 => ?_⟩⟩
      have h4 := same_new m4 (.tup ((cl.map vn).drop (cl.idxOf m) ++ (cl.map vn).take (cl.idxOf m)))
      have er : (cl.map vn).drop (cl.idxOf m) ++ (cl.map vn).take (cl.idxOf m) = (rot cl m).map vn := by unfold rot; rw [List.map_append, List.map_drop, List.map_take]
      have hh := h1.trans (h2.trans (h3.trans h4))
      have ht : upd (upd (upd (upd H5 p1 (.lst ((cl.map vn).drop (cl.idxOf m)))) p2 (.lst ((cl.map vn).take (cl.idxOf m)))) p3 (.lst ((cl.map vn).drop (cl.idxOf m) ++ (cl.map vn).take (cl.idxOf m)))) t (.tup ((cl.map vn).drop (cl.idxOf m) ++ (cl.map vn).take (cl.idxOf m))) t = some (.tup ((rot cl m).map vn)) := by rw [← er]; exact upd_same
      generalize upd (upd (upd (upd H5 p1 (.lst ((cl.map vn).drop (cl.idxOf m)))) p2 (.lst ((cl.map vn).take (cl.idxOf m)))) p3 (.lst ((cl.map vn).drop (cl.idxOf m) ++ (cl.map vn).take (cl.idxOf m)))) t (.tup ((cl.map vn).drop (cl.idxOf m) ++ (cl.map vn).take (cl.idxOf m))) = H6 at *
      have g6 := gT.trans (g5.trans hh)
      have hf6 := hh _ _ (g5 _ _ hfT)
      have hin : i < ns.length := by omega
      have hni := List.getElem?_eq_getElem hin
      have hnb := nsb hni
      refine ⟨_, rfl, _, rfl, _, rfl, l, _, _, _, rfl, rfl, SqL.of (g6 _ _ hl), vn_at hin, f, _, _, ns[i], rfl, rfl, hf6, ixN_nat (by rw [List.length_map, lt]; exact hnb), ?_⟩
      refine ⟨_, _, _, _, ts.set ns[i] t, W.set ns[i] (rot cl m), rfl, (by rw [List.map_set]; exact upd_same), (by rw [List.length_set]; exact lt), (by rw [List.length_set]; exact lW), (fun j b rw' e1 e2 => ?_), (fun p hp' => ?_), same_at nf0 g6, nf0⟩
      · have bt : b ≠ f → upd H6 f (.lst ((ts.map V.ref).set ns[i] (.ref t))) b = H6 b := fun z => upd_ne z
        by_cases ej : ns[i] = j
        · subst ej
          rw [List.getElem?_set_self (by omega)] at e1
          rw [List.getElem?_set_self (by omega)] at e2
          cases e1
          cases e2
          rw [bt (ne_of ht hf6 (by intro z; cases z))]
          exact ht
        · rw [List.getElem?_set_ne ej] at e1 e2
          have hb := hh _ _ (g5 _ _ (htsT j b rw' e1 e2))
          rw [bt (ne_of hb hf6 (by intro z; cases z))]
          exact hb
      · intro row' er'
        by_cases epi : p = i
        · subst epi
          have e0 := hrow.symm.trans er'
          cases e0
          refine ⟨ns[p], m, hni, (by rw [hc]; exact hm), (fun j hj => mle j (by rw [hc] at hj; exact hj)), ?_⟩
          rw [hc, List.getElem?_set_self (by omega)]
        · obtain ⟨n', M', w1, w2, w3, w4⟩ := hW p (by omega) row' er'
          refine ⟨n', M', w1, w2, w3, ?_⟩
          have : ns[i] ≠ n' := fun z => by
            have hpl := (List.getElem?_eq_some_iff.mp w1).1
            have := (List.getElem?_inj hpl nnd).mp (w1.trans (by rw [← z]; exact hni.symm))
            exact epi this
          rw [List.getElem?_set_ne this]
          exact w4
  · rintro σ H3 ⟨x3, x4, x5, x6, ts, W, rfl, hf, lt, lW, hts, hW, g3, nf0⟩
    rw [List.length_map, X.len] at hW
    refine ⟨_, rfl, f, _, rfl, .inl ⟨SqL.of hf, fun t nt => ?_⟩⟩
    have gt := same_new nt (.tup (ts.map V.ref))
    exact k t W _ (g3.trans gt) ⟨ts, upd_same, by omega, fun j b row w1 w2 => gt _ _ (hts j b row w1 w2)⟩ lW hW
theorem named_ren {L W : Rows} {ns : List Nat} (hp : ns.Perm (List.range L.length)) (hl : W.length = L.length) (h : ∀ p, p < L.length → Named L ns W p) : Ren L W ns := ⟨hp, hl, fun p row e => by
  obtain ⟨n, M, h1, _, _, h4⟩ := h p (List.getElem?_eq_some_iff.mp e).1 row e
  exact ⟨n, (row.map fun q => ns.getD q 0).take ((row.map fun q => ns.getD q 0).idxOf M), (row.map fun q => ns.getD q 0).drop ((row.map fun q => ns.getD q 0).idxOf M), h1, (List.take_append_drop _ _).symm, h4⟩⟩
end
section
variable {P : Program} {w : World} {K : PySem.W.Frag} {mg : Str → Option Value} {base : Heap}
theorem cut_mid (xs : List V) {b c : Nat} (h : b ≤ c) (h' : c ≤ xs.length) : cutV xs (some (b : Int)) (some (c : Int)) = (xs.drop b).take (c - b) := by
  unfold cutV
  rw [HT.sIx_nat, HT.sIx_nat, Nat.min_eq_left h', Nat.min_eq_left (Nat.le_trans h h')]
theorem RowsAt.same {H H' : Hp} {r : Addr} {A : List Addr} {L : Rows} (x : RowsAt H r A L) (g : Same H H') : RowsAt H' r A L := ⟨g _ _ x.top, x.len, x.nd, x.out, fun i a ns h1 h2 => g _ _ (x.row i a ns h1 h2)⟩
theorem RowsAt.mem {H : Hp} {r : Addr} {A : List Addr} {L : Rows} (x : RowsAt H r A L) {a : Addr} (h : a ∈ A) : ∃ o, H a = some o := by
  obtain ⟨i, hi, rfl⟩ := List.mem_iff_getElem.mp h
  have hi' : i < L.length := by rw [← x.len]; exact hi
  exact ⟨_, x.row i _ _ (List.getElem?_eq_getElem hi) (List.getElem?_eq_getElem hi')⟩
theorem RowsAt.app' {H : Hp} {r : Addr} {A : List Addr} {L : Rows} (x : RowsAt H r A L) {a : Addr} {ns : List Nat} (h : H a = some (.lst (ns.map vn))) (ra : a ≠ r) (na : a ∉ A) : RowsAt (upd H r (.lst (A.map V.ref ++ [V.ref a]))) r (A ++ [a]) (L ++ [ns]) := by
  refine ⟨by rw [upd_same, List.map_append]; rfl, by simp [x.len], ?_, ?_, fun i b ms hb hi => ?_⟩
  · rw [List.nodup_append]
    exact ⟨x.nd, by simp, fun b hb c hc => by simp at hc; rw [hc]; exact fun z => na (z ▸ hb)⟩
  · intro z
    rcases List.mem_append.mp z with z | z
    · exact x.out z
    · simp at z; exact ra z.symm
  · by_cases hl : i < A.length
    · rw [List.getElem?_append_left hl] at hb
      rw [List.getElem?_append_left (by rw [← x.len]; exact hl)] at hi
      have bm := List.mem_of_getElem? hb
      have br : b ≠ r := fun z => x.out (by rw [← z]; exact bm)
      rw [upd_ne br]
      exact x.row i b ms hb hi
    · have e : i = A.length := by
        have := (List.getElem?_eq_some_iff.mp hb).1
        simp at this
        omega
      subst e
      rw [List.getElem?_append_right (Nat.le_refl _)] at hb
      rw [List.getElem?_append_right (by rw [x.len]; exact Nat.le_refl _)] at hi
      rw [x.len] at hi
      simp at hb hi
      subst hb hi
      rw [upd_ne ra]
      exact h
theorem at_m2 (D : List V) (u l : V) : atI (D ++ [u, l]) (-2) = some u := by
  have hl : (D ++ [u, l]).length = D.length + 2 := by simp
  have e : ixN (D ++ [u, l]).length (-2) = some D.length := by
    unfold ixN
    rw [hl, if_neg (by decide), if_pos (by omega)]
    congr 1
    omega
  unfold atI
  rw [e]
  simp
def spPutOver : Sp := fun vs H Q _ => ∃ (r o : Addr) (A : List Addr) (L : Rows) (B M C : List Nat) (f l : Nat), vs = [.ref r, .ref o, vn B.length, vn (B.length + M.length + 1)] ∧ RowsAt H r A L ∧ H o = some (.lst ((B ++ (f :: M ++ [l]) ++ C).map vn)) ∧ o ≠ r ∧ o ∉ A ∧ Half L (B ++ (f :: M ++ [l]) ++ C) ∧ L.length ≤ 150 ∧
  ∀ (x o' : Addr) (L' : Rows) (H' : Hp), H x = none → H o' = none → ButRows r A H H' → RowsAt H' r (A ++ [x]) L' → H' o' = some (.lst ((B ++ [f, L.length, l] ++ C).map vn)) → o' ≠ x → Half L' (B ++ [f, L.length, l] ++ C) → L'.length = L.length + 1 → Q (.ref o') H'
theorem ok_law_put_over {f : Addr} {fd : FuncData} (F : Fun K "_law_put_over" "_law_put_over" s_law_put_over f fd) (z_len : mg "len" = none) (z_range : mg "range" = none) : FnOk P w K mg base CX0 1 f fd ["_law_rows_here", "_law_row", "_law_first", "_law_last"] (spPutOver) := by
  refine F.ok sc_law_put_over (fun vs H Q E h => ?_) (fun cdv A outer s H vs Q E hr h => ?_)
  · obtain ⟨r, o, A, L, B, M, C, f, l, rfl, _⟩ := h
    rfl
  obtain ⟨r, o, A1, L, B, M, C, f, l, rfl, X, ho, or, oA, G, hL, k⟩ := h
  refine ⟨_, (pss_cons (ps_set (i := 4) sc_law_put_over.nd rfl (Or.inl rfl) (pe_callB call_len_seq rfl z_len PySem.boot_len (pa_cons (pv 0) pa_nil)))
      (pss_cons (ps_set (i := 5) sc_law_put_over.nd rfl (Or.inl rfl) (pe_slice sl_list (pv 1) (po_some (pv 2)) (po_some (pe_op op_add (pv 3) pe_int))))
      (pss_cons (ps_for PassesOwn.never rfl (pi_range1 rfl z_range (pa_cons (pe_op op_sub (pe_callB call_len_seq rfl z_len PySem.boot_len (pa_cons (pv 5) pa_nil)) pe_int) pa_nil)) (pg_name (i := 6) sc_law_put_over.nd rfl (Or.inl rfl)) (pss_one (ps_expr (pe_bm PySem.F.plainAttrs_list PySem.F.slot_list_insert PySem.F.type_list_insert mt_insert (pe_ix ix_list (pv 0) (pe_ix ix_list (pv 5) (pv 6) (fun _ _ => rfl)) (fun _ _ => rfl)) (pa_cons (pe_op op_add (pe_bm PySem.F.plainAttrs_list PySem.F.slot_list_index PySem.F.type_list_index mt_index (pe_ix ix_list (pv 0) (pe_ix ix_list (pv 5) (pv 6) (fun _ _ => rfl)) (fun _ _ => rfl)) (pa_cons (pe_ix ix_list (pv 5) (pe_op op_add (pv 6) pe_int) (fun _ _ => rfl)) pa_nil)) pe_int) (pa_cons (pv 4) pa_nil))))))
      (pss_cons (ps_expr (pe_bm PySem.F.plainAttrs_list PySem.F.slot_list_insert PySem.F.type_list_insert mt_insert (pe_ix ix_list (pv 0) (pe_ix ix_list (pv 5) (pe_un un_neg pe_int) (fun _ _ => rfl)) (fun _ _ => rfl)) (pa_cons (pe_bm PySem.F.plainAttrs_list PySem.F.slot_list_index PySem.F.type_list_index mt_index (pe_ix ix_list (pv 0) (pe_ix ix_list (pv 5) (pe_un un_neg pe_int) (fun _ _ => rfl)) (fun _ _ => rfl)) (pa_cons (pe_ix ix_list (pv 5) (pe_un un_neg pe_int) (fun _ _ => rfl)) pa_nil)) (pa_cons (pv 4) pa_nil))))
      (pss_cons (ps_expr (pe_bm PySem.F.plainAttrs_list PySem.F.slot_list_append PySem.F.type_list_append mt_append (pv 0) (pa_cons (pv 5) pa_nil)))
      (pss_one (ps_ret (pe_op op_cat (pe_op op_cat (pe_slice sl_list (pv 1) po_none (po_some (pe_op op_add (pv 2) pe_int))) (pe_lst (pa_cons (pv 4) pa_nil))) (pe_slice sl_list (pv 1) (po_some (pv 3)) po_none))))))))), ?_⟩
  refine ⟨_, rfl, r, _, rfl, .inl (SqL.of X.top), ?_⟩
  have lenA : (A1.map V.ref).length = L.length := by rw [List.length_map]; exact X.len
  have lenO : ((B ++ (f :: M ++ [l]) ++ C).map vn).length = B.length + M.length + 2 + C.length := by simp; omega
  have lP : (f :: M ++ [l]).length = M.length + 2 := by simp
  refine ⟨_, rfl, _, rfl, _, rfl, _, rfl, _, _, rfl, rfl, _, rfl, o, _, rfl, SqL.of ho, fun pa na => ?_⟩
  have ecut : cutV ((B ++ (f :: M ++ [l]) ++ C).map vn) (some (B.length : Int)) (some (((B.length + M.length + 1 : Nat) : Int) + 1)) = (f :: M ++ [l]).map vn := by
    rw [show (((B.length + M.length + 1 : Nat) : Int) + 1) = ((B.length + (M.length + 2) : Nat) : Int) by omega, cut_mid _ (by omega) (by rw [lenO]; omega)]
    rw [← List.map_drop, ← List.map_take, List.append_assoc, List.drop_left' rfl, show B.length + (M.length + 2) - B.length = (f :: M ++ [l]).length by rw [lP]; omega, List.take_left' rfl]
  rw [ecut, lenA]
  have g0 := same_new na (.lst ((f :: M ++ [l]).map vn))
  have X0 := X.same g0
  have hpa := upd_same (H := H) (a := pa) (o := .lst ((f :: M ++ [l]).map vn))
  have par : pa ≠ r := (ne_of_none X.top na).symm
  have paA : pa ∉ A1 := fun z => by obtain ⟨q, hq⟩ := X.mem z; rw [na] at hq; cases hq
  have ho0 := g0 _ _ ho
  have but0 : ButRows r A1 H (upd H pa (.lst ((f :: M ++ [l]).map vn))) := fun b o _ _ h => g0 b o h
  generalize upd H pa (.lst ((f :: M ++ [l]).map vn)) = H0 at *
  have hn : ((((f :: M ++ [l]).map vn).length : Int) - 1) = (M.length + 1 : Nat) := by rw [List.length_map, lP]; omega
  have hM : M.length + 2 ≤ L.length := by
    have pnd : (f :: M ++ [l]).Nodup := (List.nodup_append.mp (List.nodup_append.mp G.ond).1).2.1
    have := List.Nodup.length_le_of_subset pnd (l₂ := List.range L.length) fun z hz => List.mem_range.mpr (G.orng z (List.mem_append_left _ (List.mem_append_right _ hz)))
    rw [lP, List.length_range] at this
    exact this
  refine ⟨_, rfl, pa, _, rfl, .inl (SqL.of hpa), _, _, rfl, rfl, _, rfl, ?_, ?_, for_range (lo := 0) (n := ((((f :: M ++ [l]).map vn).length : Int) - 1).toNat) (fun i σ H2 => ∃ x6 : Option V, σ = [some (.ref r), some (.ref o), some (vn B.length), some (vn (B.length + M.length + 1)), some (vn L.length), some (.ref pa), x6] ∧ RowsAt H2 r A1 (putF L.length L ((f :: M ++ [l]).take (i + 1))) ∧ ButRows r A1 H0 H2)
    ⟨none, rfl, X0, fun b o _ _ h => h⟩ ?_ ?_⟩
  · rw [hn]; omega
  · rw [hn]; omega
  · rintro i σ H2 hi ⟨x6, rfl, X2, b2⟩
    rw [hn, Int.toNat_natCast] at hi
    obtain ⟨x, hx⟩ : ∃ x, (f :: M ++ [l])[i]? = some x := ⟨_, List.getElem?_eq_getElem (by rw [lP]; omega)⟩
    obtain ⟨y, hy⟩ : ∃ y, (f :: M ++ [l])[i + 1]? = some y := ⟨_, List.getElem?_eq_getElem (by rw [lP]; omega)⟩
    obtain ⟨row, e, my, le, e2⟩ := put_at G hx hy
    obtain ⟨a, a1, a2, a3⟩ := X2.at e2
    have hp2 := b2 _ _ par paA hpa
    have at1 : atI ((f :: M ++ [l]).map vn) (0 + (i : Int)) = some (vn x) := by rw [Int.zero_add]; exact atI_nat (by rw [List.getElem?_map, hx]; rfl)
    have at2 : atI ((f :: M ++ [l]).map vn) (0 + (i : Int) + 1) = some (vn y) := by rw [show (0 + (i : Int) + 1) = ((i + 1 : Nat) : Int) by omega]; exact atI_nat (by rw [List.getElem?_map, hy]; rfl)
    have il := List.idxOf_lt_length_of_mem my
    refine ⟨_, rfl, _, rfl, _, rfl, pa, _, _, _, rfl, rfl, SqL.of hp2, at1, r, _, _, _, rfl, rfl, SqL.of X2.top, a3, .inl ⟨rfl, _, SqL.of a2⟩, ?_⟩
    refine ⟨_, rfl, _, rfl, _, rfl, pa, _, _, _, rfl, rfl, SqL.of hp2, at1, r, _, _, _, rfl, rfl, SqL.of X2.top, a3, .inl ⟨rfl, _, SqL.of a2⟩, ?_⟩
    refine ⟨_, rfl, _, rfl, _, _, rfl, rfl, pa, _, _, _, rfl, rfl, SqL.of hp2, at2, a, row.map ci, y, row.idxOf y, rfl, rfl, (by rw [a2, vn_map]), firstAt_nat my, _, _, rfl, rfl, _, rfl, a, _, _, _, rfl, rfl, a2, (by omega), (by omega), (by rw [List.length_map]; exact small1000 (by omega)), ?_⟩
    refine ⟨_, rfl, ?_, fun b o h1 h2 h => ?_⟩
    · have e' : List.take ((row.idxOf y : Int) + 1).toNat (row.map vn) ++ vn L.length :: List.drop ((row.idxOf y : Int) + 1).toNat (row.map vn) = (insB row y L.length).map vn := by
        have z : ((row.idxOf y : Int) + 1).toNat = row.idxOf y + 1 := by omega
        rw [z]
        unfold insB
        rw [List.map_append, List.map_take, List.map_cons, List.map_drop]
      have q := X2.set a1 (insB row y L.length)
      have z := putF_take L.length L (f :: M ++ [l]) i x y hx hy
      rw [List.getD_eq_getElem?_getD, e2] at z
      rw [z]
      rw [← e'] at q
      exact q
    · have ne : b ≠ a := fun z => h2 (by rw [z]; exact List.mem_of_getElem? a1)
      rw [upd_ne ne]
      exact b2 b o h1 h2 h
  · rintro σ H2 ⟨x6, rfl, X2, b2⟩
    rw [hn, Int.toNat_natCast, List.take_of_length_le (by rw [lP]; exact Nat.le_refl _)] at X2
    have hp2 := b2 _ _ par paA hpa
    have ho2 := b2 _ _ or oA ho0
    obtain ⟨D, u, hDu⟩ : ∃ D u, f :: M = D ++ [u] := ⟨(f :: M).dropLast, (f :: M).getLast (List.cons_ne_nil _ _), (List.dropLast_concat_getLast _).symm⟩
    have hu : Adj (f :: M ++ [l]) u l := by
      rw [hDu, show D ++ [u] ++ [l] = D ++ u :: [l] by simp, adj_app]
      exact .inr (.inl ⟨rfl, rfl⟩)
    have S := half_str G
    have hO : ∀ z, z ∈ f :: M ++ [l] → z ∈ B ++ (f :: M ++ [l]) ++ C := fun z hz => List.mem_append_left _ (List.mem_append_right _ hz)
    have pnd : (f :: M ++ [l]).Nodup := (List.nodup_append.mp (List.nodup_append.mp G.ond).1).2.1
    obtain ⟨y, ny⟩ := nx_ex' (hO l (by simp))
    obtain ⟨row, e, n⟩ := G.out l y u ny ((nxO u l).mpr (.inl hu))
    have mu := (nx_mem n).2
    have le := half_row_le G e
    obtain ⟨pl, _, h3, _⟩ := putF_all L.length (f :: M ++ [l]) L pnd (fun z hz => G.orng z (hO z hz))
    have e2 : (putF L.length L (f :: M ++ [l]))[l]? = some row := by rw [h3 l (fun y' h => (S.kk h).2.2.1 rfl), e]
    have N := put_half' G hu
    obtain ⟨a, a1, a2, a3⟩ := X2.at e2
    have at1 : atI ((f :: M ++ [l]).map vn) (-1) = some (vn l) := by rw [List.map_append]; exact atI_last _ _
    have at2 : atI ((f :: M ++ [l]).map vn) (-2) = some (vn u) := by rw [hDu, show D ++ [u] ++ [l] = D ++ [u, l] by simp, List.map_append]; exact at_m2 _ _ _
    have il := List.idxOf_lt_length_of_mem mu
    refine ⟨_, rfl, _, rfl, _, rfl, pa, _, _, _, rfl, rfl, SqL.of hp2, at1, r, _, _, _, rfl, rfl, SqL.of X2.top, a3, .inl ⟨rfl, _, SqL.of a2⟩, ?_⟩
    refine ⟨_, rfl, _, rfl, _, rfl, pa, _, _, _, rfl, rfl, SqL.of hp2, at1, r, _, _, _, rfl, rfl, SqL.of X2.top, a3, .inl ⟨rfl, _, SqL.of a2⟩, ?_⟩
    refine ⟨_, rfl, _, rfl, pa, _, _, _, rfl, rfl, SqL.of hp2, at2, a, row.map ci, u, row.idxOf u, rfl, rfl, (by rw [a2, vn_map]), firstAt_nat mu, _, rfl, a, _, _, _, rfl, rfl, a2, (by omega), (by omega), (by rw [List.length_map]; exact small1000 (by omega)), ?_⟩
    have e' : List.take ((row.idxOf u : Int)).toNat (row.map vn) ++ vn L.length :: List.drop ((row.idxOf u : Int)).toNat (row.map vn) = (insF row u L.length).map vn := by
      rw [Int.toNat_natCast]
      unfold insF
      rw [List.map_append, List.map_take, List.map_cons, List.map_drop]
    rw [e']
    have X3 := X2.set a1 (insF row u L.length)
    have b3 : ButRows r A1 H0 (upd H2 a (.lst ((insF row u L.length).map vn))) := fun b o h1 h2 h => by
      have ne : b ≠ a := fun z => h2 (by rw [z]; exact List.mem_of_getElem? a1)
      rw [upd_ne ne]
      exact b2 b o h1 h2 h
    have hp3 := b3 _ _ par paA hpa
    have ho3 := b3 _ _ or oA ho0
    generalize upd H2 a (.lst ((insF row u L.length).map vn)) = H3 at *
    have X4 := X3.app' hp3 par paA
    refine ⟨_, rfl, .inl ⟨rfl, _, SqL.of X3.top⟩, _, rfl, r, _, _, rfl, rfl, X3.top, (by rw [lenA]; exact small1000 (by omega)), ?_⟩
    have b4 : ButRows r A1 H0 (upd H3 r (.lst (A1.map V.ref ++ [V.ref pa]))) := fun b o h1 h2 h => by
      rw [upd_ne h1]
      exact b3 b o h1 h2 h
    have ho4 := b4 _ _ or oA ho0
    have er : (putF L.length L (f :: M ++ [l])).set l (insF row u L.length) = putL L (f :: M ++ [l]) L.length u l := by
      unfold putL
      rw [List.getD_eq_getElem?_getD, e2]
      rfl
    rw [er] at X4
    generalize upd H3 r (.lst (A1.map V.ref ++ [V.ref pa])) = H4 at *
    have eO : B ++ (f :: M ++ [l]) ++ C = (B ++ [f]) ++ (M ++ l :: C) := by simp
    have eO2 : B ++ (f :: M ++ [l]) ++ C = (B ++ f :: M) ++ (l :: C) := by simp
    have c1 : cutV ((B ++ (f :: M ++ [l]) ++ C).map vn) none (some ((B.length : Int) + 1)) = (B ++ [f]).map vn := by
      rw [show ((B.length : Int) + 1) = ((B.length + 1 : Nat) : Int) by omega, cut_to _ (by rw [lenO]; omega), ← List.map_take, eO, List.take_left' (by simp)]
    have c2 : cutV ((B ++ (f :: M ++ [l]) ++ C).map vn) (some ((B.length + M.length + 1 : Nat) : Int)) none = (l :: C).map vn := by
      rw [cut_from _ (by rw [lenO]; omega), ← List.map_drop, eO2, List.drop_left' (by simp; omega)]
    have oN : B.length + M.length + 2 + C.length ≤ L.length := by
      have := List.Nodup.length_le_of_subset G.ond (l₂ := List.range L.length) fun z hz => List.mem_range.mpr (G.orng z hz)
      rw [List.length_range, ← List.length_map (f := vn), lenO] at this
      exact this
    refine ⟨_, rfl, _, rfl, _, _, rfl, rfl, _, rfl, o, _, rfl, SqL.of ho4, fun p1 m1 => ?_⟩
    rw [c1]
    have g5 := same_new m1 (.lst ((B ++ [f]).map vn))
    refine ⟨_, rfl, (by show 1 ≤ sizeLine; decide), fun p2 m2 => ?_⟩
    have g6 := same_new m2 (.lst [vn L.length])
    refine ⟨p1, p2, _, _, rfl, rfl, g6 _ _ upd_same, upd_same, (by simp only [List.length_map, List.length_append, List.length_cons, List.length_nil]; exact Nat.le_of_lt (small1000 (by omega))), fun p3 m3 => ?_⟩
    have g7 := same_new m3 (.lst ((B ++ [f]).map vn ++ [vn L.length]))
    have ho7 := g7 _ _ (g6 _ _ (g5 _ _ ho4))
    refine ⟨_, rfl, _, rfl, _, rfl, o, _, rfl, SqL.of ho7, fun p4 m4 => ?_⟩
    rw [c2]
    have g8 := same_new m4 (.lst ((l :: C).map vn))
    refine ⟨p3, p4, _, _, rfl, rfl, g8 _ _ upd_same, upd_same, (by simp only [List.length_map, List.length_append, List.length_cons, List.length_nil]; exact Nat.le_of_lt (small1000 (by omega))), fun p5 m5 => ?_⟩
    have g9 := same_new m5 (.lst ((B ++ [f]).map vn ++ [vn L.length] ++ (l :: C).map vn))
    have gg : Same H4 _ := g5.trans (g6.trans (g7.trans g8))
    have g48 := gg.trans g9
    have p5n : H p5 = none := by
      cases e : H p5 with
      | none => rfl
      | some oo =>
        have : ∃ q, H4 p5 = some q := by
          by_cases h1 : p5 = r
          · exact ⟨_, h1 ▸ X4.top⟩
          · by_cases h2 : p5 ∈ A1
            · exact X4.mem (List.mem_append_left _ h2)
            · exact ⟨_, b4 _ _ h1 h2 (but0 _ _ h1 h2 e)⟩
        obtain ⟨q, hq⟩ := this
        rw [gg _ _ hq] at m5
        cases m5
    have hpa4 : H4 pa = some _ := b4 _ _ par paA hpa
    refine k pa p5 (putL L (f :: M ++ [l]) L.length u l ++ [f :: M ++ [l]]) _ na p5n (fun b q h1 h2 h => g48 _ _ (b4 b q h1 h2 (but0 b q h1 h2 h))) (X4.same g48) ?_ ?_ N (by rw [List.length_append, ← er, List.length_set, pl]; rfl)
    · rw [upd_same]
      simp
    · intro z
      rw [z, gg _ _ hpa4] at m5
      cases m5
theorem RowsAt.other {H : Hp} {r c : Addr} {A : List Addr} {L : Rows} (x : RowsAt H r A L) (h1 : c ≠ r) (h2 : c ∉ A) (o : HO) : RowsAt (upd H c o) r A L :=
  ⟨by rw [upd_ne h1.symm]; exact x.top, x.len, x.nd, x.out, fun i b ns hb hi => by rw [upd_ne (fun (z : b = c) => h2 (by rw [← z]; exact List.mem_of_getElem? hb))]; exact x.row i b ns hb hi⟩
theorem pot_free {H H' : Hp} {a x : Addr} (s : SameBut a H H') (p : PotAt H' a) (h : H' x = none) : H x = none := by
  cases e : H x with
  | none => rfl
  | some o =>
    have xa : x ≠ a := fun z => by
      obtain ⟨_, _, w, _⟩ := p
      rw [z, w] at h
      cases h
    rw [s x o xa e] at h
    cases h
structure NewR (H : Hp) (a r t q o : Addr) (A : List Addr) : Prop where
  top : H r = none
  all : ∀ x ∈ A, H x = none
  nt : H t = none
  nq : H q = none
  no : H o = none
  tr : t ≠ r
  tA : t ∉ A
  qr : q ≠ r
  qA : q ∉ A
  tq : t ≠ q
  or : o ≠ r
  oA : o ∉ A
  ot : o ≠ t
  oq : o ≠ q
def spRows : Sp := fun vs H Q _ => ∃ (a : Addr) (n : Nat), vs = [.ref a, vn n] ∧ PotAt H a ∧ 3 ≤ n ∧ n ≤ 40 ∧
  ∀ (z r t q : Addr) (A : List Addr) (L : Rows) (H' : Hp), SameBut a H H' → PotAt H' a → H' z = some (.tup [.ref r, .ref t, .ref q]) → RowsAt H' r A L → Good L → L.length = n → H r = none → (∀ b ∈ A, H b = none) → Q (.ref z) H'
theorem split3 {O : List Nat} {b c : Nat} (h : b < c) (h' : c < O.length) : ∃ B f M l C, O = B ++ (f :: M ++ [l]) ++ C ∧ B.length = b ∧ B.length + M.length + 1 = c := by
  have h1 : b < O.length := by omega
  refine ⟨O.take b, O[b], (O.drop (b + 1)).take (c - b - 1), O[c], O.drop (c + 1), ?_, by rw [List.length_take]; omega, by rw [List.length_take, List.length_take, List.length_drop]; omega⟩
  have e1 : O = O.take b ++ O[b] :: O.drop (b + 1) := by rw [← List.drop_eq_getElem_cons h1, List.take_append_drop]
  have e2 : O.drop (b + 1) = (O.drop (b + 1)).take (c - b - 1) ++ O[c] :: O.drop (c + 1) := by
    have z : (O.drop (b + 1)).drop (c - b - 1) = O[c] :: O.drop (c + 1) := by
      rw [List.drop_drop, show b + 1 + (c - b - 1) = c by omega, List.drop_eq_getElem_cons h']
    rw [← z, List.take_append_drop]
  rw [List.append_assoc, List.cons_append, List.cons_append, List.append_assoc]
  show O = O.take b ++ O[b] :: ((O.drop (b + 1)).take (c - b - 1) ++ O[c] :: O.drop (c + 1))
  rw [← e2]
  exact e1
theorem ok_law_rows {f : Addr} {fd : FuncData} (F : Fun K "_law_rows" "_law_rows" s_law_rows f fd) (h_law_digit : Own.Has P w K mg base "_law_digit" ["_law_pot_here", "_law_many"] 1 (spDigit)) (h_law_put_over : Own.Has P w K mg base "_law_put_over" ["_law_rows_here", "_law_row", "_law_first", "_law_last"] 1 (spPutOver)) (z_range : mg "range" = none) (z_len : mg "len" = none) : FnOk P w K mg base CX0 2 f fd ["_law_pot_here", "_law_n"] (spRows) := by
  refine F.ok sc_law_rows (fun vs H Q E h => ?_) (fun cdv A outer s H vs Q E hr h => ?_)
  · obtain ⟨a, n, rfl, _⟩ := h
    rfl
  obtain ⟨a, n, rfl, ha, n3, n40, k⟩ := h
  refine ⟨_, (pss_cons (ps_set (i := 2) sc_law_rows.nd rfl (Or.inl rfl) (pe_lst (pa_cons (pe_lst (pa_cons pe_int pa_nil)) (pa_cons (pe_lst (pa_cons pe_int pa_nil)) pa_nil))))
      (pss_cons (ps_set (i := 3) sc_law_rows.nd rfl (Or.inl rfl) (pe_lst (pa_cons (pe_lst (pa_cons pe_int (pa_cons pe_int pa_nil))) pa_nil)))
      (pss_cons (ps_set (i := 4) sc_law_rows.nd rfl (Or.inl rfl) (pe_lst pa_nil))
      (pss_cons (ps_for PassesOwn.never rfl (pi_range1 rfl z_range (pa_cons (pe_op op_sub (pv 1) pe_int) pa_nil)) (pg_name (i := 5) sc_law_rows.nd rfl (Or.inl rfl)) (pss_cons (ps_set (i := 6) sc_law_rows.nd rfl (Or.inl rfl) (pe_ix ix_list (pv 3) (pe_un un_neg pe_int) (fun _ _ => rfl)))
      (pss_cons (ps_set (i := 7) sc_law_rows.nd rfl (Or.inl rfl) (Own.pe_has h_law_digit (hr.mono (by decide)) rfl (pa_cons (pv 0) (pa_cons (pe_op op_sub (pe_callB call_len_seq rfl z_len PySem.boot_len (pa_cons (pv 6) pa_nil)) pe_int) pa_nil))))
      (pss_cons (ps_set (i := 8) sc_law_rows.nd rfl (Or.inl rfl) (pe_op op_add (pe_op op_add (pv 7) pe_int) (Own.pe_has h_law_digit (hr.mono (by decide)) rfl (pa_cons (pv 0) (pa_cons (pe_op op_sub (pe_op op_sub (pe_callB call_len_seq rfl z_len PySem.boot_len (pa_cons (pv 6) pa_nil)) pe_int) (pv 7)) pa_nil)))))
      (pss_cons (ps_if (pt_cmpR op_eq (pv 5) (pe_op op_sub (pv 1) pe_int) (nomark _)) (pss_one (ps_par (i := 7) (j := 8) rfl sc_law_rows.nd rfl rfl (by decide) rfl rfl (pa_cons pe_int (pa_cons (pe_op op_sub (pe_callB call_len_seq rfl z_len PySem.boot_len (pa_cons (pv 6) pa_nil)) pe_int) pa_nil)) rfl)) pss_nil)
      (pss_cons (ps_expr (pe_bm PySem.F.plainAttrs_list PySem.F.slot_list_append PySem.F.type_list_append mt_append (pv 4) (pa_cons (pe_slice sl_list (pv 6) (po_some (pv 7)) (po_some (pe_op op_add (pv 8) pe_int))) pa_nil)))
      (pss_one (ps_expr (pe_bm PySem.F.plainAttrs_list PySem.F.slot_list_append PySem.F.type_list_append mt_append (pv 3) (pa_cons (Own.pe_has h_law_put_over (hr.mono (by decide)) rfl (pa_cons (pv 2) (pa_cons (pv 6) (pa_cons (pv 7) (pa_cons (pv 8) pa_nil))))) pa_nil))))))))))
      (pss_one (ps_ret (pe_tup (pa_cons (pv 2) (pa_cons (pv 3) (pa_cons (pv 4) pa_nil)))))))))), ?_⟩
  refine ⟨(by show 1 ≤ sizeLine; decide), fun l1 m1 => ⟨(by show 1 ≤ sizeLine; decide), fun l2 m2 => ⟨(by show 2 ≤ sizeLine; decide), fun r m3 => ?_⟩⟩⟩
  refine ⟨(by show 2 ≤ sizeLine; decide), fun o m4 => ⟨(by show 1 ≤ sizeLine; decide), fun t m5 => ?_⟩⟩
  refine ⟨(by show 0 ≤ sizeLine; decide), fun q m6 => ?_⟩
  have g1 := same_new m1 (.lst [vn 1])
  have g2 := same_new m2 (.lst [vn 0])
  have g3 := same_new m3 (.lst [.ref l1, .ref l2])
  have g4 := same_new m4 (.lst [vn 0, vn 1])
  have g5 := same_new m5 (.lst [.ref o])
  have g6 := same_new m6 (.lst [])
  have f2 := g1.free m2
  have f3 := (g1.trans g2).free m3
  have f4 := (g1.trans (g2.trans g3)).free m4
  have f5 := (g1.trans (g2.trans (g3.trans g4))).free m5
  have f6 := (g1.trans (g2.trans (g3.trans (g4.trans g5)))).free m6
  have g := g1.trans (g2.trans (g3.trans (g4.trans (g5.trans g6))))
  have v1 := upd_same (H := H) (a := l1) (o := .lst [vn 1])
  have v2 := upd_same (H := upd H l1 (.lst [vn 1])) (a := l2) (o := .lst [vn 0])
  have v3 := upd_same (H := upd (upd H l1 (.lst [vn 1])) l2 (.lst [vn 0])) (a := r) (o := .lst [.ref l1, .ref l2])
  have v4 := upd_same (H := upd (upd (upd H l1 (.lst [vn 1])) l2 (.lst [vn 0])) r (.lst [.ref l1, .ref l2])) (a := o) (o := .lst [vn 0, vn 1])
  have v5 := upd_same (H := upd (upd (upd (upd H l1 (.lst [vn 1])) l2 (.lst [vn 0])) r (.lst [.ref l1, .ref l2])) o (.lst [vn 0, vn 1])) (a := t) (o := .lst [.ref o])
  have v6 := upd_same (H := upd (upd (upd (upd (upd H l1 (.lst [vn 1])) l2 (.lst [vn 0])) r (.lst [.ref l1, .ref l2])) o (.lst [vn 0, vn 1])) t (.lst [.ref o])) (a := q) (o := .lst [])
  have d12 := ne_of_none v1 m2
  have d1r := ne_of_none (g2 _ _ v1) m3
  have d2r := ne_of_none v2 m3
  have d1o := ne_of_none (g3 _ _ (g2 _ _ v1)) m4
  have d2o := ne_of_none (g3 _ _ v2) m4
  have dro := ne_of_none v3 m4
  have d1t := ne_of_none (g4 _ _ (g3 _ _ (g2 _ _ v1))) m5
  have d2t := ne_of_none (g4 _ _ (g3 _ _ v2)) m5
  have drt := ne_of_none (g4 _ _ v3) m5
  have dot := ne_of_none v4 m5
  have d1q := ne_of_none (g5 _ _ (g4 _ _ (g3 _ _ (g2 _ _ v1)))) m6
  have d2q := ne_of_none (g5 _ _ (g4 _ _ (g3 _ _ v2))) m6
  have drq := ne_of_none (g5 _ _ (g4 _ _ v3)) m6
  have doq := ne_of_none (g5 _ _ v4) m6
  have dtq := ne_of_none v5 m6
  have w1 := g6 _ _ (g5 _ _ (g4 _ _ (g3 _ _ (g2 _ _ v1))))
  have w2 := g6 _ _ (g5 _ _ (g4 _ _ (g3 _ _ v2)))
  have w3 := g6 _ _ (g5 _ _ (g4 _ _ v3))
  have w4 := g6 _ _ (g5 _ _ v4)
  have w5 := g6 _ _ v5
  clear v1 v2 v3 v4 v5 g1 g2 g3 g4 g5 g6 m2 m3 m4 m5 m6
  have p0 := ha.kept g
  have nw0 : NewR H a r t q o [l1, l2] := ⟨f3, fun x hx => by simp at hx; rcases hx with rfl | rfl <;> assumption, f5, f6, f4, drt.symm, by simp [d1t.symm, d2t.symm], drq.symm, by simp [d1q.symm, d2q.symm], dtq, dro.symm, by simp [d1o.symm, d2o.symm], dot, doq⟩
  have X0 : RowsAt (upd (upd (upd (upd (upd (upd H l1 (.lst [vn 1])) l2 (.lst [vn 0])) r (.lst [.ref l1, .ref l2])) o (.lst [vn 0, vn 1])) t (.lst [.ref o])) q (.lst [])) r [l1, l2] [[1], [0]] := by
    refine ⟨w3, rfl, by simp [d12], by simp [d1r.symm, d2r.symm], fun i b ns hb hi => ?_⟩
    match i with
    | 0 => cases hb; cases hi; exact w1
    | 1 => cases hb; cases hi; exact w2
    | i + 2 => simp at hb
  generalize hH1 : upd (upd (upd (upd (upd (upd H l1 (.lst [vn 1])) l2 (.lst [vn 0])) r (.lst [.ref l1, .ref l2])) o (.lst [vn 0, vn 1])) t (.lst [.ref o])) q (.lst []) = H1 at *
  have hH1' : upd (upd (upd (upd (upd (upd H l1 (.lst [.int 1])) l2 (.lst [.int 0])) r (.lst [.ref l1, .ref l2])) o (.lst [.int 0, .int 1])) t (.lst [.ref o])) q (.lst []) = H1 := hH1
  rw [hH1']
  try rw [hH1'] at w4
  try rw [hH1'] at w5
  try rw [hH1'] at v6
  try rw [hH1'] at g
  try rw [hH1'] at p0
  have apt : ∀ {x : Addr}, H x = none → a ≠ x := fun h => by obtain ⟨_, _, e, _⟩ := ha; exact ne_of_none e h
  refine ⟨_, rfl, _, _, rfl, rfl, _, rfl, by omega, by omega, for_range (lo := 0) (n := ((n : Int) - 2).toNat) (fun i σ H2 => ∃ (x5 x6 x7 x8 : Option V) (A : List Addr) (L : Rows) (O : List Nat) (o : Addr) (ts ps : List V), σ = [some (.ref a), some (vn n), some (.ref r), some (.ref t), some (.ref q), x5, x6, x7, x8] ∧ RowsAt H2 r A L ∧ Half L O ∧ 2 ≤ O.length ∧ L.length = 2 + i ∧ (i = n - 2 → O.length = 3) ∧ H2 o = some (.lst (O.map vn)) ∧ H2 t = some (.lst (ts ++ [.ref o])) ∧ ts.length = i ∧ H2 q = some (.lst ps) ∧ ps.length = i ∧ SameBut a H H2 ∧ PotAt H2 a ∧ NewR H a r t q o A)
    ⟨none, none, none, none, [l1, l2], [[1], [0]], [0, 1], o, [], [], rfl, X0, half_first, Nat.le_refl _, rfl, fun e => by omega, w4, w5, rfl, v6, rfl, .of g, p0, nw0⟩ ?_ ?_⟩
  · clear X0 w1 w2 w3 w4 w5 v6 nw0 p0 hH1 hH1' g f2 f3 f4 f5 f6
    rintro i σ H2 hi ⟨x5, x6, x7, x8, A1, L, O, o, ts, ps, rfl, X, G, O2, hl, hO3, ho, ht, lts, hq, lps, s2, p2, nw⟩
    have oN : O.length ≤ L.length := by
      have := List.Nodup.length_le_of_subset G.ond (l₂ := List.range L.length) fun z hz => List.mem_range.mpr (G.orng z hz)
      rwa [List.length_range] at this
    have lO : ((O.map vn).length : Int) = O.length := by rw [List.length_map]
    refine ⟨_, rfl, _, rfl, t, _, _, _, rfl, rfl, SqL.of ht, atI_last _ _, ?_⟩
    refine ⟨_, rfl, _, rfl, o, _, rfl, .inl (SqL.of ho), _, _, rfl, rfl, a, _, rfl, p2, (by rw [lO]; omega), lit9 (by rw [lO]; exact Nat.lt_of_le_of_lt (m := 1000) (by omega) (by decide)), fun d H3 d0 d1 s3 p3 => ?_⟩
    rw [lO] at d1
    have ho3 := s3 _ _ (apt nw.no).symm ho
    refine ⟨_, rfl, _, _, rfl, rfl, _, rfl, _, rfl, o, _, rfl, .inl (SqL.of ho3), _, _, rfl, rfl, _, rfl, _, _, rfl, rfl, a, _, rfl, p3, (by rw [lO]; omega), lit9 (by rw [lO]; exact Nat.lt_of_le_of_lt (m := 1000) (by omega) (by decide)), fun d' H4 e0 e1 s4 p4 => ?_⟩
    rw [lO] at e1
    refine ⟨_, _, rfl, rfl, ?_⟩
    have aA1 : a ∉ A1 := fun z => by have := apt (nw.all a z); exact this rfl
    have s34 := s2.trans (s3.trans s4)
    have X4 := X.but (apt nw.top) aA1 (s3.trans s4)
    have ho4 := s4 _ _ (apt nw.no).symm ho3
    have ht4 := (s3.trans s4) _ _ (apt nw.nt).symm ht
    have hq4 := (s3.trans s4) _ _ (apt nw.nq).symm hq
    refine ⟨_, rfl, _, rfl, _, _, rfl, rfl, rfl, _, rfl, ?_⟩
    refine ite2 (fun cc => ?_) (fun cc => ?_)
    · have ci : (0 + (i : Int)) = (n : Int) - 3 := by
        have := of_decide_eq_true cc
        injection this
      refine ⟨_, rfl, o, _, rfl, .inl (SqL.of ho4), _, _, rfl, rfl, _, _, rfl, ?_⟩
      rw [lO]
      obtain ⟨b, c, eb, ec, bc, cO, hbc⟩ : ∃ b c : Nat, V.int 0 = vn b ∧ V.int ((O.length : Int) - 1) = vn c ∧ b < c ∧ c < O.length ∧ (i = n - 3 → b = 0 ∧ c = O.length - 1) :=
        ⟨0, O.length - 1, rfl, by unfold vn; congr 1; omega, by omega, by omega, fun _ => ⟨rfl, rfl⟩⟩
      obtain ⟨B, fi, M, la, C, eO, eB, eM⟩ := split3 bc cO
      have lO' : O.length = B.length + M.length + 2 + C.length := by rw [eO]; simp; omega
      refine ⟨_, rfl, .inl ⟨rfl, _, SqL.of hq4⟩, _, rfl, _, rfl, _, rfl, _, rfl, _, _, rfl, rfl, _, rfl, o, _, rfl, SqL.of ho4, fun p n5 => ?_⟩
      have g5 := same_new n5 (.lst (cutV (O.map vn) (some (0)) (some ((O.length : Int) - 1 + 1))))
      have hq5 := g5 _ _ hq4
      have ho5 := g5 _ _ ho4
      have ht5 := g5 _ _ ht4
      have X5 := X4.kept g5
      have p5 := p4.kept g5
      have s5 := s34.trans (.of g5)
      refine ⟨q, _, _, rfl, rfl, hq5, (by rw [lps]; exact small1000 (by omega)), ?_⟩
      generalize upd H4 p (.lst (cutV (O.map vn) (some (0)) (some ((O.length : Int) - 1 + 1)))) = H5 at *
      have X6 := X5.other nw.qr nw.qA (.lst (ps ++ [.ref p]))
      have p6 := p5.other (o := .lst (ps ++ [.ref p])) (apt nw.nq)
      have ho6 : upd H5 q (.lst (ps ++ [.ref p])) o = some (.lst (O.map vn)) := by rw [upd_ne nw.oq]; exact ho5
      have ht6 : upd H5 q (.lst (ps ++ [.ref p])) t = some (.lst (ts ++ [.ref o])) := by rw [upd_ne nw.tq]; exact ht5
      have hq6 := upd_same (H := H5) (a := q) (o := .lst (ps ++ [.ref p]))
      have s6 : SameBut a H (upd H5 q (.lst (ps ++ [.ref p]))) := fun b u nb h => by
        rw [upd_ne (ne_of_none h nw.nq)]
        exact s5 b u nb h
      generalize upd H5 q (.lst (ps ++ [.ref p])) = H6 at *
      refine ⟨_, rfl, .inl ⟨rfl, _, SqL.of ht6⟩, _, rfl, _, rfl, _, rfl, _, rfl, r, o, A1, L, B, M, C, fi, la, (by show [V.ref r, V.ref o, V.int (0), V.int ((O.length : Int) - 1)] = _; rw [eb, ec, eM, eB]), X6, (by rw [← eO]; exact ho6), nw.or, nw.oA, (by rw [← eO]; exact G), (by omega), fun x o' L' H7 hx ho' b7 X7 hh7 ox G7 hl7 => ?_⟩
      have ht7 := b7 _ _ nw.tr nw.tA ht6
      have hq7 := b7 _ _ nw.qr nw.qA hq6
      have xt : t ≠ x := ne_of_none ht6 hx
      have xq : q ≠ x := ne_of_none hq6 hx
      have aA : a ∉ A1 := fun z => by have := apt (nw.all a z); exact this rfl
      have p7 := p6.rows (apt nw.top) aA b7
      have tA' : t ∉ A1 ++ [x] := fun z => by
        rcases List.mem_append.mp z with z | z
        · exact nw.tA z
        · simp at z; exact xt z
      have qA' : q ∉ A1 ++ [x] := fun z => by
        rcases List.mem_append.mp z with z | z
        · exact nw.qA z
        · simp at z; exact xq z
      refine ⟨t, _, _, rfl, rfl, ht7, (by rw [List.length_append, lts]; exact small1000 (by show i + 1 ≤ 1000; omega)), ?_⟩
      have X8 := X7.other nw.tr tA' (.lst (ts ++ [.ref o] ++ [.ref o']))
      have oo : o' ≠ t := (ne_of_none ht6 ho').symm
      refine ⟨_, _, _, _, A1 ++ [x], L', B ++ [fi, L.length, la] ++ C, o', ts ++ [.ref o], ps ++ [.ref p], rfl, X8, G7, (by simp; omega), (by omega), (fun e => ?_), (by rw [upd_ne oo]; exact hh7), upd_same, (by simp [lts]), (by rw [upd_ne nw.tq.symm]; exact hq7), (by simp [lps]), (fun b u nb h => ?_), p7.other (apt nw.nt), ?_⟩
      · obtain ⟨z1, z2⟩ := hbc (by omega)
        simp
        omega
      · rw [upd_ne (ne_of_none h nw.nt)]
        exact b7 b u (ne_of_none h nw.top) (fun z => by rw [nw.all b z] at h; cases h) (s6 b u nb h)
      · have fx := pot_free s6 p6 hx
        have fo := pot_free s6 p6 ho'
        refine ⟨nw.top, fun b hb => ?_, nw.nt, nw.nq, fo, nw.tr, tA', nw.qr, qA', nw.tq, (ne_of_none X6.top ho').symm, fun z => ?_, oo, (ne_of_none hq6 ho').symm⟩
        · rcases List.mem_append.mp hb with w | w
          · exact nw.all b w
          · rw [List.mem_singleton.mp w]; exact fx
        · rcases List.mem_append.mp z with z | z
          · obtain ⟨u, hu⟩ := X6.mem z
            rw [ho'] at hu; cases hu
          · simp at z; exact ox z
    · have ci : (0 + (i : Int)) ≠ (n : Int) - 3 := fun e => cc (by rw [e]; exact decide_eq_true rfl)
      obtain ⟨b, c, eb, ec, bc, cO, hbc⟩ : ∃ b c : Nat, V.int d = vn b ∧ V.int (d + 1 + d') = vn c ∧ b < c ∧ c < O.length ∧ (i = n - 3 → b = 0 ∧ c = O.length - 1) :=
        ⟨d.toNat, (d + 1 + d').toNat, by unfold vn; congr 1; omega, by unfold vn; congr 1; omega, by omega, by omega, fun e => by omega⟩
      obtain ⟨B, fi, M, la, C, eO, eB, eM⟩ := split3 bc cO
      have lO' : O.length = B.length + M.length + 2 + C.length := by rw [eO]; simp; omega
      refine ⟨_, rfl, .inl ⟨rfl, _, SqL.of hq4⟩, _, rfl, _, rfl, _, rfl, _, rfl, _, _, rfl, rfl, _, rfl, o, _, rfl, SqL.of ho4, fun p n5 => ?_⟩
      have g5 := same_new n5 (.lst (cutV (O.map vn) (some (d)) (some (d + 1 + d' + 1))))
      have hq5 := g5 _ _ hq4
      have ho5 := g5 _ _ ho4
      have ht5 := g5 _ _ ht4
      have X5 := X4.kept g5
      have p5 := p4.kept g5
      have s5 := s34.trans (.of g5)
      refine ⟨q, _, _, rfl, rfl, hq5, (by rw [lps]; exact small1000 (by omega)), ?_⟩
      generalize upd H4 p (.lst (cutV (O.map vn) (some (d)) (some (d + 1 + d' + 1)))) = H5 at *
      have X6 := X5.other nw.qr nw.qA (.lst (ps ++ [.ref p]))
      have p6 := p5.other (o := .lst (ps ++ [.ref p])) (apt nw.nq)
      have ho6 : upd H5 q (.lst (ps ++ [.ref p])) o = some (.lst (O.map vn)) := by rw [upd_ne nw.oq]; exact ho5
      have ht6 : upd H5 q (.lst (ps ++ [.ref p])) t = some (.lst (ts ++ [.ref o])) := by rw [upd_ne nw.tq]; exact ht5
      have hq6 := upd_same (H := H5) (a := q) (o := .lst (ps ++ [.ref p]))
      have s6 : SameBut a H (upd H5 q (.lst (ps ++ [.ref p]))) := fun b u nb h => by
        rw [upd_ne (ne_of_none h nw.nq)]
        exact s5 b u nb h
      generalize upd H5 q (.lst (ps ++ [.ref p])) = H6 at *
      refine ⟨_, rfl, .inl ⟨rfl, _, SqL.of ht6⟩, _, rfl, _, rfl, _, rfl, _, rfl, r, o, A1, L, B, M, C, fi, la, (by show [V.ref r, V.ref o, V.int (d), V.int (d + 1 + d')] = _; rw [eb, ec, eM, eB]), X6, (by rw [← eO]; exact ho6), nw.or, nw.oA, (by rw [← eO]; exact G), (by omega), fun x o' L' H7 hx ho' b7 X7 hh7 ox G7 hl7 => ?_⟩
      have ht7 := b7 _ _ nw.tr nw.tA ht6
      have hq7 := b7 _ _ nw.qr nw.qA hq6
      have xt : t ≠ x := ne_of_none ht6 hx
      have xq : q ≠ x := ne_of_none hq6 hx
      have aA : a ∉ A1 := fun z => by have := apt (nw.all a z); exact this rfl
      have p7 := p6.rows (apt nw.top) aA b7
      have tA' : t ∉ A1 ++ [x] := fun z => by
        rcases List.mem_append.mp z with z | z
        · exact nw.tA z
        · simp at z; exact xt z
      have qA' : q ∉ A1 ++ [x] := fun z => by
        rcases List.mem_append.mp z with z | z
        · exact nw.qA z
        · simp at z; exact xq z
      refine ⟨t, _, _, rfl, rfl, ht7, (by rw [List.length_append, lts]; exact small1000 (by show i + 1 ≤ 1000; omega)), ?_⟩
      have X8 := X7.other nw.tr tA' (.lst (ts ++ [.ref o] ++ [.ref o']))
      have oo : o' ≠ t := (ne_of_none ht6 ho').symm
      refine ⟨_, _, _, _, A1 ++ [x], L', B ++ [fi, L.length, la] ++ C, o', ts ++ [.ref o], ps ++ [.ref p], rfl, X8, G7, (by simp; omega), (by omega), (fun e => ?_), (by rw [upd_ne oo]; exact hh7), upd_same, (by simp [lts]), (by rw [upd_ne nw.tq.symm]; exact hq7), (by simp [lps]), (fun b u nb h => ?_), p7.other (apt nw.nt), ?_⟩
      · obtain ⟨z1, z2⟩ := hbc (by omega)
        simp
        omega
      · rw [upd_ne (ne_of_none h nw.nt)]
        exact b7 b u (ne_of_none h nw.top) (fun z => by rw [nw.all b z] at h; cases h) (s6 b u nb h)
      · have fx := pot_free s6 p6 hx
        have fo := pot_free s6 p6 ho'
        refine ⟨nw.top, fun b hb => ?_, nw.nt, nw.nq, fo, nw.tr, tA', nw.qr, qA', nw.tq, (ne_of_none X6.top ho').symm, fun z => ?_, oo, (ne_of_none hq6 ho').symm⟩
        · rcases List.mem_append.mp hb with w | w
          · exact nw.all b w
          · rw [List.mem_singleton.mp w]; exact fx
        · rcases List.mem_append.mp z with z | z
          · obtain ⟨u, hu⟩ := X6.mem z
            rw [ho'] at hu; cases hu
          · simp at z; exact ox z
  · rintro σ H2 ⟨x5, x6, x7, x8, A1, L, O, o', ts, ps, rfl, X, G, O2, hl, hO3, ho, ht, lts, hq, lps, s2, p2, nw⟩
    have O3 := hO3 (by omega)
    refine ⟨_, rfl, _, rfl, _, rfl, (by show 3 ≤ sizeLine; decide), fun z nz => ?_⟩
    have gz := same_new nz (.tup [.ref r, .ref t, .ref q])
    have GG : Good L := by
      match O, O3, G with
      | [x, y, w'], _, G => exact half_good G (by omega)
    exact k z r t q A1 L _ (s2.trans (.of gz)) (p2.kept gz) upd_same (X.kept gz) GG (by omega) nw.top nw.all
end
section
variable {P : Program} {w : World} {K : PySem.W.Frag} {mg : Str → Option Value} {base : Heap}
def spThird : Sp := fun vs H Q _ => ∃ (t : Addr) (W : Rows) (p q : Nat) (row : List Nat) (v : Nat), vs = [.ref t, vn p, vn q] ∧ WebAt H t W ∧ W[q]? = some row ∧ p ∈ row ∧ prevB row p = some v ∧ Q (vn v) H
theorem ok_law_third {f : Addr} {fd : FuncData} (F : Fun K "_law_third" "_law_third" s_law_third f fd) : FnOk P w K mg base CX0 1 f fd ["_law_web_here", "_law_p", "_law_q"] (spThird) := by
  refine F.ok sc_law_third (fun vs H Q E h => ?_) (fun cdv A outer s H vs Q E hr h => ?_)
  · obtain ⟨t, W, p, q, row, v, rfl, _⟩ := h
    rfl
  obtain ⟨t, W, p, q, row, v, rfl, hW, hq, hp, hv, k⟩ := h
  refine ⟨_, (pss_one (ps_ret (pe_ix ix_tup (pe_ix ix_tup (pv 0) (pv 2) (fun _ _ => rfl)) (pe_op op_sub (pe_bm PySem.F.plainAttrs_tuple PySem.F.slot_tuple_index PySem.F.type_tuple_index mt_indexT (pe_ix ix_tup (pv 0) (pv 2) (fun _ _ => rfl)) (pa_cons (pv 1) pa_nil)) pe_int) (fun _ _ => rfl)))), ?_⟩
  obtain ⟨ts, h1, _, h3⟩ := hW.at
  obtain ⟨b, e1, e2⟩ := h3 q row hq
  refine ⟨_, rfl, _, rfl, t, _, _, _, rfl, rfl, SqT.of h1, e1, _, rfl, _, rfl, t, _, _, _, rfl, rfl, SqT.of h1, e1, .inr (.inl ⟨rfl, .inr ⟨_, e2⟩⟩), ?_⟩
  exact ⟨_, rfl, b, row.map ci, p, row.idxOf p, rfl, rfl, SqT.of (by rw [e2, vn_map]), firstAt_nat hp, _, _, rfl, rfl, b, _, _, _, rfl, rfl, SqT.of e2, at_prev hp hv, k⟩
end
section
variable {P : Program} {w : World} {K : PySem.W.Frag} {mg : Str → Option Value} {base : Heap}
def prZ (t : Nat × Nat) : List Int := [(t.1 : Int), (t.2 : Int)]
theorem sort_pairs {H : Hp} {s : Addr} {T : List (Nat × Nat)} (h : PairsAt H s T) : ∃ ps : List (Addr × List Int), H s = some (.lst (ps.map fun q => V.ref q.1)) ∧ Tups H ps ∧
    ∀ (l : Addr) (ps' : List (Addr × List Int)), H l = none → ps'.Perm ps → ps'.Pairwise (fun a b => Srt.lexLt b.2 a.2 = false) → PairsAt (upd H l (.lst (ps'.map fun q => V.ref q.1))) l (Fc.sortP T) := by
  obtain ⟨ss, h1, h2, h3⟩ := h
  have e1 : (ss.zip (T.map prZ)).map (fun q => V.ref q.1) = ss.map V.ref := by
    rw [show (fun q : Addr × List Int => V.ref q.1) = V.ref ∘ Prod.fst from rfl, ← List.map_map, List.map_fst_zip (by rw [List.length_map]; omega)]
  have mem : ∀ q ∈ ss.zip (T.map prZ), ∃ t : Nat × Nat, q.2 = prZ t ∧ H q.1 = some (.tup [vn t.1, vn t.2]) := fun q hq => by
    obtain ⟨i, hi, rfl⟩ := List.mem_iff_getElem.mp hq
    rw [List.length_zip, List.length_map] at hi
    refine ⟨T[i]'(by omega), by simp, ?_⟩
    have := h3 i (ss[i]'(by omega)) (T[i]'(by omega)) (List.getElem?_eq_getElem _) (List.getElem?_eq_getElem _)
    simpa using this
  refine ⟨ss.zip (T.map prZ), by rw [e1]; exact h1, fun q hq => ?_, fun l ps' nl pm sr => ?_⟩
  · obtain ⟨t, e, ht⟩ := mem q hq
    rw [e]
    exact ⟨ht, by simp [prZ]⟩
  · have back : ∃ T' : List (Nat × Nat), ps'.map (·.2) = T'.map prZ ∧ T'.Perm T := by
      have pz : (ps'.map (·.2)).Perm (T.map prZ) := by
        have := pm.map (fun q : Addr × List Int => q.2)
        rwa [List.map_snd_zip (by rw [List.length_map]; omega)] at this
      obtain ⟨m, a, b⟩ := Srt.perm_back pz rfl
      exact ⟨m, b, a⟩
    obtain ⟨T', eT, pT⟩ := back
    have srt : T'.Pairwise (fun a b => Fc.leP a b = true) := by
      have a1 : (ps'.map (·.2)).Pairwise (fun a b => Srt.lexLt b a = false) := List.pairwise_map.mpr sr
      rw [eT] at a1
      refine (List.pairwise_map.mp a1).imp fun {a b} hh => ?_
      rw [← Fc.leP_leL, Fc.leL_iff]
      exact hh
    have eq := Fc.sortP_is pT srt
    have ln : ps'.length = T'.length := by
      have := congrArg List.length eT
      simpa using this
    refine ⟨ps'.map (·.1), by rw [List.map_map]; exact upd_same, by rw [← eq, List.length_map, ln], fun i b t e1 e2 => ?_⟩
    rw [← eq] at e2
    have hi := (List.getElem?_eq_some_iff.mp e2).1
    have hi' : i < ps'.length := by omega
    rw [List.getElem?_map, List.getElem?_eq_getElem hi'] at e1
    have e1 : ps'[i].1 = b := Option.some.inj e1
    have e3 : ps'[i].2 = prZ t := by
      have := congrArg (fun l => l[i]?) eT
      rw [List.getElem?_map, List.getElem?_map, e2, List.getElem?_eq_getElem hi'] at this
      exact Option.some.inj this
    obtain ⟨t', e4, ht⟩ := mem ps'[i] (pm.mem_iff.mp (List.getElem_mem hi'))
    have tt : t' = t := by
      rw [e4] at e3
      unfold prZ at e3
      injection e3 with z1 z2
      injection z2 with z2 _
      exact Prod.ext (by omega) (by omega)
    rw [← e1, upd_ne (ne_of_none ht nl), ht, tt]
def spSteps : Sp := fun vs H Q _ => ∃ (t : Addr) (W : Rows), vs = [.ref t] ∧ WebAt H t W ∧ Nb W ∧ W.length ≤ 42 ∧
  ∀ (s : Addr) (H' : Hp), Same H H' → H s = none → PairsAt H' s (Fc.stepsS W) → Q (.ref s) H'
theorem steps_take (W : Rows) (i : Nat) (hi : i < W.length) : stepsL (W.take (i + 1)) = stepsL (W.take i) ++ (W[i].map fun q => (i, q)) := by
  unfold stepsL
  rw [List.length_take, List.length_take, Nat.min_eq_left (by omega), Nat.min_eq_left (by omega), List.range_succ, List.flatMap_append]
  congr 1
  · rw [List.flatMap_def, List.flatMap_def]
    congr 1
    refine List.map_congr_left fun p hp => ?_
    have := List.mem_range.mp hp
    simp only [List.getD_eq_getElem?_getD]
    rw [List.getElem?_take_of_lt (by omega), List.getElem?_take_of_lt (by omega)]
  · rw [List.flatMap_singleton]
    simp only [List.getD_eq_getElem?_getD]
    rw [List.getElem?_take_of_lt (by omega), List.getElem?_eq_getElem hi]
    rfl
theorem Nb.take_len {W : Rows} (S : Nb W) (h : W.length ≤ 42) (i : Nat) : (stepsL (W.take i)).length ≤ 1764 := by
  have a := steps_le S h
  have : (stepsL (W.take i)).length ≤ (stepsL W).length := by
    rw [steps_len_aux, steps_len_aux]
    conv => rhs; rw [← List.take_append_drop i W]
    rw [List.map_append, List.sum_append]
    omega
  omega
theorem ok_steps_of {f : Addr} {fd : FuncData} (F : Fun K "steps_of" "steps_of" s_steps_of f fd) (z_sorted : mg "sorted" = none) (z_enumerate : mg "enumerate" = none) : FnOk P w K mg base CX0 1 f fd ["web"] (spSteps) := by
  refine F.ok sc_steps_of (fun vs H Q E h => ?_) (fun cdv A outer s0 H vs Q E hr h => ?_)
  · obtain ⟨t, W, rfl, _⟩ := h
    rfl
  obtain ⟨t, W, rfl, hW, S, h42, k⟩ := h
  refine ⟨_, (pss_one (ps_ret (pe_callB call_sortT rfl z_sorted PyProof.Rows.boot_sorted (pa_cons (pe_lc2x (Nc := ["p", "row", "q"]) (js := [none, none, none]) rfl rfl (pi_enum false rfl z_enumerate (pa_cons (pv 0) pa_nil)) (CS.of rfl rfl) rfl (fun C s₂ H₂ fp pins => (show PG _ _ (gTup K 2 _) from pg_tup rfl (pgs_cons (pg_name (i := 0) (show List.Nodup (α := Str) ["p", "row", "q"] by decide +kernel) rfl (Or.inl rfl)) (pgs_cons (pg_name (i := 1) (show List.Nodup (α := Str) ["p", "row", "q"] by decide +kernel) rfl (Or.inl rfl)) pgs_nil)))) (fun C s₂ H₂ fp pins => (show PI _ _ _ (iTup K _) from (pi_tup (pv 1)))) (fun C s₂ H₂ fp pins => (pg_name (i := 2) (show List.Nodup (α := Str) ["p", "row", "q"] by decide +kernel) rfl (Or.inl rfl))) (fun C s₂ H₂ fp pins D L => (pt_tail0 (pb_app (pe_tup (pa_cons (pv 0) (pa_cons (pv 2) pa_nil))))))) pa_nil)))), ?_⟩
  obtain ⟨ts, h1, lts, h3⟩ := id hW
  refine ⟨_, rfl, t, rfl, ⟨_, SqT.of h1⟩, fun D nD => ?_⟩
  refine walk_enum (k := false) (xs := ts.map V.ref) (fun i σ H2 => ∃ (x0 x1 x2 : Option V), σ = [x0, x1, x2] ∧ Same H H2 ∧ PairsAt H2 D (stepsL (W.take i)))
    ⟨none, none, none, rfl, same_new nD _, ⟨[], upd_same, rfl, fun i b t e => by simp at e⟩⟩ ?_ ?_ ?_
  · rintro i σ H2 _ ⟨x0, x1, x2, rfl, g2, _⟩
    exact SqT.of (g2 _ _ h1)
  · rintro i x T σ H2 hx nT ⟨x0, x1, x2, rfl, g2, pr⟩
    rw [List.getElem?_map] at hx
    obtain ⟨a, ea, rfl⟩ := Option.map_eq_some_iff.mp hx
    have hi : i < W.length := by rw [← lts]; exact (List.getElem?_eq_some_iff.mp ea).1
    have har := h3 i a _ ea (List.getElem?_eq_getElem hi)
    have rl := S.len (List.getElem?_eq_getElem hi)
    have gT := same_new nT (.tup [.int i, .ref a])
    refine ⟨T, _, rfl, SqT.of upd_same, rfl, _, _, rfl, _, _, rfl, rfl, ?_⟩
    have g3 := g2.trans gT
    have pr3 := pr.kept gT
    generalize upd H2 T (.tup [.int i, .ref a]) = H3 at *
    refine ⟨_, rfl, a, rfl, ⟨_, SqT.of (g3 _ _ har)⟩, ?_⟩
    refine walk_tup (xs := W[i].map vn) (fun j σ H4 => ∃ (x2 : Option V), σ = [some (vn i), some (.ref a), x2] ∧ Same H H4 ∧ PairsAt H4 D (stepsL (W.take i) ++ ((W[i].take j).map fun q => (i, q)))) ⟨x2, rfl, g3, by simpa using pr3⟩ ?_ ?_ ?_
    · rintro j σ H4 _ ⟨x2, rfl, g4, _⟩
      exact SqT.of (g4 _ _ har)
    · rintro j v σ H4 hv ⟨x2, rfl, g4, pr4⟩
      rw [List.getElem?_map] at hv
      obtain ⟨q, eq', rfl⟩ := Option.map_eq_some_iff.mp hv
      have hj := (List.getElem?_eq_some_iff.mp eq').1
      refine ⟨_, rfl, _, rfl, (by show 2 ≤ sizeLine; decide), fun b nb => ?_⟩
      have gb := same_new nb (.tup [vn i, vn q])
      have hb := upd_same (H := H4) (a := b) (o := .tup [vn i, vn q])
      have pr5 := pr4.kept gb
      have g5 := g4.trans gb
      refine (fun (z : upd H4 b (.tup [vn i, vn q]) b = some (.tup [vn i, vn q])) => ?_) hb
      generalize upd H4 b (.tup [vn i, vn q]) = H5 at *
      obtain ⟨ss, c1, c2, c3⟩ := id pr5
      have l1 := Nb.take_len S h42 i
      have l2 : ss.length ≤ 1764 + 42 := by
        rw [c2, List.length_append, List.length_map, List.length_take]
        omega
      refine ⟨_, c1, (by rw [List.length_map]; exact small20k (by omega)), ?_⟩
      have A1 := PairsAt.app (H' := H5) c1 c2 c3 (t := (i, q)) z
      refine ⟨_, rfl, same_at nD g5, ?_⟩
      have tk : (W[i].take (j + 1)).map (fun q => (i, q)) = (W[i].take j).map (fun q => (i, q)) ++ [(i, q)] := by rw [List.take_succ, eq', List.map_append]; rfl
      rw [tk, ← List.append_assoc]
      exact A1
    · rintro σ H4 ⟨x2, rfl, g4, pr4⟩
      rw [List.length_map, List.take_length] at pr4
      exact ⟨_, _, _, rfl, g4, by rw [steps_take W i hi]; exact pr4⟩
  · rintro σ H2 ⟨x0, x1, x2, rfl, g2, pr⟩
    rw [List.length_map, lts, List.take_length] at pr
    obtain ⟨ps, e1, e2, e3⟩ := sort_pairs pr
    refine ⟨D, ps, rfl, .inl (SqL.of e1), e2, fun l ps' nl pm sr => ?_⟩
    exact k l _ (g2.trans (same_new nl _)) (g2.free nl) (e3 l ps' nl pm sr)
end
section
variable {P : Program} {w : World} {K : PySem.W.Frag} {mg : Str → Option Value} {base : Heap}
def RowsT (H : Hp) (s : Addr) (T : List (List Nat)) : Prop := ∃ ss : List Addr, H s = some (.lst (ss.map V.ref)) ∧ ss.length = T.length ∧ ∀ (i : Nat) (b : Addr) (t : List Nat), ss[i]? = some b → T[i]? = some t → H b = some (.tup (t.map vn))
theorem RowsT.app {H : Hp} {s b : Addr} {ss : List Addr} {T : List (List Nat)} {t : List Nat} (h1 : H s = some (.lst (ss.map V.ref))) (h2 : ss.length = T.length) (h3 : ∀ (i : Nat) (b : Addr) (t : List Nat), ss[i]? = some b → T[i]? = some t → H b = some (.tup (t.map vn))) (hb : H b = some (.tup (t.map vn))) :
    RowsT (upd H s (.lst (ss.map V.ref ++ [.ref b]))) s (T ++ [t]) := by
  refine ⟨ss ++ [b], by rw [List.map_append]; exact upd_same, by simp [h2], fun i c u e1 e2 => ?_⟩
  have cs : c ≠ s → upd H s (.lst (ss.map V.ref ++ [.ref b])) c = H c := fun z => upd_ne z
  rcases Nat.lt_or_ge i ss.length with hl | hl
  · rw [List.getElem?_append_left hl] at e1
    rw [List.getElem?_append_left (by omega)] at e2
    have := h3 i c u e1 e2
    rw [cs (ne_of this h1 (by simp))]
    exact this
  · obtain rfl : i = ss.length := by
      have := (List.getElem?_eq_some_iff.mp e1).1
      simp at this
      omega
    rw [List.getElem?_concat_length] at e1
    rw [h2, List.getElem?_concat_length] at e2
    cases e1
    cases e2
    rw [cs (ne_of hb h1 (by simp))]
    exact hb
theorem sort_rows {H : Hp} {s : Addr} {T : List (List Nat)} (h : RowsT H s T) (hne : ∀ t ∈ T, t ≠ []) : ∃ ps : List (Addr × List Int), H s = some (.lst (ps.map fun q => V.ref q.1)) ∧ Tups H ps ∧
    ∀ (l : Addr) (ps' : List (Addr × List Int)), H l = none → ps'.Perm ps → ps'.Pairwise (fun a b => Srt.lexLt b.2 a.2 = false) → RowsT (upd H l (.lst (ps'.map fun q => V.ref q.1))) l (Fc.sortL T) := by
  obtain ⟨ss, h1, h2, h3⟩ := h
  have e1 : (ss.zip (T.map Fc.zl)).map (fun q => V.ref q.1) = ss.map V.ref := by
    rw [show (fun q : Addr × List Int => V.ref q.1) = V.ref ∘ Prod.fst from rfl, ← List.map_map, List.map_fst_zip (by rw [List.length_map]; omega)]
  have vz : ∀ t : List Nat, (Fc.zl t).map V.int = t.map vn := fun t => by unfold Fc.zl; rw [List.map_map]; rfl
  have mem : ∀ q ∈ ss.zip (T.map Fc.zl), ∃ t : List Nat, t ∈ T ∧ q.2 = Fc.zl t ∧ H q.1 = some (.tup (t.map vn)) := fun q hq => by
    obtain ⟨i, hi, rfl⟩ := List.mem_iff_getElem.mp hq
    rw [List.length_zip, List.length_map] at hi
    refine ⟨T[i]'(by omega), List.getElem_mem _, by simp, ?_⟩
    have := h3 i (ss[i]'(by omega)) (T[i]'(by omega)) (List.getElem?_eq_getElem _) (List.getElem?_eq_getElem _)
    simpa using this
  refine ⟨ss.zip (T.map Fc.zl), by rw [e1]; exact h1, fun q hq => ?_, fun l ps' nl pm sr => ?_⟩
  · obtain ⟨t, m, e, ht⟩ := mem q hq
    rw [e, vz]
    refine ⟨ht, fun z => hne t m ?_⟩
    unfold Fc.zl at z
    exact List.map_eq_nil_iff.mp z
  · have back : ∃ T' : List (List Nat), ps'.map (·.2) = T'.map Fc.zl ∧ T'.Perm T := by
      have pz : (ps'.map (·.2)).Perm (T.map Fc.zl) := by
        have := pm.map (fun q : Addr × List Int => q.2)
        rwa [List.map_snd_zip (by rw [List.length_map]; omega)] at this
      obtain ⟨m, a, b⟩ := Srt.perm_back pz rfl
      exact ⟨m, b, a⟩
    obtain ⟨T', eT, pT⟩ := back
    have srt : T'.Pairwise (fun a b => Fc.leL a b = true) := by
      have a1 : (ps'.map (·.2)).Pairwise (fun a b => Srt.lexLt b a = false) := List.pairwise_map.mpr sr
      rw [eT] at a1
      refine (List.pairwise_map.mp a1).imp fun {a b} hh => ?_
      rw [Fc.leL_iff]
      exact hh
    have eq := Fc.sortL_is pT srt
    have ln : ps'.length = T'.length := by
      have := congrArg List.length eT
      simpa using this
    refine ⟨ps'.map (·.1), by rw [List.map_map]; exact upd_same, by rw [← eq, List.length_map, ln], fun i b t e1 e2 => ?_⟩
    rw [← eq] at e2
    have hi := (List.getElem?_eq_some_iff.mp e2).1
    have hi' : i < ps'.length := by omega
    rw [List.getElem?_map, List.getElem?_eq_getElem hi'] at e1
    have e1 : ps'[i].1 = b := Option.some.inj e1
    have e3 : ps'[i].2 = Fc.zl t := by
      have := congrArg (fun l => l[i]?) eT
      rw [List.getElem?_map, List.getElem?_map, e2, List.getElem?_eq_getElem hi'] at this
      exact Option.some.inj this
    obtain ⟨t', m, e4, ht⟩ := mem ps'[i] (pm.mem_iff.mp (List.getElem_mem hi'))
    have tt : t' = t := by
      rw [e4] at e3
      exact Fc.zl_inj e3
    rw [← e1, upd_ne (ne_of_none ht nl), ht, tt]
def spTies : Sp := fun vs H Q _ => ∃ (t : Addr) (W : Rows), vs = [.ref t] ∧ WebAt H t W ∧ Nb W ∧ W.length ≤ 42 ∧
  ∀ (s : Addr) (H' : Hp), Same H H' → H s = none → PairsAt H' s (Fc.tiesS W) → Q (.ref s) H'
theorem stepsS_len {W : Rows} (S : Nb W) (h : W.length ≤ 42) : (Fc.stepsS W).length ≤ 1764 := by
  have := steps_le S h
  rw [show (Fc.stepsS W).length = (stepsL W).length from (Fc.sortP_perm _).length_eq]
  exact this
theorem ok_ties {f : Addr} {fd : FuncData} (F : Fun K "ties" "ties" s_ties f fd) (h_steps_of : Own.Has P w K mg base "steps_of" ["web"] 1 (spSteps)) : FnOk P w K mg base CX0 2 f fd ["web"] (spTies) := by
  refine F.ok sc_ties (fun vs H Q E h => ?_) (fun cdv A outer s0 H vs Q E hr h => ?_)
  · obtain ⟨t, W, rfl, _⟩ := h
    rfl
  obtain ⟨t, W, rfl, hW, S, h42, k⟩ := h
  refine ⟨_, (pss_one (ps_ret (pe_lc1x (Nc := ["p", "q"]) (js := [none, none]) rfl rfl (pi_list (Own.pe_has h_steps_of (hr.mono (by decide)) rfl (pa_cons (pv 0) pa_nil))) (CS.of rfl rfl) rfl (fun C s₂ H₂ fp pins => (show PG _ _ (gTup K 2 _) from pg_tup rfl (pgs_cons (pg_name (i := 0) (show List.Nodup (α := Str) ["p", "q"] by decide +kernel) rfl (Or.inl rfl)) (pgs_cons (pg_name (i := 1) (show List.Nodup (α := Str) ["p", "q"] by decide +kernel) rfl (Or.inl rfl)) pgs_nil)))) (fun C s₂ H₂ fp pins D L => (pt_tail1 (pt_cmpR op_lt (pv 0) (pv 1) (nomark _)) (pb_app (pe_tup (pa_cons (pv 0) (pa_cons (pv 1) pa_nil))))))))), ?_⟩
  have l1 := stepsS_len S h42
  refine ⟨_, rfl, t, W, rfl, hW, S, h42, fun s H1 g1 ns pr => ?_⟩
  obtain ⟨ss, h1, h2, h3⟩ := id pr
  refine ⟨s, rfl, ⟨_, SqL.of h1⟩, fun D nD => ?_⟩
  refine walk_list (xs := ss.map V.ref) (fun i σ H2 => ∃ (x0 x1 : Option V), σ = [x0, x1] ∧ Same H1 H2 ∧ PairsAt H2 D (((Fc.stepsS W).take i).filter fun t => decide (t.1 < t.2)))
    ⟨none, none, rfl, same_new nD _, ⟨[], upd_same, rfl, fun i b t e => by simp at e⟩⟩ ?_ ?_ ?_
  · rintro i σ H2 _ ⟨x0, x1, rfl, g2, _⟩
    exact SqL.of (g2 _ _ h1)
  · rintro i x σ H2 hx ⟨x0, x1, rfl, g2, pr2⟩
    rw [List.getElem?_map] at hx
    obtain ⟨b, eb, rfl⟩ := Option.map_eq_some_iff.mp hx
    have hi : i < (Fc.stepsS W).length := by rw [← h2]; exact (List.getElem?_eq_some_iff.mp eb).1
    have et := List.getElem?_eq_getElem hi
    have hb := h3 i b _ eb et
    have tk : (Fc.stepsS W).take (i + 1) = (Fc.stepsS W).take i ++ [(Fc.stepsS W)[i]] := by rw [List.take_succ, et]; rfl
    generalize (Fc.stepsS W)[i] = t at *
    refine ⟨b, _, rfl, SqT.of (g2 _ _ hb), rfl, _, _, rfl, _, _, rfl, rfl, ?_⟩
    refine ⟨_, rfl, _, rfl, _, _, rfl, rfl, _, rfl, ?_⟩
    rw [tk]
    refine ite2 (fun z => ?_) (fun z => ?_)
    · have z := of_decide_eq_true z
      refine ⟨_, rfl, _, rfl, (by show 2 ≤ sizeLine; decide), fun c nc => ?_⟩
      have gc := same_new nc (.tup [vn t.1, vn t.2])
      have hc := upd_same (H := H2) (a := c) (o := .tup [vn t.1, vn t.2])
      have pr3 := pr2.kept gc
      have g3 := g2.trans gc
      refine (fun (y : upd H2 c (.tup [vn t.1, vn t.2]) c = some (.tup [vn t.1, vn t.2])) => ?_) hc
      generalize upd H2 c (.tup [vn t.1, vn t.2]) = H3 at *
      obtain ⟨cs, c1, c2, c3⟩ := id pr3
      have lc : cs.length ≤ 1764 := by
        rw [c2]
        have := List.length_filter_le (fun t : Nat × Nat => decide (t.1 < t.2)) ((Fc.stepsS W).take i)
        rw [List.length_take] at this
        omega
      refine ⟨_, c1, (by rw [List.length_map]; exact small20k (by omega)), ?_⟩
      refine ⟨_, _, rfl, same_at nD g3, ?_⟩
      rw [List.filter_append, List.filter_cons, if_pos (by exact decide_eq_true (by omega))]
      exact PairsAt.app (H' := H3) c1 c2 c3 y
    · have z : ¬ (t.1 : Int) < (t.2 : Int) := fun q => z (decide_eq_true q)
      refine ⟨_, _, rfl, g2, ?_⟩
      rw [List.filter_append, List.filter_cons, if_neg (by intro q; have := of_decide_eq_true q; omega)]
      simpa using pr2
  · rintro σ H2 ⟨x0, x1, rfl, g2, pr2⟩
    rw [List.length_map, h2, List.take_length] at pr2
    exact k D H2 (g1.trans g2) (g1.free nD) pr2
end
section
variable {P : Program} {w : World} {K : PySem.W.Frag} {mg : Str → Option Value} {base : Heap}
def pk (t : Nat × Nat) : List Key := [Sum.inl (t.1 : Int), Sum.inl (t.2 : Int)]
theorem pk_inj {a b : Nat × Nat} (h : pk a = pk b) : a = b := by
  unfold pk at h
  injection h with h1 h2
  injection h2 with h2 _
  have := Sum.inl.inj h1
  have := Sum.inl.inj h2
  exact Prod.ext (by omega) (by omega)
def SeenAt (H : Hp) (d : Addr) (X : List (Nat × Nat)) : Prop := ∃ kvs : List (List Key × V), H d = some (.dT kvs) ∧ (∀ t : Nat × Nat, (valV kvs (pk t)).isSome = decide (t ∈ X)) ∧ kvs.length ≤ X.length ∧ ∀ y ∈ kvs, ∃ t ∈ X, y.1 = pk t
theorem SeenAt.kept {H H' : Hp} {d : Addr} {X : List (Nat × Nat)} (h : SeenAt H d X) (g : Same H H') : SeenAt H' d X := by
  obtain ⟨kvs, a, b⟩ := h
  exact ⟨kvs, g _ _ a, b⟩
theorem seen_nil {H : Hp} {d : Addr} : SeenAt (upd H d (.dT [])) d [] := ⟨[], upd_same, fun t => by simp [valV], Nat.le_refl _, fun y hy => nomatch hy⟩
theorem keys_put {kvs : List (List Key × V)} {k : List Key} {v : V} {y : List Key × V} (h : y ∈ putK kvs k v) : y.1 = k ∨ ∃ z ∈ kvs, z.1 = y.1 := by
  unfold putK at h
  split at h
  · obtain ⟨z, hz, rfl⟩ := List.mem_map.mp h
    split
    · exact .inr ⟨z, hz, rfl⟩
    · exact .inr ⟨z, hz, rfl⟩
  · rcases List.mem_append.mp h with z | z
    · exact .inr ⟨y, z, rfl⟩
    · exact .inl (by rw [List.mem_singleton.mp z])
theorem seen_put1 {kvs : List (List Key × V)} {X : List (Nat × Nat)} {t : Nat × Nat} {v : V} (h1 : ∀ t : Nat × Nat, (valV kvs (pk t)).isSome = decide (t ∈ X)) (h2 : kvs.length ≤ X.length) (h3 : ∀ y ∈ kvs, ∃ t ∈ X, y.1 = pk t) :
    (∀ u : Nat × Nat, (valV (putK kvs (pk t) v) (pk u)).isSome = decide (u ∈ X ++ [t])) ∧ (putK kvs (pk t) v).length ≤ (X ++ [t]).length ∧ ∀ y ∈ putK kvs (pk t) v, ∃ u ∈ X ++ [t], y.1 = pk u := by
  refine ⟨fun u => ?_, ?_, fun y hy => ?_⟩
  · rw [valV_put]
    by_cases e : pk u = pk t
    · rw [if_pos e, pk_inj e]
      simp
    · rw [if_neg e, h1 u]
      have : u ≠ t := fun z => e (by rw [z])
      simp [this]
  · have := length_putK kvs (pk t) v
    rw [List.length_append, List.length_singleton]
    omega
  · rcases keys_put hy with e | ⟨z, hz, e⟩
    · exact ⟨t, by simp, e⟩
    · obtain ⟨u, hu, eu⟩ := h3 z hz
      exact ⟨u, List.mem_append_left _ hu, by rw [← e, eu]⟩
theorem foldK_val : ∀ (more kvs : List (List Key × V)) (k : List Key), (valV (foldK kvs more) k).isSome = ((valV kvs k).isSome || (valV more k).isSome)
  | [], kvs, k => by simp [foldK, valV]
  | m :: more, kvs, k => by
    have := foldK_val more (putK kvs m.1 m.2) k
    unfold foldK at this ⊢
    rw [List.foldl_cons, this, valV_put]
    by_cases e : m.1 = k
    · rw [if_pos e.symm, valV_pos e]
      simp
    · rw [if_neg (fun z => e z.symm), valV_neg e]
theorem foldK_len : ∀ (more kvs : List (List Key × V)), (foldK kvs more).length ≤ kvs.length + more.length
  | [], kvs => Nat.le_refl _
  | m :: more, kvs => by
    have := foldK_len more (putK kvs m.1 m.2)
    have := length_putK kvs m.1 m.2
    unfold foldK at *
    rw [List.foldl_cons, List.length_cons]
    omega
theorem foldK_keys : ∀ (more kvs : List (List Key × V)) (y : List Key × V), y ∈ foldK kvs more → (∃ z ∈ kvs, z.1 = y.1) ∨ ∃ z ∈ more, z.1 = y.1
  | [], kvs, y, h => .inl ⟨y, h, rfl⟩
  | m :: more, kvs, y, h => by
    have h : y ∈ foldK (putK kvs m.1 m.2) more := h
    rcases foldK_keys more _ y h with ⟨z, hz, e⟩ | ⟨z, hz, e⟩
    · rcases keys_put hz with e2 | ⟨z2, hz2, e2⟩
      · exact .inr ⟨m, List.mem_cons_self .., by rw [← e, e2]⟩
      · exact .inl ⟨z2, hz2, by rw [e2, e]⟩
    · exact .inr ⟨z, List.mem_cons_of_mem _ hz, e⟩
theorem SeenAt.upd {H : Hp} {d : Addr} {X Y : List (Nat × Nat)} {kvs more : List (List Key × V)} (h1 : ∀ t : Nat × Nat, (valV kvs (pk t)).isSome = decide (t ∈ X)) (h2 : kvs.length ≤ X.length) (h3 : ∀ y ∈ kvs, ∃ t ∈ X, y.1 = pk t)
    (m1 : ∀ t : Nat × Nat, (valV more (pk t)).isSome = decide (t ∈ Y)) (m2 : more.length ≤ Y.length) (m3 : ∀ y ∈ more, ∃ t ∈ Y, y.1 = pk t) : SeenAt (L2.upd H d (.dT (foldK kvs more))) d (X ++ Y) := by
  refine ⟨_, upd_same, fun t => ?_, ?_, fun y hy => ?_⟩
  · rw [foldK_val, h1, m1, Bool.eq_iff_iff, Bool.or_eq_true, decide_eq_true_iff, decide_eq_true_iff, decide_eq_true_iff, List.mem_append]
  · have := foldK_len more kvs
    rw [List.length_append]
    omega
  · rcases foldK_keys more kvs y hy with ⟨z, hz, e⟩ | ⟨z, hz, e⟩
    · obtain ⟨u, hu, eu⟩ := h3 z hz
      exact ⟨u, List.mem_append_left _ hu, by rw [← e, eu]⟩
    · obtain ⟨u, hu, eu⟩ := m3 z hz
      exact ⟨u, List.mem_append_right _ hu, by rw [← e, eu]⟩
theorem turns_per {W : Rows} {p q k : Nat} (T : Turns W p q k) : Fc.per W (p, q) = k := Fc.per_is T.pos T.back T.first
theorem turns_rnd {W : Rows} {p q k : Nat} (T : Turns W p q k) : orb W p q k = Fc.rnd W (p, q) := by
  unfold orb Fc.rnd
  rw [turns_per T]
end
section
variable {P : Program} {w : World} {K : PySem.W.Frag} {mg : Str → Option Value} {base : Heap}
def spFaces : Sp := fun vs H Q _ => ∃ (t : Addr) (W : Rows), vs = [.ref t] ∧ WebAt H t W ∧ Nb W ∧ W.length ≤ 42 ∧
  ∀ (s : Addr) (H' : Hp), Same H H' → H s = none → RowsT H' s (Fc.facesS W) → Q (.ref s) H'
theorem rnd_ne {W : Rows} (S : Nb W) {t : Nat × Nat} (h : t ∈ stepsL W) : (Fc.rnd W t).map (·.1) ≠ [] := fun z => by
  have := Fc.rnd_self S h
  rw [List.map_eq_nil_iff.mp z] at this
  cases this
theorem faces_ne {W : Rows} (S : Nb W) {T : List (Nat × Nat)} (hT : ∀ t ∈ T, t ∈ stepsL W) : ∀ f ∈ (Fc.fgo W T).1, f ≠ [] := fun f hf => by
  obtain ⟨R, r1, r2, _⟩ := (Fc.fgo_ok S T hT).reps
  rw [r2] at hf
  obtain ⟨r, hr, rfl⟩ := List.mem_map.mp hf
  exact rnd_ne S (hT r (r1 r hr))
theorem stepsS_sub {W : Rows} : ∀ t ∈ Fc.stepsS W, t ∈ stepsL W := fun t h => (Fc.sortP_perm _).mem_iff.mp h
theorem small42 {W : Rows} (S : Nb W) (h : W.length ≤ 42) {t : Nat × Nat} (ht : t ∈ stepsL W) : t.1 < 42 ∧ t.2 < 42 := by
  have := S.e (mem_steps.mp (show (t.1, t.2) ∈ stepsL W from ht))
  omega
theorem ok_faces {f : Addr} {fd : FuncData} (F : Fun K "faces" "faces" s_faces f fd) (h_steps_of : Own.Has P w K mg base "steps_of" ["web"] 1 (spSteps)) (h_steps_round : Own.Has P w K mg base "steps_round" ["web", "step"] 2 (spRoundG)) (z_tuple : mg "tuple" = none) (z_sorted : mg "sorted" = none) : FnOk P w K mg base CX0 3 f fd ["web"] (spFaces) := by
  refine F.ok sc_faces (fun vs H Q E h => ?_) (fun cdv A outer s0 H vs Q E hr h => ?_)
  · obtain ⟨t, W, rfl, _⟩ := h
    rfl
  obtain ⟨t, W, rfl, hW, S, h42, k⟩ := h
  refine ⟨_, (pss_cons (ps_set (i := 1) sc_faces.nd rfl (Or.inl rfl) (pe_lst pa_nil))
      (pss_cons (ps_set (i := 2) sc_faces.nd rfl (Or.inl rfl) pe_dnewT)
      (pss_cons (ps_for PassesOwn.never rfl (pi_list (Own.pe_has h_steps_of (hr.mono (by decide)) rfl (pa_cons (pv 0) pa_nil))) (pg_name (i := 3) sc_faces.nd rfl (Or.inl rfl)) (pss_one (ps_if (pt_cmp (pc_dnotin (hu_of hr) (pv 3) (pv 2))) (pss_cons (ps_set (i := 4) sc_faces.nd rfl (Or.inl rfl) (Own.pe_has h_steps_round (hr.mono (by decide)) rfl (pa_cons (pv 0) (pa_cons (pv 3) pa_nil))))
      (pss_cons (ps_expr (pe_bm PySem.F.plainAttrs_dict PySem.F.slot_dict_update PySem.F.type_dict_update (mt_updT (hu_of hr)) (pv 2) (pa_cons (pe_dc1t (Nc := ["one"]) (js := [none]) rfl rfl (pi_list (pv 4)) (CS.of rfl rfl) rfl (fun C s₂ H₂ fp pins => (pg_name (i := 0) (show List.Nodup (α := Str) ["one"] by decide +kernel) rfl (Or.inl rfl))) (fun C s₂ H₂ fp pins D L => (pt_tail0 (pb_dput (hu_of hr) (pv 0) pe_bl)))) pa_nil)))
      (pss_one (ps_expr (pe_bm PySem.F.plainAttrs_list PySem.F.slot_list_append PySem.F.type_list_append mt_append (pv 1) (pa_cons (pe_callTy call_tuple_of rfl z_tuple PyProof.Rows.boot_tuple (pa_cons (pe_lc1x (Nc := ["p", "q"]) (js := [none, none]) rfl rfl (pi_list (pv 4)) (CS.of rfl rfl) rfl (fun C s₂ H₂ fp pins => (show PG _ _ (gTup K 2 _) from pg_tup rfl (pgs_cons (pg_name (i := 0) (show List.Nodup (α := Str) ["p", "q"] by decide +kernel) rfl (Or.inl rfl)) (pgs_cons (pg_name (i := 1) (show List.Nodup (α := Str) ["p", "q"] by decide +kernel) rfl (Or.inl rfl)) pgs_nil)))) (fun C s₂ H₂ fp pins D L => (pt_tail0 (pb_app (pv 0))))) pa_nil)) pa_nil)))))) pss_nil)))
      (pss_one (ps_ret (pe_callB call_sortT rfl z_sorted PyProof.Rows.boot_sorted (pa_cons (pv 1) pa_nil))))))), ?_⟩
  have l1 := stepsS_len S h42
  have l0 := steps_le S h42
  refine ⟨(by show 0 ≤ sizeLine; decide), fun l nl => ?_⟩
  have gl := same_new nl (.lst [])
  have hl := upd_same (H := H) (a := l) (o := .lst [])
  refine fun d nd => ?_
  have gd := same_new nd (.dT [])
  have hd := seen_nil (H := upd H l (.lst [])) (d := d)
  have nld : l ≠ d := fun z => by rw [← z, hl] at nd; cases nd
  have hl1 := gd _ _ hl
  have g1 := gl.trans gd
  have nd0 : H d = none := gl.free nd
  refine (fun (hd' : SeenAt (upd (upd H l (.lst [])) d (.dT [])) d []) => ?_) hd
  generalize upd (upd H l (.lst [])) d (.dT []) = H1 at *
  refine ⟨_, rfl, t, W, rfl, hW.kept g1, S, h42, fun s H2 g2 ns pr => ?_⟩
  obtain ⟨ss, h1, h2, h3⟩ := id pr
  have g02 := g1.trans g2
  have nsl : s ≠ l := fun z => by rw [z, hl1] at ns; cases ns
  have nsd : s ≠ d := fun z => by obtain ⟨kvs, a, _⟩ := hd'; rw [z, a] at ns; cases ns
  refine ⟨s, rfl, ⟨_, SqL.of h1⟩, ?_⟩
  refine for_list (xs := ss.map V.ref) (fun i σ H3 => ∃ (x3 x4 : Option V), σ = [some (.ref t), some (.ref l), some (.ref d), x3, x4] ∧ (∀ b o, b ≠ l → b ≠ d → H2 b = some o → H3 b = some o) ∧ RowsT H3 l (Fc.fgo W ((Fc.stepsS W).take i)).1 ∧ SeenAt H3 d (Fc.fgo W ((Fc.stepsS W).take i)).2)
    ⟨none, none, rfl, (fun b o _ _ e => e), ⟨[], g2 _ _ hl1, rfl, fun i b t e => by simp at e⟩, hd'.kept g2⟩ ?_ ?_ ?_
  · rintro i σ H3 _ ⟨x3, x4, rfl, f3, _⟩
    exact SqL.of (f3 _ _ nsl nsd h1)
  · rintro i x σ H3 hx ⟨x3, x4, rfl, f3, rt, sn⟩
    rw [List.getElem?_map] at hx
    obtain ⟨b, eb, rfl⟩ := Option.map_eq_some_iff.mp hx
    have hi : i < (Fc.stepsS W).length := by rw [← h2]; exact (List.getElem?_eq_some_iff.mp eb).1
    have et := List.getElem?_eq_getElem hi
    have hb := h3 i b _ eb et
    have tk : (Fc.stepsS W).take (i + 1) = (Fc.stepsS W).take i ++ [(Fc.stepsS W)[i]] := by rw [List.take_succ, et]; rfl
    have mt := stepsS_sub _ (List.getElem_mem hi)
    have fi := Fc.fgo_ok S ((Fc.stepsS W).take i) fun t h => stepsS_sub t (List.mem_of_mem_take h)
    have lX := fi.len
    rw [tk, Fc.fgo_snoc]
    have lF : (Fc.fgo W ((Fc.stepsS W).take i)).1.length ≤ 1764 := by
      have : ∀ T : List (Nat × Nat), (Fc.fgo W T).1.length ≤ T.length := fun T => by
        have : ∀ n, n ≤ T.length → (Fc.fgo W (T.take n)).1.length ≤ n := fun n => by
          induction n with
          | zero => intro _; rw [List.take_zero]; exact Nat.le_refl _
          | succ n ih =>
            intro hn
            rw [show T.take (n + 1) = T.take n ++ [T[n]] by rw [List.take_succ, List.getElem?_eq_getElem (by omega)]; rfl, Fc.fgo_snoc]
            have := ih (by omega)
            unfold Fc.fstep
            split
            · omega
            · rw [List.length_append]
              show _ + 1 ≤ _
              omega
        have := this T.length (Nat.le_refl _)
        rwa [List.take_length] at this
      have := this ((Fc.stepsS W).take i)
      rw [List.length_take] at this
      omega
    generalize (Fc.stepsS W)[i] = u at *
    generalize Fc.fgo W ((Fc.stepsS W).take i) = st at *
    have nbl : b ≠ l := fun z => by
      have a := g2 _ _ hl1
      rw [z, a] at hb
      cases hb
    have nbd : b ≠ d := fun z => by
      obtain ⟨kvs, a, _⟩ := hd'.kept g2
      rw [z, a] at hb
      cases hb
    have hb3 := f3 _ _ nbl nbd hb
    obtain ⟨kvs, k1, k2, k3, k4⟩ := id sn
    refine ⟨_, rfl, _, rfl, d, _, rfl, DGet.t (k := pk u) k1 hb3, _, rfl, ?_⟩
    rw [k2 u]
    unfold Fc.fstep
    by_cases c : u ∈ st.2
    · rw [decide_eq_true c, if_pos c]
      exact iteF ⟨_, _, rfl, f3, rt, sn⟩
    rw [decide_eq_false c, if_neg c]
    obtain ⟨u1, u2⟩ := u
    have hE : Tri.E W u1 u2 := mem_steps.mp mt
    have keepW : WebAt H3 t W := by
      obtain ⟨ts, q1, q2, q3⟩ := hW.kept g02
      have ok : ∀ (b : Addr) (xs : List V), H2 b = some (.tup xs) → H3 b = some (.tup xs) := fun b xs e => f3 b _ (fun z => by rw [z, g2 _ _ hl1] at e; cases e) (fun z => by obtain ⟨kvs, a, _⟩ := hd'.kept g2; rw [z, a] at e; cases e) e
      exact ⟨ts, ok _ _ q1, q2, fun j a row e1 e2 => ok _ _ (q3 j a row e1 e2)⟩
    refine iteT ⟨_, rfl, _, rfl, t, b, W, u1, u2, rfl, keepW, S, h42, hb3, hE, fun q m H4 g4 T prq => ?_⟩
    rw [turns_rnd T] at prq
    have few := T.few
    have lm := turns_per T
    obtain ⟨qs, q1, q2, q3⟩ := id prq
    have lq : (Fc.rnd W (u1, u2)).length = m := by rw [Fc.rnd_len, lm]
    refine ⟨_, rfl, .inr (.inr (.inl ⟨rfl, .inr ⟨_, g4 _ _ k1⟩⟩)), _, rfl, q, rfl, ⟨_, SqL.of q1⟩, fun D nD => ?_⟩
    refine walk_list (xs := qs.map V.ref) (fun j σ H5 => ∃ (x0 : Option V), σ = [x0] ∧ Same H4 H5 ∧ SeenAt H5 D ((Fc.rnd W (u1, u2)).take j)) ⟨none, rfl, same_new nD _, seen_nil⟩ ?_ ?_ ?_
    · rintro j σ H5 _ ⟨x0, rfl, g5, _⟩
      exact SqL.of (g5 _ _ q1)
    · rintro j v σ H5 hv ⟨x0, rfl, g5, sD⟩
      rw [List.getElem?_map] at hv
      obtain ⟨c', ec, rfl⟩ := Option.map_eq_some_iff.mp hv
      have hj : j < (Fc.rnd W (u1, u2)).length := by rw [← q2]; exact (List.getElem?_eq_some_iff.mp ec).1
      have ej := List.getElem?_eq_getElem hj
      have hc := g5 _ _ (q3 j c' _ ec ej)
      have tkj : (Fc.rnd W (u1, u2)).take (j + 1) = (Fc.rnd W (u1, u2)).take j ++ [(Fc.rnd W (u1, u2))[j]] := by rw [List.take_succ, ej]; rfl
      rw [tkj]
      generalize (Fc.rnd W (u1, u2))[j] = y at *
      obtain ⟨dv, d1, d2, d3, d4⟩ := sD
      have ld : dv.length ≤ 1764 := by rw [List.length_take] at d3; omega
      refine ⟨_, rfl, _, DPut.t (k := pk y) d1 hc (small20k (by omega)), ?_⟩
      obtain ⟨a1, a2, a3⟩ := seen_put1 (t := y) (v := .bl true) d2 d3 d4
      exact ⟨_, rfl, same_at nD g5, ⟨_, upd_same, a1, a2, a3⟩⟩
    · rintro σ H5 ⟨x0, rfl, g5, sD⟩
      rw [List.length_map, q2, List.take_length] at sD
      obtain ⟨dv, d1, d2, d3, d4⟩ := sD
      have g45 := g4.trans g5
      have k15 := g45 _ _ k1
      have nDd : d ≠ D := fun z => by rw [← z, g4 _ _ k1] at nD; cases nD
      refine ⟨d, D, kvs, dv, rfl, rfl, nDd, k15, d1, (fun y hy => ?_), ?_, ?_⟩
      · obtain ⟨v, hv, e⟩ := d4 y hy
        have := small42 S h42 (Fc.rnd_sub S mt hv)
        exact ⟨v.1, v.2, e, this.1, this.2⟩
      · have : kvs.length + dv.length ≤ 20000 := by omega
        exact Nat.le_of_lt (small20k this)
      have sn6 := SeenAt.upd (H := H5) (d := d) k2 k3 k4 d2 d3 d4
      have f6 : ∀ b o, b ≠ d → H3 b = some o → upd H5 d (.dT (foldK kvs dv)) b = some o := fun b o nb e => by rw [upd_ne nb]; exact g45 _ _ e
      have q16 : upd H5 d (.dT (foldK kvs dv)) q = some (.lst (qs.map V.ref)) := by
        rw [upd_ne (ne_of (g5 _ _ q1) k15 (by simp))]
        exact g5 _ _ q1
      have q36 : ∀ (i : Nat) (b : Addr) (t : Nat × Nat), qs[i]? = some b → (Fc.rnd W (u1, u2))[i]? = some t → upd H5 d (.dT (foldK kvs dv)) b = some (.tup [vn t.1, vn t.2]) := fun i b t e1 e2 => by
        have := g5 _ _ (q3 i b t e1 e2)
        rw [upd_ne (ne_of this k15 (by simp))]
        exact this
      obtain ⟨ls, r1, r2, r3⟩ := id rt
      have r16 : upd H5 d (.dT (foldK kvs dv)) l = some (.lst (ls.map V.ref)) := f6 l _ nld r1
      have r36 : ∀ (i : Nat) (b : Addr) (t : List Nat), ls[i]? = some b → st.1[i]? = some t → upd H5 d (.dT (foldK kvs dv)) b = some (.tup (t.map vn)) := fun i b t e1 e2 => by
        have := r3 i b t e1 e2
        exact f6 b _ (ne_of this k1 (by simp)) this
      have f36 : ∀ b o, b ≠ l → b ≠ d → H2 b = some o → upd H5 d (.dT (foldK kvs dv)) b = some o := fun b o n1 n2 e => f6 b o n2 (f3 b o n1 n2 e)
      generalize upd H5 d (.dT (foldK kvs dv)) = H6 at *
      refine ⟨_, rfl, .inl ⟨rfl, _, SqL.of r16⟩, _, rfl, q, rfl, ⟨_, SqL.of q16⟩, fun D2 nD2 => ?_⟩
      refine walk_list (xs := qs.map V.ref) (fun j σ H7 => ∃ (x0 x1 : Option V), σ = [x0, x1] ∧ Same H6 H7 ∧ H7 D2 = some (.lst ((((Fc.rnd W (u1, u2)).take j).map (·.1)).map vn))) ⟨none, none, rfl, same_new nD2 _, upd_same⟩ ?_ ?_ ?_
      · rintro j σ H7 _ ⟨x0, x1, rfl, g7, _⟩
        exact SqL.of (g7 _ _ q16)
      · rintro j v σ H7 hv ⟨x0, x1, rfl, g7, hD2⟩
        rw [List.getElem?_map] at hv
        obtain ⟨c', ec, rfl⟩ := Option.map_eq_some_iff.mp hv
        have hj : j < (Fc.rnd W (u1, u2)).length := by rw [← q2]; exact (List.getElem?_eq_some_iff.mp ec).1
        have ej := List.getElem?_eq_getElem hj
        have hc := g7 _ _ (q36 j c' _ ec ej)
        have tkj : (Fc.rnd W (u1, u2)).take (j + 1) = (Fc.rnd W (u1, u2)).take j ++ [(Fc.rnd W (u1, u2))[j]] := by rw [List.take_succ, ej]; rfl
        rw [tkj]
        generalize (Fc.rnd W (u1, u2))[j] = y at *
        refine ⟨c', _, rfl, SqT.of hc, rfl, _, _, rfl, _, _, rfl, rfl, ?_⟩
        refine ⟨_, rfl, _, hD2, (by rw [List.length_map, List.length_map, List.length_take]; exact small20k (by omega)), ?_⟩
        refine ⟨_, _, rfl, same_at nD2 g7, ?_⟩
        rw [List.map_append, List.map_append]
        exact upd_same
      · rintro σ H7 ⟨x0, x1, rfl, g7, hD2⟩
        rw [List.length_map, q2, List.take_length] at hD2
        refine ⟨D2, _, rfl, .inl ⟨SqL.of hD2, fun f nf => ?_⟩⟩
        have gf := same_new nf (.tup (((Fc.rnd W (u1, u2)).map (·.1)).map vn))
        have g8 := g7.trans gf
        have hf := upd_same (H := H7) (a := f) (o := .tup (((Fc.rnd W (u1, u2)).map (·.1)).map vn))
        generalize hH8 : upd H7 f (.tup (((Fc.rnd W (u1, u2)).map (·.1)).map vn)) = H8 at *
        have r18 := g8 _ _ r16
        have r38 : ∀ (i : Nat) (b : Addr) (t : List Nat), ls[i]? = some b → st.1[i]? = some t → H8 b = some (.tup (t.map vn)) := fun i b t e1 e2 => g8 _ _ (r36 i b t e1 e2)
        refine ⟨l, _, _, rfl, rfl, r18, (by rw [List.length_map, r2]; exact small20k (by omega)), ?_⟩
        refine ⟨_, _, rfl, (fun b o n1 n2 e => by rw [upd_ne n1]; exact g8 _ _ (f36 b o n1 n2 e)), RowsT.app r18 r2 r38 hf, ?_⟩
        obtain ⟨kv6, z1, z2⟩ := sn6.kept g8
        exact ⟨kv6, by rw [upd_ne nld.symm]; exact z1, z2⟩
  · rintro σ H3 ⟨x3, x4, rfl, f3, rt, sn⟩
    rw [List.length_map, h2, List.take_length] at rt
    obtain ⟨ps, e1, e2, e3⟩ := sort_rows rt (faces_ne S stepsS_sub)
    have g03 : Same H H3 := fun b o e => f3 b o (ne_of_none e nl) (ne_of_none e nd0) (g02 b o e)
    refine ⟨_, rfl, l, ps, rfl, .inl (SqL.of e1), e2, fun l' ps' nl' pm sr => ?_⟩
    exact k l' _ (g03.trans (same_new nl' _)) (g03.free nl') (e3 l' ps' nl' pm sr)
def spFlat : Sp := fun vs H Q _ => ∃ (t : Addr) (W : Rows), vs = [.ref t] ∧ WebAt H t W ∧ Nb W ∧ W.length ≤ 42 ∧
  ∀ (H' : Hp), Same H H' → Q (.bl (decide (W.length + (Fc.facesS W).length = (Fc.tiesS W).length + 2))) H'
theorem ok_is_flat {f : Addr} {fd : FuncData} (F : Fun K "is_flat" "is_flat" s_is_flat f fd) (h_faces : Own.Has P w K mg base "faces" ["web"] 3 (spFaces)) (h_ties : Own.Has P w K mg base "ties" ["web"] 2 (spTies)) (z_len : mg "len" = none) : FnOk P w K mg base CX0 4 f fd ["web"] (spFlat) := by
  refine F.ok sc_is_flat (fun vs H Q E h => ?_) (fun cdv A outer s0 H vs Q E hr h => ?_)
  · obtain ⟨t, W, rfl, _⟩ := h
    rfl
  obtain ⟨t, W, rfl, hW, S, h42, k⟩ := h
  refine ⟨_, (pss_one (ps_ret (pe_cmpR op_eq (pe_op op_add (pe_callB call_len_seq rfl z_len PySem.boot_len (pa_cons (pv 0) pa_nil)) (pe_callB call_len_seq rfl z_len PySem.boot_len (pa_cons (Own.pe_has h_faces (hr.mono (by decide)) rfl (pa_cons (pv 0) pa_nil)) pa_nil))) (pe_op op_add (pe_callB call_len_seq rfl z_len PySem.boot_len (pa_cons (Own.pe_has h_ties (hr.mono (by decide)) rfl (pa_cons (pv 0) pa_nil)) pa_nil)) pe_int) (nomark _)))), ?_⟩
  obtain ⟨ts, h1, lts, h3⟩ := id hW
  refine ⟨_, rfl, t, _, rfl, .inr (SqT.of h1), _, rfl, t, W, rfl, hW, S, h42, fun s H1 g1 ns rt => ?_⟩
  obtain ⟨ss, r1, r2, _⟩ := rt
  refine ⟨s, _, rfl, .inl (SqL.of r1), _, _, rfl, rfl, _, rfl, t, W, rfl, hW.kept g1, S, h42, fun u H2 g2 nu pr => ?_⟩
  obtain ⟨us, p1, p2, _⟩ := pr
  refine ⟨u, _, rfl, .inl (SqL.of p1), _, _, rfl, rfl, rfl, ?_⟩
  have e : decide (V.int (((ts.map V.ref).length : Int) + ((ss.map V.ref).length : Int)) = V.int (((us.map V.ref).length : Int) + 2)) = decide (W.length + (Fc.facesS W).length = (Fc.tiesS W).length + 2) := by
    rw [Bool.eq_iff_iff, decide_eq_true_iff, decide_eq_true_iff, List.length_map, List.length_map, List.length_map, lts, r2, p2]
    constructor
    · intro z
      have := V.int.inj z
      omega
    · intro z
      congr 1
      omega
  rw [e]
  exact k H2 (g1.trans g2)
end
section
variable {P : Program} {w : World} {K : PySem.W.Frag} {mg : Str → Option Value} {base : Heap}
def odd3 (f : List Nat) : Bool := f.length != 3
def spUncorn : Sp := fun vs H Q _ => ∃ (t : Addr) (W : Rows), vs = [.ref t] ∧ WebAt H t W ∧ Nb W ∧ W.length ≤ 42 ∧ ∀ (v : V) (H' : Hp), Same H H' → ((∀ f ∈ Fc.facesS W, f.length = 3) ∧ v = .non ∨ (¬ ∀ f ∈ Fc.facesS W, f.length = 3) ∧ ∃ b, v = .ref b) → Q v H'
theorem faces_few {W : Rows} (S : Nb W) (h : W.length ≤ 42) : (Fc.facesS W).length ≤ 1764 := by
  have a := Fc.faces_sum S
  have b := steps_le S h
  have fl : (Fc.facesS W).length = (Fc.facesU W).length := (Fc.sortL_perm _).length_eq
  rw [fl]
  have ne : ∀ f ∈ Fc.facesU W, f ≠ [] := faces_ne S stepsS_sub
  have : (Fc.facesU W).length ≤ ((Fc.facesU W).map List.length).sum := by
    generalize Fc.facesU W = F at ne
    clear a fl
    induction F with
    | nil => exact Nat.le_refl _
    | cons f F ih =>
      rw [List.map_cons, List.sum_cons, List.length_cons]
      have := ih fun g hg => ne g (List.mem_cons_of_mem _ hg)
      have := List.length_pos_iff.mpr (ne f List.mem_cons_self)
      omega
  omega
theorem ok_uncornered_face {f : Addr} {fd : FuncData} (F : Fun K "uncornered_face" "uncornered_face" s_uncornered_face f fd) (h_faces : Own.Has P w K mg base "faces" ["web"] 3 (spFaces)) (z_len : mg "len" = none) : FnOk P w K mg base CX0 4 f fd ["web"] (spUncorn) := by
  refine F.ok sc_uncornered_face (fun vs H Q E h => ?_) (fun cdv A outer s0 H vs Q E hr h => ?_)
  · obtain ⟨t, W, rfl, _⟩ := h
    rfl
  obtain ⟨t, W, rfl, hW, S, h42, k⟩ := h
  refine ⟨_, (pss_cons (ps_lc1x (i := 1) (Nc := ["face"]) (js := [none]) rfl rfl sc_uncornered_face.nd rfl (Or.inl rfl) (pi_list (Own.pe_has h_faces (hr.mono (by decide)) rfl (pa_cons (pv 0) pa_nil))) (CS.of rfl rfl) rfl (fun C s₂ H₂ fp pins => (pg_name (i := 0) (show List.Nodup (α := Str) ["face"] by decide +kernel) rfl (Or.inl rfl))) (fun C s₂ H₂ fp pins D L => (pt_tail1 (pt_cmpR op_ne (pe_callB (show CallR _ _ (fun xs H Q => ∃ p ys, xs = [.ref p] ∧ (SqL K H p ys ∨ SqT K H p ys) ∧ Q (.int ys.length) H) from call_len_seq) rfl z_len PySem.boot_len (pa_cons (pv 0) pa_nil)) pe_int (nomark _)) (pb_app (pv 0)))))
      (pss_one (ps_ret (pe_ifExp (pt_truth (pv 1) (fun _ => rfl)) (pe_ix ix_list (pv 1) pe_int (fun _ _ => rfl)) pe_non)))), ?_⟩
  refine ⟨_, rfl, t, W, rfl, hW, S, h42, fun s H1 g1 ns rt => ?_⟩
  obtain ⟨ss, h1, h2, h3⟩ := id rt
  refine ⟨s, rfl, ⟨_, SqL.of h1⟩, fun D nD => ?_⟩
  have few := faces_few S h42
  refine walk_list (xs := ss.map V.ref) (fun i σ H2 => ∃ (x0 : Option V) (bs : List Addr), σ = [x0] ∧ Same H1 H2 ∧ H2 D = some (.lst (bs.map V.ref)) ∧ bs.length = (((Fc.facesS W).take i).filter odd3).length)
    ⟨none, [], rfl, same_new nD _, upd_same, rfl⟩ ?_ ?_ ?_
  · rintro i σ H2 _ ⟨x0, bs, rfl, g2, _⟩
    exact SqL.of (g2 _ _ h1)
  · rintro i x σ H2 hx ⟨x0, bs, rfl, g2, hD, lb⟩
    rw [List.getElem?_map] at hx
    obtain ⟨b, eb, rfl⟩ := Option.map_eq_some_iff.mp hx
    have hi : i < (Fc.facesS W).length := by rw [← h2]; exact (List.getElem?_eq_some_iff.mp eb).1
    have et := List.getElem?_eq_getElem hi
    have hb := h3 i b _ eb et
    have tk : (Fc.facesS W).take (i + 1) = (Fc.facesS W).take i ++ [(Fc.facesS W)[i]] := by rw [List.take_succ, et]; rfl
    rw [tk, List.filter_append, List.filter_cons, List.filter_nil]
    have fl := List.length_filter_le odd3 ((Fc.facesS W).take i)
    rw [List.length_take] at fl
    generalize (Fc.facesS W)[i] = f at *
    refine ⟨_, rfl, b, _, rfl, .inr (SqT.of (g2 _ _ hb)), rfl, _, rfl, ?_⟩
    rw [List.length_map]
    by_cases c : f.length = 3
    · have o : odd3 f = false := by unfold odd3; rw [c]; rfl
      rw [o, if_neg (by decide), List.append_nil, c]
      exact iteF ⟨_, bs, rfl, g2, hD, lb⟩
    · have o : odd3 f = true := by unfold odd3; simpa using c
      rw [o, if_pos rfl]
      have e : decide (V.int (f.length : Int) ≠ V.int 3) = true := decide_eq_true fun z => c (by have := V.int.inj z; omega)
      have e' : (!decide (V.int (f.length : Int) = V.int 3)) = true := by
        rw [Bool.not_eq_true', decide_eq_false_iff_not]
        exact fun z => c (by have := V.int.inj z; omega)
      first | rw [e] | rw [e']
      refine iteT ⟨_, rfl, _, hD, (by rw [List.length_map]; exact small20k (by omega)), ?_⟩
      exact ⟨_, bs ++ [b], rfl, same_at nD g2, (by rw [List.map_append]; exact upd_same), (by rw [List.length_append, List.length_append, lb]; rfl)⟩
  · rintro σ H2 ⟨x0, bs, rfl, g2, hD, lb⟩
    rw [List.length_map, h2, List.take_length] at lb
    cases bs with
    | nil =>
      refine ⟨_, rfl, false, .inl ⟨_, SqL.of hD, rfl⟩, k _ H2 (g1.trans g2) (.inl ⟨fun f hf => ?_, rfl⟩)⟩
      have z := List.filter_eq_nil_iff.mp (List.length_eq_zero_iff.mp lb.symm) f hf
      simpa [odd3] using z
    | cons b bs =>
      refine ⟨_, rfl, true, .inl ⟨_, SqL.of hD, rfl⟩, ?_⟩
      refine ⟨_, rfl, D, _, _, _, rfl, rfl, SqL.of hD, atI_nat (j := 0) rfl, k _ H2 (g1.trans g2) (.inr ⟨fun all => ?_, b, rfl⟩)⟩
      have : (Fc.facesS W).filter odd3 = [] := List.filter_eq_nil_iff.mpr fun f hf => by unfold odd3; rw [all f hf]; decide
      rw [this] at lb
      cases lb
def spThreeC : Sp := fun vs H Q _ => ∃ (t : Addr) (W : Rows), vs = [.ref t] ∧ WebAt H t W ∧ Nb W ∧ W.length ≤ 42 ∧ ∀ (c : Bool) (H' : Hp), Same H H' → (c = true ↔ (∀ t ∈ stepsL W, (nxt W (nxt W t)).2 = t.1) ∧ (stepsL W).length + 12 = 6 * W.length) → Q (.bl c) H'
theorem ok_is_three_cornered {f : Addr} {fd : FuncData} (F : Fun K "is_three_cornered" "is_three_cornered" s_is_three_cornered f fd) (h_uncornered_face : Own.Has P w K mg base "uncornered_face" ["web"] 4 (spUncorn)) (h_is_flat : Own.Has P w K mg base "is_flat" ["web"] 4 (spFlat)) : FnOk P w K mg base CX0 5 f fd ["web"] (spThreeC) := by
  refine F.ok sc_is_three_cornered (fun vs H Q E h => ?_) (fun cdv A outer s0 H vs Q E hr h => ?_)
  · obtain ⟨t, W, rfl, _⟩ := h
    rfl
  obtain ⟨t, W, rfl, hW, S, h42, k⟩ := h
  refine ⟨_, (pss_one (ps_ret (pe_and (Own.pe_has h_is_flat (hr.mono (by decide)) rfl (pa_cons (pv 0) pa_nil)) (pe_one (pe_cmpR op_isN (Own.pe_has h_uncornered_face (hr.mono (by decide)) rfl (pa_cons (pv 0) pa_nil)) pe_non (nomark _)))))), ?_⟩
  have key := Fc.three_cornered S
  refine ⟨_, rfl, t, W, rfl, hW, S, h42, fun H1 g1 => ?_⟩
  by_cases c : W.length + (Fc.facesS W).length = (Fc.tiesS W).length + 2
  · rw [decide_eq_true c]
    refine ⟨_, rfl, iteT ⟨_, rfl, t, W, rfl, hW.kept g1, S, h42, fun v H2 g2 hv => ?_⟩⟩
    rcases hv with ⟨a, rfl⟩ | ⟨a, b, rfl⟩
    · refine ⟨rfl, ?_⟩
      rw [show decide (V.non = V.non) = true from decide_eq_true rfl]
      exact k true H2 (g1.trans g2) ⟨fun _ => key.mp ⟨c, a⟩, fun _ => rfl⟩
    · refine ⟨rfl, ?_⟩
      rw [show decide (V.ref b = V.non) = false from decide_eq_false fun z => nomatch z]
      exact k false H2 (g1.trans g2) ⟨fun z => (nomatch z), fun z => absurd (key.mpr z).2 a⟩
  · rw [decide_eq_false c]
    exact ⟨_, rfl, iteF (k false H1 g1 ⟨fun z => (nomatch z), fun z => absurd (key.mpr z).1 c⟩)⟩
end
section
variable {P : Program} {w : World} {K : PySem.W.Frag} {mg : Str → Option Value} {base : Heap}
structure Nz (L : Rows) : Prop where
  nb : Nb L
  three : 3 ≤ L.length
  le : L.length ≤ 40
  ne : ∀ (p : Nat) (row : List Nat), L[p]? = some row → row ≠ []
def spReached : Sp := fun vs H Q _ => ∃ (r : Addr) (A : List Addr) (L : Rows), vs = [.ref r, vn 0] ∧ RowsAt H r A L ∧ Nb L ∧ 3 ≤ L.length ∧ L.length ≤ 150 ∧
  ∀ (c : Addr) (fs : List Nat) (H' : Hp), Same H H' → H' c = some (.lst (fs.map vn)) → Q (.ref c) H'
theorem ok_law_reached {f : Addr} {fd : FuncData} (F : Fun K "_law_reached" "_law_reached" s_law_reached f fd) (z_range : mg "range" = none) (z_len : mg "len" = none) : FnOk P w K mg base CX0 1 f fd ["_law_rows_here", "_law_start"] (spReached) := by
  refine F.ok sc_law_reached (fun vs H Q E h => ?_) (fun cdv A outer s0 H vs Q E hr h => ?_)
  · obtain ⟨r, A, L, rfl, _⟩ := h
    rfl
  obtain ⟨r, A1, L, rfl, X, S, l3, l150, k⟩ := h
  refine ⟨_, (pss_cons (ps_set (i := 2) sc_law_reached.nd rfl (Or.inr rfl) (pe_lst (pa_cons (pv 1) pa_nil)))
      (pss_cons (ps_for PassesOwn.never rfl (pi_range1 rfl z_range (pa_cons (pe_callB call_len_seq rfl z_len PySem.boot_len (pa_cons (pv 0) pa_nil)) pa_nil)) (pg_name (i := 3) sc_law_reached.nd rfl (Or.inl rfl)) (pss_one (ps_if (pt_cmpR op_lt (pv 3) (pe_callB call_len_seq rfl z_len PySem.boot_len (pa_cons (pv 2) pa_nil)) (nomark _)) (pss_one (ps_set (i := 2) sc_law_reached.nd rfl (Or.inr rfl) (pe_op op_cat (pv 2) (pe_lc1x (Nc := ["_law_q", "_law_found"]) (js := [none, some 2]) rfl rfl (pi_list (pe_ix ix_list (pv 0) (pe_ix ix_list (pv 2) (pv 3) (fun _ _ => rfl)) (fun _ _ => rfl))) (CS.of rfl rfl) rfl (fun C s₂ H₂ fp pins => (pg_name (i := 0) (show List.Nodup (α := Str) ["_law_q", "_law_found"] by decide +kernel) rfl (Or.inl rfl))) (fun C s₂ H₂ fp pins D L => (pt_tail1 (pt_cmpR (show OpR _ _ (rIn K true) from op_notIn_seq) (pv 0) (pv 1) rfl) (pb_app (pv 0)))))))) pss_nil)))
      (pss_one (ps_ret (pv 2))))), ?_⟩
  have lA : ((A1.map V.ref).length : Int) = L.length := by rw [List.length_map, X.len]
  refine ⟨_, rfl, (by show 1 ≤ sizeLine; decide), fun c nc => ?_⟩
  have g0 := same_new nc (.lst [vn 0])
  have hc0 := upd_same (H := H) (a := c) (o := .lst [vn 0])
  refine ⟨_, rfl, r, _, rfl, .inl (SqL.of (g0 _ _ X.top)), _, rfl, (by rw [lA]; omega), (by rw [lA]; omega), ?_⟩
  refine for_range (lo := 0) (n := ((A1.map V.ref).length : Int).toNat) (fun i σ H2 => ∃ (c : Addr) (x : Option V) (fs : List Nat), σ = [some (.ref r), some (vn 0), some (.ref c), x] ∧ H2 c = some (.lst (fs.map vn)) ∧ fs.Nodup ∧ (∀ y ∈ fs, y < L.length) ∧ Same H H2)
    ⟨c, none, [0], rfl, hc0, by simp, (fun y hy => by rw [List.mem_singleton.mp hy]; omega), g0⟩ ?_ ?_
  · rintro i σ H2 hi ⟨c, x, fs, rfl, hc, nd, hf, g⟩
    have lf : fs.length ≤ L.length := by
      have := List.Nodup.length_le_of_subset nd (l₂ := List.range L.length) fun y hy => List.mem_range.mpr (hf y hy)
      rwa [List.length_range] at this
    refine ⟨_, rfl, _, rfl, c, _, rfl, .inl (SqL.of hc), _, _, rfl, rfl, _, rfl, ?_⟩
    rw [List.length_map]
    refine ite2 (fun z => ?_) (fun z => ⟨c, _, fs, rfl, hc, nd, hf, g⟩)
    have z := of_decide_eq_true z
    have hi : i < fs.length := by omega
    have hx := hf _ (List.getElem_mem hi)
    have hrow := List.getElem?_eq_getElem hx
    obtain ⟨a, e1, e2, e3⟩ := (X.kept g).at hrow
    have lr := S.len hrow
    have rnd := S.nd _ _ hrow
    generalize hxx : fs[i] = xx at *
    generalize hrr : L[xx] = row at *
    have e0 : atI (fs.map vn) (0 + (i : Int)) = some (vn xx) := by rw [← hxx, show (0 : Int) + (i : Int) = (i : Int) by omega]; exact vn_at hi
    refine ⟨_, rfl, _, rfl, _, rfl, _, rfl, c, _, _, _, rfl, rfl, SqL.of hc, e0, r, _, _, _, rfl, rfl, SqL.of (g _ _ X.top), e3, a, rfl, ⟨_, SqL.of e2⟩, fun D nD => ?_⟩
    have gD := same_new nD (.lst [])
    refine walk_list (xs := row.map vn) (fun j σ H3 => ∃ (x : Option V), σ = [x, some (.ref c)] ∧ H3 D = some (.lst (((row.take j).filter fun q => decide (q ∉ fs)).map vn)) ∧ Same H2 H3) ⟨none, rfl, upd_same, gD⟩ ?_ ?_ ?_
    · rintro j σ H3 _ ⟨x, rfl, hD, g3⟩
      exact SqL.of (g3 _ _ e2)
    · rintro j v σ H3 hv ⟨x, rfl, hD, g3⟩
      rw [List.getElem?_map] at hv
      obtain ⟨q, eq', rfl⟩ := Option.map_eq_some_iff.mp hv
      have hj := (List.getElem?_eq_some_iff.mp eq').1
      refine ⟨_, rfl, _, rfl, c, _, rfl, .inl (SqL.of (g3 _ _ hc)), rfl, flat_vn' _, _, rfl, ?_⟩
      rw [if_pos rfl, inV_vn']
      have tk : row.take (j + 1) = row.take j ++ [q] := by rw [List.take_succ, eq']; rfl
      by_cases cc : q ∈ fs
      · rw [decide_eq_true cc]
        refine iteF ⟨_, rfl, ?_, g3⟩
        rw [tk, List.filter_append, List.filter_cons, if_neg (by simpa using cc)]
        simpa using hD
      · rw [decide_eq_false cc]
        refine iteT ⟨_, rfl, _, hD, ?_, ?_⟩
        · rw [List.length_map]
          have := List.length_filter_le (fun q => decide (q ∉ fs)) (row.take j)
          rw [List.length_take] at this
          exact small1000 (by omega)
        · refine ⟨_, rfl, ?_, same_at nD g3⟩
          rw [tk, List.filter_append, List.filter_cons, if_pos (by simpa using cc), List.map_append]
          exact upd_same
    · rintro σ H3 ⟨x, rfl, hD, g3⟩
      rw [List.length_map, List.take_length] at hD
      generalize hnew : (row.filter fun q => decide (q ∉ fs)) = new at *
      have mnew : ∀ y, y ∈ new → y ∈ row ∧ y ∉ fs := fun y hy => by
        rw [← hnew] at hy
        have := List.mem_filter.mp hy
        exact ⟨this.1, by simpa using this.2⟩
      have ndn : new.Nodup := by rw [← hnew]; exact rnd.filter _
      have ndf : (fs ++ new).Nodup := by
        rw [List.nodup_append]
        exact ⟨nd, ndn, fun a ha b hb => fun z => (mnew b hb).2 (z ▸ ha)⟩
      have all : ∀ y ∈ fs ++ new, y < L.length := fun y hy => by
        rcases List.mem_append.mp hy with z | z
        · exact hf y z
        · exact (S.rng xx row y hrow (mnew y z).1).1
      have lf2 : (fs ++ new).length ≤ L.length := by
        have := List.Nodup.length_le_of_subset ndf (l₂ := List.range L.length) fun y hy => List.mem_range.mpr (all y hy)
        rwa [List.length_range] at this
      refine ⟨c, D, _, _, rfl, rfl, g3 _ _ hc, hD, ?_, fun c' nc' => ?_⟩
      · rw [List.length_append] at lf2
        rw [List.length_map, List.length_map]
        exact small (by omega)
      · refine ⟨c', _, fs ++ new, rfl, ?_, ndf, all, (g.trans g3).trans (same_new nc' _)⟩
        rw [List.map_append]
        exact upd_same
  · rintro σ H2 ⟨c, x, fs, rfl, hc, nd, hf, g⟩
    exact ⟨_, rfl, k c fs H2 g hc⟩
def spThin : Sp := fun vs H Q _ => ∃ (a r : Addr) (A : List Addr) (L : Rows) (m : Nat), vs = [.ref a, .ref r, .int (m : Int)] ∧ PotAt H a ∧ RowsAt H r A L ∧ Nz L ∧ a ≠ r ∧ a ∉ A ∧ m ≤ 1000 ∧
  ∀ (r' : Addr) (A' : List Addr) (L' : Rows) (H' : Hp), SameBut a H H' → PotAt H' a → RowsAt H' r' A' L' → Nz L' → a ≠ r' → a ∉ A' → Q (.ref r') H'
theorem era_ne {row : List Nat} {q : Nat} (h : 1 < row.length) : eraB row q ≠ [] := fun z => by
  have := congrArg List.length z
  unfold eraB at this
  rw [List.length_eraseIdx] at this
  rw [List.length_nil] at this
  split at this <;> omega
theorem ok_law_thinned {f : Addr} {fd : FuncData} (F : Fun K "_law_thinned" "_law_thinned" s_law_thinned f fd) (h_law_digit : Own.Has P w K mg base "_law_digit" ["_law_pot_here", "_law_many"] 1 (spDigit)) (h_law_reached : Own.Has P w K mg base "_law_reached" ["_law_rows_here", "_law_start"] 1 (spReached)) (h_law_without : Own.Has P w K mg base "_law_without" ["_law_rows_here", "_law_p", "_law_q"] 1 (spWithout)) (z_range : mg "range" = none) (z_len : mg "len" = none) : FnOk P w K mg base CX0 3 f fd ["_law_pot_here", "_law_rows_here", "_law_many"] (spThin) := by
  refine F.ok sc_law_thinned (fun vs H Q E h => ?_) (fun cdv A outer s0 H vs Q E hr h => ?_)
  · obtain ⟨a, r, A, L, m, rfl, _⟩ := h
    rfl
  obtain ⟨a, r, A1, L, m, rfl, pa, X, G, nar, naA, m1, k⟩ := h
  refine ⟨_, (pss_cons (ps_for PassesOwn.never rfl (pi_range1 rfl z_range (pa_cons (pv 2) pa_nil)) (pg_name (i := 3) sc_law_thinned.nd rfl (Or.inl rfl)) (pss_cons (ps_set (i := 4) sc_law_thinned.nd rfl (Or.inl rfl) (Own.pe_has h_law_digit (hr.mono (by decide)) rfl (pa_cons (pv 0) (pa_cons (pe_callB call_len_seq rfl z_len PySem.boot_len (pa_cons (pv 1) pa_nil)) pa_nil))))
      (pss_cons (ps_set (i := 5) sc_law_thinned.nd rfl (Or.inl rfl) (pe_ix ix_list (pe_ix ix_list (pv 1) (pv 4) (fun _ _ => rfl)) (Own.pe_has h_law_digit (hr.mono (by decide)) rfl (pa_cons (pv 0) (pa_cons (pe_callB call_len_seq rfl z_len PySem.boot_len (pa_cons (pe_ix ix_list (pv 1) (pv 4) (fun _ _ => rfl)) pa_nil)) pa_nil))) (fun _ _ => rfl)))
      (pss_one (ps_if (PW.pt (pw_and (pt_cmpR op_gt (pe_callB call_len_seq rfl z_len PySem.boot_len (pa_cons (pe_ix ix_list (pv 1) (pv 4) (fun _ _ => rfl)) pa_nil)) pe_int (nomark _)) (pw_and (pt_cmpR op_gt (pe_callB call_len_seq rfl z_len PySem.boot_len (pa_cons (pe_ix ix_list (pv 1) (pv 5) (fun _ _ => rfl)) pa_nil)) pe_int (nomark _)) (pw_and1 (pt_cmpR op_eq (pe_callB call_len_seq rfl z_len PySem.boot_len (pa_cons (Own.pe_has h_law_reached (hr.mono (by decide)) rfl (pa_cons (Own.pe_has h_law_without (hr.mono (by decide)) rfl (pa_cons (pv 1) (pa_cons (pv 4) (pa_cons (pv 5) pa_nil)))) (pa_cons pe_int pa_nil))) pa_nil)) (pe_callB call_len_seq rfl z_len PySem.boot_len (pa_cons (pv 1) pa_nil)) (nomark _)))))) (pss_one (ps_set (i := 1) sc_law_thinned.nd rfl (Or.inl rfl) (Own.pe_has h_law_without (hr.mono (by decide)) rfl (pa_cons (pv 1) (pa_cons (pv 4) (pa_cons (pv 5) pa_nil)))))) pss_nil)))))
      (pss_one (ps_ret (pv 1)))), ?_⟩
  refine ⟨_, rfl, (m : Int), rfl, by omega, by omega, for_range (lo := 0) (n := (m : Int).toNat) (fun i σ H2 => ∃ (x3 x4 x5 : Option V) (r : Addr) (A : List Addr) (L' : Rows), σ = [some (.ref a), some (.ref r), some (.int (m : Int)), x3, x4, x5] ∧ RowsAt H2 r A L' ∧ Nz L' ∧ a ≠ r ∧ a ∉ A ∧ SameBut a H H2 ∧ PotAt H2 a)
    ⟨_, _, _, r, A1, L, rfl, X, G, nar, naA, .refl _ _, pa⟩ ?_ ?_⟩
  · rintro i σ H2 hi ⟨x3, x4, x5, r, A1, L', rfl, X, G, nar, naA, s2, p2⟩
    have l3 := G.three
    have l40 := G.le
    have lA : ((A1.map V.ref).length : Int) = L'.length := by rw [List.length_map, X.len]
    refine ⟨_, rfl, _, rfl, r, _, rfl, .inl (SqL.of X.top), a, _, rfl, p2, (by rw [lA]; omega), lit9 (by rw [lA]; exact Nat.lt_of_le_of_lt (m := 1000) (by omega) (by decide)), fun d H3 d0 d1 s3 p3 => ?_⟩
    rw [lA] at d1
    obtain ⟨p, rfl⟩ := Int.eq_ofNat_of_zero_le d0
    have X3 := X.but nar naA s3
    have hp := List.getElem?_eq_getElem (show p < L'.length by omega)
    generalize hrp : L'[p]'(show p < L'.length by omega) = rp at *
    have rne := G.ne p rp hp
    have rpos : 0 < rp.length := List.length_pos_iff.mpr rne
    have rlen := G.nb.len hp
    obtain ⟨ap, e1p, e2p, e3p⟩ := X3.at hp
    have apa : ap ≠ a := fun z => naA (z ▸ List.mem_of_getElem? e1p)
    refine ⟨_, rfl, _, rfl, r, _, _, _, rfl, rfl, SqL.of X3.top, e3p, _, rfl, _, rfl, _, rfl, r, _, _, _, rfl, rfl, SqL.of X3.top, e3p, ap, _, rfl, .inl (SqL.of e2p), a, _, rfl, p3, (by rw [List.length_map]; omega), lit9 (by rw [List.length_map]; exact Nat.lt_of_le_of_lt (m := 1000) (by omega) (by decide)), fun d' H4 e0 e1 s4 p4 => ?_⟩
    rw [List.length_map] at e1
    obtain ⟨j, rfl⟩ := Int.eq_ofNat_of_zero_le e0
    have hj : j < rp.length := by omega
    have e2p4 := s4 _ _ apa e2p
    refine ⟨ap, _, _, _, rfl, rfl, SqL.of e2p4, vn_at hj, ?_⟩
    have mp : rp[j] ∈ rp := List.getElem_mem hj
    generalize rp[j] = q at *
    have X4 := X3.but nar naA s4
    obtain ⟨rq, hq, mq⟩ := G.nb.sym p q ⟨rp, hp, mp⟩
    have pq : p ≠ q := fun z => (G.nb.rng p rp q hp mp).2 z.symm
    obtain ⟨aq, e1q, e2q, e3q⟩ := X4.at hq
    have s04 := s2.trans (s3.trans s4)
    have stay : ∀ H8, Same H4 H8 → ∃ (x3 x4 x5 : Option V) (r' : Addr) (A : List Addr) (L'' : Rows), [some (V.ref a), some (.ref r), some (.int (m : Int)), some (.int (0 + (i : Int))), some (vn p), some (vn q)] = [some (.ref a), some (.ref r'), some (.int (m : Int)), x3, x4, x5] ∧ RowsAt H8 r' A L'' ∧ Nz L'' ∧ a ≠ r' ∧ a ∉ A ∧ SameBut a H H8 ∧ PotAt H8 a := fun H8 g8 =>
      ⟨_, _, _, r, A1, L', rfl, X4.kept g8, G, nar, naA, s04.trans (.of g8), p4.kept g8⟩
    refine ⟨_, rfl, _, rfl, r, _, _, _, rfl, rfl, SqL.of X4.top, e3p, ap, _, rfl, .inl (SqL.of e2p4), _, _, rfl, rfl, _, rfl, ite2 (fun c1 => ?_) (fun c1 => iteF (stay _ (Same.refl _)))⟩
    refine ⟨_, rfl, _, rfl, r, _, _, _, rfl, rfl, SqL.of X4.top, e3q, aq, _, rfl, .inl (SqL.of e2q), _, _, rfl, rfl, _, rfl, ite2 (fun c2 => ?_) (fun c2 => iteF (stay _ (Same.refl _)))⟩
    have c1 := of_decide_eq_true c1
    have c2 := of_decide_eq_true c2
    rw [List.length_map] at c1 c2
    have N := cut_nb G.nb hp hq pq mp mq
    refine ⟨_, rfl, _, rfl, _, rfl, r, L', p, q, rp, rq, rfl, .inl ⟨_, X4⟩, by omega, pq, hp, hq, mp, mq, fun D B H5 Y tB nD g5 => ?_⟩
    refine ⟨D, B, _, rfl, Y, N, (by rw [set2_len]; omega), (by rw [set2_len]; omega), fun c fs H6 g6 hc => ?_⟩
    have g56 := g5.trans g6
    refine ⟨c, _, rfl, .inl (SqL.of hc), _, rfl, r, _, rfl, .inl (SqL.of (g56 _ _ X4.top)), rfl, _, rfl, ?_⟩
    refine ite2 (fun c3 => ?_) (fun c3 => stay _ g56)
    have X6 := X4.kept g56
    have p6 := p4.kept g56
    refine ⟨_, rfl, _, rfl, _, rfl, r, L', p, q, rp, rq, rfl, .inl ⟨_, X6⟩, by omega, pq, hp, hq, mp, mq, fun D2 B2 H7 Y2 tB2 nD2 g7 => ?_⟩
    obtain ⟨v4, w4, pot4, _⟩ := id p6
    refine ⟨_, _, _, D2, B2, _, rfl, Y2, ⟨N, (by rw [set2_len]; exact l3), (by rw [set2_len]; exact l40), fun x row e => ?_⟩, ne_of_none pot4 nD2, (fun z => by rw [tB2 a z] at pot4; cases pot4), (s04.trans (.of g56)).trans (.of g7), p6.kept g7⟩
    unfold set2 at e
    rcases mem_set (by rw [List.length_set]; exact (List.getElem?_eq_some_iff.mp hq).1) e with ⟨_, rfl⟩ | ⟨_, e⟩
    · exact era_ne (by omega)
    · rcases mem_set (List.getElem?_eq_some_iff.mp hp).1 e with ⟨_, rfl⟩ | ⟨_, e⟩
      · exact era_ne (by omega)
      · exact G.ne x row e
  · rintro σ H2 ⟨x3, x4, x5, r, A1, L', rfl, X, G, nar, naA, s2, p2⟩
    exact ⟨_, rfl, k r A1 L' H2 s2 p2 X G nar naA⟩
end
section
variable {P : Program} {w : World} {K : PySem.W.Frag} {mg : Str → Option Value} {base : Heap}
def spShuf : Sp := fun vs H Q _ => ∃ (a b : Addr) (row : List Nat), vs = [.ref a, .ref b] ∧ PotAt H a ∧ H b = some (.lst (row.map vn)) ∧ a ≠ b ∧ row.length ≤ 150 ∧
  ∀ (l : Addr) (ns : List Nat) (H' : Hp), SameBut a H H' → PotAt H' a → H l = none → l ≠ a → H' l = some (.lst (ns.map vn)) → ns.Perm row → Q (.ref l) H'
theorem perm_put {ns row : List Nat} {q d : Nat} (h : ns.Perm row) : (ns.take d ++ q :: ns.drop d).Perm (row ++ [q]) := by
  have e : (ns.take d ++ q :: ns.drop d).Perm (q :: ns) := by
    have := List.perm_middle (a := q) (l₁ := ns.take d) (l₂ := ns.drop d)
    rw [List.take_append_drop] at this
    exact this
  exact e.trans ((List.Perm.cons q h).trans (List.perm_append_singleton q _).symm)
theorem ok_law_shuffled {f : Addr} {fd : FuncData} (F : Fun K "_law_shuffled" "_law_shuffled" s_law_shuffled f fd) (h_law_digit : Own.Has P w K mg base "_law_digit" ["_law_pot_here", "_law_many"] 1 (spDigit)) (z_len : mg "len" = none) : FnOk P w K mg base CX0 2 f fd ["_law_pot_here", "_law_row"] (spShuf) := by
  refine F.ok sc_law_shuffled (fun vs H Q E h => ?_) (fun cdv A outer s H vs Q E hr h => ?_)
  · obtain ⟨a, b, row, rfl, _⟩ := h
    rfl
  obtain ⟨a, b, row, rfl, ha, hb, ab, hn, k⟩ := h
  refine ⟨_, (pss_cons (ps_set (i := 2) sc_law_shuffled.nd rfl (Or.inl rfl) (pe_lst pa_nil))
      (pss_cons (ps_for PassesOwn.never rfl (pi_list (pv 1)) (pg_name (i := 3) sc_law_shuffled.nd rfl (Or.inl rfl)) (pss_one (ps_expr (pe_bm PySem.F.plainAttrs_list PySem.F.slot_list_insert PySem.F.type_list_insert mt_insert (pv 2) (pa_cons (Own.pe_has h_law_digit (hr.mono (by decide)) rfl (pa_cons (pv 0) (pa_cons (pe_op op_add (pe_callB call_len_seq rfl z_len PySem.boot_len (pa_cons (pv 2) pa_nil)) pe_int) pa_nil))) (pa_cons (pv 3) pa_nil))))))
      (pss_one (ps_ret (pv 2))))), ?_⟩
  refine ⟨(by show 0 ≤ sizeLine; decide), fun l nl => ?_⟩
  have la : l ≠ a := by
    obtain ⟨x, y, z, _⟩ := ha
    exact (ne_of_none z nl).symm
  have bl : b ≠ l := ne_of_none hb nl
  have g0 := same_new nl (.lst [])
  refine ⟨_, rfl, b, rfl, ⟨_, SqL.of (g0 _ _ hb)⟩, for_list (xs := row.map vn) (fun i σ H2 => ∃ (x : Option V) (ns : List Nat), σ = [some (.ref a), some (.ref b), some (.ref l), x] ∧ H2 l = some (.lst (ns.map vn)) ∧ ns.Perm (row.take i) ∧ SameBut a H H2 ∧ PotAt H2 a)
    ⟨none, [], rfl, upd_same, .nil, .of g0, ha.kept g0⟩ ?_ ?_ ?_⟩
  · rintro i σ H2 _ ⟨x, ns, rfl, hl, hp, s2, p2⟩
    exact SqL.of (s2 _ _ ab.symm hb)
  · rintro i v σ H2 hv ⟨x, ns, rfl, hl, hp, s2, p2⟩
    rw [List.getElem?_map] at hv
    obtain ⟨q, eq', rfl⟩ := Option.map_eq_some_iff.mp hv
    have hi := (List.getElem?_eq_some_iff.mp eq').1
    have ln : ns.length = i := by rw [hp.length_eq, List.length_take]; omega
    refine ⟨_, rfl, .inl ⟨rfl, _, SqL.of hl⟩, _, rfl, _, rfl, l, _, rfl, .inl (SqL.of hl), _, _, rfl, rfl, a, _, rfl, p2, (by rw [List.length_map]; omega), lit9 (by rw [List.length_map]; exact Nat.lt_of_le_of_lt (m := 1000) (by omega) (by decide)), fun d H3 d0 d1 s3 p3 => ?_⟩
    rw [List.length_map] at d1
    have hl3 := s3 _ _ la hl
    refine ⟨_, rfl, l, _, _, _, rfl, rfl, hl3, d0, (by omega), (by rw [List.length_map, ln]; exact small1000 (by omega)), ?_⟩
    refine ⟨_, ns.take d.toNat ++ q :: ns.drop d.toNat, rfl, ?_, ?_, (fun b o nb e => ?_), p3.other la.symm⟩
    · rw [List.map_append, List.map_take, List.map_cons, List.map_drop]
      exact upd_same
    · rw [List.take_succ, eq']
      exact perm_put hp
    · rw [upd_ne (ne_of_none e nl)]
      exact s3 b o nb (s2 b o nb e)
  · rintro σ H2 ⟨x, ns, rfl, hl, hp, s2, p2⟩
    rw [List.length_map, List.take_length] at hp
    exact ⟨_, rfl, k l ns H2 s2 p2 nl la hl hp⟩
end
section
variable {P : Program} {w : World} {K : PySem.W.Frag} {mg : Str → Option Value} {base : Heap}
def ringD (n f : Nat) : List Nat := [1, 1 + f, f, n - 1, n - 1 - f, n - f]
def ringR (n f : Nat) : Rows := (List.range n).map fun p => (ringD n f).map fun d => (p + d) % n
theorem turn_is {n p d : Nat} (hp : p < n) (hd : d < n) : (p + d) % n = if p + d < n then p + d else p + d - n := by
  split
  · exact Nat.mod_eq_of_lt ‹_›
  · rw [Nat.mod_eq_sub_mod (by omega), Nat.mod_eq_of_lt (by omega)]
theorem ring_at {n f p : Nat} {row : List Nat} : (ringR n f)[p]? = some row ↔ p < n ∧ row = (ringD n f).map fun d => (p + d) % n := by
  unfold ringR
  rw [List.getElem?_map, Option.map_eq_some_iff]
  constructor
  · rintro ⟨q, e, rfl⟩
    obtain ⟨h, e⟩ := List.getElem?_eq_some_iff.mp e
    rw [List.length_range] at h
    rw [List.getElem_range] at e
    exact ⟨h, by rw [e]⟩
  · rintro ⟨h, rfl⟩
    exact ⟨p, by rw [List.getElem?_eq_getElem (by rw [List.length_range]; exact h), List.getElem_range], rfl⟩
theorem ringD_lt {n f : Nat} (f2 : 2 ≤ f) (fn : f + 3 ≤ n) {d : Nat} (h : d ∈ ringD n f) : 0 < d ∧ d < n ∧ n - d ∈ ringD n f := by
  unfold ringD at *
  simp only [List.mem_cons, List.not_mem_nil, or_false] at *
  omega
theorem ring_nz {n f : Nat} (f2 : 2 ≤ f) (fn : f + 3 ≤ n) (n40 : n ≤ 40) (nd : (ringD n f).Nodup) : Nz (ringR n f) := by
  have ln : (ringR n f).length = n := by unfold ringR; rw [List.length_map, List.length_range]
  refine ⟨⟨fun p row e => ?_, fun p row a e m => ?_, fun a b h => ?_⟩, by omega, by omega, fun p row e => ?_⟩
  · obtain ⟨hp, rfl⟩ := ring_at.mp e
    refine List.pairwise_map.mpr (nd.imp_of_mem fun {d e} hd he ne z => ne ?_)
    have d1 := ringD_lt f2 fn hd
    have e1 := ringD_lt f2 fn he
    rw [turn_is hp d1.2.1, turn_is hp e1.2.1] at z
    split at z <;> split at z <;> omega
  · obtain ⟨hp, rfl⟩ := ring_at.mp e
    obtain ⟨d, hd, rfl⟩ := List.mem_map.mp m
    have d1 := ringD_lt f2 fn hd
    rw [ln, turn_is hp d1.2.1]
    split <;> omega
  · obtain ⟨row, e, m⟩ := h
    obtain ⟨hp, rfl⟩ := ring_at.mp e
    obtain ⟨d, hd, rfl⟩ := List.mem_map.mp m
    have d1 := ringD_lt f2 fn hd
    have lt : (a + d) % n < n := Nat.mod_lt _ (by omega)
    refine ⟨_, ring_at.mpr ⟨lt, rfl⟩, List.mem_map.mpr ⟨n - d, d1.2.2, ?_⟩⟩
    rw [turn_is lt (by omega), turn_is hp d1.2.1]
    split <;> split <;> omega
  · obtain ⟨hp, rfl⟩ := ring_at.mp e
    unfold ringD
    exact fun z => nomatch z
theorem ring_z {n f i : Nat} {far : Int} (ef : far = (f : Int)) (f2 : 2 ≤ f) (fn : f + 3 ≤ n) {j : Nat} {v : V} (h : [V.int 1, V.int (1 + far), V.int far, V.int ((n : Int) - 1), V.int (2 * (n : Int) - 1 - far), V.int ((n : Int) - far)][j]? = some v) :
    ∃ (z : Int) (d : Nat), v = .int z ∧ (ringD n f)[j]? = some d ∧ (0 + (i : Int) + z) % (n : Int) = (((i + d) % n : Nat) : Int) := by
  have key : ∀ (z : Int) (d : Nat), z = (d : Int) → (0 + (i : Int) + z) % (n : Int) = (((i + d) % n : Nat) : Int) := fun z d e => by
    rw [e, Int.zero_add]
    rfl
  subst ef
  match j, h with
  | 0, h => exact ⟨_, 1, (Option.some.inj h).symm, rfl, key _ _ rfl⟩
  | 1, h => exact ⟨_, 1 + f, (Option.some.inj h).symm, rfl, key _ _ (by omega)⟩
  | 2, h => exact ⟨_, f, (Option.some.inj h).symm, rfl, key _ _ rfl⟩
  | 3, h => exact ⟨_, n - 1, (Option.some.inj h).symm, rfl, key _ _ (by omega)⟩
  | 4, h =>
    refine ⟨_, n - 1 - f, (Option.some.inj h).symm, rfl, ?_⟩
    rw [← key ((n : Int) - 1 - (f : Int)) (n - 1 - f) (by omega), show (0 : Int) + (i : Int) + (2 * (n : Int) - 1 - (f : Int)) = 0 + (i : Int) + ((n : Int) - 1 - (f : Int)) + (n : Int) by omega, Int.add_emod_right]
  | 5, h => exact ⟨_, n - f, (Option.some.inj h).symm, rfl, key _ _ (by omega)⟩
  | j + 6, h => exact absurd h (by simp)
theorem ring_nd {n f : Nat} {far : Int} (ef : far = (f : Int)) (f2 : 2 ≤ f) (fn : f + 3 ≤ n) (h : [1, (1 + far) % (n : Int), far, (n : Int) - 1, ((n : Int) - 1 - far) % (n : Int), (n : Int) - far].Nodup) : (ringD n f).Nodup := by
  have e : [1, (1 + far) % (n : Int), far, (n : Int) - 1, ((n : Int) - 1 - far) % (n : Int), (n : Int) - far] = (ringD n f).map fun d : Nat => (d : Int) := by
    subst ef
    unfold ringD
    rw [Int.emod_eq_of_lt (by omega) (by omega), Int.emod_eq_of_lt (by omega) (by omega)]
    simp only [List.map_cons, List.map_nil]
    rw [show ((1 + f : Nat) : Int) = 1 + (f : Int) by omega, show ((n - 1 : Nat) : Int) = (n : Int) - 1 by omega, show ((n - 1 - f : Nat) : Int) = (n : Int) - 1 - (f : Int) by omega, show ((n - f : Nat) : Int) = (n : Int) - (f : Int) by omega]
    rfl
  rw [e] at h
  exact (List.pairwise_map.mp h).imp fun hh z => hh (congrArg _ z)
theorem ring_two {n : Nat} (h : 7 ≤ n) : (ringD n 2).Nodup := by
  unfold ringD
  simp only [List.nodup_cons, List.mem_cons, List.not_mem_nil, or_false, List.nodup_nil, and_true, not_or, not_false_iff]
  repeat' constructor
  all_goals omega
theorem ring_take {n f i : Nat} (h : i < n) : (ringR n f).take (i + 1) = (ringR n f).take i ++ [(ringD n f).map fun d => (i + d) % n] := by
  rw [List.take_succ, ring_at.mpr ⟨h, rfl⟩]
  rfl
theorem ring_len {n f : Nat} : (ringR n f).length = n := by unfold ringR; rw [List.length_map, List.length_range]
def spRing : Sp := fun vs H Q _ => ∃ (a : Addr) (n : Nat), vs = [.ref a, vn n] ∧ PotAt H a ∧ 7 ≤ n ∧ n ≤ 40 ∧
  ∀ (r : Addr) (A : List Addr) (L : Rows) (H' : Hp), SameBut a H H' → PotAt H' a → RowsAt H' r A L → Nz L → a ≠ r → a ∉ A → Q (.ref r) H'
theorem ok_law_ring {f : Addr} {fd : FuncData} (F : Fun K "_law_ring" "_law_ring" s_law_ring f fd) (h_law_digit : Own.Has P w K mg base "_law_digit" ["_law_pot_here", "_law_many"] 1 (spDigit)) (z_len : mg "len" = none) (z_set : mg "set" = none) (z_range : mg "range" = none) : FnOk P w K mg base CX0 2 f fd ["_law_pot_here", "_law_n"] (spRing) := by
  refine F.ok sc_law_ring (fun vs H Q E h => ?_) (fun cdv A outer s H vs Q E hr h => ?_)
  · obtain ⟨a, n, rfl, _⟩ := h
    rfl
  obtain ⟨a, n, rfl, ha, n7, n40, k⟩ := h
  refine ⟨_, (pss_cons (ps_set (i := 2) sc_law_ring.nd rfl (Or.inr rfl) (pe_op op_add pe_int (Own.pe_has h_law_digit (hr.mono (by decide)) rfl (pa_cons (pv 0) (pa_cons (pe_op op_sub (pv 1) pe_int) pa_nil)))))
      (pss_cons (ps_if (pt_cmpR op_lt (pe_callB call_lenI rfl z_len PySem.boot_len (pa_cons (pe_callTy (call_setI rfl) rfl z_set PyProof.Rows.boot_set (pa_cons (pe_lst (pa_cons pe_int (pa_cons (pe_op op_mod (pe_op op_add pe_int (pv 2)) (pv 1)) (pa_cons (pv 2) (pa_cons (pe_op op_sub (pv 1) pe_int) (pa_cons (pe_op op_mod (pe_op op_sub (pe_op op_sub (pv 1) pe_int) (pv 2)) (pv 1)) (pa_cons (pe_op op_sub (pv 1) (pv 2)) pa_nil))))))) pa_nil)) pa_nil)) pe_int (nomark _)) (pss_one (ps_set (i := 2) sc_law_ring.nd rfl (Or.inr rfl) pe_int)) pss_nil)
      (pss_one (ps_ret (pe_lc1y (Nc := ["_law_p", "_law_n", "_law_far"]) (js := [none, some 1, some 2]) rfl rfl (pi_range1 rfl z_range (pa_cons (pv 1) pa_nil)) (CS2.of rfl rfl) rfl (fun C s₂ H₂ fp pins => (pg_name (i := 0) (show List.Nodup (α := Str) ["_law_p", "_law_n", "_law_far"] by decide +kernel) rfl (Or.inr rfl))) (fun C s₂ H₂ fp pins D L => (pt_tail0 (pb_app (pe_lc1x (Nc := ["_law_d", "_law_n", "_law_p"]) (js := [none, some 1, some 0]) rfl rfl (show PI _ _ _ (iTup K _) from (pi_tup (pe_tup (pa_cons pe_int (pa_cons (pe_op op_add pe_int (pv 2)) (pa_cons (pv 2) (pa_cons (pe_op op_sub (pv 1) pe_int) (pa_cons (pe_op op_sub (pe_op op_sub (pe_op op_mul pe_int (pv 1)) pe_int) (pv 2)) (pa_cons (pe_op op_sub (pv 1) (pv 2)) pa_nil))))))))) (CS.of rfl rfl) rfl (fun C s₂ H₂ fp pins => (pg_name (i := 0) (show List.Nodup (α := Str) ["_law_d", "_law_n", "_law_p"] by decide +kernel) rfl (Or.inl rfl))) (fun C s₂ H₂ fp pins D L => (pt_tail0 (pb_app (pe_op op_mod (pe_op op_add (pv 2) (pv 0)) (pv 1)))))))))))))), ?_⟩
  refine ⟨_, rfl, _, rfl, _, _, rfl, rfl, a, _, rfl, ha, (by omega), lit9 (by omega), fun d H2 d0 d1 s2 p2 => ?_⟩
  refine ⟨_, _, rfl, rfl, ?_⟩
  refine ⟨_, rfl, _, _, rfl, rfl, _, rfl, _, _, rfl, rfl, (by omega), _, rfl, _, rfl, _, _, rfl, rfl, _, rfl, _, _, rfl, rfl, _, rfl, _, _, rfl, rfl, _, rfl, _, _, rfl, rfl, (by omega), _, rfl, _, rfl, _, _, rfl, rfl, (by show 6 ≤ sizeLine; decide), fun p np => ?_⟩
  refine ⟨p, [1, (1 + (2 + d)) % (n : Int), 2 + d, (n : Int) - 1, ((n : Int) - 1 - (2 + d)) % (n : Int), (n : Int) - (2 + d)], rfl, .inl (SqL.of upd_same), (by simp), fun S fn m nS iff le => ?_⟩
  have g3 := (same_new np (.lst [V.int 1, V.int ((1 + (2 + d)) % (n : Int)), V.int (2 + d), V.int ((n : Int) - 1), V.int (((n : Int) - 1 - (2 + d)) % (n : Int)), V.int ((n : Int) - (2 + d))])).trans (same_new nS (.set fn m))
  refine ⟨S, fn, m, rfl, upd_same, _, _, rfl, rfl, _, rfl, ?_⟩
  have p3 := p2.kept g3
  have s3 : SameBut a H _ := s2.trans (.of g3)
  generalize upd (upd H2 p (.lst [V.int 1, V.int ((1 + (2 + d)) % (n : Int)), V.int (2 + d), V.int ((n : Int) - 1), V.int (((n : Int) - 1 - (2 + d)) % (n : Int)), V.int ((n : Int) - (2 + d))])) S (.set fn m) = H3 at *
  refine ite2 (fun c => ?_) (fun c => ?_)
  · obtain ⟨f, ef, f2, fn, nd⟩ : ∃ f : Nat, (2 : Int) = (f : Int) ∧ 2 ≤ f ∧ f + 3 ≤ n ∧ (ringD n f).Nodup := ⟨2, rfl, by omega, by omega, ring_two n7⟩
    refine ⟨_, rfl, (n : Int), rfl, by omega, by omega, fun D nD => ?_⟩
    have dA : a ≠ D := by
      obtain ⟨x, y, z, _⟩ := p3
      exact ne_of_none z nD
    refine walk_range (lo := 0) (n := (n : Int).toNat) (fun i σ H4 => ∃ (x0 : Option V) (A : List Addr), σ = [x0, some (vn n), some (.int 2)] ∧ RowsAt H4 D A ((ringR n f).take i) ∧ Same H3 H4 ∧ ∀ b ∈ A, H3 b = none)
      ⟨none, [], rfl, ⟨upd_same, by rw [List.take_zero]; rfl, List.nodup_nil, (by simp), (fun i a ns e => by simp at e)⟩, same_new nD _, (by simp)⟩ ?_ ?_
    · rintro i σ H4 hi ⟨x0, A1, rfl, X, g4, nA⟩
      have hi : i < n := by omega
      refine ⟨_, rfl, _, _, rfl, rfl, _, rfl, _, rfl, _, _, rfl, rfl, _, rfl, _, _, rfl, rfl, .inl ⟨by decide, by decide⟩, _, _, rfl, rfl, _, rfl, _, _, rfl, rfl, _, rfl, _, rfl, _, _, rfl, rfl, (by show 6 ≤ sizeLine; decide), fun T nT => ?_⟩
      have gT := same_new nT (.tup [V.int 1, V.int (1 + 2), V.int 2, V.int ((n : Int) - 1), V.int (2 * (n : Int) - 1 - 2), V.int ((n : Int) - 2)])
      have hT : upd H4 T (.tup [V.int 1, V.int (1 + 2), V.int 2, V.int ((n : Int) - 1), V.int (2 * (n : Int) - 1 - 2), V.int ((n : Int) - 2)]) T = some (.tup [V.int 1, V.int (1 + 2), V.int 2, V.int ((n : Int) - 1), V.int (2 * (n : Int) - 1 - 2), V.int ((n : Int) - 2)]) := upd_same
      refine ⟨T, rfl, ⟨_, SqT.of hT⟩, fun D2 nD2 => ?_⟩
      have g5 := g4.trans gT
      have X5 := X.kept gT
      have nD25 : upd H4 T (.tup [V.int 1, V.int (1 + 2), V.int 2, V.int ((n : Int) - 1), V.int (2 * (n : Int) - 1 - 2), V.int ((n : Int) - 2)]) D2 = none := nD2
      clear nD2
      refine walk_tup (xs := [V.int 1, V.int (1 + 2), V.int 2, V.int ((n : Int) - 1), V.int (2 * (n : Int) - 1 - 2), V.int ((n : Int) - 2)]) (fun j σ H6 => ∃ x : Option V, σ = [x, some (vn n), some (.int (0 + (i : Int)))] ∧ Same (upd H4 T (.tup [V.int 1, V.int (1 + 2), V.int 2, V.int ((n : Int) - 1), V.int (2 * (n : Int) - 1 - 2), V.int ((n : Int) - 2)])) H6 ∧ H6 D2 = some (.lst ((((ringD n f).take j).map fun d => (i + d) % n).map vn)))
        ⟨none, rfl, same_new nD25 _, upd_same⟩ ?_ ?_ ?_
      · rintro j σ H6 _ ⟨x, rfl, g6, _⟩
        exact SqT.of (g6 _ _ hT)
      · rintro j v σ H6 hv ⟨x, rfl, g6, hD2⟩
        obtain ⟨z, e, rfl, ee, ez⟩ := ring_z (i := i) ef f2 fn hv
        refine ⟨_, rfl, _, rfl, _, _, rfl, rfl, _, rfl, _, _, rfl, rfl, (by omega), _, hD2, (by rw [List.length_map, List.length_map, List.length_take]; exact small1000 (by show _ ≤ _; unfold ringD; simp; omega)), ?_⟩
        refine ⟨_, rfl, same_at nD25 g6, ?_⟩
        rw [List.take_succ, ee, Option.toList_some, List.map_append, List.map_append, show (fun (x y : Int) => V.int (x % y)) (0 + (i : Int) + z) (n : Int) = vn ((i + e) % n) from congrArg V.int ez]
        exact upd_same
      · rintro σ H6 ⟨x, rfl, g6, hD2⟩
        rw [show [V.int 1, V.int (1 + 2), V.int 2, V.int ((n : Int) - 1), V.int (2 * (n : Int) - 1 - 2), V.int ((n : Int) - 2)].length = (ringD n f).length from rfl, List.take_length] at hD2
        have X6 := X5.kept g6
        have g46 := g5.trans g6
        have n4 : H4 D2 = none := gT.free nD25
        have n3 : H3 D2 = none := g4.free n4
        have dD : D2 ≠ D := (ne_of_none X.top n4).symm
        have dA' : D2 ∉ A1 := fun z => by
          obtain ⟨o, ho⟩ := X.mem z
          rw [n4] at ho
          cases ho
        have lA := X.len
        rw [List.length_take, ring_len] at lA
        refine ⟨_, X6.top, (by rw [List.length_map]; exact small1000 (by omega)), ?_⟩
        refine ⟨_, A1 ++ [D2], rfl, (by rw [ring_take hi]; exact X6.app' hD2 dD dA'), same_at nD g46, fun b hb => ?_⟩
        rcases List.mem_append.mp hb with z | z
        · exact nA b z
        · rw [List.mem_singleton.mp z]; exact n3
    · rintro σ H4 ⟨x0, A1, rfl, X, g4, nA⟩
      rw [show ((n : Int).toNat) = (ringR n f).length by rw [ring_len]; omega, List.take_length] at X
      refine k D A1 _ H4 (s3.trans (.of g4)) (p3.kept g4) X (ring_nz f2 fn n40 nd) dA fun z => ?_
      obtain ⟨x, y, e, _⟩ := p3
      rw [nA a z] at e
      cases e

  · obtain ⟨f, ef, f2, fn, nd⟩ : ∃ f : Nat, 2 + d = (f : Int) ∧ 2 ≤ f ∧ f + 3 ≤ n ∧ (ringD n f).Nodup := by
      refine ⟨(2 + d).toNat, by omega, by omega, by omega, ring_nd (far := 2 + d) (by omega) (by omega) (by omega) (iff.mp ?_)⟩
      have c := of_decide_eq_false (Bool.not_eq_true _ ▸ c)
      have : ¬ (m : Int) < 6 := c
      simp at le ⊢
      omega
    refine ⟨_, rfl, (n : Int), rfl, by omega, by omega, fun D nD => ?_⟩
    have dA : a ≠ D := by
      obtain ⟨x, y, z, _⟩ := p3
      exact ne_of_none z nD
    refine walk_range (lo := 0) (n := (n : Int).toNat) (fun i σ H4 => ∃ (x0 : Option V) (A : List Addr), σ = [x0, some (vn n), some (.int (2 + d))] ∧ RowsAt H4 D A ((ringR n f).take i) ∧ Same H3 H4 ∧ ∀ b ∈ A, H3 b = none)
      ⟨none, [], rfl, ⟨upd_same, by rw [List.take_zero]; rfl, List.nodup_nil, (by simp), (fun i a ns e => by simp at e)⟩, same_new nD _, (by simp)⟩ ?_ ?_
    · rintro i σ H4 hi ⟨x0, A1, rfl, X, g4, nA⟩
      have hi : i < n := by omega
      refine ⟨_, rfl, _, _, rfl, rfl, _, rfl, _, rfl, _, _, rfl, rfl, _, rfl, _, _, rfl, rfl, .inl ⟨by decide, by decide⟩, _, _, rfl, rfl, _, rfl, _, _, rfl, rfl, _, rfl, _, rfl, _, _, rfl, rfl, (by show 6 ≤ sizeLine; decide), fun T nT => ?_⟩
      have gT := same_new nT (.tup [V.int 1, V.int (1 + (2 + d)), V.int (2 + d), V.int ((n : Int) - 1), V.int (2 * (n : Int) - 1 - (2 + d)), V.int ((n : Int) - (2 + d))])
      have hT : upd H4 T (.tup [V.int 1, V.int (1 + (2 + d)), V.int (2 + d), V.int ((n : Int) - 1), V.int (2 * (n : Int) - 1 - (2 + d)), V.int ((n : Int) - (2 + d))]) T = some (.tup [V.int 1, V.int (1 + (2 + d)), V.int (2 + d), V.int ((n : Int) - 1), V.int (2 * (n : Int) - 1 - (2 + d)), V.int ((n : Int) - (2 + d))]) := upd_same
      refine ⟨T, rfl, ⟨_, SqT.of hT⟩, fun D2 nD2 => ?_⟩
      have g5 := g4.trans gT
      have X5 := X.kept gT
      have nD25 : upd H4 T (.tup [V.int 1, V.int (1 + (2 + d)), V.int (2 + d), V.int ((n : Int) - 1), V.int (2 * (n : Int) - 1 - (2 + d)), V.int ((n : Int) - (2 + d))]) D2 = none := nD2
      clear nD2
      refine walk_tup (xs := [V.int 1, V.int (1 + (2 + d)), V.int (2 + d), V.int ((n : Int) - 1), V.int (2 * (n : Int) - 1 - (2 + d)), V.int ((n : Int) - (2 + d))]) (fun j σ H6 => ∃ x : Option V, σ = [x, some (vn n), some (.int (0 + (i : Int)))] ∧ Same (upd H4 T (.tup [V.int 1, V.int (1 + (2 + d)), V.int (2 + d), V.int ((n : Int) - 1), V.int (2 * (n : Int) - 1 - (2 + d)), V.int ((n : Int) - (2 + d))])) H6 ∧ H6 D2 = some (.lst ((((ringD n f).take j).map fun d => (i + d) % n).map vn)))
        ⟨none, rfl, same_new nD25 _, upd_same⟩ ?_ ?_ ?_
      · rintro j σ H6 _ ⟨x, rfl, g6, _⟩
        exact SqT.of (g6 _ _ hT)
      · rintro j v σ H6 hv ⟨x, rfl, g6, hD2⟩
        obtain ⟨z, e, rfl, ee, ez⟩ := ring_z (i := i) ef f2 fn hv
        refine ⟨_, rfl, _, rfl, _, _, rfl, rfl, _, rfl, _, _, rfl, rfl, (by omega), _, hD2, (by rw [List.length_map, List.length_map, List.length_take]; exact small1000 (by show _ ≤ _; unfold ringD; simp; omega)), ?_⟩
        refine ⟨_, rfl, same_at nD25 g6, ?_⟩
        rw [List.take_succ, ee, Option.toList_some, List.map_append, List.map_append, show (fun (x y : Int) => V.int (x % y)) (0 + (i : Int) + z) (n : Int) = vn ((i + e) % n) from congrArg V.int ez]
        exact upd_same
      · rintro σ H6 ⟨x, rfl, g6, hD2⟩
        rw [show [V.int 1, V.int (1 + (2 + d)), V.int (2 + d), V.int ((n : Int) - 1), V.int (2 * (n : Int) - 1 - (2 + d)), V.int ((n : Int) - (2 + d))].length = (ringD n f).length from rfl, List.take_length] at hD2
        have X6 := X5.kept g6
        have g46 := g5.trans g6
        have n4 : H4 D2 = none := gT.free nD25
        have n3 : H3 D2 = none := g4.free n4
        have dD : D2 ≠ D := (ne_of_none X.top n4).symm
        have dA' : D2 ∉ A1 := fun z => by
          obtain ⟨o, ho⟩ := X.mem z
          rw [n4] at ho
          cases ho
        have lA := X.len
        rw [List.length_take, ring_len] at lA
        refine ⟨_, X6.top, (by rw [List.length_map]; exact small1000 (by omega)), ?_⟩
        refine ⟨_, A1 ++ [D2], rfl, (by rw [ring_take hi]; exact X6.app' hD2 dD dA'), same_at nD g46, fun b hb => ?_⟩
        rcases List.mem_append.mp hb with z | z
        · exact nA b z
        · rw [List.mem_singleton.mp z]; exact n3
    · rintro σ H4 ⟨x0, A1, rfl, X, g4, nA⟩
      rw [show ((n : Int).toNat) = (ringR n f).length by rw [ring_len]; omega, List.take_length] at X
      refine k D A1 _ H4 (s3.trans (.of g4)) (p3.kept g4) X (ring_nz f2 fn n40 nd) dA fun z => ?_
      obtain ⟨x, y, e, _⟩ := p3
      rw [nA a z] at e
      cases e

end
section
variable {P : Program} {w : World} {K : PySem.W.Frag} {mg : Str → Option Value} {base : Heap}
def Turned (L L' : Rows) : Prop := L'.length = L.length ∧ ∀ (p : Nat) (row' : List Nat), L'[p]? = some row' → ∃ row, L[p]? = some row ∧ row'.Perm row
theorem turned_nz {L L' : Rows} (G : Nz L) (h : Turned L L') : Nz L' := by
  refine ⟨⟨fun p row e => ?_, fun p row a e m => ?_, fun a b z => ?_⟩, by rw [h.1]; exact G.three, by rw [h.1]; exact G.le, fun p row e => ?_⟩
  · obtain ⟨r, e1, pm⟩ := h.2 p row e
    exact pm.nodup_iff.mpr (G.nb.nd p r e1)
  · obtain ⟨r, e1, pm⟩ := h.2 p row e
    rw [h.1]
    exact G.nb.rng p r a e1 (pm.mem_iff.mp m)
  · obtain ⟨row, e, m⟩ := z
    obtain ⟨r, e1, pm⟩ := h.2 a row e
    obtain ⟨rb, e2, m2⟩ := G.nb.sym a b ⟨r, e1, pm.mem_iff.mp m⟩
    have lb : b < L'.length := by rw [h.1]; exact (List.getElem?_eq_some_iff.mp e2).1
    obtain ⟨r3, e3, pm3⟩ := h.2 b _ (List.getElem?_eq_getElem lb)
    rw [e2] at e3
    cases e3
    exact ⟨_, List.getElem?_eq_getElem lb, pm3.mem_iff.mpr m2⟩
  · obtain ⟨r, e1, pm⟩ := h.2 p row e
    exact fun z => G.ne p r e1 (List.Perm.nil_eq (z ▸ pm)).symm
theorem set_nd {A : List Addr} {p : Nat} {l : Addr} (h : A.Nodup) (n : l ∉ A) : (A.set p l).Nodup := by
  rw [List.nodup_iff_pairwise_ne, List.pairwise_iff_getElem] at *
  intro i j hi hj ij
  rw [List.length_set] at hi hj
  rw [List.getElem_set, List.getElem_set]
  split
  · split
    · omega
    · exact fun z => n (z ▸ List.getElem_mem _)
  · split
    · exact fun z => n (z ▸ List.getElem_mem _)
    · exact h i j hi hj ij
def spSpoilt : Sp := fun vs H Q _ => ∃ (a r : Addr) (A : List Addr) (L : Rows), vs = [.ref a, .ref r] ∧ PotAt H a ∧ RowsAt H r A L ∧ Nz L ∧ a ≠ r ∧ a ∉ A ∧
  ∀ (r' : Addr) (A' : List Addr) (L' : Rows) (H' : Hp), SameBut a H H' → PotAt H' a → RowsAt H' r' A' L' → Nz L' → a ≠ r' → a ∉ A' → Q (.ref r') H'
theorem ok_law_spoilt {f : Addr} {fd : FuncData} (F : Fun K "_law_spoilt" "_law_spoilt" s_law_spoilt f fd) (h_law_digit : Own.Has P w K mg base "_law_digit" ["_law_pot_here", "_law_many"] 1 (spDigit)) (h_law_ring : Own.Has P w K mg base "_law_ring" ["_law_pot_here", "_law_n"] 2 (spRing)) (h_law_thinned : Own.Has P w K mg base "_law_thinned" ["_law_pot_here", "_law_rows_here", "_law_many"] 3 (spThin)) (h_law_shuffled : Own.Has P w K mg base "_law_shuffled" ["_law_pot_here", "_law_row"] 2 (spShuf)) (z_max : mg "max" = none) (z_len : mg "len" = none) : FnOk P w K mg base CX0 4 f fd ["_law_pot_here", "_law_rows_here"] (spSpoilt) := by
  refine F.ok sc_law_spoilt (fun vs H Q E h => ?_) (fun cdv A outer s H vs Q E hr h => ?_)
  · obtain ⟨a, r, A, L, rfl, _⟩ := h
    rfl
  obtain ⟨a, r, A1, L, rfl, ha, X, G, nar, naA, k⟩ := h
  refine ⟨_, (pss_cons (ps_set (i := 2) sc_law_spoilt.nd rfl (Or.inl rfl) (Own.pe_has h_law_digit (hr.mono (by decide)) rfl (pa_cons (pv 0) (pa_cons pe_int pa_nil))))
      (pss_cons (ps_if (pt_cmpR op_eq (pv 2) pe_int (nomark _)) (pss_one (ps_ret (Own.pe_has h_law_ring (hr.mono (by decide)) rfl (pa_cons (pv 0) (pa_cons (pe_callB (call_max2 rfl) rfl z_max PyProof.Rows.boot_max (pa_cons pe_int (pa_cons (pe_callB call_len_seq rfl z_len PySem.boot_len (pa_cons (pv 1) pa_nil)) pa_nil))) pa_nil))))) pss_nil)
      (pss_cons (ps_if (pt_cmpR op_eq (pv 2) pe_int (nomark _)) (pss_one (ps_ret (Own.pe_has h_law_thinned (hr.mono (by decide)) rfl (pa_cons (pv 0) (pa_cons (pv 1) (pa_cons (pe_op op_add pe_int (Own.pe_has h_law_digit (hr.mono (by decide)) rfl (pa_cons (pv 0) (pa_cons pe_int pa_nil)))) pa_nil)))))) pss_nil)
      (pss_cons (ps_if (pt_cmpR op_eq (pv 2) pe_int (nomark _)) (pss_one (ps_ret (pe_lc1x (Nc := ["_law_row", "_law_pot_here"]) (js := [none, some 0]) rfl rfl (pi_list (pv 1)) (CS.of rfl rfl) rfl (fun C s₂ H₂ fp pins => (pg_name (i := 0) (show List.Nodup (α := Str) ["_law_row", "_law_pot_here"] by decide +kernel) rfl (Or.inl rfl))) (fun C s₂ H₂ fp pins D L => (pt_tail0 (pb_app (Own.pe_has h_law_shuffled (hr.mono (by decide)) rfl (pa_cons (pv 1) (pa_cons (pv 0) pa_nil))))))))) pss_nil)
      (pss_cons (ps_if (pt_cmpR op_eq (pv 2) pe_int (nomark _)) (pss_cons (ps_set (i := 3) sc_law_spoilt.nd rfl (Or.inl rfl) (Own.pe_has h_law_digit (hr.mono (by decide)) rfl (pa_cons (pv 0) (pa_cons (pe_callB call_len_seq rfl z_len PySem.boot_len (pa_cons (pv 1) pa_nil)) pa_nil))))
      (pss_one (ps_ret (pe_op op_cat (pe_op op_cat (pe_slice sl_list (pv 1) po_none (po_some (pv 3))) (pe_lst (pa_cons (Own.pe_has h_law_shuffled (hr.mono (by decide)) rfl (pa_cons (pv 0) (pa_cons (pe_ix ix_list (pv 1) (pv 3) (fun _ _ => rfl)) pa_nil))) pa_nil))) (pe_slice sl_list (pv 1) (po_some (pe_op op_add (pv 3) pe_int)) po_none))))) pss_nil)
      (pss_one (ps_ret (pv 1)))))))), ?_⟩
  have l3 := G.three
  have l40 := G.le
  have lA : ((A1.map V.ref).length : Int) = L.length := by rw [List.length_map, X.len]
  refine ⟨_, rfl, a, 6, rfl, ha, by decide, lit9 (by decide), fun d H2 d0 d1 s2 p2 => ?_⟩
  have X2 := X.but nar naA s2
  refine ⟨_, rfl, rfl, _, rfl, ite2 (fun c => ?_) (fun c => ?_)⟩
  · refine ⟨_, rfl, _, rfl, r, _, rfl, .inl (SqL.of X2.top), 7, _, rfl, ?_⟩
    rw [lA, show (if (L.length : Int) > 7 then (L.length : Int) else 7) = ((max 7 L.length : Nat) : Int) by split <;> omega]
    exact ⟨a, max 7 L.length, rfl, p2, by omega, by omega, fun r' A' L' H3 s3 p3 X3 G3 n1 n2 => k r' A' L' H3 (s2.trans s3) p3 X3 G3 n1 n2⟩
  refine ⟨_, rfl, rfl, _, rfl, ite2 (fun c => ?_) (fun c => ?_)⟩
  · refine ⟨_, rfl, _, rfl, _, rfl, a, 6, rfl, p2, by decide, lit9 (by decide), fun d' H3 e0 e1 s3 p3 => ⟨_, _, rfl, rfl, ?_⟩⟩
    obtain ⟨m', rfl⟩ := Int.eq_ofNat_of_zero_le e0
    exact ⟨a, r, A1, L, 1 + m', rfl, p3, X2.but nar naA s3, G, nar, naA, by omega, fun r' A' L' H4 s4 p4 X4 G4 n1 n2 => k r' A' L' H4 (s2.trans (s3.trans s4)) p4 X4 G4 n1 n2⟩
  refine ⟨_, rfl, rfl, _, rfl, ite2 (fun c => ?_) (fun c => ?_)⟩
  · refine ⟨_, rfl, r, rfl, ⟨_, SqL.of X2.top⟩, fun D nD => ?_⟩
    have aD : a ≠ D := by
      obtain ⟨x, y, z, _⟩ := p2
      exact ne_of_none z nD
    refine walk_list (xs := A1.map V.ref) (fun i σ H3 => ∃ (x0 : Option V) (A' : List Addr) (L' : Rows), σ = [x0, some (.ref a)] ∧ RowsAt H3 D A' L' ∧ Turned (L.take i) L' ∧ SameBut a H2 H3 ∧ PotAt H3 a ∧ ∀ b ∈ A', H2 b = none)
      ⟨none, [], [], rfl, ⟨upd_same, rfl, List.nodup_nil, (by simp), (fun i a ns e => by simp at e)⟩, ⟨by rw [List.take_zero], fun p row e => by simp at e⟩, .of (same_new nD _), p2.kept (same_new nD _), (by simp)⟩ ?_ ?_ ?_
    · rintro i σ H3 _ ⟨x0, A', L', rfl, X3, tn, s3, p3, nA⟩
      exact SqL.of (s3 _ _ nar.symm X2.top)
    · rintro i x σ H3 hx ⟨x0, A', L', rfl, X3, tn, s3, p3, nA⟩
      rw [List.getElem?_map] at hx
      obtain ⟨b, eb, rfl⟩ := Option.map_eq_some_iff.mp hx
      have hi : i < L.length := by rw [← X.len]; exact (List.getElem?_eq_some_iff.mp eb).1
      have et := List.getElem?_eq_getElem hi
      have ab : a ≠ b := fun z => naA (z ▸ List.mem_of_getElem? eb)
      have hb := s3 _ _ ab.symm (X2.row i b _ eb et)
      have lr := G.nb.len et
      have ll := tn.1
      rw [List.length_take] at ll
      have tk : L.take (i + 1) = L.take i ++ [L[i]] := by rw [List.take_succ, et]; rfl
      rw [tk]
      generalize L[i] = row at *
      have naA' : a ∉ A' := fun z => by
        obtain ⟨x, y, e, _⟩ := p2
        rw [nA a z] at e
        cases e
      refine ⟨_, rfl, _, rfl, a, b, row, rfl, p3, hb, ab, by omega, fun l ns H4 s4 p4 nl la hl perm => ?_⟩
      have X4 := X3.but aD naA' s4
      have lD : l ≠ D := (ne_of_none X3.top nl).symm
      have lA' : l ∉ A' := fun z => by
        obtain ⟨o, ho⟩ := X3.mem z
        rw [nl] at ho
        cases ho
      have n2 : H2 l = none := by
        cases e : H2 l with
        | none => rfl
        | some o => rw [s3 l o la e] at nl; cases nl
      refine ⟨_, X4.top, (by rw [List.length_map, X3.len]; exact small1000 (by omega)), ?_⟩
      refine ⟨_, A' ++ [l], L' ++ [ns], rfl, X4.app' hl lD lA', ⟨by rw [List.length_append, List.length_append, tn.1]; rfl, fun p row' e => ?_⟩, (fun c o nb e => ?_), p4.other aD, fun c hc => ?_⟩
      · by_cases hp : p < L'.length
        · rw [List.getElem?_append_left hp] at e
          obtain ⟨r0, e0, pm⟩ := tn.2 p row' e
          exact ⟨r0, by rw [List.getElem?_append_left (List.getElem?_eq_some_iff.mp e0).1]; exact e0, pm⟩
        · rw [List.getElem?_append_right (by omega)] at e
          have : p - L'.length = 0 := by
            have := (List.getElem?_eq_some_iff.mp e).1
            rw [List.length_singleton] at this
            omega
          rw [this] at e
          cases e
          refine ⟨row, ?_, perm⟩
          rw [List.getElem?_append_right (by rw [List.length_take]; omega), List.length_take, show p - min i L.length = 0 by omega]
          rfl
      · rw [upd_ne (ne_of_none e nD)]
        exact s4 c o nb (s3 c o nb e)
      · rcases List.mem_append.mp hc with z | z
        · exact nA c z
        · rw [List.mem_singleton.mp z]; exact n2
    · rintro σ H3 ⟨x0, A', L', rfl, X3, tn, s3, p3, nA⟩
      rw [List.length_map, X.len, List.take_length] at tn
      refine k D A' L' H3 (s2.trans s3) p3 X3 (turned_nz G tn) aD fun z => ?_
      obtain ⟨x, y, e, _⟩ := p2
      rw [nA a z] at e
      cases e
  refine ⟨_, rfl, rfl, _, rfl, ite2 (fun c => ?_) (fun c => ?_)⟩
  · refine ⟨_, rfl, _, rfl, r, _, rfl, .inl (SqL.of X2.top), a, _, rfl, p2, (by rw [lA]; omega), lit9 (by rw [lA]; exact Nat.lt_of_le_of_lt (m := 1000) (by omega) (by decide)), fun d' H3 e0 e1 s3 p3 => ?_⟩
    rw [lA] at e1
    obtain ⟨p, rfl⟩ := Int.eq_ofNat_of_zero_le e0
    have X3 := X2.but nar naA s3
    have hp : p < L.length := by omega
    have hrow := List.getElem?_eq_getElem hp
    obtain ⟨ap, a1, a2, a3⟩ := X3.at hrow
    have apa : a ≠ ap := fun z => naA (z ▸ List.mem_of_getElem? a1)
    have lr := G.nb.len hrow
    have lAn : A1.length = L.length := X.len
    refine ⟨_, rfl, _, rfl, _, rfl, r, _, rfl, SqL.of X3.top, fun p1 m1 => ?_⟩
    rw [cut_to _ (by rw [List.length_map]; omega), ← List.map_take]
    have g1 := same_new m1 (.lst ((A1.take p).map V.ref))
    have h1 := upd_same (H := H3) (a := p1) (o := .lst ((A1.take p).map V.ref))
    have X4 := X3.kept g1
    have p4 := p3.kept g1
    have p1a : p1 ≠ a := by
      obtain ⟨x, y, e, _⟩ := p3
      exact (ne_of_none e m1).symm
    generalize upd H3 p1 (.lst ((A1.take p).map V.ref)) = H4 at *
    refine ⟨_, rfl, _, rfl, _, rfl, r, _, _, _, rfl, rfl, SqL.of X4.top, a3, a, ap, _, rfl, p4, g1 _ _ a2, apa, by omega, fun l ns H5 s5 p5 nl la hl perm => ?_⟩
    have X5 := X4.but nar naA s5
    have lA1 : l ∉ A1 := fun z => by
      obtain ⟨o, ho⟩ := X4.mem z
      rw [nl] at ho
      cases ho
    have h15 := s5 _ _ p1a h1
    refine ⟨(by show 1 ≤ sizeLine; decide), fun p2' m2 => ?_⟩
    have g2 := same_new m2 (.lst [V.ref l])
    have h2 := upd_same (H := H5) (a := p2') (o := .lst [V.ref l])
    have h16 := g2 _ _ h15
    have X6 := X5.kept g2
    have p6 := p5.kept g2
    have hl6 := g2 _ _ hl
    generalize upd H5 p2' (.lst [V.ref l]) = H6 at *
    refine ⟨p1, p2', _, _, rfl, rfl, h16, h2, (by simp only [List.length_map, List.length_take, List.length_cons, List.length_nil]; exact Nat.le_of_lt (small1000 (by omega))), fun p3' m3 => ?_⟩
    have g3 := same_new m3 (.lst ((A1.take p).map V.ref ++ [V.ref l]))
    have h3 := upd_same (H := H6) (a := p3') (o := .lst ((A1.take p).map V.ref ++ [V.ref l]))
    have X7 := X6.kept g3
    have p7 := p6.kept g3
    have hl7 := g3 _ _ hl6
    generalize upd H6 p3' (.lst ((A1.take p).map V.ref ++ [V.ref l])) = H7 at *
    refine ⟨_, rfl, _, rfl, _, _, rfl, rfl, _, rfl, r, _, rfl, SqL.of X7.top, fun p4' m4 => ?_⟩
    rw [show ((p : Int) + 1) = ((p + 1 : Nat) : Int) by omega, cut_from _ (by rw [List.length_map]; omega), ← List.map_drop]
    have g4 := same_new m4 (.lst ((A1.drop (p + 1)).map V.ref))
    have h4 := upd_same (H := H7) (a := p4') (o := .lst ((A1.drop (p + 1)).map V.ref))
    have h38 := g4 _ _ h3
    have X8 := X7.kept g4
    have p8 := p7.kept g4
    have hl8 := g4 _ _ hl7
    generalize upd H7 p4' (.lst ((A1.drop (p + 1)).map V.ref)) = H8 at *
    refine ⟨p3', p4', _, _, rfl, rfl, h38, h4, (by simp only [List.length_map, List.length_append, List.length_take, List.length_drop, List.length_cons, List.length_nil]; exact Nat.le_of_lt (small1000 (by omega))), fun p5' m5 => ?_⟩
    have eA : (A1.take p).map V.ref ++ [V.ref l] ++ (A1.drop (p + 1)).map V.ref = (A1.set p l).map V.ref := by
      rw [List.set_eq_take_append_cons_drop, if_pos (by omega), List.map_append, List.map_cons, List.append_assoc]
      rfl
    rw [eA]
    have g5 := same_new m5 (.lst ((A1.set p l).map V.ref))
    have h5 := upd_same (H := H8) (a := p5') (o := .lst ((A1.set p l).map V.ref))
    have X9 := X8.kept g5
    have p9 := p8.kept g5
    have hl9 := g5 _ _ hl8
    have n5 : p5' ∉ A1.set p l := fun z => by
      rcases List.mem_or_eq_of_mem_set z with z | z
      · obtain ⟨o, ho⟩ := X8.mem z
        rw [m5] at ho
        cases ho
      · rw [z, hl8] at m5
        cases m5
    have ap5 : a ≠ p5' := by
      obtain ⟨x, y, e, _⟩ := p8
      exact ne_of_none e m5
    have sall := s2.trans (s3.trans ((SameBut.of g1).trans (s5.trans ((SameBut.of g2).trans ((SameBut.of g3).trans ((SameBut.of g4).trans (.of g5)))))))
    generalize upd H8 p5' (.lst ((A1.set p l).map V.ref)) = H9 at *
    refine k p5' (A1.set p l) (L.set p ns) H9 sall p9 ⟨h5, by rw [List.length_set, List.length_set]; exact lAn, set_nd X.nd lA1, n5, fun i b row e1 e2 => ?_⟩ (turned_nz G ⟨List.length_set, fun i row e => ?_⟩) ap5 fun z => ?_
    · by_cases ip : p = i
      · subst ip
        rw [List.getElem?_set_self (by omega)] at e1 e2
        cases e1
        cases e2
        exact hl9
      · rw [List.getElem?_set_ne ip] at e1 e2
        exact X9.row i b row e1 e2
    · by_cases ip : p = i
      · subst ip
        rw [List.getElem?_set_self (by omega)] at e
        cases e
        exact ⟨_, hrow, perm⟩
      · rw [List.getElem?_set_ne ip] at e
        exact ⟨row, e, .refl _⟩
    · rcases List.mem_or_eq_of_mem_set z with z | z
      · exact naA z
      · exact la z.symm
  exact ⟨_, rfl, k r A1 L H2 s2 p2 X2 G nar naA⟩
end
section
variable {P : Program} {w : World} {K : PySem.W.Frag} {mg : Str → Option Value} {base : Heap}
theorem third_at {W : Rows} (S : Nb W) {p q : Nat} (h : E W p q) : ∃ row, W[q]? = some row ∧ p ∈ row ∧ prevB row p = some (nxt W (p, q)).2 ∧ E W q (nxt W (p, q)).2 := by
  obtain ⟨row, e, m⟩ := S.sym p q h
  obtain ⟨v, hv⟩ := prev_ex m
  have en : (nxt W (p, q)).2 = v := by
    unfold nxt
    rw [List.getD_eq_getElem?_getD, e]
    show (prevB row p).getD 0 = v
    rw [hv]
    rfl
  rw [en]
  exact ⟨row, e, m, hv, row, e, prev_mem (S.nd _ _ e) m hv⟩
def spDue : Sp := fun vs H Q _ => ∃ (t : Addr) (W : Rows), vs = [.ref t] ∧ WebAt H t W ∧ Nb W ∧ W.length ≤ 42 ∧ ∀ (c : Bool) (H' : Hp), Same H H' → (c = true ↔ (∀ t ∈ stepsL W, (nxt W (nxt W t)).2 = t.1) ∧ (stepsL W).length + 12 = 6 * W.length) → Q (.bl c) H'
theorem sum_take {W : Rows} {i : Nat} {row : List Nat} (e : W[i]? = some row) : ((W.take (i + 1)).map List.length).sum = ((W.take i).map List.length).sum + row.length := by
  rw [List.take_succ, e, List.map_append, List.sum_append]
  simp
theorem ok_law_due {f : Addr} {fd : FuncData} (F : Fun K "_law_due" "_law_due" s_law_due f fd) (h_law_third : Own.Has P w K mg base "_law_third" ["_law_web_here", "_law_p", "_law_q"] 1 (spThird)) (z_enumerate : mg "enumerate" = none) (z_len : mg "len" = none) : FnOk P w K mg base CX0 2 f fd ["_law_web_here"] (spDue) := by
  refine F.ok sc_law_due (fun vs H Q E h => ?_) (fun cdv A outer s0 H vs Q EX hr h => ?_)
  · obtain ⟨t, W, rfl, _⟩ := h
    rfl
  obtain ⟨t, W, rfl, hW, S, h42, k⟩ := h
  refine ⟨_, (pss_cons (ps_set (i := 1) sc_law_due.nd rfl (Or.inl rfl) pe_int)
      (pss_cons (ps_for PassesOwn.never rfl (pi_enum false rfl z_enumerate (pa_cons (pv 0) pa_nil)) (pg_tup rfl (pgs_cons (pg_name (i := 2) sc_law_due.nd rfl (Or.inl rfl)) (pgs_cons (pg_name (i := 3) sc_law_due.nd rfl (Or.inl rfl)) pgs_nil))) (pss_one (ps_for PassesOwn.never rfl (pi_tup (pv 3)) (pg_name (i := 4) sc_law_due.nd rfl (Or.inl rfl)) (pss_cons (ps_if (pt_cmpR op_ne (Own.pe_has h_law_third (hr.mono (by decide)) rfl (pa_cons (pv 0) (pa_cons (pv 4) (pa_cons (Own.pe_has h_law_third (hr.mono (by decide)) rfl (pa_cons (pv 0) (pa_cons (pv 2) (pa_cons (pv 4) pa_nil)))) pa_nil)))) (pv 2) (nomark _)) (pss_one (ps_ret pe_bl)) pss_nil)
      (pss_one (ps_set (i := 1) sc_law_due.nd rfl (Or.inl rfl) (pe_op op_add (pv 1) pe_int)))))))
      (pss_one (ps_ret (pe_cmpR op_eq (pv 1) (pe_op op_sub (pe_op op_mul pe_int (pe_callB call_len_seq rfl z_len PySem.boot_len (pa_cons (pv 0) pa_nil))) pe_int) (nomark _)))))), ?_⟩
  obtain ⟨ts, h1, lts, h3⟩ := id hW
  refine ⟨_, rfl, t, rfl, ⟨_, SqT.of h1⟩, for_enum (k := false) (xs := ts.map V.ref) (fun i σ H2 => ∃ (x2 x3 x4 : Option V), σ = [some (.ref t), some (vn ((W.take i).map List.length).sum), x2, x3, x4] ∧ Same H H2 ∧ ∀ p q, p < i → E W p q → (nxt W (nxt W (p, q))).2 = p)
    ⟨none, none, none, rfl, Same.refl _, fun p q hp => by omega⟩ ?_ ?_ ?_⟩
  · rintro i σ H2 _ ⟨x2, x3, x4, rfl, g2, _⟩
    exact SqT.of (g2 _ _ h1)
  · rintro i x T σ H2 hx nT ⟨x2, x3, x4, rfl, g2, al⟩
    rw [List.getElem?_map] at hx
    obtain ⟨b, eb, rfl⟩ := Option.map_eq_some_iff.mp hx
    have hi : i < W.length := by rw [← lts]; exact (List.getElem?_eq_some_iff.mp eb).1
    have et := List.getElem?_eq_getElem hi
    have hb := h3 i b _ eb et
    have gT := g2.trans (same_new nT (.tup [.int i, .ref b]))
    refine ⟨T, _, rfl, SqT.of upd_same, rfl, _, _, rfl, _, _, rfl, rfl, ?_⟩
    generalize upd H2 T (.tup [.int i, .ref b]) = H3 at *
    rw [sum_take et]
    generalize W[i] = row at *
    refine ⟨_, rfl, b, rfl, ⟨_, SqT.of (gT _ _ hb)⟩, for_tup (xs := row.map vn) (fun j σ H4 => ∃ (x4 : Option V), σ = [some (.ref t), some (vn (((W.take i).map List.length).sum + j)), some (vn i), some (.ref b), x4] ∧ Same H H4 ∧ ∀ q ∈ row.take j, (nxt W (nxt W (i, q))).2 = i)
      ⟨_, rfl, gT, fun q hq => by simp at hq⟩ ?_ ?_ ?_⟩
    · rintro j σ H4 _ ⟨x4, rfl, g4, _⟩
      exact SqT.of (g4 _ _ hb)
    · rintro j v σ H4 hv ⟨x4, rfl, g4, al4⟩
      rw [List.getElem?_map] at hv
      obtain ⟨q, eq', rfl⟩ := Option.map_eq_some_iff.mp hv
      have eW : E W i q := ⟨row, et, List.mem_of_getElem? eq'⟩
      obtain ⟨r1, a1, a2, a3, a4⟩ := third_at S eW
      obtain ⟨r2, b1, b2, b3, b4⟩ := third_at S a4
      have e2 : nxt W (i, q) = (q, (nxt W (i, q)).2) := rfl
      rw [← e2] at b3
      refine ⟨_, rfl, _, rfl, _, rfl, _, rfl, _, rfl, t, W, i, q, r1, _, rfl, hW.kept g4, a1, a2, a3, t, W, q, _, r2, _, rfl, hW.kept g4, b1, b2, b3, ?_⟩
      by_cases c : (nxt W (nxt W (i, q))).2 = i
      · refine ⟨_, rfl, rfl, _, rfl, ?_⟩
        rw [c]
        first | rw [show (!decide (vn i = vn i)) = false by simp] | rw [show decide (vn i ≠ vn i) = false by simp]
        refine iteF ⟨_, rfl, _, _, rfl, rfl, ?_⟩
        refine ⟨_, rfl, g4, fun u hu => ?_⟩
        rw [List.take_succ, eq', Option.toList_some] at hu
        rcases List.mem_append.mp hu with z | z
        · exact al4 u z
        · rw [List.mem_singleton.mp z]; exact c
      · refine ⟨_, rfl, rfl, _, rfl, ?_⟩
        have e : decide (vn (nxt W (nxt W (i, q))).2 = vn i) = false := decide_eq_false fun z => c (by have := V.int.inj z; omega)
        first | rw [e] | rw [show decide (vn (nxt W (nxt W (i, q))).2 ≠ vn i) = true from decide_eq_true (of_decide_eq_false e)]
        refine iteT (k false H4 g4 ⟨fun z => (nomatch z), fun z => absurd (z.1 (i, q) (mem_steps.mpr eW)) c⟩)
    · rintro σ H4 ⟨x4, rfl, g4, al4⟩
      rw [List.length_map] at *
      rw [List.take_length] at al4
      refine ⟨some (vn i), some (.ref b), x4, rfl, g4, fun p q hp hq => ?_⟩
      by_cases c : p < i
      · exact al p q c hq
      · have : p = i := by omega
        subst this
        obtain ⟨r0, e0, m0⟩ := hq
        rw [et] at e0
        cases e0
        exact al4 q m0
  · rintro σ H2 ⟨x2, x3, x4, rfl, g2, al⟩
    rw [List.length_map, lts] at al ⊢
    rw [List.take_length]
    refine ⟨_, rfl, _, rfl, t, _, rfl, .inr (SqT.of (g2 _ _ h1)), _, _, rfl, rfl, .inl ⟨by decide, by decide⟩, _, _, rfl, rfl, rfl, ?_⟩
    have al' : ∀ t ∈ stepsL W, (nxt W (nxt W t)).2 = t.1 := fun u hu => by
      have e := mem_steps.mp (show (u.1, u.2) ∈ stepsL W from hu)
      obtain ⟨r0, e0, m0⟩ := id e
      exact al u.1 u.2 (List.getElem?_eq_some_iff.mp e0).1 e
    rw [List.length_map, lts, ← steps_len_aux]
    exact k _ H2 g2 ⟨fun z => ⟨al', by have := V.int.inj (of_decide_eq_true z); omega⟩, fun z => decide_eq_true (congrArg V.int (by have := z.2; omega))⟩
theorem nb_ren {L W : Rows} {ns : List Nat} (G : Nb L) (h : Ren L W ns) : Nb W := by
  refine ⟨fun p row' e => ?_, fun p row' a e m => ?_, fun a b r => ?_⟩
  · obtain ⟨x, row, hx, e1, rfl, pm, _⟩ := h.row e
    refine pm.nodup_iff.mpr ?_
    rw [List.nodup_iff_pairwise_ne, List.pairwise_map]
    exact List.Pairwise.imp_of_mem (fun {u v} hu hv z e => z (h.inj (G.rng _ _ _ e1 hu).1 (G.rng _ _ _ e1 hv).1 e)) (G.nd _ _ e1)
  · obtain ⟨x, row, hx, e1, rfl, pm, _⟩ := h.row e
    obtain ⟨y, my, rfl⟩ := List.mem_map.mp (pm.mem_iff.mp m)
    obtain ⟨y1, y2⟩ := G.rng _ _ _ e1 my
    exact ⟨by rw [h.len]; exact h.lt y1, fun e => y2 (h.inj y1 hx e)⟩
  · obtain ⟨x, y, r', rfl, rfl⟩ := h.e_of r
    exact h.e_to (G.sym _ _ r')
theorem nz_some {L : Rows} (G : Nz L) : Some' L := ⟨by have := G.three; omega, by have := G.le; omega, fun p row e => ⟨G.ne p row e, by have := G.nb.len e; have := G.le; omega⟩⟩
def spLaw (K : PySem.W.Frag) : Sp := fun vs H Q _ => ∃ (a : Addr) (ns : List Int), vs = [.ref a] ∧ SqL K H a (ns.map V.int) ∧ ns.length ≤ 63 ∧ ∀ H', Q (.bl true) H'
theorem ok_law {f : Addr} {fd : FuncData} (F : Fun K "law" "law" s_law f fd) (h_law_pot : Own.Has P w K mg base "_law_pot" ["_law_script", "_law_k"] 1 (spPot K)) (h_law_digit : Own.Has P w K mg base "_law_digit" ["_law_pot_here", "_law_many"] 1 (spDigit)) (h_law_spoilt : Own.Has P w K mg base "_law_spoilt" ["_law_pot_here", "_law_rows_here"] 4 (spSpoilt)) (h_law_rows : Own.Has P w K mg base "_law_rows" ["_law_pot_here", "_law_n"] 2 (spRows)) (h_law_web : Own.Has P w K mg base "_law_web" ["_law_rows_here", "_law_names_here"] 1 (spWeb)) (h_law_names : Own.Has P w K mg base "_law_names" ["_law_pot_here", "_law_n"] 2 (spNames)) (h_is_three_cornered : Own.Has P w K mg base "is_three_cornered" ["web"] 5 (spThreeC)) (h_law_due : Own.Has P w K mg base "_law_due" ["_law_web_here"] 2 (spDue)) (z_range : mg "range" = none) (z_max : mg "max" = none) (z_min : mg "min" = none) (z_len : mg "len" = none) (z_isinstance : mg "isinstance" = none) (z_bool : mg "bool" = none) : FnOk P w K mg base CX0 6 f fd ["_law_script"] (spLaw K) := by
  refine F.ok sc_law (fun vs H Q E h => ?_) (fun cdv A outer s H vs Q E hr h => ?_)
  · obtain ⟨a, ns, rfl, _⟩ := h
    rfl
  obtain ⟨a, ns, rfl, hS, h63, q⟩ := h
  refine ⟨_, (pss_cons (ps_for PassesOwn.never rfl (pi_range1 rfl z_range (pa_cons (pe_callB (call_max2 rfl) rfl z_max PyProof.Rows.boot_max (pa_cons pe_int (pa_cons (pe_callB (call_min2 rfl) rfl z_min PyProof.Rows.boot_min (pa_cons (pe_callB call_len_seq rfl z_len PySem.boot_len (pa_cons (pv 0) pa_nil)) (pa_cons pe_int pa_nil))) pa_nil))) pa_nil)) (pg_name (i := 1) sc_law.nd rfl (Or.inl rfl)) (pss_cons (ps_set (i := 2) sc_law.nd rfl (Or.inl rfl) (Own.pe_has h_law_pot (hr.mono (by decide)) rfl (pa_cons (pv 0) (pa_cons (pv 1) pa_nil))))
      (pss_cons (ps_set (i := 3) sc_law.nd rfl (Or.inl rfl) (pe_op op_add pe_int (Own.pe_has h_law_digit (hr.mono (by decide)) rfl (pa_cons (pv 2) (pa_cons (pe_ix ix_list (pe_lst (pa_cons pe_int (pa_cons pe_int pa_nil))) (Own.pe_has h_law_digit (hr.mono (by decide)) rfl (pa_cons (pv 2) (pa_cons pe_int pa_nil))) (fun _ _ => rfl)) pa_nil)))))
      (pss_cons (ps_set (i := 4) sc_law.nd rfl (Or.inl rfl) (Own.pe_has h_law_spoilt (hr.mono (by decide)) rfl (pa_cons (pv 2) (pa_cons (pe_ix ix_tup (Own.pe_has h_law_rows (hr.mono (by decide)) rfl (pa_cons (pv 2) (pa_cons (pv 3) pa_nil))) pe_int (fun _ _ => rfl)) pa_nil))))
      (pss_cons (ps_set (i := 5) sc_law.nd rfl (Or.inl rfl) (Own.pe_has h_law_web (hr.mono (by decide)) rfl (pa_cons (pv 4) (pa_cons (Own.pe_has h_law_names (hr.mono (by decide)) rfl (pa_cons (pv 2) (pa_cons (pe_callB call_len_seq rfl z_len PySem.boot_len (pa_cons (pv 4) pa_nil)) pa_nil))) pa_nil))))
      (pss_cons (ps_set (i := 6) sc_law.nd rfl (Or.inl rfl) (Own.pe_has h_is_three_cornered (hr.mono (by decide)) rfl (pa_cons (pv 5) pa_nil)))
      (pss_one (ps_if (PW.pt (pw_or (pt_not (pt_val (pe_callB Own.call_isi rfl z_isinstance PyProof.Rows.boot_isinstance (pa_cons (pv 6) (pa_cons (pe_bltn (v := .ty "bool") rfl z_bool PyProof.Rows.boot_bool rfl) pa_nil))))) (pw_or1 (pt_cmpR op_ne (pv 6) (Own.pe_has h_law_due (hr.mono (by decide)) rfl (pa_cons (pv 5) pa_nil)) (nomark _))))) (pss_one (ps_ret pe_bl)) pss_nil))))))))
      (pss_one (ps_ret pe_bl))), ?_⟩
  have hl : (ns.map V.int).length = ns.length := List.length_map _
  refine ⟨_, rfl, a, _, rfl, .inl hS, _, 3, rfl, 1, _, rfl, ?_⟩
  rw [hl]
  generalize hj : (if (if (3 : Int) < (ns.length : Int) then 3 else (ns.length : Int)) > 1 then (if (3 : Int) < (ns.length : Int) then 3 else (ns.length : Int)) else 1) = j
  have j0 : 0 ≤ j := by rw [← hj]; split <;> omega
  have j1 : j ≤ 63 := by
    rw [← hj]
    split
    · split <;> omega
    · omega
  refine ⟨j, rfl, by omega, by omega, for_range (lo := 0) (n := j.toNat) (fun i σ H2 => ∃ (x1 x2 x3 x4 x5 x6 : Option V), σ = [some (.ref a), x1, x2, x3, x4, x5, x6] ∧ Same H H2)
    ⟨none, none, none, none, none, none, rfl, Same.refl H⟩ ?_ ?_⟩
  · rintro i σ H2 hi ⟨x1, x2, x3, x4, x5, x6, rfl, g⟩
    refine ⟨_, rfl, _, rfl, a, ns, _, rfl, g.seq hS, h63, (by omega), (by omega), fun p x y H3 hx g3 hn hp => ?_⟩
    have hnp : H p = none := g.free hn
    have gA : Same H H3 := g.trans g3
    have pA : PotAt H3 p := ⟨x, y, hp, hx⟩
    refine ⟨_, rfl, (by show 2 ≤ sizeLine; decide), fun l nl => ?_⟩
    have lp : l ≠ p := (ne_of_none hp nl).symm
    refine ⟨_, rfl, p, 2, rfl, pA.other lp.symm, by decide, lit9 (by decide), fun d H4 d0 d1 s4 p4 => ?_⟩
    have gl := same_new nl (.lst [V.int 7, V.int 38])
    have g4 := keep (gA.trans gl) hnp s4
    have hl4 := s4 _ _ lp (upd_same (H := H3) (a := l) (o := .lst [V.int 7, V.int 38]))
    have : ∃ m : Int, atI [V.int 7, V.int 38] d = some (.int m) ∧ 0 < m ∧ m ≤ 38 := by
      rcases (show d = 0 ∨ d = 1 by omega) with rfl | rfl
      · exact ⟨7, rfl, by decide, by decide⟩
      · exact ⟨38, rfl, by decide, by decide⟩
    obtain ⟨m, em, m0, m1⟩ := this
    refine ⟨l, _, _, _, rfl, rfl, SqL.of hl4, em, p, m, rfl, p4, m0, lit9 (by omega), fun d' H5 e0 e1 s5 p5 => ⟨_, _, rfl, rfl, ?_⟩⟩
    have g5 := keep g4 hnp s5
    obtain ⟨n', rfl⟩ := Int.eq_ofNat_of_zero_le e0
    refine ⟨_, rfl, _, rfl, _, rfl, p, 3 + n', rfl, p5, by omega, by omega, fun z r t q' A1 L H6 s6 p6 hz X GL lL nr nA => ?_⟩
    have g6 := keep g5 hnp s6
    obtain ⟨v5, w5, pot5, _⟩ := id p5
    have np5 : ∀ b, H5 b = none → p ≠ b := fun b hb z => by rw [← z, pot5] at hb; cases hb
    refine ⟨z, _, _, _, rfl, rfl, SqT.of hz, rfl, ?_⟩
    have NL : Nz L := ⟨(Wb.of GL).toNb, GL.three, by omega, GL.ne⟩
    refine ⟨p, r, A1, L, rfl, p6, X, NL, np5 r nr, fun hm => np5 p (nA p hm) rfl, fun r' A' L' H7 s7 p7 X7 N7 pr pA' => ?_⟩
    have g7 := keep g6 hnp s7
    have n3 := N7.three
    have n40 := N7.le
    have lA : ((A'.map V.ref).length : Int) = L'.length := by rw [List.length_map, X7.len]
    refine ⟨_, rfl, _, rfl, _, rfl, r', _, rfl, .inl (SqL.of X7.top), p, (A'.map V.ref).length, rfl, p7, by omega, fun l' ms H8 s8 p8 nl' ll' hl' perm => ?_⟩
    have g8 := keep g7 hnp s8
    have X8 := X7.but pr pA' s8
    have perm' : ms.Perm (List.range L'.length) := by rw [← X7.len, ← List.length_map (f := V.ref)]; exact perm
    refine ⟨r', l', A', L', ms, rfl, X8, hl', perm', nz_some N7, (fun p' row e x hx => (N7.nb.rng p' row x e hx).1), fun w W H9 g9 hW lW nm => ?_⟩
    have NW := nb_ren N7.nb (named_ren perm' lW nm)
    refine ⟨_, rfl, w, W, rfl, hW, NW, by omega, fun c H10 g10 hc => ?_⟩
    refine ⟨_, rfl, _, _, _, _, rfl, .bl c, rfl, _, rfl, iteF ⟨_, rfl, _, rfl, w, W, rfl, hW.kept g10, NW, by omega, fun d H11 g11 hd => ⟨rfl, ?_⟩⟩⟩
    have : c = d := by rw [Bool.eq_iff_iff, hc, hd]
    subst this
    first | rw [show decide (V.bl c ≠ V.bl c) = false by simp] | rw [show (!decide (V.bl c = V.bl c)) = false by simp]
    exact ⟨_, rfl, iteF ⟨_, _, _, _, _, _, rfl, g8.trans (g9.trans (g10.trans g11))⟩⟩
  · rintro σ H2 ⟨x1, x2, x3, x4, x5, x6, rfl, g⟩
    exact q H2
end
theorem len_1 {α : Type} {n : Nat} {us : List α} (hn : n = 1) (h : us.length = n) : ∃ x0 : α, us = [x0] := by
  subst hn
  match us, h with
  | [x0], _ => exact ⟨_, rfl⟩
theorem len_2 {α : Type} {n : Nat} {us : List α} (hn : n = 2) (h : us.length = n) : ∃ x0 x1 : α, us = [x0, x1] := by
  subst hn
  match us, h with
  | [x0, x1], _ => exact ⟨_, _, rfl⟩
theorem len_3 {α : Type} {n : Nat} {us : List α} (hn : n = 3) (h : us.length = n) : ∃ x0 x1 x2 : α, us = [x0, x1, x2] := by
  subst hn
  match us, h with
  | [x0, x1, x2], _ => exact ⟨_, _, _, rfl⟩
theorem len_4 {α : Type} {n : Nat} {us : List α} (hn : n = 4) (h : us.length = n) : ∃ x0 x1 x2 x3 : α, us = [x0, x1, x2, x3] := by
  subst hn
  match us, h with
  | [x0, x1, x2, x3], _ => exact ⟨_, _, _, _, rfl⟩
theorem all_mk {l : PySem.W.OpenLaw} {w : World} {K : PySem.W.Frag} {h : Heap} {mg : Str → Option Value} {fa f1 f2 f3 f4 f5 f6 f7 f8 f9 f10 f11 f12 f13 f14 f15 f16 f17 f18 f19 f20 f21 f22 f23 : Addr}  (X : K.In h) (G : h.Ns mainGlobals mg) (hfa : mg "law" = some (.ref fa))
    {od1 an1 od2 an2 od3 an3 od4 an4 od5 an5 od6 an6 od7 an7 od8 an8 od9 an9 od10 an10 od11 an11 od12 an12 od13 an13 od14 an14 od15 an15 od16 an16 od17 an17 od18 an18 od19 an19 od20 an20 od21 an21 od22 an22 od23 an23 : Option Addr} {sl1 sl2 sl3 sl4 sl5 sl6 sl7 sl8 sl9 sl10 sl11 sl12 sl13 sl14 sl15 sl16 sl17 sl18 sl19 sl20 sl21 sl22 sl23 : Array (Option Value)} {oc1 kV1 dc1 pm1 cd1 ct1 oc2 kV2 dc2 pm2 cd2 ct2 oc3 kV3 dc3 pm3 cd3 ct3 oc4 kV4 dc4 pm4 cd4 ct4 oc5 kV5 dc5 pm5 cd5 ct5 oc6 kV6 dc6 pm6 cd6 ct6 oc7 kV7 dc7 pm7 cd7 ct7 oc8 kV8 dc8 pm8 cd8 ct8 oc9 kV9 dc9 pm9 cd9 ct9 oc10 kV10 dc10 pm10 cd10 ct10 oc11 kV11 dc11 pm11 cd11 ct11 oc12 kV12 dc12 pm12 cd12 ct12 oc13 kV13 dc13 pm13 cd13 ct13 oc14 kV14 dc14 pm14 cd14 ct14 oc15 kV15 dc15 pm15 cd15 ct15 oc16 kV16 dc16 pm16 cd16 ct16 oc17 kV17 dc17 pm17 cd17 ct17 oc18 kV18 dc18 pm18 cd18 ct18 oc19 kV19 dc19 pm19 cd19 ct19 oc20 kV20 dc20 pm20 cd20 ct20 oc21 kV21 dc21 pm21 cd21 ct21 oc22 kV22 dc22 pm22 cd22 ct22 oc23 kV23 dc23 pm23 cd23 ct23 : Value}
    (a1 : PySem.W.nsIn K mainGlobals "steps_of" = some (some (.ref f1))) (l1 : K.lookup f1 = some ⟨oc1, od1, .func (PySem.W.fnOf "steps_of" "steps_of" (defArgs s_steps_of) (defBody s_steps_of) (defScope s_steps_of) .none kV1 dc1 pm1 an1 cd1 ct1), sl1⟩) (c1 : PySem.W.codeIn K cd1 "steps_of" = true) (k1 : PySem.W.keepIn K (.ref f1) = true)
    (a2 : PySem.W.nsIn K mainGlobals "ties" = some (some (.ref f2))) (l2 : K.lookup f2 = some ⟨oc2, od2, .func (PySem.W.fnOf "ties" "ties" (defArgs s_ties) (defBody s_ties) (defScope s_ties) .none kV2 dc2 pm2 an2 cd2 ct2), sl2⟩) (c2 : PySem.W.codeIn K cd2 "ties" = true) (k2 : PySem.W.keepIn K (.ref f2) = true)
    (a3 : PySem.W.nsIn K mainGlobals "behind" = some (some (.ref f3))) (l3 : K.lookup f3 = some ⟨oc3, od3, .func (PySem.W.fnOf "behind" "behind" (defArgs s_behind) (defBody s_behind) (defScope s_behind) .none kV3 dc3 pm3 an3 cd3 ct3), sl3⟩) (c3 : PySem.W.codeIn K cd3 "behind" = true) (k3 : PySem.W.keepIn K (.ref f3) = true)
    (a4 : PySem.W.nsIn K mainGlobals "steps_round" = some (some (.ref f4))) (l4 : K.lookup f4 = some ⟨oc4, od4, .func (PySem.W.fnOf "steps_round" "steps_round" (defArgs s_steps_round) (defBody s_steps_round) (defScope s_steps_round) .none kV4 dc4 pm4 an4 cd4 ct4), sl4⟩) (c4 : PySem.W.codeIn K cd4 "steps_round" = true) (k4 : PySem.W.keepIn K (.ref f4) = true)
    (a5 : PySem.W.nsIn K mainGlobals "faces" = some (some (.ref f5))) (l5 : K.lookup f5 = some ⟨oc5, od5, .func (PySem.W.fnOf "faces" "faces" (defArgs s_faces) (defBody s_faces) (defScope s_faces) .none kV5 dc5 pm5 an5 cd5 ct5), sl5⟩) (c5 : PySem.W.codeIn K cd5 "faces" = true) (k5 : PySem.W.keepIn K (.ref f5) = true)
    (a6 : PySem.W.nsIn K mainGlobals "is_flat" = some (some (.ref f6))) (l6 : K.lookup f6 = some ⟨oc6, od6, .func (PySem.W.fnOf "is_flat" "is_flat" (defArgs s_is_flat) (defBody s_is_flat) (defScope s_is_flat) .none kV6 dc6 pm6 an6 cd6 ct6), sl6⟩) (c6 : PySem.W.codeIn K cd6 "is_flat" = true) (k6 : PySem.W.keepIn K (.ref f6) = true)
    (a7 : PySem.W.nsIn K mainGlobals "uncornered_face" = some (some (.ref f7))) (l7 : K.lookup f7 = some ⟨oc7, od7, .func (PySem.W.fnOf "uncornered_face" "uncornered_face" (defArgs s_uncornered_face) (defBody s_uncornered_face) (defScope s_uncornered_face) .none kV7 dc7 pm7 an7 cd7 ct7), sl7⟩) (c7 : PySem.W.codeIn K cd7 "uncornered_face" = true) (k7 : PySem.W.keepIn K (.ref f7) = true)
    (a8 : PySem.W.nsIn K mainGlobals "is_three_cornered" = some (some (.ref f8))) (l8 : K.lookup f8 = some ⟨oc8, od8, .func (PySem.W.fnOf "is_three_cornered" "is_three_cornered" (defArgs s_is_three_cornered) (defBody s_is_three_cornered) (defScope s_is_three_cornered) .none kV8 dc8 pm8 an8 cd8 ct8), sl8⟩) (c8 : PySem.W.codeIn K cd8 "is_three_cornered" = true) (k8 : PySem.W.keepIn K (.ref f8) = true)
    (a9 : PySem.W.nsIn K mainGlobals "_law_pot" = some (some (.ref f9))) (l9 : K.lookup f9 = some ⟨oc9, od9, .func (PySem.W.fnOf "_law_pot" "_law_pot" (defArgs s_law_pot) (defBody s_law_pot) (defScope s_law_pot) .none kV9 dc9 pm9 an9 cd9 ct9), sl9⟩) (c9 : PySem.W.codeIn K cd9 "_law_pot" = true) (k9 : PySem.W.keepIn K (.ref f9) = true)
    (a10 : PySem.W.nsIn K mainGlobals "_law_digit" = some (some (.ref f10))) (l10 : K.lookup f10 = some ⟨oc10, od10, .func (PySem.W.fnOf "_law_digit" "_law_digit" (defArgs s_law_digit) (defBody s_law_digit) (defScope s_law_digit) .none kV10 dc10 pm10 an10 cd10 ct10), sl10⟩) (c10 : PySem.W.codeIn K cd10 "_law_digit" = true) (k10 : PySem.W.keepIn K (.ref f10) = true)
    (a11 : PySem.W.nsIn K mainGlobals "_law_put_over" = some (some (.ref f11))) (l11 : K.lookup f11 = some ⟨oc11, od11, .func (PySem.W.fnOf "_law_put_over" "_law_put_over" (defArgs s_law_put_over) (defBody s_law_put_over) (defScope s_law_put_over) .none kV11 dc11 pm11 an11 cd11 ct11), sl11⟩) (c11 : PySem.W.codeIn K cd11 "_law_put_over" = true) (k11 : PySem.W.keepIn K (.ref f11) = true)
    (a12 : PySem.W.nsIn K mainGlobals "_law_rows" = some (some (.ref f12))) (l12 : K.lookup f12 = some ⟨oc12, od12, .func (PySem.W.fnOf "_law_rows" "_law_rows" (defArgs s_law_rows) (defBody s_law_rows) (defScope s_law_rows) .none kV12 dc12 pm12 an12 cd12 ct12), sl12⟩) (c12 : PySem.W.codeIn K cd12 "_law_rows" = true) (k12 : PySem.W.keepIn K (.ref f12) = true)
    (a13 : PySem.W.nsIn K mainGlobals "_law_names" = some (some (.ref f13))) (l13 : K.lookup f13 = some ⟨oc13, od13, .func (PySem.W.fnOf "_law_names" "_law_names" (defArgs s_law_names) (defBody s_law_names) (defScope s_law_names) .none kV13 dc13 pm13 an13 cd13 ct13), sl13⟩) (c13 : PySem.W.codeIn K cd13 "_law_names" = true) (k13 : PySem.W.keepIn K (.ref f13) = true)
    (a14 : PySem.W.nsIn K mainGlobals "_law_web" = some (some (.ref f14))) (l14 : K.lookup f14 = some ⟨oc14, od14, .func (PySem.W.fnOf "_law_web" "_law_web" (defArgs s_law_web) (defBody s_law_web) (defScope s_law_web) .none kV14 dc14 pm14 an14 cd14 ct14), sl14⟩) (c14 : PySem.W.codeIn K cd14 "_law_web" = true) (k14 : PySem.W.keepIn K (.ref f14) = true)
    (a15 : PySem.W.nsIn K mainGlobals "_law_third" = some (some (.ref f15))) (l15 : K.lookup f15 = some ⟨oc15, od15, .func (PySem.W.fnOf "_law_third" "_law_third" (defArgs s_law_third) (defBody s_law_third) (defScope s_law_third) .none kV15 dc15 pm15 an15 cd15 ct15), sl15⟩) (c15 : PySem.W.codeIn K cd15 "_law_third" = true) (k15 : PySem.W.keepIn K (.ref f15) = true)
    (a16 : PySem.W.nsIn K mainGlobals "_law_reached" = some (some (.ref f16))) (l16 : K.lookup f16 = some ⟨oc16, od16, .func (PySem.W.fnOf "_law_reached" "_law_reached" (defArgs s_law_reached) (defBody s_law_reached) (defScope s_law_reached) .none kV16 dc16 pm16 an16 cd16 ct16), sl16⟩) (c16 : PySem.W.codeIn K cd16 "_law_reached" = true) (k16 : PySem.W.keepIn K (.ref f16) = true)
    (a17 : PySem.W.nsIn K mainGlobals "_law_without" = some (some (.ref f17))) (l17 : K.lookup f17 = some ⟨oc17, od17, .func (PySem.W.fnOf "_law_without" "_law_without" (defArgs s_law_without) (defBody s_law_without) (defScope s_law_without) .none kV17 dc17 pm17 an17 cd17 ct17), sl17⟩) (c17 : PySem.W.codeIn K cd17 "_law_without" = true) (k17 : PySem.W.keepIn K (.ref f17) = true)
    (a18 : PySem.W.nsIn K mainGlobals "_law_thinned" = some (some (.ref f18))) (l18 : K.lookup f18 = some ⟨oc18, od18, .func (PySem.W.fnOf "_law_thinned" "_law_thinned" (defArgs s_law_thinned) (defBody s_law_thinned) (defScope s_law_thinned) .none kV18 dc18 pm18 an18 cd18 ct18), sl18⟩) (c18 : PySem.W.codeIn K cd18 "_law_thinned" = true) (k18 : PySem.W.keepIn K (.ref f18) = true)
    (a19 : PySem.W.nsIn K mainGlobals "_law_shuffled" = some (some (.ref f19))) (l19 : K.lookup f19 = some ⟨oc19, od19, .func (PySem.W.fnOf "_law_shuffled" "_law_shuffled" (defArgs s_law_shuffled) (defBody s_law_shuffled) (defScope s_law_shuffled) .none kV19 dc19 pm19 an19 cd19 ct19), sl19⟩) (c19 : PySem.W.codeIn K cd19 "_law_shuffled" = true) (k19 : PySem.W.keepIn K (.ref f19) = true)
    (a20 : PySem.W.nsIn K mainGlobals "_law_ring" = some (some (.ref f20))) (l20 : K.lookup f20 = some ⟨oc20, od20, .func (PySem.W.fnOf "_law_ring" "_law_ring" (defArgs s_law_ring) (defBody s_law_ring) (defScope s_law_ring) .none kV20 dc20 pm20 an20 cd20 ct20), sl20⟩) (c20 : PySem.W.codeIn K cd20 "_law_ring" = true) (k20 : PySem.W.keepIn K (.ref f20) = true)
    (a21 : PySem.W.nsIn K mainGlobals "_law_spoilt" = some (some (.ref f21))) (l21 : K.lookup f21 = some ⟨oc21, od21, .func (PySem.W.fnOf "_law_spoilt" "_law_spoilt" (defArgs s_law_spoilt) (defBody s_law_spoilt) (defScope s_law_spoilt) .none kV21 dc21 pm21 an21 cd21 ct21), sl21⟩) (c21 : PySem.W.codeIn K cd21 "_law_spoilt" = true) (k21 : PySem.W.keepIn K (.ref f21) = true)
    (a22 : PySem.W.nsIn K mainGlobals "_law_due" = some (some (.ref f22))) (l22 : K.lookup f22 = some ⟨oc22, od22, .func (PySem.W.fnOf "_law_due" "_law_due" (defArgs s_law_due) (defBody s_law_due) (defScope s_law_due) .none kV22 dc22 pm22 an22 cd22 ct22), sl22⟩) (c22 : PySem.W.codeIn K cd22 "_law_due" = true) (k22 : PySem.W.keepIn K (.ref f22) = true)
    (a23 : PySem.W.nsIn K mainGlobals "law" = some (some (.ref f23))) (l23 : K.lookup f23 = some ⟨oc23, od23, .func (PySem.W.fnOf "law" "law" (defArgs s_law) (defBody s_law) (defScope s_law) .none kV23 dc23 pm23 an23 cd23 ct23), sl23⟩) (c23 : PySem.W.codeIn K cd23 "law" = true) (k23 : PySem.W.keepIn K (.ref f23) = true)
    (y1 : PySem.W.nsIn K mainGlobals "sorted" = some none)
    (y2 : PySem.W.nsIn K mainGlobals "enumerate" = some none)
    (y3 : PySem.W.nsIn K mainGlobals "tuple" = some none)
    (y4 : PySem.W.nsIn K mainGlobals "len" = some none)
    (y5 : PySem.W.nsIn K mainGlobals "abs" = some none)
    (y6 : PySem.W.nsIn K mainGlobals "max" = some none)
    (y7 : PySem.W.nsIn K mainGlobals "divmod" = some none)
    (y8 : PySem.W.nsIn K mainGlobals "range" = some none)
    (y9 : PySem.W.nsIn K mainGlobals "min" = some none)
    (y10 : PySem.W.nsIn K mainGlobals "list" = some none)
    (y11 : PySem.W.nsIn K mainGlobals "set" = some none)
    (y12 : PySem.W.nsIn K mainGlobals "isinstance" = some none)
    (y13 : PySem.W.nsIn K mainGlobals "bool" = some none)
    : ∃ fd : FuncData, (∀ (s : Shared) (v : Value), BindsTo s fd ⟨[v], []⟩ [("_law_script", v)]) ∧ ∀ base : Heap, K.In base → base.Ns mainGlobals mg → FnOk l.prog w K mg base CX0 6 fa fd ["_law_script"] (spLaw K) := by
  have e := hfa.symm.trans (PySem.W.mg_of X G a23)
  cases e
  have z_sorted := PySem.W.mg_none_of X G y1
  have z_enumerate := PySem.W.mg_none_of X G y2
  have z_tuple := PySem.W.mg_none_of X G y3
  have z_len := PySem.W.mg_none_of X G y4
  have z_abs := PySem.W.mg_none_of X G y5
  have z_max := PySem.W.mg_none_of X G y6
  have z_divmod := PySem.W.mg_none_of X G y7
  have z_range := PySem.W.mg_none_of X G y8
  have z_min := PySem.W.mg_none_of X G y9
  have z_list := PySem.W.mg_none_of X G y10
  have z_set := PySem.W.mg_none_of X G y11
  have z_isinstance := PySem.W.mg_none_of X G y12
  have z_bool := PySem.W.mg_none_of X G y13
  have F1 := fun_mk (st := s_steps_of) l1 c1 k1
  have F2 := fun_mk (st := s_ties) l2 c2 k2
  have F3 := fun_mk (st := s_behind) l3 c3 k3
  have F4 := fun_mk (st := s_steps_round) l4 c4 k4
  have F5 := fun_mk (st := s_faces) l5 c5 k5
  have F6 := fun_mk (st := s_is_flat) l6 c6 k6
  have F7 := fun_mk (st := s_uncornered_face) l7 c7 k7
  have F8 := fun_mk (st := s_is_three_cornered) l8 c8 k8
  have F9 := fun_mk (st := s_law_pot) l9 c9 k9
  have F10 := fun_mk (st := s_law_digit) l10 c10 k10
  have F11 := fun_mk (st := s_law_put_over) l11 c11 k11
  have F12 := fun_mk (st := s_law_rows) l12 c12 k12
  have F13 := fun_mk (st := s_law_names) l13 c13 k13
  have F14 := fun_mk (st := s_law_web) l14 c14 k14
  have F15 := fun_mk (st := s_law_third) l15 c15 k15
  have F16 := fun_mk (st := s_law_reached) l16 c16 k16
  have F17 := fun_mk (st := s_law_without) l17 c17 k17
  have F18 := fun_mk (st := s_law_thinned) l18 c18 k18
  have F19 := fun_mk (st := s_law_shuffled) l19 c19 k19
  have F20 := fun_mk (st := s_law_ring) l20 c20 k20
  have F21 := fun_mk (st := s_law_spoilt) l21 c21 k21
  have F22 := fun_mk (st := s_law_due) l22 c22 k22
  have F23 := fun_mk (st := s_law) l23 c23 k23
  have b1 := F1.binds (ps := ["web"]) fun _ _ _ _ _ _ us hl => by obtain ⟨_, rfl⟩ := len_1 (n := 1) rfl hl; rfl
  have b2 := F2.binds (ps := ["web"]) fun _ _ _ _ _ _ us hl => by obtain ⟨_, rfl⟩ := len_1 (n := 1) rfl hl; rfl
  have b3 := F3.binds (ps := ["web", "step"]) fun _ _ _ _ _ _ us hl => by obtain ⟨_, _, rfl⟩ := len_2 (n := 2) rfl hl; rfl
  have b4 := F4.binds (ps := ["web", "step"]) fun _ _ _ _ _ _ us hl => by obtain ⟨_, _, rfl⟩ := len_2 (n := 2) rfl hl; rfl
  have b5 := F5.binds (ps := ["web"]) fun _ _ _ _ _ _ us hl => by obtain ⟨_, rfl⟩ := len_1 (n := 1) rfl hl; rfl
  have b6 := F6.binds (ps := ["web"]) fun _ _ _ _ _ _ us hl => by obtain ⟨_, rfl⟩ := len_1 (n := 1) rfl hl; rfl
  have b7 := F7.binds (ps := ["web"]) fun _ _ _ _ _ _ us hl => by obtain ⟨_, rfl⟩ := len_1 (n := 1) rfl hl; rfl
  have b8 := F8.binds (ps := ["web"]) fun _ _ _ _ _ _ us hl => by obtain ⟨_, rfl⟩ := len_1 (n := 1) rfl hl; rfl
  have b9 := F9.binds (ps := ["_law_script", "_law_k"]) fun _ _ _ _ _ _ us hl => by obtain ⟨_, _, rfl⟩ := len_2 (n := 2) rfl hl; rfl
  have b10 := F10.binds (ps := ["_law_pot_here", "_law_many"]) fun _ _ _ _ _ _ us hl => by obtain ⟨_, _, rfl⟩ := len_2 (n := 2) rfl hl; rfl
  have b11 := F11.binds (ps := ["_law_rows_here", "_law_row", "_law_first", "_law_last"]) fun _ _ _ _ _ _ us hl => by obtain ⟨_, _, _, _, rfl⟩ := len_4 (n := 4) rfl hl; rfl
  have b12 := F12.binds (ps := ["_law_pot_here", "_law_n"]) fun _ _ _ _ _ _ us hl => by obtain ⟨_, _, rfl⟩ := len_2 (n := 2) rfl hl; rfl
  have b13 := F13.binds (ps := ["_law_pot_here", "_law_n"]) fun _ _ _ _ _ _ us hl => by obtain ⟨_, _, rfl⟩ := len_2 (n := 2) rfl hl; rfl
  have b14 := F14.binds (ps := ["_law_rows_here", "_law_names_here"]) fun _ _ _ _ _ _ us hl => by obtain ⟨_, _, rfl⟩ := len_2 (n := 2) rfl hl; rfl
  have b15 := F15.binds (ps := ["_law_web_here", "_law_p", "_law_q"]) fun _ _ _ _ _ _ us hl => by obtain ⟨_, _, _, rfl⟩ := len_3 (n := 3) rfl hl; rfl
  have b16 := F16.binds (ps := ["_law_rows_here", "_law_start"]) fun _ _ _ _ _ _ us hl => by obtain ⟨_, _, rfl⟩ := len_2 (n := 2) rfl hl; rfl
  have b17 := F17.binds (ps := ["_law_rows_here", "_law_p", "_law_q"]) fun _ _ _ _ _ _ us hl => by obtain ⟨_, _, _, rfl⟩ := len_3 (n := 3) rfl hl; rfl
  have b18 := F18.binds (ps := ["_law_pot_here", "_law_rows_here", "_law_many"]) fun _ _ _ _ _ _ us hl => by obtain ⟨_, _, _, rfl⟩ := len_3 (n := 3) rfl hl; rfl
  have b19 := F19.binds (ps := ["_law_pot_here", "_law_row"]) fun _ _ _ _ _ _ us hl => by obtain ⟨_, _, rfl⟩ := len_2 (n := 2) rfl hl; rfl
  have b20 := F20.binds (ps := ["_law_pot_here", "_law_n"]) fun _ _ _ _ _ _ us hl => by obtain ⟨_, _, rfl⟩ := len_2 (n := 2) rfl hl; rfl
  have b21 := F21.binds (ps := ["_law_pot_here", "_law_rows_here"]) fun _ _ _ _ _ _ us hl => by obtain ⟨_, _, rfl⟩ := len_2 (n := 2) rfl hl; rfl
  have b22 := F22.binds (ps := ["_law_web_here"]) fun _ _ _ _ _ _ us hl => by obtain ⟨_, rfl⟩ := len_1 (n := 1) rfl hl; rfl
  refine ⟨PySem.W.fnOf "law" "law" (defArgs s_law) (defBody s_law) (defScope s_law) .none kV23 dc23 pm23 an23 cd23 ct23, fun s v => .of_eq rfl, fun base _ _ => ?_⟩
  have h_steps_of : Own.Has l.prog w K mg base "steps_of" ["web"] 1 (spSteps) := ⟨_, _, ok_steps_of (P := l.prog) (w := w) (base := base) (mg := mg) F1 z_sorted z_enumerate, b1, k1, PySem.W.mg_of X G a1⟩
  have h_ties : Own.Has l.prog w K mg base "ties" ["web"] 2 (spTies) := ⟨_, _, ok_ties (P := l.prog) (w := w) (base := base) (mg := mg) F2 h_steps_of, b2, k2, PySem.W.mg_of X G a2⟩
  have h_behind : Own.Has l.prog w K mg base "behind" ["web", "step"] 1 (spBehindW) := ⟨_, _, ok_behind (P := l.prog) (w := w) (base := base) (mg := mg) F3, b3, k3, PySem.W.mg_of X G a3⟩
  have h_steps_round : Own.Has l.prog w K mg base "steps_round" ["web", "step"] 2 (spRoundG) := ⟨_, _, ok_steps_round (P := l.prog) (w := w) (base := base) (mg := mg) F4 h_behind, b4, k4, PySem.W.mg_of X G a4⟩
  have h_faces : Own.Has l.prog w K mg base "faces" ["web"] 3 (spFaces) := ⟨_, _, ok_faces (P := l.prog) (w := w) (base := base) (mg := mg) F5 h_steps_of h_steps_round z_tuple z_sorted, b5, k5, PySem.W.mg_of X G a5⟩
  have h_is_flat : Own.Has l.prog w K mg base "is_flat" ["web"] 4 (spFlat) := ⟨_, _, ok_is_flat (P := l.prog) (w := w) (base := base) (mg := mg) F6 h_faces h_ties z_len, b6, k6, PySem.W.mg_of X G a6⟩
  have h_uncornered_face : Own.Has l.prog w K mg base "uncornered_face" ["web"] 4 (spUncorn) := ⟨_, _, ok_uncornered_face (P := l.prog) (w := w) (base := base) (mg := mg) F7 h_faces z_len, b7, k7, PySem.W.mg_of X G a7⟩
  have h_is_three_cornered : Own.Has l.prog w K mg base "is_three_cornered" ["web"] 5 (spThreeC) := ⟨_, _, ok_is_three_cornered (P := l.prog) (w := w) (base := base) (mg := mg) F8 h_uncornered_face h_is_flat, b8, k8, PySem.W.mg_of X G a8⟩
  have h_law_pot : Own.Has l.prog w K mg base "_law_pot" ["_law_script", "_law_k"] 1 (spPot K) := ⟨_, _, ok_law_pot (P := l.prog) (w := w) (base := base) (mg := mg) F9 z_abs z_max, b9, k9, PySem.W.mg_of X G a9⟩
  have h_law_digit : Own.Has l.prog w K mg base "_law_digit" ["_law_pot_here", "_law_many"] 1 (spDigit) := ⟨_, _, ok_law_digit (P := l.prog) (w := w) (base := base) (mg := mg) F10 z_divmod, b10, k10, PySem.W.mg_of X G a10⟩
  have h_law_put_over : Own.Has l.prog w K mg base "_law_put_over" ["_law_rows_here", "_law_row", "_law_first", "_law_last"] 1 (spPutOver) := ⟨_, _, ok_law_put_over (P := l.prog) (w := w) (base := base) (mg := mg) F11 z_len z_range, b11, k11, PySem.W.mg_of X G a11⟩
  have h_law_rows : Own.Has l.prog w K mg base "_law_rows" ["_law_pot_here", "_law_n"] 2 (spRows) := ⟨_, _, ok_law_rows (P := l.prog) (w := w) (base := base) (mg := mg) F12 h_law_digit h_law_put_over z_range z_len, b12, k12, PySem.W.mg_of X G a12⟩
  have h_law_names : Own.Has l.prog w K mg base "_law_names" ["_law_pot_here", "_law_n"] 2 (spNames) := ⟨_, _, ok_law_names (P := l.prog) (w := w) (base := base) (mg := mg) F13 h_law_digit z_range, b13, k13, PySem.W.mg_of X G a13⟩
  have h_law_web : Own.Has l.prog w K mg base "_law_web" ["_law_rows_here", "_law_names_here"] 1 (spWeb) := ⟨_, _, ok_law_web (P := l.prog) (w := w) (base := base) (mg := mg) F14 z_len z_enumerate z_min z_tuple, b14, k14, PySem.W.mg_of X G a14⟩
  have h_law_third : Own.Has l.prog w K mg base "_law_third" ["_law_web_here", "_law_p", "_law_q"] 1 (spThird) := ⟨_, _, ok_law_third (P := l.prog) (w := w) (base := base) (mg := mg) F15, b15, k15, PySem.W.mg_of X G a15⟩
  have h_law_reached : Own.Has l.prog w K mg base "_law_reached" ["_law_rows_here", "_law_start"] 1 (spReached) := ⟨_, _, ok_law_reached (P := l.prog) (w := w) (base := base) (mg := mg) F16 z_range z_len, b16, k16, PySem.W.mg_of X G a16⟩
  have h_law_without : Own.Has l.prog w K mg base "_law_without" ["_law_rows_here", "_law_p", "_law_q"] 1 (spWithout) := ⟨_, _, ok_law_without (P := l.prog) (w := w) (base := base) (mg := mg) F17 z_list, b17, k17, PySem.W.mg_of X G a17⟩
  have h_law_thinned : Own.Has l.prog w K mg base "_law_thinned" ["_law_pot_here", "_law_rows_here", "_law_many"] 3 (spThin) := ⟨_, _, ok_law_thinned (P := l.prog) (w := w) (base := base) (mg := mg) F18 h_law_digit h_law_reached h_law_without z_range z_len, b18, k18, PySem.W.mg_of X G a18⟩
  have h_law_shuffled : Own.Has l.prog w K mg base "_law_shuffled" ["_law_pot_here", "_law_row"] 2 (spShuf) := ⟨_, _, ok_law_shuffled (P := l.prog) (w := w) (base := base) (mg := mg) F19 h_law_digit z_len, b19, k19, PySem.W.mg_of X G a19⟩
  have h_law_ring : Own.Has l.prog w K mg base "_law_ring" ["_law_pot_here", "_law_n"] 2 (spRing) := ⟨_, _, ok_law_ring (P := l.prog) (w := w) (base := base) (mg := mg) F20 h_law_digit z_len z_set z_range, b20, k20, PySem.W.mg_of X G a20⟩
  have h_law_spoilt : Own.Has l.prog w K mg base "_law_spoilt" ["_law_pot_here", "_law_rows_here"] 4 (spSpoilt) := ⟨_, _, ok_law_spoilt (P := l.prog) (w := w) (base := base) (mg := mg) F21 h_law_digit h_law_ring h_law_thinned h_law_shuffled z_max z_len, b21, k21, PySem.W.mg_of X G a21⟩
  have h_law_due : Own.Has l.prog w K mg base "_law_due" ["_law_web_here"] 2 (spDue) := ⟨_, _, ok_law_due (P := l.prog) (w := w) (base := base) (mg := mg) F22 h_law_third z_enumerate z_len, b22, k22, PySem.W.mg_of X G a22⟩
  exact ok_law (P := l.prog) (w := w) (base := base) (mg := mg) F23 h_law_pot h_law_digit h_law_spoilt h_law_rows h_law_web h_law_names h_is_three_cornered h_law_due z_range z_max z_min z_len z_isinstance z_bool
theorem walk {l : PySem.W.OpenLaw} {q : Program} {loose : List Str} {XP : (Str → Option Value) → Heap → Prop} {YP : World → Heap → Prop} {d : DefRec} {K : Params → PySem.W.Frag} (hn : l.most = some 63) (hdf : d.params.defaults = [])
    (hY : ∀ (w : World) (h : Heap), YP w h → (K w.params).In h)
    (F : ∀ (w : World) (mg : Str → Option Value) (fa : Addr) (h : Heap), (K w.params).In h → h.Ns mainGlobals mg → mg d.name = some (.ref fa) →
      ∃ fd : FuncData, (∀ (s : Shared) (u : Value), BindsTo s fd ⟨[u], []⟩ [("_law_script", u)]) ∧ ∀ base : Heap, (K w.params).In base → base.Ns mainGlobals mg → FnOk l.prog w (K w.params) mg base CX0 6 fa fd ["_law_script"] (spLaw (K w.params))) :
    PySem.W.WalkO q loose XP YP l.row.toRowW d [] (fun f vs => PySem.call f vs) :=
  L2.walk_of (n := 63) (k := 6) (x := "_law_script") (CX := fun _ => CX0) (sp := fun w => spLaw (K w.params)) hn (by decide) hdf ⟨rfl, by decide, by decide, rfl⟩ hY F (fun _ _ a ns hl _ hS => ⟨a, ns, rfl, hS, hl, fun _ => rfl⟩) fun _ _ _ _ _ z => z
end Prf
def PySem.W.Fast.tw13157298828550187692 : Nat := 0
def PySem.W.Fast.tw7726261539852204270 : Nat := 0
def PySem.W.Fast.tw1422427140382059472 : Nat := 0
def PySem.W.Fast.tw8342556320766382929 : Nat := 0
def PySem.W.Fast.tw12969022022195240083 : Nat := 0
def PySem.W.Fast.tw1444409542099946868 : Nat := 0
def PySem.W.Fast.tw5472214456628901750 : Nat := 0
open PySem PySem.W PyProof.Rows
set_option maxRecDepth 100000 in
set_option maxHeartbeats 0 in
theorem PySem.Challenge.cw_restdraw_k51_three_cornered_told_holds : PySem.Challenge.rw_restdraw_k51_three_cornered_told.Holds := by
  w_on; o_law; k_head; (case hw => w_witness2)
  k_fill
  refine Prf.walk (l := PySem.Challenge.rw_restdraw_k51_three_cornered_told) rfl rfl (fun w h Y => PySem.W.kIn_of Y) ?F
  case F =>
    intro w mg fa h KX G hmg
    refine' Prf.all_mk KX G hmg ?a1 ?l1 ?c1 ?k1 ?a2 ?l2 ?c2 ?k2 ?a3 ?l3 ?c3 ?k3 ?a4 ?l4 ?c4 ?k4 ?a5 ?l5 ?c5 ?k5 ?a6 ?l6 ?c6 ?k6 ?a7 ?l7 ?c7 ?k7 ?a8 ?l8 ?c8 ?k8 ?a9 ?l9 ?c9 ?k9 ?a10 ?l10 ?c10 ?k10 ?a11 ?l11 ?c11 ?k11 ?a12 ?l12 ?c12 ?k12 ?a13 ?l13 ?c13 ?k13 ?a14 ?l14 ?c14 ?k14 ?a15 ?l15 ?c15 ?k15 ?a16 ?l16 ?c16 ?k16 ?a17 ?l17 ?c17 ?k17 ?a18 ?l18 ?c18 ?k18 ?a19 ?l19 ?c19 ?k19 ?a20 ?l20 ?c20 ?k20 ?a21 ?l21 ?c21 ?k21 ?a22 ?l22 ?c22 ?k22 ?a23 ?l23 ?c23 ?k23 ?y1 ?y2 ?y3 ?y4 ?y5 ?y6 ?y7 ?y8 ?y9 ?y10 ?y11 ?y12 ?y13
    (case a1 => k_is); (case l1 => k_is); (case c1 => k_is); (case k1 => k_is)
    (case a2 => k_is); (case l2 => k_is); (case c2 => k_is); (case k2 => k_is)
    (case a3 => k_is); (case l3 => k_is); (case c3 => k_is); (case k3 => k_is)
    (case a4 => k_is); (case l4 => k_is); (case c4 => k_is); (case k4 => k_is)
    (case a5 => k_is); (case l5 => k_is); (case c5 => k_is); (case k5 => k_is)
    (case a6 => k_is); (case l6 => k_is); (case c6 => k_is); (case k6 => k_is)
    (case a7 => k_is); (case l7 => k_is); (case c7 => k_is); (case k7 => k_is)
    (case a8 => k_is); (case l8 => k_is); (case c8 => k_is); (case k8 => k_is)
    (case a9 => k_is); (case l9 => k_is); (case c9 => k_is); (case k9 => k_is)
    (case a10 => k_is); (case l10 => k_is); (case c10 => k_is); (case k10 => k_is)
    (case a11 => k_is); (case l11 => k_is); (case c11 => k_is); (case k11 => k_is)
    (case a12 => k_is); (case l12 => k_is); (case c12 => k_is); (case k12 => k_is)
    (case a13 => k_is); (case l13 => k_is); (case c13 => k_is); (case k13 => k_is)
    (case a14 => k_is); (case l14 => k_is); (case c14 => k_is); (case k14 => k_is)
    (case a15 => k_is); (case l15 => k_is); (case c15 => k_is); (case k15 => k_is)
    (case a16 => k_is); (case l16 => k_is); (case c16 => k_is); (case k16 => k_is)
    (case a17 => k_is); (case l17 => k_is); (case c17 => k_is); (case k17 => k_is)
    (case a18 => k_is); (case l18 => k_is); (case c18 => k_is); (case k18 => k_is)
    (case a19 => k_is); (case l19 => k_is); (case c19 => k_is); (case k19 => k_is)
    (case a20 => k_is); (case l20 => k_is); (case c20 => k_is); (case k20 => k_is)
    (case a21 => k_is); (case l21 => k_is); (case c21 => k_is); (case k21 => k_is)
    (case a22 => k_is); (case l22 => k_is); (case c22 => k_is); (case k22 => k_is)
    (case a23 => k_is); (case l23 => k_is); (case c23 => k_is); (case k23 => k_is)
    (case y1 => k_is); (case y2 => k_is); (case y3 => k_is); (case y4 => k_is)
    (case y5 => k_is); (case y6 => k_is); (case y7 => k_is); (case y8 => k_is)
    (case y9 => k_is); (case y10 => k_is); (case y11 => k_is); (case y12 => k_is)
    (case y13 => k_is)
