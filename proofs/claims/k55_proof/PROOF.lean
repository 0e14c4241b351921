import PyProof.Rows.All
import Wide.All
import OpenK.AllK
import Wide.FinOn
import Lean
import PyProof.EqAt
import PyProof.EqKinds
import PyProof.TupleCall
import PyProof.Rows.SortRunsK
import PyProof.Rows.Walk
import KE.KSortTup
import PyProof.ListRange
import PyProof.Rows.SetFrom
import PySem.Challenge.RW_restdraw_k55_whole_order_for_each_base
set_option Elab.async false
set_option linter.all false
set_option maxRecDepth 100000
local macro_rules | `(tactic| omega)=>`(tactic| lia)
noncomputable section
open List (mem_filter mem_range filterMap_cons mem_cons_self mem_cons_of_mem mem_cons mem_append mem_append_left getElem_inj mem_append_right size_toArray append_nil nodup_cons length_take mem_of_getElem? length_append length_map length_drop length_set reverse_cons replicate_succ append_assoc foldl_cons length_singleton nil_append map_nil map_cons cons_append length_cons length_nil nodup_nil lookup_cons all_eq_true take_of_length_le drop_eq_nil_of_le mem_iff_getElem mem_singleton getD_eq_getElem?_getD getElem_mem nodup_append take_left' drop_left' length_eq_zero_iff dropLast_concat_getLast idxOf_lt_length_of_mem range_succ map_append mem_map length_range not_mem_nil take_append_drop eq_nil_or_concat nodup_range perm_append_comm pairwise_map getElem_map pairwise_append pairwise_singleton drop_eq_getElem_cons drop_drop pairwise_iff_getElem reverse_append length_reverse mem_reverse take_succ take_length filter_cons map_map getLastD_eq_getLast? filter_append concat_eq_append map_take map_drop length_filter_le filter_cons_of_pos filter_cons_of_neg filter_nil)
namespace L2
open PySem PySem.Spec PyProof.Rows
theorem y0:0<=sizeLine:=by decide
theorem y1:1<=sizeLine:=by decide
theorem y2:2<=sizeLine:=by decide
theorem y3:3<=sizeLine:=by decide
abbrev Key:=Sum Int Str
def mD:Key->Value->Bool
 | .inl k,v=>Value.isInt k v
 | .inr x,v=>Value.isStrOf x v
def kOJ (w:World):Key->Int
 | .inl k=>hashInt k
 | .inr x=>hashStr w x
theorem jH:∀ {k:Key} {v:Value},mD k v=true->(∃ i t,k=Sum.inl i/\v=Value.int i t)\/(∃ x t,k=Sum.inr x/\v=Value.str x t)
 | .inl i,v,h=>by
  obtain ⟨t,e⟩:=Value.isInt_shape (k:=i) (v:=v) h;exact .inl ⟨i,t,rfl,e⟩
 | .inr x,v,h=>by
  obtain ⟨t,e⟩:=Value.isStrOf_shape (x:=x) (v:=v) h;exact .inr ⟨x,t,rfl,e⟩
theorem kDI (i:Int) (t:Tok):mD (.inl i) (.int i t)=true:=by simp [mD,Value.isInt]
theorem kDH (x:Str) (t:Tok):mD (.inr x) (.str x t)=true:=by simp [mD,Value.isStrOf]
theorem kLS (a b:Int):decide ((Sum.inl a:Key)=Sum.inl b)=(a == b):=by
 by_cases e:a=b
 ·subst e;simp
 ·have h:¬ (Sum.inl a:Key)=Sum.inl b:=λ q=>e (Sum.inl.inj q)
  rw [decide_eq_false h];exact (beq_eq_false_iff_ne.mpr e).symm
theorem kLP (a b:Str):decide ((Sum.inr a:Key)=Sum.inr b)=decide (a=b):=by
 by_cases e:a=b
 ·subst e;simp
 ·have h:¬ (Sum.inr a:Key)=Sum.inr b:=λ q=>e (Sum.inr.inj q)
  rw [decide_eq_false h,decide_eq_false e]
theorem kLR (a:Int) (b:Str):decide ((Sum.inl a:Key)=Sum.inr b)=false:=decide_eq_false (λ q=>nomatch q)
theorem kLQ (a:Str) (b:Int):decide ((Sum.inr a:Key)=Sum.inl b)=false:=decide_eq_false (λ q=>nomatch q)
def qY (prog:Program) (w:World):PySem.KeyKind prog w Key where
 is:=mD
 hash:=kOJ w
 inj:=λ v a b ha hb=>by
  rcases jH ha with ⟨i,t,rfl,rfl⟩ | ⟨x,t,rfl,rfl⟩
  ·rcases jH hb with ⟨j,u,rfl,e⟩ | ⟨y,u,rfl,e⟩
   ·injection e with e1 _;rw [e1]
   ·exact nomatch e
  ·rcases jH hb with ⟨j,u,rfl,e⟩ | ⟨y,u,rfl,e⟩
   ·exact nomatch e
   ·injection e with e1 _;rw [e1]
 byValue:=λ k v h=>by
  rcases jH h with ⟨i,t,rfl,rfl⟩ | ⟨x,t,rfl,rfl⟩<;>rfl
 pyHash:=λ hv h=>by
  rcases jH hv with ⟨i,t,rfl,rfl⟩ | ⟨x,t,rfl,rfl⟩
  ·exact wpAny_pyHash_int h
  ·exact wpAny_pyHash_str h
 eqBool:=λ hu hv h=>by
  rcases jH hu with ⟨i,t,rfl,rfl⟩ | ⟨x,t,rfl,rfl⟩
  ·rcases jH hv with ⟨j,u,rfl,rfl⟩ | ⟨y,u,rfl,rfl⟩
   ·rw [kLS] at h;exact wpAny_eqBool_int h
   ·rw [kLR] at h;exact SeqAt.EqAt.int_str i t y u _ _ _ _ h
  ·rcases jH hv with ⟨j,u,rfl,rfl⟩ | ⟨y,u,rfl,rfl⟩
   ·rw [kLQ] at h;exact SeqAt.EqAt.str_int x t j u _ _ _ _ h
   ·rw [kLP] at h;exact wpAny_eqBool_str h
 «strs»:=λ k x t v h=>by
  rcases jH h with ⟨i,u,rfl,e⟩ | ⟨y,u,rfl,e⟩
  ·exact nomatch e
  ·injection e with e1 _
   subst e1;cases v<;>rfl
theorem rH (prog:Program) (w:World) (i:Int) (t:Tok):(qY prog w).is (.inl i) (.int i t)=true:=kDI i t
theorem rG (prog:Program) (w:World) (x:Str) (t:Tok):(qY prog w).is (.inr x) (.str x t)=true:=kDH x t
inductive V where
 | non | bl (b:Bool) | int (i:Int) | str (x:Str) | byt (b:Array UInt8) | flt (b:UInt64) | ref (a:Addr) | ty (n:String)
 deriving DecidableEq
def RelV:V->Value->Prop
 | .non,u=>u=Value.none
 | .bl b,u=>u=Value.bool b
 | .int i,u=>∃ t,u=Value.int i t
 | .str x,u=>∃ t,u=Value.str x t
 | .byt b,u=>∃ t,u=Value.bytes b t
 | .flt b,u=>∃ t,u=Value.float b t
 | .ref a,u=>u=Value.ref a
 | .ty n,u=>u=Value.type n
abbrev Vals:List V->List Value->Prop:=Paired RelV
theorem Vals.length {xs:List V} {us:List Value} (r:Vals xs us):xs.length=us.length:=Paired.length r
theorem Vals.get:∀ {xs:List V} {us:List Value} {i:Nat} {x:V},Vals xs us->xs[i]?=some x->∃ u,us[i]?=some u/\RelV x u
 | _,_,_,_,.nil,e=>by simp at e
 | _,_,0,_,.cons r _,e=>by simp at e;subst e;exact ⟨_,rfl,r⟩
 | _,_,i+1,x,.cons _ t,e=>by
  obtain ⟨u,h1,h2⟩:=Vals.get (i:=i) (x:=x) t (by simpa using e);exact ⟨u,by simpa using h1,h2⟩
theorem Vals.set {x:V} {u:Value} (r:RelV x u):∀ {xs:List V} {us:List Value} (i:Nat),Vals xs us->Vals (xs.set i x) (us.set i u)
 | _,_,_,.nil=>.nil
 | _,_,0,.cons _ t=>.cons r t
 | _,_,i+1,.cons q t=>.cons q (Vals.set r i t)
theorem Vals.append:∀ {xs ys:List V} {us ws:List Value},Vals xs us->Vals ys ws->Vals (xs++ys) (us++ws)
 | _,_,_,_,.nil,s=>s
 | _,_,_,_,.cons r t,s=>.cons r (Vals.append t s)
theorem Vals.take:∀ {xs:List V} {us:List Value} (n:Nat),Vals xs us->Vals (xs.take n) (us.take n)
 | _,_,0,_=>.nil
 | _,_,_+1,.nil=>.nil
 | _,_,n+1,.cons r t=>.cons r (Vals.take n t)
theorem Vals.drop:∀ {xs:List V} {us:List Value} (n:Nat),Vals xs us->Vals (xs.drop n) (us.drop n)
 | _,_,0,r=>r
 | _,_,_+1,.nil=>.nil
 | _,_,n+1,.cons _ t=>Vals.drop n t
def RelO:Option V->Option Value->Prop
 | some v,some u=>RelV v u
 | none,none=>True
 | _,_=>False
def KV {κ:Type}:List (κ×V)->List (κ×Value)->Prop:=Paired λ (p:κ×V) (q:κ×Value)=>p.1=q.1/\RelV p.2 q.2
def kV:Key->V
 | .inl i=>.int i
 | .inr x=>.str x
inductive HO where
 | lst (xs:List V)
 | tup (xs:List V)
 | dK (kvs:List (Key×V)) | dT (kvs:List (List Key×V))
 | set (S:Int->Bool) (n:Nat)
 | ins (C dx:Addr) (fs:List (Str×V))
 | own (x:Addr)
 | xd (fs:List (Str×V))
 | met (f x:Addr)
 | rng (lo hi:Int)
 | frz (o:Obj) (u:HO)
 | tbl (ps:Array Value)
 | ext (φ:Heap->Prop)
abbrev Hp:=Addr->Option HO
def upd (H:Hp) (a:Addr) (o:HO):Hp:=λ b=>if b=a then some o else H b
theorem kC {H:Hp} {a:Addr} {o:HO}:upd H a o a=some o:=by unfold upd;rw [if_pos rfl]
theorem kO {H:Hp} {a b:Addr} {o:HO} (h:b≠a):upd H a o b=H b:=by unfold upd;rw [if_neg h]
theorem vS {H:Hp} {a b:Addr} {o u:HO} (h:H a=some o) (h':H b=some u) (d:o≠u):a≠b:=by
 intro e;subst e;rw [h] at h';exact d (Option.some.inj h')
theorem kH {H:Hp} {a b:Addr} {o:HO} (h:H a=some o) (h':H b=none):a≠b:=by
 intro e;subst e;rw [h] at h';cases h'
section
def IsTupN (h:Heap) (a:Addr) (items:Array Value):Prop:=∃ o,h.get? a=some o/\o.cls=.type "tuple"/\∃ n,o.data=.seq items n/\o.dict=none
theorem IsTupN.isTup {h:Heap} {a:Addr} {items:Array Value}:IsTupN h a items->IsTup h a items:=λ ⟨o,e,c,n,d,_⟩=>⟨o,e,c,n,d⟩
theorem IsTupN.lt {h:Heap} {a:Addr} {items:Array Value} (x:IsTupN h a items):a<h.objs.size:=x.isTup.lt
theorem IsTupN.new (h:Heap) (items:Array Value):IsTupN (h.push { cls:=.type "tuple",data:=.seq items }) h.objs.size items:=⟨_,Heap.get?_push_size _ rfl,rfl,_,rfl,rfl⟩
variable (P:Program) (w:World)
def ObjOk (H:Hp) (h:Heap) (a:Addr):HO->Prop
 | .lst xs=>xs.length<=sizeLine/\∃ (its:List Value) (n:Nat),Vals xs its/\h.get? a=some { cls:=.type "list",data:=.seq its.toArray n }
 | .tup xs=>xs.length<=sizeLine/\∃ its:List Value,Vals xs its/\IsTupN h a its.toArray
 | .dK kvs=>kvs.length<=sizeLine/\(a == sysModules)=false/\∃ vs,KV kvs vs/\h.DictOf (qY P w) a vs
 | .dT kvs=>kvs.length<=sizeLine/\(a == sysModules)=false/\∃ xs:List (List Key×Addr×Value),
   Paired (λ (p:List Key×V) (q:List Key×Addr×Value)=>p.1=q.1/\H q.2.1=some (.tup (p.1.map kV))/\RelV p.2 q.2.2) kvs xs /\
   ∃ o es ep,h.get? a=some o/\o.ExactDict/\o.data=.dict es ep/\es.toList=xs.map (entryOfKey (tupleKind (qY P w)))/\(xs.map (·.1)).Nodup
 | .set S n=>h.SetOf (intKind P w) a S n
 | .ins C dx fs=>H dx=some (.own a)/\fs.length<=1000/\dx≠a/\h.get? a=some (PySem.W.instObj C dx) /\
   ∃ mA,h.Ns1 dx mA/\(∀ f,RelO (fs.lookup f) (mA f))/\PySem.Within mA (fs.map (·.1))
 | .own _=>∃ o,h.get? a=some o
 | .xd fs=>∃ mA,h.Ns1 a mA/\∀ f,RelO (fs.lookup f) (mA f)
 | .rng lo hi=>∃ t u v,h.get? a=some { cls:=.type "range",data:=.fields #[.int lo t,.int hi u,.int 1 v] }
 | .frz o u=>h.get? a=some o/\ObjOk H h a u
 | .tbl ps=>h.get? a=some { cls:=.none,data:=.fields ps }
 | .met f x=>h.get? a=some (PySem.W.methodObj (.ref f) (.ref x))
 | .ext φ=>φ h/\(∃ o,h.get? a=some o)/\∀ h1 h2:Heap,φ h1->(∀ o,h1.get? a=some o->h2.get? a=some o)->φ h2
def HOk (H:Hp) (h:Heap):Prop:=∀ a o,H a=some o->ObjOk P w H h a o
end
section
variable {P:Program} {w:World} {H H':Hp} {h h':Heap} {a:Addr} {o:HO}
theorem ObjOk.lt (x:ObjOk P w H h a o):a<h.objs.size:=by
 cases o with
 | lst xs=>obtain ⟨_,_,_,_,e⟩:=x;exact Heap.lt_size e
 | tup xs=>obtain ⟨_,_,_,p⟩:=x;exact p.lt
 | dK kvs=>obtain ⟨_,_,_,_,o,_,_,e,_⟩:=x;exact Heap.lt_size e
 | dT kvs=>obtain ⟨_,_,_,_,o,_,_,e,_⟩:=x;exact Heap.lt_size e
 | set S n=>obtain ⟨o,_,_,_,e,_⟩:=x;exact Heap.lt_size e
 | ins C dx fs=>obtain ⟨_,_,_,e,_⟩:=x;exact Heap.lt_size e
 | own y=>obtain ⟨_,e⟩:=x;exact Heap.lt_size e
 | xd fs=>obtain ⟨_,⟨_,_,_,e,_⟩,_⟩:=x;exact Heap.lt_size e
 | rng lo hi=>obtain ⟨_,_,_,e⟩:=x;exact Heap.lt_size e
 | frz ob u=>obtain ⟨e,_⟩:=x;exact Heap.lt_size e
 | tbl ps=>exact Heap.lt_size (show h.get? a=some _ from x)
 | met f y=>exact Heap.lt_size (show h.get? a=some _ from x)
 | ext φ=>obtain ⟨_,⟨_,e⟩,_⟩:=x;exact Heap.lt_size e
theorem Paired.mapP {α β:Type} {F G:α->β->Prop}:∀ {l₁:List α} {l₂:List β},Paired F l₁ l₂->(∀ a b,F a b->G a b)->Paired G l₁ l₂
 | _,_,.nil,_=>.nil
 | _,_,.cons r t,f=>.cons (f _ _ r) (Paired.mapP t f)
theorem ObjOk.stay (x:ObjOk P w H h a o) (k:∀ b u,(b=a\/H b=some (.own a))->h.get? b=some u->h'.get? b=some u)
  (ho:∀ b,H b=some (.own a)->H' b=some (.own a)) (ht:∀ b xs,H b=some (.tup xs)->H' b=some (.tup xs)):ObjOk P w H' h' a o:=by
 induction o with
 | lst xs=>obtain ⟨z,its,n,r,e⟩:=x;exact ⟨z,its,n,r,k _ _ (.inl rfl) e⟩
 | tup xs=>obtain ⟨z,its,r,ob,e,c⟩:=x;exact ⟨z,its,r,ob,k _ _ (.inl rfl) e,c⟩
 | dK kvs=>obtain ⟨z,y,vs,r,ob,es,ep,e,c⟩:=x;exact ⟨z,y,vs,r,ob,es,ep,k _ _ (.inl rfl) e,c⟩
 | dT kvs =>
  obtain ⟨z,y,xs,r,ob,es,ep,e,c⟩:=x;exact ⟨z,y,xs,Paired.mapP r λ p q z=>⟨z.1,ht _ _ z.2.1,z.2.2⟩,ob,es,ep,k _ _ (.inl rfl) e,c⟩
 | set S n=>obtain ⟨ob,es,ep,t,e,c⟩:=x;exact ⟨ob,es,ep,t,k _ _ (.inl rfl) e,c⟩
 | ins C dx fs =>
  obtain ⟨d,z,ne,e,mA,⟨od,es,ep,e2,c⟩,r⟩:=x;exact ⟨ho _ d,z,ne,k _ _ (.inl rfl) e,mA,⟨od,es,ep,k _ _ (.inr d) e2,c⟩,r⟩
 | own y=>obtain ⟨ob,e⟩:=x;exact ⟨ob,k _ _ (.inl rfl) e⟩
 | xd fs=>obtain ⟨mA,⟨od,es,ep,e,c⟩,r⟩:=x;exact ⟨mA,⟨od,es,ep,k _ _ (.inl rfl) e,c⟩,r⟩
 | rng lo hi=>obtain ⟨t,u,v,e⟩:=x;exact ⟨t,u,v,k _ _ (.inl rfl) e⟩
 | frz ob u ih=>obtain ⟨e,q⟩:=x;exact ⟨k _ _ (.inl rfl) e,ih q⟩
 | tbl ps =>
  have e:h.get? a=some { cls:=.none,data:=.fields ps }:=x;show h'.get? a=some { cls:=.none,data:=.fields ps };exact k a _ (.inl rfl) e
 | met f y =>
  have e:h.get? a=some (PySem.W.methodObj (.ref f) (.ref y)):=x;show h'.get? a=some (PySem.W.methodObj (.ref f) (.ref y));exact k a _ (.inl rfl) e
 | ext φ=>obtain ⟨p,⟨o,e⟩,st⟩:=x;exact ⟨st _ _ p λ o q=>k _ _ (.inl rfl) q,⟨o,k _ _ (.inl rfl) e⟩,st⟩
theorem HOk.lt (x:HOk P w H h) (e:H a=some o):a<h.objs.size:=(x a o e).lt
theorem HOk.fresh (x:HOk P w H h) (e:h.objs.size<=a):H a=none:=by
 cases q:H a with
 | none=>rfl
 | some u=>exact absurd (Nat.lt_of_lt_of_le (x.lt q) e) (Nat.lt_irrefl _)
theorem HOk.kept (x:HOk P w H h) (k:∀ b u,h.get? b=some u->h'.get? b=some u):HOk P w H h':=λ a o e =>
 (x a o e).stay (λ b u _ q=>k b u q) (λ _ q=>q) λ _ _ q=>q
theorem HOk.laid (x:HOk P w H h) (k:∀ b u,h.get? b=some u->h'.get? b=some u) (hp:h.objs.size<=a) (new:ObjOk P w (upd H a o) h' a o):HOk P w (upd H a o) h':=λ b u e=>by
 have hn:=x.fresh hp;by_cases hb:b=a
 ·subst hb;rw [kC] at e;cases e;exact new
 ·rw [kO hb] at e
  exact (x b u e).stay (λ c v _ q=>k c v q) (λ c q=>by rw [kO (kH q hn)];exact q) λ c xs q=>by rw [kO (kH q hn)];exact q
end
def Rd (H:Hp) (a:Addr) (u:HO):Prop:=H a=some u\/∃ o,H a=some (.frz o u)
theorem Rd.ok {P:Program} {w:World} {H:Hp} {h:Heap} {a:Addr} {u:HO} (r:Rd H a u) (x:HOk P w H h):ObjOk P w H h a u:=by
 rcases r with r | ⟨o,r⟩
 ·exact x a u r
 ·obtain ⟨_,q⟩:=x a _ r
  exact q
def Mut:Option HO->Prop
 | some (.lst _)=>True
 | some (.dK _)=>True
 | some (.dT _)=>True
 | some (.set _ _)=>True
 | some (.ins _ _ _)=>True
 | some (.ext _)=>True
 | _=>False
section
variable {P:Program} {w:World} {H:Hp} {h h':Heap} {x e:Addr} {o':HO}
theorem HOk.write (ok:HOk P w H h) (mu:Mut (H x)) (he:e=x\/H e=some (.own x)) (k:∀ b u,b≠e->h.get? b=some u->h'.get? b=some u) (heo:∃ u,h'.get? e=some u)
  (new:ObjOk P w (upd H x o') h' x o'):HOk P w (upd H x o') h':=λ b u q=>by
 have nown:∀ c y,H c=some (.own y)->c≠x:=λ c y r z=>by subst z;rw [r] at mu;exact mu
 have ntup:∀ c xs,H c=some (.tup xs)->c≠x:=λ c xs r z=>by subst z;rw [r] at mu;exact mu
 by_cases hb:b=x
 ·subst hb;rw [kC] at q;cases q;exact new
 ·rw [kO hb] at q
  by_cases hbe:b=e
  ·have q':H b=some (.own x):=by
    rcases he with z | z
    ·exact absurd (hbe.trans z) hb
    ·rw [hbe];exact z
   rw [q] at q';cases q';obtain ⟨v,hv⟩:=heo;exact ⟨v,by rw [hbe];exact hv⟩
  ·refine (ok b u q).stay (λ c v hc r=>k c v ?_ r) (λ c r=>by rw [kO (nown c b r)];exact r) λ c xs r=>by rw [kO (ntup c xs r)];exact r
   rcases hc with rfl | hc
   ·exact hbe
   ·rintro rfl
    rcases he with z | z
    ·exact nown c b hc z
    ·rw [hc] at z;cases z;exact hb rfl
end
structure Un (fs ex:List Addr) (H H':Hp) (h h':Heap):Prop where
 keep:∀ b o,h.get? b=some o->H b=none->b∉fs->b∉ex->h'.get? b=some o
 slot:∀ b o,h.get? b=some o->H b=none->b∈fs->b∉ex->∃ sl,h'.get? b=some { o with slots:=sl }
 free:∀ b o,h.get? b=some o->H b=none->b∉ex->H' b=none
 there:∀ b o,h.get? b=some o->b∉ex->∃ o',h'.get? b=some o'
 tups:∀ b xs,H b=some (.tup xs)->H' b=some (.tup xs)
 frzs:∀ b o u,H b=some (.frz o u)->H' b=some (.frz o u)
 tbls:∀ b ps,H b=some (.tbl ps)->∃ more,H' b=some (.tbl (ps++more))
section
variable {fs fs' ex ex':List Addr} {H H1 H2:Hp} {h h1 h2 h':Heap} {a x e:Addr} {o:HO}
theorem Un.any (u:Un fs ex H H1 h h1) {b:Addr} {ob:Obj} (q:h.get? b=some ob) (n:H b=none) (hx:b∉ex):∃ sl,h1.get? b=some { ob with slots:=sl }:=by
 by_cases hb:b∈fs
 ·exact u.slot b ob q n hb hx
 ·exact ⟨ob.slots,u.keep b ob q n hb hx⟩
theorem Un.kept (k:∀ b u,h.get? b=some u->h'.get? b=some u):Un fs ex H H h h' :=
 ⟨λ b ob q _ _ _=>k b ob q,λ b ob q _ _ _=>⟨ob.slots,k b ob q⟩,λ _ _ _ n _=>n,λ b ob q _=>⟨ob,k b ob q⟩,λ _ _ q=>q,λ _ _ _ q=>q,λ _ ps q=>⟨#[],by rw [q];simp⟩⟩
theorem Un.refl:Un fs ex H H h h:=Un.kept λ _ _ q=>q
theorem Un.laid (k:∀ b u,h.get? b=some u->h'.get? b=some u) (hp:h.objs.size<=a) (hn:H a=none):Un fs ex H (upd H a o) h h' where
 keep:=λ b u q _ _ _=>k b u q
 slot:=λ b u q _ _ _=>⟨u.slots,k b u q⟩
 free:=λ b u q n _=>by rw [kO (Nat.ne_of_lt (Nat.lt_of_lt_of_le (Heap.lt_size q) hp))];exact n
 there:=λ b u q _=>⟨u,k b u q⟩
 tups:=λ b xs q=>by rw [kO (kH q hn)];exact q
 frzs:=λ b u xs q=>by rw [kO (kH q hn)];exact q
 tbls:=λ b ps q=>⟨#[],by rw [kO (kH q hn),q];simp⟩
theorem Un.write (mu:Mut (H x)) (he:e=x\/H e=some (.own x)) (k:∀ b u,b≠e->h.get? b=some u->h'.get? b=some u) (heo:∃ u,h'.get? e=some u):Un fs ex H (upd H x o) h h':=by
 have hx:∀ b,H b=none->b≠x:=λ b n z=>by subst z;rw [n] at mu;exact mu
 have hb:∀ b,H b=none->b≠e:=λ b n z=>by
  subst z;rcases he with r | r
  ·exact hx b n r
  ·rw [n] at r;cases r
 have hm:∀ b u,H b=some u->¬ Mut (some u)->b≠x:=λ b u q nm z=>by subst z;rw [q] at mu;exact nm mu
 refine ⟨λ b u q n _ _=>k b u (hb b n) q,λ b u q n _ _=>⟨u.slots,k b u (hb b n) q⟩,λ b u q n _=>by rw [kO (hx b n)];exact n,λ b u q _=>?_,
  λ b xs q=>by rw [kO (hm b _ q λ z=>z)];exact q,λ b u xs q=>by rw [kO (hm b _ q λ z=>z)];exact q,λ b ps q=>⟨#[],by rw [kO (hm b _ q λ z=>z),q];simp⟩⟩
 by_cases hbe:b=e
 ·subst hbe;exact heo
 ·exact ⟨u,k b u hbe q⟩
end
def trk (h:Heap) (H:Hp):List Addr:=(List.range h.objs.size).filter λ a=>(H a).isSome
def oO (h:Heap) (H:Hp):Heap:=PySem.W.hideAll h (trk h H)
theorem kDO (h:Heap) (H:Hp):(oO h H).objs.size=h.objs.size:=PySem.W.hideAll_size _ _
theorem kGL {h:Heap} {H:Hp} {b:Addr} {o:Obj} (e:h.get? b=some o) (n:H b=none):(oO h H).get? b=some o :=
 PySem.W.hideAll_get _ e λ hm=>by
  have q:(H b).isSome=true:=(mem_filter.mp hm).2;rw [n] at q;simp at q
theorem kIR {h:Heap} {H:Hp} {b:Addr} {o:Obj} (e:(oO h H).get? b=some o):h.get? b=some o/\H b=none:=by
 have e':h.get? b=some o:=PySem.W.of_hideAll (trk h H) e;refine ⟨e',?_⟩
 cases q:H b with
 | none=>rfl
 | some x =>
  have hm:b∈trk h H:=mem_filter.mpr ⟨mem_range.mpr (Heap.lt_size e'),by simp [q]⟩;have z:(oO h H).get? b=none:=PySem.W.hideAll_none (trk h H) hm;rw [z] at e;cases e
structure Mod (K:PySem.W.Frag) (mg:Str->Option Value) (base:Heap):Prop where
 kin:K.In base
 glob:base.Ns mainGlobals mg
 blt:∃ mb,base.Ns builtinsNs mb/\∀ x:Str,x≠"__name__"->mb x=bootBuiltins x
 nolimit:base.NoLimit
structure Cx where
 prog:Program
 w:World
 K:PySem.W.Frag
 mg:Str->Option Value
 base:Heap
 A:Around
 N:List Str
 s₀:Shared
 H₀:Hp
 env:Env
 outer:List Env
 stack:List Env
 ex:List Addr
 fn:Str->Bool
 calm:Bool
 pn:List (Addr×Obj)
 xe:Value->Shared->Prop
def frs (l:List Env):List Addr:=l.filterMap (·.frame)
abbrev Cx.fs (X:Cx):List Addr:=frs X.outer
def Vis (sc:Scope) (x:Str):Prop:=sc.names.lookup x=some .local\/sc.names.lookup x=some .cell\/sc.names.lookup x=some .free
def Loc (sc:Scope) (x:Str):Prop:=sc.names.lookup x=some .local\/sc.names.lookup x=some .cell
def kOQ (env:Env) (h:Heap) (m:Str->Option Value) (x:Str) (u:Value):Prop :=
 (env.kindOf x=some .local/\m x=some u)\/((env.kindOf x=some .cell\/env.kindOf x=some .free)/\∃ c,env.cells.lookup x=some c/\h.IsCell c (some u))
structure Cx.Ok (X:Cx):Prop where
 mod:Mod X.K X.mg X.base
 kind:X.env.scope.kind=.function
 glob:X.env.globals=mainGlobals
 blt:X.env.builtins=builtinsNs
 above:X.s₀.heap.objs.size<=X.env.locals
 inj:∀ x y c,X.env.cells.lookup x=some c->X.env.cells.lookup y=some c->x=y
 has:∀ x,(X.env.kindOf x=some .cell\/X.env.kindOf x=some .free)->∃ c,X.env.cells.lookup x=some c
 cab:∀ x c,X.fn x=true->X.env.cells.lookup x=some c->X.s₀.heap.objs.size<=c
 hd:X.calm=true->X.A.handled=none
 frames:X.A.frames=some X.stack
 stk:X.stack=X.outer\/(X.stack=X.env::X.outer/\X.env.frame=some X.env.locals)
 exf:∀ b∈X.ex,b≠X.env.locals/\∀ x c,X.env.cells.lookup x=some c->c≠b
 bs:∀ b o,X.base.get? b=some o->X.s₀.heap.get? b=some o/\X.H₀ b=none
 bsz:X.base.objs.size<=X.s₀.heap.objs.size
 noex:∀ b o,X.base.get? b=some o->b∉X.ex
 exfs:∀ b∈X.ex,b∉X.fs
 funs:X.s₀.heap.FunFrames X.base X.outer
 frf:∀ b∈X.fs,X.H₀ b=none
structure Inv (X:Cx) (pins:List (Addr×Obj)) (σ:List (Option V)) (H:Hp) (s:Shared):Prop where
 ok:X.Ok
 os:s.os=X.s₀.os
 bare:AllBare s.gens
 base:Un X.fs X.ex X.H₀ H X.s₀.heap s.heap
 loc:∃ m,s.heap.Ns X.env.locals m/\∀ (i:Nat) (x:Str) (v:V),X.N[i]?=some x->σ[i]?=some (some v)->Vis X.env.scope x->∃ u,RelV v u/\kOQ X.env s.heap m x u
 cell:∀ x c,X.env.cells.lookup x=some c->∃ v,s.heap.IsCell c v
 free:H X.env.locals=none
 freeC:∀ x c,X.env.cells.lookup x=some c->H c=none
 pin:∀ p∈X.pn++pins,s.heap.get? p.1=some p.2/\H p.1=none/\p.1≠X.env.locals/\p.1∉X.fs/\∀ v,p.2.data≠.cell v
 hok:HOk X.prog X.w H s.heap
 len:σ.length=X.N.length
section
variable {X:Cx} {pins:List (Addr×Obj)} {σ:List (Option V)} {H H':Hp} {s:Shared} {h':Heap}
theorem Cx.Ok.nofr (ok:X.Ok) {b:Addr} {o:Obj} (e:X.base.get? b=some o):b∉X.fs:=λ hb=>by
 have:=(ok.funs.mem hb).1;rw [e] at this;cases this
theorem Inv.bs (I:Inv X pins σ H s):∀ b o,X.base.get? b=some o->s.heap.get? b=some o/\H b=none:=λ b o e =>
 ⟨I.base.keep b o (I.ok.bs b o e).1 (I.ok.bs b o e).2 (I.ok.nofr e) (I.ok.noex b o e),I.base.free b o (I.ok.bs b o e).1 (I.ok.bs b o e).2 (I.ok.noex b o e)⟩
theorem Inv.bk (I:Inv X pins σ H s):∀ b o,X.base.get? b=some o->s.heap.get? b=some o:=λ b o e=>(I.bs b o e).1
theorem Inv.mod (I:Inv X pins σ H s):Mod X.K X.mg X.base:=I.ok.mod
theorem Inv.kIn (I:Inv X pins σ H s):X.K.In s.heap:=I.ok.mod.kin.keeps I.bk
theorem Inv.lt (I:Inv X pins σ H s):X.env.locals<s.heap.objs.size:=let ⟨_,hn,_⟩:=I.loc;hn.lt
theorem Inv.sz (I:Inv X pins σ H s):X.s₀.heap.objs.size<=s.heap.objs.size:=Nat.le_trans I.ok.above (Nat.le_of_lt I.lt)
theorem Inv.nofs (I:Inv X pins σ H s) {a:Addr} (h:s.heap.objs.size<=a):a∉X.fs:=λ hb=>by
 obtain ⟨_,o,ho,_⟩:=I.ok.funs.mem hb;exact absurd (Nat.lt_of_lt_of_le (Heap.lt_size ho) (Nat.le_trans I.sz h)) (Nat.lt_irrefl _)
theorem Inv.cne (I:Inv X pins σ H s):∀ x c,X.env.cells.lookup x=some c->c≠X.env.locals:=λ x c e z=>by
 obtain ⟨v,o,ho,hd⟩:=I.cell x c e;obtain ⟨m,⟨o',es,ep,ho',hd',_⟩,_⟩:=I.loc;rw [z,ho'] at ho;cases ho;rw [hd'] at hd;cases hd
theorem Inv.funs (I:Inv X pins σ H s):s.heap.FunFrames X.base X.outer:=by
 have all:∀ (l:List Env),(∀ b∈frs l,b∈X.fs)->X.s₀.heap.FunFrames X.base l->s.heap.FunFrames X.base l:=by
  intro l
  induction l with
  | nil=>intro _ _;trivial
  | cons env r ih =>
   intro hs hl;obtain ⟨hk,⟨L,o,hf,hn,ho,hd⟩,hr⟩:=hl;have hL:L∈X.fs:=hs L (by unfold frs;rw [filterMap_cons,hf];exact mem_cons_self);obtain ⟨sl,e⟩:=I.base.slot L o ho (I.ok.frf L hL) hL λ z=>I.ok.exfs L z hL;exact ⟨hk,⟨L,_,hf,hn,e,hd⟩,ih (λ b hb=>hs b (by unfold frs;rw [filterMap_cons,hf];exact mem_cons_of_mem _ hb)) hr⟩
 exact all X.outer (λ _ hb=>hb) I.ok.funs
theorem Inv.stack (I:Inv X pins σ H s):s.heap.FunFrames X.base X.stack:=by
 rcases I.ok.stk with e | ⟨e,hf⟩
 ·rw [e];exact I.funs
 ·rw [e]
  obtain ⟨m,hn,_⟩:=I.loc;refine .cons (by rw [I.ok.kind];decide) hf hn ?_ I.funs;exact Heap.get?_none_of_le (Nat.le_trans I.ok.bsz I.ok.above)
theorem Inv.stkSub (I:Inv X pins σ H s):∀ b∈frs X.stack,b∈X.env.locals::X.fs:=λ b hb=>by
 rcases I.ok.stk with e | ⟨e,hf⟩
 ·rw [e] at hb;exact mem_cons_of_mem _ hb
 ·rw [e] at hb
  unfold frs at hb;rw [filterMap_cons,hf] at hb;exact hb
theorem Inv.stkFree (I:Inv X pins σ H s):∀ b∈frs X.stack,H b=none:=λ b hb=>by
 rcases mem_cons.mp (I.stkSub b hb) with e | hb
 ·rw [e];exact I.free
 ·obtain ⟨_,o,ho,_⟩:=I.ok.funs.mem hb
  exact I.base.free b o ho (I.ok.frf b hb) λ z=>I.ok.exfs b z hb
theorem Inv.step {g':Array GenState} {t':Nat} {d':Drawn} {ch:List Addr} (I:Inv X pins σ H s)
  (hch:∀ b∈ch,(b∈X.ex\/X.s₀.heap.objs.size<=b)/\b≠X.env.locals/\(∀ x c,X.env.cells.lookup x=some c->c≠b)/\∀ p∈X.pn++pins,p.1≠b)
  (keep:∀ b o,b≠X.env.locals->b∉X.fs->b∉ch->s.heap.get? b=some o->H b=none->h'.get? b=some o)
  (slot:∀ b o,b≠X.env.locals->b∈X.fs->b∉ch->s.heap.get? b=some o->H b=none->∃ sl,h'.get? b=some { o with slots:=sl }) (free:∀ b o,b∉ch->s.heap.get? b=some o->H b=none->H' b=none)
  (there:∀ b o,b∉ch->s.heap.get? b=some o->∃ o',h'.get? b=some o')
  (tups:∀ b xs,H b=some (.tup xs)->H' b=some (.tup xs)) (frzs:∀ b o u,H b=some (.frz o u)->H' b=some (.frz o u)) (tbls:∀ b ps,H b=some (.tbl ps)->∃ more,H' b=some (.tbl (ps++more)))
  (ns:∀ m,s.heap.Ns X.env.locals m->h'.Ns X.env.locals m) (hok:HOk X.prog X.w H' h') (hg:AllBare g') :
  Inv X pins σ H' { s with heap:=h',gens:=g',drawn:=d',toks:=t' }:=by
 have neL:∀ b o,X.s₀.heap.get? b=some o->b≠X.env.locals:=λ b o e=>Nat.ne_of_lt (Nat.lt_of_lt_of_le (Heap.lt_size e) I.ok.above)
 have neC:∀ b o,X.s₀.heap.get? b=some o->b∉X.ex->b∉ch:=λ b o e hx hb=>by
  rcases (hch b hb).1 with z | z
  ·exact hx z
  ·exact absurd (Nat.lt_of_lt_of_le (Heap.lt_size e) z) (Nat.lt_irrefl _)
 have cellK:∀ x c,X.env.cells.lookup x=some c->∀ v,s.heap.IsCell c v->h'.IsCell c v:=λ x c e v ⟨o,ho,hd⟩=>by
  have nch:c∉ch:=λ z=>(hch c z).2.2.1 x c e rfl;by_cases hc:c∈X.fs
  ·obtain ⟨sl,q⟩:=slot c o (I.cne x c e) hc nch ho (I.freeC x c e)
   exact ⟨_,q,hd⟩
  ·exact ⟨o,keep c o (I.cne x c e) hc nch ho (I.freeC x c e),hd⟩
 refine ⟨I.ok,I.os,hg,⟨λ b o e n hb hx=>?_,λ b o e n hb hx=>?_,λ b o e n hx=>?_,λ b o e hx=>?_,λ b xs e=>tups b xs (I.base.tups b xs e),λ b o xs e=>frzs b o xs (I.base.frzs b o xs e),λ b ps e=>?_⟩,?_,λ x c e=>?_,?_,λ x c e=>?_,λ p hp=>?_,hok,I.len⟩
 ·exact keep b o (neL b o e) hb (neC b o e hx) (I.base.keep b o e n hb hx) (I.base.free b o e n hx)
 ·obtain ⟨sl,e1⟩:=I.base.slot b o e n hb hx
  obtain ⟨sl',e2⟩:=slot b _ (neL b o e) hb (neC b o e hx) e1 (I.base.free b o e n hx);exact ⟨sl',e2⟩
 ·obtain ⟨o',e1⟩:=I.base.there b o e hx
  exact free b o' (neC b o e hx) e1 (I.base.free b o e n hx)
 ·obtain ⟨o',e1⟩:=I.base.there b o e hx
  exact there b o' (neC b o e hx) e1
 ·obtain ⟨m1,e1⟩:=I.base.tbls b ps e
  obtain ⟨m2,e2⟩:=tbls b _ e1;exact ⟨m1++m2,by rw [e2,Array.append_assoc]⟩
 ·obtain ⟨m,hn,hl⟩:=I.loc
  refine ⟨m,ns m hn,λ i x v e1 e2 e3=>?_⟩;obtain ⟨u,r,l⟩:=hl i x v e1 e2 e3;refine ⟨u,r,?_⟩;rcases l with l | ⟨k,c,e,z⟩
  ·exact .inl l
  ·exact .inr ⟨k,c,e,cellK x c e _ z⟩
 ·obtain ⟨v,z⟩:=I.cell x c e
  exact ⟨v,cellK x c e v z⟩
 ·obtain ⟨m,⟨o,_,_,ho,_⟩,_⟩:=I.loc
  exact free _ o (λ z=>(hch _ z).2.1 rfl) ho I.free
 ·obtain ⟨v,o,ho,hd⟩:=I.cell x c e
  exact free c o (λ z=>(hch c z).2.2.1 x c e rfl) ho (I.freeC x c e)
 ·obtain ⟨e,n,ne,nf,d⟩:=I.pin p hp
  have nch:p.1∉ch:=λ z=>(hch p.1 z).2.2.2 p hp rfl;exact ⟨keep p.1 p.2 ne nf nch e n,free p.1 p.2 nch e n,ne,nf,d⟩
theorem Inv.un {t':Nat} (I:Inv X pins σ H s) (u:Un X.fs [] H H' s.heap h') (hok:HOk X.prog X.w H' h'):Inv X pins σ H' { s with heap:=h',toks:=t' }:=by
 obtain ⟨m,⟨o,es,ep,ho,r⟩,_⟩:=id I.loc;obtain ⟨sl,hL⟩:=u.any ho I.free (by simp)
 exact I.step (g':=s.gens) (d':=s.drawn) (ch:=[]) (λ _ z=>nomatch z) (λ b o _ hb _ e n=>u.keep b o e n hb (by simp)) (λ b o _ hb _ e n=>u.slot b o e n hb (by simp)) (λ b o _ e n=>u.free b o e n (by simp)) (λ b o _ e=>u.there b o e (by simp)) u.tups u.frzs u.tbls (λ m' hm=>by
  obtain ⟨o',es',ep',ho',r'⟩:=hm;rw [ho] at ho';cases ho';exact ⟨_,es',ep',hL,r'⟩) hok I.bare
theorem Inv.call {g':Array GenState} {t':Nat} {d':Drawn} {ch:List Addr} (I:Inv X pins σ H s) (u:Un (frs X.stack) ch H H' s.heap h') (hok:HOk X.prog X.w H' h') (hg:AllBare g')
  (hch:∀ b∈ch,(b∈X.ex\/X.s₀.heap.objs.size<=b)/\b≠X.env.locals/\(∀ x c,X.env.cells.lookup x=some c->c≠b)/\∀ p∈X.pn++pins,p.1≠b) :
  Inv X pins σ H' { s with heap:=h',gens:=g',drawn:=d',toks:=t' }:=by
 obtain ⟨m,⟨o,es,ep,ho,r⟩,_⟩:=id I.loc;obtain ⟨sl,hL⟩:=u.any ho I.free λ z=>(hch _ z).2.1 rfl
 exact I.step (ch:=ch) hch (λ b o hL hb hc e n=>u.keep b o e n (λ z=>(mem_cons.mp (I.stkSub b z)).elim hL hb) hc) (λ b o _ _ hc e n=>u.any e n hc) (λ b o hc e n=>u.free b o e n hc) (λ b o hc e=>u.there b o e hc) u.tups u.frzs u.tbls (λ m' hm=>by
  obtain ⟨o',es',ep',ho',r'⟩:=hm;rw [ho] at ho';cases ho';exact ⟨_,es',ep',hL,r'⟩) hok hg
theorem Inv.turned {t':Nat} {it:Addr} (I:Inv X pins σ H s) (k:∀ b o,b≠it->s.heap.get? b=some o->h'.get? b=some o) (hn:H it=none) (hL:it≠X.env.locals)
  (h1:it∈X.ex\/X.s₀.heap.objs.size<=it) (h2:∀ x c,X.env.cells.lookup x=some c->c≠it) (h3:∀ p∈X.pn++pins,p.1≠it):Inv X pins σ H { s with heap:=h',toks:=t' }:=by
 have nit:∀ b u,H b=some u->b≠it:=λ b u e z=>by rw [z,hn] at e;cases e
 refine I.step (g':=s.gens) (d':=s.drawn) (ch:=[it]) (λ b hb=>?_) (λ b o _ _ hc e _=>k b o (λ z=>hc (by simp [z])) e) (λ b o _ _ hc e _=>⟨o.slots,k b o (λ z=>hc (by simp [z])) e⟩) (λ _ _ _ _ n=>n)
  (λ b o hc e=>⟨o,k b o (λ z=>hc (by simp [z])) e⟩) (λ _ _ e=>e) (λ _ _ _ e=>e) (λ b ps e=>⟨#[],by rw [e];simp⟩) (λ m hm=>?_) (λ b u e=>?_) I.bare
 ·have e:b=it:=by simpa using hb
  subst e;exact ⟨h1,hL,h2,h3⟩
 ·obtain ⟨o,es,ep,ho,r⟩:=hm
  exact ⟨o,es,ep,k _ o (Ne.symm hL) ho,r⟩
 ·refine (I.hok b u e).stay (λ c v hc q=>k c v ?_ q) (λ _ q=>q) λ _ _ q=>q
  rcases hc with z | z
  ·rw [z];exact nit b u e
  ·exact nit c _ z
theorem Inv.tok (I:Inv X pins σ H s) (t:Nat):Inv X pins σ H { s with toks:=t }:=I.un (h':=s.heap) (t':=t) Un.refl I.hok
theorem Inv.kept {t':Nat} (I:Inv X pins σ H s) (k:∀ b u,s.heap.get? b=some u->h'.get? b=some u):Inv X pins σ H { s with heap:=h',toks:=t' }:=I.un (Un.kept k) (I.hok.kept k)
theorem Inv.laid {a:Addr} {o:HO} {t':Nat} (I:Inv X pins σ H s) (k:∀ b u,s.heap.get? b=some u->h'.get? b=some u) (hp:s.heap.objs.size<=a) (new:ObjOk X.prog X.w (upd H a o) h' a o) :
  Inv X pins σ (upd H a o) { s with heap:=h',toks:=t' }:=I.un (Un.laid k hp (I.hok.fresh hp)) (I.hok.laid k hp new)
theorem Inv.write {x e:Addr} {o:HO} {t':Nat} (I:Inv X pins σ H s) (mu:Mut (H x)) (he:e=x\/H e=some (.own x)) (k:∀ b u,b≠e->s.heap.get? b=some u->h'.get? b=some u) (heo:∃ u,h'.get? e=some u)
  (new:ObjOk X.prog X.w (upd H x o) h' x o):Inv X pins σ (upd H x o) { s with heap:=h',toks:=t' }:=I.un (Un.write mu he k heo) (I.hok.write mu he k heo new)
theorem Inv.pins_of {pins':List (Addr×Obj)} (I:Inv X pins σ H s) (h:∀ p∈pins',s.heap.get? p.1=some p.2/\H p.1=none/\p.1≠X.env.locals/\p.1∉X.fs/\∀ v,p.2.data≠.cell v):Inv X pins' σ H s :=
 ⟨I.ok,I.os,I.bare,I.base,I.loc,I.cell,I.free,I.freeC,λ p hp=>(mem_append.mp hp).elim (λ z=>I.pin p (mem_append_left _ z)) (h p),I.hok,I.len⟩
theorem rF {N:List Str} (hN:N.Nodup) {i j:Nat} {x:Str} (a:N[i]?=some x) (b:N[j]?=some x):i=j:=by
 obtain ⟨h1,e1⟩:=List.getElem?_eq_some_iff.mp a;obtain ⟨h2,e2⟩:=List.getElem?_eq_some_iff.mp b;exact (getElem_inj hN).mp (e1.trans e2.symm)
theorem bZ {M:Model} {A:Around} {E:Value->Shared->Prop} {i:Nat} {x:Str} {v:V} {u:Value} {Q:Unit->Shared->Prop} (I:Inv X pins σ H s) (hN:X.N.Nodup) (hi:X.N[i]?=some x) (hx:Loc X.env.scope x) (r:RelV v u)
  (h:∀ s',Inv X pins (σ.set i (some v)) H s'->(∃ a,Heap.SameBut a s.heap s'.heap/\(a=X.env.locals\/X.env.cells.lookup x=some a))->Q () s') (hf:X.fn x=true\/X.env.scope.names.lookup x=some .local:=by first | exact .inl rfl | exact .inr rfl | assumption):wpAny M A (storeName X.env x u) Q E s:=by
 obtain ⟨m,hn,hl⟩:=id I.loc;have hcls:(X.env.scope.kind == .class || (X.env.scope.kind == .module && X.env.locals != X.env.globals))=false:=by rw [I.ok.kind];rfl
 have hiσ:i<σ.length:=by rw [I.len];exact (List.getElem?_eq_some_iff.mp hi).1
 have cne:=I.cne
 have tracked:∀ {a:Addr} {h':Heap},(∃ o,s.heap.get? a=some o/\H a=none)->Heap.SameBut a s.heap h'->HOk X.prog X.w H h':=λ {a h'} ha hs b ob e=>by
  obtain ⟨_,_,hfree⟩:=ha;refine (I.hok b ob e).stay (λ c w' hc q=>(hs.2 c ?_).trans q) (λ _ q=>q) λ _ _ q=>q;rintro rfl;rcases hc with rfl | hc
  ·rw [hfree] at e;cases e
  ·rw [hfree] at hc;cases hc
 rcases hx with hk | hk
 ·refine wpAny_storeName_local hk hn (λ h' hn' hs=>?_) hcls
  obtain ⟨oL,_,_,hoL,_⟩:=id hn;refine h _ ⟨I.ok,I.os,I.bare,⟨λ b o e n hb hx=>?_,λ b o e n hb hx=>?_,I.base.free,λ b o e hx=>?_,I.base.tups,I.base.frzs,I.base.tbls⟩,⟨_,hn',λ j y v' e1 e2 e3=>?_⟩,λ y c e=>?_,I.free,I.freeC,λ p hp=>?_,tracked ⟨oL,hoL,I.free⟩ hs,by simpa using I.len⟩ ⟨_,hs,.inl rfl⟩
  ·exact (hs.2 b (Nat.ne_of_lt (Nat.lt_of_lt_of_le (Heap.lt_size e) I.ok.above))).trans (I.base.keep b o e n hb hx)
  ·obtain ⟨sl,e1⟩:=I.base.slot b o e n hb hx
   exact ⟨sl,(hs.2 b (Nat.ne_of_lt (Nat.lt_of_lt_of_le (Heap.lt_size e) I.ok.above))).trans e1⟩
  ·obtain ⟨o',e1⟩:=I.base.there b o e hx
   exact ⟨o',(hs.2 b (Nat.ne_of_lt (Nat.lt_of_lt_of_le (Heap.lt_size e) I.ok.above))).trans e1⟩
  ·by_cases hj:j=i
   ·subst hj
    rw [hi] at e1;cases e1;rw [List.getElem?_set_self hiσ] at e2;cases e2
    exact ⟨u,r,.inl ⟨hk,by simp⟩⟩
   ·rw [List.getElem?_set_ne (Ne.symm hj)] at e2
    obtain ⟨u',r',q⟩:=hl j y v' e1 e2 e3;refine ⟨u',r',?_⟩;rcases q with ⟨k,e⟩ | ⟨k,c,e,z⟩
    ·refine .inl ⟨k,?_⟩
     have:y≠x:=λ e=>hj (rF hN e1 (e ▸ hi));simp [this,e]
    ·exact .inr ⟨k,c,e,z.sameBut hs (cne y c e)⟩
  ·obtain ⟨w',z⟩:=I.cell y c e
   exact ⟨w',z.sameBut hs (cne y c e)⟩
  ·obtain ⟨e,n,ne,nf,d⟩:=I.pin p hp
   exact ⟨(hs.2 p.1 ne).trans e,n,ne,nf,d⟩
 ·have hfn:X.fn x=true:=by
   rcases hf with z | z
   ·exact z
   ·rw [z] at hk;cases hk
  obtain ⟨c,hc⟩:=I.ok.has x (.inl hk);obtain ⟨w',z⟩:=I.cell x c hc;refine wpAny_storeName_cell I.ok.kind hk hc z (λ h' hc' hs=>?_);obtain ⟨oc,hoc,hocd⟩:=id z;refine h { s with heap:=h' } ⟨I.ok,I.os,I.bare,⟨λ b o e n hb hx=>?_,λ b o e n hb hx=>?_,I.base.free,λ b o e hx=>?_,I.base.tups,I.base.frzs,I.base.tbls⟩,⟨m,hn.sameBut hs (Ne.symm (cne x c hc)),λ j y v' e1 e2 e3=>?_⟩,λ y c' e=>?_,I.free,I.freeC,λ p hp=>?_,tracked ⟨oc,hoc,I.freeC x c hc⟩ hs,by simpa using I.len⟩ ⟨c,hs,.inr hc⟩
  ·exact (hs.2 b (Nat.ne_of_lt (Nat.lt_of_lt_of_le (Heap.lt_size e) (I.ok.cab x c hfn hc)))).trans (I.base.keep b o e n hb hx)
  ·obtain ⟨sl,e1⟩:=I.base.slot b o e n hb hx
   exact ⟨sl,(hs.2 b (Nat.ne_of_lt (Nat.lt_of_lt_of_le (Heap.lt_size e) (I.ok.cab x c hfn hc)))).trans e1⟩
  ·obtain ⟨o',e1⟩:=I.base.there b o e hx
   exact ⟨o',(hs.2 b (Nat.ne_of_lt (Nat.lt_of_lt_of_le (Heap.lt_size e) (I.ok.cab x c hfn hc)))).trans e1⟩
  ·by_cases hj:j=i
   ·subst hj
    rw [hi] at e1;cases e1;rw [List.getElem?_set_self hiσ] at e2;cases e2
    exact ⟨u,r,.inr ⟨.inl hk,c,hc,hc'⟩⟩
   ·rw [List.getElem?_set_ne (Ne.symm hj)] at e2
    obtain ⟨u',r',q⟩:=hl j y v' e1 e2 e3;refine ⟨u',r',?_⟩;rcases q with q | ⟨k,c',e,z'⟩
    ·exact .inl q
    ·refine .inr ⟨k,c',e,z'.sameBut hs ?_⟩
     rintro rfl;exact hj (rF hN e1 (I.ok.inj _ _ _ e hc ▸ hi))
  ·by_cases hcc:c'=c
   ·subst hcc;exact ⟨_,hc'⟩
   ·obtain ⟨w2,z2⟩:=I.cell y c' e
    exact ⟨w2,z2.sameBut hs hcc⟩
  ·obtain ⟨e,n,ne,nf,d⟩:=I.pin p hp
   refine ⟨(hs.2 p.1 ?_).trans e,n,ne,nf,d⟩;intro q;rw [q,hoc] at e;have q':oc=p.2:=Option.some.inj e;exact d w' (by rw [<-q'];exact hocd)
theorem aV {M:Model} {A:Around} {E:Value->Shared->Prop} {i:Nat} {x:Str} {v:V} {u:Value} {Q:Unit->Shared->Prop} (I:Inv X pins σ H s) (hN:X.N.Nodup) (hi:X.N[i]?=some x) (hx:Loc X.env.scope x) (r:RelV v u)
  (h:∀ s',Inv X pins (σ.set i (some v)) H s'->Q () s') (hf:X.fn x=true\/X.env.scope.names.lookup x=some .local:=by first | exact .inl rfl | exact .inr rfl | assumption):wpAny M A (storeName X.env x u) Q E s :=
 bZ I hN hi hx r (λ s' I' _=>h s' I') hf
theorem Inv.call' {s':Shared} {ch:List Addr} (I:Inv X pins σ H s) (ho:s'.os=s.os) (u:Un (frs X.stack) ch H H' s.heap s'.heap) (hok:HOk X.prog X.w H' s'.heap) (hg:AllBare s'.gens)
  (hch:∀ b∈ch,(b∈X.ex\/X.s₀.heap.objs.size<=b)/\b≠X.env.locals/\(∀ x c,X.env.cells.lookup x=some c->c≠b)/\∀ p∈X.pn++pins,p.1≠b):Inv X pins σ H' s':=by
 obtain ⟨h',g',d',t',o'⟩:=s';have e:o'=s.os:=ho;subst e;exact I.call (g':=g') (t':=t') (d':=d') u hok hg hch
end
abbrev XK:=Value->Option Addr->Hp->Prop
abbrev St:=List (Option V)
abbrev VK:=V->Hp->Prop
abbrev TE:=St->Hp->VK->Prop
abbrev TT:=St->Hp->(Bool->Hp->Prop)->Prop
abbrev TA:=St->Hp->(List V->Hp->Prop)->Prop
structure Ends where
 nx:St->Hp->Prop
 rt:VK
 bk:St->Hp->Prop:=λ _ _=>False
 ct:St->Hp->Prop:=λ _ _=>False
abbrev TS:=Ends->St->Hp->Prop
def EP (X:Cx) (pins:List (Addr×Obj)) (σ:St) (Q:VK) (u:Value) (s':Shared):Prop:=∃ v H',Inv X pins σ H' s'/\RelV v u/\Q v H'
def TP (X:Cx) (pins:List (Addr×Obj)) (σ:St) (Q:Bool->Hp->Prop) (b:Bool) (s':Shared):Prop:=∃ H',Inv X pins σ H' s'/\Q b H'
def AP (X:Cx) (pins:List (Addr×Obj)) (σ:St) (Q:List V->Hp->Prop) (us:List Value) (s':Shared):Prop:=∃ vs H',Inv X pins σ H' s'/\Vals vs us/\Q vs H'
def SP (X:Cx) (pins:List (Addr×Obj)) (D:Ends) (f:Flow) (s':Shared):Prop :=
 match f with
 | .next=>∃ σ' H',Inv X pins σ' H' s'/\D.nx σ' H'
 | .brk=>∃ σ' H',Inv X pins σ' H' s'/\D.bk σ' H'
 | .cont=>∃ σ' H',Inv X pins σ' H' s'/\D.ct σ' H'
 | .ret u=>∃ v σ' H',Inv X pins σ' H' s'/\RelV v u/\D.rt v H'
def PE (X:Cx) (e:Expr) (t:TE):Prop :=
 ∀ (pins:List (Addr×Obj)) (s:Shared) (σ:St) (H:Hp) (Q:VK),Inv X pins σ H s->t σ H Q->wpAny (model X.prog X.w) X.A (eval e X.env) (EP X pins σ Q) X.xe s
def PT (X:Cx) (e:Expr) (t:TT):Prop :=
 ∀ (pins:List (Addr×Obj)) (s:Shared) (σ:St) (H:Hp) (Q:Bool->Hp->Prop),Inv X pins σ H s->t σ H Q->wpAny (model X.prog X.w) X.A (isTrue e X.env (eval e X.env)) (TP X pins σ Q) X.xe s
def PW (X:Cx) (e:Expr) (t:TT):Prop :=
 ∀ (vR:Sem Value) (pins:List (Addr×Obj)) (s:Shared) (σ:St) (H:Hp) (Q:Bool->Hp->Prop),Inv X pins σ H s->t σ H Q->wpAny (model X.prog X.w) X.A (isTrue e X.env vR) (TP X pins σ Q) X.xe s
theorem PW.pt {X:Cx} {e:Expr} {t:TT} (h:PW X e t):PT X e t:=h _
def PA (X:Cx) (es:List Expr) (t:TA):Prop :=
 ∀ (pos:Pos) (pins:List (Addr×Obj)) (s:Shared) (σ:St) (H:Hp) (Q:List V->Hp->Prop),Inv X pins σ H s->t σ H Q->wpAny (model X.prog X.w) X.A (spliced (backTo pos (starEach es X.env))) (AP X pins σ Q) X.xe s
def PS (X:Cx) (st:Stmt) (t:TS):Prop :=
 ∀ (pins:List (Addr×Obj)) (s:Shared) (σ:St) (H:Hp) (D:Ends),Inv X pins σ H s->t D σ H->wpAny (model X.prog X.w) X.A (exec st X.env) (SP X pins D) X.xe s
def PSs (X:Cx) (st:List Stmt) (t:TS):Prop :=
 ∀ (pins:List (Addr×Obj)) (s:Shared) (σ:St) (H:Hp) (D:Ends),Inv X pins σ H s->t D σ H->wpAny (model X.prog X.w) X.A (execs st X.env) (SP X pins D) X.xe s
theorem thn {α:Type} {t:Sem α} {Q Q':α->Shared->Prop} {M:Model} {A:Around} {E:Value->Shared->Prop} {s:Shared} (h:wpAny M A t Q E s) (hQ:∀ a s,Q a s->Q' a s):wpAny M A t Q' E s:=wpAny_mono h hQ λ _ _ x=>x
section
variable {X:Cx}
def kKM (i:Nat):TE:=λ σ H Q=>∃ v,σ[i]?=some (some v)/\Q v H
def tC (v:V):TE:=λ _ H Q=>Q v H
theorem kLB {i:Nat} {x:Str} {pos:Pos} (hN:X.N[i]?=some x) (hv:Vis X.env.scope x) (hd:(x == ("__debug__" : Str))=false:=by decide) (hcd:(x == ("__classdict__" : Str))=false:=by decide):PE X (.Name x pos) (kKM i):=by
 intro pins s σ H Q I h;obtain ⟨v,e,h⟩:=h;obtain ⟨m,hn,hl⟩:=I.loc;obtain ⟨u,r,l⟩:=hl i x v hN e hv;have fin:EP X pins σ Q u s:=⟨v,H,I,r,h⟩;rcases l with ⟨hk,hm⟩ | ⟨hk,c,hc,hcell⟩
 ·exact wpAny_Name (wpAny_loadName_local I.ok.kind hk hn hm fin) hd
 ·rcases hk with hk | hk
  ·exact wpAny_Name (wpAny_loadName_cell I.ok.kind hk hc hcell fin) hd
  ·exact wpAny_Name (wpAny_loadName_free I.ok.kind hk hc hcell fin hcd) hd
theorem kK {i j pos}:PE X (.Constant (.int i) j pos) (tC (.int i)):=λ _ _ _ H _ I h=>wpAny_Constant_int ⟨.int i,H,I.tok _,⟨_,rfl⟩,h⟩
theorem uW {b j pos}:PE X (.Constant (.bool b) j pos) (tC (.bl b)):=λ _ _ _ H _ I h=>Constant_bool ⟨.bl b,H,I,rfl,h⟩
theorem yR {j pos}:PE X (.Constant .none j pos) (tC .non):=λ _ _ _ H _ I h=>Constant_none ⟨.non,H,I,rfl,h⟩
def Gl (X:Cx) (x:Str):Prop:=X.env.kindOf x=some .globalImplicit
theorem kIZ {E:Value->Shared->Prop} {pins:List (Addr×Obj)} {s:Shared} {σ:St} {H:Hp} {x:Str} {u:Value} {pos:Pos} {Q:Value->Shared->Prop} (I:Inv X pins σ H s) (hg:Gl X x) (hm:X.mg x=some u) (h:Q u s)
  (hd:(x == ("__debug__" : Str))=false:=by decide):wpAny (model X.prog X.w) X.A (eval (.Name x pos) X.env) Q E s :=
 Calls.Name_function_global I.ok.kind hg (Calls.loadGlobal_global (by rw [I.ok.glob];exact I.mod.glob.keeps I.bk) hm h) hd
theorem vK {E:Value->Shared->Prop} {pins:List (Addr×Obj)} {s:Shared} {σ:St} {H:Hp} {x:Str} {u:Value} {pos:Pos} {Q:Value->Shared->Prop} (I:Inv X pins σ H s) (hg:Gl X x) (hm:X.mg x=none) (hv:bootBuiltins x=some u) (h:Q u s)
  (hn:x≠"__name__":=by decide) (hd:(x == ("__debug__" : Str))=false:=by decide):wpAny (model X.prog X.w) X.A (eval (.Name x pos) X.env) Q E s:=by
 obtain ⟨mb,h1,h2⟩:=I.mod.blt;exact Calls.Name_function_global I.ok.kind hg (Calls.loadGlobal_builtin (by rw [I.ok.glob];exact I.mod.glob.keeps I.bk) hm (by rw [I.ok.blt];exact h1.keeps I.bk) ((h2 x hn).trans hv) h) hd
theorem bD {x:Str} {v:V} {u:Value} {pos:Pos} (hg:Gl X x) (hm:X.mg x=none) (hv:bootBuiltins x=some u) (r:RelV v u) (hn:x≠"__name__":=by decide) (hd:(x == ("__debug__" : Str))=false:=by decide):PE X (.Name x pos) (tC v) :=
 λ _ _ _ H _ I h=>vK I hg hm hv ⟨v,H,I,r,h⟩ hn hd
variable {a b:Expr} {ta tb:TE} {pos:Pos}
def PC (X:Cx) (op:CmpOp) (a b:Expr) (t:TE):Prop :=
 ∀ (pins:List (Addr×Obj)) (s:Shared) (σ:St) (H:Hp) (Q:VK),Inv X pins σ H s->t σ H Q ->
  wpAny (model X.prog X.w) X.A (eval a X.env) (λ v s₁=>wpAny (model X.prog X.w) X.A (eval b X.env) (λ u s₂=>wpAny (model X.prog X.w) X.A (compareOp op v u) (EP X pins σ Q) X.xe s₂) X.xe s₁) X.xe s
def tB (t:TE):TT:=λ σ H Q=>t σ H λ x H1=>∃ c,x=.bl c/\Q c H1
theorem kKY {op:CmpOp} {t:TE} (h:PC X op a b t) (h1:behindInMarks op b=false:=by first | exact nobehind _ (by decide) (by decide) | rfl):PT X (.Compare a [op] [b] pos) (tB t):=by
 intro pins s σ H Q I hw;refine wpAny_isTrue_Compare1 (thn (h pins s σ H _ I hw) λ v s1 h1=>thn h1 λ u s2 h2=>thn h2 λ c s3 ⟨x,H1,I1,r1,q1⟩=>?_) h1;obtain ⟨d,rfl,q⟩:=q1;cases r1
 exact wpAny_truthy_bool ⟨H1,I1,q⟩
theorem vC {e:Expr} {t:TE} (h:PE X e t) (he:∀ vR,isTrue e X.env vR=(do let v <-vR;standAt e.pos;holding [v] (truthy v)):=by intro _;rfl):PT X e (tB t):=by
 intro pins s σ H Q I hw;refine isTrue_plain (thn (h pins s σ H _ I hw) λ v s1 ⟨x,H1,I1,r1,q1⟩=>?_) (he _);obtain ⟨d,rfl,q⟩:=q1;cases r1
 exact wpAny_truthy_bool ⟨H1,I1,q⟩
variable {tA tB':TT} {rest:List Expr}
def tOr (t u:TT):TT:=λ σ H Q=>t σ H λ c H1=>if c=true then Q true H1 else u σ H1 Q
def kNZ (t:TT):TT:=λ σ H Q=>t σ H λ c H1=>Q (!c) H1
theorem aE (ha:PT X a tA):PW X (.BoolOp .Or [a] pos) tA:=by
 intro wh pins s σ H Q I h;refine isTrue_or (thn (ha pins s σ H Q I h) λ c s1 e=>?_)
 cases c with
 | false=>exact isTrue_or_nil e
 | true=>exact e
theorem uV (ha:PT X a tA) (hb:PW X (.BoolOp .Or (b::rest) pos) tB'):PW X (.BoolOp .Or (a::b::rest) pos) (tOr tA tB'):=by
 intro wh pins s σ H Q I h;refine isTrue_or (thn (ha pins s σ H _ I h) λ c s1 ⟨H1,I1,q1⟩=>?_)
 cases c with
 | true=>exact ⟨H1,I1,q1⟩
 | false=>exact hb wh pins s1 σ H1 Q I1 q1
theorem uA (ha:PT X a tA):PT X (.UnaryOp .Not a pos) (kNZ tA):=by
 intro pins s σ H Q I h;exact isTrue_not (ha pins s σ H (λ c H1=>Q (!c) H1) I h)
def kMM (ta tb:TE):TE:=λ σ H Q=>ta σ H λ x H1=>∃ c,x=.bl c/\if c=true then tb σ H1 Q else Q (.bl false) H1
def kMI (ta:TE):TE:=λ σ H Q=>ta σ H λ x H1=>∃ c,x=.bl c/\Q (.bl (!c)) H1
theorem tH {op} {t:TE} (h:PE X a t):PE X (.BoolOp op [a] pos) t:=λ pins s σ H Q I hw=>BoolOp_one (h pins s σ H Q I hw)
theorem gB (ha:PE X a ta) (hb:PE X (.BoolOp .And (b::rest) pos) tb):PE X (.BoolOp .And (a::b::rest) pos) (kMM ta tb):=by
 intro pins s σ H Q I h;refine BoolOp_and (thn (ha pins s σ H _ I h) λ v s1 ⟨x,H1,I1,r1,q1⟩=>?_);obtain ⟨c,rfl,q1⟩:=q1;cases r1
 refine wpAny_truthy_bool ?_
 cases c with
 | true=>exact hb pins s1 σ H1 Q I1 q1
 | false=>exact ⟨.bl false,H1,I1,rfl,q1⟩
theorem kLC (ha:PE X a ta):PE X (.UnaryOp .Not a pos) (kMI ta):=by
 intro pins s σ H Q I h;refine UnaryOp_ (thn (ha pins s σ H _ I h) λ v s1 ⟨x,H1,I1,r1,q1⟩=>?_);obtain ⟨c,rfl,q1⟩:=q1;cases r1
 exact not_of (wpAny_truthy_bool ⟨.bl (!c),H1,I1,rfl,q1⟩)
def tIf (t:TT) (ta tb:TE):TE:=λ σ H Q=>t σ H λ c H1=>if c=true then ta σ H1 Q else tb σ H1 Q
theorem kFP {c:Expr} (hc:PT X c tA) (ha:PE X a ta) (hb:PE X b tb):PE X (.IfExp c a b pos) (tIf tA ta tb):=by
 intro pins s σ H Q I h;refine wpAny_IfExp (thn (hc pins s σ H _ I h) λ d s1 ⟨H1,I1,q1⟩=>?_)
 cases d with
 | true=>exact ha pins s1 σ H1 Q I1 q1
 | false=>exact hb pins s1 σ H1 Q I1 q1
end
def SqL (K:PySem.W.Frag) (H:Hp) (a:Addr) (xs:List V):Prop :=
 Rd H a (.lst xs) \/
  ∃ (o:Obj) (its:Array Value) (n:Nat),K.lookup a=some o/\o.cls=.type "list"/\o.dict=none/\o.data=.seq its n/\its.size<=sizeLine/\Vals xs its.toList
def SqT (K:PySem.W.Frag) (H:Hp) (a:Addr) (xs:List V):Prop :=
 Rd H a (.tup xs) \/
  ∃ (o:Obj) (its:Array Value) (n:Nat),K.lookup a=some o/\o.cls=.type "tuple"/\o.data=.seq its n/\its.size<=sizeLine/\Vals xs its.toList
def kOO:Value->Option V
 | .none=>some .non
 | .bool b=>some (.bl b)
 | .int i _=>some (.int i)
 | .str x _=>some (.str x)
 | .bytes b _=>some (.byt b)
 | .float b _=>some (.flt b)
 | .ref a=>some (.ref a)
 | .type n=>some (.ty n)
 | _=>none
theorem RelV.abs {x:V} {u:Value} (r:RelV x u):kOO u=some x:=by
 cases x with
 | non=>cases r;rfl
 | bl _=>cases r;rfl
 | int _=>obtain ⟨t,rfl⟩:=r;rfl
 | str _=>obtain ⟨t,rfl⟩:=r;rfl
 | byt _=>obtain ⟨t,rfl⟩:=r;rfl
 | flt _=>obtain ⟨t,rfl⟩:=r;rfl
 | ref _=>cases r;rfl
 | ty _=>cases r;rfl
theorem RelV.inj {x y:V} {u:Value} (r:RelV x u) (q:RelV y u):x=y:=Option.some.inj (r.abs.symm.trans q.abs)
theorem Vals.inj:∀ {xs ys:List V} {us:List Value},Vals xs us->Vals ys us->xs=ys
 | _,_,_,.nil,.nil=>rfl
 | _,_,_,.cons r t,.cons r' t'=>by rw [r.inj r',Vals.inj t t']
section
variable {X:Cx} {pins:List (Addr×Obj)} {σ:St} {H:Hp} {s:Shared} {a:Addr} {xs ys:List V}
theorem SqL.of {K:PySem.W.Frag} (h:H a=some (.lst xs)):SqL K H a xs:=.inl (.inl h)
theorem SqT.of {K:PySem.W.Frag} (h:H a=some (.tup xs)):SqT K H a xs:=.inl (.inl h)
theorem Inv.list (I:Inv X pins σ H s) (h:SqL X.K H a xs):∃ its:List Value,Vals xs its/\PlainL s.heap a its.toArray/\xs.length<=sizeLine:=by
 rcases h with h | ⟨o,its,n,hk,hc,hd,hs,hz,r⟩
 ·obtain ⟨z,its,n,r,e⟩:=h.ok I.hok
  exact ⟨its,r,⟨_,n,e,rfl,rfl,rfl⟩,z⟩
 ·refine ⟨its.toList,r,⟨o,n,I.kIn a o hk,hc,hd,by simpa using hs⟩,?_⟩
  have e:=r.length;simp only [Array.length_toList] at e;omega
theorem Inv.tuple (I:Inv X pins σ H s) (h:SqT X.K H a xs):∃ its:List Value,Vals xs its/\IsTup s.heap a its.toArray/\xs.length<=sizeLine:=by
 rcases h with h | ⟨o,its,n,hk,hc,hs,hz,r⟩
 ·obtain ⟨z,its,r,p⟩:=h.ok I.hok
  exact ⟨its,r,p.isTup,z⟩
 ·refine ⟨its.toList,r,⟨o,I.kIn a o hk,hc,n,by simpa using hs⟩,?_⟩
  have e:=r.length;simp only [Array.length_toList] at e;omega
theorem Inv.list_inj (I:Inv X pins σ H s) (h:SqL X.K H a xs) (h':SqL X.K H a ys):xs=ys:=by
 obtain ⟨its,r,⟨o,n,e,_,_,d⟩,_⟩:=I.list h;obtain ⟨its',r',⟨o',n',e',_,_,d'⟩,_⟩:=I.list h';rw [e] at e';cases e';rw [d] at d';injection d' with d1 _
 have:its=its':=by simpa using congrArg Array.toList d1
 subst this;exact r.inj r'
theorem Inv.tuple_inj (I:Inv X pins σ H s) (h:SqT X.K H a xs) (h':SqT X.K H a ys):xs=ys:=by
 obtain ⟨its,r,⟨o,e,_,n,d⟩,_⟩:=I.tuple h;obtain ⟨its',r',⟨o',e',_,n',d'⟩,_⟩:=I.tuple h';rw [e] at e';cases e';rw [d] at d';injection d' with d1 _
 have:its=its':=by simpa using congrArg Array.toList d1
 subst this;exact r.inj r'
end
abbrev Cx.wish (X:Cx) (E:Value->Shared->Prop):Cx:={ X with xe:=E }
abbrev Cx.nox (X:Cx):Cx:=X.wish λ _ _=>False
theorem Cx.Ok.wish {X:Cx} (ok:X.Ok) (E:Value->Shared->Prop):(X.wish E).Ok :=
 ⟨ok.mod,ok.kind,ok.glob,ok.blt,ok.above,ok.inj,ok.has,ok.cab,ok.hd,ok.frames,ok.stk,ok.exf,ok.bs,ok.bsz,ok.noex,ok.exfs,ok.funs,ok.frf⟩
theorem Cx.Ok.unwish {X:Cx} {E:Value->Shared->Prop} (ok:(X.wish E).Ok):X.Ok :=
 ⟨ok.mod,ok.kind,ok.glob,ok.blt,ok.above,ok.inj,ok.has,ok.cab,ok.hd,ok.frames,ok.stk,ok.exf,ok.bs,ok.bsz,ok.noex,ok.exfs,ok.funs,ok.frf⟩
section
variable {X:Cx} {pins:List (Addr×Obj)} {σ:St} {H:Hp} {s:Shared} {E:Value->Shared->Prop}
theorem Inv.wish (I:Inv X pins σ H s) (E:Value->Shared->Prop):Inv (X.wish E) pins σ H s:=⟨I.ok.wish E,I.os,I.bare,I.base,I.loc,I.cell,I.free,I.freeC,I.pin,I.hok,I.len⟩
theorem Inv.unwish (I:Inv (X.wish E) pins σ H s):Inv X pins σ H s:=⟨I.ok.unwish,I.os,I.bare,I.base,I.loc,I.cell,I.free,I.freeC,I.pin,I.hok,I.len⟩
theorem SP.unwish {D:Ends} {f:Flow} {s':Shared} (h:SP (X.wish E) pins D f s'):SP X pins D f s':=by
 cases f with
 | next=>obtain ⟨σ',H',I,q⟩:=h;exact ⟨σ',H',I.unwish,q⟩
 | brk=>obtain ⟨σ',H',I,q⟩:=h;exact ⟨σ',H',I.unwish,q⟩
 | cont=>obtain ⟨σ',H',I,q⟩:=h;exact ⟨σ',H',I.unwish,q⟩
 | ret u=>obtain ⟨v,σ',H',I,r,q⟩:=h;exact ⟨v,σ',H',I.unwish,r,q⟩
theorem PSs.nox {st:List Stmt} {t:TS} (h:PSs X.nox st t):PSs X st t:=λ pins s σ H D I hw =>
 wpAny_mono (h pins s σ H D (I.wish _) hw) (λ _ _ q=>q.unwish) λ _ _ z=>False.elim z
end
section
variable {X:Cx} {st:Stmt} {rest:List Stmt} {t u:TS} {e:Expr} {te:TE} {pos:Pos}
def kMK:TS:=λ D σ H=>D.nx σ H
def kNV (t u:TS):TS:=λ D σ H=>t { D with nx:=u D } σ H
theorem qQ:PSs X [] kMK:=λ _ _ σ H _ I h=>wpAny_execs_nil ⟨σ,H,I,h⟩
theorem kF (h1:PS X st t) (h2:PSs X rest u):PSs X (st::rest) (kNV t u):=by
 intro pins s σ H D I h;refine wpAny_execs_cons (thn (h1 pins s σ H { D with nx:=u D } I h) λ f s1 q=>?_)
 cases f with
 | next =>
  obtain ⟨σ',H',I',q⟩:=q;exact h2 pins s1 σ' H' D I' q
 | ret v=>exact q
 | brk=>exact q
 | cont=>exact q
theorem kM (h1:PS X st t):PSs X [st] t:=by
 intro pins s σ H D I h;refine wpAny_execs_cons (thn (h1 pins s σ H D I h) λ f s1 q=>?_)
 cases f with
 | next=>exact wpAny_execs_nil q
 | ret v=>exact q
 | brk=>exact q
 | cont=>exact q
theorem Inv.quiet {pins:List (Addr×Obj)} {σ:St} {H:Hp} {s:Shared} (I:Inv X pins σ H s):interactive X.env=false:=by simp [interactive,I.ok.kind]
def kML (te:TE):TS:=λ D σ H=>te σ H λ _ H1=>D.nx σ H1
theorem jE (he:PE X e te) (hs:swapsWith e none pos.line X.env=pure false:=by rfl):PS X (.Expr e pos) (kML te):=by
 intro pins s σ H D I h;exact wpAny_Expr_any (thn (he pins s σ H _ I h) λ v s1 ⟨x,H1,I1,r1,q1⟩=>⟨σ,H1,I1,q1⟩) I.quiet hs
def kNX (te:TE):TS:=λ D σ H=>te σ H D.rt
theorem kX (he:PE X e te):PS X (.Return (some e) pos) (kNX te):=by
 intro pins s σ H D I h;exact wpAny_Return_some (thn (he pins s σ H _ I h) λ v s1 ⟨x,H1,I1,r1,q1⟩=>⟨x,σ,H1,I1,r1,q1⟩)
def kOB (c:TT) (t u:TS):TS:=λ D σ H=>c σ H λ b H1=>if b=true then t D σ H1 else u D σ H1
theorem xE {c:Expr} {a b:List Stmt} {tc:TT} (hc:PT X c tc) (ha:PSs X a t) (hb:PSs X b u):PS X (.If c a b pos) (kOB tc t u):=by
 intro pins s σ H D I h;refine wpAny_If (thn (hc pins s σ H _ I h) λ d s1 ⟨H1,I1,q1⟩=>?_)
 cases d with
 | true=>exact ha pins s1 σ H1 D I1 q1
 | false=>exact hb pins s1 σ H1 D I1 q1
end
abbrev TG:=V->St->Hp->(St->Hp->Prop)->Prop
abbrev TGs:=List V->St->Hp->(St->Hp->Prop)->Prop
def PG (X:Cx) (target:Expr) (t:TG):Prop :=
 ∀ (pins:List (Addr×Obj)) (s:Shared) (σ:St) (H:Hp) (v:V) (u:Value) (Q:St->Hp->Prop),Inv X pins σ H s->RelV v u->t v σ H Q ->
  wpAny (model X.prog X.w) X.A (assign target X.env u) (λ _ s'=>∃ σ' H',Inv X pins σ' H' s'/\Q σ' H') X.xe s
def PGs (X:Cx) (ts:List Expr) (t:TGs):Prop :=
 ∀ (pins:List (Addr×Obj)) (s:Shared) (σ:St) (H:Hp) (vs:List V) (us:List Value) (Q:St->Hp->Prop),Inv X pins σ H s->Vals vs us->t vs σ H Q ->
  wpAny (model X.prog X.w) X.A (assignInOrder ((assignEach ts X.env).map (·.2)) us) (λ _ s'=>∃ σ' H',Inv X pins σ' H' s'/\Q σ' H') X.xe s
abbrev kMB:=V->V->V->Hp->(Hp->Prop)->Prop
def kNT (X:Cx) (t:kMB):Prop :=
 ∀ (pins:List (Addr×Obj)) (s:Shared) (σ:St) (H:Hp) (o i v:V) (ov iv u:Value) (Q:Hp->Prop),Inv X pins σ H s->RelV o ov->RelV i iv->RelV v u->t o i v H Q ->
  wpAny (model X.prog X.w) X.A (setItem ov iv u) (λ _ s'=>∃ H',Inv X pins σ H' s'/\Q H') X.xe s
section
variable {X:Cx} {pos:Pos}
def rT (i:Nat):TG:=λ v σ H Q=>Q (σ.set i (some v)) H
theorem kR {i:Nat} {x:Str} (hN:X.N.Nodup) (hi:X.N[i]?=some x) (hx:Loc X.env.scope x) (hf:X.fn x=true\/X.env.scope.names.lookup x=some .local:=by first | exact .inl rfl | exact .inr rfl | assumption):PG X (.Name x pos) (rT i):=by
 intro pins s σ H v u Q I r h;exact wpAny_assign_Name (aV I hN hi hx r (λ s' I'=>⟨_,H,I',h⟩) hf)
def kOL:TGs:=λ vs σ H Q=>vs=[]/\Q σ H
def kNF (t:TG) (u:TGs):TGs:=λ vs σ H Q=>∃ v r,vs=v::r/\t v σ H λ σ' H'=>u r σ' H' Q
theorem xB:PGs X [] kOL:=by
 intro pins s σ H vs us Q I r h;obtain ⟨e,h⟩:=h;subst e;cases r
 exact assignInOrder_nil ⟨σ,H,I,h⟩
theorem qC {e:Expr} {es:List Expr} {t:TG} {u:TGs} (h1:PG X e t) (h2:PGs X es u)
  (hs:(assignEach (e::es) X.env).map (·.2)=assign e X.env::(assignEach es X.env).map (·.2):=by rfl):PGs X (e::es) (kNF t u):=by
 intro pins s σ H vs us Q I r h;obtain ⟨v,vr,e1,h⟩:=h;subst e1
 cases r with
 | cons r rr =>
  rw [hs];refine assignInOrder_cons (thn (h1 pins s σ H _ _ _ I r h) λ _ s1 ⟨σ1,H1,I1,q1⟩=>?_);exact h2 pins s1 σ1 H1 _ _ Q I1 rr q1
def kGP (K:PySem.W.Frag) (n:Nat) (t:TGs):TG:=λ v σ H Q=>∃ a xs,v=.ref a/\SqT K H a xs/\xs.length=n/\t xs σ H Q
theorem yQ {es:List Expr} {k:Nat} {t:TGs} {n:Nat} (hc:X.calm=true) (h:PGs X es t)
  (hn:(assignEach es X.env).length=n:=by rfl) (hst:(assignEach es X.env).findIdx? (·.1)=none:=by rfl):PG X (.Tuple es k pos) (kGP X.K n t):=by
 intro pins s σ H v u Q I r hw;obtain ⟨a,xs,e1,hq,hl,hw⟩:=hw;subst e1;cases r
 obtain ⟨its,rv,ht,hz⟩:=I.tuple hq;refine assign_Tuple_tuple (I.ok.hd hc) ht (by simp [hn,<-hl,rv.length]) hst λ h' hx=>?_;have I1:Inv X pins σ H { s with heap:=h' }:=I.kept (t':=s.toks) λ b o e=>hx b o (Nat.ne_of_lt (Heap.lt_size e)) e
 exact h pins _ σ H xs _ Q I1 (by simpa using rv) hw
def kOK (to ti:TE) (t:kMB):TG:=λ v σ H Q=>to σ H λ o H1=>ti σ H1 λ i H2=>t o i v H2 λ H3=>Q σ H3
theorem tF {o i:Expr} {to ti:TE} {t:kMB} (ho:PE X o to) (hi:PE X i ti) (hs:kNT X t)
  (ha:∀ v,assign (.Subscript o i pos) X.env v=(do
   let ov <-holding [v] (eval o X.env)
   let iv <-holding [v,ov] (eval i X.env)
   standAt pos
   holding [v,ov,iv] (setItem ov iv v)
   release [v,ov,iv] []):=by intro _;rfl):PG X (.Subscript o i pos) (kOK to ti t):=by
 intro pins s σ H v u Q I r h;rw [ha];refine wpAny_bind (wpAny_holding (thn (ho pins s σ H _ I h) λ ov s1 ⟨x,H1,I1,r1,q1⟩=>?_));refine wpAny_bind (wpAny_holding (thn (hi pins s1 σ H1 _ I1 q1) λ iv s2 ⟨y,H2,I2,r2,q2⟩=>?_));refine wpAny_bind (wpAny_standAt (wpAny_bind (wpAny_holding (thn (hs pins s2 σ H2 x y v ov iv u _ I2 r1 r2 r q2) λ _ s3 ⟨H3,I3,q3⟩=>?_))));exact wpAny_release ⟨σ,H3,I3,q3⟩
def kHR (te:TE) (g:TG):TS:=λ D σ H=>te σ H λ x H1=>g x σ H1 D.nx
theorem vD {tg e:Expr} {te:TE} {g:TG} (he:PE X e te) (hg:PG X tg g) (hs:swapsWithSole [tg] e pos.line X.env=pure false:=by rfl) (hw:swappedStores [tg] e X.env=pure none:=by rfl)
  (h1:(assignEach [tg] X.env).map (·.2)=[assign tg X.env]:=by rfl):PS X (.Assign [tg] e pos) (kHR te g):=by
 intro pins s σ H D I h;refine wpAny_Assign_stores (thn (he pins s σ H _ I h) λ v s1 ⟨x,H1,I1,r1,q1⟩=>?_) hs hw;rw [h1];exact thn (hg pins s1 σ H1 x v _ I1 r1 q1) λ _ s2 q=>q
theorem kT {i:Nat} {x:Str} {e:Expr} {te:TE} {pos':Pos} (hN:X.N.Nodup) (hi:X.N[i]?=some x) (hx:Loc X.env.scope x) (he:PE X e te) (hs:swapsWith e (some (.Name x pos')) pos.line X.env=pure false:=by rfl) (hf:X.fn x=true\/X.env.scope.names.lookup x=some .local:=by first | exact .inl rfl | exact .inr rfl | assumption) :
  PS X (.Assign [.Name x pos'] e pos) (kHR te (rT i)):=by
 intro pins s σ H D I h;refine wpAny_Assign_Name (thn (he pins s σ H _ I h) λ v s1 ⟨y,H1,I1,r1,q1⟩=>?_) hs;exact aV I1 hN hi hx r1 (λ s2 I2=>⟨_,H1,I2,q1⟩) hf
def kNY (i j:Nat) (ta:TA):TS:=λ D σ H=>ta σ H λ vs H1=>∃ v w,vs=[v,w]/\D.nx ((σ.set i (some v)).set j (some w)) H1
theorem kKZ {i j:Nat} {x y:Str} {a b:Expr} {ta:TA} {px py pt:Pos} {kt k2 pt2} (hc:X.calm=true) (hN:X.N.Nodup) (hi:X.N[i]?=some x) (hj:X.N[j]?=some y) (hij:i≠j)
  (hx:X.env.scope.names.lookup x=some .local) (hy:X.env.scope.names.lookup y=some .local) (ha:PA X [a,b] ta)
  (hw:swappedStores [.Tuple [.Name x px,.Name y py] kt pt] (.Tuple [a,b] k2 pt2) X.env=pure (some [x,y]))
  (hs:swapsWithSole [.Tuple [.Name x px,.Name y py] kt pt] (.Tuple [a,b] k2 pt2) pos.line X.env=pure false:=by rfl) :
  PS X (.Assign [.Tuple [.Name x px,.Name y py] kt pt] (.Tuple [a,b] k2 pt2) pos) (kNY i j ta):=by
 intro pins s σ H D I h;rw [exec_Assign_arm];refine wpAny_bind (wpAny_standAt ?_);rw [hs];refine wpAny_bind (wpAny_pure ?_);rw [if_neg (by decide)];refine wpAny_bind (Tuple_ (thn (ha _ pins s σ H _ I h) λ us s1 ⟨vs,H1,I1,r1,q1⟩=>?_));obtain ⟨v,w,e1,q1⟩:=q1;subst e1
 obtain ⟨u1,u2,rfl,rv,rw'⟩ : ∃ u1 u2,us=[u1,u2]/\RelV v u1/\RelV w u2:=by
  cases r1 with
  | cons p q =>
   cases q with
   | cons p' q' =>
    cases q'
    exact ⟨_,_,rfl,p,p'⟩
 refine wpAny_newObj_type ?_ L2.y2;have I2:Inv X pins σ H1 { s1 with heap:=s1.heap.push { cls:=.type "tuple",data:=.seq [u1,u2].toArray } }:=I1.kept (t':=s1.toks) λ b o e=>Heap.get?_push_of_some _ e
 rw [hw];refine wpAny_bind (wpAny_pure ?_);show wpAny (model X.prog X.w) X.A (do rule "assign.swapped-stores";let items <-unpackItems (.ref s1.heap.objs.size) 2 none;assignInOrder [λ v=>bindName X.env y v,λ v=>bindName X.env x v] items.reverse;pure Flow.next) _ _ _;refine wpAny_bind (wpAny_rule (wpAny_bind (unpackItems_tuple (items:=#[u1,u2]) (I.ok.hd hc) (IsTup.new s1.heap _) λ h' hx'=>?_)));have I3:=I2.kept (h':=h') (t':=s1.toks) λ b o e=>hx' b o (Nat.ne_of_lt (Heap.lt_size e)) e;show wpAny _ _ (assignInOrder [λ v=>bindName X.env y v,λ v=>bindName X.env x v] [u2,u1] >>= λ _=>pure Flow.next) _ _ _;refine wpAny_bind (assignInOrder_cons (wpAny_bindName (aV I3 hN hj (.inl hy) rw' (λ s2 I4=>?_) (.inr hy))));refine assignInOrder_cons (wpAny_bindName (aV I4 hN hi (.inl hx) rv (λ s3 I5=>assignInOrder_nil (wpAny_pure ?_)) (.inr hx)));rw [List.set_comm _ _ (Ne.symm hij)] at I5;exact ⟨_,H1,I5,q1⟩
def kEP (c:TT) (tb:TS):TS:=λ D σ H=>∃ W:Nat->St->Hp->Prop,(∃ m,W m σ H)/\∀ m σ H,W m σ H ->
 c σ H λ b H1=>if b=true then ∃ N:St->Hp->Prop,(∀ σ' H',N σ' H'->∃ m',m'<m/\W m' σ' H')/\tb { D with nx:=N,ct:=N,bk:=D.nx } σ H1 else D.nx σ H1
theorem pW {c:Expr} {body:List Stmt} {tc:TT} {tb:TS} (hp:PassesOwn (model X.prog X.w) X.A X.env X.xe) (hc:PT X c tc) (hb:PSs X body tb):PS X (.While c body [] pos) (kEP tc tb):=by
 intro pins s σ H D I h;obtain ⟨W,⟨m0,w0⟩,turn⟩:=h;refine wpAny_While (codeAny_whileLoop (λ n s'=>∃ σ' H',Inv X pins σ' H' s'/\W n σ' H') ?_ m0 ⟨σ,H,I,w0⟩);rintro n s1 ⟨σ1,H1,I1,w1⟩;refine wpAny_passesOwn hp (thn (hc pins s1 σ1 H1 _ I1 (turn n σ1 H1 w1)) λ b s2 ⟨H2,I2,q2⟩=>?_)
 cases b with
 | true =>
  obtain ⟨N,hN,q2⟩:=q2;rw [if_pos rfl];refine wpAny_passesOwn hp (thn (hb pins s2 σ1 H2 _ I2 q2) λ f s3 q3=>?_)
  cases f with
  | next =>
   obtain ⟨σ3,H3,I3,n3⟩:=q3;obtain ⟨m',hm,w3⟩:=hN σ3 H3 n3;exact ⟨m',hm,σ3,H3,I3,w3⟩
  | cont =>
   obtain ⟨σ3,H3,I3,n3⟩:=q3;obtain ⟨m',hm,w3⟩:=hN σ3 H3 n3;exact ⟨m',hm,σ3,H3,I3,w3⟩
  | brk=>exact q3
  | ret v=>exact q3
 | false =>
  rw [if_neg Bool.false_ne_true];exact wpAny_execs_nil ⟨σ1,H2,I2,q2⟩
end
structure It where
 go:Nat->Hp->Prop
 yld:Nat->Hp->V->Hp->Prop
 stop:Nat->Hp->Prop
def zE (X:Cx) (pins:List (Addr×Obj)) (H:Hp) (b:Addr):Prop :=
 H b=none/\b≠X.env.locals/\b∉X.fs/\(b∈X.ex\/X.s₀.heap.objs.size<=b)/\(∀ x c,X.env.cells.lookup x=some c->c≠b)/\∀ p∈X.pn++pins,p.1≠b
theorem Inv.fpOk {X:Cx} {pins:List (Addr×Obj)} {σ:St} {H H':Hp} {s:Shared} {b:Addr} (I:Inv X pins σ H s) (hb:s.heap.objs.size<=b) (hn:H' b=none):zE X pins H' b:=by
 refine ⟨hn,Nat.ne_of_gt (Nat.lt_of_lt_of_le I.lt hb),I.nofs hb,.inr (Nat.le_trans I.sz hb),λ x c e z=>?_,λ p hp z=>?_⟩
 ·obtain ⟨v,q⟩:=I.cell x c e
  exact absurd (Nat.lt_of_lt_of_le q.lt (by rw [z];exact hb)) (Nat.lt_irrefl _)
 ·exact absurd (Nat.lt_of_lt_of_le (Heap.lt_size (I.pin p hp).1) (by rw [z];exact hb)) (Nat.lt_irrefl _)
structure Turn (P:Program) (w:World) (K:PySem.W.Frag) (tg:Expr) (J:It) (fp:List Addr) (it:Addr) (tn:Nat->Heap->Prop):Prop where
 mem:it∈fp
 obj:∀ i h,tn i h->∀ b∈fp,∃ o,h.get? b=some o/\∀ v,o.data≠.cell v
 keep:∀ i h h',tn i h->(∀ b∈fp,∀ o,h.get? b=some o->h'.get? b=some o)->tn i h'
 item:∀ (X:Cx),X.prog=P->X.w=w->X.K=K->X.calm=true->∀ (i:Nat) (pins:List (Addr×Obj)) (s:Shared) (σ:St) (H:Hp) (E:Value->Shared->Prop),Inv X pins σ H s->(∀ b∈fp,zE X pins H b)->tn i s.heap->J.go i H ->
  wpAny (model P w) X.A (pyNext (.ref it)) (λ r s1=>∃ u,r=some u /\
   wpAny (model P w) X.A (letOwnedTupleGo tg (.ref it) u) (λ _ s2=>∃ x H',Inv X pins σ H' s2/\RelV x u/\J.yld i H x H'/\tn (i+1) s2.heap/\∀ b∈fp,H' b=none) E s1) E s
 done:∀ (X:Cx),X.prog=P->X.w=w->X.K=K->X.calm=true->∀ (i:Nat) (pins:List (Addr×Obj)) (s:Shared) (σ:St) (H:Hp) (E:Value->Shared->Prop),Inv X pins σ H s->(∀ b∈fp,zE X pins H b)->tn i s.heap->J.stop i H ->
  wpAny (model P w) X.A (pyNext (.ref it)) (λ r s1=>r=none/\Inv X pins σ H s1) E s
 self:∀ (A:Around) (i:Nat) (s:Shared) (Q:Value->Shared->Prop) (E:Value->Shared->Prop),tn i s.heap->Q (.ref it) s->wpAny (model P w) A (pyIter (.ref it)) Q E s
abbrev TI:=St->Hp->(It->Hp->Prop)->Prop
def PIE (X:Cx) (pins:List (Addr×Obj)) (σ:St) (tg:Expr) (R:It->Hp->Prop) (itv:Value) (s2:Shared):Prop :=
 ∃ (it:Addr) (fp:List Addr) (tn:Nat->Heap->Prop) (J:It) (H':Hp),itv=.ref it/\Inv X pins σ H' s2/\Turn X.prog X.w X.K tg J fp it tn/\tn 0 s2.heap/\(∀ b∈fp,zE X pins H' b)/\R J H'
def PI (X:Cx) (tg iter:Expr) (wi:TI):Prop :=
 ∀ (pins:List (Addr×Obj)) (s:Shared) (σ:St) (H:Hp) (R:It->Hp->Prop),Inv X pins σ H s->wi σ H R ->
  wpAny (model X.prog X.w) X.A (eval iter X.env) (λ v s1=>wpAny (model X.prog X.w) X.A (pyIter v) (PIE X pins σ tg R) X.xe s1) X.xe s
theorem kGN {M : Model} {A : Around} {E : Value -> Shared -> Prop} {s : Shared} {tg : Expr} {it : Addr} {u : Value} {o : Obj} {n : String} {vs : Array Value} {Q : Unit -> Shared -> Prop} (ho : s.heap.get? it = some o) (hc : o.cls = .type n) (hd : o.data = .fields vs)
    (hn : ["enumerate", "zip", "dict_itemiterator", "dict_reverseitemiterator", "odict_iterator", "itertools.zip_longest", "itertools.pairwise"].contains n = false) (hQ : Q () s) : wpAny M A (letOwnedTupleGo tg (.ref it) u) Q E s := by
  unfold letOwnedTupleGo
  cases tg <;> first
    | exact wpAny_pure hQ
    | (cases u <;> first
        | exact wpAny_pure hQ
        | (refine wpAny_bind (wpAny_load ho ?_)
           rw [hc, hd];show wpAny M A (if (["enumerate", "zip", "dict_itemiterator", "dict_reverseitemiterator", "odict_iterator", "itertools.zip_longest", "itertools.pairwise"].contains n && vs[0]? == some (rawInt _)) = true then _ else _) Q E s;rw [if_neg (by intro h; rw [hn, Bool.false_and] at h; cases h)];exact wpAny_pure hQ))
def Itl (K:PySem.W.Frag) (a:Addr):It :=
 ⟨λ i H=>∃ xs x,SqL K H a xs/\xs[i]?=some x,λ i H x H'=>H'=H/\∀ xs,SqL K H a xs->xs[i]?=some x,λ i H=>∃ xs,SqL K H a xs/\xs.length<=i⟩
def Itt (K:PySem.W.Frag) (a:Addr):It :=
 ⟨λ i H=>∃ xs x,SqT K H a xs/\xs[i]?=some x,λ i H x H'=>H'=H/\∀ xs,SqT K H a xs->xs[i]?=some x,λ i H=>∃ xs,SqT K H a xs/\xs.length<=i⟩
def Itr (lo:Int) (n:Nat):It:=⟨λ i _=>i<n,λ i H x H'=>H'=H/\x=.int (lo+i),λ i _=>n<=i⟩
theorem kCD {P:Program} {w:World} {K:PySem.W.Frag} {tg:Expr} (a it:Addr):Turn P w K tg (Itl K a) [it] it (λ i h=>h.IsListIter it a i) where
 mem:=by simp
 obj:=λ i h st b hb=>by
  have e:b=it:=by simpa using hb
  subst e;obtain ⟨o,e,c,d⟩:=st;exact ⟨o,e,λ v z=>by rw [d] at z;cases z⟩
 keep:=λ i h h' st k=>st.at λ o e=>k it (by simp) o e
 item:=by
  intro X hP hw hK hc i pins s σ H E I hf st hg;subst hP hw hK;obtain ⟨xs,x,hq,hx⟩:=hg;obtain ⟨its,rv,p,hz⟩:=I.list hq;obtain ⟨u,hu,ru⟩:=rv.get hx;obtain ⟨f0,f1,f2,f3,f4,f5⟩:=hf it (by simp);refine wpAny_pyNext_list_item st p.isList (x:=u) (by simpa using hu) λ h' st' sb=>?_;have I1:Inv X pins σ H { s with heap:=h' }:=I.turned (t':=s.toks) (λ b o hb e=>(sb.2 b hb).trans e) f0 f1 f3 f4 f5
  obtain ⟨o,e,c,d⟩:=id st';exact ⟨u,rfl,kGN (s:={ s with heap:=h' }) e c d (by decide) ⟨x,H,I1,ru,⟨rfl,λ ys hy=>by rw [I.list_inj hy hq];exact hx⟩,st',λ b hb=>(hf b hb).1⟩⟩
 done:=by
  intro X hP hw hK hc i pins s σ H E I hf st hg;subst hP hw hK;obtain ⟨xs,hq,hx⟩:=hg;obtain ⟨its,rv,p,hz⟩:=I.list hq;obtain ⟨f0,f1,f2,f3,f4,f5⟩:=hf it (by simp);have hl:=rv.length;exact wpAny_pyNext_list_end (I.ok.hd hc) st p.isList (by simp;omega) λ h' eb=>⟨rfl,I.turned (t':=s.toks) (λ b o hb e=>eb b o hb e) f0 f1 f3 f4 f5⟩
 self:=λ _ _ _ _ _ st h=>wpAny_pyIter_listiter st h
theorem sO {P:Program} {w:World} {K:PySem.W.Frag} {tg:Expr} (a it:Addr):Turn P w K tg (Itt K a) [it] it (λ i h=>h.IsTupleIter it a i) where
 mem:=by simp
 obj:=λ i h st b hb=>by
  have e:b=it:=by simpa using hb
  subst e;obtain ⟨o,e,c,d⟩:=st;exact ⟨o,e,λ v z=>by rw [d] at z;cases z⟩
 keep:=λ i h h' st k=>st.at λ o e=>k it (by simp) o e
 item:=by
  intro X hP hw hK hc i pins s σ H E I hf st hg;subst hP hw hK;obtain ⟨xs,x,hq,hx⟩:=hg;obtain ⟨its,rv,p,hz⟩:=I.tuple hq;obtain ⟨u,hu,ru⟩:=rv.get hx;obtain ⟨f0,f1,f2,f3,f4,f5⟩:=hf it (by simp);refine wpAny_pyNext_tuple_item st (show s.heap.IsTuple a its.toArray from p) (x:=u) (by simpa using hu) λ h' st' sb=>?_;have I1:Inv X pins σ H { s with heap:=h' }:=I.turned (t':=s.toks) (λ b o hb e=>(sb.2 b hb).trans e) f0 f1 f3 f4 f5
  obtain ⟨o,e,c,d⟩:=id st';exact ⟨u,rfl,kGN (s:={ s with heap:=h' }) e c d (by decide) ⟨x,H,I1,ru,⟨rfl,λ ys hy=>by rw [I.tuple_inj hy hq];exact hx⟩,st',λ b hb=>(hf b hb).1⟩⟩
 done:=by
  intro X hP hw hK hc i pins s σ H E I hf st hg;subst hP hw hK;obtain ⟨xs,hq,hx⟩:=hg;obtain ⟨its,rv,p,hz⟩:=I.tuple hq;obtain ⟨f0,f1,f2,f3,f4,f5⟩:=hf it (by simp);have hl:=rv.length;exact wpAny_pyNext_tuple_end (I.ok.hd hc) st (show s.heap.IsTuple a its.toArray from p) (by simp;omega) λ h' eb=>⟨rfl,I.turned (t':=s.toks) (λ b o hb e=>eb b o hb e) f0 f1 f3 f4 f5⟩
 self:=λ _ _ _ _ _ st h=>wpAny_pyIter_tupleiter st h
theorem sP {P:Program} {w:World} {K:PySem.W.Frag} {tg:Expr} (it:Addr) (lo:Int) (n:Nat):Turn P w K tg (Itr lo n) [it] it (λ i h=>IsRangeIter h it (lo+(i:Nat)*1) ((n:Int)-(i:Nat)) 1) where
 mem:=by simp
 obj:=λ i h st b hb=>by
  have e:b=it:=by simpa using hb
  subst e
  exact ⟨_,st,λ v z=>by
   have z':Data.fields _=Data.cell v:=z
   cases z'⟩
 keep:=λ i h h' st k=>k it (by simp) _ st
 item:=by
  intro X hP hw hK hc i pins s σ H E I hf st hg;subst hP hw hK;obtain ⟨f0,f1,f2,f3,f4,f5⟩:=hf it (by simp);have W:=Walks.range (prog:=X.prog) (w:=X.w) (I.ok.hd hc) it lo 1 n;refine W.item i s _ _ hg st λ v h' tk hv st' kk=>?_;obtain ⟨t,rfl⟩:=hv;have I1:Inv X pins σ H { s with heap:=h',toks:=tk }:=I.turned (λ b o hb e=>kk b o (by simpa using hb) e) f0 f1 f3 f4 f5
  refine ⟨_,rfl,kGN (s:={ s with heap:=h',toks:=tk }) (n:="range_iterator") st' rfl rfl (by decide) ⟨.int (lo+i),H,I1,⟨t,?_⟩,⟨rfl,rfl⟩,st',λ b hb=>(hf b hb).1⟩⟩
  rw [Int.mul_one]
 done:=by
  intro X hP hw hK hc i pins s σ H E I hf st hg;subst hP hw hK;obtain ⟨f0,f1,f2,f3,f4,f5⟩:=hf it (by simp);exact wpAny_pyNext_range_end (I.ok.hd hc) st (by have:n<=i:=hg;omega) λ h' eb=>⟨rfl,I.turned (t':=s.toks) (λ b o hb e=>eb b o hb e) f0 f1 f3 f4 f5⟩
 self:=λ _ _ _ _ _ st h=>wpAny_pyIter_rangeiter st h
section
variable {X:Cx} {tg:Expr}
def kJZ (K:PySem.W.Frag) (tl:TE):TI:=λ σ H R=>tl σ H λ x H1=>∃ a,x=.ref a/\(∃ xs,SqL K H1 a xs)/\R (Itl K a) H1
def kNB (K:PySem.W.Frag) (tl:TE):TI:=λ σ H R=>tl σ H λ x H1=>∃ a,x=.ref a/\(∃ xs,SqT K H1 a xs)/\R (Itt K a) H1
theorem yC {l:Expr} {tl:TE} (hl:PE X l tl):PI X tg l (kJZ X.K tl):=by
 intro pins s σ H R I h;refine thn (hl pins s σ H _ I h) λ v s1 ⟨x,H1,I1,r1,q1⟩=>?_;obtain ⟨a,e,⟨xs,hq⟩,q⟩:=q1;subst e;cases r1
 obtain ⟨its,rv,p,hz⟩:=I1.list hq;refine wpAny_pyIter_list p.isList ?_;refine ⟨s1.heap.objs.size,[s1.heap.objs.size],_,_,H1,rfl,I1.kept (t':=s1.toks) λ b o e=>Heap.get?_push_of_some _ e,kCD a _,⟨_,Heap.get?_push_size _ rfl,rfl,rfl⟩,λ b hb=>?_,q⟩;have e:b=s1.heap.objs.size:=by simpa using hb
 subst e;exact I1.fpOk (Nat.le_refl _) (I1.hok.fresh (Nat.le_refl _))
theorem cL {l:Expr} {tl:TE} (hl:PE X l tl):PI X tg l (kNB X.K tl):=by
 intro pins s σ H R I h;refine thn (hl pins s σ H _ I h) λ v s1 ⟨x,H1,I1,r1,q1⟩=>?_;obtain ⟨a,e,⟨xs,hq⟩,q⟩:=q1;subst e;cases r1
 obtain ⟨its,rv,p,hz⟩:=I1.tuple hq;refine wpAny_pyIter_tuple (show s1.heap.IsTuple a its.toArray from p) ?_;refine ⟨s1.heap.objs.size,[s1.heap.objs.size],_,_,H1,rfl,I1.kept (t':=s1.toks) λ b o e=>Heap.get?_push_of_some _ e,sO a _,⟨_,Heap.get?_push_size _ rfl,rfl,rfl⟩,λ b hb=>?_,q⟩;have e:b=s1.heap.objs.size:=by simpa using hb
 subst e;exact I1.fpOk (Nat.le_refl _) (I1.hok.fresh (Nat.le_refl _))
theorem pV {pins:List (Addr×Obj)} {σ:St} {H:Hp} {s:Shared} {R:It->Hp->Prop} {E:Value->Shared->Prop} {lo hi:Int} {t u v:Tok} {tk:Nat} (I:Inv X pins σ H s) (h1 : -(2 ^ 62)<=lo) (h2:lo<2 ^ 62) (h3 : -(2 ^ 62)<=hi) (h4:hi<2 ^ 62)
  (q:R (Itr lo (hi-lo).toNat) H):wpAny (model X.prog X.w) X.A (pyIter (.ref s.heap.objs.size)) (PIE X pins σ tg R) E { s with heap:=s.heap.push { cls:=.type "range",data:=.fields #[.int lo t,.int hi u,.int 1 v] },toks:=tk }:=by
 refine wpAny_pyIter_range (IsRange.new ..) (small_one h1 h2 h3 h4) ?_;have I1:Inv X pins σ H { s with heap:=s.heap.push { cls:=.type "range",data:=.fields #[.int lo t,.int hi u,.int 1 v] },toks:=tk }:=I.kept λ b o e=>Heap.get?_push_of_some _ e
 refine ⟨(s.heap.push { cls:=.type "range",data:=.fields #[.int lo t,.int hi u,.int 1 v] }).objs.size,[(s.heap.push { cls:=.type "range",data:=.fields #[.int lo t,.int hi u,.int 1 v] }).objs.size],_,_,H,rfl,
  I1.kept (t':=tk) λ b o e=>Heap.get?_push_of_some _ e,sP _ lo (hi-lo).toNat,?_,λ b hb=>?_,q⟩
 ·have e1:lo+((0:Nat):Int)*1=lo:=by simp
  have e2:(((hi-lo).toNat:Nat):Int)-((0:Nat):Int)=Builtin.Range.rangeSize lo hi 1:=by rw [rangeSize_one];split<;>omega
  show IsRangeIter _ _ (lo+((0:Nat):Int)*1) ((((hi-lo).toNat:Nat):Int)-((0:Nat):Int)) 1;rw [e1,e2];exact Heap.get?_push_size _ rfl
 ·have e:b=(s.heap.push { cls:=.type "range",data:=.fields #[.int lo t,.int hi u,.int 1 v] }).objs.size:=by simpa using hb
  subst e;exact I1.fpOk (Nat.le_refl _) (I1.hok.fresh (Nat.le_refl _))
def kND (ta:TA):TI:=λ σ H R=>ta σ H λ vs H1=>∃ j:Int,vs=[.int j]/\-(2 ^ 62)<=j/\j<2 ^ 62/\R (Itr 0 j.toNat) H1
def kNC (ta:TA):TI:=λ σ H R=>ta σ H λ vs H1=>∃ i j:Int,vs=[.int i,.int j]/\(-(2 ^ 62)<=i/\i<2 ^ 62/\-(2 ^ 62)<=j/\j<2 ^ 62)/\R (Itr i (j-i).toNat) H1
theorem zQ {a:Expr} {ta:TA} {p pos:Pos} (hg:Gl X "range") (hm:X.mg "range" = none) (ha:PA X [a] ta) (hs:starEach [a] X.env=[(false,eval a X.env)]:=by rfl):PI X tg (.Call (.Name "range" p) [a] [] pos) (kND ta):=by
 intro pins s σ H R I h;refine Call_ (vK I hg hm boot_range (PyProof.Rows.callWith_type1 (thn (ha pos pins s σ H _ I h) λ us s1 ⟨vs,H1,I1,r1,q1⟩=>?_) hs rfl));obtain ⟨j,e,q1,q2,q⟩:=q1;subst e
 cases r1 with
 | cons r rr =>
  cases rr
  obtain ⟨t,rfl⟩:=r;exact call_range_1 (pV I1 (by omega) (by omega) q1 q2 (by simpa using q))
theorem cM {a b:Expr} {ta:TA} {p pos:Pos} (hg:Gl X "range") (hm:X.mg "range" = none) (ha:PA X [a,b] ta) (hs:starEach [a,b] X.env=[(false,eval a X.env),(false,eval b X.env)]:=by rfl) (hs2:starEach [b] X.env=[(false,eval b X.env)]:=by rfl) :
  PI X tg (.Call (.Name "range" p) [a,b] [] pos) (kNC ta):=by
 intro pins s σ H R I h;refine Call_ (vK I hg hm boot_range (PyProof.Rows.callWith_type1 (thn (ha pos pins s σ H _ I h) λ us s1 ⟨vs,H1,I1,r1,q1⟩=>?_) (by rw [hs,hs2]) (by rw [hs2];rfl)));obtain ⟨i,j,e,⟨q1,q2,q3,q4⟩,q⟩:=q1;subst e
 cases r1 with
 | cons r rr =>
  cases rr with
  | cons r' rr =>
   cases rr
   obtain ⟨t,rfl⟩:=r;obtain ⟨t',rfl⟩:=r';exact call_range_2 (pV I1 q1 q2 q3 q4 q)
def kOC (wi:TI) (g:TG) (tb:TS):TS:=λ D σ H=>wi σ H λ J H1=>∃ W:Nat->Nat->St->Hp->Prop,(∃ m,W 0 m σ H1)/\∀ i m σ H,W i m σ H ->
 (J.stop i H/\D.nx σ H)\/(J.go i H/\∃ N:St->Hp->Prop,(∀ σ' H',N σ' H'->∃ m',m'<m/\W (i+1) m' σ' H')/\∀ x H',J.yld i H x H'->g x σ H' λ σ2 H2=>tb { D with nx:=N,ct:=N,bk:=D.nx } σ2 H2)
def nR (fp:List Addr) (h:Heap):List (Addr×Obj):=fp.filterMap λ b=>(h.get? b).map λ o=>(b,o)
theorem vJ {fp:List Addr} {h:Heap} {b:Addr} {o:Obj} (hb:b∈fp) (e:h.get? b=some o):(b,o)∈nR fp h:=List.mem_filterMap.mpr ⟨b,hb,by rw [e];rfl⟩
theorem kDA {fp:List Addr} {h:Heap} {p:Addr×Obj} (hp:p∈nR fp h):p.1∈fp/\h.get? p.1=some p.2:=by
 obtain ⟨b,hb,e⟩:=List.mem_filterMap.mp hp
 cases q:h.get? b with
 | none=>rw [q] at e;cases e
 | some o =>
  rw [q] at e;have e':(b,o)=p:=Option.some.inj e;subst e';exact ⟨hb,q⟩
theorem Inv.pinned {pins:List (Addr×Obj)} {σ:St} {H:Hp} {s:Shared} {fp:List Addr} (I:Inv X pins σ H s) (hf:∀ b∈fp,zE X pins H b) (ho:∀ b∈fp,∃ o,s.heap.get? b=some o/\∀ v,o.data≠.cell v):Inv X (pins++nR fp s.heap) σ H s :=
 I.pins_of λ p hp=>(mem_append.mp hp).elim (λ z=>I.pin p (mem_append_right _ z)) λ z=>by
  obtain ⟨hb,e⟩:=kDA z;obtain ⟨f0,f1,f2,_⟩:=hf p.1 hb;obtain ⟨o,e',d⟩:=ho p.1 hb;rw [e] at e';cases e';exact ⟨e,f0,f1,f2,d⟩
theorem Inv.unpinned {pins pl:List (Addr×Obj)} {σ:St} {H:Hp} {s:Shared} (I:Inv X (pins++pl) σ H s):Inv X pins σ H s:=I.pins_of λ p hp=>I.pin p (mem_append_right _ (mem_append_left _ hp))
theorem wH {iter:Expr} {body:List Stmt} {wi:TI} {g:TG} {tb:TS} {pos:Pos} (hp:PassesOwn (model X.prog X.w) X.A X.env X.xe) (hc:X.calm=true) (hi:PI X tg iter wi) (hg:PG X tg g) (hb:PSs X body tb)
  (hs:∀ x,foldedSetIterable iter X.env x=pure x:=by intro _;rfl):PS X (.For tg iter body [] pos) (kOC wi g tb):=by
 intro pins s σ H D I h;refine wpAny_For (thn (hi pins s σ H _ I h) λ v s1 h1=>thn h1 λ itv s2 h2=>?_) hs;obtain ⟨it,fp,tn,J,H2,e,I2,T,st2,f2,W,⟨m0,w0⟩,turn⟩:=h2
 subst e
 have stat:∀ {H':Hp},(∀ b∈fp,H' b=none)->∀ b∈fp,zE X pins H' b:=λ hn b hb=>⟨hn b hb,(f2 b hb).2⟩;refine codeAny_forLoop_any (λ n s'=>∃ i σ' H',Inv X pins σ' H' s'/\tn i s'.heap/\(∀ b∈fp,H' b=none)/\W i n σ' H') ?_ m0 ⟨0,σ,H2,I2,st2,λ b hb=>(f2 b hb).1,w0⟩;rintro n s3 ⟨i,σ3,H3,I3,st3,fr3,w3⟩;rcases turn i n σ3 H3 w3 with ⟨stop,qn⟩ | ⟨go,N,hN,step⟩
 ·refine wpAny_passesOwn hp (thn (T.done X rfl rfl rfl hc i pins s3 σ3 H3 X.xe I3 (stat fr3) st3 stop) λ r s4 ⟨hr,I4⟩=>?_)
  subst hr;exact wpAny_execs_nil ⟨σ3,H3,I4,qn⟩
 ·refine wpAny_passesOwn hp (thn (T.item X rfl rfl rfl hc i pins s3 σ3 H3 X.xe I3 (stat fr3) st3 go) λ r s4 ⟨u,hr,h4⟩=>?_)
  subst hr;refine wpAny_passesOwn hp (thn h4 λ _ s5 ⟨x,H5,I5,r5,y5,st5,fr5⟩=>?_);have I5':=I5.pinned (stat fr5) (T.obj _ _ st5);refine wpAny_passesOwn hp (thn (hg _ s5 σ3 H5 x u _ I5' r5 (step x H5 y5)) λ _ s6 ⟨σ6,H6,I6,q6⟩=>?_);refine wpAny_passesOwn hp (thn (hb _ s6 σ6 H6 _ I6 q6) λ f s7 q7=>?_)
  have again:∀ {σ7:St} {H7:Hp},Inv X (pins++nR fp s5.heap) σ7 H7 s7->N σ7 H7->∃ m,m<n/\∃ i σ' H',Inv X pins σ' H' s7/\tn i s7.heap/\(∀ b∈fp,H' b=none)/\W i m σ' H':=λ {σ7 H7} I7 n7=>by
   obtain ⟨m',hm,w7⟩:=hN σ7 H7 n7;refine ⟨m',hm,i+1,σ7,H7,I7.unpinned,T.keep _ _ _ st5 λ b hb o e=>(I7.pin (b,o) (mem_append_right _ (mem_append_right _ (vJ hb e)))).1,λ b hb=>?_,w7⟩;obtain ⟨o,e,d⟩:=T.obj _ _ st5 b hb;exact (I7.pin (b,o) (mem_append_right _ (mem_append_right _ (vJ hb e)))).2.1
  cases f with
  | next=>obtain ⟨σ7,H7,I7,n7⟩:=q7;exact again I7 n7
  | cont=>obtain ⟨σ7,H7,I7,n7⟩:=q7;exact again I7 n7
  | brk=>obtain ⟨σ7,H7,I7,q7⟩:=q7;exact ⟨σ7,H7,I7.unpinned,q7⟩
  | ret v=>obtain ⟨x7,σ7,H7,I7,r7,q7⟩:=q7;exact ⟨x7,σ7,H7,I7.unpinned,r7,q7⟩
end
theorem kGQ {K:PySem.W.Frag} {a:Addr} {xs:List V} {g:TG} {tb:TS} {D:Ends} {σ:St} {H:Hp} (Pv:Nat->St->Hp->Prop) (h0:Pv 0 σ H) (hl:∀ i σ H,i<=xs.length->Pv i σ H->SqL K H a xs)
  (hs:∀ i x σ H,xs[i]?=some x->Pv i σ H->g x σ H λ σ2 H2=>tb { D with nx:=Pv (i+1),ct:=Pv (i+1),bk:=D.nx } σ2 H2) (hd:∀ σ H,Pv xs.length σ H->D.nx σ H) :
  ∃ W:Nat->Nat->St->Hp->Prop,(∃ m,W 0 m σ H)/\∀ i m σ H,W i m σ H ->
   ((Itl K a).stop i H/\D.nx σ H)\/((Itl K a).go i H/\∃ N:St->Hp->Prop,(∀ σ' H',N σ' H'->∃ m',m'<m/\W (i+1) m' σ' H')/\∀ x H',(Itl K a).yld i H x H'->g x σ H' λ σ2 H2=>tb { D with nx:=N,ct:=N,bk:=D.nx } σ2 H2):=by
 refine ⟨λ i m σ H=>m=xs.length-i/\i<=xs.length/\Pv i σ H,⟨xs.length,by simp,Nat.zero_le _,h0⟩,?_⟩;rintro i m σ H ⟨rfl,hi,p⟩;have q:=hl i σ H hi p;by_cases hlt:i<xs.length
 ·refine .inr ⟨⟨xs,xs[i],q,by simp [hlt]⟩,Pv (i+1),λ σ' H' p'=>⟨xs.length-(i+1),by omega,rfl,hlt,p'⟩,λ x H' y=>?_⟩
  obtain ⟨e,y⟩:=y;subst e;exact hs i x σ _ (y xs q) p
 ·have e:i=xs.length:=by omega
  subst e;exact .inl ⟨⟨xs,q,Nat.le_refl _⟩,hd σ H p⟩
theorem yV {lo:Int} {n:Nat} {g:TG} {tb:TS} {D:Ends} {σ:St} {H:Hp} (Pv:Nat->St->Hp->Prop) (h0:Pv 0 σ H)
  (hs:∀ i σ H,i<n->Pv i σ H->g (.int (lo+i)) σ H λ σ2 H2=>tb { D with nx:=Pv (i+1),ct:=Pv (i+1),bk:=D.nx } σ2 H2) (hd:∀ σ H,Pv n σ H->D.nx σ H) :
  ∃ W:Nat->Nat->St->Hp->Prop,(∃ m,W 0 m σ H)/\∀ i m σ H,W i m σ H ->
   ((Itr lo n).stop i H/\D.nx σ H)\/((Itr lo n).go i H/\∃ N:St->Hp->Prop,(∀ σ' H',N σ' H'->∃ m',m'<m/\W (i+1) m' σ' H')/\∀ x H',(Itr lo n).yld i H x H'->g x σ H' λ σ2 H2=>tb { D with nx:=N,ct:=N,bk:=D.nx } σ2 H2):=by
 refine ⟨λ i m σ H=>m=n-i/\i<=n/\Pv i σ H,⟨n,by simp,Nat.zero_le _,h0⟩,?_⟩;rintro i m σ H ⟨rfl,hi,p⟩;by_cases hlt:i<n
 ·refine .inr ⟨hlt,Pv (i+1),λ σ' H' p'=>⟨n-(i+1),by omega,rfl,hlt,p'⟩,λ x H' y=>?_⟩
  obtain ⟨e,y⟩:=y;subst e y;exact hs i σ _ hlt p
 ·have e:i=n:=by omega
  subst e;exact .inl ⟨Nat.le_refl _,hd σ H p⟩
theorem pH {c:TT} {tb:TS} {D:Ends} {σ:St} {H:Hp} (Pv:St->Hp->Prop) (μ:St->Hp->Nat) (h0:Pv σ H)
  (hs:∀ σ H,Pv σ H->c σ H λ b H1=>if b=true then tb { D with nx:=λ σ' H'=>Pv σ' H'/\μ σ' H'<μ σ H,ct:=λ σ' H'=>Pv σ' H'/\μ σ' H'<μ σ H,bk:=D.nx } σ H1 else D.nx σ H1)
  (mono:∀ σ H Q Q',(∀ b H1,Q b H1->Q' b H1)->c σ H Q->c σ H Q'):kEP c tb D σ H:=by
 refine ⟨λ m σ H=>m=μ σ H/\Pv σ H,⟨_,rfl,h0⟩,?_⟩;rintro m σ H ⟨rfl,p⟩;refine mono σ H _ _ (λ b H1 q=>?_) (hs σ H p)
 cases b with
 | true=>exact ⟨_,λ σ' H' ⟨p',l⟩=>⟨_,l,rfl,p'⟩,q⟩
 | false=>exact q
abbrev R2:=V->V->Hp->VK->Prop
def OpR (X:Cx) (f:Value->Value->Sem Value) (r:R2):Prop :=
 ∀ (pins:List (Addr×Obj)) (s:Shared) (σ:St) (H:Hp) (x y:V) (v u:Value) (Q:VK),Inv X pins σ H s->RelV x v->RelV y u->r x y H Q ->
  wpAny (model X.prog X.w) X.A (f v u) (EP X pins σ Q) X.xe s
def UnR (X:Cx) (f:Value->Sem Value) (r:V->Hp->VK->Prop):Prop :=
 ∀ (pins:List (Addr×Obj)) (s:Shared) (σ:St) (H:Hp) (x:V) (v:Value) (Q:VK),Inv X pins σ H s->RelV x v->r x H Q ->
  wpAny (model X.prog X.w) X.A (f v) (EP X pins σ Q) X.xe s
def yG (X:Cx) (f:Value) (r:List V->Hp->VK->Prop):Prop :=
 ∀ (pins:List (Addr×Obj)) (s:Shared) (σ:St) (H:Hp) (xs:List V) (us:List Value) (Q:VK),Inv X pins σ H s->Vals xs us->r xs H Q ->
  wpAny (model X.prog X.w) X.A (call f us) (EP X pins σ Q) X.xe s
def kOP (X:Cx) (r:V->Hp->(Bool->Hp->Prop)->Prop):Prop :=
 ∀ (pins:List (Addr×Obj)) (s:Shared) (σ:St) (H:Hp) (x:V) (v:Value) (Q:Bool->Hp->Prop),Inv X pins σ H s->RelV x v->r x H Q ->
  wpAny (model X.prog X.w) X.A (truthy v) (TP X pins σ Q) X.xe s
def tOp (r:R2) (ta tb:TE):TE:=λ σ H Q=>ta σ H λ x H1=>tb σ H1 λ y H2=>r x y H2 Q
def tUn (r:V->Hp->VK->Prop) (ta:TE):TE:=λ σ H Q=>ta σ H λ x H1=>r x H1 Q
def rI (C:Int->Int->Prop) (g:Int->Int->V):R2:=λ x y H Q=>∃ i j,x=.int i/\y=.int j/\C i j/\Q (g i j) H
def rI0 (g:Int->Int->V):R2:=λ x y H Q=>∃ i j,x=.int i/\y=.int j/\Q (g i j) H
def rU (g:Int->V):V->Hp->VK->Prop:=λ x H Q=>∃ i,x=.int i/\Q (g i) H
section
variable {X:Cx} {a b c:Expr} {ta tb tc:TE} {pos:Pos}
theorem kLZ (ha:PE X a ta) (hb:PE X b tb) {pins:List (Addr×Obj)} {s:Shared} {σ:St} {H:Hp} {R:V->V->Hp->Prop} (I:Inv X pins σ H s)
  (h:ta σ H λ x H1=>tb σ H1 λ y H2=>R x y H2) {Q:Value->Shared->Prop} {f:Value->Value->Sem Value}
  (hf:∀ v u s2 x y H2,Inv X pins σ H2 s2->RelV x v->RelV y u->R x y H2->wpAny (model X.prog X.w) X.A (f v u) Q X.xe s2) :
  wpAny (model X.prog X.w) X.A (eval a X.env) (λ v s₁=>wpAny (model X.prog X.w) X.A (eval b X.env) (λ u s₂=>wpAny (model X.prog X.w) X.A (f v u) Q X.xe s₂) X.xe s₁) X.xe s:=by
 refine thn (ha pins s σ H _ I h) λ v s1 ⟨x,H1,I1,r1,q1⟩=>?_;refine thn (hb pins s1 σ H1 _ I1 q1) λ u s2 ⟨y,H2,I2,r2,q2⟩=>?_;exact hf v u s2 x y H2 I2 r1 r2 q2
theorem kZ {op:Operator} {r:R2} (ho:OpR X (binaryOp op) r) (ha:PE X a ta) (hb:PE X b tb):PE X (.BinOp a op b pos) (tOp r ta tb):=by
 intro pins s σ H Q I h;exact wpAny_BinOp (kLZ ha hb I h λ v u s2 x y H2 I2 rx ry q=>ho pins s2 σ H2 x y v u Q I2 rx ry q)
theorem wU {op:UnaryOp} {r:V->Hp->VK->Prop} (ho:UnR X (unaryOp op) r) (ha:PE X a ta):PE X (.UnaryOp op a pos) (tUn r ta):=by
 intro pins s σ H Q I h;exact UnaryOp_ (thn (ha pins s σ H _ I h) λ v s1 ⟨x,H1,I1,r1,q1⟩=>ho pins s1 σ H1 x v Q I1 r1 q1)
theorem opI {f:Value->Value->Sem Value} {C:Int->Int->Prop} {g:Int->Int->Int}
  (rule:∀ (i j:Int) (t u:Tok) (s:Shared) (Q:Value->Shared->Prop) (E:Value->Shared->Prop),C i j->Q (.int (g i j) s.toks) { s with toks:=s.toks+1 }->wpAny (model X.prog X.w) X.A (f (.int i t) (.int j u)) Q E s) :
  OpR X f (rI C λ i j=>.int (g i j)):=by
 intro pins s σ H x y v u Q I rx ry h;obtain ⟨i,j,rfl,rfl,hc,q⟩:=h;obtain ⟨t,rfl⟩:=rx;obtain ⟨t',rfl⟩:=ry;exact rule i j t t' s _ _ hc ⟨.int (g i j),H,I.tok _,⟨_,rfl⟩,q⟩
theorem kMY {f:Value->Value->Sem Value} {g:Int->Int->Int}
  (rule:∀ (i j:Int) (t u:Tok) (s:Shared) (Q:Value->Shared->Prop) (E:Value->Shared->Prop),Q (.int (g i j) s.toks) { s with toks:=s.toks+1 }->wpAny (model X.prog X.w) X.A (f (.int i t) (.int j u)) Q E s) :
  OpR X f (rI0 λ i j=>.int (g i j)):=by
 intro pins s σ H x y v u Q I rx ry h;obtain ⟨i,j,rfl,rfl,q⟩:=h;obtain ⟨t,rfl⟩:=rx;obtain ⟨t',rfl⟩:=ry;exact rule i j t t' s _ _ ⟨.int (g i j),H,I.tok _,⟨_,rfl⟩,q⟩
theorem kLG {f:Value->Value->Sem Value} {g:Int->Int->Bool}
  (rule:∀ (i j:Int) (t u:Tok) (s:Shared) (Q:Value->Shared->Prop) (E:Value->Shared->Prop),Q (.bool (g i j)) s->wpAny (model X.prog X.w) X.A (f (.int i t) (.int j u)) Q E s) :
  OpR X f (rI0 λ i j=>.bl (g i j)):=by
 intro pins s σ H x y v u Q I rx ry h;obtain ⟨i,j,rfl,rfl,q⟩:=h;obtain ⟨t,rfl⟩:=rx;obtain ⟨t',rfl⟩:=ry;exact rule i j t t' s _ _ ⟨.bl (g i j),H,I,rfl,q⟩
def kOS (i j:Int):Prop:=0<j/\j<1073741824
def kOR (i j:Int):Prop:=0<=j/\j<=1000000/\i.natAbs<2 ^ 64
def CMul (i j:Int):Prop:=(-(2 ^ 64)<i/\i<2 ^ 64)\/(-(2 ^ 64)<j/\j<2 ^ 64)
theorem CMul.ok {i j:Int} (h:CMul i j):IntMulOk i j:=by
 rcases h with ⟨h1,h2⟩ | ⟨h1,h2⟩
 ·exact .of_left (intBits_le_64 h1 h2)
 ·exact .of_right (intBits_le_64 h1 h2)
theorem qX:OpR X (binaryOp .Add) (rI0 λ i j=>.int (i+j)):=kMY λ _ _ _ _ _ _ _ q=>add_int q
theorem xH:OpR X (binaryOp .Sub) (rI0 λ i j=>.int (i-j)):=kMY λ _ _ _ _ _ _ _ q=>sub_int q
theorem tJ:OpR X (binaryOp .Mult) (rI CMul λ i j=>.int (i*j)):=opI λ _ _ _ _ _ _ _ hc q=>mul_int q hc.ok
theorem kIM:OpR X (binaryOp .FloorDiv) (rI kOS λ i j=>.int (i / j)):=opI λ i j _ _ _ _ _ hc q=>by
 have h1:(0:Int)<j:=hc.1;have h2:j<1073741824:=hc.2;exact floordiv_int (by omega) (by rw [Int.fdiv_eq_ediv_of_nonneg i (by omega)];exact q) (.inl (PyProof.noPylong_small (by omega)))
theorem nW:OpR X (binaryOp .Mod) (rI (λ _ j=>0<j) λ i j=>.int (i % j)):=opI λ i j _ _ _ _ _ hc q=>by
 have h1:(0:Int)<j:=hc;exact mod_int' (by omega) (by rw [Int.fmod_eq_emod_of_nonneg i (by omega)];exact q)
theorem kLF:OpR X (binaryOp .Pow) (rI kOR λ i j=>.int (i ^ j.toNat)):=opI λ _ _ _ _ _ _ _ hc q=>pow_int_small hc.1 hc.2.1 hc.2.2 q
theorem unI {f:Value->Sem Value} {g:Int->Int}
  (rule:∀ (i:Int) (t:Tok) (s:Shared) (Q:Value->Shared->Prop) (E:Value->Shared->Prop),Q (.int (g i) s.toks) { s with toks:=s.toks+1 }->wpAny (model X.prog X.w) X.A (f (.int i t)) Q E s) :
  UnR X f (rU λ i=>.int (g i)):=by
 intro pins s σ H x v Q I rx h;obtain ⟨i,rfl,q⟩:=h;obtain ⟨t,rfl⟩:=rx;exact rule i t s _ _ ⟨.int (g i),H,I.tok _,⟨_,rfl⟩,q⟩
theorem yH:UnR X (unaryOp .USub) (rU λ i=>.int (-i)):=unI λ _ _ _ _ _ q=>neg_int q
end
def kMN:V->V->Bool
 | .non,.non=>true | .non,.int _=>true | .int _,.non=>true | .non,.bl _=>true | .bl _,.non=>true | .non,.str _=>true | .str _,.non=>true
 | .int _,.int _=>true | .bl _,.bl _=>true | .str _,.str _=>true | .byt _,.byt _=>true
 | .int _,.str _=>true | .str _,.int _=>true | .bl _,.str _=>true | .str _,.bl _=>true
 | _,_=>false
def rEq:R2:=λ x y H Q=>kMN x y=true/\Q (.bl (decide (x=y))) H
def rNe:R2:=λ x y H Q=>kMN x y=true/\Q (.bl (!decide (x=y))) H
theorem kBH {i j:Int}:decide (V.int i=V.int j)=(i == j):=by
 rw [Bool.eq_iff_iff];simp
theorem kHB {i j:Bool}:decide (V.bl i=V.bl j)=(i == j):=by
 rw [Bool.eq_iff_iff];simp
theorem kBG {i j:Str}:decide (V.str i=V.str j)=(i == j):=by
 rw [Bool.eq_iff_iff];simp
theorem kBI {i j:Array UInt8}:decide (V.byt i=V.byt j)=(i.toList == j.toList):=by
 rw [Bool.eq_iff_iff];cases i
 cases j
 simp
section
variable {X:Cx} {a b c:Expr} {ta tb tc:TE} {pos:Pos}
theorem qN {pins:List (Addr×Obj)} {σ:St} {H:Hp} {s:Shared} {Q:VK} {k k':Bool} (I:Inv X pins σ H s) (q:Q (.bl k) H) (e:k=k'):EP X pins σ Q (.bool k') s:=by
 subst e;exact ⟨.bl k,H,I,rfl,q⟩
theorem kAR:OpR X (compareOp .Eq) rEq:=by
 intro pins s σ H x y v u Q I rx ry h;obtain ⟨hs,q⟩:=h
 cases x with
 | non =>
  cases rx
  cases y with
  | non=>cases ry;exact PySem.EqNone.eq_none_none (qN I q (by simp))
  | bl j=>cases ry;exact PySem.EqNone.eq_none_bool (qN I q (by simp))
  | int j=>obtain ⟨t',rfl⟩:=ry;exact PySem.EqNone.eq_none_int (qN I q (by simp))
  | str j=>obtain ⟨t',rfl⟩:=ry;exact PySem.EqNone.eq_none_str (qN I q (by simp))
  | _=>exact absurd (show false=true from hs) Bool.false_ne_true
 | bl i =>
  cases rx
  cases y with
  | non=>cases ry;exact PySem.EqNone.eq_bool_none (qN I q (by simp))
  | bl j=>cases ry;exact eq_bool (qN I q kHB)
  | str j=>obtain ⟨t',rfl⟩:=ry;exact PySem.EqMixed.eq_bool_str (qN I q (by simp))
  | _=>exact absurd (show false=true from hs) Bool.false_ne_true
 | int i =>
  obtain ⟨t,rfl⟩:=rx
  cases y with
  | non=>cases ry;exact PySem.EqNone.eq_int_none (qN I q (by simp))
  | int j=>obtain ⟨t',rfl⟩:=ry;exact eq_int (qN I q kBH)
  | str j=>obtain ⟨t',rfl⟩:=ry;exact PySem.EqMixed.eq_int_str (qN I q (by simp))
  | _=>exact absurd (show false=true from hs) Bool.false_ne_true
 | str i =>
  obtain ⟨t,rfl⟩:=rx
  cases y with
  | non=>cases ry;exact PySem.EqNone.eq_str_none (qN I q (by simp))
  | bl j=>cases ry;exact PySem.EqMixed.eq_str_bool (qN I q (by simp))
  | int j=>obtain ⟨t',rfl⟩:=ry;exact PySem.EqMixed.eq_str_int (qN I q (by simp))
  | str j=>obtain ⟨t',rfl⟩:=ry;exact eq_str (qN I q kBG)
  | _=>exact absurd (show false=true from hs) Bool.false_ne_true
 | byt i =>
  obtain ⟨t,rfl⟩:=rx
  cases y with
  | byt j=>obtain ⟨t',rfl⟩:=ry;exact PySem.W.eq_bytes (qN I q kBI)
  | _=>exact absurd (show false=true from hs) Bool.false_ne_true
 | _=>cases y<;>exact absurd (show false=true from hs) Bool.false_ne_true
theorem lY:OpR X (compareOp .NotEq) rNe:=by
 intro pins s σ H x y v u Q I rx ry h;obtain ⟨hs,q⟩:=h
 cases x with
 | non =>
  cases rx
  cases y with
  | non=>cases ry;exact PySem.EqNone.ne_none_none (qN I q (by simp))
  | bl j=>cases ry;exact PySem.EqNone.ne_none_bool (qN I q (by simp))
  | int j=>obtain ⟨t',rfl⟩:=ry;exact PySem.EqNone.ne_none_int (qN I q (by simp))
  | str j=>obtain ⟨t',rfl⟩:=ry;exact PySem.EqNone.ne_none_str (qN I q (by simp))
  | _=>exact absurd (show false=true from hs) Bool.false_ne_true
 | bl i =>
  cases rx
  cases y with
  | non=>cases ry;exact PySem.EqNone.ne_bool_none (qN I q (by simp))
  | bl j=>cases ry;exact ne_bool (qN I q (congrArg not kHB))
  | str j=>obtain ⟨t',rfl⟩:=ry;exact PySem.EqMixed.ne_bool_str (qN I q (by simp))
  | _=>exact absurd (show false=true from hs) Bool.false_ne_true
 | int i =>
  obtain ⟨t,rfl⟩:=rx
  cases y with
  | non=>cases ry;exact PySem.EqNone.ne_int_none (qN I q (by simp))
  | int j=>obtain ⟨t',rfl⟩:=ry;exact ne_int (qN I q (congrArg not kBH))
  | str j=>obtain ⟨t',rfl⟩:=ry;exact PySem.EqMixed.ne_int_str (qN I q (by simp))
  | _=>exact absurd (show false=true from hs) Bool.false_ne_true
 | str i =>
  obtain ⟨t,rfl⟩:=rx
  cases y with
  | non=>cases ry;exact PySem.EqNone.ne_str_none (qN I q (by simp))
  | bl j=>cases ry;exact PySem.EqMixed.ne_str_bool (qN I q (by simp))
  | int j=>obtain ⟨t',rfl⟩:=ry;exact PySem.EqMixed.ne_str_int (qN I q (by simp))
  | str j=>obtain ⟨t',rfl⟩:=ry;exact ne_str (qN I q (congrArg not kBG))
  | _=>exact absurd (show false=true from hs) Bool.false_ne_true
 | byt i =>
  obtain ⟨t,rfl⟩:=rx
  cases y with
  | byt j=>obtain ⟨t',rfl⟩:=ry;exact PySem.W.ne_bytes (qN I q (congrArg not kBI))
  | _=>exact absurd (show false=true from hs) Bool.false_ne_true
 | _=>cases y<;>exact absurd (show false=true from hs) Bool.false_ne_true
theorem pX:OpR X (compareOp .Lt) (rI0 λ i j=>.bl (decide (i<j))):=kLG λ _ _ _ _ _ _ _ q=>lt_int q
theorem kMX:OpR X (compareOp .LtE) (rI0 λ i j=>.bl (decide (i<=j))):=kLG λ _ _ _ _ _ _ _ q=>le_int q
theorem kJW:OpR X (compareOp .Gt) (rI0 λ i j=>.bl (decide (j<i))):=kLG λ _ _ _ _ _ _ _ q=>gt_int q
theorem tK:OpR X (compareOp .Is) (λ x y H Q=>y=.non/\Q (.bl (decide (x=.non))) H):=by
 intro pins s σ H x y v u Q I rx ry h;obtain ⟨rfl,q⟩:=h;cases ry
 refine is_none_gen (qN I q ?_)
 cases x<;>first
  | (cases rx;rfl)
  | (obtain ⟨t,rfl⟩:=rx;rfl)
theorem kAQ:OpR X (compareOp .IsNot) (λ x y H Q=>y=.non/\Q (.bl (!decide (x=.non))) H):=by
 intro pins s σ H x y v u Q I rx ry h;obtain ⟨rfl,q⟩:=h;cases ry
 refine isnot_none_gen (qN I q ?_)
 cases x<;>first
  | (cases rx;rfl)
  | (obtain ⟨t,rfl⟩:=rx;rfl)
theorem qL (b:Expr) {op:CmpOp} (h:op≠.In:=by decide) (h2:op≠.NotIn:=by decide):behindInMarks op b=false:=by
 have e1:(op == CmpOp.In)=false:=by cases op<;>first | rfl | exact absurd rfl h
 have e2:(op == CmpOp.NotIn)=false:=by cases op<;>first | rfl | exact absurd rfl h2
 cases b<;>simp [behindInMarks,e1,e2]
theorem vF {op:CmpOp} {r:R2} (ho:OpR X (compareOp op) r) (ha:PE X a ta) (hb:PE X b tb) (hm:behindInMarks op b=false):PE X (.Compare a [op] [b] pos) (tOp r ta tb):=by
 intro pins s σ H Q I h;exact wpAny_Compare1 (kLZ ha hb I h λ v u s2 x y H2 I2 rx ry q=>ho pins s2 σ H2 x y v u Q I2 rx ry q) hm
def kMF (t:TE):TT:=λ σ H Q=>t σ H λ x H'=>∃ k,x=.bl k/\Q k H'
theorem qF {op:CmpOp} {r:R2} (ho:OpR X (compareOp op) r) (ha:PE X a ta) (hb:PE X b tb) (hm:behindInMarks op b=false):PT X (.Compare a [op] [b] pos) (kMF (tOp r ta tb)):=by
 intro pins s σ H Q I h
 refine wpAny_isTrue_Compare1 (thn (ha pins s σ H _ I h) λ v s1 ⟨x,H1,I1,r1,q1⟩=>thn (hb pins s1 σ H1 _ I1 q1) λ u s2 ⟨y,H2,I2,r2,q2⟩ =>
  thn (ho pins s2 σ H2 x y v u _ I2 r1 r2 q2) λ c s3 ⟨z,H3,I3,r3,k,e,q3⟩=>?_) hm
 subst e;cases r3
 exact wpAny_truthy_bool ⟨H3,I3,q3⟩
def kKO (r r':R2) (ta tb tc:TE):TE:=λ σ H Q=>ta σ H λ x H1=>tb σ H1 λ y H2=>r x y H2 λ z H3=>∃ k,z=.bl k /\
 (if k=true then tc σ H3 λ w' H4=>r' y w' H4 Q else Q (.bl false) H3)
theorem kFR {op op':CmpOp} {r r':R2} (ho:OpR X (compareOp op) r) (ho':OpR X (compareOp op') r') (ha:PE X a ta) (hb:PE X b tb) (hc:PE X c tc)
  (hm:lastMarks [op,op'] [b,c]=false:=by with_unfolding_all rfl):PE X (.Compare a [op,op'] [b,c] pos) (kKO r r' ta tb tc):=by
 intro pins s σ H Q I h
 refine Compare_chain (thn (ha pins s σ H _ I h) λ v s1 ⟨x,H1,I1,r1,q1⟩=>chain_link (thn (hb pins s1 σ H1 _ I1 q1) λ u s2 ⟨y,H2,I2,r2,q2⟩ =>
  thn (ho pins s2 σ H2 x y v u _ I2 r1 r2 q2) λ d s3 ⟨z,H3,I3,r3,k,e,q3⟩=>?_)) hm
 subst e;cases r3
 refine wpAny_truthy_bool ?_
 cases k with
 | false=>exact ite_ff ⟨.bl false,H3,I3,rfl,q3⟩
 | true=>exact ite_tt (chain_last (thn (hc pins s3 σ H3 _ I3 q3) λ w' s4 ⟨z',H4,I4,r4,q4⟩=>ho' pins s4 σ H4 y z' u w' Q I4 r2 r4 q4))
def kNS (K:PySem.W.Frag) (x:V) (H:Hp) (k:Bool):Prop :=
 match x with
 | .non=>k=false
 | .bl b=>k=b
 | .int i=>k=(i != 0)
 | .str y=>y.length<=sizeLine/\k=((y.length:Int) != 0)
 | .byt y=>y.size<=sizeLine/\k=((y.size:Int) != 0)
 | .ref p=>(∃ xs,SqL K H p xs/\k = !xs.isEmpty)\/(∃ xs,SqT K H p xs/\k = !xs.isEmpty)\/∃ kvs,H p=some (.dK kvs)/\k = !kvs.isEmpty
 | _=>False
theorem tY {κ:Type} {kvs:List (κ×V)} {vs:List (κ×Value)} (r:KV kvs vs):(!vs.isEmpty) = !kvs.isEmpty:=by
 cases r<;>rfl
theorem gK {xs:List V} {its:List Value} (r:Vals xs its):(!its.toArray.isEmpty) = !xs.isEmpty:=by
 cases r<;>simp
theorem cS:(sizeLine:Nat)<2 ^ 63:=by rw [sizeLine_eq];decide
theorem kKL:kOP X (λ x H Q=>∃ k,kNS X.K x H k/\Q k H):=by
 intro pins s σ H x v Q I rx h;obtain ⟨k,e,q⟩:=h;have hl:=cS;have hs:sizeLine=16777216:=sizeLine_eq
 cases x with
 | non =>
  cases rx
  have e':k=false:=e;subst e';exact truthy_none ⟨H,I,q⟩
 | bl b =>
  cases rx
  have e':k=b:=e;subst e';exact wpAny_truthy_bool ⟨H,I,q⟩
 | int i =>
  obtain ⟨t,rfl⟩:=rx;have e':k=(i != 0):=e;subst e';exact PySem.P.truthy_int ⟨H,I,q⟩
 | str y =>
  obtain ⟨t,rfl⟩:=rx;obtain ⟨hy,e'⟩ : y.length<=sizeLine/\k=((y.length:Int) != 0):=e;subst e';exact PySem.P.truthy_str (by omega) ⟨H,I.tok _,q⟩
 | byt y =>
  obtain ⟨t,rfl⟩:=rx;obtain ⟨hy,e'⟩ : y.size<=sizeLine/\k=((y.size:Int) != 0):=e;subst e';exact PySem.W.truthy_bytes (by omega) ⟨H,I.tok _,q⟩
 | ref p =>
  cases rx
  have e':(∃ xs,SqL X.K H p xs/\k = !xs.isEmpty)\/(∃ xs,SqT X.K H p xs/\k = !xs.isEmpty)\/∃ kvs,H p=some (.dK kvs)/\k = !kvs.isEmpty:=e;rcases e' with ⟨xs,hx,e'⟩ | ⟨xs,hx,e'⟩ | ⟨kvs,hx,e'⟩
  ·subst e'
   obtain ⟨its,r,pl,hz⟩:=I.list hx;have hlen:=r.length;exact wpAny_truthy_list pl.isList (by simp only [size_toArray];omega) ⟨H,I.tok _,by rw [gK r];exact q⟩
  ·subst e'
   obtain ⟨its,r,pl,hz⟩:=I.tuple hx;have hlen:=r.length;exact truthy_tuple pl (by simp only [size_toArray];omega) ⟨H,I.tok _,by rw [gK r];exact q⟩
  ·subst e'
   obtain ⟨hz,hS,vs,r,m⟩ : kvs.length<=sizeLine/\(p == sysModules)=false/\∃ vs,KV kvs vs/\s.heap.DictOf (qY X.prog X.w) p vs:=I.hok p _ hx;have hlen:kvs.length=vs.length:=Paired.length r;exact wpAny_truthy_dict hS m (by omega) ⟨H,I.tok _,by rw [tY r];exact q⟩
 | _=>exact (show False from e).elim
theorem kFJ (ha:PE X a ta) (he:∀ vR,isTrue a X.env vR=(do let v <-vR;standAt a.pos;holding [v] (truthy v))) :
  PT X a (λ σ H Q=>ta σ H λ x H'=>∃ k,kNS X.K x H' k/\Q k H'):=by
 intro pins s σ H Q I h;exact isTrue_plain (thn (ha pins s σ H _ I h) λ v s1 ⟨x,H1,I1,r1,q1⟩=>kKL pins s1 σ H1 x v Q I1 r1 q1) (he _)
theorem uS {x:V} {us:List Value} (r:Vals [x] us):∃ u,us=[u]/\RelV x u:=by
 cases r with
 | cons r1 r2=>cases r2;exact ⟨_,rfl,r1⟩
theorem pK {x y:V} {us:List Value} (r:Vals [x,y] us):∃ u w',us=[u,w']/\RelV x u/\RelV y w':=by
 cases r with
 | cons r1 r2 =>
  cases r2 with
  | cons r3 r4=>cases r4;exact ⟨_,_,rfl,r1,r3⟩
theorem kHG:yG X (.builtin "abs") (λ xs H Q=>∃ i,xs=[.int i]/\Q (.int (if i<0 then -i else i)) H):=by
 intro pins s σ H xs us Q I r h;obtain ⟨i,rfl,q⟩:=h;obtain ⟨u,rfl,t,rfl⟩:=uS r;exact call_abs_int λ u tk=>⟨.int (if i<0 then -i else i),H,I.tok _,⟨_,rfl⟩,q⟩
theorem mP (hc:X.calm=true):yG X (.builtin "max") (λ xs H Q=>∃ i j,xs=[.int i,.int j]/\Q (.int (if j>i then j else i)) H):=by
 intro pins s σ H xs us Q I r h;obtain ⟨i,j,rfl,q⟩:=h;obtain ⟨u,w',rfl,⟨t,rfl⟩,⟨t',rfl⟩⟩:=pK r;refine max_two_ints (I.ok.hd hc) λ h' tk k=>⟨_,H,I.kept k,?_,q⟩;by_cases hj:j>i
 ·rw [if_pos hj,if_pos hj];exact ⟨_,rfl⟩
 ·rw [if_neg hj,if_neg hj];exact ⟨_,rfl⟩
theorem kDZ (hc:X.calm=true):yG X (.builtin "min") (λ xs H Q=>∃ i j,xs=[.int i,.int j]/\Q (.int (if j<i then j else i)) H):=by
 intro pins s σ H xs us Q I r h;obtain ⟨i,j,rfl,q⟩:=h;obtain ⟨u,w',rfl,⟨t,rfl⟩,⟨t',rfl⟩⟩:=pK r;refine min_two_ints (I.ok.hd hc) λ h' tk k=>⟨_,H,I.kept k,?_,q⟩;by_cases hj:j<i
 ·rw [if_pos hj,if_pos hj];exact ⟨_,rfl⟩
 ·rw [if_neg hj,if_neg hj];exact ⟨_,rfl⟩
end
structure ObjM (h:Heap) (x dx C:Addr) (mA:Str->Option Value):Prop where
 obj:h.get? x=some (PySem.W.instObj C dx)
 ns:h.Ns1 dx mA
 ne:dx≠x
theorem kDF {h:Heap} {dx:Addr} {mA:Str->Option Value} (n:h.Ns1 dx mA):∃ od,h.get? dx=some od/\∀ name,PySem.W.lookIn name od=some (mA name):=by
 obtain ⟨o,es,ep,ho,hd,hk,_,hm⟩:=n;refine ⟨o,ho,λ name=>?_⟩;have e:=hm name;unfold nsFind findBy at e;rw [<-Array.find?_toList] at e;unfold PySem.W.lookIn;rw [hd];dsimp only
 split
 ·rename_i y q
  rw [q] at e;exact congrArg some e
 ·rename_i q
  rw [q] at e
  have a:es.toList.any (·.refKey)=false:=by
   rw [List.any_eq_false];intro y hy;obtain ⟨z,t,hkey⟩:=hk y (Array.mem_toList_iff.mp hy);simp [DictEntry.refKey,hkey]
  have a':¬ es.toList.any (·.refKey)=true:=by rw [a];exact Bool.false_ne_true
  rw [if_neg a'];exact congrArg some e
theorem ObjM.look {h:Heap} {x dx C:Addr} {mA:Str->Option Value} (I:ObjM h x dx C mA):∃ od,PySem.W.InstAt h x (PySem.W.instObj C dx) C (some od)/\∀ name,PySem.W.lookIn name od=some (mA name) :=
 let ⟨od,ho,hl⟩:=kDF I.ns
 ⟨od,⟨I.obj,rfl,rfl,ho⟩,hl⟩
section
variable {prog:Program} {w:World} {A:Around} {E:Value->Shared->Prop} {s:Shared} {K:PySem.W.Frag} {x dx C f:Addr} {mA:Str->Option Value} {name:Str} {v:Value}
end
section
variable {P:Program} {w:World} {H H':Hp} {h h':Heap} {a C dx:Addr} {fs fs':List (Str×V)}
theorem kJF (hok:HOk P w H h) (e:H a=some (.ins C dx fs)):∃ mA,ObjM h a dx C mA/\(∀ f,RelO (fs.lookup f) (mA f))/\PySem.Within mA (fs.map (·.1))/\fs.length<=1000/\H dx=some (.own a):=by
 obtain ⟨d,z,ne,ob,mA,n,r,q⟩:=(show ObjOk P w H h a (.ins C dx fs) from hok a _ e);exact ⟨mA,⟨ob,n,ne⟩,r,q,z,d⟩
end
structure Cls (K:PySem.W.Frag) (C:Addr):Prop where
 pg:PySem.W.plainGet K C Str.empty=true
 hd:PySem.W.hasDictIn K C=true
 po:PySem.W.plainOver K C=true
 sa:PySem.W.findIn K (.ref C) "__setattr__" = some (some (.builtin "object.__setattr__"))
theorem Cls.get {K:PySem.W.Frag} {C:Addr} (c:Cls K C) (f:Str):PySem.W.plainGet K C f=true:=c.pg
section
variable {X:Cx} {pins:List (Addr×Obj)} {σ:St} {H:Hp} {s:Shared} {a C dx:Addr} {fs:List (Str×V)} {f:Str} {v:V} {A:Around} {E:Value->Shared->Prop}
end
section
variable {X:Cx} {o e value:Expr} {f:Str} {pos pos' tpos:Pos} {ta tv:TE}
end
section
variable {X:Cx} {pins:List (Addr×Obj)} {σ:St} {H:Hp} {s:Shared} {A:Around} {E:Value->Shared->Prop} {Q:Value->Shared->Prop} {c:Value} {b:Bool}
inductive TyOf (K:PySem.W.Frag) (H:Hp):V->Value->Prop where
 | non:TyOf K H .non (.type "NoneType")
 | bl (x:Bool):TyOf K H (.bl x) (.type "bool")
 | int (i:Int):TyOf K H (.int i) (.type "int")
 | str (x:Str):TyOf K H (.str x) (.type "str")
 | flt (x:UInt64):TyOf K H (.flt x) (.type "float")
 | lst {a:Addr} {xs:List V} (e:H a=some (.lst xs)):TyOf K H (.ref a) (.type "list")
 | frz {a:Addr} {o:Obj} {xs:List V} (e:H a=some (.frz o (.lst xs))):TyOf K H (.ref a) (.type "list")
 | tup {a:Addr} {xs:List V} (e:H a=some (.tup xs)):TyOf K H (.ref a) (.type "tuple")
 | dK {a:Addr} {kvs:List (Key×V)} (e:H a=some (.dK kvs)):TyOf K H (.ref a) (.type "dict")
 | dT {a:Addr} {kvs:List (List Key×V)} (e:H a=some (.dT kvs)):TyOf K H (.ref a) (.type "dict")
 | ins {a C dx:Addr} {fs:List (Str×V)} (e:H a=some (.ins C dx fs)) (cl:Cls K C) (ha:PySem.W.findIn K (.ref C) "__class__" = some (some (.builtin "object.__class__")))
   (hn:PySem.W.specialIn K (.builtin "object.__class__") "__get__" = some (some (.builtin "getset_descriptor.__get__"))) (htk:PySem.W.takesIn K (.builtin "object.__class__")=some true)
   (hm:PySem.W.mroIn K C (.type "object")=some true):TyOf K H (.ref a) (.ref C)
theorem kDK {x:V} {u t:Value} (I:Inv X pins σ H s) (rx:RelV x u) (ty:TyOf X.K H x t) (e:PySem.W.kitOne X.K t c=some b) (h:∀ tk,Q (.bool b) { s with toks:=tk }) :
  wpAny (model X.prog X.w) A (call (.builtin "isinstance") [u,c]) Q E s:=by
 cases ty with
 | non=>cases (show u=Value.none from rx);exact PySem.W.kia_one PySem.W.kitx_none I.kIn True.intro e (λ z=>nomatch z) h
 | bl y=>cases (show u=Value.bool y from rx);exact PySem.W.kia_one PySem.W.kitx_bool I.kIn True.intro e (λ z=>nomatch z) h
 | int i=>obtain ⟨t,q⟩:=(show ∃ t,u=Value.int i t from rx);cases q;exact PySem.W.kia_one PySem.W.kitx_int I.kIn True.intro e (λ z=>nomatch z) h
 | str y=>obtain ⟨t,q⟩:=(show ∃ t,u=Value.str y t from rx);cases q;exact PySem.W.kia_one PySem.W.kitx_str I.kIn True.intro e (λ z=>nomatch z) h
 | flt y=>obtain ⟨t,q⟩:=(show ∃ t,u=Value.float y t from rx);cases q;exact PySem.W.kia_one PySem.W.kitx_float I.kIn True.intro e (λ z=>nomatch z) h
 | @lst a xs ea =>
  cases (show u=Value.ref a from rx)
  obtain ⟨_,_,n,_,h1⟩:=(show ObjOk X.prog X.w H s.heap a (.lst xs) from I.hok a _ ea);exact PySem.W.kia_one PySem.W.kitx_list I.kIn ⟨_,h1,rfl⟩ e (λ z=>nomatch z) h
 | @frz a ob xs ea =>
  cases (show u=Value.ref a from rx)
  obtain ⟨_,_,_,n,_,h1⟩:=(show ObjOk X.prog X.w H s.heap a (.frz ob (.lst xs)) from I.hok a _ ea);exact PySem.W.kia_one PySem.W.kitx_list I.kIn ⟨_,h1,rfl⟩ e (λ z=>nomatch z) h
 | @tup a xs ea =>
  cases (show u=Value.ref a from rx)
  obtain ⟨_,_,_,p⟩:=(show ObjOk X.prog X.w H s.heap a (.tup xs) from I.hok a _ ea);obtain ⟨o,h1,h2,_⟩:=p;exact PySem.W.kia_one PySem.W.kitx_tuple I.kIn ⟨o,h1,h2⟩ e (λ z=>nomatch z) h
 | @dK a kvs ea =>
  cases (show u=Value.ref a from rx)
  obtain ⟨_,_,vs,_,p⟩:=(show ObjOk X.prog X.w H s.heap a (.dK kvs) from I.hok a _ ea);obtain ⟨o,es,ep,h1,h2,_⟩:=p;exact PySem.W.kia_one PySem.W.kitx_dict I.kIn ⟨o,h1,h2.1⟩ e (λ z=>nomatch z) h
 | @dT a kvs ea =>
  cases (show u=Value.ref a from rx)
  obtain ⟨_,_,xs,_,o,es,ep,h1,h2,_⟩:=(show ObjOk X.prog X.w H s.heap a (.dT kvs) from I.hok a _ ea);exact PySem.W.kia_one PySem.W.kitx_dict I.kIn ⟨o,h1,h2.1⟩ e (λ z=>nomatch z) h
 | @ins a C dx fs ea cl ha hn htk hm =>
  cases (show u=Value.ref a from rx)
  obtain ⟨mA,O,_⟩:=kJF I.hok ea;obtain ⟨od,J,_⟩:=O.look;exact PySem.W.kia_one (PySem.W.kitx_own (cl.get _) cl.hd ha hn htk hm) I.kIn J e (λ z=>nomatch z) h
end
structure Room (k:Nat) (A:Around):Prop where
 hd:A.handled=none
 dp:A.depth+3*k+5<recursionLimit
 un:A.units+16*k+200<cLine
 gd:A.guards=some []
theorem Room.mono {j k:Nat} {A:Around} (r:Room k A) (h:j<=k):Room j A:=⟨r.hd,by have:=r.dp;omega,by have:=r.un;omega,r.gd⟩
theorem Room.deeper {k:Nat} {A:Around} (r:Room (k+1) A) (env:Env):Room k (A.deeper env) :=
 ⟨r.hd,by have:=r.dp;show A.depth+1+3*k+5<_;omega,by have:=r.un;show A.units+3+16*k+200<_;omega,r.gd⟩
theorem Room.depth {k:Nat} {A:Around} (r:Room k A):A.depth<recursionLimit:=by have:=r.dp;omega
theorem Room.units {k:Nat} {A:Around} (r:Room k A):A.units+64<cLine:=by have:=r.un;omega
def kMJ:TA:=λ _ H Q=>Q [] H
def kJS (ta:TE) (tr:TA):TA:=λ σ H Q=>ta σ H λ x H1=>tr σ H1 λ xs H2=>Q (x::xs) H2
section
variable {X:Cx} {e:Expr} {es:List Expr} {te:TE} {t:TA} {pos:Pos}
theorem kD:PA X [] kMJ:=λ _ _ _ _ H Q I h=>Calls.spliced_nil ⟨[],H,I,.nil,h⟩
theorem kB (ha:PE X e te) (hr:PA X es t) (hs:starEach (e::es) X.env=(false,eval e X.env)::starEach es X.env:=by rfl):PA X (e::es) (kJS te t):=by
 intro pos pins s σ H Q I h;rw [hs];show wpAny _ _ (spliced ((false,eval e X.env)::backTo pos (starEach es X.env))) _ _ s;refine Calls.spliced_cons (thn (ha pins s σ H _ I h) λ u s1 ⟨x,H1,I1,r1,q1⟩=>?_);exact thn (hr pos pins s1 σ H1 _ I1 q1) λ us s2 ⟨xs,H2,I2,r2,q2⟩=>⟨x::xs,H2,I2,.cons r1 r2,q2⟩
def kNU (t:TA):TE:=λ σ H Q=>t σ H λ xs H1=>xs.length<=sizeLine/\∀ p,H1 p=none->Q (.ref p) (upd H1 p (.tup xs))
def kOA (t:TA):TE:=λ σ H Q=>t σ H λ xs H1=>xs.length<=sizeLine/\∀ p,H1 p=none->Q (.ref p) (upd H1 p (.lst xs))
theorem qW {x1} (h:PA X es t):PE X (.Tuple es x1 pos) (kNU t):=by
 intro pins s σ H Q I hq;refine wpAny_Tuple_spliced (thn (h pos pins s σ H _ I hq) λ us s1 ⟨xs,H1,I1,r,z,q⟩=>⟨by rw [<-r.length];exact z,?_⟩);have hf:H1 s1.heap.objs.size=none:=I1.hok.fresh (Nat.le_refl _);refine ⟨.ref s1.heap.objs.size,upd H1 s1.heap.objs.size (.tup xs),I1.laid (t':=s1.toks) (λ b u e=>Heap.get?_push_of_some _ e) (Nat.le_refl _) ?_,rfl,q _ hf⟩;exact ⟨z,us,r,⟨_,Heap.get?_push_size _ rfl,rfl,_,rfl,rfl⟩⟩
theorem qS (h:PA X es t):PE X (.List es pos) (kOA t):=by
 intro pins s σ H Q I hq;refine wpAny_List_spliced (thn (h pos pins s σ H _ I hq) λ us s1 ⟨xs,H1,I1,r,z,q⟩=>⟨by rw [<-r.length];exact z,?_⟩);have hf:H1 s1.heap.objs.size=none:=I1.hok.fresh (Nat.le_refl _);refine ⟨.ref s1.heap.objs.size,upd H1 s1.heap.objs.size (.lst xs),I1.laid (t':=s1.toks) (λ b u e=>Heap.get?_push_of_some _ e) (Nat.le_refl _) ?_,rfl,q _ hf⟩;exact ⟨z,us,0,r,Heap.get?_push_size _ rfl⟩
end
abbrev Sp:=List V->Hp->VK->XK->Prop
abbrev CXT:=List Env->Hp->Shared->XK->Value->Shared->Prop
structure Env0 (P:Program) (w:World) (K:PySem.W.Frag) (mg:Str->Option Value) (base:Heap) (A:Around) (outer:List Env) (s:Shared) (H:Hp):Prop where
 frames:A.frames=some outer
 mod:Mod K mg base
 bs:∀ b o,base.get? b=some o->s.heap.get? b=some o/\H b=none
 bsz:base.objs.size<=s.heap.objs.size
 funs:s.heap.FunFrames base outer
 frf:∀ b∈frs outer,H b=none
 hok:HOk P w H s.heap
 bare:AllBare s.gens
def CE (outer:List Env) (P:Program) (w:World) (H:Hp) (s:Shared) (Q:VK) (u:Value) (s':Shared):Prop :=
 ∃ v H',s'.os=s.os/\AllBare s'.gens/\Un (frs outer) [] H H' s.heap s'.heap/\HOk P w H' s'.heap/\RelV v u/\Q v H'
def CR (CX:CXT) (outer:List Env) (P:Program) (w:World) (H:Hp) (s:Shared) (Q:VK) (E:XK) (r:Result) (s':Shared):Prop :=
 match r with
 | .ok (.ret u)=>CE outer P w H s Q u s'
 | .ok _=>False
 | .error e=>CX outer H s E e s'
structure FnOk (P:Program) (w:World) (K:PySem.W.Frag) (mg:Str->Option Value) (base:Heap) (CX:CXT) (k:Nat) (f:Addr) (fd:FuncData) (ps:List Str) (sp:Sp):Prop where
 len:∀ vs H Q E,sp vs H Q E->vs.length=ps.length
 run:∀ (A:Around) (outer:List Env) (s:Shared) (H:Hp) (args:Args) (us:List Value) (vs:List V) (Q:VK) (E:XK),Room k A->Env0 P w K mg base A outer s H->BindsTo s fd args (ps.zip us)->Vals vs us->sp vs H Q E ->
  codeAny (model P w) A (.call (.ref f) args) (CR CX outer P w H s Q E) s
section
variable {X:Cx} {pins:List (Addr×Obj)} {σ:St} {H:Hp} {s s':Shared}
theorem Inv.env0 (I:Inv X pins σ H s):Env0 X.prog X.w X.K X.mg X.base X.A X.stack s H :=
 ⟨I.ok.frames,I.ok.mod,I.bs,Nat.le_trans I.ok.bsz I.sz,I.stack,I.stkFree,I.hok,I.bare⟩
theorem Inv.after {Q:VK} {u:Value} (I:Inv X pins σ H s) (h:CE X.stack X.prog X.w H s Q u s'):EP X pins σ Q u s':=by
 obtain ⟨v,H',os,bare,un,hok,r,q⟩:=h;obtain ⟨hh,g,d,t,os'⟩:=s';obtain rfl:os'=s.os:=os;exact ⟨v,H',I.call (h':=hh) (g':=g) (d':=d) (t':=t) (ch:=[]) un hok bare (λ b z=>absurd z (by simp)),r,q⟩
end
def kJT (sp:Sp) (dvs:List V) (E:XK) (t:TA):TE:=λ σ H Q=>t σ H λ vs H1=>sp (vs++dvs) H1 Q E
def Binds (K:PySem.W.Frag) (fd:FuncData) (ps:List Str) (ds:List Value):Prop :=
 ∀ (s:Shared) (us:List Value),K.In s.heap->(us++ds).length=ps.length->BindsTo s fd ⟨us,[]⟩ (ps.zip (us++ds))
theorem Binds.all {K:PySem.W.Frag} {fd:FuncData} {ps:List Str} (h:∀ us:List Value,us.length=ps.length->bindArgs fd ⟨us,[]⟩=pure (ps.zip us)):Binds K fd ps []:=λ s us _ hl=>by
 rw [append_nil] at hl ⊢;exact .of_eq (h us hl)
def kAG (CX:CXT) (X:Cx) (E:XK):Prop:=∀ (pins:List (Addr×Obj)) (σ:St) (H:Hp) (s:Shared) (e:Value) (s':Shared),Inv X pins σ H s->CX X.stack H s E e s'->X.xe e s'
section
variable {X:Cx} {CX:CXT} {k:Nat} {f C:Addr} {fd:FuncData} {ps:List Str} {sp:Sp} {dvs:List V} {ds:List Value} {E:XK} {x m:Str} {p pos apos:Pos} {e o:Expr} {es:List Expr} {ta:TE} {t:TA}
theorem kKR {pins:List (Addr×Obj)} {σ:St} {H:Hp} {s:Shared} {Q:VK} {us:List Value} {vs:List V} (F:FnOk X.prog X.w X.K X.mg X.base CX k f fd ps sp) (hr:Room k X.A) (hb:Binds X.K fd ps ds) (hd:Vals dvs ds) (hx:kAG CX X E)
  (I:Inv X pins σ H s) (r:Vals vs us) (h:sp (vs++dvs) H Q E):wpAny (model X.prog X.w) X.A (call (.ref f) us) (EP X pins σ Q) X.xe s:=by
 have r2:Vals (vs++dvs) (us++ds):=r.append hd;have hl:(us++ds).length=ps.length:=by rw [<-r2.length];exact F.len _ _ _ _ h
 refine wpAny_call (codeAny_mono (F.run X.A X.stack s H ⟨us,[]⟩ (us++ds) (vs++dvs) Q E hr I.env0 (hb s us I.kIn hl) r2 h) λ r s' hq=>?_)
 cases r with
 | error e=>exact hx pins σ H s e s' I hq
 | ok fl =>
  cases fl with
  | ret u=>exact I.after hq
  | next=>exact False.elim hq
  | brk=>exact False.elim hq
  | cont=>exact False.elim hq
theorem kIK (F:FnOk X.prog X.w X.K X.mg X.base CX k f fd ps sp) (hr:Room k X.A) (hg:Gl X x) (hm:X.mg x=some (.ref f)) (hk:PySem.W.keepIn X.K (.ref f)=true) (hb:Binds X.K fd ps ds) (hd:Vals dvs ds) (hx:kAG CX X E)
  (ha:PA X (e::es) t) (hdb:(x == ("__debug__" : Str))=false:=by decide) (he:starEach (e::es) X.env=(false,eval e X.env)::starEach es X.env:=by rfl) (hpl:(backTo pos (starEach es X.env)).any (·.1)=false:=by rfl) :
  PE X (.Call (.Name x p) (e::es) [] pos) (kJT sp dvs E t):=by
 intro pins s σ H Q I h;refine wpAny_Call_Name_kw (kIZ I hg hm ?_ hdb);refine PySem.W.callWith_K (h₀:=X.base) I.ok.mod.kin hk (thn (ha pos pins s σ H _ I h) λ us s1 ⟨vs,H1,I1,r,q⟩=>⟨I1.kIn,?_⟩) he hpl;exact kKR F hr hb hd hx I1 r q
end
section
variable {X:Cx} {CX:CXT} {k:Nat} {f C:Addr} {fd:FuncData} {ps ks:List Str} {sp:Sp} {E:XK} {x m:Str} {p pos apos kpos:Pos} {e o:Expr} {es:List Expr} {kws:List Keyword} {te ta:TE} {t tk:TA} {nm:Option Str}
variable {g:List Value->List Value->List Value} {gV:List V->List V->List V}
end
structure FnScope (N P:List Str) (sc:Scope):Prop where
 kind:sc.kind=.function
 co:sc.isCoroutine=false
 gen:sc.isGenerator=false
 nd:N.Nodup
 pre:N.take P.length=P
 par:∀ x∈P,sc.names.lookup x=some .local\/sc.names.lookup x=some .cell
 nofree:∀ y∈sc.names,y.2≠.free
theorem mQ {kindOf:Str->Option NameKind} {x:Str}:∀ {binds:List (Str×Value)} {m:Str->Option Value},(∀ v,(x,v)∉binds)->bindL kindOf binds m x=m x
 | [],_,_=>rfl
 | (n,v)::r,m,h=>by
  unfold bindL;rw [mQ λ w hw=>h w (mem_cons_of_mem _ hw)]
  split
  ·have:x≠n:=by rintro rfl;exact h v mem_cons_self
   simp [this]
  ·rfl
theorem mS {kindOf:Str->Option NameKind} {x:Str}:∀ {binds:List (Str×Value)} {m:Str->Option Value},(∀ v,(x,v)∉binds)->bindC kindOf binds m x=m x
 | [],_,_=>rfl
 | (n,v)::r,m,h=>by
  unfold bindC;rw [mS λ w hw=>h w (mem_cons_of_mem _ hw)]
  split
  ·rfl
  ·have:x≠n:=by rintro rfl;exact h v mem_cons_self
   simp [this]
theorem mR {kindOf:Str->Option NameKind} {x:Str} {v:Value}:∀ {P:List Str} {vs:List Value} {i:Nat} {m:Str->Option Value},P.Nodup->P[i]?=some x->vs[i]?=some v->kindOf x=some .local ->
  bindL kindOf (P.zip vs) m x=some v
 | [],_,_,_,_,h,_,_=>by simp at h
 | _::_,[],_,_,_,_,h,_=>by simp at h
 | p::P,w::vs,0,m,nd,h1,h2,hk=>by
  simp at h1 h2;subst h1;subst h2;show bindL kindOf ((p,w)::P.zip vs) m p=_;unfold bindL;rw [mQ λ v hv=>(nodup_cons.mp nd).1 (List.of_mem_zip hv).1,if_pos hk];simp
 | p::P,w::vs,i+1,m,nd,h1,h2,hk=>by
  show bindL kindOf ((p,w)::P.zip vs) m x=_;unfold bindL;exact mR (i:=i) (nodup_cons.mp nd).2 (by simpa using h1) (by simpa using h2) hk
theorem mT {kindOf:Str->Option NameKind} {x:Str} {v:Value}:∀ {P:List Str} {vs:List Value} {i:Nat} {m:Str->Option Value},P.Nodup->P[i]?=some x->vs[i]?=some v->kindOf x≠some .local ->
  bindC kindOf (P.zip vs) m x=some v
 | [],_,_,_,_,h,_,_=>by simp at h
 | _::_,[],_,_,_,_,h,_=>by simp at h
 | p::P,w::vs,0,m,nd,h1,h2,hk=>by
  simp at h1 h2;subst h1;subst h2;show bindC kindOf ((p,w)::P.zip vs) m p=_;unfold bindC;rw [mS λ v hv=>(nodup_cons.mp nd).1 (List.of_mem_zip hv).1,if_neg hk];simp
 | p::P,w::vs,i+1,m,nd,h1,h2,hk=>by
  show bindC kindOf ((p,w)::P.zip vs) m x=_;unfold bindC;exact mT (i:=i) (nodup_cons.mp nd).2 (by simpa using h1) (by simpa using h2) hk
def start (N:List Str) (vs:List V):St:=vs.map some++List.replicate (N.length-vs.length) none
def kDW (CX:CXT) (P:Program) (w:World) (K:PySem.W.Frag) (mg:Str->Option Value) (base:Heap) (N:List Str) (qual:Str) (scope:Scope) (f:Addr) (cd:Value) (A:Around) (outer:List Env) (s:Shared) (H:Hp) (E:XK):Cx where
 prog:=P
 w:=w
 K:=K
 mg:=mg
 base:=base
 A:=A.deeper (envOfC qual scope s.heap.objs.size f cd)
 N:=N
 s₀:=s
 H₀:=H
 env:=envOfC qual scope s.heap.objs.size f cd
 outer:=outer
 stack:=envOfC qual scope s.heap.objs.size f cd::outer
 ex:=[]
 calm:=true
 fn:=λ _=>true
 pn:=[]
 xe:=λ e s'=>wpAny (model P w) (A.deeper (envOfC qual scope s.heap.objs.size f cd)) (leaving (envOfC qual scope s.heap.objs.size f cd) e) (λ _ s''=>CX outer H s E e s'') (λ e' s''=>CX outer H s E e' s'') s'
theorem sC {sc:Scope} {n:Nat} {x:Str} (h:sc.names.lookup x=some .cell):∃ c,(cellsFrom n sc.names []).lookup x=some c:=by
 have q:=PySem.W.cellsFrom_some sc.names n [] (.inl h);exact Option.isSome_iff_exists.mp q
theorem kDL {CX:CXT} {P:Program} {w:World} {K:PySem.W.Frag} {mg:Str->Option Value} {base:Heap} {N ps:List Str} {qual:Str} {scope:Scope} {f:Addr} {cd:Value} {A:Around} {outer:List Env} {s s1:Shared} {H:Hp} {E:XK} {us:List Value} {vs:List V}
  (S:FnScope N ps scope) (hd:A.handled=none) (e0:Env0 P w K mg base A outer s H) (hl:vs.length=ps.length) (r:Vals vs us)
  (x:InCallC s s.heap.objs.size (bindL (envOfC qual scope s.heap.objs.size f cd).kindOf (ps.zip us) λ _=>none) (cellsFrom (s.heap.objs.size+1) scope.names []) (bindC (envOfC qual scope s.heap.objs.size f cd).kindOf (ps.zip us) λ _=>none) s1) :
  Inv (kDW CX P w K mg base N qual scope f cd A outer s H E) [] (start N vs) H s1:=by
 have hpl:ps.length<=N.length:=by have:=congrArg List.length S.pre;rw [length_take] at this;omega
 obtain ⟨h1,tk,rfl,hk⟩:=x.done;have noA:∀ b:Addr,b∉(kDW CX P w K mg base N qual scope f cd A outer s H E).ex:=λ b z=>absurd (show b∈([]:List Addr) from z) (by simp)
 refine ⟨⟨e0.mod,S.kind,rfl,rfl,Nat.le_refl _,λ y z c h1 h2=>?_,λ y hy=>?_,λ y c _ h=>?_,λ _=>hd,Around.frames_deeper e0.frames,.inr ⟨rfl,rfl⟩,λ b z=>absurd z (noA b),e0.bs,e0.bsz,λ b _ _=>noA b,λ b z=>absurd z (noA b),e0.funs,e0.frf⟩,
  rfl,e0.bare,Un.kept hk,⟨_,x.toInCall.ns,λ i y v h1 h2 h3=>?_⟩,λ y c h=>⟨_,x.cell y c h⟩,e0.hok.fresh (Nat.le_refl _),λ y c h=>?_,λ p hp=>absurd (show p∈([]:List (Addr×Obj)) from hp) (by simp),e0.hok.kept hk,?_⟩
 ·exact name_of_addr x.apart (PySem.mem_of_lookup h1) (PySem.mem_of_lookup h2)
 ·have hy:scope.names.lookup y=some .cell\/scope.names.lookup y=some .free:=hy
  rcases hy with hy | hy
  ·exact sC hy
  ·exact absurd rfl (S.nofree _ (PySem.mem_of_lookup hy))
 ·exact Nat.le_of_lt (x.above y c (PySem.mem_of_lookup h))
 ·have hi:i<vs.length:=by
   unfold start at h2;by_cases hi:i<vs.length
   ·exact hi
   ·rw [List.getElem?_append_right (by simpa using hi)] at h2
    rw [List.getElem?_replicate] at h2
    split at h2<;>cases h2
  have ha:vs[i]?=some v:=by
   unfold start at h2;rw [List.getElem?_append_left (by simpa using hi),List.getElem?_map] at h2
   cases e:vs[i]? with
   | none=>rw [e] at h2;cases h2
   | some a=>rw [e] at h2;cases h2;rfl
  obtain ⟨u,hu,rv⟩:=r.get ha
  have hp:ps[i]?=some y:=by
   rw [<-S.pre,List.getElem?_take_of_lt (by omega)];exact h1
  have ndP:ps.Nodup:=by rw [<-S.pre];exact S.nd.sublist (List.take_sublist _ _)
  refine ⟨u,rv,?_⟩;rcases S.par y (mem_of_getElem? hp) with k | k
  ·exact .inl ⟨k,mR ndP hp hu k⟩
  ·obtain ⟨c,e⟩:=sC (n:=s.heap.objs.size+1) k
   refine .inr ⟨.inl k,c,e,?_⟩;have q:=x.cell y c e;rw [mT ndP hp hu (by show scope.names.lookup y≠_;rw [k];decide)] at q;exact q
 ·exact e0.hok.fresh (Nat.le_of_lt (x.above y c (PySem.mem_of_lookup h)))
 ·unfold start
  show _=N.length;rw [length_append,length_map,List.length_replicate];omega
theorem kNG {CX:CXT} {P:Program} {w:World} {K:PySem.W.Frag} {mg:Str->Option Value} {base:Heap} {k:Nat} {f:Addr} {name qual:Str} {params:Arguments} {body:List Stmt} {scope:Scope} {dV kV doc pm cdv ct oc:Value} {an od:Option Addr}
  {osl:Array (Option Value)} {N ps:List Str} {sp:Sp} (lk:K.lookup f=some ⟨oc,od,.func (PySem.W.fnOf name qual params body scope dV kV doc pm an cdv ct),osl⟩) (hcd:PySem.W.codeIn K cdv qual=true) (S:FnScope N ps scope)
  (len:∀ vs H Q E,sp vs H Q E->vs.length=ps.length)
  (hbody:∀ (A:Around) (outer:List Env) (s:Shared) (H:Hp) (vs:List V) (Q:VK) (E:XK),Room k (A.deeper (envOfC qual scope s.heap.objs.size f cdv))->sp vs H Q E ->
   ∃ t,PSs (kDW CX P w K mg base N qual scope f cdv A outer s H E) body t/\t { nx:=λ _ H'=>Q .non H',rt:=Q } (start N vs) H) :
  FnOk P w K mg base CX (k+1) f (PySem.W.fnOf name qual params body scope dV kV doc pm an cdv ct) ps sp:=by
 refine ⟨len,λ A outer s H args us vs Q E hr e0 hb r hsp=>?_⟩;have hl:=len _ _ _ _ hsp;have KX:K.In s.heap:=e0.mod.kin.keeps λ b o e=>(e0.bs b o e).1;have lim:s.heap.NoLimit:=e0.mod.nolimit.keeps λ b o e=>(e0.bs b o e).1
 have hkind:∀ y∈ps.zip us,scope.names.lookup y.1=some .local\/(scope.names.lookup y.1=some .cell/\((cellsFrom (s.heap.objs.size+1) scope.names []).lookup y.1).isSome=true):=λ ⟨n,v⟩ hy=>by
  rcases S.par n (List.of_mem_zip hy).1 with q | q
  ·exact .inl q
  ·exact .inr ⟨q,PySem.W.cellsFrom_some _ _ _ (.inl q)⟩
 refine codeAny_call_function hr.depth (KX _ _ lk) rfl S.co S.gen rfl (PySem.W.codeRec_of KX hcd) (hb _ _ _ _ ?_);refine wpAny_newFunctionEnv_cells S.kind hkind λ env he s1 x=>?_;subst he;refine ⟨lim.keeps x.toInCall.keep,codeAny_func ?_⟩;obtain ⟨t,ht,hq⟩:=hbody A outer s H vs Q E (hr.deeper _) hsp;have I:Inv (kDW CX P w K mg base N qual scope f cdv A outer s H E) [] (start N vs) H s1:=kDL S hr.hd e0 hl r x;refine wpAny_mono (ht [] s1 (start N vs) H _ I hq) (λ fl s' hs=>?_) λ e s' hs=>hs
 have fin:∀ {σ':St} {H':Hp} {v:V} {u:Value},Inv (kDW CX P w K mg base N qual scope f cdv A outer s H E) [] σ' H' s'->RelV v u->Q v H'->CE outer P w H s Q u s' :=
  λ {σ' H' v u} J rv q=>⟨v,H',J.os,J.bare,J.base,J.hok,rv,q⟩
 cases fl with
 | ret u =>
  obtain ⟨v,σ',H',J,rv,q⟩:=hs;exact fin J rv q
 | next =>
  obtain ⟨σ',H',J,q⟩:=hs;exact fin (v:=V.non) (u:=Value.none) J rfl q
 | brk =>
  obtain ⟨_,_,_,q⟩:=hs;exact False.elim q
 | cont =>
  obtain ⟨_,_,_,q⟩:=hs;exact False.elim q
section
variable {X:Cx} {x:Str} {p pos:Pos} {e:Expr} {es:List Expr} {t:TA} {id T:String} {r:List V->Hp->VK->Prop}
def tCB (r:List V->Hp->VK->Prop) (t:TA):TE:=λ σ H Q=>t σ H λ vs H1=>r vs H1 Q
theorem kP (hc:yG X (.builtin id) r) (hg:Gl X x) (hm:X.mg x=none) (hv:bootBuiltins x=some (.builtin id)) (ha:PA X (e::es) t) (hn:x≠"__name__":=by decide) (hdb:(x == ("__debug__" : Str))=false:=by decide)
  (he:starEach (e::es) X.env=(false,eval e X.env)::starEach es X.env:=by rfl) (hpl:(backTo pos (starEach es X.env)).any (·.1)=false:=by rfl):PE X (.Call (.Name x p) (e::es) [] pos) (tCB r t):=by
 intro pins s σ H Q I h;refine wpAny_Call_Name_kw (vK I hg hm hv ?_ hn hdb);exact PyProof.Rows.callWith_builtin1 (thn (ha pos pins s σ H _ I h) λ us s1 ⟨vs,H1,I1,r1,q1⟩=>hc pins s1 σ H1 vs us Q I1 r1 q1) he hpl
theorem qO (hc:yG X (.type T) r) (hg:Gl X x) (hm:X.mg x=none) (hv:bootBuiltins x=some (.type T)) (ha:PA X (e::es) t) (hn:x≠"__name__":=by decide) (hdb:(x == ("__debug__" : Str))=false:=by decide)
  (he:starEach (e::es) X.env=(false,eval e X.env)::starEach es X.env:=by rfl) (hpl:(backTo pos (starEach es X.env)).any (·.1)=false:=by rfl):PE X (.Call (.Name x p) (e::es) [] pos) (tCB r t):=by
 intro pins s σ H Q I h;refine wpAny_Call_Name_kw (vK I hg hm hv ?_ hn hdb);exact PyProof.Rows.callWith_type1 (thn (ha pos pins s σ H _ I h) λ us s1 ⟨vs,H1,I1,r1,q1⟩=>hc pins s1 σ H1 vs us Q I1 r1 q1) he hpl
end
end L2
namespace HT
open PySem PyProof.Rows
section
open PySem.SeqAt
open PySem.AutoSeq1 (wpAny_loadPart')
open PySem.MeetsSeq PySem.MeetsSeq2 PySem.MeetsSeq3
end
section
variable {prog:Program} {w:World} {A:Around} {E:Value->Shared->Prop} {s:Shared}
theorem cat_tup {t b:Addr} {vs ws:List Value} {Q:Value->Shared->Prop} (ht:IsTup s.heap t vs.toArray) (hb:IsTup s.heap b ws.toArray) (hv:vs≠[])
  (h1:ws=[]->Q (.ref t) s) (h2:ws≠[]->Q (.ref s.heap.objs.size) { s with heap:=s.heap.push { cls:=.type "tuple",data:=.seq (vs++ws).toArray } })
  (hsz:vs.length+ws.length<=sizeLine):wpAny (model prog w) A (binaryOp .Add (.ref t) (.ref b)) Q E s:=by
 obtain ⟨⟨cls,dd,data,sl⟩,ho,hc,n,hd⟩:=id ht;obtain ⟨⟨cls2,dd2,data2,sl2⟩,ho2,hc2,n2,hd2⟩:=id hb;simp only at hc hd hc2 hd2;subst hc hd hc2 hd2;have e:vs.toArray++ws.toArray=(vs++ws).toArray:=by simp
 by_cases hw:ws=[]
 ·exact concat_meets ⟨_,ho,rfl⟩ ⟨_,ho2,rfl⟩ noFill_tuple_add seq_tuple_add PySem.F.slot_tuple_add PySem.F.entry_tuple_add (PySem.F.args_tuple_add_2 _ _)
   (tuple_addW1 t b vs.toArray ws.toArray n n2 dd dd2 sl sl2 (by simpa using hv) (by simp [hw])) ⟨ho,ho2,h1 hw⟩
 ·refine concat_meets ⟨_,ho,rfl⟩ ⟨_,ho2,rfl⟩ noFill_tuple_add seq_tuple_add PySem.F.slot_tuple_add PySem.F.entry_tuple_add (PySem.F.args_tuple_add_2 _ _)
   (tuple_addW2 t b vs.toArray ws.toArray n n2 dd dd2 sl sl2 (by simpa using hv) (by simpa using hw) (by rw [size_toArray,size_toArray];exact hsz)) ⟨ho,ho2,?_⟩
  rw [e];exact h2 hw
def sIx (n d:Nat):Option Int->Nat
 | none=>d
 | some v=>if v<0 then (v+(n:Int)).toNat else min v.toNat n
theorem sIx_none (n d:Nat):sIx n d none=d:=rfl
theorem sIx_nat (n d k:Nat):sIx n d (some (k:Int))=min k n:=by
 show (if (k:Int)<0 then ((k:Int)+(n:Int)).toNat else min (k:Int).toNat n)=min k n;rw [if_neg (by omega),Int.toNat_natCast]
theorem kKQ (n d:Nat) (hd:d<=n) (o:Option Int):sIx n d o<=n:=by
 cases o with
 | none=>exact hd
 | some v =>
  show (if v<0 then (v+(n:Int)).toNat else min v.toNat n)<=n;by_cases hv:v<0
  ·rw [if_pos hv];omega
  ·rw [if_neg hv];exact Nat.min_le_right _ _
theorem kBK (v:Int) (n d:Nat):(if v<0 then max (v+(n:Int)) 0 else min v (n:Int))=((sIx n d (some v):Nat):Int):=by
 show (if v<0 then max (v+(n:Int)) 0 else min v (n:Int))=(((if v<0 then (v+(n:Int)).toNat else min v.toNat n):Nat):Int);by_cases hv:v<0
 ·simp only [if_pos hv];omega
 ·simp only [if_neg hv];omega
theorem kAF (lo hi:Option Int) (n:Nat):Builtin.Slice.sliceAdjust lo hi 1 (n:Int)=(((sIx n 0 lo:Nat):Int),((sIx n n hi:Nat):Int)):=by
 have h1:¬ ((1:Int)<0):=by omega
 unfold Builtin.Slice.sliceAdjust;simp only [h1,if_false];refine Prod.ext ?_ ?_
 ·cases lo with
  | none=>rfl
  | some v=>exact kBK v n 0
 ·cases hi with
  | none=>rfl
  | some v=>exact kBK v n n
theorem tE (i j:Nat):Builtin.Slice.slicePlaces (i:Int) (j:Int) 1=j-i:=by
 unfold Builtin.Slice.slicePlaces;have h1:(1:Int)>0:=by omega
 simp only [h1,if_true,Int.ediv_one]
 split<;>omega
theorem fV {v:Value} {o:Option Int} {Q:Option Int->Shared->Prop} (p:IsPart v o) (h:Q o s):wpAny (model prog w) A (Builtin.Slice.slicePartIndex v) Q E s:=by
 cases p with
 | none=>exact slicePart_none h
 | int i t=>exact slicePart_int h
theorem sliceApplied_gen {sl:Addr} {vl vu:Value} {lo hi:Option Int} {n:Nat} {Q:Int×Int×Nat->Shared->Prop} (hs:s.heap.IsSliceOf sl vl vu .none) (pl:IsPart vl lo) (pu:IsPart vu hi)
  (h:Q (((sIx n 0 lo:Nat):Int),1,sIx n n hi-sIx n 0 lo) s):wpAny (model prog w) A (Builtin.Slice.sliceApplied (.ref sl) (pure (n:Int))) Q E s:=by
 obtain ⟨os,hos,hcs,hds⟩:=id hs;unfold Builtin.Slice.sliceApplied Builtin.Slice.sliceFields;refine wpAny_bind (wpAny_bind (wpAny_field hos hds (x:=vl) rfl (wpAny_bind (wpAny_field hos hds (x:=vu) rfl (wpAny_bind (wpAny_field hos hds (x:=.none) rfl (wpAny_pure ?_)))))));refine wpAny_bind (slicePart_none ?_);show wpAny _ _ (if ((1:Int) == 0)=true then _ else _) _ _ s;rw [if_neg (by decide)];refine wpAny_bind (fV pl (wpAny_bind (fV pu (wpAny_bind (wpAny_pure ?_)))));show wpAny _ _ (match Builtin.Slice.sliceAdjust lo hi 1 (n:Int) with | (lo,hi)=>pure (lo,(1:Int),Builtin.Slice.slicePlaces lo hi 1)) _ _ s
 rw [kAF lo hi n];show wpAny _ _ (pure (((sIx n 0 lo:Nat):Int),(1:Int),Builtin.Slice.slicePlaces ((sIx n 0 lo:Nat):Int) ((sIx n n hi:Nat):Int) 1)) _ _ s;rw [tE];exact wpAny_pure h
theorem kFN (xs:Array Value) (i k:Nat):((List.range k).filterMap λ (m:Nat)=>xs[((i:Int)+(m:Int)*1).toNat]?).toArray=((xs.toList.drop i).take k).toArray:=by
 have e:(λ (m:Nat)=>xs[((i:Int)+(m:Int)*1).toNat]?)=λ m=>xs[i+m]?:=by
  funext m
  have:((i:Int)+(m:Int)*1).toNat=i+m:=by omega
  rw [this]
 rw [e];have:=pick_run xs i k;rw [List.filterMap_map] at this;have e2:((λ x=>xs[x]?)∘λ x=>i+x)=λ m=>xs[i+m]?:=rfl;rw [e2] at this;rw [this]
theorem getItem_tuple_cut {t sl:Addr} {items:Array Value} {vl vu:Value} {lo hi:Option Int} {Q:Value->Shared->Prop} (ht:IsTup s.heap t items) (hs:s.heap.IsSliceOf sl vl vu .none) (pl:IsPart vl lo) (pu:IsPart vu hi)
  (hw:¬ (sIx items.size 0 lo=0/\sIx items.size items.size hi=items.size))
  (h:Q (.ref s.heap.objs.size) { s with heap:=s.heap.push { cls:=.type "tuple",data:=.seq ((items.toList.drop (sIx items.size 0 lo)).take (sIx items.size items.size hi-sIx items.size 0 lo)).toArray } })
  (hsz:items.size<=sizeLine):wpAny (model prog w) A (getItem (.ref t) (.ref sl)) Q E s:=by
 have htake:sizeOk (.seq ((items.toList.drop (sIx items.size 0 lo)).take (sIx items.size items.size hi-sIx items.size 0 lo)).toArray):=by
  show ((items.toList.drop (sIx items.size 0 lo)).take (sIx items.size items.size hi-sIx items.size 0 lo)).toArray.size<=sizeLine;rw [size_toArray,length_take,length_drop,Array.length_toList];omega
 have hj:sIx items.size items.size hi<=items.size:=kKQ _ _ (Nat.le_refl _) hi;obtain ⟨os,hos,hcs,hds⟩:=id hs;have hTs:s.TypeIs (.ref sl) "slice":=⟨os,hos,hcs⟩;unfold getItem
 try with_reducible refine wpAny_holding ?_
 first | refine wpAny_bind (wpAny_pure ?_) | skip
 refine wpAny_bind (wpAny_sequenceKey ht.typeIs (by decide) ?_)
 refine wpAny_bind (wpAny_callSpecial?_slot (name:=Str.ofString "__getitem__") ht.typeIs PyProof.Rows.slot_tuple_getitem
  (wpAny_call_entry PyProof.Rows.slot_tuple_getitem ht.typeIs entry_tuple_getitem ?_ (args_tuple_getitem _ _)))
 show wpAny _ _ (Builtin.Tuple.tupleItemsOf (.ref t) >>= _) _ _ s;refine wpAny_bind (tupleItemsOf_ ht ?_);refine wpAny_bind (wpAny_typeOf hTs ?_);rw [if_pos (by decide)];refine wpAny_bind (sliceApplied_gen hs pl pu ?_)
 have hno:¬ ((((sIx items.size 0 lo:Nat):Int) == 0 && (1:Int) == 1 && (sIx items.size items.size hi-sIx items.size 0 lo) == items.size)=true):=by
  intro q;rw [Bool.and_eq_true,Bool.and_eq_true] at q;have q1:((sIx items.size 0 lo:Nat):Int)=0:=eq_of_beq q.1.1;have q2:sIx items.size items.size hi-sIx items.size 0 lo=items.size:=eq_of_beq q.2;exact hw ⟨by omega,by omega⟩
 show wpAny _ _ (if (((sIx items.size 0 lo:Nat):Int) == 0 && (1:Int) == 1 && (sIx items.size items.size hi-sIx items.size 0 lo) == items.size)=true then _ else _) _ _ s;rw [if_neg hno,kFN]
 first
  | exact wpAny_bind (m:=Builtin.Tuple.tupleExact _) (wpAny_newObj_type (wpAny_pure ⟨_,rfl,wpAny_pure h⟩) htake)
  | exact wpAny_bind (m:=Builtin.Tuple.tupleExact _) (wpAny_newObj_type (wpAny_bind (wpAny_pure (wpAny_pure ⟨_,rfl,wpAny_pure h⟩))) htake)
  | exact wpAny_bind (wpAny_bind (m:=Builtin.Tuple.tupleExact _) (wpAny_newObj_type (wpAny_pure (wpAny_pure ⟨_,rfl,wpAny_pure h⟩)) htake))
  | exact wpAny_bind (wpAny_bind (m:=Builtin.Tuple.tupleExact _) (wpAny_newObj_type (wpAny_pure ⟨_,rfl,wpAny_pure h⟩) htake))
end
end HT
namespace L2
open PySem PySem.Spec PyProof.Rows
abbrev TO:=St->Hp->(Option Int->Hp->Prop)->Prop
def PO (X:Cx) (e:Option Expr) (t:TO):Prop :=
 ∀ (pins:List (Addr×Obj)) (s:Shared) (σ:St) (H:Hp) (Q:Option Int->Hp->Prop),Inv X pins σ H s->t σ H Q ->
  wpAny (model X.prog X.w) X.A (evalPart e X.env) (λ u s'=>∃ o H',Inv X pins σ H' s'/\IsPart u o/\Q o H') X.xe s
def kHP:TO:=λ _ H Q=>Q none H
def kMH (t:TE):TO:=λ σ H Q=>t σ H λ x H1=>∃ i,x=.int i/\Q (some i) H1
section
variable {X:Cx} {e:Expr} {te:TE} {lo hi:Option Expr} {tl th:TO} {pos p2:Pos}
theorem qR:PO X none kHP:=by
 intro pins s σ H Q I h;rw [evalPart_none];exact wpAny_pure ⟨none,H,I,.none,h⟩
theorem qG (h:PE X e te):PO X (some e) (kMH te):=by
 intro pins s σ H Q I hw;rw [evalPart_some];refine thn (h pins s σ H _ I hw) λ u s1 ⟨x,H1,I1,r1,q1⟩=>?_;obtain ⟨i,rfl,q⟩:=q1;obtain ⟨t,rfl⟩:=r1;exact ⟨some i,H1,I1,.int i t,q⟩
def SlR (X:Cx) (r:V->Option Int->Option Int->Hp->VK->Prop):Prop :=
 ∀ (pins:List (Addr×Obj)) (s:Shared) (σ:St) (H:Hp) (x:V) (v vl vu:Value) (lo hi:Option Int) (sl:Addr) (Q:VK),Inv X pins σ H s->RelV x v->s.heap.IsSliceOf sl vl vu .none->IsPart vl lo->IsPart vu hi->r x lo hi H Q ->
  ∃ T id,typeLookup (.type T) "__getitem__" = pure (some (.builtin id))/\s.TypeIs v T/\wpAny (model X.prog X.w) X.A (getItem v (.ref sl)) (EP X pins σ Q) X.xe s
theorem SlR.or {r r':V->Option Int->Option Int->Hp->VK->Prop} (h:SlR X r) (h':SlR X r'):SlR X (λ x lo hi H Q=>r x lo hi H Q\/r' x lo hi H Q):=by
 intro pins s σ H x v vl vu lo hi sl Q I rx hs pl pu q;rcases q with q | q
 ·exact h pins s σ H x v vl vu lo hi sl Q I rx hs pl pu q
 ·exact h' pins s σ H x v vl vu lo hi sl Q I rx hs pl pu q
def tSl (r:V->Option Int->Option Int->Hp->VK->Prop) (te:TE) (tl th:TO):TE:=λ σ H Q=>te σ H λ x H1=>tl σ H1 λ l H2=>th σ H2 λ u H3=>r x l u H3 Q
theorem qH {r:V->Option Int->Option Int->Hp->VK->Prop} (hr:SlR X r) (he:PE X e te) (hl:PO X lo tl) (hu:PO X hi th):PE X (.Subscript e (.Slice lo hi none p2) pos) (tSl r te tl th):=by
 intro pins s σ H Q I h;refine Subscript_ (thn (he pins s σ H _ I h) λ v s1 ⟨x,H1,I1,r1,q1⟩=>?_);refine wpAny_Slice (thn (hl pins s1 σ H1 _ I1 q1) λ vl s2 ⟨l,H2,I2,pl,q2⟩=>thn (hu pins s2 σ H2 _ I2 q2) λ vu s3 ⟨u,H3,I3,pu,q3⟩=>?_);rw [evalPart_none];refine wpAny_pure ?_;have I4:Inv X pins σ H3 { s3 with heap:=s3.heap.push { cls:=.type "slice",data:=.fields #[vl,vu,.none] } }:=I3.kept (t':=s3.toks) λ b ob q=>Heap.get?_push_of_some _ q
 obtain ⟨T,id,hT,ht,hg⟩:=hr pins { s3 with heap:=s3.heap.push { cls:=.type "slice",data:=.fields #[vl,vu,.none] } } σ H3 x v vl vu l u s3.heap.objs.size Q I4 r1 (Heap.IsSliceOf.new ..) pl pu q3
 show wpAny (model X.prog X.w) X.A (subscriptTail e (.Slice lo hi none p2) v (.ref s3.heap.objs.size)) (EP X pins σ Q) X.xe { s3 with heap:=s3.heap.push { cls:=.type "slice",data:=.fields #[vl,vu,.none] } }
 exact tail_any (ops:=[.ref s3.heap.objs.size,v]) ht hT hg (by with_unfolding_all rfl)
def jO (xs:List V) (lo hi:Option Int):List V:=(xs.drop (HT.sIx xs.length 0 lo)).take (HT.sIx xs.length xs.length hi-HT.sIx xs.length 0 lo)
theorem dJ (xs:List V) (lo hi:Option Int):(jO xs lo hi).length<=xs.length:=by
 unfold jO;rw [length_take,length_drop];omega
def kKV (K:PySem.W.Frag):V->Option Int->Option Int->Hp->VK->Prop:=λ x lo hi H Q=>∃ a xs,x=.ref a/\SqT K H a xs /\
 ¬ (HT.sIx xs.length 0 lo=0/\HT.sIx xs.length xs.length hi=xs.length)/\∀ p,H p=none->Q (.ref p) (upd H p (.tup (jO xs lo hi)))
theorem sl_tup:SlR X (kKV X.K):=by
 intro pins s σ H x v vl vu lo hi sl Q I rx hs pl pu h;obtain ⟨a,xs,rfl,hx,hw,q⟩:=h;cases rx
 obtain ⟨its,r,ht,hz⟩:=I.tuple hx;have hlen:its.toArray.size=xs.length:=by rw [size_toArray];exact r.length.symm
 refine ⟨"tuple",_,PyProof.Rows.slot_tuple_getitem.lookup,ht.typeIs,?_⟩;refine HT.getItem_tuple_cut ht hs pl pu (by rw [hlen];exact hw) ?_ (by rw [hlen];exact hz);rw [hlen];refine ⟨.ref s.heap.objs.size,_,I.laid (t':=s.toks) (o:=.tup (jO xs lo hi)) (λ b ob q=>Heap.get?_push_of_some _ q) (Nat.le_refl _) ?_,rfl,q _ (I.hok.fresh (Nat.le_refl _))⟩;exact ⟨Nat.le_trans (dJ xs lo hi) hz,_,(r.drop (HT.sIx xs.length 0 lo)).take (HT.sIx xs.length xs.length hi-HT.sIx xs.length 0 lo),IsTupN.new _ _⟩
def kMV (K:PySem.W.Frag):R2:=λ x y H Q=>∃ a b xs ys,x=.ref a/\y=.ref b/\SqT K H a xs/\SqT K H b ys/\xs≠[]/\xs.length+ys.length<=sizeLine /\
 (ys=[]->Q (.ref a) H)/\(ys≠[]->∀ p,H p=none->Q (.ref p) (upd H p (.tup (xs++ys))))
theorem Vals.nil_iff {xs:List V} {us:List Value} (r:Vals xs us):us=[]↔xs=[]:=by
 cases r with
 | nil=>simp
 | cons _ _=>simp
theorem kAS:OpR X (binaryOp .Add) (kMV X.K):=by
 intro pins s σ H x y v u Q I rx ry h;obtain ⟨a,b,xs,ys,rfl,rfl,ha,hb,hx,hz,q1,q2⟩:=h;cases rx
 cases ry
 obtain ⟨its,r1,p1,_⟩:=I.tuple ha;obtain ⟨its2,r2,p2,_⟩:=I.tuple hb;refine HT.cat_tup p1 p2 (λ z=>hx (r1.nil_iff.mp z)) (λ z=>⟨.ref a,H,I,rfl,q1 (r2.nil_iff.mp z)⟩) (λ z=>?_) (by rw [<-r1.length,<-r2.length];exact hz);refine ⟨.ref s.heap.objs.size,_,I.laid (t':=s.toks) (o:=.tup (xs++ys)) (λ b ob q=>Heap.get?_push_of_some _ q) (Nat.le_refl _) ?_,rfl,q2 (λ w=>z (r2.nil_iff.mpr w)) _ (I.hok.fresh (Nat.le_refl _))⟩;exact ⟨by rw [length_append];exact hz,_,r1.append r2,IsTupN.new _ _⟩
end
def ixN (n:Nat) (i:Int):Option Nat:=if 0<=i then (if i<n then some i.toNat else none) else if -(n:Int)<=i then some (i+n).toNat else none
def atI {α:Type} (xs:List α) (i:Int):Option α:=(ixN xs.length i).bind λ j=>xs[j]?
theorem kAX {n:Nat} {i:Int} {j:Nat} (h:ixN n i=some j):seqIndex? i n=some j/\j<n/\-(n:Int)<=i/\i<n:=by
 unfold ixN at h;by_cases h0:0<=i
 ·rw [if_pos h0] at h
  by_cases h1:i<n
  ·rw [if_pos h1] at h
   have e:i.toNat=j:=Option.some.inj h;exact ⟨by rw [seqIndex_of h0 h1,e],by omega,by omega,h1⟩
  ·rw [if_neg h1] at h;cases h
 ·rw [if_neg h0] at h
  by_cases h1 : -(n:Int)<=i
  ·rw [if_pos h1] at h
   have e:(i+n).toNat=j:=Option.some.inj h;exact ⟨by rw [seqIndex_neg (by omega) h1,e],by omega,h1,by omega⟩
  ·rw [if_neg h1] at h;cases h
theorem kBQ {α:Type} {xs:List α} {i:Int} {v:α} (h:atI xs i=some v):∃ j,seqIndex? i xs.length=some j/\xs[j]?=some v/\j<xs.length/\-(xs.length:Int)<=i/\i<xs.length:=by
 unfold atI at h
 cases e:ixN xs.length i with
 | none=>rw [e] at h;cases h
 | some j =>
  rw [e] at h;obtain ⟨h1,h2,h3,h4⟩:=kAX e;exact ⟨j,h1,h,h2,h3,h4⟩
theorem qV {α:Type} {xs:List α} {j:Nat} {v:α} (h:xs[j]?=some v):atI xs (j:Int)=some v:=by
 have hj:j<xs.length:=(List.getElem?_eq_some_iff.mp h).1
 have e:ixN xs.length (j:Int)=some j:=by
  unfold ixN;rw [if_pos (by omega),if_pos (by omega)];simp
 unfold atI;rw [e];exact h
theorem yF {α:Type} (xs:List α) (v:α):atI (xs++[v]) (-1)=some v:=by
 have hl:(xs++[v]).length=xs.length+1:=by simp
 have e:ixN (xs++[v]).length (-1)=some xs.length:=by
  unfold ixN;rw [hl,if_neg (by decide),if_pos (by omega)]
  congr 1
  omega
 unfold atI;rw [e];show (xs++[v])[xs.length]?=some v;simp
def kJQ (b:Expr):Prop:=∀ o i,subscripted b false o i=operate [o,i] (getItem o i)
def IxR (X:Cx) (r:R2):Prop :=
 ∀ (value slice:Expr) (pins:List (Addr×Obj)) (s:Shared) (σ:St) (H:Hp) (x y:V) (v u:Value) (Q:VK),Inv X pins σ H s->RelV x v->RelV y u->r x y H Q ->
  subscripted slice false v u=operate [v,u] (getItem v u)->wpAny (model X.prog X.w) X.A (subscriptTail value slice v u) (EP X pins σ Q) X.xe s
def MtR (X:Cx) (id:String) (r:V->List V->Hp->VK->Prop):Prop :=
 ∀ (pins:List (Addr×Obj)) (s:Shared) (σ:St) (H:Hp) (x:V) (xs:List V) (v:Value) (us:List Value) (Q:VK),Inv X pins σ H s->RelV x v->Vals xs us->r x xs H Q ->
  wpAny (model X.prog X.w) X.A (call (.builtin id) (v::us)) (EP X pins σ Q) X.xe s
section
variable {X:Cx} {a b:Expr} {ta tb:TE} {pos:Pos}
theorem qB {r:R2} (hr:IxR X r) (ha:PE X a ta) (hb:PE X b tb) (hs:kJQ b):PE X (.Subscript a b pos) (tOp r ta tb):=by
 intro pins s σ H Q I h;exact Subscript_ (kLZ ha hb I h λ v u s2 x y H2 I2 rx ry q=>hr a b pins s2 σ H2 x y v u Q I2 rx ry q (hs _ _))
def kIA (K:PySem.W.Frag):R2:=λ x y H Q=>∃ p xs i v,x=.ref p/\y=.int i/\SqL K H p xs/\atI xs i=some v/\Q v H
def kHZ (K:PySem.W.Frag):R2:=λ x y H Q=>∃ p xs i v,x=.ref p/\y=.int i/\SqT K H p xs/\atI xs i=some v/\Q v H
theorem kY:IxR X (kIA X.K):=by
 intro value slice pins s σ H x y v u Q I rx ry h hs;obtain ⟨p,xs,i,z,rfl,rfl,hq,he,q⟩:=h;cases rx
 obtain ⟨t,rfl⟩:=ry;obtain ⟨its,r,pl,hz⟩:=I.list hq;obtain ⟨j,h1,h2,h3,h4,h5⟩:=kBQ he;obtain ⟨w,ew,rw'⟩:=r.get h2;have hl:=r.length;have hn:=cS;have fin:EP X pins σ Q w s:=⟨z,H,I,rw',q⟩;by_cases h0:0<=i
 ·have hj:i.toNat=j:=by
   rw [seqIndex_of h0 h5] at h1;exact Option.some.inj h1
  exact item_listR pl.isList h0 (by omega) (by rw [hj];simpa using ew) fin hs
 ·have hj:(i+(its.toArray.size:Int)).toNat=j:=by
   rw [seqIndex_neg (by omega) h4] at h1;rw [size_toArray,<-hl];exact Option.some.inj h1
  exact subscriptTail_builtinR (x:=w) pl.isList.typeIs slot_list_getitem.lookup
   (wpAny_getItem_list_neg (Q:=λ r s'=>r=w/\EP X pins σ Q r s') pl.isList (by omega) (by rw [size_toArray]<;>omega) (by omega) (by rw [hj];simpa using ew) ⟨rfl,fin⟩) hs
theorem jC:IxR X (kHZ X.K):=by
 intro value slice pins s σ H x y v u Q I rx ry h hs;obtain ⟨p,xs,i,z,rfl,rfl,hq,he,q⟩:=h;cases rx
 obtain ⟨t,rfl⟩:=ry;obtain ⟨its,r,pl,hz⟩:=I.tuple hq;obtain ⟨j,h1,h2,h3,h4,h5⟩:=kBQ he;obtain ⟨w,ew,rw'⟩:=r.get h2;have hl:=r.length;have hn:=cS;have fin:EP X pins σ Q w s:=⟨z,H,I,rw',q⟩
 exact subscriptTail_builtinR (x:=w) pl.typeIs slot_tuple_getitem.lookup
  (getItem_tuple (j:=j) (Q:=λ r s'=>r=w/\EP X pins σ Q r s') pl (by omega) (by omega) (by rw [size_toArray,<-hl];exact h1) (by simpa using ew) ⟨rfl,fin⟩) hs
theorem tT (its:List Value) (n j:Nat) (u:Value):Obj.mapSeq (·.setIfInBounds j u) { cls:=.type "list",data:=.seq its.toArray n }={ cls:=.type "list",data:=.seq (its.set j u).toArray n }:=by
 simp [Obj.mapSeq]
theorem Inv.lst {pins:List (Addr×Obj)} {σ:St} {H:Hp} {s:Shared} {p:Addr} {xs:List V} (I:Inv X pins σ H s) (h:H p=some (.lst xs)) :
  ∃ (its:List Value) (n:Nat),Vals xs its/\s.heap.get? p=some { cls:=.type "list",data:=.seq its.toArray n }/\xs.length<=sizeLine:=by
 obtain ⟨z,its,n,r,e⟩:=I.hok p _ h;exact ⟨its,n,r,e,z⟩
theorem Inv.lstUpd {pins:List (Addr×Obj)} {σ:St} {H:Hp} {s:Shared} {p:Addr} {xs ys:List V} {its its':List Value} {n n':Nat} {f:Obj->Obj} (I:Inv X pins σ H s) (h:H p=some (.lst xs))
  (ho:s.heap.get? p=some { cls:=.type "list",data:=.seq its.toArray n }) (hf:f { cls:=.type "list",data:=.seq its.toArray n }={ cls:=.type "list",data:=.seq its'.toArray n' }) (r:Vals ys its') (hz:ys.length<=sizeLine) (t:Nat) :
  Inv X pins σ (upd H p (.lst ys)) { s with heap:=s.heap.update p f,toks:=t }:=by
 have e:(s.heap.update p f).get? p=some { cls:=.type "list",data:=.seq its'.toArray n' }:=by
  rw [Heap.get?_update_self f ho (by rw [hf]<;>rfl),hf]
 refine I.write (x:=p) (e:=p) (by rw [h];trivial) (.inl rfl) (λ b u hb q=>(Heap.get?_update_other _ _ (Ne.symm hb)).trans q) ⟨_,e⟩ ?_;exact ⟨hz,its',n',r,e⟩
def kMS:V->V->V->Hp->(Hp->Prop)->Prop:=λ o i v H Q=>∃ p xs k j,o=.ref p/\i=.int k/\H p=some (.lst xs)/\ixN xs.length k=some j/\Q (upd H p (.lst (xs.set j v)))
theorem fW:kNT X kMS:=by
 intro pins s σ H o i v ov iv u Q I ro ri rv h;obtain ⟨p,xs,k,j,rfl,rfl,hp,hj,q⟩:=h;cases ro
 obtain ⟨t,rfl⟩:=ri;obtain ⟨its,n,r,ho,hz⟩:=I.lst hp;obtain ⟨h1,h2,h3,h4⟩:=kAX hj;have hl:=r.length;have hn:=cS
 have I':Inv X pins σ (upd H p (.lst (xs.set j v))) { s with heap:=s.heap.update p (Obj.mapSeq (·.setIfInBounds j u)) } :=
  I.lstUpd hp ho (tT its n j u) (r.set rv j) (by rw [length_set];exact hz) s.toks
 by_cases h0:0<=k
 ·have hk:k.toNat=j:=by
   rw [seqIndex_of h0 h4] at h1;exact Option.some.inj h1
  exact PySem.W.ki_setAt ho h0 (by omega) (by rw [size_toArray,<-hl];exact h4) (by rw [hk];exact ⟨_,I',q⟩)
 ·have hk:(k+(its.toArray.size:Int)).toNat=j:=by
   rw [seqIndex_neg (by omega) h3] at h1;rw [size_toArray,<-hl];exact Option.some.inj h1
  exact PySem.W.ki_setBack ho (by omega) (by rw [size_toArray,<-hl];exact h3) (by omega) (by rw [hk];exact ⟨_,I',q⟩)
theorem nJ (lo hi:Option Int) (n:Nat):(sliceBounds lo hi none n).1=((HT.sIx n 0 lo:Nat):Int)/\(sliceBounds lo hi none n).2.1=((HT.sIx n n hi:Nat):Int)/\(sliceBounds lo hi none n).2.2=1:=by
 refine ⟨?_,?_,rfl⟩
 ·cases lo with
  | none=>simp [sliceBounds,HT.sIx]
  | some i =>
   simp only [sliceBounds,HT.sIx,Option.getD_none,show (1:Int)>0 by decide,if_true];by_cases h:i<0
   ·simp only [h,if_true]<;>omega
   ·simp only [h,if_false]<;>omega
 ·cases hi with
  | none=>simp [sliceBounds,HT.sIx]
  | some i =>
   simp only [sliceBounds,HT.sIx,Option.getD_none,show (1:Int)>0 by decide,if_true];by_cases h:i<0
   ·simp only [h,if_true]<;>omega
   ·simp only [h,if_false]<;>omega
theorem hV (its:List Value) (lo hi:Option Int):slicePick its.toArray lo hi none=((its.drop (HT.sIx its.length 0 lo)).take (HT.sIx its.length its.length hi-HT.sIx its.length 0 lo)).toArray:=by
 obtain ⟨h1,h2,h3⟩:=nJ lo hi its.toArray.size;unfold slicePick;rw [h1,h2,h3];simp only [sliceRange_one,pick_run,size_toArray]<;>rfl
def kOF (K:PySem.W.Frag):V->Option Int->Option Int->Hp->VK->Prop:=λ x lo hi H Q=>∃ a xs,x=.ref a/\SqL K H a xs/\∀ p,H p=none->Q (.ref p) (upd H p (.lst (jO xs lo hi)))
theorem jD:SlR X (kOF X.K):=by
 intro pins s σ H x v vl vu lo hi sl Q I rx hs pl pu h;obtain ⟨a,xs,rfl,hx,q⟩:=h;cases rx
 obtain ⟨its,r,ht,hz⟩:=I.list hx;have hlen:=r.length;refine ⟨"list",_,slot_list_getitem.lookup,ht.isList.typeIs,?_⟩;refine wpAny_getItem_list_slice ht.isList hs pl pu .none (by simp) ?_ (by rw [size_toArray]<;>omega);rw [hV,<-hlen];refine ⟨.ref s.heap.objs.size,_,I.laid (t':=s.toks) (o:=.lst (jO xs lo hi)) (λ b ob q=>Heap.get?_push_of_some _ q) (Nat.le_refl _) ?_,rfl,q _ (I.hok.fresh (Nat.le_refl _))⟩;exact ⟨Nat.le_trans (dJ xs lo hi) hz,_,0,(r.drop (HT.sIx xs.length 0 lo)).take (HT.sIx xs.length xs.length hi-HT.sIx xs.length 0 lo),Heap.get?_push_size _ rfl⟩
def bR:V->Bool
 | .non=>true
 | .bl _=>true
 | .int _=>true
 | .str _=>true
 | _=>false
def eqV:V->V->Bool
 | .non,.non=>true
 | .bl a,.bl b=>a == b
 | .bl a,.int b=>(if a then 1 else 0) == b
 | .int a,.bl b=>a == (if b then 1 else 0)
 | .int a,.int b=>a == b
 | .str a,.str b=>a == b
 | _,_=>false
theorem kLX {A:Around} {s:Shared} {y x:V} {u v:Value} (ry:RelV y u) (rx:RelV x v) (fy:bR y=true) (fx:bR x=true):SeqAt.EqAt A s u v (eqV y x):=by
 cases y with
 | non =>
  cases ry
  cases x with
  | non=>cases rx;exact SeqAt.EqAt.same _
  | bl b=>cases rx;exact SeqAt.EqAt.none_bool b
  | int b=>obtain ⟨t,rfl⟩:=rx;exact SeqAt.EqAt.none_int b t
  | str b=>obtain ⟨t,rfl⟩:=rx;exact SeqAt.EqAt.none_str b t
  | _=>exact absurd (show false=true from fx) Bool.false_ne_true
 | bl a =>
  cases ry
  cases x with
  | non=>cases rx;exact SeqAt.EqAt.bool_none a
  | bl b=>cases rx;exact SeqAt.EqAt.bool_bool a b
  | int b=>obtain ⟨t,rfl⟩:=rx;exact SeqAt.EqAt.bool_int a b t
  | str b=>obtain ⟨t,rfl⟩:=rx;exact SeqAt.EqAt.bool_str a b t
  | _=>exact absurd (show false=true from fx) Bool.false_ne_true
 | int a =>
  obtain ⟨t',rfl⟩:=ry
  cases x with
  | non=>cases rx;exact SeqAt.EqAt.int_none a t'
  | bl b=>cases rx;exact SeqAt.EqAt.int_bool a t' b
  | int b=>obtain ⟨t,rfl⟩:=rx;exact SeqAt.EqAt.int_int a t' b t
  | str b=>obtain ⟨t,rfl⟩:=rx;exact SeqAt.EqAt.int_str a t' b t
  | _=>exact absurd (show false=true from fx) Bool.false_ne_true
 | str a =>
  obtain ⟨t',rfl⟩:=ry
  cases x with
  | non=>cases rx;exact SeqAt.EqAt.str_none a t'
  | bl b=>cases rx;exact SeqAt.EqAt.str_bool a t' b
  | int b=>obtain ⟨t,rfl⟩:=rx;exact SeqAt.EqAt.str_int a t' b t
  | str b=>obtain ⟨t,rfl⟩:=rx;exact SeqAt.EqAt.str_str a t' b t
  | _=>exact absurd (show false=true from fx) Bool.false_ne_true
 | _=>exact absurd (show false=true from fy) Bool.false_ne_true
def eqU (x:V) (u:Value):Bool:=match u with
 | .none=>eqV .non x
 | .bool b=>eqV (.bl b) x
 | .int i _=>eqV (.int i) x
 | .str z _=>eqV (.str z) x
 | _=>false
theorem kGV {x y:V} {u:Value} (r:RelV y u) (f:bR y=true):eqU x u=eqV y x:=by
 cases y with
 | non=>cases r;rfl
 | bl b=>cases r;rfl
 | int i=>obtain ⟨t,rfl⟩:=r;rfl
 | str z=>obtain ⟨t,rfl⟩:=r;rfl
 | _=>exact absurd (show false=true from f) Bool.false_ne_true
theorem oY {x:V}:∀ {xs:List V} {us:List Value},Vals xs us->xs.all bR=true->us.any (eqU x)=xs.any λ y=>eqV y x
 | _,_,.nil,_=>rfl
 | y::xs,u::us,.cons r t,f=>by
  rw [List.all_cons,Bool.and_eq_true] at f;rw [List.any_cons,List.any_cons,kGV r f.1,oY t f.2]
theorem gI {A:Around} {s:Shared} {x:V} {v:Value} (rx:RelV x v) (fx:bR x=true):∀ {xs:List V} {us:List Value},Vals xs us->xs.all bR=true->∀ u∈us,SeqAt.EqAt A s u v (eqU x u)
 | _,_,.nil,_=>λ u hu=>by cases hu
 | y::xs,u::us,.cons r t,f=>λ u' hu=>by
  rw [List.all_cons,Bool.and_eq_true] at f;rcases mem_cons.mp hu with rfl | hu
  ·rw [kGV r f.1];exact kLX r rx f.1 fx
  ·exact gI rx fx t f.2 u' hu
def inV (x:V) (xs:List V):Bool:=xs.any λ y=>eqV y x
def rIn (K:PySem.W.Frag) (neg:Bool):R2:=λ x y H Q=>∃ p xs,y=.ref p/\(SqL K H p xs\/SqT K H p xs)/\bR x=true/\xs.all bR=true/\Q (.bl (if neg then !inV x xs else inV x xs)) H
theorem zR:OpR X (compareOp .In) (rIn X.K false):=by
 intro pins s σ H x y v u Q I rx ry h;obtain ⟨p,xs,rfl,hq,fx,fs,q⟩:=h;cases ry
 rcases hq with hq | hq
 ·obtain ⟨its,r,pl,hz⟩:=I.list hq
  refine SeqAt.in_listAt (eqU x) pl.isList (λ w hw=>gI rx fx r fs w (by simpa using hw)) ⟨.bl _,H,I,rfl,?_⟩;rw [show its.toArray.any (eqU x)=its.any (eqU x) by simp,oY r fs];exact q
 ·obtain ⟨its,r,pl,hz⟩:=I.tuple hq
  refine SeqAt.in_tupleAt (eqU x) pl (λ w hw=>gI rx fx r fs w (by simpa using hw)) ⟨.bl _,H,I,rfl,?_⟩;rw [show its.toArray.any (eqU x)=its.any (eqU x) by simp,oY r fs];exact q
theorem kN:yG X (.builtin "len") (λ xs H Q=>∃ p ys,xs=[.ref p]/\(SqL X.K H p ys\/SqT X.K H p ys)/\Q (.int ys.length) H):=by
 intro pins s σ H xs us Q I r h;obtain ⟨p,ys,rfl,hq,q⟩:=h;obtain ⟨u,rfl,rx⟩:=uS r;cases rx
 have hn:=cS;rcases hq with hq | hq
 ·obtain ⟨its,r',pl,hz⟩:=I.list hq
  have hlen:=r'.length;exact Calls.call_len_list pl.isList (by simp only [size_toArray]<;>omega) ⟨.int ys.length,H,I.tok _,⟨s.toks+1,by rw [size_toArray,hlen]⟩,q⟩
 ·obtain ⟨its,r',pl,hz⟩:=I.tuple hq
  have hlen:=r'.length;exact len_tuple pl (by simp only [size_toArray]<;>omega) ⟨.int ys.length,H,I.tok _,⟨s.toks+1,by rw [size_toArray,hlen]⟩,q⟩
theorem vP:yG X (.type "list") (λ xs H Q=>∃ p ys,xs=[.ref p]/\(SqL X.K H p ys\/SqT X.K H p ys)/\∀ l,H l=none->Q (.ref l) (upd H l (.lst ys))):=by
 intro pins s σ H xs us Q I r h;obtain ⟨p,ys,rfl,hq,q⟩:=h;obtain ⟨u,rfl,rx⟩:=uS r;cases rx
 have fin:∀ (its:List Value),Vals ys its->ys.length<=sizeLine->∀ (h':Heap) (c':Nat),(∀ b o',s.heap.get? b=some o'->h'.get? b=some o') ->
   h'.get? s.heap.objs.size=some { cls:=.type "list",dict:=none,data:=.seq its.toArray c',slots:=#[] }->EP X pins σ Q (.ref s.heap.objs.size) { s with heap:=h' }:=λ its r' hz h' c' kp e =>
  ⟨.ref s.heap.objs.size,_,I.laid (t':=s.toks) kp (Nat.le_refl _) (show ObjOk X.prog X.w _ h' _ (.lst ys) from ⟨hz,its,c',r',e⟩),rfl,q _ (I.hok.fresh (Nat.le_refl _))⟩
 rcases hq with hq | hq
 ·obtain ⟨its,r',pl,hz⟩:=I.list hq
  have hlen:=r'.length;obtain ⟨o,ho,hc,n,hd⟩:=pl.isList;exact call_list_seq p (.inl rfl) ho hc hd (λ h' c' kp e=>fin its r' hz h' c' kp e) (by simp only [size_toArray]<;>omega)
 ·obtain ⟨its,r',pl,hz⟩:=I.tuple hq
  have hlen:=r'.length;obtain ⟨o,ho,hc,n,hd⟩:=pl;exact call_list_seq p (.inr rfl) ho hc hd (λ h' c' kp e=>fin its r' hz h' c' kp e) (by simp only [size_toArray]<;>omega)
theorem qE:yG X (.type "tuple") (λ xs H Q=>∃ p ys,xs=[.ref p]/\((SqL X.K H p ys/\∀ l,H l=none->Q (.ref l) (upd H l (.tup ys)))\/(SqT X.K H p ys/\Q (.ref p) H))):=by
 intro pins s σ H xs us Q I r h;obtain ⟨p,ys,rfl,h⟩:=h;obtain ⟨u,rfl,rx⟩:=uS r;cases rx
 rcases h with ⟨hq,q⟩ | ⟨hq,q⟩
 ·obtain ⟨its,r',pl,hz⟩:=I.list hq
  have hlen:=r'.length;refine call_tuple_list pl.isList (λ h' kp=>?_) (by simp only [size_toArray]<;>omega);have I1:Inv X pins σ H { s with heap:=h' }:=I.kept (t':=s.toks) kp
  have I2:Inv X pins σ (upd H h'.objs.size (.tup ys)) { s with heap:=h'.push { cls:=.type "tuple",data:=.seq its.toArray } } :=
   I1.laid (t':=s.toks) (λ b o e=>Heap.get?_push_of_some _ e) (Nat.le_refl _) (show ObjOk X.prog X.w _ _ _ (.tup ys) from ⟨hz,its,r',IsTupN.new _ _⟩)
  exact ⟨.ref h'.objs.size,_,I2,rfl,q _ (I1.hok.fresh (Nat.le_refl _))⟩
 ·obtain ⟨its,r',pl,hz⟩:=I.tuple hq
  exact call_tuple_same pl ⟨.ref p,H,I,rfl,q⟩
def tyV (K:PySem.W.Frag) (T:String) (x:V) (H:Hp):Prop:=match x with
 | .str _=>T = "str"
 | .int _=>T = "int"
 | .ref p=>(T = "list"/\∃ xs,SqL K H p xs)\/(T = "tuple"/\((∃ o,K.lookup p=some o/\o.cls=.type "tuple"/\o.dict=none)\/∃ xs,H p=some (.tup xs))) \/
   (T = "dict"/\((∃ kvs,H p=some (.dK kvs))\/∃ kvs,H p=some (.dT kvs)))\/(T = "set"/\∃ S n,H p=some (.set S n))
 | _=>False
theorem kKK {pins:List (Addr×Obj)} {σ:St} {H:Hp} {s:Shared} {T:String} {x:V} {v:Value} (I:Inv X pins σ H s) (r:RelV x v) (ty:tyV X.K T x H) :
  s.TypeIs v T/\∀ a,v=.ref a->∃ ob,s.heap.get? a=some ob/\ob.dict=none:=by
 cases x with
 | str z =>
  obtain ⟨t,rfl⟩:=r
  cases (show T = "str" from ty)
  exact ⟨typeIs_str s z t,λ _ e=>nomatch e⟩
 | int i =>
  obtain ⟨t,rfl⟩:=r
  cases (show T = "int" from ty)
  exact ⟨typeIs_int s i t,λ _ e=>nomatch e⟩
 | ref p =>
  cases r
  rcases ty with ⟨rfl,xs,hq⟩ | ⟨rfl,⟨o,hk,hc,hd⟩ | ⟨xs,hq⟩⟩ | ⟨rfl,hk⟩ | ⟨rfl,S,n,hk⟩
  ·obtain ⟨its,_,pl,_⟩:=I.list hq
   refine ⟨pl.isList.typeIs,λ a e=>?_⟩;cases e
   obtain ⟨o,n,e,c,hd,_⟩:=pl;exact ⟨o,e,hd⟩
  ·refine ⟨⟨o,I.kIn p o hk,hc⟩,λ a e=>?_⟩
   cases e
   exact ⟨o,I.kIn _ o hk,hd⟩
  ·obtain ⟨_,its,_,o,e,c,n,_,hd⟩:=(show ObjOk X.prog X.w H s.heap p (.tup xs) from I.hok p _ hq)
   refine ⟨⟨o,e,c⟩,λ a e2=>?_⟩;cases e2
   exact ⟨o,e,hd⟩
  ·have z:∃ o,s.heap.get? p=some o/\o.ExactDict:=by
    rcases hk with ⟨kvs,hk⟩ | ⟨kvs,hk⟩
    ·obtain ⟨_,_,_,_,o,_,_,e,ex,_⟩:=I.hok p _ hk
     exact ⟨o,e,ex⟩
    ·obtain ⟨_,_,_,_,o,_,_,e,ex,_⟩:=I.hok p _ hk
     exact ⟨o,e,ex⟩
   obtain ⟨o,e,ex⟩:=z;refine ⟨⟨o,e,ex.1⟩,λ a e2=>?_⟩;cases e2
   exact ⟨o,e,ex.2.1⟩
  ·obtain ⟨o,_,_,_,e,ex,_⟩:=I.hok p _ hk
   refine ⟨⟨o,e,ex.1⟩,λ a e2=>?_⟩;cases e2
   exact ⟨o,e,ex.2.1⟩
 | _=>exact False.elim ty
def tBM (K:PySem.W.Frag) (T:String) (r:V->List V->Hp->VK->Prop) (to:TE) (t:TA):TE:=λ σ H Q=>to σ H λ x H1=>tyV K T x H1/\t σ H1 λ xs H2=>r x xs H2 Q
variable {o e:Expr} {es:List Expr} {to:TE} {t:TA} {name:Str} {apos cpos:Pos} {T id:String} {r:V->List V->Hp->VK->Prop}
theorem jS (pa:PlainAttrs T) (slot:Slot T name id) (hty:typeOf (.builtin id)=pure (.type "method_descriptor")) (hm:MtR X id r) (ho:PE X o to) (ha:PA X (e::es) t)
  (hbase:attributeBase o name X.env (eval o X.env)=eval o X.env:=by rfl)
  (hfew:((backTo cpos (starEach (e::es) X.env)).all (λ x=>!x.1) && (backToKw cpos (keywordEach [] X.env)).all (λ x=>x.1.isSome)
   && decide ((e::es).length+([]:List Keyword).length+(if ([]:List Keyword).isEmpty then 0 else 1)<30))=true:=by rfl)
  (hline:(apos.endLine == cpos.line)=true:=by rfl) (hs:starEach (e::es) X.env=(false,eval e X.env)::starEach es X.env:=by rfl) (hplain:(backTo cpos (starEach es X.env)).any (·.1)=false:=by rfl) :
  PE X (.Call (.Attribute o name apos) (e::es) [] cpos) (tBM X.K T r to t):=by
 intro pins s σ H Q I h;refine wpAny_Call_method_late hbase hfew hline rfl (thn (ho pins s σ H _ I h) λ v s1 ⟨x,H1,I1,r1,ty,q1⟩=>?_);obtain ⟨h1,h2⟩:=kKK I1 r1 ty;refine ⟨T,id,pa,slot,hty,h1,h2,?_⟩;have hA:=ha cpos pins s1 σ H1 _ I1 q1;rw [hs] at hA ⊢;refine Calls.callWith_builtin (by show (false || (backTo cpos (starEach es X.env)).any (·.1))=false;rw [hplain]<;>rfl) (Calls.evalArgs_plain ?_);exact thn hA λ us s2 ⟨vs,H2,I2,r2,q2⟩=>hm pins s2 σ H2 x vs v us Q I2 r1 r2 q2
end
def MtM (X:Cx) (id:String) (r:V->List V->Hp->VK->Prop):Prop :=
 ∀ (pins:List (Addr×Obj)) (s:Shared) (σ:St) (H:Hp) (x:V) (xs:List V) (v:Value) (us:List Value) (Q:VK),Inv X pins σ H s->RelV x v->Vals xs us->r x xs H Q ->
  wpAny (model X.prog X.w) X.A (call (.builtin id) (v::us)) (EP X pins σ Q) X.xe s
theorem Vals.one:∀ {x:V} {us:List Value},Vals [x] us->∃ u,us=[u]/\RelV x u
 | _,_,.cons r .nil=>⟨_,rfl,r⟩
theorem Vals.two:∀ {x y:V} {us:List Value},Vals [x,y] us->∃ u v,us=[u,v]/\RelV x u/\RelV y v
 | _,_,_,.cons r (.cons q .nil)=>⟨_,_,rfl,r,q⟩
theorem Vals.reverse {xs:List V} {us:List Value} (h:Vals xs us):Vals xs.reverse us.reverse:=by
 induction h with
 | nil=>exact .nil
 | cons r t ih=>rw [reverse_cons,reverse_cons];exact Vals.append ih (.cons r .nil)
theorem Vals.rep {xs:List V} {us:List Value} (h:Vals xs us):∀ k:Nat,Vals (List.replicate k xs).flatten (List.replicate k us).flatten
 | 0=>.nil
 | k+1=>by
  rw [replicate_succ,replicate_succ,List.flatten_cons,List.flatten_cons];exact Vals.append h (Vals.rep h k)
theorem mJ (its:List Value):∀ (k:Nat) (acc:List Value),
  List.foldl (λ x1 x2=>x1++x2) acc.toArray (List.replicate k its.toArray)=(acc++(List.replicate k its).flatten).toArray
 | 0,acc=>by simp
 | k+1,acc=>by
  have e:acc.toArray++its.toArray=(acc++its).toArray:=by simp
  have e2:(acc++its)++(List.replicate k its).flatten=acc++(List.replicate (k+1) its).flatten:=by
   rw [replicate_succ,List.flatten_cons,append_assoc]
  rw [<-e2,<-mJ its k (acc++its),<-e,replicate_succ,foldl_cons]
section
variable {X:Cx} {pins:List (Addr×Obj)} {σ:St} {H:Hp} {s:Shared} {l b:Addr} {xs ys zs:List V}
theorem Inv.lset {its its':List Value} {n:Nat} {f:Array Value->Array Value} {t':Nat} (I:Inv X pins σ H s) (hH:H l=some (.lst xs))
  (e:s.heap.get? l=some { cls:=.type "list",data:=.seq its.toArray n }) (hf:f its.toArray=its'.toArray) (hv:Vals ys its') (hz:ys.length<=sizeLine) :
  Inv X pins σ (upd H l (.lst ys)) { s with heap:=s.heap.update l (Obj.mapSeq f),toks:=t' }:=by
 have q:=PySem.IsL.update e f;rw [hf] at q;refine I.write (x:=l) (e:=l) (by rw [hH];exact trivial) (.inl rfl) (λ b' u hb hu=>(Heap.get?_update_other s.heap (Obj.mapSeq f) (Ne.symm hb)).trans hu) ⟨_,q⟩ ?_;exact ⟨hz,its',_,hv,q⟩
theorem Inv.lnew {its:List Value} {t':Nat} (I:Inv X pins σ H s) (hv:Vals ys its) (hz:ys.length<=sizeLine) :
  Inv X pins σ (upd H s.heap.objs.size (.lst ys)) { s with heap:=s.heap.push { cls:=.type "list",data:=.seq its.toArray },toks:=t' } :=
 I.laid (λ _ _ q=>Heap.get?_push_of_some _ q) (Nat.le_refl _) ⟨hz,its,0,hv,Heap.get?_push_size _ rfl⟩
theorem Inv.fresh (I:Inv X pins σ H s):H s.heap.objs.size=none:=I.hok.fresh (Nat.le_refl _)
theorem Inv.lstM (I:Inv X pins σ H s) (hH:H l=some (.lst xs)):xs.length<=sizeLine/\∃ (its:List Value) (n:Nat),Vals xs its/\xs.length=its.length/\s.heap.get? l=some { cls:=.type "list",data:=.seq its.toArray n }:=by
 obtain ⟨z,its,n,r,e⟩:=I.hok l _ hH;exact ⟨z,its,n,r,r.length,e⟩
theorem kFZ {n:Nat} (h:n<=sizeLine):Builtin.List.listTooLong n=false:=by
 unfold Builtin.List.listTooLong;exact decide_eq_false (by omega)
end
section
variable {X:Cx}
def kID:V->List V->Hp->VK->Prop:=λ x vs H Q=>∃ l xs y,x=.ref l/\vs=[y]/\H l=some (.lst xs)/\xs.length<sizeLine/\Q .non (upd H l (.lst (xs++[y])))
theorem jM:MtM X "list.append" kID:=by
 intro pins s σ H x vs v us Q I rx rv h;obtain ⟨l,xs,y,rfl,rfl,hH,hz,q⟩:=h;cases rx
 obtain ⟨u,rfl,ru⟩:=rv.one;obtain ⟨z,its,n,r,hl,e⟩:=I.lstM hH;refine call_meets F.slot_list_append ⟨_,e,rfl⟩ F.entry_list_append (F.args_list_append_2 _ _) (PySem.list_append l its.toArray n u (by rw [size_toArray];omega)) ⟨e,?_⟩;refine ⟨.non,_,I.lset (its':=its++[u]) hH e (by simp) (r.append (.cons ru .nil)) ?_,rfl,q⟩;rw [length_append,length_singleton];omega
def kOI:R2:=λ x y H Q=>∃ l b xs zs,x=.ref l/\y=.ref b/\H l=some (.lst xs)/\H b=some (.lst zs)/\xs.length+zs.length<=sizeLine/\∀ p,H p=none->Q (.ref p) (upd H p (.lst (xs++zs)))
theorem zC:OpR X (binaryOp .Add) kOI:=by
 intro pins s σ H x y v u Q I rx ry h;obtain ⟨l,b,xs,zs,rfl,rfl,hH,hB,hz,q⟩:=h;cases rx
 cases ry
 obtain ⟨z,its,n,r,hl,e⟩:=I.lstM hH;obtain ⟨z2,its2,n2,r2,hl2,e2⟩:=I.lstM hB;refine PySem.P.add_list e e2 ?_ (by rw [size_toArray,size_toArray];omega);have ea:its.toArray++its2.toArray=(its++its2).toArray:=by simp
 rw [ea];exact ⟨.ref _,_,I.lnew (t':=s.toks) (r.append r2) (by rw [length_append];omega),rfl,q _ I.fresh⟩
def kOH:R2:=λ x y H Q=>∃ l k xs,x=.ref l/\y=.int k/\H l=some (.lst xs)/\-(2 ^ 63)<=k/\k<2 ^ 63/\xs.length*k.toNat<=sizeLine /\
 ∀ p,H p=none->Q (.ref p) (upd H p (.lst (List.replicate k.toNat xs).flatten))
theorem kIX {α:Type} (xs:List α) (k:Nat):(List.replicate k xs).flatten.length=k*xs.length:=by
 induction k with
 | zero=>simp
 | succ k ih=>rw [replicate_succ,List.flatten_cons,length_append,ih,Nat.succ_mul,Nat.add_comm]
theorem kLE:OpR X (binaryOp .Mult) kOH:=by
 intro pins s σ H x y v u Q I rx ry h;obtain ⟨l,k,xs,rfl,rfl,hH,h1,h2,hz,q⟩:=h;cases rx
 obtain ⟨t,rfl⟩:=ry;obtain ⟨z,its,n,r,hl,e⟩:=I.lstM hH;have hlen:its.toArray.size*k.toNat<=sizeLine:=by rw [size_toArray,<-hl];exact hz
 have hcap:¬ its.toArray.size*k.toNat>(2 ^ 63-1) / 8:=by
  have:(sizeLine:Nat)<=(2 ^ 63-1) / 8:=by decide
  omega
 have hfit:¬ (!Builtin.List.listFitsIndex k)=true:=by
  rw [fitsIndex_both h1 h2];exact Bool.false_ne_true
 have hlong:¬ Builtin.List.listTooLong (its.toArray.size*k.toNat)=true:=by
  rw [kFZ hlen];exact Bool.false_ne_true
 have hnew:List.foldl (λ x1 x2=>x1++x2) #[] (List.replicate (if its.toArray.isEmpty=true then 0 else k.toNat) its.toArray)=(List.replicate k.toNat its).flatten.toArray:=by
  have f0:∀ m:Nat,List.foldl (λ x1 x2=>x1++x2) #[] (List.replicate m its.toArray)=(List.replicate m its).flatten.toArray:=λ m=>by
   have:=mJ its m [];rw [nil_append] at this;exact this
  rw [f0]
  cases its with
  | nil=>simp
  | cons a r'=>rw [if_neg (by simp)]
 refine wpAny_binaryOp_repeat_ref (T:="list") (U:="int") (by decide) ⟨_,e,rfl⟩ (λ s'=>typeIs_int s' k t) noFill_list_mul F.fills_int_mul F.slot_int_rmul repeat_list F.slot_int_index.lookup
  (call_meets F.slot_int_rmul (typeIs_int s k t) F.entry_int_rmul (F.args_int_rmul_2 _ _) (int___rmul___int_list k t l its.toArray n)
   ⟨e,rfl,⟨_,e,rfl⟩,call_meets F.slot_list_mul ⟨_,e,rfl⟩ F.entry_list_mul (F.args_list_mul_2 _ _) (AutoListH.list___mul___list_int_3 l its.toArray n k t hfit hcap hlong) ⟨e,?_⟩⟩)
 rw [hnew];exact ⟨.ref _,_,I.lnew (t':=s.toks) (r.rep k.toNat) (by rw [kIX,Nat.mul_comm];exact hz),rfl,q _ I.fresh⟩
end
section
variable {prog:Program} {w:World} {A:Around} {E:Value->Shared->Prop} {s:Shared}
end
section
variable {X:Cx}
end
end L2
namespace Att
open PySem PySem.W PySem.Calls PyProof.Rows
theorem dR {P:Params} {h:Heap}:∀ (ns:List Int) (vs:List Value),WellAll P h vs (ns.map WData.int)->IntsAre vs ns:=by
 intro ns
 induction ns with
 | nil =>
  intro vs w;rw [map_nil] at w;cases w
  exact .nil
 | cons n ns ih =>
  intro vs w;rw [map_cons] at w
  cases w with
  | cons a b =>
   cases a
   exact .cons _ _ (ih _ b)
theorem kCM {l:OpenLaw} {n:Nat} (hn:l.most=some n) {P:Params} {h:Heap} {args:List WData} {vals:List Value}
  (hpre:l.row.toRowW.claim.pre args=true) (hwl:WellAll P h vals args) :
  ∃ a vs ns,vals=[Value.ref a]/\args=[WData.list (ns.map WData.int)]/\h.get? a=some { cls:=.type "list",data:=.seq vs.toArray }/\IntsAre vs ns/\ns.length<=n:=by
 have hsh:WShape.hasAll [] args [.list .int]=true:=(pre_splitW hpre).1;have hc:l.pre.holds [] { args:=args }=true:=(pre_splitW hpre).2;obtain ⟨d,r,rfl,h1,h2⟩:=hasAllW_cons hsh;obtain rfl:=hasAllW_nil h2;obtain ⟨xs,rfl,h3⟩:=hasW_list h1;obtain ⟨ns,rfl⟩:=items_int h3
 have hlen:ns.length<=n:=by
  unfold OpenLaw.pre at hc
  have h4:(WTm.not (.lt (.lit (.int (n:Int))) (.len (.arg 0)))).holds [] { args:=[.list (ns.map .int)] }=true:=by
   have h4:=(holds_andW hc).1;rw [hn] at h4;exact h4
  have h5:=condW_of h4 (w_not (w_lt w_lit (w_len_list (w_arg rfl))));rw [length_map] at h5;refine Nat.le_of_not_lt λ q=>?_;have q':(n:Int)<((ns.length:Nat):Int):=by omega
  first
   | (rw [decide_eq_true q'] at h5;exact absurd h5 (by decide))
   | (simp at h5;omega)
 cases hwl with
 | cons w1 w2 =>
  cases w2
  cases w1 with
  | list ho hall=>exact ⟨_,_,ns,rfl,rfl,ho,dR ns _ hall,hlen⟩
theorem kCU (l:OpenLaw) (args:List WData):l.row.toRowW.claim.post args (.bool true) args=true :=
 postW_of (r:=l.row.toRowW) (X:=(true == true))
  (show WShape.has [] (.bool true) .bool=true by first | rfl | decide | simp [WShape.has,WShape.arms,WShape.armsAll])
  (show (WTm.eq .res (.lit (.bool true))).value [] { args:=args,res:=some (.bool true),after:=args }=some (.bool (true == true)) from w_eq_bool (w_res rfl) w_lit) rfl
theorem attach_call {l:OpenLaw} {n:Nat} {q:Program} {loose:List Str} {XP:(Str->Option Value)->Heap->Prop} {YP:World->Heap->Prop} {d:DefRec}
  (hn:l.most=some n) (hdf:d.params.defaults=[])
  (call:∀ (w:World) (s₀ s₁:Shared) (mg mb:Str->Option Value) (fa:Addr) (o:Obj) (pm cd doc:Value) (a:Addr) (vs:List Value) (ns:List Int),
   Ground q loose [] XP w s₀ mg mb s₁.heap->YP w s₁.heap ->
   s₁.heap.get? fa=some o->o.data=.func (docDef d.name d.params d.body d.scope pm cd doc)->s₁.heap.CodeRec cd d.name->mg d.name=some (.ref fa) ->
   s₁.heap.get? a=some { cls:=.type "list",data:=.seq vs.toArray }->IntsAre vs ns->ns.length<=n->s₁.gens = #[] ->
   codeAny (model l.prog w) callerA (.call (.ref fa) ⟨[.ref a],[]⟩) (λ r s'=>r=.ok (.ret (.bool true))/\OldK s₁.heap s'.heap/\s'.os=s₁.os/\AllBare s'.gens) s₁) :
  WalkO q loose XP YP l.row.toRowW d [] (λ f vs=>PySem.call f vs):=by
 intro w s₀ s₁ mg mb G Y fa o pm cd doc dV kV ho hd hcd hD hmg hg args vals as hpre hlay hrd hwl hlo;obtain rfl:dV=.none:=Dflts.none hD hdf;obtain rfl:kV=.none:=Dflts.noKw hD;obtain ⟨a,vs,ns,rfl,rfl,hobj,hints,hlen⟩:=kCM hn hpre hwl;refine enter_call (codeAny_mono (call w s₀ s₁ mg mb fa o pm cd doc a vs ns G Y ho (fd_plain hd) hcd hmg hobj hints hlen hg) λ r s' hq=>?_);obtain ⟨rfl,h2,h3,h4⟩:=hq;exact ⟨.inl ⟨.bool true,.bool true,[],rfl,λ _=>rfl,.bool true,kCU l _,λ _=>⟨List.Pairwise.nil,λ _ hm=>(nomatch hm)⟩⟩,h2,h3,h4⟩
section
variable {prog:Program} {w:World} {A:Around} {E:Value->Shared->Prop} {s:Shared} {K:Frag}
end
end Att
namespace L2
open PySem PySem.Spec PyProof.Rows
theorem lG:∀ {vs:List Value} {ns:List Int},IntsAre vs ns->Vals (ns.map V.int) vs
 | _,_,.nil=>.nil
 | _,_,.cons n t h=>.cons ⟨t,rfl⟩ (lG h)
def kMC (H:Hp):Prop:=∀ b,H b=none\/∃ o xs,H b=some (.frz o (.lst xs))
theorem kGE {P:Program} {w:World} {K:PySem.W.Frag} {mg mb:Str->Option Value} {CX:CXT} {k:Nat} {fa a:Addr} {fd:FuncData} {x:Str} {sp:Sp} {s₁:Shared} {vs:List Value} {ns:List Int}
  (KX:K.In s₁.heap) (hns:s₁.heap.Ns mainGlobals mg) (hb:s₁.heap.Ns builtinsNs mb) (hbb:∀ x:Str,x≠"__name__"->mb x=bootBuiltins x) (hlim:s₁.heap.NoLimit) (hg:s₁.gens = #[])
  (ha:s₁.heap.get? a=some { cls:=.type "list",data:=.seq vs.toArray }) (hi:IntsAre vs ns) (hl:ns.length<=sizeLine) (hr:Room k callerA)
  (F:∀ base:Heap,K.In base->base.Ns mainGlobals mg->FnOk P w K mg base CX k fa fd [x] sp) (hbind:∀ (s:Shared) (u:Value),BindsTo s fd ⟨[u],[]⟩ [(x,u)])
  (hsp:∀ H:Hp,kMC H->SqL K H a (ns.map V.int)->sp [.ref a] H (λ v _=>v=.bl true) λ _ _ _=>False)
  (hCX:∀ H e s',CX [] H s₁ (λ _ _ _=>False) e s'->False) :
  codeAny (model P w) callerA (.call (.ref fa) ⟨[.ref a],[]⟩) (λ r s'=>r=.ok (.ret (.bool true))/\OldK s₁.heap s'.heap/\s'.os=s₁.os/\AllBare s'.gens) s₁:=by
 have rv:=lG hi
 have lenV:=hi.length
 have core:∀ H:Hp,kMC H->SqL K H a (ns.map V.int)->HOk P w H s₁.heap->(∀ b,H b≠none->b=a)->(H a≠none->K.lookup a=none) ->
   codeAny (model P w) callerA (.call (.ref fa) ⟨[.ref a],[]⟩) (λ r s'=>r=.ok (.ret (.bool true))/\OldK s₁.heap s'.heap/\s'.os=s₁.os/\AllBare s'.gens) s₁:=by
  intro H hO hS hok hA hK;have base_of:∀ {b:Addr} {o:Obj},s₁.heap.get? b=some o->H b=none->(oO s₁.heap H).get? b=some o:=λ e n=>kGL e n
  have noA:∀ {b:Addr} {o:Obj} {es:Array DictEntry} {ep:Nat},s₁.heap.get? b=some o->o.data=.dict es ep->H b=none:=λ {b o es ep} e d=>by
   cases q:H b with
   | none=>rfl
   | some u =>
    have e':b=a:=hA b (by rw [q];simp);subst e';rw [ha] at e;cases e;have d':Data.seq vs.toArray _=Data.dict es ep:=d
    cases d'
  have nsK:∀ {b:Addr} {m:Str->Option Value},s₁.heap.Ns b m->(oO s₁.heap H).Ns b m:=λ {b m} ⟨o,es,ep,e,d,r⟩=>⟨o,es,ep,base_of e (noA e d),d,r⟩
  have hKb:K.In (oO s₁.heap H):=λ b o e=>base_of (KX b o e) (by
   cases q:H b with
   | none=>rfl
   | some u =>
    have e':b=a:=hA b (by rw [q];simp);subst e';rw [hK (by rw [q];simp)] at e;cases e)
  have hM:Mod K mg (oO s₁.heap H):=⟨hKb,nsK hns,⟨mb,nsK hb,hbb⟩,let ⟨mc,h1,h2⟩:=hlim;⟨mc,nsK h1,h2⟩⟩;have e0:Env0 P w K mg (oO s₁.heap H) callerA [] s₁ H:=⟨rfl,hM,λ b o e=>kIR e,Nat.le_of_eq (kDO _ _),trivial,λ b hb=>absurd (show b∈([]:List Addr) from hb) (by simp),hok,.of_eq hg⟩;refine codeAny_mono ((F _ hKb (nsK hns)).run callerA [] s₁ H ⟨[.ref a],[]⟩ [.ref a] [.ref a] _ _ hr e0 (hbind s₁ (.ref a)) (.cons rfl .nil) (hsp H hO hS)) λ r s' h=>?_
  cases r with
  | error e=>exact (hCX H e s' h).elim
  | ok fl =>
   cases fl with
   | next=>exact False.elim h
   | brk=>exact False.elim h
   | cont=>exact False.elim h
   | ret u =>
    obtain ⟨v,H',os,bare,un,hok',r',q⟩:=h;have q':v=.bl true:=q;subst q';obtain rfl:u=Value.bool true:=r';refine ⟨rfl,OldK.of_keep λ b o e=>?_,os,bare⟩
    cases q:H b with
    | none=>exact un.keep b o e q (by intro z;exact absurd (show b∈([]:List Addr) from z) (by simp)) (by simp)
    | some u =>
     rcases hO b with z | ⟨ob,xs,z⟩
     ·rw [q] at z;cases z
     ·have z2:=un.frzs b ob _ z
      obtain ⟨e1,_⟩:=hok b _ z;obtain ⟨e2,_⟩:=hok' b _ z2;rw [e] at e1;cases e1;exact e2
 cases hk:K.lookup a with
 | some o =>
  have e:=KX a o hk;rw [ha] at e;cases e
  refine core (λ _=>none) (λ _=>.inl rfl) (.inr ⟨_,vs.toArray,_,hk,rfl,rfl,rfl,by rw [size_toArray,lenV];exact hl,by simpa using rv⟩) (λ b u z=>by have z':(none:Option HO)=some u:=z;cases z') (λ b z=>absurd rfl z) λ z=>absurd rfl z
 | none =>
  refine core (λ b=>if b=a then some (.frz { cls:=.type "list",data:=.seq vs.toArray } (.lst (ns.map V.int))) else none) (λ b=>?_) (.inl (.inr ⟨{ cls:=.type "list",data:=.seq vs.toArray },if_pos rfl⟩)) (λ b u z=>?_) (λ b z=>?_) λ _=>hk
  ·by_cases hb:b=a
   ·exact .inr ⟨_,_,if_pos hb⟩
   ·exact .inl (if_neg hb)
  ·by_cases hb:b=a
   ·have z':=(if_pos hb).symm.trans z
    cases z'
    subst hb;exact ⟨ha,by rw [length_map];exact hl,vs,_,rv,ha⟩
   ·have z':=(if_neg hb).symm.trans z
    cases z'
  ·by_cases hb:b=a
   ·exact hb
   ·exact absurd (if_neg hb) z
theorem walk_of {l:PySem.W.OpenLaw} {n k:Nat} {q:Program} {loose:List Str} {XP:(Str->Option Value)->Heap->Prop} {YP:World->Heap->Prop} {d:DefRec} {K:Params->PySem.W.Frag} {CX:World->CXT} {sp:World->Sp} {x:Str}
  (hn:l.most=some n) (hn2:n<=sizeLine) (hdf:d.params.defaults=[]) (hr:Room k callerA)
  (hY:∀ (w:World) (h:Heap),YP w h->(K w.params).In h)
  (F:∀ (w:World) (mg:Str->Option Value) (fa:Addr) (h:Heap),(K w.params).In h->h.Ns mainGlobals mg->mg d.name=some (.ref fa) ->
   ∃ fd:FuncData,(∀ (s:Shared) (u:Value),BindsTo s fd ⟨[u],[]⟩ [(x,u)]) /\
    ∀ base:Heap,(K w.params).In base->base.Ns mainGlobals mg->FnOk l.prog w (K w.params) mg base (CX w) k fa fd [x] (sp w))
  (hsp:∀ (w:World) (H:Hp) (a:Addr) (ns:List Int),ns.length<=n->kMC H->SqL (K w.params) H a (ns.map V.int)->sp w [.ref a] H (λ v _=>v=.bl true) λ _ _ _=>False)
  (hCX:∀ (w:World) (H:Hp) (s:Shared) (e:Value) (s':Shared),CX w [] H s (λ _ _ _=>False) e s'->False) :
  PySem.W.WalkO q loose XP YP l.row.toRowW d [] (λ f vs=>PySem.call f vs):=by
 refine Att.attach_call hn hdf λ w s₀ s₁ mg mb fa o pm cd doc a vs ns G Y ho hd hcd hmg hobj hints hlen hg=>?_;have KX:=hY w _ Y;obtain ⟨fd,hb,hF⟩:=F w mg fa _ KX G.T.g hmg;exact kGE KX G.T.g G.T.b G.T.builtins G.T.nolimit hg hobj hints (Nat.le_trans hlen hn2) hr hF hb (λ H hO hS=>hsp w H a ns hlen hO hS) λ H e s'=>hCX w H s₁ e s'
def kW (s:Stmt):Arguments:=match s with
 | .FunctionDef _ a _ _ _ _ _ _ _ _=>a
 | _=>{ posonlyargs:=[],args:=[],vararg:=none,kwonlyargs:=[],kw_defaults:=[],kwarg:=none,defaults:=[] }
def kU (s:Stmt):List Stmt:=match s with
 | .FunctionDef _ _ b _ _ _ _ _ _ _=>b
 | _=>[]
def kJ (s:Stmt):Scope:=match s with
 | .FunctionDef _ _ _ _ _ _ sc _ _ _=>sc
 | _=>{ kind:=.function,names:=[],isGenerator:=false,isCoroutine:=false }
abbrev CX0:CXT:=λ _ _ _ _ _ _=>False
abbrev E0:XK:=λ _ _ _=>False
theorem kMW {X:Cx}:kAG CX0 X E0:=λ _ _ _ _ _ _ _ h=>h.elim
structure Fun (K:PySem.W.Frag) (x qual:Str) (st:Stmt) (f:Addr) (fd:FuncData):Prop where
 ex:∃ (oc:Value) (od:Option Addr) (kV doc pm:Value) (an:Option Addr) (cdv ct:Value) (osl:Array (Option Value)),
  fd=PySem.W.fnOf x qual (kW st) (kU st) (kJ st) .none kV doc pm an cdv ct/\K.lookup f=some ⟨oc,od,.func fd,osl⟩/\PySem.W.codeIn K cdv qual=true
 kp:PySem.W.keepIn K (.ref f)=true
section
variable {P:Program} {w:World} {K:PySem.W.Frag} {mg:Str->Option Value} {base:Heap}
theorem Fun.ok {x qual:Str} {st:Stmt} {f:Addr} {fd:FuncData} {N ps:List Str} {k:Nat} {sp:Sp} (F:Fun K x qual st f fd) (S:FnScope N ps (kJ st)) (len:∀ vs H Q E,sp vs H Q E->vs.length=ps.length)
  (hbody:∀ (cdv:Value) (A:Around) (outer:List Env) (s:Shared) (H:Hp) (vs:List V) (Q:VK) (E:XK),Room k (A.deeper (envOfC qual (kJ st) s.heap.objs.size f cdv))->sp vs H Q E ->
   ∃ t,PSs (kDW CX0 P w K mg base N qual (kJ st) f cdv A outer s H E).nox (kU st) t/\t { nx:=λ _ H'=>Q .non H',rt:=Q } (start N vs) H):FnOk P w K mg base CX0 (k+1) f fd ps sp:=by
 obtain ⟨oc,od,kV,doc,pm,an,cdv,ct,osl,rfl,lk,hcd⟩:=F.ex;refine kNG lk hcd S len λ A outer s H vs Q E hr hsp=>?_;obtain ⟨t,h,q⟩:=hbody cdv A outer s H vs Q E hr hsp;exact ⟨t,h.nox,q⟩
theorem Fun.binds {x qual:Str} {st:Stmt} {f:Addr} {fd:FuncData} {ps:List Str} (F:Fun K x qual st f fd)
  (h:∀ (kV doc pm:Value) (an:Option Addr) (cdv ct:Value) (us:List Value),us.length=ps.length->bindArgs (PySem.W.fnOf x qual (kW st) (kU st) (kJ st) .none kV doc pm an cdv ct) ⟨us,[]⟩=pure (ps.zip us)):Binds K fd ps []:=by
 obtain ⟨oc,od,kV,doc,pm,an,cdv,ct,osl,rfl,lk,hcd⟩:=F.ex;exact .all (h kV doc pm an cdv ct)
theorem qI {x qual:Str} {st:Stmt} {f:Addr} {oc:Value} {od an:Option Addr} {osl:Array (Option Value)} {kV doc pm cdv ct:Value} (l:K.lookup f=some ⟨oc,od,.func (PySem.W.fnOf x qual (kW st) (kU st) (kJ st) .none kV doc pm an cdv ct),osl⟩)
  (c:PySem.W.codeIn K cdv qual=true) (k:PySem.W.keepIn K (.ref f)=true):Fun K x qual st f (PySem.W.fnOf x qual (kW st) (kU st) (kJ st) .none kV doc pm an cdv ct):=⟨⟨oc,od,kV,doc,pm,an,cdv,ct,osl,rfl,l,c⟩,k⟩
end
theorem kGK {A:Around} {k:Nat} (hr:Room k A):A.units+1<cLine:=Nat.lt_of_le_of_lt (Nat.add_le_add_left (by decide:1<=64) _) hr.units
theorem kQ {n:Nat} (h:n<=1000):n<sizeLine:=Nat.lt_of_le_of_lt h (by decide)
section
variable {X:Cx}
theorem pv (i:Nat) {x:Str} {pos:Pos} (hN:X.N[i]?=some x:=by rfl) (hv:Vis X.env.scope x:=by first | exact Or.inl rfl | exact Or.inr (Or.inl rfl) | exact Or.inr (Or.inr rfl)) (hd:(x == ("__debug__" : Str))=false:=by decide)
  (hcd:(x == ("__classdict__" : Str))=false:=by decide):PE X (.Name x pos) (kKM i):=kLB hN hv hd hcd
end
theorem xI {A B:Prop} (h:B):if false=true then A else B:=by
 rw [if_neg Bool.false_ne_true];exact h
theorem wJ {A B:Prop} (h:A):if true=true then A else B:=by
 rw [if_pos rfl];exact h
theorem oI {c A B:Prop} [Decidable c] (h1:c->A) (h2:¬ c->B):if c then A else B:=by
 by_cases h:c
 ·rw [if_pos h]
  exact h1 h
 ·rw [if_neg h]
  exact h2 h
def Same (H H':Hp):Prop:=∀ b o,H b=some o->H' b=some o
theorem Same.refl (H:Hp):Same H H:=λ _ _ h=>h
theorem Same.trans {H H1 H2:Hp} (a:Same H H1) (b:Same H1 H2):Same H H2:=λ c o h=>b c o (a c o h)
theorem Same.free {H H':Hp} (e:Same H H') {l:Addr} (h:H' l=Option.none):H l=Option.none:=by
 cases q:H l with
 | none=>rfl
 | some o =>
  rw [e l o q] at h;cases h
theorem Same.seq {K:PySem.W.Frag} {H H':Hp} {a:Addr} {xs:List V} (e:Same H H') (h:SqL K H a xs):SqL K H' a xs:=by
 rcases h with (h | ⟨o,h⟩) | h
 ·exact .inl (.inl (e _ _ h))
 ·exact .inl (.inr ⟨o,e _ _ h⟩)
 ·exact .inr h
section
variable {κ:Type} [DecidableEq κ]
def yA (kvs:List (κ×V)) (k:κ):Option V:=(kvs.find? λ kv=>decide (kv.1=k)).map (·.2)
def wS (kvs:List (κ×V)) (k:κ) (v:V):List (κ×V) :=
 if (kvs.any λ kv=>decide (kv.1=k))=true then kvs.map (λ kv=>if kv.1=k then (kv.1,v) else kv) else kvs++[(k,v)]
theorem jQ {p:κ×V} {r:List (κ×V)} {k:κ} (e:p.1=k):yA (p::r) k=some p.2:=by simp [yA,List.find?_cons,e]
theorem jR {p:κ×V} {r:List (κ×V)} {k:κ} (e:¬ p.1=k):yA (p::r) k=yA r k:=by simp [yA,List.find?_cons,e]
theorem aS (k:κ):∀ kvs:List (κ×V),(kvs.any λ kv=>decide (kv.1=k))=(yA kvs k).isSome
 | []=>rfl
 | p::r=>by
  rw [List.any_cons];by_cases e:p.1=k
  ·simp only [jQ e,decide_eq_true e,Bool.true_or,Option.isSome_some]
  ·rw [jR e,decide_eq_false e,Bool.false_or];exact aS k r
theorem pM (k j:κ) (y:V):∀ kvs:List (κ×V),yA (kvs.map λ kv=>if kv.1=k then (kv.1,y) else kv) j=(yA kvs j).map λ x=>if j=k then y else x
 | []=>rfl
 | p::r=>by
  have ih:=pM k j y r;rw [map_cons];by_cases h:p.1=k
  ·rw [if_pos h]
   by_cases e:p.1=j
   ·rw [jQ (p:=(p.1,y)) e,jQ e,Option.map_some,if_pos (e.symm.trans h)]
   ·rw [jR (p:=(p.1,y)) e,jR e,ih]
  ·rw [if_neg h]
   by_cases e:p.1=j
   ·rw [jQ (p:=p) e,jQ e,Option.map_some,if_neg (λ z=>h (e.trans z))]
   ·rw [jR (p:=p) e,jR e,ih]
theorem lH (k j:κ) (y:V):∀ kvs:List (κ×V),yA kvs k=none->yA (kvs++[(k,y)]) j=if j=k then some y else yA kvs j
 | [],_=>by
  by_cases e:k=j
  ·rw [if_pos e.symm];exact jQ (p:=(k,y)) e
  ·rw [if_neg (λ z=>e z.symm)];exact jR (p:=(k,y)) e
 | p::r,hn=>by
  rw [cons_append];have hk:¬ p.1=k:=λ z=>by rw [jQ z] at hn;cases hn
  rw [jR hk] at hn;have ih:=lH k j y r hn;by_cases e:p.1=j
  ·rw [jQ e,jQ e,if_neg (λ z=>hk (e.trans z))]
  ·rw [jR e,jR e,ih]
theorem pL (kvs:List (κ×V)) (k j:κ) (y:V):yA (wS kvs k y) j=if j=k then some y else yA kvs j:=by
 unfold wS;by_cases a:(kvs.any λ kv=>decide (kv.1=k))=true
 ·rw [if_pos a,pM]
  rw [aS] at a;by_cases e:j=k
  ·obtain ⟨x,hx⟩:=Option.isSome_iff_exists.mp a
   rw [if_pos e,e,hx,Option.map_some,if_pos rfl]
  ·rw [if_neg e]
   cases yA kvs j with
   | none=>rfl
   | some x=>rw [Option.map_some,if_neg e]
 ·rw [if_neg a]
  refine lH k j y kvs ?_;rw [aS] at a
  cases q:yA kvs k with
  | none=>rfl
  | some x=>rw [q] at a;exact (a rfl).elim
theorem wD (kvs:List (κ×V)) (k:κ) (v:V):(wS kvs k v).length<=kvs.length+1:=by
 unfold wS
 split
 ·rw [length_map];omega
 ·rw [length_append,length_cons,length_nil];omega
theorem RelO.isSome_eq {o:Option V} {u:Option Value} (r:RelO o u):o.isSome=u.isSome:=by
 cases o with
 | none=>cases u with
  | none=>rfl
  | some _=>exact (show False from r).elim
 | some _=>cases u with
  | none=>exact (show False from r).elim
  | some _=>rfl
theorem KV.val {kvs:List (κ×V)} {vs:List (κ×Value)} (r:KV kvs vs) (k:κ):RelO (yA kvs k) (valueAt vs k):=by
 unfold KV at r
 induction r with
 | nil=>exact True.intro
 | @cons p q ps qs h t ih =>
  obtain ⟨h1,h2⟩:=h;by_cases e:p.1=k
  ·have e':q.1=k:=h1.symm.trans e
   have b:valueAt (q::qs) k=some q.2:=by simp [valueAt,List.find?_cons,e']
   rw [jQ e,b];exact h2
  ·have e':¬ q.1=k:=λ z=>e (h1.trans z)
   have b:valueAt (q::qs) k=valueAt qs k:=by simp [valueAt,List.find?_cons,e']
   rw [jR e,b];exact ih
theorem KV.any {kvs:List (κ×V)} {vs:List (κ×Value)} (r:KV kvs vs) (k:κ):(kvs.any λ kv=>decide (kv.1=k))=vs.any λ kv=>decide (kv.1=k):=by
 unfold KV at r
 induction r with
 | nil=>rfl
 | cons h t ih=>rw [List.any_cons,List.any_cons,ih,h.1]
theorem KV.repl {kvs:List (κ×V)} {vs:List (κ×Value)} (r:KV kvs vs) (k:κ) {y:V} {u:Value} (ry:RelV y u) :
  KV (kvs.map λ kv=>if kv.1=k then (kv.1,y) else kv) (vs.map λ kv=>if kv.1=k then (kv.1,u) else kv):=by
 unfold KV at r ⊢
 induction r with
 | nil=>exact .nil
 | @cons p q ps qs h t ih =>
  rw [map_cons,map_cons];refine .cons ?_ ih;obtain ⟨h1,h2⟩:=h;by_cases e:p.1=k
  ·rw [if_pos e,if_pos (h1.symm.trans e)];exact ⟨h1,ry⟩
  ·rw [if_neg e,if_neg (λ z=>e (h1.trans z))];exact ⟨h1,h2⟩
theorem KV.put {kvs:List (κ×V)} {vs:List (κ×Value)} (r:KV kvs vs) (k:κ) {y:V} {u:Value} (ry:RelV y u):KV (wS kvs k y) (stored vs k u):=by
 unfold wS stored;rw [r.any k];by_cases e:(vs.any λ kv=>decide (kv.1=k))=true
 ·rw [if_pos e,if_pos e];exact r.repl k ry
 ·rw [if_neg e,if_neg e];exact Paired.snoc r ⟨rfl,ry⟩
theorem KV.length {kvs:List (κ×V)} {vs:List (κ×Value)} (r:KV kvs vs):kvs.length=vs.length:=Paired.length r
end
theorem kGH {P:Program} {w:World} {k:Key} {u:Value} (r:RelV (kV k) u):(qY P w).is k u=true:=by
 cases k with
 | inl i=>obtain ⟨t,e⟩:=(show ∃ t,u=Value.int i t from r);subst e;exact rH P w i t
 | inr x=>obtain ⟨t,e⟩:=(show ∃ t,u=Value.str x t from r);subst e;exact rG P w x t
theorem mE {P:Program} {w:World}:∀ {ks:List Key} {us:List Value},Vals (ks.map kV) us->ItemsAre (qY P w) ks us
 | [],_,r=>by rw [map_nil] at r;cases r;exact .nil
 | k::ks,_,r=>by
  rw [map_cons] at r
  cases r with
  | cons h t=>exact .cons (kGH h) (mE t)
abbrev KT (H:Hp):List (List Key×V)->List (List Key×Addr×Value)->Prop:=Paired λ p q=>p.1=q.1/\H q.2.1=some (.tup (p.1.map kV))/\RelV p.2 q.2.2
theorem KT.val {H:Hp} {kvs:List (List Key×V)} {xs:List (List Key×Addr×Value)} (r:KT H kvs xs) (k:List Key):RelO (yA kvs k) ((atKey xs k).map (·.2)):=by
 induction r with
 | nil=>exact True.intro
 | @cons p q ps qs h t ih =>
  obtain ⟨h1,_,h2⟩:=h;by_cases e:p.1=k
  ·have e':q.1=k:=h1.symm.trans e
   have b:atKey (q::qs) k=some q.2:=by simp [atKey,List.find?_cons,e']
   rw [jQ e,b];exact h2
  ·have e':¬ q.1=k:=λ z=>e (h1.trans z)
   have b:atKey (q::qs) k=atKey qs k:=by simp [atKey,List.find?_cons,e']
   rw [jR e,b];exact ih
theorem KT.repl {H:Hp} {kvs:List (List Key×V)} {xs:List (List Key×Addr×Value)} (r:KT H kvs xs) (k:List Key) {y:V} {u:Value} (ry:RelV y u) :
  KT H (kvs.map λ kv=>if kv.1=k then (kv.1,y) else kv) (xs.map (putAt k u)):=by
 induction r with
 | nil=>exact .nil
 | @cons p q ps qs h t ih =>
  rw [map_cons,map_cons];refine .cons ?_ ih;obtain ⟨h1,h2,h3⟩:=h;unfold putAt;by_cases e:p.1=k
  ·rw [if_pos e,if_pos (h1.symm.trans e)];exact ⟨h1,h2,ry⟩
  ·rw [if_neg e,if_neg (λ z=>e (h1.trans z))];exact ⟨h1,h2,h3⟩
theorem KT.put {H:Hp} {kvs:List (List Key×V)} {xs:List (List Key×Addr×Value)} (r:KT H kvs xs) (k:List Key) {b:Addr} {y:V} {u:Value} (hb:H b=some (.tup (k.map kV))) (ry:RelV y u) :
  KT H (wS kvs k y) (storedH xs k b u):=by
 have e:(kvs.any λ kv=>decide (kv.1=k))=(atKey xs k).isSome:=by
  rw [aS,(r.val k).isSome_eq,Option.isSome_map]
 unfold wS storedH;rw [e];by_cases q:(atKey xs k).isSome=true
 ·rw [if_pos q,if_pos q];exact r.repl k ry
 ·rw [if_neg q,if_neg q];exact Paired.snoc r ⟨rfl,hb,ry⟩
theorem KT.keeps {H H':Hp} {kvs:List (List Key×V)} {xs:List (List Key×Addr×Value)} (r:KT H kvs xs) (ht:∀ b ys,H b=some (.tup ys)->H' b=some (.tup ys)):KT H' kvs xs :=
 Paired.mapP r λ _ _ z=>⟨z.1,ht _ _ z.2.1,z.2.2⟩
section
variable {P:Program} {w:World} {H:Hp} {h:Heap} {a:Addr}
theorem kJV {u:HO} (ok:HOk P w H h) (e:Rd H a u):ObjOk P w H h a u:=e.ok ok
theorem kKC {kvs:List (Key×V)} (ok:HOk P w H h) (e:Rd H a (.dK kvs)):kvs.length<=sizeLine/\(a == sysModules)=false/\∃ vs,KV kvs vs/\h.DictOf (qY P w) a vs :=
 show ObjOk P w H h a (.dK kvs) from kJV ok e
theorem kNI {kvs:List (Key×V)} (ok:HOk P w H h) (e:H a=some (.dK kvs)):kvs.length<=sizeLine/\(a == sysModules)=false/\∃ vs,KV kvs vs/\h.DictOf (qY P w) a vs:=kKC ok (.inl e)
theorem tX {ks:List Key} (ok:HOk P w H h) (e:H a=some (.tup (ks.map kV))):(tupleKind (qY P w)).is h ks a:=by
 obtain ⟨_,its,r,o,h1,h2,n,h3,_⟩:=(show ObjOk P w H h a (.tup (ks.map kV)) from ok a _ e);exact ⟨o,its.toArray,n,h1,h2,h3,by simpa using mE r⟩
theorem kKB {kvs:List (List Key×V)} (ok:HOk P w H h) (e:Rd H a (.dT kvs)):kvs.length<=sizeLine/\(a == sysModules)=false /\
  ∃ xs,KT H kvs xs/\h.DictOfH (tupleKind (qY P w)) a xs:=by
 obtain ⟨z,y,xs,r,o,es,ep,h1,h2,h3,h4,h5⟩:=(show ObjOk P w H h a (.dT kvs) from kJV ok e);refine ⟨z,y,xs,r,o,es,ep,h1,h2,h3,h4,λ x hx=>?_,h5⟩
 have all:∀ {l:List (List Key×V)} {m:List (List Key×Addr×Value)},KT H l m->∀ x∈m,(tupleKind (qY P w)).is h x.1 x.2.1:=by
  intro l m q
  induction q with
  | nil=>intro x hx;exact nomatch hx
  | @cons p q ps qs hq t ih =>
   intro x hx;rcases mem_cons.mp hx with e | hx
   ·subst e
    exact tX ok (by rw [<-hq.1];exact hq.2.1)
   ·exact ih x hx
 exact all r x hx
theorem kGZ {kvs:List (List Key×V)} (ok:HOk P w H h) (e:H a=some (.dT kvs)):kvs.length<=sizeLine/\(a == sysModules)=false /\
  ∃ xs,KT H kvs xs/\h.DictOfH (tupleKind (qY P w)) a xs:=kKB ok (.inl e)
end
def DGet (H:Hp) (a:Addr) (y:V) (r:Option V):Prop :=
 (∃ kvs k,Rd H a (.dK kvs)/\y=kV k/\r=yA kvs k)\/∃ kvs k b,Rd H a (.dT kvs)/\y=.ref b/\H b=some (.tup (k.map kV))/\r=yA kvs k
def DPut (H:Hp) (a:Addr) (y v:V) (H':Hp):Prop :=
 (∃ kvs k,H a=some (.dK kvs)/\y=kV k/\kvs.length<sizeLine/\H'=upd H a (.dK (wS kvs k v))) \/
 ∃ kvs k b,H a=some (.dT kvs)/\y=.ref b/\H b=some (.tup (k.map kV))/\kvs.length<sizeLine/\H'=upd H a (.dT (wS kvs k v))
theorem DGet.t {H:Hp} {a b:Addr} {kvs:List (List Key×V)} {k:List Key} (e:H a=some (.dT kvs)) (eb:H b=some (.tup (k.map kV))):DGet H a (.ref b) (yA kvs k):=.inr ⟨kvs,k,b,.inl e,rfl,eb,rfl⟩
theorem DPut.t {H:Hp} {a b:Addr} {kvs:List (List Key×V)} {k:List Key} {v:V} (e:H a=some (.dT kvs)) (eb:H b=some (.tup (k.map kV))) (hl:kvs.length<sizeLine) :
  DPut H a (.ref b) v (upd H a (.dT (wS kvs k v))):=.inr ⟨kvs,k,b,e,rfl,eb,hl,rfl⟩
section
variable {X:Cx} {pins:List (Addr×Obj)} {σ:St} {H:Hp} {s:Shared} {a:Addr} {y v:V} {u r:Value} {o:Option V} {A:Around} {E:Value->Shared->Prop}
theorem Inv.big (I:Inv X pins σ H s):sysModules<s.heap.objs.size:=by
 have h:mainGlobals<s.heap.objs.size:=(I.mod.glob.keeps I.bk).lt;exact Nat.lt_trans (by decide) h
theorem kJM {Q:Value->Shared->Prop} (hu:A.units+1<cLine) (I:Inv X pins σ H s) (g:DGet H a y o) (ry:RelV y u) (h:∀ s',Inv X pins σ H s'->Q (.bool (!o.isSome)) s') :
  wpAny (model X.prog X.w) A (compareOp .NotIn u (.ref a)) Q E s:=by
 rcases g with ⟨kvs,k,e,ey,l⟩ | ⟨kvs,k,b,e,ey,eb,l⟩
 ·subst ey
  obtain ⟨z,hd,vs,rel,dd⟩:=kKC I.hok e;refine wpAny_notIn_of (kGH ry) hd dd.mapOf ?_;rw [<-(rel.val k).isSome_eq,<-l];exact h _ (I.tok _)
 ·subst ey
  cases (show u=Value.ref b from ry)
  obtain ⟨z,hd,xs,rel,dd⟩:=kKB I.hok e;refine wpAny_notIn_heap (tupleKind_room_in1 hu) (tX I.hok eb) hd dd ?_;have q:=(rel.val k).isSome_eq;rw [Option.isSome_map] at q;rw [<-q,<-l];exact h _ (I.tok _)
theorem oU {h':Heap} {t':Nat} {ob:HO} (I:Inv X pins σ H s) (mu:Mut (H a)) (hs:Heap.SameBut a s.heap h') (he:∃ q,h'.get? a=some q) (new:ObjOk X.prog X.w (upd H a ob) h' a ob) :
  Inv X pins σ (upd H a ob) { s with heap:=h',toks:=t' } :=
 I.write (x:=a) (e:=a) mu (.inl rfl) (λ b q hb z=>(hs.2 b hb).trans z) he new
theorem kLY {P:Program} {w:World} {H':Hp} {h':Heap} {kvs:List (Key×V)} {vs:List (Key×Value)} (z:kvs.length<=sizeLine) (hd:(a == sysModules)=false) (rel:KV kvs vs) (dd:h'.DictOf (qY P w) a vs) :
  ObjOk P w H' h' a (.dK kvs):=⟨z,hd,vs,rel,dd⟩
end
section
variable {X:Cx} {pins:List (Addr×Obj)} {σ:St} {H:Hp} {s:Shared} {a:Addr} {kvs:List (Key×V)} {k:Key} {u:Value} {A:Around} {E:Value->Shared->Prop}
end
def kHQ (ty td:TE):TE:=λ σ H Q=>ty σ H λ y H1=>td σ H1 λ x H2=>∃ a o,x=.ref a/\DGet H2 a y o/\Q (.bl (!o.isSome)) H2
section
variable {X:Cx} {o i e value:Expr} {pos pos' tpos:Pos} {td ty tv:TE}
theorem kCV (hu:X.A.units+1<cLine) (hi:PE X i ty) (ho:PE X o td):PC X .NotIn i o (kHQ ty td):=by
 intro pins s σ H Q I h;refine thn (hi pins s σ H _ I h) λ iv s1 ⟨y,H1,I1,ry,q1⟩=>thn (ho pins s1 σ H1 _ I1 q1) λ u s2 ⟨x,H2,I2,rx,a,ov,ex,g,q2⟩=>?_;subst ex;obtain rfl:u=Value.ref a:=rx;exact kJM hu I2 g ry λ s3 I3=>⟨.bl (!ov.isSome),H2,I3,rfl,q2⟩
end
theorem kHA {P:Program} {w:World} {H:Hp} (h:Heap) (hb:sysModules<h.objs.size):ObjOk P w H (h.push { cls:=.type "dict",data:=.dict #[] }) h.objs.size (.dT []) :=
 ⟨Nat.zero_le _,beq_eq_false_iff_ne.mpr (Ne.symm (Nat.ne_of_lt hb)),[],.nil,_,#[],0,Heap.get?_push_size _ rfl,⟨rfl,rfl,rfl⟩,rfl,rfl,nodup_nil⟩
def kKN:TE:=λ _ H Q=>∀ p,H p=none->Q (.ref p) (upd H p (.dT []))
section
variable {X:Cx} {pos:Pos}
theorem kFQ:PE X (.Dict [] [] pos) kKN:=λ pins s σ H Q I h =>
 wpAny_Dict_empty ⟨.ref s.heap.objs.size,_,I.laid (a:=s.heap.objs.size) (o:=.dT []) (t':=s.toks) (λ _ _ q=>Heap.get?_push_of_some _ q) (Nat.le_refl _) (kHA s.heap I.big),rfl,h _ (I.hok.fresh (Nat.le_refl _))⟩
end
section
variable {X:Cx} {pins:List (Addr×Obj)} {σ:St} {H:Hp} {s:Shared} {a:Addr} {y d:V} {u r:Value} {o:Option V} {A:Around} {E:Value->Shared->Prop}
end
section
variable {X:Cx} {o e f:Expr} {apos cpos:Pos} {td ty tx:TE}
end
section
variable {X:Cx} {pins:List (Addr×Obj)} {σ:St} {H:Hp} {s:Shared} {a:Addr} {kvs:List (Key×V)} {A:Around} {E:Value->Shared->Prop}
end
section
variable {X:Cx} {pins:List (Addr×Obj)} {σ:St} {H:Hp} {s:Shared} {a:Addr} {y:V} {u:Value} {A:Around} {E:Value->Shared->Prop}
end
section
variable {κ:Type} [DecidableEq κ]
end
end L2
namespace Own
open PySem PySem.Spec PyProof.Rows L2
def Has (P:Program) (w:World) (K:PySem.W.Frag) (mg:Str->Option Value) (base:Heap) (x:Str) (ps:List Str) (k:Nat) (sp:Sp):Prop :=
 ∃ (f:Addr) (fd:FuncData),FnOk P w K mg base CX0 k f fd ps sp/\Binds K fd ps []/\PySem.W.keepIn K (.ref f)=true/\mg x=some (.ref f)
section
variable {X:Cx} {k:Nat} {ps:List Str} {sp:Sp} {x:Str} {p pos:Pos} {e:Expr} {es:List Expr} {t:TA}
theorem pe_has (h:Has X.prog X.w X.K X.mg X.base x ps k sp) (hr:Room k X.A) (hg:Gl X x)
  (ha:PA X (e::es) t) (hdb:(x == ("__debug__" : Str))=false:=by decide) (he:starEach (e::es) X.env=(false,eval e X.env)::starEach es X.env:=by rfl) (hpl:(backTo pos (starEach es X.env)).any (·.1)=false:=by rfl) :
  PE X (.Call (.Name x p) (e::es) [] pos) (kJT sp [] E0 t):=by
 obtain ⟨f,fd,F,b,kp,m⟩:=h;exact kIK F hr hg m kp b .nil kMW ha hdb he hpl
end
section
variable {X:Cx}
theorem log2_lt {n:Nat} (h:n<2 ^ 9000):n.log2<9000:=by
 by_cases h0:n=0
 ·subst h0;decide
 ·exact (Nat.log2_lt h0).mpr h
theorem call_isi:yG X (.builtin "isinstance") (λ xs H Q=>∃ x t T b,xs=[x,.ty T]/\TyOf X.K H x t/\PySem.W.kitOne X.K t (.type T)=some b/\Q (.bl b) H):=by
 intro pins s σ H xs us Q I r h;obtain ⟨x,t,T,b,rfl,ty,e,q⟩:=h;obtain ⟨u,w',rfl,r1,r2⟩:=pK r;cases r2
 exact kDK I r1 ty e λ tk=>⟨.bl b,H,I.tok _,rfl,q⟩
end
end Own
set_option maxHeartbeats 4000000
namespace L2
open PySem PySem.Spec PyProof.Rows
abbrev TB:=(St->Hp->Prop)->St->Hp->Prop
def PBd (X:Cx) (code:Sem Unit) (b:TB):Prop :=
 ∀ (pins:List (Addr×Obj)) (s:Shared) (σ:St) (H:Hp) (N:St->Hp->Prop),Inv X pins σ H s->b N σ H ->
  wpAny (model X.prog X.w) X.A code (λ _ s'=>∃ σ' H',Inv X pins σ' H' s'/\N σ' H') X.xe s
def PTl (X:Cx) (tail:Sem PySem.Fin) (L:Code) (b:TB):Prop :=
 ∀ (pins:List (Addr×Obj)) (s:Shared) (σ:St) (H:Hp) (N:St->Hp->Prop),Inv X pins σ H s->b N σ H ->
  wpAny (model X.prog X.w) X.A tail (λ fin s'=>fin=.again L/\∃ σ' H',Inv X pins σ' H' s'/\N σ' H') X.xe s
def yI (ifs:List Expr) (env:Env) (body:Sem Unit) (L:Code):Sem PySem.Fin :=
 (forIn ifs true λ c r=>if r=true then do let ok <-isTrue c env (eval c env);pure (ForInStep.yield ok) else pure (ForInStep.yield r)) >>= λ ok=>if ok=true then body >>= λ _=>again L else again L
def uU (J:It) (g:TG) (b:TB) (N0:St->Hp->Prop) (σ:St) (H:Hp):Prop :=
 ∃ W:Nat->Nat->St->Hp->Prop,(∃ m,W 0 m σ H)/\∀ i m σ H,W i m σ H ->
  (J.stop i H/\N0 σ H)\/(J.go i H/\∃ N:St->Hp->Prop,(∀ σ' H',N σ' H'->∃ m',m'<m/\W (i+1) m' σ' H')/\∀ x H',J.yld i H x H'->g x σ H' λ σ2 H2=>b N σ2 H2)
section
variable {X:Cx} {e tg:Expr} {gens:List Comprehension} {sc:Scope} {cpos:Pos} {d:Nat} {it:Addr} {acc:Value} {tail:Sem PySem.Fin} {p:Pos} {g:TG} {b:TB} {J:It} {fp:List Addr} {tn:Nat->Heap->Prop} {N0:St->Hp->Prop} {R:Result->Shared->Prop}
theorem zS (he:(∃ el,e=.ListComp el gens sc cpos)\/∃ k v,e=.DictComp k v gens sc cpos) (hx:X.xe=λ _ _=>False) (hc:X.calm=true)
  (ht:compTurn e d (.ref it) acc X.env=(standAt p >>= λ _=>pyNext (.ref it) >>= λ r=>match r with
   | none=>pure (.done .next)
   | some v=>letOwnedTupleGo tg (.ref it) v >>= λ _=>assign tg X.env v >>= λ _=>tail))
  (T:Turn X.prog X.w X.K tg J fp it tn) (hg:PG X tg g) (hb:PTl X tail (.compLoop e d (.ref it) acc X.env) b) {pins:List (Addr×Obj)} {σ:St} {H:Hp} {s:Shared}
  (I:Inv X pins σ H s) (st:tn 0 s.heap) (f2:∀ b∈fp,zE X pins H b) (hw:uU J g b N0 σ H)
  (hR:∀ σ' H' s',Inv X pins σ' H' s'->N0 σ' H'->R (.ok .next) s') :
  codeAny (model X.prog X.w) X.A (.compLoop e d (.ref it) acc X.env) R s:=by
 obtain ⟨W,⟨m0,w0⟩,turn⟩:=hw;have stat:∀ {H':Hp},(∀ b∈fp,H' b=none)->∀ b∈fp,zE X pins H' b:=λ hn b hb=>⟨hn b hb,(f2 b hb).2⟩;refine codeAny_loop rfl (λ n s'=>∃ i σ' H',Inv X pins σ' H' s'/\tn i s'.heap/\(∀ b∈fp,H' b=none)/\W i n σ' H') ?_ m0 ⟨0,σ,H,I,st,λ b hb=>(f2 b hb).1,w0⟩;rintro n s3 ⟨i,σ3,H3,I3,st3,fr3,w3⟩
 have hden:(model X.prog X.w).den (.compLoop e d (.ref it) acc X.env)=((compTurn e d (.ref it) acc X.env).onRaise (λ x=>do noteFrame x X.env;theTreesLotGoes x))/\X.A.under (.compLoop e d (.ref it) acc X.env)=X.A:=by
  rcases he with ⟨el,rfl⟩ | ⟨k,v,rfl⟩<;>exact ⟨rfl,rfl⟩
 rw [hden.1,hden.2];show wpAny _ _ ((compTurn e d (.ref it) acc X.env).onRaise (λ x=>do noteFrame x X.env;theTreesLotGoes x)) _ _ s3;refine wpAny_noted ?_;rw [ht]
 have no:∀ {α:Type} {t:Sem α} {Q:α->Shared->Prop} {E:Value->Shared->Prop} {s:Shared},wpAny (model X.prog X.w) X.A t Q X.xe s->wpAny (model X.prog X.w) X.A t Q E s :=
  λ h=>wpAny_mono h (λ _ _ q=>q) λ _ _ q=>by rw [hx] at q;exact q.elim
 refine wpAny_bind (wpAny_standAt (wpAny_bind ?_));rcases turn i n σ3 H3 w3 with ⟨stop,qn⟩ | ⟨go,N,hN,step⟩
 ·refine no (thn (T.done X rfl rfl rfl hc i pins s3 σ3 H3 X.xe I3 (stat fr3) st3 stop) λ r s4 ⟨hr,I4⟩=>?_)
  subst hr;exact wpAny_pure (hR _ _ _ I4 qn)
 ·refine no (thn (T.item X rfl rfl rfl hc i pins s3 σ3 H3 X.xe I3 (stat fr3) st3 go) λ r s4 ⟨u,hr,h4⟩=>?_)
  subst hr;refine wpAny_bind (no (thn h4 λ _ s5 ⟨x,H5,I5,r5,y5,st5,fr5⟩=>?_));have I5':=I5.pinned (stat fr5) (T.obj _ _ st5);refine wpAny_bind (no (thn (hg _ s5 σ3 H5 x u _ I5' r5 (step x H5 y5)) λ _ s6 ⟨σ6,H6,I6,q6⟩=>?_));refine no (thn (hb _ s6 σ6 H6 _ I6 q6) λ fin s7 ⟨hf,σ7,H7,I7,n7⟩=>?_);subst hf;obtain ⟨m',hm,w7⟩:=hN σ7 H7 n7;refine ⟨rfl,m',hm,i+1,σ7,H7,I7.unpinned,T.keep _ _ _ st5 λ b hb o e=>(I7.pin (b,o) (mem_append_right _ (mem_append_right _ (vJ hb e)))).1,λ b hb=>?_,w7⟩;obtain ⟨o,e,d⟩:=T.obj _ _ st5 b hb;exact (I7.pin (b,o) (mem_append_right _ (mem_append_right _ (vJ hb e)))).2.1
end
def bIf (t:TT) (b:TB):TB:=λ N σ H=>t σ H λ c H1=>if c=true then b N σ H1 else N σ H1
theorem xK {X:Cx} {body:Sem Unit} {L:Code} {b:TB} (hb:PBd X body b):PTl X (yI [] X.env body L) L b:=by
 intro pins s σ H N I h;unfold yI;refine wpAny_bind (wpAny_tests_nil ?_);show wpAny _ _ (body >>= λ _=>again L) _ _ s;exact wpAny_bind (thn (hb pins s σ H N I h) λ _ s' q=>wpAny_pure ⟨rfl,q⟩)
theorem yB {X:Cx} {c:Expr} {t:TT} {body:Sem Unit} {L:Code} {b:TB} (hc:PT X c t) (hb:PBd X body b):PTl X (yI [c] X.env body L) L (bIf t b):=by
 intro pins s σ H N I h;unfold yI;refine wpAny_bind (wpAny_tests_one (thn (hc pins s σ H _ I h) λ ok s1 ⟨H1,I1,q⟩=>?_))
 cases ok with
 | true=>exact wpAny_bind (thn (hb pins s1 σ H1 N I1 (by simpa using q)) λ _ s' q=>wpAny_pure ⟨rfl,q⟩)
 | false=>exact wpAny_pure ⟨rfl,σ,H1,I1,by simpa using q⟩
def kNP (D:Addr) (te:TE):TB:=λ N σ H=>te σ H λ x H1=>∃ xs,H1 D=some (.lst xs)/\xs.length<sizeLine/\N σ (upd H1 D (.lst (xs++[x])))
theorem jX {X:Cx} {el:Expr} {te:TE} {D:Addr} (he:PE X el te):PBd X (do let _ <-call (.builtin "list.append") [.ref D,<-eval el X.env]) (kNP D te):=by
 intro pins s σ H N I h;refine wpAny_bind (thn (he pins s σ H _ I h) λ u s1 ⟨x,H1,I1,r,xs,hD,hz,q⟩=>?_);refine wpAny_bind (thn (jM pins s1 σ H1 (.ref D) [x] (.ref D) [u] (λ _ H2=>N σ H2) I1 rfl (.cons r .nil) ⟨D,xs,x,rfl,rfl,hD,hz,q⟩) λ _ s2 ⟨_,H2,I2,_,q2⟩=>?_);exact wpAny_pure ⟨σ,H2,I2,q2⟩
theorem mW (el tg iter:Expr) (ifs:List Expr) (sc:Scope) (pos:Pos) (it acc:Value) (env:Env) :
  compTurn (.ListComp el [⟨tg,iter,ifs,0⟩] sc pos) 0 it acc env=(standAt iter.pos >>= λ _=>pyNext it >>= λ r=>match r with
   | none=>pure (.done .next)
   | some v=>letOwnedTupleGo tg it v >>= λ _=>assign tg env v >>= λ _=>yI ifs env (do let _ <-call (.builtin "list.append") [acc,<-eval el env]) (.compLoop (.ListComp el [⟨tg,iter,ifs,0⟩] sc pos) 0 it acc env)):=by rfl
def kEO (ifs:List Expr) (env:Env) (iter2:Expr) (next:Value->Code) (L:Code):Sem PySem.Fin :=
 (forIn ifs true λ c r=>if r=true then do let ok <-isTrue c env (eval c env);pure (ForInStep.yield ok) else pure (ForInStep.yield r)) >>= λ ok=>if ok=true then
  (eval iter2 env >>= λ x=>standAt iter2.pos >>= λ _=>foldedSetIterable iter2 env x >>= λ x=>holding [x] (pyIter x) >>= λ i=>runOwn (next i) env >>= λ _=>again L) else again L
theorem kEJ (el tg iter tg2 iter2:Expr) (ifs ifs2:List Expr) (sc:Scope) (pos:Pos) (it acc:Value) (env:Env) :
  compTurn (.ListComp el [⟨tg,iter,ifs,0⟩,⟨tg2,iter2,ifs2,0⟩] sc pos) 0 it acc env=(standAt iter.pos >>= λ _=>pyNext it >>= λ r=>match r with
   | none=>pure (.done .next)
   | some v=>letOwnedTupleGo tg it v >>= λ _=>assign tg env v >>= λ _=>kEO ifs env iter2 (λ i=>.compStart (.ListComp el [⟨tg,iter,ifs,0⟩,⟨tg2,iter2,ifs2,0⟩] sc pos) 1 i acc env) (.compLoop (.ListComp el [⟨tg,iter,ifs,0⟩,⟨tg2,iter2,ifs2,0⟩] sc pos) 0 it acc env)):=by rfl
theorem kEI (el tg iter tg2 iter2:Expr) (ifs ifs2:List Expr) (sc:Scope) (pos:Pos) (it acc:Value) (env:Env) :
  compTurn (.ListComp el [⟨tg,iter,ifs,0⟩,⟨tg2,iter2,ifs2,0⟩] sc pos) 1 it acc env=(standAt iter2.pos >>= λ _=>pyNext it >>= λ r=>match r with
   | none=>pure (.done .next)
   | some v=>letOwnedTupleGo tg2 it v >>= λ _=>assign tg2 env v >>= λ _=>yI ifs2 env (do let _ <-call (.builtin "list.append") [acc,<-eval el env]) (.compLoop (.ListComp el [⟨tg,iter,ifs,0⟩,⟨tg2,iter2,ifs2,0⟩] sc pos) 1 it acc env)):=by rfl
def vO (env:Env) (cs:List (Str×Addr)) (y:Str×NameKind):List (Str×Addr) :=
 if (y.2 == .free)=true then (match env.cells.lookup y.1 with | some c=>(y.1,c)::cs | none=>cs) else cs
def zJ (sc:Scope) (env:Env):List (Str×Addr):=sc.names.foldl (vO env) []
def oV (env:Env) (x:Str×NameKind) (r:List (Str×Addr)):Sem (ForInStep (List (Str×Addr))) :=
 match x with | (name,kind)=>if (kind == .free)=true then (do let a <-cellOf env name;pure (ForInStep.yield ((name,a)::r))) else pure (ForInStep.yield r)
theorem kDX {env:Env} {y:Str×NameKind} {cs:List (Str×Addr)} (h:y.2=.free->∃ c,env.cells.lookup y.1=some c):oV env y cs=pure (ForInStep.yield (vO env cs y)):=by
 obtain ⟨n,k⟩:=y;unfold oV vO
 cases hk:k == NameKind.free with
 | false=>simp [hk]
 | true =>
  obtain ⟨c,hc⟩:=h (by simpa using hk);have hc':List.lookup n env.cells=some c:=hc;simp only [hk,if_true,cellOf,hc',pure_bind]
theorem gX {env:Env}:∀ (l:List (Str×NameKind)) (cs:List (Str×Addr)),(∀ y∈l,y.2=.free->∃ c,env.cells.lookup y.1=some c) ->
  (forIn l cs (oV env):Sem (List (Str×Addr)))=pure (l.foldl (vO env) cs)
 | [],cs,_=>rfl
 | y::r,cs,h=>by
  rw [List.forIn_cons,kDX (h y mem_cons_self),pure_bind,foldl_cons];exact gX r _ λ y hy=>h y (mem_cons_of_mem _ hy)
theorem wA {sc:Scope} {env:Env} (h:∀ y∈sc.names,y.2=.free->∃ c,env.cells.lookup y.1=some c):closureFor sc env=pure (zJ sc env):=by
 have q:=gX (env:=env) sc.names [] h;have z:closureFor sc env=(forIn sc.names [] (oV env) >>= λ r=>pure r):=rfl;rw [z,q]
 rfl
theorem uX {env:Env} {x:Str} {c:Addr}:∀ (l:List (Str×NameKind)) (cs:List (Str×Addr)),(cs.lookup x=some c->env.cells.lookup x=some c)->(l.foldl (vO env) cs).lookup x=some c->env.cells.lookup x=some c
 | [],cs,h,e=>h e
 | (n,k)::r,cs,h,e=>by
  rw [foldl_cons] at e;refine uX r _ (λ z=>?_) e;unfold vO at z
  split at z
  ·split at z
   ·rename_i c' hc
    rw [lookup_cons] at z
    split at z
    ·rename_i hx
     have:x=n:=by simpa using hx
     subst this;cases z
     exact hc
    ·exact h z
   ·exact h z
  ·exact h z
theorem gY {env:Env} {x:Str}:∀ (l:List (Str×NameKind)) (cs:List (Str×Addr)),(∃ c,env.cells.lookup x=some c)->((∃ c,cs.lookup x=some c)\/(x,NameKind.free)∈l)->∃ c,(l.foldl (vO env) cs).lookup x=some c
 | [],cs,_,h=>h.elim id (λ z=>nomatch z)
 | (n,k)::r,cs,he,h=>by
  rw [foldl_cons];refine gY r _ he ?_;rcases h with ⟨c,h⟩ | h
  ·left
   unfold vO
   split
   ·split
    ·rename_i c' hc
     rw [lookup_cons]
     split
     ·exact ⟨_,rfl⟩
     ·exact ⟨c,h⟩
    ·exact ⟨c,h⟩
   ·exact ⟨c,h⟩
  ·rcases mem_cons.mp h with z | z
   ·cases z
    obtain ⟨c,hc⟩:=he
    left
    refine ⟨c,?_⟩;unfold vO;simp [hc]
   ·exact .inr z
structure CS (sc S0:Scope):Prop where
 kind:sc.kind=.function
 names:∀ y∈sc.names,y.2=.local->sc.names.lookup y.1=some .local
 nocell:∀ y∈sc.names,y.2≠.cell
 free:∀ y∈sc.names,y.2=.free->S0.names.lookup y.1=some .cell
def xG (env:Env) (y:Str×NameKind):Str×NameKind:=if (y.2 == .free && env.scope.kind == .function && env.kindOf y.1 == some .cell)=true then (y.1,.cell) else (y.1,y.2)
theorem tD (env:Env) (y:Str×NameKind):(xG env y).1=y.1:=by
 unfold xG
 split<;>rfl
theorem vZ {env:Env} {x:Str}:∀ (l:List (Str×NameKind)),(l.map (xG env)).lookup x=(l.lookup x).map λ k=>(xG env (x,k)).2
 | []=>rfl
 | (n,k)::r=>by
  rw [map_cons];have e:xG env (n,k)=(n,(xG env (n,k)).2):=Prod.ext (tD env (n,k)) rfl;rw [e,lookup_cons,lookup_cons]
  cases hx:x == n with
  | true =>
   have:x=n:=by simpa using hx
   subst this
   rfl
  | false=>exact vZ r
def cxC (X:Cx) (Nc:List Str) (sc:Scope) (C:Addr) (s₂:Shared) (H₂:Hp) (fp:List Addr) (pins:List (Addr×Obj)):Cx :=
 { X with N:=Nc,s₀:=s₂,H₀:=H₂,env:=compEnvC sc (zJ sc X.env) C X.env,outer:=X.stack,ex:=fp,fn:=λ _=>false,pn:=X.pn++pins }
def uI (js:List (Option Nat)) (σ:St):St:=js.map λ o=>o.bind λ j=>(σ[j]?).join
def bV (js:List (Option Nat)) (Nc N:List Str) (names:List (Str×NameKind)):Bool :=
 decide (js.length=Nc.length) && (js.zip Nc).all λ (o,x)=>match o with | none=>true | some j=>decide (N[j]?=some x) && decide (names.lookup x=some .free)
theorem kHF {js:List (Option Nat)} {Nc N:List Str} {names:List (Str×NameKind)} (h:bV js Nc N names=true):js.length=Nc.length/\∀ (i j:Nat) (x:Str),js[i]?=some (some j)->Nc[i]?=some x->N[j]?=some x/\names.lookup x=some .free:=by
 unfold bV at h;rw [Bool.and_eq_true] at h;refine ⟨of_decide_eq_true h.1,λ i j x e1 e2=>?_⟩
 have z:(js.zip Nc)[i]?=some (some j,x):=by
  rw [List.getElem?_zip_eq_some];exact ⟨e1,e2⟩
 have q:=all_eq_true.mp h.2 _ (mem_of_getElem? z);dsimp only at q;rw [Bool.and_eq_true] at q;exact ⟨of_decide_eq_true q.1,of_decide_eq_true q.2⟩
section
variable {X:Cx} {pins:List (Addr×Obj)} {σ:St} {H:Hp} {s:Shared} {sc:Scope} {Nc:List Str} {js:List (Option Nat)} {fp:List Addr}
theorem kIQ (I:Inv X pins σ H s) (S:CS sc X.env.scope) (f:∀ b∈fp,zE X pins H b) (hlt:∀ b∈fp,b<s.heap.objs.size) {C:Addr} (hC:s.heap.objs.size<=C):(cxC X Nc sc C s H fp pins).Ok:=by
 have inX:∀ x c,(zJ sc X.env).lookup x=some c->X.env.cells.lookup x=some c:=λ x c e=>uX sc.names [] (λ z=>nomatch z) e;refine ⟨I.ok.mod,S.kind,I.ok.glob,I.ok.blt,hC,λ x y c e1 e2=>I.ok.inj x y c (inX x c e1) (inX y c e2),λ x hx=>?_,λ x c z=>(nomatch z),I.ok.hd,I.ok.frames,.inl rfl,λ b hb=>⟨?_,λ x c e=>(f b hb).2.2.2.2.1 x c (inX x c e)⟩,I.bs,Nat.le_trans I.ok.bsz I.sz,λ b o e hb=>?_,λ b hb hs=>?_,I.stack,I.stkFree⟩
 ·have hx':(sc.names.map (xG X.env)).lookup x=some .cell\/(sc.names.map (xG X.env)).lookup x=some .free:=hx
  rw [vZ] at hx'
  cases e:sc.names.lookup x with
  | none=>rw [e] at hx';rcases hx' with z | z<;>cases z
  | some k =>
   rw [e] at hx';have m:(x,k)∈sc.names:=PySem.mem_of_lookup e
   have kf:k=.free:=by
    have nk:=S.nocell _ m;unfold xG at hx';by_cases hk:(k == NameKind.free)=true
    ·simpa using hk
    ·have hk':(k == NameKind.free)=false:=by simpa using hk
     simp only [hk',Bool.false_and,Option.map_some] at hx';rcases hx' with z | z
     ·exact absurd (by simpa using z) nk
     ·simpa using z
   subst kf;have hx2:=S.free _ m rfl;obtain ⟨c,hc⟩:=I.ok.has x (.inl hx2);exact gY sc.names [] ⟨c,hc⟩ (.inr m)
 ·exact Nat.ne_of_lt (Nat.lt_of_lt_of_le (hlt b hb) hC)
 ·obtain ⟨h0,h1,h2,h3,h4,h5⟩:=f b hb
  rcases h3 with z | z
  ·exact I.ok.noex b o e z
  ·exact absurd (Nat.lt_of_lt_of_le (Heap.lt_size (I.ok.bs b o e).1) z) (Nat.lt_irrefl _)
 ·obtain ⟨h0,h1,h2,h3,h4,h5⟩:=f b hb
  rcases mem_cons.mp (I.stkSub b hs) with z | z
  ·exact h1 z
  ·exact h2 z
theorem bM (I:Inv X pins σ H s) (S:CS sc X.env.scope) (f:∀ b∈fp,zE X pins H b) (hlt:∀ b∈fp,b<s.heap.objs.size) (cap:bV js Nc X.N sc.names=true) {C D:Addr} {o:HO} {h₁:Heap} {m:Str->Option Value} {tk:Nat}
  (hC:s.heap.objs.size<=C) (hD:s.heap.objs.size<=D) (hDC:D≠C) (hk:∀ b ob,s.heap.get? b=some ob->h₁.get? b=some ob) (hns:h₁.Ns C m) (new:ObjOk X.prog X.w (upd H D o) h₁ D o) :
  Inv (cxC X Nc sc C s H fp pins) [] (uI js σ) (upd H D o) { s with heap:=h₁,toks:=tk }:=by
 have inX:∀ x c,(zJ sc X.env).lookup x=some c->X.env.cells.lookup x=some c:=λ x c e=>uX sc.names [] (λ z=>nomatch z) e;have fresh:∀ a,s.heap.objs.size<=a->H a=none:=λ a ha=>I.hok.fresh ha;obtain ⟨cl,cp⟩:=kHF cap;refine ⟨kIQ I S f hlt hC,rfl,I.bare,Un.laid hk hD (fresh D hD),⟨m,hns,λ i x v e1 e2 e3=>?_⟩,λ x c e=>?_,?_,λ x c e=>?_,λ p hp=>?_,I.hok.laid hk hD new,?_⟩
 ·-- a name of the frame's
  unfold uI at e2;rw [List.getElem?_map] at e2
  cases ej:js[i]? with
  | none=>rw [ej] at e2;cases e2
  | some oj =>
   rw [ej] at e2
   cases oj with
   | none=>cases e2
   | some j =>
    obtain ⟨hN,hfree⟩:=cp i j x ej e1
    have hv:σ[j]?=some (some v):=by
     simp only [Option.map_some,Option.bind_some,Option.some.injEq] at e2
     cases e:σ[j]? with
     | none=>rw [e] at e2;cases e2
     | some w=>rw [e] at e2;exact congrArg some e2
    have kc:X.env.kindOf x=some .cell:=S.free _ (PySem.mem_of_lookup hfree) rfl;obtain ⟨m',hn',hl⟩:=I.loc;obtain ⟨u,r,lk⟩:=hl j x v hN hv (.inr (.inl kc));refine ⟨u,r,.inr ⟨.inl ?_,?_⟩⟩
    ·show (sc.names.map (xG X.env)).lookup x=some .cell
     rw [vZ,hfree];unfold xG;simp [I.ok.kind,kc]
    ·rcases lk with ⟨z,_⟩ | ⟨_,c,hc,ic⟩
     ·rw [kc] at z;cases z
     ·obtain ⟨c',hc'⟩:=gY sc.names [] ⟨c,hc⟩ (.inr (PySem.mem_of_lookup hfree))
      have:c'=c:=Option.some.inj ((inX x c' hc').symm.trans hc);subst this;exact ⟨c',hc',ic.keeps hk⟩
 ·obtain ⟨v,ic⟩:=I.cell x c (inX x c e)
  exact ⟨v,ic.keeps hk⟩
 ·show upd H D o C=none
  rw [kO hDC.symm];exact fresh C hC
 ·have q:=inX x c e
  obtain ⟨v,ic⟩:=I.cell x c q;show upd H D o c=none;rw [kO (Nat.ne_of_lt (Nat.lt_of_lt_of_le ic.lt hD))];exact I.freeC x c q
 ·have hp':p∈X.pn++pins:=by
   rcases mem_append.mp hp with z | z
   ·exact z
   ·exact absurd z (by simp)
  obtain ⟨a1,a2,a3,a4,a5⟩:=I.pin p hp';have lt:=Heap.lt_size a1;refine ⟨hk _ _ a1,?_,Nat.ne_of_lt (Nat.lt_of_lt_of_le lt hC),λ z=>?_,a5⟩
  ·rw [kO (Nat.ne_of_lt (Nat.lt_of_lt_of_le lt hD))]
   exact a2
  ·rcases mem_cons.mp (I.stkSub _ z) with z | z
   ·exact a3 z
   ·exact a4 z
 ·unfold uI
  rw [length_map];exact cl
theorem bN {C:Addr} {σ':St} {H':Hp} {s':Shared} {h':Heap} (I:Inv X pins σ H s) (f:∀ b∈fp,zE X pins H b) (hC:s.heap.objs.size<=C) (J:Inv (cxC X Nc sc C s H fp pins) [] σ' H' s') (hs:Heap.SameBut C s'.heap h') :
  Inv X pins σ H' { s' with heap:=h' }:=by
 have u:=J.base;have nC:H' C=none:=J.free;have stay:∀ b ob,b≠C->s'.heap.get? b=some ob->h'.get? b=some ob:=λ b ob hb e=>hs.extBut b ob hb e;have neC:∀ b ob,s.heap.get? b=some ob->b≠C:=λ b ob e=>Nat.ne_of_lt (Nat.lt_of_lt_of_le (Heap.lt_size e) hC);refine I.call' (ch:=fp) J.os ?_ (λ b v e=>?_) J.bare λ b hb=>⟨(f b hb).2.2.2.1,(f b hb).2.1,(f b hb).2.2.2.2.1,(f b hb).2.2.2.2.2⟩
 ·refine ⟨λ b ob e n h1 h2=>stay b ob (neC b ob e) (u.keep b ob e n h1 h2),λ b ob e n h1 h2=>?_,u.free,λ b ob e h2=>?_,u.tups,u.frzs,u.tbls⟩
  ·obtain ⟨sl,q⟩:=u.slot b ob e n h1 h2
   exact ⟨sl,stay b _ (neC b ob e) q⟩
  ·obtain ⟨o',q⟩:=u.there b ob e h2
   exact ⟨o',stay b _ (neC b ob e) q⟩
 ·have nb:∀ c w,H' c=some w->c≠C:=λ c w e z=>by rw [z,nC] at e;cases e
  refine (J.hok b v e).stay (λ c w hc q=>stay c w ?_ q) (λ _ q=>q) λ _ _ q=>q;rcases hc with z | z
  ·rw [z];exact nb b v e
  ·exact nb c _ z
end
section
variable {X:Cx} {e tg iter el:Expr} {ifs:List Expr} {gens rest:List Comprehension} {sc:Scope} {pos:Pos} {Nc:List Str} {js:List (Option Nat)} {wi:TI}
theorem yW {prog:Program} {w:World} {A:Around} {env:Env} {R:Result->Shared->Prop} {s:Shared} {d:Nat} {it acc:Value} {g:Comprehension} (he:(∃ el,e=.ListComp el gens sc pos)\/∃ k v,e=.DictComp k v gens sc pos)
  (hg:(clausesOf e)[d]?=some g) (ha:g.is_async=0)
  (h0:codeAny (model prog w) A (.compLoop e d it acc env) R s)
  (h:wpAny (model prog w) A (pyIter it) (λ it' s'=>codeAny (model prog w) A (.compLoop e d it' acc env) R s') (λ _ _=>False) s) :
  codeAny (model prog w) A (.compStart e d it acc env) R s:=by
 refine codeAny_of_tree ?_
 have hden:(model prog w).den (.compStart e d it acc env)=((compStart e d it acc env).onRaise (λ x=>do noteFrame x env;standAt theWindowsPlace))/\A.under (.compStart e d it acc env)=A:=by
  rcases he with ⟨el,rfl⟩ | ⟨k,v,rfl⟩<;>exact ⟨rfl,rfl⟩
 have hq:∀ d it acc,(Code.compLoop e d it acc env).quiet=true:=λ _ _ _=>rfl;rw [hden.1,hden.2];refine wpAny_notedAt ?_;unfold compStart;rw [hg];have hz:((some g).elim false λ x=>x.is_async != 0)=false:=by show (g.is_async != 0)=false;rw [ha];rfl
 rw [hz];show wpAny _ _ (ask >>= _) _ _ s;refine wpAny_bind (wpAny_askSetting (wpAny_ite ?_))
 split
 ·first
   | exact wpAny_bind (wpAny_pure (wpAny_pure (And.intro rfl h0)))
   | exact wpAny_pure (And.intro rfl h0)
 ·refine wpAny_bind (wpAny_rule ?_)
  show wpAny _ _ (standAt g.iter.pos >>= _) _ _ s;exact wpAny_bind (wpAny_standAt (wpAny_bind (wpAny_mono h (λ it' s' h'=>wpAny_pure (And.intro rfl h')) λ _ _ x=>x.elim)))
def tLC (js:List (Option Nat)) (wi:TI) (g:TG) (bd:Addr->TB):TE:=λ σ H Q=>wi σ H λ J H1=>∀ D,H1 D=none->uU J g (bd D) (λ _ H'=>Q (.ref D) H') (uI js σ) (upd H1 D (.lst []))
theorem xL {g:TG} {bd:Addr->TB} (hx:X.xe=λ _ _=>False) (hc:X.calm=true) (hi:PI X tg iter wi) (S:CS sc X.env.scope) (cap:bV js Nc X.N sc.names=true)
  (hg:∀ C s₂ H₂ fp pins,PG (cxC X Nc sc C s₂ H₂ fp pins) tg g)
  (hb:∀ C s₂ H₂ fp pins D L,PTl (cxC X Nc sc C s₂ H₂ fp pins) (yI ifs (cxC X Nc sc C s₂ H₂ fp pins).env (do let _ <-call (.builtin "list.append") [.ref D,<-eval el (cxC X Nc sc C s₂ H₂ fp pins).env]) L) L (bd D))
  (hs:∀ x,foldedSetIterable iter X.env x=pure x:=by intro _;rfl) :
  PE X (.ListComp el [⟨tg,iter,ifs,0⟩] sc pos) (tLC js wi g bd):=by
 intro pins s σ H Q I h;rw [eval_ListComp];have hcl:closureFor sc X.env=pure (zJ sc X.env):=wA λ y hy hf=>I.ok.has y.1 (.inl (S.free y hy hf));refine wpAny_comprehension_free (use:=none) rfl hs hcl S.kind S.names (thn (hi pins s σ H _ I h) λ v s1 h1=>thn h1 λ itv s2 h2=>?_);obtain ⟨it,fp,tn,J,H2,e,I2,T,st2,f2,hw⟩:=h2;subst e;have hlt:∀ b∈fp,b<s2.heap.objs.size:=λ b hb=>let ⟨o,ho,_⟩:=T.obj _ _ st2 b hb;Heap.lt_size ho;refine wpAny_newObj_type (wpAny_newFunctionEnv S.nocell (by intro y hy;simp at hy) (λ h₁ hns₁ hsb₁=>?_) S.kind);dsimp only at hns₁ hsb₁ ⊢;generalize hH2:s2.heap.push { cls:=.type "list",dict:=none,data:=.seq ([]:List Value).toArray }=G at hns₁ hsb₁ ⊢;have hCs:G.objs.size=s2.heap.objs.size+1:=by rw [<-hH2,Heap.size_push]
 have hDC:s2.heap.objs.size≠G.objs.size:=by omega
 have hCle:s2.heap.objs.size<=G.objs.size:=by omega
 have old:∀ b o,s2.heap.get? b=some o->h₁.get? b=some o:=λ b o e=>hsb₁.extBut b o (Nat.ne_of_lt (Nat.lt_of_lt_of_le (Heap.lt_size e) hCle)) (Heap.get?_push_of_some _ (hH2 ▸ Heap.get?_push_of_some _ e));have hacc:h₁.get? s2.heap.objs.size=some { cls:=.type "list",dict:=none,data:=.seq ([]:List Value).toArray }:=hsb₁.extBut _ _ hDC (Heap.get?_push_of_some _ (hH2 ▸ Heap.get?_push_size _ rfl));have new:ObjOk X.prog X.w (upd H2 s2.heap.objs.size (.lst [])) h₁ s2.heap.objs.size (.lst []):=⟨Nat.zero_le _,[],_,.nil,hacc⟩;have I4:=bM (js:=js) (Nc:=Nc) (tk:=s2.toks+([]:List (Str×Value)).length) I2 S f2 hlt cap hCle (Nat.le_refl _) hDC old hns₁ new;have hn:H2 s2.heap.objs.size=none:=I2.fresh
 have f4:∀ b∈fp,zE (cxC X Nc sc G.objs.size s2 H2 fp pins) [] (upd H2 s2.heap.objs.size (.lst [])) b:=λ b hb=>by
  obtain ⟨h0,h1,h2,h3,h4,h5⟩:=f2 b hb;refine ⟨?_,Nat.ne_of_lt (Nat.lt_of_lt_of_le (hlt b hb) hCle),λ z=>?_,.inl hb,λ x c z=>?_,λ p hp=>?_⟩
  ·rw [kO (Nat.ne_of_lt (hlt b hb))];exact h0
  ·rcases mem_cons.mp (I2.stkSub b z) with q | q
   ·exact h1 q
   ·exact h2 q
  ·exact h4 x c (uX sc.names [] (λ z=>nomatch z) z)
  ·rcases mem_append.mp hp with z | z
   ·exact h5 p z
   ·exact absurd z (by simp)
 have st4:tn 0 h₁:=T.keep _ _ _ st2 λ b hb o e=>old b o e
 have loop:codeAny (model X.prog X.w) X.A (.compLoop (.ListComp el [⟨tg,iter,ifs,0⟩] sc pos) 0 (.ref it) (.ref s2.heap.objs.size) (compEnvC sc (zJ sc X.env) G.objs.size X.env))
   (compPost (model X.prog X.w) X.A X.xe none (EP X pins σ Q) (.ref s2.heap.objs.size) G.objs.size) { s2 with heap:=h₁,toks:=s2.toks+([]:List (Str×Value)).length }:=by
  refine zS (X:=cxC X Nc sc G.objs.size s2 H2 fp pins) (.inl ⟨el,rfl⟩) hx hc (mW _ _ _ _ _ _ _ _ _) T (hg _ _ _ _ _) (hb _ _ _ _ _ _ _) I4 st4 f4 (hw _ hn) λ σ' H' s' I' q=>?_;obtain ⟨m',hm',_⟩:=I'.loc;exact ⟨m',hm',λ h' hs'=>⟨.ref s2.heap.objs.size,H',bN I2 f2 hCle I' hs',rfl,q⟩⟩
 exact yW (.inl ⟨el,rfl⟩) rfl rfl loop (T.self _ _ _ _ _ st4 loop)
end
section
variable {X:Cx}
def kIB:V->List V->Hp->VK->Prop:=λ x vs H Q=>∃ l xs i y,x=.ref l/\vs=[.int i,y]/\H l=some (.lst xs)/\0<=i/\i<2 ^ 62/\xs.length<sizeLine/\Q .non (upd H l (.lst (xs.take i.toNat++y::xs.drop i.toNat)))
theorem cQ:MtM X "list.insert" kIB:=by
 intro pins s σ H x vs v us Q I rx rv h;obtain ⟨l,xs,i,y,rfl,rfl,hH,h1,h2,hz,q⟩:=h;cases rx
 obtain ⟨u,w,rfl,⟨t,rfl⟩,rw'⟩:=rv.two;obtain ⟨z,its,n,r,hl,e⟩:=I.lstM hH
 refine call_meets F.slot_list_insert ⟨_,e,rfl⟩ F.entry_list_insert (F.args_list_insert_3 _ _ _)
  (AutoSeq1.list_insert_list_int_val_1 l its.toArray n i t w (by rw [fitsIndex_both (by omega) (by omega)];decide) (by rw [size_toArray];omega)) ⟨e,?_⟩
 refine ⟨.non,_,I.lset (its':=its.take i.toNat++w::its.drop i.toNat) hH e ?_ ((r.take i.toNat).append (.cons rw' (r.drop i.toNat))) ?_,rfl,q⟩
 ·have hi:¬ i<0:=by omega
  simp only [hi,if_false,size_toArray];apply Array.toList_inj.mp;simp;by_cases hc:i.toNat<=its.length
  ·rw [Nat.min_eq_left hc,take_of_length_le (l:=List.drop i.toNat its) (by rw [length_drop];omega)]
  ·have hc':its.length<=i.toNat:=by omega
   rw [Nat.min_eq_right hc',take_of_length_le (Nat.le_refl _),take_of_length_le hc',drop_eq_nil_of_le (Nat.le_refl _),drop_eq_nil_of_le hc',List.take_nil]
 ·simp only [length_append,length_take,length_cons,length_drop]
  omega
def fH (ns:List Int) (n:Int) (j:Nat):Prop:=ns[j]?=some n/\∀ m:Nat,m<j->ns[m]?≠some n
theorem wE {ns:List Int} {its:List Value} (r:Vals (ns.map V.int) its) {m:Nat} (hm:m<its.length):∃ k t,ns[m]?=some k/\its[m]=Value.int k t:=by
 have hl:=r.length;rw [length_map] at hl;have hk:m<ns.length:=by omega
 obtain ⟨u,hu,q⟩:=r.get (i:=m) (x:=.int ns[m]) (by rw [List.getElem?_map,List.getElem?_eq_getElem hk];rfl);obtain ⟨t,rfl⟩:=q;refine ⟨ns[m],t,List.getElem?_eq_getElem hk,?_⟩;rw [List.getElem?_eq_getElem hm] at hu;exact Option.some.inj hu
def gS (n:Int) (v:Value):Bool:=match v with | .int k _=>k == n | _=>false
theorem aR {ns:List Int} {its:List Value} (r:Vals (ns.map V.int) its) (n:Int) (t:Tok):∀ y,y∈its.toArray->MeetsSeq.EqGives y (.int n t) (gS n y):=λ y hy=>by
 obtain ⟨m,hm,rfl⟩:=mem_iff_getElem.mp (List.mem_toArray.mp hy);obtain ⟨k,t',_,e⟩:=wE r hm;rw [e];exact MeetsSeq.EqGives.int _ _ _ _
theorem mO {ns:List Int} {its:List Value} (r:Vals (ns.map V.int) its) {n:Int} {j:Nat} (h:fH ns n j):∃ hj:j<its.toArray.size,gS n its.toArray[j]=true/\∀ m (hm:m<its.toArray.size),m<j->gS n its.toArray[m]=false:=by
 have hl:=r.length;rw [length_map] at hl;have hj:j<ns.length:=(List.getElem?_eq_some_iff.mp h.1).1;have hj':j<its.length:=by omega
 refine ⟨by rw [size_toArray];exact hj',?_,λ m hm hlt=>?_⟩
 ·obtain ⟨k,t,e1,e2⟩:=wE r hj'
  rw [h.1] at e1;cases e1
  simp [e2,gS]
 ·rw [size_toArray] at hm
  obtain ⟨k,t,e1,e2⟩:=wE r hm;have:k≠n:=λ z=>h.2 m hlt (by rw [e1,z]);simp [e2,gS,this]
def kKW:V->List V->Hp->VK->Prop:=λ x vs H Q=>∃ (l:Addr) (ns:List Int) (n:Int) (j:Nat),x=.ref l/\vs=[.int n]/\H l=some (.lst (ns.map V.int))/\fH ns n j/\Q (.int j) H
theorem zX:MtM X "list.index" kKW:=by
 intro pins s σ H x vs v us Q I rx rv h;obtain ⟨l,ns,n,j,rfl,rfl,hH,hj,q⟩:=h;cases rx
 obtain ⟨u,rfl,t,rfl⟩:=rv.one;obtain ⟨z,its,m,r,hl,e⟩:=I.lstM hH;obtain ⟨h1,h2,h3⟩:=mO r hj
 have hs:(j:Int)<2 ^ 63-1:=by
  have:=cS;rw [size_toArray] at h1;omega
 refine call_meets F.slot_list_index ⟨_,e,rfl⟩ F.entry_list_index (F.args_list_index_2 _ _) (MeetsSeq.list_index l its.toArray m (.int n t) (gS n) (aR r n t) j h1 hs h2 h3) ⟨e,?_⟩;exact ⟨.int j,H,I.tok _,⟨_,rfl⟩,q⟩
end
theorem fI {lo:Int} {n:Nat} {g:TG} {b:TB} {N0:St->Hp->Prop} {σ:St} {H:Hp} (Pv:Nat->St->Hp->Prop) (h0:Pv 0 σ H)
  (hs:∀ i σ H,i<n->Pv i σ H->g (.int (lo+i)) σ H λ σ2 H2=>b (Pv (i+1)) σ2 H2) (hd:∀ σ H,Pv n σ H->N0 σ H):uU (Itr lo n) g b N0 σ H:=by
 refine ⟨λ i m σ H=>m=n-i/\i<=n/\Pv i σ H,⟨n,by simp,Nat.zero_le _,h0⟩,?_⟩;rintro i m σ H ⟨rfl,hle,p⟩;by_cases hi:i<n
 ·refine .inr ⟨hi,Pv (i+1),λ σ' H' q=>⟨n-(i+1),by omega,rfl,by omega,q⟩,λ x H' hy=>?_⟩
  obtain ⟨rfl,rfl⟩:=hy;exact hs i σ _ hi p
 ·have:i=n:=by omega
  subst this;exact .inl ⟨Nat.le_refl _,hd σ H p⟩
theorem jZ {K:PySem.W.Frag} {a:Addr} {xs:List V} {g:TG} {b:TB} {N0:St->Hp->Prop} {σ:St} {H:Hp} (Pv:Nat->St->Hp->Prop) (h0:Pv 0 σ H) (hl:∀ i σ H,i<=xs.length->Pv i σ H->SqL K H a xs)
  (hs:∀ i x σ H,xs[i]?=some x->Pv i σ H->g x σ H λ σ2 H2=>b (Pv (i+1)) σ2 H2) (hd:∀ σ H,Pv xs.length σ H->N0 σ H):uU (Itl K a) g b N0 σ H:=by
 refine ⟨λ i m σ H=>m=xs.length-i/\i<=xs.length/\Pv i σ H,⟨xs.length,by simp,Nat.zero_le _,h0⟩,?_⟩;rintro i m σ H ⟨rfl,hle,p⟩;by_cases hi:i<xs.length
 ·refine .inr ⟨⟨xs,xs[i],hl i σ H hle p,by simp [hi]⟩,Pv (i+1),λ σ' H' q=>⟨xs.length-(i+1),by omega,rfl,by omega,q⟩,λ x H' hy=>?_⟩
  obtain ⟨rfl,hy⟩:=hy;exact hs i x σ _ (hy xs (hl i σ _ hle p)) p
 ·have:i=xs.length:=by omega
  subst this;exact .inl ⟨⟨xs,hl _ σ H hle p,Nat.le_refl _⟩,hd σ H p⟩
theorem wN {K:PySem.W.Frag} {a:Addr} {xs:List V} {g:TG} {b:TB} {N0:St->Hp->Prop} {σ:St} {H:Hp} (Pv:Nat->St->Hp->Prop) (h0:Pv 0 σ H) (hl:∀ i σ H,i<=xs.length->Pv i σ H->SqT K H a xs)
  (hs:∀ i x σ H,xs[i]?=some x->Pv i σ H->g x σ H λ σ2 H2=>b (Pv (i+1)) σ2 H2) (hd:∀ σ H,Pv xs.length σ H->N0 σ H):uU (Itt K a) g b N0 σ H:=by
 refine ⟨λ i m σ H=>m=xs.length-i/\i<=xs.length/\Pv i σ H,⟨xs.length,by simp,Nat.zero_le _,h0⟩,?_⟩;rintro i m σ H ⟨rfl,hle,p⟩;by_cases hi:i<xs.length
 ·refine .inr ⟨⟨xs,xs[i],hl i σ H hle p,by simp [hi]⟩,Pv (i+1),λ σ' H' q=>⟨xs.length-(i+1),by omega,rfl,by omega,q⟩,λ x H' hy=>?_⟩
  obtain ⟨rfl,hy⟩:=hy;exact hs i x σ _ (hy xs (hl i σ _ hle p)) p
 ·have:i=xs.length:=by omega
  subst this;exact .inl ⟨⟨xs,hl _ σ H hle p,Nat.le_refl _⟩,hd σ H p⟩
section
variable {prog:Program} {w:World} {A:Around} {E:Value->Shared->Prop}
end
section
variable {X:Cx} {pos:Pos}
theorem oX:yG X (.builtin "divmod") (λ xs H Q=>∃ i j:Int,xs=[.int i,.int j]/\(0<j/\j.natAbs<2 ^ 9000)/\∀ p,H p=none->Q (.ref p) (upd H p (.tup [.int (i / j),.int (i % j)]))):=by
 intro pins s σ H xs us Q I r h;obtain ⟨i,j,rfl,⟨h1,h2⟩,q⟩:=h;obtain ⟨u,w',rfl,⟨t,rfl⟩,⟨t',rfl⟩⟩:=pK r;refine divmod_int (by omega) ?_ (.inl (PyProof.noPylong_of_log2 (Own.log2_lt h2)));rw [Int.fdiv_eq_ediv_of_nonneg i (by omega),Int.fmod_eq_emod_of_nonneg i (by omega)];have hn:H s.heap.objs.size=none:=I.hok.fresh (Nat.le_refl _);refine ⟨.ref s.heap.objs.size,_,?_,rfl,q _ hn⟩;refine I.laid (λ b o e=>Heap.get?_push_of_some _ e) (Nat.le_refl _) ⟨by simp only [length_cons,length_nil];rw [sizeLine_eq];decide,[.int (i / j) s.toks,.int (i % j) (s.toks+1)],.cons ⟨_,rfl⟩ (.cons ⟨_,rfl⟩ .nil),?_⟩;exact ⟨_,Heap.get?_push_size s.heap rfl,rfl,0,rfl,rfl⟩
theorem fG:∀ {ns:List Int} {its:List Value},Vals (ns.map V.int) its->IntsAre its ns
 | [],_,r=>by cases r;exact .nil
 | n::ns,_,r=>by
  cases r with
  | cons r1 r2 =>
   obtain ⟨t,rfl⟩:=r1;exact .cons n t (fG r2)
end
mutual
def Dt (K:PySem.W.Frag) (H:Hp):PyData->V->Prop
 | .none,v=>v=.non
 | .bool b,v=>v=.bl b
 | .int i,v=>v=.int i
 | .str x,v=>v=.str x
 | .tuple xs,v=>∃ a vs,v=.ref a/\SqT K H a vs/\DtAll K H xs vs
 | .list xs,v=>∃ a vs,v=.ref a/\SqL K H a vs/\DtAll K H xs vs
 | .dict _,_=>False
def DtAll (K:PySem.W.Frag) (H:Hp):List PyData->List V->Prop
 | [],vs=>vs=[]
 | d::ds,vs=>∃ v vr,vs=v::vr/\Dt K H d v/\DtAll K H ds vr
end
section
variable {X:Cx} {pins:List (Addr×Obj)} {σ:St} {H:Hp} {s:Shared}
mutual
theorem Dt.reads (I:Inv X pins σ H s):∀ (d:PyData) (v:V) (u:Value),RelV v u->Dt X.K H d v->∃ as,Reads s.heap u d as
 | .none,v,u,r,h=>by unfold Dt at h;subst h;cases r;exact ⟨_,.none⟩
 | .bool b,v,u,r,h=>by unfold Dt at h;subst h;cases r;exact ⟨_,.bool b⟩
 | .int i,v,u,r,h=>by unfold Dt at h;subst h;obtain ⟨t,rfl⟩:=r;exact ⟨_,.int i t⟩
 | .str x,v,u,r,h=>by unfold Dt at h;subst h;obtain ⟨t,rfl⟩:=r;exact ⟨_,.str x t⟩
 | .tuple xs,v,u,r,h=>by
  unfold Dt at h;obtain ⟨a,vs,rfl,hs,hd⟩:=h;cases r
  obtain ⟨its,rv,⟨o,e1,e2,n,e3⟩,hz⟩:=I.tuple hs;obtain ⟨as,ra⟩:=DtAll.reads I xs vs its rv hd;exact ⟨_,.tuple e1 e2 e3 (by simpa using ra)⟩
 | .list xs,v,u,r,h=>by
  unfold Dt at h;obtain ⟨a,vs,rfl,hs,hd⟩:=h;cases r
  obtain ⟨its,rv,ht,hz⟩:=I.list hs;obtain ⟨as,ra⟩:=DtAll.reads I xs vs its rv hd;obtain ⟨o,e1,e2,n,e3⟩:=ht.isList;exact ⟨_,.list e1 e2 e3 (by simpa using ra)⟩
 | .dict _,v,u,r,h=>by unfold Dt at h;exact h.elim
theorem DtAll.reads (I:Inv X pins σ H s):∀ (ds:List PyData) (vs:List V) (us:List Value),Vals vs us->DtAll X.K H ds vs->∃ as,ReadsAll s.heap us ds as
 | [],vs,us,r,h=>by unfold DtAll at h;subst h;cases r;exact ⟨_,.nil⟩
 | d::ds,vs,us,r,h=>by
  unfold DtAll at h;obtain ⟨v,vr,rfl,h1,h2⟩:=h
  cases r with
  | cons r1 r2 =>
   obtain ⟨as,q1⟩:=Dt.reads I d v _ r1 h1;obtain ⟨bs,q2⟩:=DtAll.reads I ds vr _ r2 h2;exact ⟨_,.cons q1 q2⟩
end
end
section
variable {X:Cx}
def kMT (K:PySem.W.Frag) (neg:Bool):R2:=λ x y H Q=>∃ d e,Dt K H d x/\Dt K H e y/\SeqAt.shaped d=true/\SeqAt.shaped e=true/\Q (.bl (if neg then !PyData.eqv d e else PyData.eqv d e)) H
theorem tL (hu:X.A.units+64<cLine):OpR X (compareOp .Eq) (kMT X.K false):=by
 intro pins s σ H x y v u Q I rx ry h;obtain ⟨d,e,h1,h2,s1,s2,q⟩:=h;obtain ⟨as,p1⟩:=Dt.reads I d x v rx h1;obtain ⟨bs,p2⟩:=Dt.reads I e y u ry h2;exact SeqAt.compareEq_shaped p1 p2 s1 s2 hu ⟨.bl _,H,I,rfl,q⟩
theorem vG (hu:X.A.units+64<cLine):OpR X (compareOp .NotEq) (kMT X.K true):=by
 intro pins s σ H x y v u Q I rx ry h;obtain ⟨d,e,h1,h2,s1,s2,q⟩:=h;obtain ⟨as,p1⟩:=Dt.reads I d x v rx h1;obtain ⟨bs,p2⟩:=Dt.reads I e y u ry h2;exact SeqAt.compareNe_shaped p1 p2 s1 s2 hu ⟨.bl _,H,I,rfl,q⟩
end
section
variable {X:Cx}
end
def kON (sc S0:Scope):Bool:=(sc.names.all λ y=>(y.2 != .local || sc.names.lookup y.1 == some .local) && y.2 != .cell && (y.2 != .free || S0.names.lookup y.1 == some .cell))
theorem CS.of {sc S0:Scope} (k:sc.kind=.function) (h:kON sc S0=true):CS sc S0:=by
 have q:∀ y∈sc.names,_:=all_eq_true.mp h;refine ⟨k,λ y hy e=>?_,λ y hy e=>?_,λ y hy e=>?_⟩<;>have z:=q y hy<;>rw [Bool.and_eq_true,Bool.and_eq_true] at z<;>obtain ⟨⟨z1,z2⟩,z3⟩:=z
 ·rw [e] at z1;simpa using z1
 ·rw [e] at z2;simp at z2
 ·rw [e] at z3;simpa using z3
section
variable {prog:Program} {w:World} {A:Around} {E:Value->Shared->Prop} {s:Shared}
theorem tS {it t:Addr} {i:Nat} {items:Array Value} {x:Value} {Q:Value->Shared->Prop} (hit:s.heap.IsTupleIter it t i) (ht:s.heap.IsTuple t items) (hx:items[i]?=some x)
  (hQ:∀ h',h'.IsTupleIter it t (i+1)->Heap.SameBut it s.heap h'->Q x { s with heap:=h' }):wpAny (model prog w) A (Builtin.SmallTypes.nextOf (.ref it)) Q E s:=by
 obtain ⟨o,ho,hc,hd⟩:=id hit;obtain ⟨ot,hot,_,nt,hdt⟩:=ht;unfold Builtin.SmallTypes.nextOf;refine wpAny_bind (wpAny_callSpecial?_slot (name:=Str.ofString "__next__") hit.typeIs F.slot_tuple_iterator_next (wpAny_call_entry F.slot_tuple_iterator_next hit.typeIs F.entry_tuple_iterator_next ?_ (F.args_tuple_iterator_next_1 _)));show wpAny _ _ (field (.ref it) 0 >>= _) _ _ s;refine wpAny_bind (wpAny_field ho hd (x:=.ref t) rfl ?_);show wpAny _ _ (if (Value.ref t == Value.none)=true then _ else _) _ _ s;rw [if_neg (show ¬ ((Value.ref t == Value.none)=true) from Bool.false_ne_true)];show wpAny _ _ (field (.ref it) 1 >>= _) _ _ s;refine wpAny_bind (wpAny_field ho hd (x:=.int i 0) rfl ?_);show wpAny _ _ (seqItems? (.ref t) >>= _) _ _ s;refine wpAny_bind (wpAny_seqItems hot hdt ?_);simp only [Int.toNat_natCast,hx];refine wpAny_bind (wpAny_setField ho hd (by simp) (wpAny_pure ⟨x,rfl,wpAny_pure (hQ _ ?_ (Heap.SameBut.update ..))⟩));refine ⟨_,Heap.get?_update_self _ ho (Obj.isFreed_of_fields (Obj.data_mapFields hd _)),(Obj.cls_mapFields ..).trans hc,?_⟩;rw [Obj.data_mapFields hd];simp [rawInt]
theorem gF {it t:Addr} {i:Nat} {items:Array Value} {Q:Value->Shared->Prop} (hh:A.handled=none) (hit:s.heap.IsTupleIter it t i) (ht:s.heap.IsTuple t items) (hx:items[i]?=none)
  (hE:∀ h' e,Heap.ExtBut it s.heap h'->(∃ o,h'.get? e=some o/\o.cls=.type "StopIteration")->E (.ref e) { s with heap:=h' }):wpAny (model prog w) A (Builtin.SmallTypes.nextOf (.ref it)) Q E s:=by
 obtain ⟨o,ho,hc,hd⟩:=id hit;obtain ⟨ot,hot,_,nt,hdt⟩:=ht;unfold Builtin.SmallTypes.nextOf;refine wpAny_bind (wpAny_callSpecial?_slot (name:=Str.ofString "__next__") hit.typeIs F.slot_tuple_iterator_next (wpAny_call_entry F.slot_tuple_iterator_next hit.typeIs F.entry_tuple_iterator_next ?_ (F.args_tuple_iterator_next_1 _)));show wpAny _ _ (field (.ref it) 0 >>= _) _ _ s;refine wpAny_bind (wpAny_field ho hd (x:=.ref t) rfl ?_);show wpAny _ _ (if (Value.ref t == Value.none)=true then _ else _) _ _ s;rw [if_neg (show ¬ ((Value.ref t == Value.none)=true) from Bool.false_ne_true)];show wpAny _ _ (field (.ref it) 1 >>= _) _ _ s;refine wpAny_bind (wpAny_field ho hd (x:=.int i 0) rfl ?_);show wpAny _ _ (seqItems? (.ref t) >>= _) _ _ s;refine wpAny_bind (wpAny_seqItems hot hdt ?_);simp only [Int.toNat_natCast,hx];refine wpAny_bind (wpAny_rule (wpAny_bind (wpAny_setField ho hd (by simp) ?_)));show wpAny _ _ (newExc (.type "StopIteration") [] >>= _) _ _ _;refine wpAny_bind ?_;simp only [newExc,newTuple];refine wpAny_bind (wpAny_newObj_type ?_ (by size_fits));refine wpAny_bind (m:=firstArgMember _ _) (wpAny_of_eq (a:=Value.none) (by first | rfl | (simp only [firstArgMember];rfl)) ?_);refine wpAny_newObj_type ?_ (by size_fits);simp only [raiseNew];refine wpAny_bind (wpAny_handled ?_)
 first | rw [show A.in1.handled=none from hh] | rw [hh]
 refine wpAny_bind (wpAny_pure (wpAny_throw ?_));exact hE _ _ (((Heap.SameBut.update ..).extBut.push _).push _) ⟨_,Heap.get?_push_size _ rfl,rfl⟩
end
def ItOf (k:Bool) (h:Heap) (it a:Addr) (i:Nat):Prop:=match k with | true=>h.IsListIter it a i | false=>h.IsTupleIter it a i
def SqOf (k:Bool) (h:Heap) (a:Addr) (items:Array Value):Prop:=match k with | true=>h.IsList a items | false=>h.IsTuple a items
def cU (k:Bool):String:=match k with | true=>"list_iterator" | false=>"tuple_iterator"
def SqX (K:PySem.W.Frag) (k:Bool) (H:Hp) (a:Addr) (xs:List V):Prop:=match k with | true=>SqL K H a xs | false=>SqT K H a xs
theorem ItOf.at {k:Bool} {h h':Heap} {it a:Addr} {i:Nat} (x:ItOf k h it a i) (g:∀ o,h.get? it=some o->h'.get? it=some o):ItOf k h' it a i:=by
 cases k
 ·obtain ⟨o,e,r⟩:=x;exact ⟨o,g o e,r⟩
 ·obtain ⟨o,e,r⟩:=x;exact ⟨o,g o e,r⟩
theorem ItOf.live {k:Bool} {h:Heap} {it a:Addr} {i:Nat} (x:ItOf k h it a i):∃ o,h.get? it=some o/\∀ v,o.data≠.cell v:=by
 cases k
 ·obtain ⟨o,e,c,d⟩:=x;exact ⟨o,e,λ v z=>by rw [d] at z;cases z⟩
 ·obtain ⟨o,e,c,d⟩:=x;exact ⟨o,e,λ v z=>by rw [d] at z;cases z⟩
theorem SqOf.at {k:Bool} {h h':Heap} {a:Addr} {items:Array Value} (x:SqOf k h a items) (g:∀ o,h.get? a=some o->h'.get? a=some o):SqOf k h' a items:=by
 cases k
 ·obtain ⟨o,e,r⟩:=x;exact ⟨o,g o e,r⟩
 ·obtain ⟨o,e,r⟩:=x;exact ⟨o,g o e,r⟩
theorem SqOf.there {k:Bool} {h:Heap} {a:Addr} {items:Array Value} (x:SqOf k h a items):∃ o,h.get? a=some o:=by
 cases k
 ·obtain ⟨o,e,r⟩:=x;exact ⟨o,e⟩
 ·obtain ⟨o,e,r⟩:=x;exact ⟨o,e⟩
theorem SqOf.lt {k:Bool} {h:Heap} {a:Addr} {items:Array Value} (x:SqOf k h a items):a<h.objs.size:=let ⟨_,e⟩:=x.there;Heap.lt_size e
theorem ItOf.new (k:Bool) (h:Heap) (a:Addr):ItOf k (h.push { cls:=.type (cU k),data:=.fields #[.ref a,.int 0 0] }) h.objs.size a 0:=by
 cases k
 ·exact ⟨_,Heap.get?_push_size _ rfl,rfl,rfl⟩
 ·exact ⟨_,Heap.get?_push_size _ rfl,rfl,rfl⟩
theorem Inv.sq {X:Cx} {pins:List (Addr×Obj)} {σ:St} {H:Hp} {s:Shared} {k:Bool} {a:Addr} {xs:List V} (I:Inv X pins σ H s) (h:SqX X.K k H a xs):∃ its:List Value,Vals xs its/\SqOf k s.heap a its.toArray:=by
 cases k
 ·obtain ⟨its,r,p,_⟩:=I.tuple h
  exact ⟨its,r,p⟩
 ·obtain ⟨its,r,p,_⟩:=I.list h
  exact ⟨its,r,p.isList⟩
theorem Inv.sq_inj {X:Cx} {pins:List (Addr×Obj)} {σ:St} {H:Hp} {s:Shared} {k:Bool} {a:Addr} {xs ys:List V} (I:Inv X pins σ H s) (h:SqX X.K k H a xs) (h':SqX X.K k H a ys):xs=ys:=by
 cases k
 ·exact I.tuple_inj h h'
 ·exact I.list_inj h h'
section
variable {prog:Program} {w:World} {A:Around} {E:Value->Shared->Prop} {s:Shared}
theorem kAY {k:Bool} {a:Addr} {items:Array Value} {Q:Value->Shared->Prop} (h:SqOf k s.heap a items) (hQ:Q (.ref s.heap.objs.size) { s with heap:=s.heap.push { cls:=.type (cU k),data:=.fields #[.ref a,.int 0 0] } }) :
  wpAny (model prog w) A (pyIter (.ref a)) Q E s:=by
 cases k
 ·exact wpAny_pyIter_tuple h hQ
 ·exact wpAny_pyIter_list h hQ
theorem vA (hh:A.handled=none) (k:Bool) (it a:Addr) (hne:a≠it) (items:Array Value):Draws prog w A it [it,a] items.size (λ i v=>items[i]?=some v) (λ i h=>ItOf k h it a i/\SqOf k h a items) where
 live:=λ _ _ st=>let ⟨o,ho,_⟩:=st.1.live;⟨o,ho⟩
 frame:=λ _ _ _ st hk=>⟨st.1.at λ o e=>hk it (by simp) o e,st.2.at λ o e=>hk a (by simp) o e⟩
 item:=λ i s Q E hi st hQ=>by
  have hx:items[i]?=some items[i]:=by simp [hi]
  cases k
  ·exact tS st.1 st.2 hx λ h' hit' hs'=>hQ _ h' s.toks hx ⟨hit',st.2.at λ o e=>hs'.extBut a o hne e⟩ hs'
  ·exact wpAny_nextOf_list_item st.1 st.2 hx λ h' hit' hs'=>hQ _ h' s.toks hx ⟨hit',st.2.at λ o e=>hs'.extBut a o hne e⟩ hs'
 done:=λ s Q E st hE=>by
  cases k
  ·exact gF hh st.1 st.2 (by simp) hE
  ·exact wpAny_nextOf_list_end hh st.1 st.2 (by simp) hE
end
theorem Inv.turnedL {X:Cx} {pins:List (Addr×Obj)} {σ:St} {H:Hp} {s:Shared} {h':Heap} {t':Nat} {ch:List Addr} (I:Inv X pins σ H s) (k:∀ b o,b∉ch->s.heap.get? b=some o->h'.get? b=some o) (hf:∀ b∈ch,zE X pins H b) :
  Inv X pins σ H { s with heap:=h',toks:=t' }:=by
 have nit:∀ b u,H b=some u->b∉ch:=λ b u e z=>by rw [(hf b z).1] at e;cases e
 refine I.step (g':=s.gens) (d':=s.drawn) (ch:=ch) (λ b hb=>?_) (λ b o _ _ hc e _=>k b o hc e) (λ b o _ _ hc e _=>⟨o.slots,k b o hc e⟩) (λ _ _ _ _ n=>n)
  (λ b o hc e=>⟨o,k b o hc e⟩) (λ _ _ e=>e) (λ _ _ _ e=>e) (λ b ps e=>⟨#[],by rw [e];simp⟩) (λ m hm=>?_) (λ b u e=>?_) I.bare
 ·obtain ⟨f0,f1,f2,f3,f4,f5⟩:=hf b hb
  exact ⟨f3,f1,f4,f5⟩
 ·obtain ⟨o,es,ep,ho,r⟩:=hm
  exact ⟨o,es,ep,k _ o (λ z=>(hf _ z).2.1 rfl) ho,r⟩
 ·refine (I.hok b u e).stay (λ c v hc q=>k c v ?_ q) (λ _ q=>q) λ _ _ q=>q
  rcases hc with z | z
  ·rw [z];exact nit b u e
  ·exact nit c _ z
open AutoSeq1 (wpAny_loadPart')
theorem oR (l:Addr) (items:Array Value) (n:Nat) (dct:Option Addr) (sl:Array (Option Value)) :
  Meets (Builtin.«enumerate.__new__» ⟨[.type "enumerate",.ref l],[]⟩) (λ _ R s=>s.heap.get? l=some { cls:=.type "tuple",dict:=dct,data:=.seq items n,slots:=sl } /\
   R (.ok (.ret (.ref (s.heap.push { cls:=.type "tuple_iterator",data:=.fields #[.ref l,.int 0 0] }).objs.size)))
    { s with heap:=(s.heap.push { cls:=.type "tuple_iterator",data:=.fields #[.ref l,.int 0 0] }).push { cls:=.type "enumerate",data:=.fields #[.none,.bool false,.ref s.heap.objs.size,rawInt 0,.none,.none] } }) :=
 .of_wp λ prog w A R s h=>by
  obtain ⟨hp,g,d,tk,os⟩:=s;obtain ⟨hl,h⟩:=h;have hsub:=sub_enumerate;have hL:Heap.IsTuple (Shared.heap ⟨hp,g,d,tk,os⟩) l items:=⟨_,hl,rfl,n,rfl⟩
  wp_walk using wpAny_loadPart' hl
  refine wpAny_stack_any λ st=>wpAny_pure ?_
  split
  ·rename_i c _ _ _ _ _
   cases (c == Value.type "enumerate")
   ·wp_walk using wpAny_loadPart' hl,wpAny_pyIter_tuple hL
    exact ⟨_,rfl,h⟩
   ·wp_walk using wpAny_loadPart' hl,wpAny_pyIter_tuple hL
    exact ⟨_,rfl,h⟩
  ·wp_walk using wpAny_loadPart' hl,wpAny_pyIter_tuple hL
   exact ⟨_,rfl,h⟩
section
variable {prog:Program} {w:World} {A:Around} {E:Value->Shared->Prop} {s:Shared}
theorem oW {k:Bool} {l:Addr} {items:Array Value} {Q:Value->Shared->Prop} (hL:SqOf k s.heap l items)
  (h:∀ h',IsEnum h' (s.heap.objs.size+1) s.heap.objs.size 0 .none->ItOf k h' s.heap.objs.size l 0->(∀ b o,s.heap.get? b=some o->h'.get? b=some o)->Q (.ref (s.heap.objs.size+1)) { s with heap:=h' }) :
  wpAny (model prog w) A (call (.type "enumerate") [.ref l]) Q E s:=by
 cases k
 ·obtain ⟨⟨c,dct,dt,sl⟩,hl,hc,n,hd⟩:=hL
  replace hc:c=.type "tuple":=hc
  replace hd:dt=.seq items n:=hd
  subst hc hd;refine callType_new F.called_enumerate (by decide) (F.typeCall_enumerate_1 _) (F.newCall_enumerate_1 _) (λ obj=>F.args_object_init_2 obj _) F.entry_enumerate_new (oR l items n dct sl) ⟨hl,?_⟩;have hz:(s.heap.push { cls:=.type "tuple_iterator",data:=.fields #[.ref l,.int 0 0] }).objs.size=s.heap.objs.size+1:=Heap.size_push ..;show _/\_;rw [hz];have he:=Heap.get?_push_size (s.heap.push { cls:=.type "tuple_iterator",data:=.fields #[.ref l,.int 0 0] }) (o:={ cls:=.type "enumerate",data:=.fields #[.none,.bool false,.ref s.heap.objs.size,rawInt 0,.none,.none] }) rfl;rw [hz] at he;exact ⟨⟨_,he,rfl⟩,h _ he ⟨_,Heap.get?_push_of_some _ (Heap.get?_push_size _ rfl),rfl,rfl⟩ λ b o x=>Heap.get?_push_of_some _ (Heap.get?_push_of_some _ x)⟩
 ·exact call_enumerate_list hL λ h' he hi _ hk=>h h' he hi hk
end
theorem lM {k k':Bool} {h:Heap} {a it b:Addr} {i:Nat} {items:Array Value} (x:SqOf k h a items) (y:ItOf k' h it b i):a≠it:=by
 intro z;subst z
 cases k<;>cases k'<;>obtain ⟨o,e,c,_⟩:=x<;>obtain ⟨o',e',c',_⟩:=y<;>rw [e] at e'<;>cases e'<;>rw [c] at c'<;>revert c'<;>decide
theorem kHE {h:Heap} {a b:Addr} {o u:Obj} {m n:String} (h1:h.get? a=some o) (h2:h.get? b=some u) (c1:o.cls=.type m) (c2:u.cls=.type n) (d:m≠n):a≠b:=by
 intro z;subst z;rw [h1] at h2;cases h2
 rw [c1] at c2;injection c2 with e
 exact d e
theorem ItOf.cls {k:Bool} {h:Heap} {it a:Addr} {i:Nat} (x:ItOf k h it a i):∃ o,h.get? it=some o/\o.cls=.type (cU k):=by
 cases k<;>obtain ⟨o,e,c,_⟩:=x<;>exact ⟨o,e,c⟩
def kKP (k:Bool):String:=match k with | true=>"list" | false=>"tuple"
theorem SqOf.cls {k:Bool} {h:Heap} {a:Addr} {items:Array Value} (x:SqOf k h a items):∃ o,h.get? a=some o/\o.cls=.type (kKP k):=by
 cases k<;>obtain ⟨o,e,c,_⟩:=x<;>exact ⟨o,e,c⟩
theorem Inv.handed {X:Cx} {pins:List (Addr×Obj)} {σ:St} {H:Hp} {s:Shared} {h':Heap} {t':Nat} {ch:List Addr} {x y:V} {u v:Value} (I:Inv X pins σ H s) (rx:RelV x u) (ry:RelV y v)
  (hT:h'.get? s.heap.objs.size=some { cls:=.type "tuple",data:=.seq #[u,v] }) (k:∀ b o,b∉ch->s.heap.get? b=some o->h'.get? b=some o) (hf:∀ b∈ch,zE X pins H b) (hlt:∀ b∈ch,b<s.heap.objs.size) :
  Inv X pins σ (upd H s.heap.objs.size (.tup [x,y])) { s with heap:=h',toks:=t' }/\(∀ b∈ch,upd H s.heap.objs.size (.tup [x,y]) b=none):=by
 have hn:∀ b∈ch,upd H s.heap.objs.size (.tup [x,y]) b=none:=λ b hb=>by rw [kO (Nat.ne_of_lt (hlt b hb))];exact (hf b hb).1
 have I1:Inv X pins σ (upd H s.heap.objs.size (.tup [x,y])) { s with heap:=s.heap.push { cls:=.type "tuple",data:=.seq #[u,v] },toks:=s.toks } :=
  I.laid (λ b o e=>Heap.get?_push_of_some _ e) (Nat.le_refl _) ⟨by simp only [length_cons,length_nil];rw [sizeLine_eq];decide,[u,v],.cons rx (.cons ry .nil),⟨_,Heap.get?_push_size _ rfl,rfl,0,rfl,rfl⟩⟩
 have I2:=Inv.turnedL (h':=h') (t':=t') (ch:=ch) I1 (λ b o hb e=>by
  rcases Heap.get?_push_cases e with ⟨rfl,rfl⟩ | e
  ·exact hT
  ·exact k b o hb e) (λ b hb=>by
  obtain ⟨f0,f1,f2,f3,f4,f5⟩:=hf b hb;exact ⟨hn b hb,f1,f2,f3,f4,f5⟩)
 exact ⟨I2,hn⟩
def Ite (k:Bool) (K:PySem.W.Frag) (a:Addr):It :=
 ⟨λ i H=>∃ xs x,SqX K k H a xs/\xs[i]?=some x,λ i H v H'=>∃ T x,H T=none/\v=.ref T/\(∀ xs,SqX K k H a xs->xs[i]?=some x)/\H'=upd H T (.tup [.int i,x]),λ i H=>∃ xs,SqX K k H a xs/\xs.length=i⟩
theorem kCE {P:Program} {w:World} {K:PySem.W.Frag} {elts:List Expr} {x1} {pos:Pos} (k:Bool) (a e it:Addr):Turn P w K (.Tuple elts x1 pos) (Ite k K a) [e,it] e (λ i h=>(∃ old,IsEnum h e it i old)/\ItOf k h it a i) where
 mem:=by simp
 obj:=λ i h st b hb=>by
  obtain ⟨⟨old,he⟩,hi⟩:=st;rcases mem_cons.mp hb with rfl | hb
  ·exact ⟨_,he,λ v z=>by cases z⟩
  ·have:b=it:=by simpa using hb
   subst this;exact hi.live
 keep:=λ i h h' st kk=>by
  obtain ⟨⟨old,he⟩,hi⟩:=st;exact ⟨⟨old,kk e (by simp) _ he⟩,hi.at λ o q=>kk it (by simp) o q⟩
 item:=by
  intro X hP hw hK hc i pins s σ H E I hf st hg;subst hP hw hK;obtain ⟨⟨old,he⟩,hi⟩:=st;obtain ⟨xs,x,hq,hx⟩:=hg;obtain ⟨its,rv,p⟩:=I.sq hq;obtain ⟨u,hu,ru⟩:=rv.get hx;have nai:=lM p hi;obtain ⟨oi,ei,ci⟩:=hi.cls;obtain ⟨oa,ea,ca⟩:=p.cls;have nei:e≠it:=kHE he ei rfl ci (by cases k<;>decide);have nea:e≠a:=kHE he ea rfl ca (by cases k<;>decide);have D:=vA (prog:=X.prog) (w:=X.w) (A:=X.A.in1) (I.ok.hd hc) k it a nai its.toArray
  have hlt:i<its.toArray.size:=by
   have:=(List.getElem?_eq_some_iff.mp hu).1;simpa using this
  refine wpAny_pyNext_enum_itemD D he ⟨hi,p⟩ hlt nei (by simp [nei,nea]) λ y h' tk hy ho hs' hT hz hk=>?_
  have ey:y=u:=by
   have hy':its[i]?=some y:=by simpa using hy
   rw [hu] at hy';exact (Option.some.inj hy').symm
  subst ey;refine ⟨_,rfl,wpAny_letOwnedTupleGo_enum ho λ h2 he2 hs2=>?_⟩;have hel:e<s.heap.objs.size:=Heap.lt_size he;have hil:it<s.heap.objs.size:=Heap.lt_size ei;have hT2:h2.get? s.heap.objs.size=some { cls:=.type "tuple",data:=.seq #[.int i tk,y] }:=hs2.extBut _ _ (Nat.ne_of_gt hel) hT
  obtain ⟨I2,n2⟩:=I.handed (x:=.int i) (u:=.int i tk) (t':=tk+1) (ch:=[e,it]) ⟨tk,rfl⟩ ru hT2 (λ b o hb q=>hs2.extBut b o (λ z=>hb (by simp [z])) (hk b o (λ z=>hb (by simp [z])) (λ z=>hb (by simp [z])) q)) hf
   (λ b hb=>by rcases mem_cons.mp hb with rfl | hb;exact hel;rw [mem_singleton.mp hb];exact hil)
  refine ⟨.ref s.heap.objs.size,_,I2,rfl,⟨_,x,I.hok.fresh (Nat.le_refl _),rfl,λ ys hys=>by rw [I.sq_inj hys hq];exact hx,rfl⟩,⟨⟨_,by simpa using he2⟩,hs'.1.at λ o q=>hs2.extBut it o nei.symm q⟩,n2⟩
 done:=by
  intro X hP hw hK hc i pins s σ H E I hf st hg;subst hP hw hK;obtain ⟨⟨old,he⟩,hi⟩:=st;obtain ⟨xs,hq,hx⟩:=hg;obtain ⟨its,rv,p⟩:=I.sq hq;have nai:=lM p hi;have D:=vA (prog:=X.prog) (w:=X.w) (A:=X.A.in1) (I.ok.hd hc) k it a nai its.toArray;have hl:its.toArray.size=i:=by rw [<-hx,rv.length];simp
  refine wpAny_pyNext_enum_endD D he ⟨hl ▸ hi,p⟩ λ h' eb=>⟨rfl,I.turnedL (t':=s.toks) (ch:=[it]) (λ b o hb q=>eb b o (λ z=>hb (by simp [z])) q) λ b hb=>hf b (by simp at hb ⊢;exact .inr hb)⟩
 self:=λ _ _ _ _ _ st h=>by
  obtain ⟨⟨old,he⟩,_⟩:=st;exact wpAny_pyIter_enum he h
section
variable {X:Cx}
def kNE (k:Bool) (K:PySem.W.Frag) (ta:TA):TI:=λ σ H R=>ta σ H λ vs H1=>∃ a,vs=[.ref a]/\(∃ xs,SqX K k H1 a xs)/\R (Ite k K a) H1
theorem nS (k:Bool) {a:Expr} {ta:TA} {p pos tpos:Pos} {elts:List Expr} {x1} (hg:Gl X "enumerate") (hm:X.mg "enumerate" = none) (ha:PA X [a] ta) (hs:starEach [a] X.env=[(false,eval a X.env)]:=by rfl) :
  PI X (.Tuple elts x1 tpos) (.Call (.Name "enumerate" p) [a] [] pos) (kNE k X.K ta):=by
 intro pins s σ H R I h;refine Call_ (vK I hg hm boot_enumerate (PyProof.Rows.callWith_type1 (thn (ha pos pins s σ H _ I h) λ us s1 ⟨vs,H1,I1,r1,q1⟩=>?_) hs rfl));obtain ⟨l,rfl,⟨xs,hq⟩,q⟩:=q1;obtain ⟨u,rfl,r⟩:=uS r1;cases r
 obtain ⟨its,rv,pq⟩:=I1.sq hq;refine oW pq λ h' he hi hk=>?_;refine wpAny_pyIter_enum (s:={ s1 with heap:=h' }) he ?_
 have f:∀ b,s1.heap.objs.size<=b->zE X pins H1 b:=λ b hb=>I1.fpOk hb (I1.hok.fresh hb);refine ⟨_,[s1.heap.objs.size+1,s1.heap.objs.size],_,_,H1,rfl,I1.kept (t':=s1.toks) hk,kCE k l _ _,⟨⟨_,he⟩,hi⟩,λ b hb=>?_,q⟩;rcases mem_cons.mp hb with rfl | hb
 ·exact f _ (by omega)
 ·rw [mem_singleton.mp hb];exact f _ (Nat.le_refl _)
end
end L2
namespace L2
open PySem PySem.Spec PyProof.Rows
structure ZAp (z TI TO i1 i2:Addr) (fp1 fp2:List Addr):Prop where
 zTI:z≠TI
 zTO:z≠TO
 zi1:z≠i1
 zi2:z≠i2
 TOi1:TO≠i1
 TOi2:TO≠i2
 i12:i1≠i2
 TITO:TI≠TO
 TIi1:TI≠i1
 TIi2:TI≠i2
 z1:z∉fp1
 z2:z∉fp2
 t1:TO∉fp1
 t2:TO∉fp2
 i2f:i2∉fp1
 i1f:i1∉fp2
section
variable {prog:Program} {w:World} {A:Around} {E:Value->Shared->Prop} {s:Shared} {z TI TO i1 i2:Addr} {fp1 fp2:List Addr} {n1 n2 j:Nat} {P1 P2:Nat->Value->Prop} {S1 S2:Nat->Heap->Prop} {a b:Value}
theorem kBU {Q:Value->Shared->Prop} (D1:Draws prog w A i1 fp1 n1 P1 S1) (D2:Draws prog w A i2 fp2 n2 P2 S2) (ap:ZAp z TI TO i1 i2 fp1 fp2)
  (hz:IsZip s.heap z TI TO .none) (hTI:IsPair s.heap TI (.ref i1) (.ref i2)) (hTO:IsPair s.heap TO a b) (h1:S1 j s.heap) (h2:S2 j s.heap) (l1:j<n1) (l2:j<n2)
  (hQ:∀ x y h' tk,P1 j x->P2 j y->IsZip h' z TI TO (rawInt s.heap.objs.size)->IsPair h' TO x y->S1 (j+1) h'->S2 (j+1) h'->IsPair h' s.heap.objs.size x y ->
   (∀ c o,c≠z->c≠TO->c≠i1->c≠i2->s.heap.get? c=some o->h'.get? c=some o)->Q (.ref s.heap.objs.size) { s with heap:=h',toks:=tk }) :
  wpAny (model prog w) A (Builtin.«zip.__next__» ⟨[.ref z],[]⟩) (λ fin s'=>∃ v,fin=.done (.ret v)/\Q v s') E s:=by
 have fr1:∀ {i:Nat} {h h':Heap} {c:Addr},S1 i h->Heap.SameBut c h h'->c∉fp1->S1 i h':=λ st sb hc=>D1.frame _ _ _ st λ b hb o e=>sb.extBut b o (λ q=>hc (q ▸ hb)) e;have fr2:∀ {i:Nat} {h h':Heap} {c:Addr},S2 i h->Heap.SameBut c h h'->c∉fp2->S2 i h':=λ st sb hc=>D2.frame _ _ _ st λ b hb o e=>sb.extBut b o (λ q=>hc (q ▸ hb)) e;show wpAny _ _ (field (.ref z) 2 >>= _) _ _ _;refine wpAny_bind (wpAny_field hz rfl (x:=.bool false) rfl ?_);show wpAny _ _ (field (.ref z) 3 >>= _) _ _ _;refine wpAny_bind (wpAny_field hz rfl (x:=.ref TI) rfl ?_);refine wpAny_bind (wpAny_seqItems hTI rfl ?_);show wpAny _ _ (Builtin.SmallTypes.ownedTupleIsFree (.ref z) >>= _) _ _ _;refine wpAny_bind ?_;unfold Builtin.SmallTypes.ownedTupleIsFree;refine wpAny_bind (wpAny_field hz rfl (x:=.none) rfl (wpAny_pure ?_));simp only [if_true];refine wpAny_bind (wpAny_rule ?_);refine wpAny_bind (wpAny_field hz rfl (x:=.ref TO) rfl ?_);refine wpAny_bind (wpAny_setField_rec hz (by simp) λ g1 z1 s1=>?_)
 replace z1:IsZip g1 z TI TO .ellipsis:=z1
 refine wpAny_bind ?_
 simp only [List.zipIdx_cons,List.zipIdx_nil,List.forIn_cons,List.forIn_nil]
 refine wpAny_bind (wpAny_bind (wpAny_onRaise ?_));show wpAny _ _ (Builtin.SmallTypes.nextOf (.ref i1) >>= _) _ _ _;refine wpAny_bind (D1.item j _ _ _ l1 (fr1 h1 s1 ap.z1) λ x g2 tk2 px st2 s2=>wpAny_pure ?_);have o2:IsPair g2 TO a b:=s2.extBut _ _ ap.TOi1 (s1.extBut _ _ ap.zTO.symm hTO);refine wpAny_bind (wpAny_seqItems o2 rfl ?_);refine wpAny_bind (wpAny_updateSeq_pair o2 λ g3 o3 s3=>?_)
 replace o3:IsPair g3 TO x b:=o3
 refine wpAny_bind (wpAny_letGo (wpAny_pure ?_))
 refine wpAny_bind (wpAny_bind (wpAny_onRaise ?_));show wpAny _ _ (Builtin.SmallTypes.nextOf (.ref i2) >>= _) _ _ _;refine wpAny_bind (D2.item j _ _ _ l2 (fr2 (fr2 (fr2 h2 s1 ap.z2) s2 ap.i1f) s3 ap.t2) λ y g4 tk4 py st4 s4=>wpAny_pure ?_);have o4:IsPair g4 TO x b:=s4.extBut _ _ ap.TOi2 o3;refine wpAny_bind (wpAny_seqItems o4 rfl ?_);refine wpAny_bind (wpAny_updateSeq_pair o4 λ g5 o5 s5=>?_)
 replace o5:IsPair g5 TO x y:=o5
 refine wpAny_bind (wpAny_letGo (wpAny_pure (wpAny_pure ?_)))
 refine wpAny_bind (wpAny_seqItems o5 rfl ?_);refine wpAny_bind (wpAny_newTuple ?_);have sz:g5.objs.size=s.heap.objs.size:=by rw [s5.1,s4.1,s3.1,s2.1,s1.1]
 have z5:IsZip g5 z TI TO .ellipsis:=s5.extBut _ _ ap.zTO (s4.extBut _ _ ap.zi2 (s3.extBut _ _ ap.zTO (s2.extBut _ _ ap.zi1 z1)))
 have k5:∀ c o,c≠z->c≠TO->c≠i1->c≠i2->s.heap.get? c=some o->g5.get? c=some o:=λ c o c1 c2 c3 c4 e =>
  s5.extBut _ _ c2 (s4.extBut _ _ c4 (s3.extBut _ _ c2 (s2.extBut _ _ c3 (s1.extBut _ _ c1 e))))
 have st1:S1 (j+1) g5:=fr1 (fr1 (fr1 st2 s3 ap.t1) s4 ap.i2f) s5 ap.t1;have st2':S2 (j+1) g5:=fr2 st4 s5 ap.t2;have zlt:z<g5.objs.size:=Heap.lt_size z5;show wpAny _ _ (Builtin.SmallTypes.ownedTupleHandOut (.ref z) (.ref g5.objs.size) >>= _) _ _ _;refine wpAny_bind ?_;unfold Builtin.SmallTypes.ownedTupleHandOut;have z6:IsZip (g5.push { cls:=.type "tuple",data:=.seq #[x,y] }) z TI TO .ellipsis:=Heap.get?_push_of_some _ z5;refine wpAny_bind (wpAny_setField_rec z6 (by simp) λ g7 z7 s7=>?_)
 replace z7:IsZip g7 z TI TO (rawInt g5.objs.size):=z7
 refine wpAny_setField_rec z7 (by simp) λ g8 z8 s8=>?_
 replace z8:IsZip g8 z TI TO (rawInt g5.objs.size):=z8
 have up:∀ c o,c≠z->g5.get? c=some o->g8.get? c=some o:=λ c o c1 e=>s8.extBut _ _ c1 (s7.extBut _ _ c1 (Heap.get?_push_of_some _ e));have t8:IsPair g8 g5.objs.size x y:=s8.extBut _ _ (Nat.ne_of_gt zlt) (s7.extBut _ _ (Nat.ne_of_gt zlt) (Heap.get?_push_size _ rfl));rw [sz] at z8 t8;refine wpAny_pure ⟨_,rfl,?_⟩;show Q (.ref g5.objs.size) _;rw [sz];exact hQ x y g8 _ px py z8 (up _ _ ap.zTO.symm o5) (D1.frame _ _ _ st1 λ b hb o e=>up b o (λ q=>ap.z1 (q ▸ hb)) e) (D2.frame _ _ _ st2' λ b hb o e=>up b o (λ q=>ap.z2 (q ▸ hb)) e) t8 λ c o c1 c2 c3 c4 e=>up c o c1 (k5 c o c1 c2 c3 c4 e)
end
theorem sK (k1 k2:Bool) (l1 l2:Addr) (xs ys:Array Value) :
  Meets (Builtin.«zip.__new__» ⟨[.type "zip",.ref l1,.ref l2],[]⟩) (λ _ R s=>SqOf k1 s.heap l1 xs/\SqOf k2 s.heap l2 ys /\
   ∀ (g1 g2 g3 g4 g5:Heap),g1=s.heap.push { cls:=.type (cU k1),data:=.fields #[.ref l1,.int 0 0] }->g2=g1.push { cls:=.type (cU k2),data:=.fields #[.ref l2,.int 0 0] } ->
    g3=g2.push { cls:=.type "tuple",data:=.seq #[.ref s.heap.objs.size,.ref g1.objs.size] }->g4=g3.push { cls:=.type "tuple",data:=.seq #[.none,.none] } ->
    g5=g4.push { cls:=.type "zip",data:=.fields #[.none,.bool false,.bool false,.ref g2.objs.size,.ref g3.objs.size] }->R (.ok (.ret (.ref g4.objs.size))) { s with heap:=g5 }) :=
 .of_wp λ prog w A R s h=>by
  obtain ⟨hp,g,d,tk,os⟩:=s;obtain ⟨hl1,hl2,h⟩:=h;have hsub:=sub_zip;have hL1:SqOf k1 (Shared.heap ⟨hp,g,d,tk,os⟩) l1 xs:=hl1;have hL2:SqOf k2 (Shared.heap ⟨hp.push { cls:=.type (cU k1),data:=.fields #[.ref l1,.int 0 0] },g,d,tk,os⟩) l2 ys:=hl2.at λ o e=>Heap.get?_push_of_some _ e;have h:=h _ _ _ _ _ rfl rfl rfl rfl rfl
  wp_walk using kAY hL1,kAY hL2
  exact ⟨_,rfl,h⟩
section
variable {prog:Program} {w:World} {A:Around} {E:Value->Shared->Prop} {s:Shared}
theorem sE {k1 k2:Bool} {l1 l2:Addr} {xs ys:Array Value} {Q:Value->Shared->Prop} (h1:SqOf k1 s.heap l1 xs) (h2:SqOf k2 s.heap l2 ys)
  (h:∀ h',IsZip h' (s.heap.objs.size+4) (s.heap.objs.size+2) (s.heap.objs.size+3) .none->IsPair h' (s.heap.objs.size+2) (.ref s.heap.objs.size) (.ref (s.heap.objs.size+1)) ->
   IsPair h' (s.heap.objs.size+3) .none .none->ItOf k1 h' s.heap.objs.size l1 0->ItOf k2 h' (s.heap.objs.size+1) l2 0->(∀ c o,s.heap.get? c=some o->h'.get? c=some o)->Q (.ref (s.heap.objs.size+4)) { s with heap:=h' }) :
  wpAny (model prog w) A (call (.type "zip") [.ref l1,.ref l2]) Q E s:=by
 refine callType_new F.called_zip (by decide) (F.typeCall_zip_2 _ _) (F.newCall_zip_2 _ _) (λ obj=>F.args_object_init_3 obj _ _) F.entry_zip_new (sK k1 k2 l1 l2 xs ys) ⟨h1,h2,?_⟩;intro g1 g2 g3 g4 g5 e1 e2 e3 e4 e5;have z1:g1.objs.size=s.heap.objs.size+1:=by rw [e1];exact Heap.size_push ..
 have z2:g2.objs.size=s.heap.objs.size+2:=by rw [e2,Heap.size_push,z1]
 have z3:g3.objs.size=s.heap.objs.size+3:=by rw [e3,Heap.size_push,z2]
 have z4:g4.objs.size=s.heap.objs.size+4:=by rw [e4,Heap.size_push,z3]
 have u1:∀ c o,s.heap.get? c=some o->g1.get? c=some o:=λ c o e=>by rw [e1];exact Heap.get?_push_of_some _ e
 have u2:∀ c o,g1.get? c=some o->g2.get? c=some o:=λ c o e=>by rw [e2];exact Heap.get?_push_of_some _ e
 have u3:∀ c o,g2.get? c=some o->g3.get? c=some o:=λ c o e=>by rw [e3];exact Heap.get?_push_of_some _ e
 have u4:∀ c o,g3.get? c=some o->g4.get? c=some o:=λ c o e=>by rw [e4];exact Heap.get?_push_of_some _ e
 have u5:∀ c o,g4.get? c=some o->g5.get? c=some o:=λ c o e=>by rw [e5];exact Heap.get?_push_of_some _ e
 have b5:IsZip g5 g4.objs.size g2.objs.size g3.objs.size .none:=by rw [e5];exact Heap.get?_push_size _ rfl
 have b4:IsPair g5 g3.objs.size .none .none:=u5 _ _ (by rw [e4];exact Heap.get?_push_size _ rfl);have b3:IsPair g5 g2.objs.size (.ref s.heap.objs.size) (.ref g1.objs.size):=u5 _ _ (u4 _ _ (by rw [e3];exact Heap.get?_push_size _ rfl));have i1:ItOf k1 g5 s.heap.objs.size l1 0:=ItOf.at (h:=g1) (by rw [e1];exact ItOf.new k1 s.heap l1) λ o e=>u5 _ _ (u4 _ _ (u3 _ _ (u2 _ _ e)));have i2:ItOf k2 g5 g1.objs.size l2 0:=ItOf.at (h:=g2) (by rw [e2];exact ItOf.new k2 g1 l2) λ o e=>u5 _ _ (u4 _ _ (u3 _ _ e));show _/\_;rw [z2,z3,z4] at b5;rw [z1,z2] at b3;rw [z3] at b4;rw [z1] at i2;rw [z4];exact ⟨⟨_,b5,rfl⟩,h _ b5 b3 b4 i1 i2 λ c o x=>u5 _ _ (u4 _ _ (u3 _ _ (u2 _ _ (u1 _ _ x))))⟩
end
theorem zap (n a b:Nat) (ha:a<n) (hb:b<n):ZAp (n+4) (n+2) (n+3) n (n+1) [n,a] [n+1,b]:=by
 have q:∀ {x y u:Nat},x≠y->x≠u->¬ x∈[y,u]:=λ h1 h2 h3=>by
  rcases mem_cons.mp h3 with e | e
  ·exact h1 e
  ·exact h2 (mem_singleton.mp e)
 have d:∀ {x y:Nat},x<y->y≠x:=λ h=>Nat.ne_of_gt h;have e:∀ {x y:Nat},x<y->x≠y:=λ h=>Nat.ne_of_lt h
 exact ⟨d (by omega),d (by omega),d (by omega),d (by omega),d (by omega),d (by omega),e (by omega),e (by omega),d (by omega),d (by omega),
  q (d (by omega)) (d (by omega)),q (d (by omega)) (d (by omega)),q (d (by omega)) (d (by omega)),q (d (by omega)) (d (by omega)),q (d (by omega)) (d (by omega)),q (e (by omega)) (d (by omega))⟩
section
variable {X:Cx}
end
section
variable {X:Cx} {tg iter el:Expr} {ifs:List Expr} {sc:Scope} {pos py spos:Pos} {Nc:List Str} {js:List (Option Nat)} {wi:TI} {i:Nat} {y:Str}
theorem fA {g:TG} {bd:Addr->TB} (hx:X.xe=λ _ _=>False) (hc:X.calm=true) (hN:X.N.Nodup) (hiN:X.N[i]?=some y) (hy:Loc X.env.scope y) (hi:PI X tg iter wi) (S:CS sc X.env.scope) (cap:bV js Nc X.N sc.names=true)
  (hg:∀ C s₂ H₂ fp pins,PG (cxC X Nc sc C s₂ H₂ fp pins) tg g)
  (hb:∀ C s₂ H₂ fp pins D L,PTl (cxC X Nc sc C s₂ H₂ fp pins) (yI ifs (cxC X Nc sc C s₂ H₂ fp pins).env (do let _ <-call (.builtin "list.append") [.ref D,<-eval el (cxC X Nc sc C s₂ H₂ fp pins).env]) L) L (bd D))
  (hs:∀ x,foldedSetIterable iter X.env x=pure x:=by intro _;rfl)
  (hsw:swapsWith (.ListComp el [⟨tg,iter,ifs,0⟩] sc pos) (some (.Name y py)) spos.line X.env=pure true:=by rfl)
  (hf:X.fn y=true\/X.env.scope.names.lookup y=some .local:=by first | exact .inl rfl | exact .inr rfl | assumption) :
  PS X (.Assign [.Name y py] (.ListComp el [⟨tg,iter,ifs,0⟩] sc pos) spos) (kHR (tLC js wi g bd) (rT i)):=by
 intro pins s σ H D0 I h;have hcl:closureFor sc X.env=pure (zJ sc X.env):=wA λ y hy hf=>I.ok.has y.1 (.inl (S.free y hy hf));rw [exec_Assign_Name_used _ _ _ _ hsw];refine wpAny_bind (wpAny_standAt (wpAny_bind ?_));show wpAny _ X.A (do let _ <-comprehension (.ListComp el [⟨tg,iter,ifs,0⟩] sc pos) sc X.env _ (newList []) false (eval iter X.env) (some (assign (.Name y py) X.env))) _ _ s
 refine wpAny_bind (wpAny_mono (wpAny_comprehension_free (use:=some (assign (.Name y py) X.env)) (Q:=λ _ s'=>SP X pins D0 .next s') rfl hs hcl S.kind S.names
  (thn (hi pins s σ H _ I h) λ v s1 h1=>thn h1 λ itv s2 h2=>?_)) (λ _ s' hq=>wpAny_pure (wpAny_pure hq)) λ _ _ e=>e)
 obtain ⟨it,fp,tn,J,H2,e,I2,T,st2,f2,hw⟩:=h2;subst e;have hlt:∀ b∈fp,b<s2.heap.objs.size:=λ b hb=>let ⟨o,ho,_⟩:=T.obj _ _ st2 b hb;Heap.lt_size ho;refine wpAny_newObj_type (wpAny_newFunctionEnv S.nocell (by intro y hy;simp at hy) (λ h₁ hns₁ hsb₁=>?_) S.kind);dsimp only at hns₁ hsb₁ ⊢;generalize hH2:s2.heap.push { cls:=.type "list",dict:=none,data:=.seq ([]:List Value).toArray }=G at hns₁ hsb₁ ⊢;have hCs:G.objs.size=s2.heap.objs.size+1:=by rw [<-hH2,Heap.size_push]
 have hDC:s2.heap.objs.size≠G.objs.size:=by omega
 have hCle:s2.heap.objs.size<=G.objs.size:=by omega
 have old:∀ b o,s2.heap.get? b=some o->h₁.get? b=some o:=λ b o e=>hsb₁.extBut b o (Nat.ne_of_lt (Nat.lt_of_lt_of_le (Heap.lt_size e) hCle)) (Heap.get?_push_of_some _ (hH2 ▸ Heap.get?_push_of_some _ e));have hacc:h₁.get? s2.heap.objs.size=some { cls:=.type "list",dict:=none,data:=.seq ([]:List Value).toArray }:=hsb₁.extBut _ _ hDC (Heap.get?_push_of_some _ (hH2 ▸ Heap.get?_push_size _ rfl));have new:ObjOk X.prog X.w (upd H2 s2.heap.objs.size (.lst [])) h₁ s2.heap.objs.size (.lst []):=⟨Nat.zero_le _,[],_,.nil,hacc⟩;have I4:=bM (js:=js) (Nc:=Nc) (tk:=s2.toks+([]:List (Str×Value)).length) I2 S f2 hlt cap hCle (Nat.le_refl _) hDC old hns₁ new;have hn:H2 s2.heap.objs.size=none:=I2.fresh
 have f4:∀ b∈fp,zE (cxC X Nc sc G.objs.size s2 H2 fp pins) [] (upd H2 s2.heap.objs.size (.lst [])) b:=λ b hb=>by
  obtain ⟨h0,h1,h2,h3,h4,h5⟩:=f2 b hb;refine ⟨?_,Nat.ne_of_lt (Nat.lt_of_lt_of_le (hlt b hb) hCle),λ z=>?_,.inl hb,λ x c z=>?_,λ p hp=>?_⟩
  ·rw [kO (Nat.ne_of_lt (hlt b hb))];exact h0
  ·rcases mem_cons.mp (I2.stkSub b z) with q | q
   ·exact h1 q
   ·exact h2 q
  ·exact h4 x c (uX sc.names [] (λ z=>nomatch z) z)
  ·rcases mem_append.mp hp with z | z
   ·exact h5 p z
   ·exact absurd z (by simp)
 have st4:tn 0 h₁:=T.keep _ _ _ st2 λ b hb o e=>old b o e
 have loop:codeAny (model X.prog X.w) X.A (.compLoop (.ListComp el [⟨tg,iter,ifs,0⟩] sc pos) 0 (.ref it) (.ref s2.heap.objs.size) (compEnvC sc (zJ sc X.env) G.objs.size X.env))
   (compPost (model X.prog X.w) X.A X.xe (some (assign (.Name y py) X.env)) (λ _ s'=>SP X pins D0 .next s') (.ref s2.heap.objs.size) G.objs.size) { s2 with heap:=h₁,toks:=s2.toks+([]:List (Str×Value)).length }:=by
  refine zS (X:=cxC X Nc sc G.objs.size s2 H2 fp pins) (.inl ⟨el,rfl⟩) hx hc (mW _ _ _ _ _ _ _ _ _) T (hg _ _ _ _ _) (hb _ _ _ _ _ _ _) I4 st4 f4 (hw _ hn) λ σ' H' s' I' q=>?_;obtain ⟨m',hm',_⟩:=I'.loc;have IB:Inv X pins σ H' { s' with heap:=s'.heap }:=bN I2 f2 hCle I' (Heap.SameBut.refl ..)
  have nC:H' G.objs.size=none:=I'.free;have fC:zE X pins H' G.objs.size:=I2.fpOk hCle nC;show wpAny _ X.A (assign (.Name y py) X.env (.ref s2.heap.objs.size)) _ _ s';refine wpAny_assign_Name (bZ (v:=.ref s2.heap.objs.size) IB hN hiN hy rfl (λ s'' IC hsb=>?_) hf);obtain ⟨a,sb,ha⟩:=hsb
  have aC:G.objs.size≠a:=by
   rcases ha with rfl | ha
   ·exact fC.2.1
   ·exact λ z=>fC.2.2.2.2.1 y a ha z.symm
  refine ⟨m',hm'.sameBut sb aC,λ h' hs'=>?_⟩;exact ⟨_,H',IC.turnedL (t':=s''.toks) (ch:=[G.objs.size]) (λ b o hb' e=>hs'.extBut b o (λ z=>hb' (by simp [z])) e) (λ b hb'=>by rw [mem_singleton.mp hb'];exact fC),q⟩
 exact yW (.inl ⟨el,rfl⟩) rfl rfl loop (T.self _ _ _ _ _ st4 loop)
end
theorem rV {k:Bool} {K:PySem.W.Frag} {a:Addr} {xs:List V} {g:TG} {tb:TS} {D:Ends} {σ:St} {H:Hp} (Pv:Nat->St->Hp->Prop) (h0:Pv 0 σ H) (hl:∀ i σ H,i<=xs.length->Pv i σ H->SqX K k H a xs)
  (hs:∀ i x T σ H,xs[i]?=some x->H T=none->Pv i σ H->g (.ref T) σ (upd H T (.tup [.int i,x])) λ σ2 H2=>tb { D with nx:=Pv (i+1),ct:=Pv (i+1),bk:=D.nx } σ2 H2) (hd:∀ σ H,Pv xs.length σ H->D.nx σ H) :
  ∃ W:Nat->Nat->St->Hp->Prop,(∃ m,W 0 m σ H)/\∀ i m σ H,W i m σ H ->
   ((Ite k K a).stop i H/\D.nx σ H)\/((Ite k K a).go i H/\∃ N:St->Hp->Prop,(∀ σ' H',N σ' H'->∃ m',m'<m/\W (i+1) m' σ' H')/\∀ x H',(Ite k K a).yld i H x H'->g x σ H' λ σ2 H2=>tb { D with nx:=N,ct:=N,bk:=D.nx } σ2 H2):=by
 refine ⟨λ i m σ H=>m=xs.length-i/\i<=xs.length/\Pv i σ H,⟨xs.length,by simp,Nat.zero_le _,h0⟩,?_⟩;rintro i m σ H ⟨rfl,hle,p⟩;have q1:=hl i σ H hle p;by_cases hi:i<xs.length
 ·refine .inr ⟨⟨xs,xs[i],q1,by simp [hi]⟩,Pv (i+1),λ σ' H' q=>⟨xs.length-(i+1),by omega,rfl,by omega,q⟩,λ x H' hy=>?_⟩
  obtain ⟨T,x1,nT,rfl,e1,rfl⟩:=hy;exact hs i x1 T σ H (e1 xs q1) nT p
 ·have:i=xs.length:=by omega
  subst this;exact .inl ⟨⟨xs,q1,rfl⟩,hd σ H p⟩
theorem kCO (bs:List Bool):(List.range bs.length).all (λ i=>bs.getD i false)=bs.all id:=by
 rw [Bool.eq_iff_iff,all_eq_true,all_eq_true];constructor
 ·intro h b hb
  obtain ⟨i,hi,rfl⟩:=mem_iff_getElem.mp hb;have:=h i (mem_range.mpr hi);simpa [getD_eq_getElem?_getD,hi] using this
 ·intro h i hi
  have hl:i<bs.length:=mem_range.mp hi;have:=h bs[i] (getElem_mem hl);simpa [getD_eq_getElem?_getD,hl] using this
theorem kAH:∀ {bs:List Bool} {its:List Value},Vals (bs.map V.bl) its->its=bs.map Value.bool
 | [],_,r=>by cases r;rfl
 | b::bs,_,r=>by
  cases r with
  | cons r1 r2 =>
   cases r1
   rw [kAH r2]
   rfl
section
variable {X:Cx}
theorem kEL {prog:Program} {w:World} {A:Around} {bs:List Bool} {items:Array Value} (e:items=(bs.map Value.bool).toArray):TruthOf prog w A (λ i v=>items[i]?=some v) (λ i=>bs.getD i false):=by
 intro i v s Q E h q;rw [e] at h;have h':(bs.map Value.bool)[i]?=some v:=by simpa using h
 rw [List.getElem?_map] at h'
 cases z:bs[i]? with
 | none=>rw [z] at h';cases h'
 | some b =>
  rw [z] at h'
  cases h'
  refine wpAny_truthy_bool ?_;simpa [getD_eq_getElem?_getD,z] using q
theorem dE (hc:X.calm=true):yG X (.builtin "all") (λ xs H Q=>∃ (a:Addr) (bs:List Bool),xs=[.ref a]/\SqL X.K H a (bs.map V.bl)/\Q (.bl (bs.all id)) H):=by
 intro pins s σ H xs us Q I r h;obtain ⟨a,bs,rfl,hS,q⟩:=h;obtain ⟨u,rfl,r1⟩:=uS r;cases r1
 obtain ⟨its,rv,ht,hz⟩:=I.list hS;have hl:=ht.isList;have hne:a≠s.heap.objs.size:=by obtain ⟨o,e,_⟩:=hl;exact Nat.ne_of_lt (Heap.lt_size e)
 have eits:=kAH rv;refine call_all_walk (wpAny_pyIter_list hl ⟨_,_,_,_,_,_,_,rfl,Walks.list (A:=X.A.in1) (I.ok.hd hc) _ a hne its.toArray,⟨⟨_,Heap.get?_push_size _ rfl,rfl,rfl⟩,hl.push _⟩,kEL (bs:=bs) (by rw [eits]),λ h' tk hk=>?_⟩);have e:its.toArray.size=bs.length:=by rw [eits];simp
 rw [e,kCO];refine ⟨.bl _,H,I.kept λ b o e'=>hk b o (λ z=>?_) (Heap.get?_push_of_some _ e'),rfl,q⟩;rw [mem_singleton.mp z] at e';exact absurd (Heap.lt_size e') (Nat.lt_irrefl _)
end
section
variable {X:Cx}
theorem kDY (hc:X.calm=true):yG X (.builtin "min") (λ xs H Q=>∃ (a:Addr) (ns:List Int),xs=[.ref a]/\SqL X.K H a (ns.map V.int)/\0<ns.length/\∀ M,M∈ns->(∀ i∈ns,M<=i)->Q (.int M) H):=by
 intro pins s σ H xs us Q I r h;obtain ⟨a,ns,rfl,hS,hne,q⟩:=h;obtain ⟨u,rfl,r1⟩:=uS r;cases r1
 obtain ⟨its,rv,ht,hz⟩:=I.list hS;have hi:=fG rv;obtain ⟨xs,e⟩:=hi.allInts.items;have hns:ns=xs.toList.map (·.1):=by rw [<-hi.numsOf,<-nums_intItems,<-e]
 have hsz:0<xs.size:=by
  have h3:=hne;rw [hns,length_map,Array.length_toList] at h3;exact h3
 have hl:=ht.isList;rw [e] at hl;refine min_intList (I.ok.hd hc) hl hsz λ v h' tk hv hk=>?_;obtain ⟨t,rfl⟩:=intItems_at hv;obtain ⟨h1,h2⟩:=argBest_lt (numAt xs) (xs.size-1);refine ⟨.int _,H,I.kept hk,⟨_,rfl⟩,q _ ?_ λ a ha=>?_⟩
 ·rw [hns,numAt_eq];exact getD_mem (by rw [length_map,Array.length_toList];omega)
 ·rw [hns] at ha
  obtain ⟨j,hj,rfl⟩:=mem_getD ha;rw [length_map,Array.length_toList] at hj;rw [<-numAt_eq];exact h2 j (by omega)
end
section
variable {X:Cx} {tg iter el tg2 iter2:Expr} {ifs ifs2:List Expr} {sc:Scope} {pos:Pos} {Nc:List Str} {js:List (Option Nat)} {wi wi2:TI} {g g2:TG}
def kKD (wi2:TI) (g2:TG) (b2:TB):TB:=λ N σ H=>wi2 σ H λ J H1=>uU J g2 b2 N σ H1
theorem kFK {D:Addr} {b2:TB} {L:Code} {e:Expr} (ee:e=.ListComp el [⟨tg,iter,[],0⟩,⟨tg2,iter2,ifs2,0⟩] sc pos) (hx:X.xe=λ _ _=>False) (hc:X.calm=true) (hi:PI X tg2 iter2 wi2) (hg:PG X tg2 g2)
  (hb:∀ L,PTl X (yI ifs2 X.env (do let _ <-call (.builtin "list.append") [.ref D,<-eval el X.env]) L) L b2) (hs:∀ x,foldedSetIterable iter2 X.env x=pure x) :
  PTl X (kEO [] X.env iter2 (λ i=>.compStart e 1 i (.ref D) X.env) L) L (kKD wi2 g2 b2):=by
 subst ee;intro pins s σ H N I h;unfold kEO;refine wpAny_bind (wpAny_tests_nil ?_);show wpAny _ _ (eval iter2 X.env >>= _) _ _ s;refine wpAny_bind (thn (hi pins s σ H _ I h) λ v s1 h1=>?_);refine wpAny_bind (wpAny_standAt (wpAny_bind (wpAny_of_eq (hs v) (wpAny_bind (wpAny_holding (thn h1 λ itv s2 h2=>?_))))));obtain ⟨it,fp,tn,J,H2,e,I2,T,st2,f2,hw⟩:=h2;subst e;refine wpAny_bind (wpAny_runOwn ?_)
 have loop:codeAny (model X.prog X.w) X.A (.compLoop (.ListComp el [⟨tg,iter,[],0⟩,⟨tg2,iter2,ifs2,0⟩] sc pos) 1 (.ref it) (.ref D) X.env)
   (λ r s'=>match r with | .ok _=>wpAny (model X.prog X.w) X.A (again L) (λ fin s'=>fin=.again L/\∃ σ' H',Inv X pins σ' H' s'/\N σ' H') X.xe s' | .error e=>cameBackBy (model X.prog X.w) X.A X.env X.xe e s') s2 :=
  zS (.inl ⟨el,rfl⟩) hx hc (kEI _ _ _ _ _ _ _ _ _ _ _ _) T hg (hb _) I2 st2 f2 hw λ σ' H' s' I' q=>wpAny_pure ⟨rfl,σ',H',I',q⟩
 exact yW (.inl ⟨el,rfl⟩) rfl rfl loop (T.self _ _ _ _ _ st2 loop)
theorem kII {bd:Addr->TB} (hx:X.xe=λ _ _=>False) (hc:X.calm=true) (hi:PI X tg iter wi) (S:CS sc X.env.scope) (cap:bV js Nc X.N sc.names=true)
  (hg:∀ C s₂ H₂ fp pins,PG (cxC X Nc sc C s₂ H₂ fp pins) tg g) (hi2:∀ C s₂ H₂ fp pins,PI (cxC X Nc sc C s₂ H₂ fp pins) tg2 iter2 wi2) (hg2:∀ C s₂ H₂ fp pins,PG (cxC X Nc sc C s₂ H₂ fp pins) tg2 g2)
  (hb:∀ C s₂ H₂ fp pins D L,PTl (cxC X Nc sc C s₂ H₂ fp pins) (yI ifs2 (cxC X Nc sc C s₂ H₂ fp pins).env (do let _ <-call (.builtin "list.append") [.ref D,<-eval el (cxC X Nc sc C s₂ H₂ fp pins).env]) L) L (bd D))
  (hs:∀ x,foldedSetIterable iter X.env x=pure x:=by intro _;rfl) (hs2:∀ C s₂ H₂ fp pins x,foldedSetIterable iter2 (cxC X Nc sc C s₂ H₂ fp pins).env x=pure x:=by intro _ _ _ _ _ _;rfl) :
  PE X (.ListComp el [⟨tg,iter,[],0⟩,⟨tg2,iter2,ifs2,0⟩] sc pos) (tLC js wi g λ D=>kKD wi2 g2 (bd D)):=by
 intro pins s σ H Q I h;rw [eval_ListComp];have hcl:closureFor sc X.env=pure (zJ sc X.env):=wA λ y hy hf=>I.ok.has y.1 (.inl (S.free y hy hf));refine wpAny_comprehension_free (use:=none) rfl hs hcl S.kind S.names (thn (hi pins s σ H _ I h) λ v s1 h1=>thn h1 λ itv s2 h2=>?_);obtain ⟨it,fp,tn,J,H2,e,I2,T,st2,f2,hw⟩:=h2;subst e;have hlt:∀ b∈fp,b<s2.heap.objs.size:=λ b hb=>let ⟨o,ho,_⟩:=T.obj _ _ st2 b hb;Heap.lt_size ho;refine wpAny_newObj_type (wpAny_newFunctionEnv S.nocell (by intro y hy;simp at hy) (λ h₁ hns₁ hsb₁=>?_) S.kind);dsimp only at hns₁ hsb₁ ⊢;generalize hH2:s2.heap.push { cls:=.type "list",dict:=none,data:=.seq ([]:List Value).toArray }=G at hns₁ hsb₁ ⊢;have hCs:G.objs.size=s2.heap.objs.size+1:=by rw [<-hH2,Heap.size_push]
 have hDC:s2.heap.objs.size≠G.objs.size:=by omega
 have hCle:s2.heap.objs.size<=G.objs.size:=by omega
 have old:∀ b o,s2.heap.get? b=some o->h₁.get? b=some o:=λ b o e=>hsb₁.extBut b o (Nat.ne_of_lt (Nat.lt_of_lt_of_le (Heap.lt_size e) hCle)) (Heap.get?_push_of_some _ (hH2 ▸ Heap.get?_push_of_some _ e));have hacc:h₁.get? s2.heap.objs.size=some { cls:=.type "list",dict:=none,data:=.seq ([]:List Value).toArray }:=hsb₁.extBut _ _ hDC (Heap.get?_push_of_some _ (hH2 ▸ Heap.get?_push_size _ rfl));have new:ObjOk X.prog X.w (upd H2 s2.heap.objs.size (.lst [])) h₁ s2.heap.objs.size (.lst []):=⟨Nat.zero_le _,[],_,.nil,hacc⟩;have I4:=bM (js:=js) (Nc:=Nc) (tk:=s2.toks+([]:List (Str×Value)).length) I2 S f2 hlt cap hCle (Nat.le_refl _) hDC old hns₁ new;have hn:H2 s2.heap.objs.size=none:=I2.fresh
 have f4:∀ b∈fp,zE (cxC X Nc sc G.objs.size s2 H2 fp pins) [] (upd H2 s2.heap.objs.size (.lst [])) b:=λ b hb=>by
  obtain ⟨h0,h1,h2,h3,h4,h5⟩:=f2 b hb;refine ⟨?_,Nat.ne_of_lt (Nat.lt_of_lt_of_le (hlt b hb) hCle),λ z=>?_,.inl hb,λ x c z=>?_,λ p hp=>?_⟩
  ·rw [kO (Nat.ne_of_lt (hlt b hb))];exact h0
  ·rcases mem_cons.mp (I2.stkSub b z) with q | q
   ·exact h1 q
   ·exact h2 q
  ·exact h4 x c (uX sc.names [] (λ z=>nomatch z) z)
  ·rcases mem_append.mp hp with z | z
   ·exact h5 p z
   ·exact absurd z (by simp)
 have st4:tn 0 h₁:=T.keep _ _ _ st2 λ b hb o e=>old b o e
 have loop:codeAny (model X.prog X.w) X.A (.compLoop (.ListComp el [⟨tg,iter,[],0⟩,⟨tg2,iter2,ifs2,0⟩] sc pos) 0 (.ref it) (.ref s2.heap.objs.size) (compEnvC sc (zJ sc X.env) G.objs.size X.env))
   (compPost (model X.prog X.w) X.A X.xe none (EP X pins σ Q) (.ref s2.heap.objs.size) G.objs.size) { s2 with heap:=h₁,toks:=s2.toks+([]:List (Str×Value)).length }:=by
  refine zS (X:=cxC X Nc sc G.objs.size s2 H2 fp pins) (.inl ⟨el,rfl⟩) hx hc (kEJ _ _ _ _ _ _ _ _ _ _ _ _) T (hg _ _ _ _ _)
   (kFK (X:=cxC X Nc sc G.objs.size s2 H2 fp pins) rfl hx hc (hi2 _ _ _ _ _) (hg2 _ _ _ _ _) (λ L=>hb _ _ _ _ _ _ L) (hs2 _ _ _ _ _)) I4 st4 f4 (hw _ hn) λ σ' H' s' I' q=>?_
  obtain ⟨m',hm',_⟩:=I'.loc;exact ⟨m',hm',λ h' hs'=>⟨.ref s2.heap.objs.size,H',bN I2 f2 hCle I' hs',rfl,q⟩⟩
 exact yW (.inl ⟨el,rfl⟩) rfl rfl loop (T.self _ _ _ _ _ st4 loop)
end
open AutoSeq1 (wpAny_loadPart')
theorem kCF (l:Addr) (items:Array Value) (n:Nat) (dd:Option Addr) (sl:Array (Option Value)) (x:Value) (e:Value->Bool) (j:Nat) (hj:j<items.size) (hit:e items[j]=true) (hno:∀ m (hm:m<items.size),m<j->e items[m]=false) :
  Meets (Builtin.«tuple.index» ⟨[.ref l,x],[]⟩) (λ A R s=>s.heap.get? l=some { cls:=.type "tuple",dict:=dd,data:=.seq items n,slots:=sl }/\(∀ y,y∈items->SeqAt.EqAt A.in1 s y x (e y))/\R (.ok (.ret (.int j s.toks))) { s with toks:=s.toks+1 }) :=
 .of_wp λ prog w A R s h=>by
  obtain ⟨hp,g,d,tk,os⟩:=s;obtain ⟨hl,he,h⟩:=h
  wp_walk using wpAny_loadPart' hl
  have hR:∀ (f:Nat->Option PySem.Fin×PUnit->Sem (ForInStep (Option PySem.Fin×PUnit))) (Q:Option PySem.Fin×PUnit->Shared->Prop) (E:Value->Shared->Prop) (s0:Shared),
    wpAny (model prog w) A.in1 (forIn (List.range' 0 items.size) ((none:Option PySem.Fin),PUnit.unit) f) Q E s0->wpAny (model prog w) A.in1 (forIn [:min items.size items.size] ((none:Option PySem.Fin),PUnit.unit) f) Q E s0:=λ f Q E s0 z=>by
   rw [Std.Legacy.Range.forIn_eq_forIn_range'];simpa [Std.Legacy.Range.size] using z
  refine hR (λ i __s=>match items[i]? with
      | some y=>do
       if <-eqBool y x then do
         let r <-retInt (i:Nat)
         pure (ForInStep.done (some r,()))
        else pure (ForInStep.yield (none,()))
      | _=>pure (ForInStep.yield (none,()))) _ _ _ ?_
  refine wpAny_forIn_list _ (λ rest b s'=>b.1=none/\s'=⟨hp,g,d,tk,os⟩/\∃ i,i<=j/\rest=List.range' i (items.size-i)) _ ?_ ?_ _ _ ⟨rfl,rfl,0,Nat.zero_le _,by simp⟩
  ·rintro y rest b s' ⟨hb,rfl,i,hi,er⟩
   have hlt:i<items.size:=by omega
   rw [show items.size-i=(items.size-(i+1))+1 by omega,List.range'_succ] at er;injection er with e1 e2
   subst e1;have hg:items[y]?=some items[y]:=by simp [hlt]
   simp only [hg];refine wpAny_bind (he _ (Array.getElem_mem hlt) prog w _ _ ?_);by_cases c:y=j
   ·subst c
    rw [hit]
    wp_walk
    exact ⟨_,rfl,h⟩
   ·rw [hno y hlt (by omega)]
    wp_walk
    exact ⟨rfl,rfl,y+1,by omega,e2⟩
  ·rintro b s' ⟨hb,rfl,i,hi,er⟩
   have:List.length ([]:List Nat)=items.size-i:=by rw [er,List.length_range']
   simp at this;omega
section
variable {X:Cx}
def kIC (K:PySem.W.Frag):V->List V->Hp->VK->Prop:=λ x vs H Q=>∃ (l:Addr) (ns:List Int) (n:Int) (j:Nat),x=.ref l/\vs=[.int n]/\SqT K H l (ns.map V.int)/\fH ns n j/\Q (.int j) H
theorem uM:MtM X "tuple.index" (kIC X.K):=by
 intro pins s σ H x vs v us Q I rx rv h;obtain ⟨l,ns,n,j,rfl,rfl,hH,hj,q⟩:=h;cases rx
 obtain ⟨u,rfl,t,rfl⟩:=rv.one;obtain ⟨its,r,⟨⟨cls,dd,dt,sl⟩,ho,hc,m,hd⟩,hz⟩:=I.tuple hH;simp only at hc hd;subst hc hd;obtain ⟨h1,h2,h3⟩:=mO r hj;refine call_meets F.slot_tuple_index ⟨_,ho,rfl⟩ F.entry_tuple_index (F.args_tuple_index_2 _ _) (kCF l its.toArray m dd sl (.int n t) (gS n) j h1 h2 h3) ⟨ho,λ y hy=>(aR r n t y hy).at _ _,?_⟩;exact ⟨.int j,H,I.tok _,⟨_,rfl⟩,q⟩
end
end L2
namespace L2
open PySem PySem.Spec PyProof.Rows
theorem fD {X:Cx} {st:Stmt}:PS X st (λ _ _ _=>False):=λ _ _ _ _ _ _ h=>h.elim
section
variable {X:Cx} {tg iter kx vx:Expr} {ifs:List Expr} {sc:Scope} {pos:Pos} {Nc:List Str} {js:List (Option Nat)} {wi:TI}
def kBF (kx vx:Expr) (env:Env) (acc:Value):Sem Unit:=do
 let kv <-eval kx env
 let vv <-holding [kv] (eval vx env)
 match acc with
 | .ref d=>do
  standAt (have __src:=kx.pos;{ line:=__src.line,col:=__src.col,endLine:=vx.pos.endLine,endCol:=vx.pos.endCol })
  holding [kv,vv] (dictSet d kv vv)
 | _=>unsupported "internal:dictcomp"
theorem kHO (kx vx tg iter:Expr) (ifs:List Expr) (sc:Scope) (pos:Pos) (it acc:Value) (env:Env) :
  compTurn (.DictComp kx vx [⟨tg,iter,ifs,0⟩] sc pos) 0 it acc env=(standAt iter.pos >>= λ _=>pyNext it >>= λ r=>match r with
   | none=>pure (.done .next)
   | some v=>letOwnedTupleGo tg it v >>= λ _=>assign tg env v >>= λ _=>yI ifs env (kBF kx vx env acc) (.compLoop (.DictComp kx vx [⟨tg,iter,ifs,0⟩] sc pos) 0 it acc env)):=by rfl
theorem bQ {prog:Program} {w:World} {A:Around} {E:Value->Shared->Prop} {s:Shared} {t sl:Addr} {items:Array Value} {vl vu:Value} {lo hi:Option Int} {Q:Value->Shared->Prop} (ht:IsTup s.heap t items) (hs:s.heap.IsSliceOf sl vl vu .none) (pl:IsPart vl lo) (pu:IsPart vu hi)
  (hw:HT.sIx items.size 0 lo=0/\HT.sIx items.size items.size hi=items.size) (h:Q (.ref t) s):wpAny (model prog w) A (getItem (.ref t) (.ref sl)) Q E s:=by
 obtain ⟨os,hos,hcs,hds⟩:=id hs;have hTs:s.TypeIs (.ref sl) "slice":=⟨os,hos,hcs⟩;unfold getItem
 try with_reducible refine wpAny_holding ?_
 first | refine wpAny_bind (wpAny_pure ?_) | skip
 refine wpAny_bind (wpAny_sequenceKey ht.typeIs (by decide) ?_)
 refine wpAny_bind (wpAny_callSpecial?_slot (name:=Str.ofString "__getitem__") ht.typeIs PyProof.Rows.slot_tuple_getitem
  (wpAny_call_entry PyProof.Rows.slot_tuple_getitem ht.typeIs entry_tuple_getitem ?_ (args_tuple_getitem _ _)))
 show wpAny _ _ (Builtin.Tuple.tupleItemsOf (.ref t) >>= _) _ _ s;refine wpAny_bind (tupleItemsOf_ ht ?_);refine wpAny_bind (wpAny_typeOf hTs ?_);rw [if_pos (by decide)];refine wpAny_bind (HT.sliceApplied_gen hs pl pu ?_);show wpAny _ _ (if (((HT.sIx items.size 0 lo:Nat):Int) == 0 && (1:Int) == 1 && (HT.sIx items.size items.size hi-HT.sIx items.size 0 lo) == items.size)=true then _ else _) _ _ s;rw [if_pos (by rw [hw.1,hw.2];simp)];unfold Builtin.Tuple.tupleIsExact
 first
  | refine wpAny_bind (wpAny_bind (wpAny_typeOf ht.typeIs (wpAny_pure ?_)))
  | refine wpAny_bind (wpAny_typeOf ht.typeIs (wpAny_pure ?_))
 rw [if_pos (by decide)];exact wpAny_bind (wpAny_rule (wpAny_pure ⟨_,rfl,wpAny_pure h⟩))
def kMR (K:PySem.W.Frag):V->Option Int->Option Int->Hp->VK->Prop:=λ x lo hi H Q=>∃ a xs,x=.ref a/\SqT K H a xs /\
 (HT.sIx xs.length 0 lo=0/\HT.sIx xs.length xs.length hi=xs.length)/\Q (.ref a) H
theorem kHV:SlR X (kMR X.K):=by
 intro pins s σ H x v vl vu lo hi sl Q I rx hs pl pu h;obtain ⟨a,xs,rfl,hx,hw,q⟩:=h;cases rx
 obtain ⟨its,r,ht,hz⟩:=I.tuple hx;have hlen:its.toArray.size=xs.length:=by rw [size_toArray];exact r.length.symm
 refine ⟨"tuple",_,PyProof.Rows.slot_tuple_getitem.lookup,ht.typeIs,?_⟩;exact bQ ht hs pl pu (by rw [hlen];exact hw) ⟨.ref a,H,I,rfl,q⟩
def kOG (K:PySem.W.Frag):V->Option Int->Option Int->Hp->VK->Prop:=λ x lo hi H Q=>kKV K x lo hi H Q\/kMR K x lo hi H Q
theorem nK:SlR X (kOG X.K):=sl_tup.or kHV
end
end L2
namespace Cyc
def Adj:List Nat->Nat->Nat->Prop
 | x::y::r,a,b=>(a=x/\b=y)\/Adj (y::r) a b
 | _,_,_=>False
def Nx (row:List Nat) (a b:Nat):Prop:=Adj (row++row.head?.toList) a b
theorem kBS (x a b:Nat):¬ Adj [x] a b:=id
theorem uQ (x y:Nat) (r:List Nat) (a b:Nat):Adj (x::y::r) a b↔(a=x/\b=y)\/Adj (y::r) a b:=Iff.rfl
theorem qZ:∀ (l:List Nat) (x:Nat) (r:List Nat) (a b:Nat),Adj (l++x::r) a b↔Adj (l++[x]) a b\/Adj (x::r) a b
 | [],x,r,a,b=>⟨.inr,λ h=>h.elim (λ z=>(kBS x a b z).elim) id⟩
 | [y],x,r,a,b=>by
  show (a=y/\b=x)\/Adj (x::r) a b↔((a=y/\b=x)\/Adj [x] a b)\/Adj (x::r) a b;have:=kBS x a b;exact ⟨λ h=>h.elim (λ z=>.inl (.inl z)) .inr,λ h=>h.elim (λ z=>z.elim .inl λ q=>(this q).elim) .inr⟩
 | y::z::l,x,r,a,b=>by
  have ih:=qZ (z::l) x r a b;show (a=y/\b=z)\/Adj (z::l++x::r) a b↔((a=y/\b=z)\/Adj (z::l++[x]) a b)\/Adj (x::r) a b;rw [ih];exact ⟨λ h=>h.elim (λ q=>.inl (.inl q)) λ q=>q.elim (λ q=>.inl (.inr q)) .inr,λ h=>h.elim (λ q=>q.elim .inl λ q=>.inr (.inl q)) λ q=>.inr (.inr q)⟩
theorem vQ:∀ {l:List Nat} {a b:Nat},Adj l a b->a∈l/\b∈l.tail
 | [],_,_,h=>h.elim
 | [_],_,_,h=>h.elim
 | x::y::r,a,b,h=>by
  rcases h with ⟨rfl,rfl⟩ | h
  ·exact ⟨mem_cons_self,mem_cons_self⟩
  ·have:=vQ h
   exact ⟨mem_cons_of_mem _ this.1,mem_cons_of_mem _ this.2⟩
theorem kAT (x:Nat) (r:List Nat) (a b:Nat):Nx (x::r) a b↔Adj (x::r++[x]) a b:=Iff.rfl
theorem xM (A C:List Nat) (a b:Nat):Nx (A++C) a b↔Nx (C++A) a b:=by
 cases A with
 | nil=>rw [nil_append,append_nil]
 | cons a0 A' =>
  cases C with
  | nil=>rw [nil_append,append_nil]
  | cons c0 C' =>
   have e1:Nx (a0::A'++c0::C') a b↔Adj ((a0::A')++c0::(C'++[a0])) a b:=by
    show Adj ((a0::A'++c0::C')++[a0]) a b↔_;rw [append_assoc];exact Iff.rfl
   have e2:Nx (c0::C'++a0::A') a b↔Adj ((c0::C')++a0::(A'++[c0])) a b:=by
    show Adj ((c0::C'++a0::A')++[c0]) a b↔_;rw [append_assoc];exact Iff.rfl
   rw [e1,e2,qZ (a0::A') c0,qZ (c0::C') a0];exact Or.comm
theorem bF (v:Nat) (R:List Nat) (a b:Nat):Nx (v::R) a b↔(a=v/\b=(R++[v]).headD 0)\/Adj (R++[v]) a b:=by
 rw [kAT]
 cases R with
 | nil=>exact Iff.rfl
 | cons y r=>exact Iff.rfl
theorem jP:∀ {R:List Nat} {v a b:Nat},v∉R->Adj (R++[v]) a b->a≠v
 | [],_,_,_,_,h=>h.elim
 | x::r,v,a,b,hv,h=>by
  have hv':v∉r:=λ z=>hv (mem_cons_of_mem _ z);have hx:x≠v:=λ z=>hv (by rw [z];exact mem_cons_self)
  cases r with
  | nil =>
   rcases h with ⟨rfl,_⟩ | h
   ·exact hx
   ·exact h.elim
  | cons y r' =>
   rcases h with ⟨rfl,_⟩ | h
   ·exact hx
   ·exact jP hv' h
theorem kLJ {A B:List Nat} {v w:Nat} (nd:(A++v::B).Nodup) (hw:w∉A++v::B) (a b:Nat) :
  Nx (A++v::w::B) a b↔(a=v/\b=w)\/(a=w/\Nx (A++v::B) v b)\/(a≠v/\Nx (A++v::B) a b):=by
 rw [xM A (v::w::B),xM A (v::B),xM A (v::B)];simp only [cons_append]
 have nv:v∉B++A:=λ z=>by
  rw [nodup_append] at nd;rcases mem_append.mp z with z | z
  ·exact (nodup_cons.mp nd.2.1).1 z
  ·exact nd.2.2 v z v mem_cons_self rfl
 have nw:w≠v:=λ z=>hw (by rw [z];simp);generalize hR:B++A=R at nv;rw [bF,bF,bF];have e1:(w::R++[v]).headD 0=w:=rfl
 have e2:Adj (w::R++[v]) a b↔(a=w/\b=(R++[v]).headD 0)\/Adj (R++[v]) a b:=by
  cases R with
  | nil=>exact Iff.rfl
  | cons y r=>exact Iff.rfl
 rw [e1,e2];constructor
 ·rintro (h | h | h)
  ·exact .inl h
  ·exact .inr (.inl ⟨h.1,.inl ⟨rfl,h.2⟩⟩)
  ·exact .inr (.inr ⟨jP nv h,.inr h⟩)
 ·rintro (h | ⟨h,h'⟩ | ⟨h,h'⟩)
  ·exact .inl h
  ·rcases h' with ⟨_,z⟩ | z
   ·exact .inr (.inl ⟨h,z⟩)
   ·exact (jP nv z rfl).elim
  ·rcases h' with ⟨z,_⟩ | z
   ·exact (h z).elim
   ·exact .inr (.inr z)
theorem dM:∀ {l:List Nat} {a a' b:Nat},l.tail.Nodup->Adj l a b->Adj l a' b->a=a'
 | [],_,_,_,_,h,_=>h.elim
 | [_],_,_,_,_,h,_=>h.elim
 | x::y::r,a,a',b,nd,h,h'=>by
  have nd':(y::r).Nodup:=nd;rcases h with ⟨rfl,rfl⟩ | h
  ·rcases h' with ⟨rfl,_⟩ | h'
   ·rfl
   ·exact ((nodup_cons.mp nd').1 (vQ h').2).elim
  ·rcases h' with ⟨rfl,rfl⟩ | h'
   ·exact ((nodup_cons.mp nd').1 (vQ h).2).elim
   ·exact dM (l:=y::r) (nodup_cons.mp nd').2 h h'
theorem vW {row:List Nat} {v:Nat} (h:v∈row):∃ A B,row=A++v::B:=List.append_of_mem h
theorem cK {A B:List Nat} {v:Nat} (nd:(A++v::B).Nodup):v∉B++A/\(B++A).Nodup:=by
 rw [nodup_append] at nd;obtain ⟨n1,n2,n3⟩:=nd;obtain ⟨n4,n5⟩:=nodup_cons.mp n2;refine ⟨λ z=>?_,?_⟩
 ·rcases mem_append.mp z with z | z
  ·exact n4 z
  ·exact n3 v z v mem_cons_self rfl
 ·rw [nodup_append]
  exact ⟨n5,n1,λ a ha b hb e=>n3 b hb a (mem_cons_of_mem _ ha) e.symm⟩
theorem qD {row:List Nat} {a b:Nat} (h:Nx row a b):a∈row/\b∈row:=by
 cases row with
 | nil=>exact h.elim
 | cons x r =>
  have q:=vQ h;constructor
  ·rcases mem_append.mp q.1 with z | z
   ·exact z
   ·exact mem_cons.mpr (.inl (by simpa using z))
  ·rcases mem_append.mp q.2 with z | z
   ·exact mem_cons_of_mem _ z
   ·exact mem_cons.mpr (.inl (by simpa using z))
theorem jT {row:List Nat} {a b b':Nat} (nd:row.Nodup) (h:Nx row a b) (h':Nx row a b'):b=b':=by
 obtain ⟨A,B,rfl⟩:=vW (qD h).1;rw [xM] at h h';simp only [cons_append] at h h';obtain ⟨n1,n2⟩:=cK nd;rw [bF] at h h';rcases h with ⟨_,rfl⟩ | h
 ·rcases h' with ⟨_,rfl⟩ | h'
  ·rfl
  ·exact (jP n1 h' rfl).elim
 ·exact (jP n1 h rfl).elim
theorem xC {row:List Nat} {a a' b:Nat} (nd:row.Nodup) (h:Nx row a b) (h':Nx row a' b):a=a':=by
 obtain ⟨A,B,rfl⟩:=vW (qD h).2;rw [xM] at h h';simp only [cons_append] at h h';obtain ⟨n1,n2⟩:=cK nd;rw [kAT] at h h';refine dM ?_ h h';show (B++A++[b]).Nodup;rw [nodup_append];exact ⟨n2,by simp,λ x hx y hy e=>n1 (by simp at hy;rw [<-hy,<-e];exact hx)⟩
end Cyc
namespace Tri
open Cyc
abbrev Rows:=List (List Nat)
def R (L:Rows) (q a b:Nat):Prop:=∃ row,L[q]?=some row/\Nx row a b
def E (L:Rows) (a b:Nat):Prop:=∃ row,L[a]?=some row/\b∈row
inductive Reach (L:Rows):Nat->Nat->Prop
 | here (a:Nat):Reach L a a
 | more {a b c:Nat}:Reach L a b->E L b c->Reach L a c
theorem Reach.trans {L:Rows} {a b c:Nat} (h:Reach L a b) (h':Reach L b c):Reach L a c:=by
 induction h' with
 | here=>exact h
 | more _ e ih=>exact .more ih e
theorem Reach.by {L L':Rows} (h:∀ a b,E L a b->Reach L' a b) {a b:Nat} (r:Reach L a b):Reach L' a b:=by
 induction r with
 | here=>exact .here _
 | more _ e ih=>exact ih.trans (h _ _ e)
structure Good (L:Rows):Prop where
 three:3<=L.length
 ne:∀ (p:Nat) (row:List Nat),L[p]?=some row->row≠[]
 nd:∀ (p:Nat) (row:List Nat),L[p]?=some row->row.Nodup
 rng:∀ (p:Nat) (row:List Nat) (a:Nat),L[p]?=some row->a∈row->a<L.length/\a≠p
 tri:∀ q a b,R L q a b->R L a b q
 con:∀ p,p<L.length->Reach L 0 p
 tot:(L.map List.length).sum+12=6*L.length
theorem kMP {L:Rows} {row:List Nat} (x a b:Nat):R (L++[row]) x a b↔R L x a b\/(x=L.length/\Nx row a b):=by
 unfold R;rcases Nat.lt_trichotomy x L.length with h | h | h
 ·rw [List.getElem?_append_left h]
  constructor
  ·exact .inl
  ·rintro (z | ⟨z,_⟩)
   ·exact z
   ·omega
 ·subst h
  rw [List.getElem?_append_right (Nat.le_refl _),List.getElem?_eq_none (Nat.le_refl _)];simp
 ·rw [List.getElem?_eq_none (by simp;omega),List.getElem?_eq_none (by omega)]
  constructor
  ·rintro ⟨_,z,_⟩;cases z
  ·rintro (⟨_,z,_⟩ | ⟨z,_⟩)
   ·cases z
   ·omega
theorem oS {L:Rows} {q a b:Nat} (h:R L q a b):E L q a/\E L q b:=by
 obtain ⟨row,e,n⟩:=h;exact ⟨⟨row,e,(qD n).1⟩,⟨row,e,(qD n).2⟩⟩
theorem kFH {L:Rows} (G:Good L) {q a b:Nat} (h:R L q a b):q<L.length/\a<L.length/\b<L.length/\a≠q/\b≠q:=by
 obtain ⟨row,e,n⟩:=h;have m:=qD n;have:=G.rng q row a e m.1;have:=G.rng q row b e m.2;have:q<L.length:=(List.getElem?_eq_some_iff.mp e).1;omega
theorem lZ {row:List Nat} {b:Nat} (h:b∈row):∃ a,Nx row a b:=by
 obtain ⟨A,B,rfl⟩:=vW h
 have key:∀ (R:List Nat),∃ a,Nx (b::R) a b:=by
  intro R
  cases R with
  | nil=>exact ⟨b,.inl ⟨rfl,rfl⟩⟩
  | cons y r =>
   have:∀ (r:List Nat) (y:Nat),∃ a,Adj (y::r++[b]) a b:=by
    intro r
    induction r with
    | nil=>intro y;exact ⟨y,.inl ⟨rfl,rfl⟩⟩
    | cons z r ih=>intro y;obtain ⟨a,q⟩:=ih z;exact ⟨a,.inr q⟩
   obtain ⟨a,q⟩:=this r y;exact ⟨a,.inr q⟩
 obtain ⟨a,q⟩:=key (B++A);exact ⟨a,(xM A (b::B) a b).mpr q⟩
theorem vI {row:List Nat} {a:Nat} (h:a∈row):∃ b,Nx row a b:=by
 obtain ⟨A,B,rfl⟩:=vW h;refine ⟨(B++A++[a]).headD 0,(xM A (a::B) _ _).mpr ?_⟩;exact (bF a (B++A) a _).mpr (.inl ⟨rfl,rfl⟩)
theorem Good.sym {L:Rows} (G:Good L) {a b:Nat} (h:E L a b):E L b a:=by
 obtain ⟨row,e,m⟩:=h;obtain ⟨c,n⟩:=vI m;have:=G.tri a b c ⟨row,e,n⟩;exact (oS this).2
def vU (row:List Nat) (v w:Nat):List Nat:=row.take (row.idxOf v+1)++w::row.drop (row.idxOf v+1)
theorem cW {A B:List Nat} {v:Nat} (h:v∉A):(A++v::B).idxOf v=A.length:=by
 rw [List.idxOf_append,if_neg h];simp
theorem vX {row:List Nat} {v:Nat} (h:v∈row) (nd:row.Nodup):∃ A B,row=A++v::B/\v∉A/\v∉B:=by
 obtain ⟨A,B,rfl⟩:=vW h;have q:=cK nd;exact ⟨A,B,rfl,λ z=>q.1 (mem_append_right _ z),λ z=>q.1 (mem_append_left _ z)⟩
theorem oJ {A B:List Nat} {v w:Nat} (h:v∉A):vU (A++v::B) v w=A++v::w::B:=by
 unfold vU;rw [cW h];have e:A++v::B=(A++[v])++B:=by simp
 rw [e,take_left' (by simp),drop_left' (by simp)];simp
theorem kIT {row:List Nat} {v w:Nat} (h:v∈row) (nd:row.Nodup) (hw:w∉row) (a b:Nat):Nx (vU row v w) a b↔(a=v/\b=w)\/(a=w/\Nx row v b)\/(a≠v/\Nx row a b):=by
 obtain ⟨A,B,rfl,hA,hB⟩:=vX h nd;rw [oJ hA];exact kLJ nd hw a b
theorem aU:∀ (L:Rows) (p:Nat) (row new:List Nat),L[p]?=some row->((L.set p new).map List.length).sum+row.length=(L.map List.length).sum+new.length
 | [],p,row,new,h=>by simp at h
 | x::r,0,row,new,h=>by
  simp at h;subst h;simp;omega
 | x::r,p+1,row,new,h=>by
  simp at h;have q:=aU r p row new h;simp only [List.set_cons_succ,map_cons,List.sum_cons];omega
theorem nx3 (p q r a b:Nat):Nx [p,q,r] a b↔(a=p/\b=q)\/(a=q/\b=r)\/(a=r/\b=p):=by
 show ((a=p/\b=q)\/(a=q/\b=r)\/(a=r/\b=p)\/False)↔_;simp
theorem kIV {L:Rows} {p:Nat} {new:List Nat} (hp:p<L.length) {x:Nat} {row:List Nat} (h:(L.set p new)[x]?=some row):(x=p/\row=new)\/(x≠p/\L[x]?=some row):=by
 by_cases e:x=p
 ·subst e
  rw [List.getElem?_set_self hp] at h;exact .inl ⟨rfl,(Option.some.inj h).symm⟩
 ·rw [List.getElem?_set_ne (Ne.symm e)] at h
  exact .inr ⟨e,h⟩
theorem kGW {L:Rows} {row:List Nat} {x b:Nat} (h:E L x b):E (L++[row]) x b:=by
 obtain ⟨r,e,m⟩:=h;exact ⟨r,by rw [List.getElem?_append_left (List.getElem?_eq_some_iff.mp e).1];exact e,m⟩
section
variable {L:Rows} {p q r:Nat} {rp rq rr:List Nat}
end
section
variable {L:Rows} {p q r s:Nat} {rp rq rr rs:List Nat}
end
def jL (row:List Nat) (p:Nat):Option Nat:=if row.idxOf p=0 then row.getLast? else row[row.idxOf p-1]?
theorem vE {row:List Nat} {p v:Nat} (nd:row.Nodup) (hp:p∈row) (h:jL row p=some v):Nx row v p:=by
 obtain ⟨A,B,rfl,hA,hB⟩:=vX hp nd;unfold jL at h;rw [cW hA] at h;by_cases h0:A.length=0
 ·have:A=[]:=length_eq_zero_iff.mp h0
  subst this;rw [if_pos h0,nil_append] at h;show Adj (p::B++[p]) v p
  have e:p::B=(p::B).dropLast++[v]:=by
   rw [List.getLast?_eq_some_getLast (List.cons_ne_nil p B)] at h;rw [<-Option.some.inj h];exact (dropLast_concat_getLast (List.cons_ne_nil p B)).symm
  rw [e,append_assoc];exact (qZ _ v [p] v p).mpr (.inr (.inl ⟨rfl,rfl⟩))
 ·rw [if_neg h0] at h
  rw [List.getElem?_append_left (by omega)] at h;have ne:A≠[]:=λ z=>h0 (by rw [z];rfl)
  have e:A=A.dropLast++[v]:=by
   have z:A.getLast?=some v:=by rw [List.getLast?_eq_getElem?];exact h
   rw [List.getLast?_eq_some_getLast ne] at z;rw [<-Option.some.inj z];exact (dropLast_concat_getLast ne).symm
  rw [e,append_assoc];rw [xM];show Nx (v::(p::B)++A.dropLast) v p;exact .inl ⟨rfl,rfl⟩
theorem fE {row:List Nat} {p:Nat} (hp:p∈row):∃ v,jL row p=some v:=by
 have hl:=idxOf_lt_length_of_mem hp;unfold jL
 split
 ·have ne:row≠[]:=λ z=>by rw [z] at hp;cases hp
  exact ⟨_,List.getLast?_eq_some_getLast ne⟩
 ·exact ⟨_,List.getElem?_eq_getElem (show row.idxOf p-1<row.length by omega)⟩
end Tri
namespace Rnd
open Cyc Tri
section
variable {α:Type} [DecidableEq α]
def it (f:α->α):Nat->α->α
 | 0,x=>x
 | n+1,x=>f (it f n x)
theorem aH (f:α->α) (m n:Nat) (x:α):it f (m+n) x=it f m (it f n x):=by
 induction m with
 | zero=>rw [Nat.zero_add];rfl
 | succ m ih=>rw [Nat.succ_add];show f _=f _;rw [ih]
structure Perm (f:α->α) (S:List α):Prop where
 to:∀ x,x∈S->f x∈S
 one:∀ x y,x∈S->y∈S->f x=f y->x=y
theorem Perm.it {f:α->α} {S:List α} (h:Perm f S) (n:Nat) {x:α} (hx:x∈S):it f n x∈S:=by
 induction n with
 | zero=>exact hx
 | succ n ih=>exact h.to _ ih
theorem Perm.back {f:α->α} {S:List α} (h:Perm f S) (n:Nat) {x y:α} (hx:x∈S) (hy:y∈S) (e:Rnd.it f n x=Rnd.it f n y):x=y:=by
 induction n with
 | zero=>exact e
 | succ n ih=>exact ih (h.one _ _ (h.it n hx) (h.it n hy) e)
theorem cR {f:Nat->α}:∀ (n:Nat),(∀ i j,i<j->j<n->f i≠f j)->((List.range n).map f).Nodup
 | 0,_=>by simp
 | n+1,h=>by
  rw [range_succ,map_append,nodup_append];refine ⟨cR n λ i j a b=>h i j a (by omega),by simp,λ a ha b hb=>?_⟩;obtain ⟨i,hi,rfl⟩:=mem_map.mp ha;have:b=f n:=by simpa using hb
  subst this;exact h i n (mem_range.mp hi) (by omega)
theorem Perm.comes {f:α->α} {S:List α} (h:Perm f S) {x:α} (hx:x∈S):∃ k,0<k/\k<=S.length/\Rnd.it f k x=x/\∀ j,0<j->j<k->Rnd.it f j x≠x:=by
 have some:∃ k,0<k/\k<=S.length/\Rnd.it f k x=x:=by
  refine Classical.byContradiction λ no=>?_
  have nd:((List.range (S.length+1)).map λ i=>Rnd.it f i x).Nodup:=cR _ λ i j hij hj e=>by
   refine no ⟨j-i,by omega,by omega,?_⟩
   have e2:Rnd.it f i (Rnd.it f (j-i) x)=Rnd.it f i x:=by
    rw [<-aH,show i+(j-i)=j by omega];exact e.symm
   exact h.back i (h.it _ hx) hx e2
  have le:=List.Nodup.length_le_of_subset nd (l₂:=S) λ y hy=>by
   obtain ⟨i,_,rfl⟩:=mem_map.mp hy;exact h.it i hx
  rw [length_map,length_range] at le;omega
 obtain ⟨k0,p0,l0,e0⟩:=some
 have kAU:∀ n,(∃ k,0<k/\k<=n/\Rnd.it f k x=x)->∃ k,0<k/\k<=n/\Rnd.it f k x=x/\∀ j,0<j->j<k->Rnd.it f j x≠x:=λ n=>by
  induction n with
  | zero=>rintro ⟨k,a,b,_⟩;omega
  | succ n ih =>
   intro hk;by_cases c:∃ k,0<k/\k<=n/\Rnd.it f k x=x
   ·obtain ⟨k,a,b,e,m⟩:=ih c
    exact ⟨k,a,by omega,e,m⟩
   ·obtain ⟨k,a,b,e⟩:=hk
    refine ⟨k,a,b,e,λ j j0 jk ej=>c ⟨j,j0,by omega,ej⟩⟩
 exact kAU S.length ⟨k0,p0,l0,e0⟩
theorem Perm.round_nodup {f:α->α} {S:List α} (h:Perm f S) {x:α} (hx:x∈S) {k:Nat} (m:∀ j,0<j->j<k->Rnd.it f j x≠x):((List.range k).map λ i=>Rnd.it f i x).Nodup:=cR _ λ i j hij hj e=>by
 refine m (j-i) (by omega) (by omega) ?_
 have e2:Rnd.it f i (Rnd.it f (j-i) x)=Rnd.it f i x:=by
  rw [<-aH,show i+(j-i)=j by omega];exact e.symm
 exact h.back i (h.it _ hx) hx e2
end
def kS (W:Rows):List (Nat×Nat):=(List.range W.length).flatMap λ p=>(W.getD p []).map λ q=>(p,q)
theorem mem_steps {W:Rows} {p q:Nat}:(p,q)∈kS W↔E W p q:=by
 unfold kS E;rw [List.mem_flatMap];constructor
 ·rintro ⟨p',hp,h⟩
  obtain ⟨q',hq,e⟩:=mem_map.mp h;cases e
  have hl:=mem_range.mp hp;refine ⟨W[p],List.getElem?_eq_getElem hl,?_⟩;simpa [getD_eq_getElem?_getD,hl] using hq
 ·rintro ⟨row,e,h⟩
  have hl:=(List.getElem?_eq_some_iff.mp e).1;refine ⟨p,mem_range.mpr hl,mem_map.mpr ⟨q,?_,rfl⟩⟩;rw [getD_eq_getElem?_getD,e];exact h
def nxt (W:Rows) (s:Nat×Nat):Nat×Nat:=(s.2,(jL (W.getD s.2 []) s.1).getD 0)
theorem kFL {row:List Nat} {p v:Nat} (nd:row.Nodup) (hp:p∈row) (h:jL row p=some v):v∈row:=(qD (vE nd hp h)).1
theorem gE {W:Rows} (nd:∀ (p:Nat) (row:List Nat),W[p]?=some row->row.Nodup) (sym:∀ a b,E W a b->E W b a):Perm (nxt W) (kS W):=by
 have look:∀ p q,(p,q)∈kS W->∃ row v,W[q]?=some row/\p∈row/\jL row p=some v/\nxt W (p,q)=(q,v)/\Nx row v p:=λ p q h=>by
  obtain ⟨row,e,m⟩:=sym p q (mem_steps.mp h);obtain ⟨v,hv⟩:=fE m;refine ⟨row,v,e,m,hv,?_,vE (nd q row e) m hv⟩;unfold nxt;rw [getD_eq_getElem?_getD,e];show (q,(jL row p).getD 0)=(q,v);rw [hv]
  rfl
 refine ⟨λ s h=>?_,λ s t hs ht e=>?_⟩
 ·obtain ⟨p,q⟩:=s
  obtain ⟨row,v,e1,e2,e3,e4,e5⟩:=look p q h;rw [e4];exact mem_steps.mpr ⟨row,e1,(qD e5).1⟩
 ·obtain ⟨p,q⟩:=s
  obtain ⟨p',q'⟩:=t;obtain ⟨row,v,e1,e2,e3,e4,e5⟩:=look p q hs;obtain ⟨row',v',f1,f2,f3,f4,f5⟩:=look p' q' ht;rw [e4,f4] at e;have eq:q=q':=congrArg Prod.fst e;have ev:v=v':=congrArg Prod.snd e;subst eq ev;rw [e1] at f1;cases f1
  rw [jT (nd q row e1) e5 f5]
end Rnd
namespace Tri
section
variable {R R':Nat->Nat->Nat->Prop} {N N' K:Nat->Nat->Prop} {inP:Nat->Prop} {f l w:Nat}
structure Put (R R':Nat->Nat->Nat->Prop) (N N' K:Nat->Nat->Prop) (inP:Nat->Prop) (f l w:Nat):Prop where
 n':∀ a b,N' a b↔(a=f/\b=w)\/(a=w/\b=l)\/(N a b/\(¬ inP a\/a=l))
 r':∀ q a b,R' q a b↔(q=w/\(K a b\/(a=l/\b=f)))\/(inP q/\N q a/\b=w)\/(inP q/\a=w/\N b q)\/(R q a b/\¬ (inP q/\N q a))
 fl:f≠l
 pf:inP f
 pl:inP l
 k:∀ a b,K a b->N a b/\inP a/\inP b/\a≠l/\b≠f
 ka:∀ a b,inP a->a≠l->N a b->K a b
 kb:∀ a b,inP b->b≠f->N a b->K a b
 nf:∀ a b,N a b->a≠w/\b≠w
 rf:∀ q a b,R q a b->q≠w/\a≠w/\b≠w
 wP:¬ inP w
 n1:∀ a b b',N a b->N a b'->b=b'
 n2:∀ a a' b,N a b->N a' b->a=a'
 ex:∀ a,inP a->∃ b,N b a
theorem Put.out (h:Put R R' N N' K inP f l w) (out:∀ q a b,N q a->N b q->R q a b):∀ q a b,N' q a->N' b q->R' q a b:=by
 intro q a b h1 h2;rw [h.n'] at h1 h2;rw [h.r'];rcases h1 with ⟨rfl,rfl⟩ | ⟨rfl,rfl⟩ | ⟨h1,h3⟩
 ·rcases h2 with ⟨_,e⟩ | ⟨_,e⟩ | ⟨h2,_⟩
  ·exact absurd (e ▸ h.pf) h.wP
  ·exact absurd e h.fl
  ·exact .inr (.inr (.inl ⟨h.pf,rfl,h2⟩))
 ·rcases h2 with ⟨rfl,_⟩ | ⟨_,e⟩ | ⟨h2,_⟩
  ·exact .inl ⟨rfl,.inr ⟨rfl,rfl⟩⟩
  ·exact absurd (e ▸ h.pl) h.wP
  ·exact absurd rfl (h.nf _ _ h2).2
 ·rcases h2 with ⟨_,e⟩ | ⟨rfl,rfl⟩ | ⟨h2,h4⟩
  ·exact absurd e (h.nf _ _ h1).1
  ·exact .inr (.inl ⟨h.pl,h1,rfl⟩)
  ·rcases h3 with h3 | rfl
   ·exact .inr (.inr (.inr ⟨out _ _ _ h1 h2,λ z=>h3 z.1⟩))
   ·obtain ⟨_,k1,_,k2,_⟩:=h.k _ _ (h.kb _ _ h.pl h.fl.symm h2)
    rcases h4 with h4 | h4
    ·exact absurd k1 h4
    ·exact absurd h4 k2
theorem Put.tri (h:Put R R' N N' K inP f l w) (tri:∀ q a b,R q a b->¬ N q a->R a b q/\¬ N a b):∀ q a b,R' q a b->¬ N' q a->R' a b q/\¬ N' a b:=by
 intro q a b h1 h2;rw [h.n'] at h2 ⊢;rw [h.r'] at h1 ⊢;have fw:f≠w:=λ e=>h.wP (e ▸ h.pf);have lw:l≠w:=λ e=>h.wP (e ▸ h.pl);rcases h1 with ⟨rfl,h1 | ⟨rfl,rfl⟩⟩ | ⟨h1,h3,rfl⟩ | ⟨h1,rfl,h3⟩ | ⟨h1,h3⟩
 ·obtain ⟨k1,k2,k3,k4,k5⟩:=h.k _ _ h1
  refine ⟨.inr (.inl ⟨k2,k1,rfl⟩),?_⟩;rintro (⟨rfl,e⟩ | ⟨e,_⟩ | ⟨_,e | e⟩)
  ·exact (h.nf _ _ k1).2 e
  ·exact (h.nf _ _ k1).1 e
  ·exact e k2
  ·exact k4 e
 ·exact absurd (.inr (.inl ⟨rfl,rfl⟩)) h2
 ·have ql:q≠l:=λ e=>h2 (.inr (.inr ⟨h3,.inr e⟩))
  obtain ⟨k1,k2,k3,k4,k5⟩:=h.k _ _ (h.ka _ _ h1 ql h3);refine ⟨.inr (.inr (.inl ⟨k3,rfl,h3⟩)),?_⟩;rintro (⟨e,_⟩ | ⟨e,_⟩ | ⟨e,_⟩)
  ·exact k5 e
  ·exact (h.nf _ _ h3).2 e
  ·exact (h.nf _ _ e).2 rfl
 ·have qf:q≠f:=λ e=>h2 (.inl ⟨e,rfl⟩)
  have kk:=h.kb _ _ h1 qf h3;obtain ⟨k1,k2,k3,k4,k5⟩:=h.k _ _ kk;refine ⟨.inl ⟨rfl,.inl kk⟩,?_⟩;rintro (⟨e,_⟩ | ⟨_,e⟩ | ⟨e,_⟩)
  ·exact fw e.symm
  ·exact k4 e
  ·exact (h.nf _ _ e).1 rfl
 ·obtain ⟨r1,r2,r3⟩:=h.rf _ _ _ h1
  have nn:¬ N q a:=λ e=>by
   by_cases p:inP q
   ·exact h3 ⟨p,e⟩
   ·exact h2 (.inr (.inr ⟨e,.inl p⟩))
  obtain ⟨t1,t2⟩:=tri _ _ _ h1 nn;refine ⟨.inr (.inr (.inr ⟨t1,λ z=>t2 z.2⟩)),?_⟩;rintro (⟨_,e⟩ | ⟨e,_⟩ | ⟨e,_⟩)
  ·exact r3 e
  ·exact r2 e
  ·exact t2 e
end
open Cyc
section
variable {A M C:List Nat} {f l w:Nat}
theorem nxP (M:List Nat) (f l a b:Nat):Nx (f::M++[l]) a b↔Adj (f::M++[l]) a b\/(a=l/\b=f):=by
 show Adj (f::M++[l]++[f]) a b↔_;rw [show f::M++[l]++[f]=(f::M)++l::[f] by simp,qZ];simp only [Adj,or_false]
theorem nxO (a b:Nat):Nx (A++(f::M++[l])++C) a b↔Adj (f::M++[l]) a b\/Adj (l::(C++A)++[f]) a b:=by
 rw [show A++(f::M++[l])++C=A++(f::M++l::C) by simp,xM];show Adj (f::M++l::C++A++[f]) a b↔_;rw [show f::M++l::C++A++[f]=(f::M)++l::(C++A++[f]) by simp,qZ];rw [show l::(C++A)++[f]=l::(C++A++[f]) by simp]
theorem kLK (a b:Nat):Nx (A++[f,w,l]++C) a b↔(a=f/\b=w)\/(a=w/\b=l)\/Adj (l::(C++A)++[f]) a b:=by
 rw [show A++[f,w,l]++C=A++(f::w::l::C) by simp,xM];show Adj (f::w::l::C++A++[f]) a b↔_;rw [show f::w::l::C++A++[f]=f::w::l::(C++A++[f]) by simp,uQ,uQ];rw [show l::(C++A)++[f]=l::(C++A++[f]) by simp]
structure Str (A M C:List Nat) (f l w:Nat):Prop where
 nd:(A++(f::M++[l])++C).Nodup
 fr:w∉A++(f::M++[l])++C
theorem Str.facts (h:Str A M C f l w):f≠l/\f∉M/\l∉M/\(∀ x,x∈C++A->x≠f/\x≠l/\x∉M)/\f≠w/\l≠w/\w∉M/\w∉C++A:=by
 have n1:=(nodup_append.mp h.nd).1;have d1:=(nodup_append.mp h.nd).2.2;have n2:=(nodup_append.mp n1).2.1;have d2:=(nodup_append.mp n1).2.2;have n3:=(nodup_append.mp n2).1;have d3:=(nodup_append.mp n2).2.2;have fr:=h.fr;have mf:f∈f::M++[l]:=mem_append_left _ mem_cons_self;have ml:l∈f::M++[l]:=mem_append_right _ (mem_singleton.mpr rfl);have mM:∀ {x},x∈M->x∈f::M++[l]:=λ z=>mem_append_left _ (mem_cons_of_mem _ z);have up:∀ {x},x∈f::M++[l]->x∈A++(f::M++[l]):=λ z=>mem_append_right _ z;have no:∀ {x},x∈f::M++[l]->x≠w:=λ z e=>fr (e ▸ mem_append_left _ (up z));have ap:∀ {x y},x∈C++A->y∈f::M++[l]->x≠y:=λ hx hy e=>(mem_append.mp hx).elim (λ c=>d1 _ (up hy) _ c e.symm) λ a=>d2 _ a _ hy e
 exact ⟨d3 _ mem_cons_self _ (mem_singleton.mpr rfl),(nodup_cons.mp n3).1,λ z=>d3 _ (mem_cons_of_mem _ z) _ (mem_singleton.mpr rfl) rfl,
  λ x hx=>⟨ap hx mf,ap hx ml,λ z=>ap hx (mM z) rfl⟩,no mf,no ml,λ z=>no (mM z) rfl,
  λ z=>fr ((mem_append.mp z).elim (λ c=>mem_append_right _ c) λ a=>mem_append_left _ (mem_append_left _ a))⟩
theorem Str.j (h:Str A M C f l w) {a b:Nat} (j:Adj (l::(C++A)++[f]) a b):(a=l\/a∈C++A)/\(b=f\/b∈C++A):=by
 obtain ⟨h1,h2,h3,h4,h5,h6,h7,h8⟩:=h.facts;have m:=vQ j;have ne:=jP (R:=l::(C++A)) (v:=f) (by simp only [mem_cons,not_or];exact ⟨h1,λ z=>(h4 _ z).1 rfl⟩) j;simp only [cons_append,mem_cons,mem_append,mem_singleton,List.tail_cons,not_mem_nil,or_false] at m ⊢
 grind
theorem Str.kk (h:Str A M C f l w) {a b:Nat} (k:Adj (f::M++[l]) a b):a∈f::M++[l]/\b∈f::M++[l]/\a≠l/\b≠f:=by
 obtain ⟨h1,h2,h3,h4,h5,h6,h7,h8⟩:=h.facts;have m:=vQ k;have ne:=jP (R:=f::M) (v:=l) (by simp only [mem_cons,not_or];exact ⟨λ e=>h1 e.symm,h3⟩) k;refine ⟨m.1,List.mem_of_mem_tail m.2,ne,λ e=>?_⟩;have:=m.2;simp only [cons_append,List.tail_cons,mem_append,mem_singleton] at this
 grind
theorem Str.put {R R':Nat->Nat->Nat->Prop} (h:Str A M C f l w) (rf:∀ q a b,R q a b->q≠w/\a≠w/\b≠w)
  (r':∀ q a b,R' q a b↔(q=w/\(Adj (f::M++[l]) a b\/(a=l/\b=f)))\/(q∈f::M++[l]/\Nx (A++(f::M++[l])++C) q a/\b=w)\/(q∈f::M++[l]/\a=w/\Nx (A++(f::M++[l])++C) b q)\/(R q a b/\¬ (q∈f::M++[l]/\Nx (A++(f::M++[l])++C) q a))) :
  Put R R' (Nx (A++(f::M++[l])++C)) (Nx (A++[f,w,l]++C)) (Adj (f::M++[l])) (·∈f::M++[l]) f l w:=by
 obtain ⟨h1,h2,h3,h4,h5,h6,h7,h8⟩:=h.facts
 have inB:∀ x,x∈C++A->x∉f::M++[l]:=λ x hx z=>by
  obtain ⟨z1,z2,z3⟩:=h4 x hx;simp only [cons_append,mem_cons,mem_append,mem_singleton,not_mem_nil,or_false] at z
  grind
 refine ⟨λ a b=>?_,r',h1,by simp,by simp,λ a b k=>?_,λ a b pa al n=>?_,λ a b pb bf n=>?_,λ a b n=>?_,rf,λ z=>h.fr (mem_append_left _ (mem_append_right _ z)),λ a b b' n n'=>jT h.nd n n',λ a a' b n n'=>xC h.nd n n',λ a pa=>lZ (mem_append_left _ (mem_append_right _ pa))⟩
 ·rw [kLK,nxO]
  constructor
  ·rintro (z | z | z)
   ·exact .inl z
   ·exact .inr (.inl z)
   ·refine .inr (.inr ⟨.inr z,?_⟩)
    rcases (h.j z).1 with e | e
    ·exact .inr e
    ·exact .inl (inB _ e)
  ·rintro (z | z | ⟨z | z,e⟩)
   ·exact .inl z
   ·exact .inr (.inl z)
   ·obtain ⟨k1,k2,k3,k4⟩:=h.kk z
    rcases e with e | e
    ·exact absurd k1 e
    ·exact absurd e k3
   ·exact .inr (.inr z)
 ·obtain ⟨k1,k2,k3,k4⟩:=h.kk k
  exact ⟨(nxO a b).mpr (.inl k),k1,k2,k3,k4⟩
 ·rcases (nxO a b).mp n with z | z
  ·exact z
  ·rcases (h.j z).1 with e | e
   ·exact absurd e al
   ·exact absurd pa (inB _ e)
 ·rcases (nxO a b).mp n with z | z
  ·exact z
  ·rcases (h.j z).2 with e | e
   ·exact absurd e bf
   ·exact absurd pb (inB _ e)
 ·have m:=qD n
  exact ⟨λ e=>h.fr (e ▸ m.1),λ e=>h.fr (e ▸ m.2)⟩
end
structure Half (L:Rows) (O:List Nat):Prop where
 ne:∀ (p:Nat) (row:List Nat),L[p]?=some row->row≠[]
 nd:∀ (p:Nat) (row:List Nat),L[p]?=some row->row.Nodup
 rng:∀ (p:Nat) (row:List Nat) (a:Nat),L[p]?=some row->a∈row->a<L.length/\a≠p
 ond:O.Nodup
 orng:∀ x,x∈O->x<L.length
 tri:∀ q a b,R L q a b->¬ Nx O q a->R L a b q/\¬ Nx O a b
 out:∀ q a b,Nx O q a->Nx O b q->R L q a b
 con:∀ p,p<L.length->Reach L 0 p
 tot:(L.map List.length).sum+2*O.length+6=6*L.length
structure NewRows (L L2:Rows) (O P:List Nat) (w:Nat):Prop where
 len:L2.length=L.length
 off:∀ x,x∉P->L2[x]?=L[x]?
 on:∀ x,x∈P->∃ row row2 y,L[x]?=some row/\L2[x]?=some row2/\Nx O x y/\row2.Perm (w::row)/\∀ a b,Nx row2 a b↔Nx (vU row y w) a b
 sum:(L2.map List.length).sum=(L.map List.length).sum+P.length
section
variable {L L2:Rows} {A M C:List Nat} {f l:Nat}
theorem kJJ {O:List Nat} (H:Half L O) {q a b b':Nat} (h:R L q a b) (h':R L q a b'):b=b':=by
 obtain ⟨row,e,n⟩:=h;obtain ⟨row',e',n'⟩:=h';rw [e] at e';cases e';exact jT (H.nd _ _ e) n n'
theorem gN (H:Half L (A++(f::M++[l])++C)):Str A M C f l L.length :=
 ⟨H.ond,λ z=>Nat.lt_irrefl _ (H.orng _ z)⟩
theorem kJI {O:List Nat} (H:Half L O) (q a b:Nat) (h:R L q a b):q≠L.length/\a≠L.length/\b≠L.length:=by
 obtain ⟨row,e,n⟩:=h;have m:=qD n;have h1:=(H.rng _ _ _ e m.1).1;have h2:=(H.rng _ _ _ e m.2).1;have h3:=(List.getElem?_eq_some_iff.mp e).1;omega
theorem kJX (H:Half L (A++(f::M++[l])++C)) (W:NewRows L L2 (A++(f::M++[l])++C) (f::M++[l]) L.length) (q a b:Nat) :
  R (L2++[f::M++[l]]) q a b↔(q=L.length/\(Adj (f::M++[l]) a b\/(a=l/\b=f)))\/(q∈f::M++[l]/\Nx (A++(f::M++[l])++C) q a/\b=L.length)\/(q∈f::M++[l]/\a=L.length/\Nx (A++(f::M++[l])++C) b q)\/(R L q a b/\¬ (q∈f::M++[l]/\Nx (A++(f::M++[l])++C) q a)):=by
 rw [kMP,W.len,nxP];have hlt:∀ x,x∈f::M++[l]->x<L.length:=λ x hx=>H.orng x (mem_append_left _ (mem_append_right _ hx));by_cases hq:q∈f::M++[l]
 ·obtain ⟨row,row2,y,e,e2,ny,pm,hn⟩:=W.on q hq
  have qw:q≠L.length:=Nat.ne_of_lt (hlt q hq);obtain ⟨z,nz⟩:=lZ (row:=A++(f::M++[l])++C) (b:=q) (mem_append_left _ (mem_append_right _ hq));obtain ⟨row',e',nyz⟩:=H.out q y z ny nz;rw [e] at e';cases e';have hw:L.length∉row:=λ m=>Nat.lt_irrefl _ (H.rng _ _ _ e m).1;have hR:R L2 q a b↔Nx row2 a b:=⟨λ ⟨r,x,n⟩=>by rw [e2] at x;cases x;exact n,λ n=>⟨row2,e2,n⟩⟩;have hR0:R L q a b↔Nx row a b:=⟨λ ⟨r,x,n⟩=>by rw [e] at x;cases x;exact n,λ n=>⟨row,e,n⟩⟩;rw [hR,hn,kIT (qD nyz).1 (H.nd _ _ e) hw,hR0];have c1:Nx (A++(f::M++[l])++C) q a↔a=y:=⟨λ n=>jT H.ond n ny,λ e=>e ▸ ny⟩;have c2:Nx (A++(f::M++[l])++C) b q↔b=z:=⟨λ n=>xC H.ond n nz,λ e=>e ▸ nz⟩;have c3:Nx row y b↔b=z:=⟨λ n=>jT (H.nd _ _ e) n nyz,λ e=>e ▸ nyz⟩;rw [c1,c2,c3]
  grind
 ·have hR:R L2 q a b↔R L q a b:=by unfold R;rw [W.off q hq]
  rw [hR];constructor
  ·rintro (h | h)
   ·exact .inr (.inr (.inr ⟨h,λ z=>hq z.1⟩))
   ·exact .inl h
  ·rintro (h | ⟨h,_⟩ | ⟨h,_⟩ | ⟨h,_⟩)
   ·exact .inr h
   ·exact absurd h hq
   ·exact absurd h hq
   ·exact .inl h
theorem kJY (W:NewRows L L2 (A++(f::M++[l])++C) (f::M++[l]) L.length) (x b:Nat) (h:E L x b):E (L2++[f::M++[l]]) x b:=by
 obtain ⟨row,e,m⟩:=h;refine kGW ?_;by_cases hq:x∈f::M++[l]
 ·obtain ⟨row',row2,y,e',e2,ny,pm,hn⟩:=W.on x hq
  rw [e] at e';cases e';exact ⟨row2,e2,pm.mem_iff.mpr (mem_cons_of_mem _ m)⟩
 ·exact ⟨row,by rw [W.off x hq];exact e,m⟩
theorem kFI (H:Half L (A++(f::M++[l])++C)) (W:NewRows L L2 (A++(f::M++[l])++C) (f::M++[l]) L.length) :
  Half (L2++[f::M++[l]]) (A++[f,L.length,l]++C):=by
 have S:=gN H;have P:=S.put (kJI H) (kJX H W);have hlt:∀ x,x∈f::M++[l]->x<L.length:=λ x hx=>H.orng x (mem_append_left _ (mem_append_right _ hx));obtain ⟨h1,h2,h3,h4,h5,h6,h7,h8⟩:=S.facts;have nd:=H.ond
 have get:∀ p row,(L2++[f::M++[l]])[p]?=some row->(p=L.length/\row=f::M++[l])\/(p<L.length/\L2[p]?=some row):=λ p row e=>by
  rcases Nat.lt_or_ge p L2.length with h | h
  ·rw [List.getElem?_append_left h] at e
   exact .inr ⟨W.len ▸ h,e⟩
  ·rw [List.getElem?_append_right h] at e
   rcases Nat.eq_zero_or_pos (p-L2.length) with z | z
   ·rw [z] at e
    simp at e;exact .inl ⟨by have:=W.len;omega,by rw [<-e];simp⟩
   ·rw [List.getElem?_eq_none (by simp;omega)] at e
    cases e
 have old:∀ p row,L2[p]?=some row->∃ r0,L[p]?=some r0/\(row=r0\/(p∈f::M++[l]/\row.Perm (L.length::r0))):=λ p row e=>by
  by_cases hq:p∈f::M++[l]
  ·obtain ⟨r0,row2,y,e',e2,ny,pm,hn⟩:=W.on p hq
   rw [e] at e2;cases e2;exact ⟨r0,e',.inr ⟨hq,pm⟩⟩
  ·rw [W.off p hq] at e
   exact ⟨row,e,.inl rfl⟩
 have pnd:(f::M++[l]).Nodup:=(nodup_append.mp (nodup_append.mp nd).1).2.1;have len:(L2++[f::M++[l]]).length=L.length+1:=by simp [W.len]
 refine ⟨λ p row e=>?_,λ p row e=>?_,λ p row a e m=>?_,?_,λ x hx=>?_,P.tri H.tri,P.out H.out,λ p hp=>?_,?_⟩
 ·rcases get p row e with ⟨_,rfl⟩ | ⟨_,e⟩
  ·simp
  ·obtain ⟨r0,e0,rfl | ⟨_,pm⟩⟩:=old p row e
   ·exact H.ne _ _ e0
   ·intro z;subst z;exact absurd pm.length_eq (by simp)
 ·rcases get p row e with ⟨_,rfl⟩ | ⟨_,e⟩
  ·exact pnd
  ·obtain ⟨r0,e0,rfl | ⟨_,pm⟩⟩:=old p row e
   ·exact H.nd _ _ e0
   ·exact pm.nodup_iff.mpr (nodup_cons.mpr ⟨λ m=>Nat.lt_irrefl _ (H.rng _ _ _ e0 m).1,H.nd _ _ e0⟩)
 ·rw [len]
  rcases get p row e with ⟨rfl,rfl⟩ | ⟨hp,e⟩
  ·have:=hlt a m;omega
  ·obtain ⟨r0,e0,rfl | ⟨_,pm⟩⟩:=old p row e
   ·have:=H.rng _ _ _ e0 m;omega
   ·rcases mem_cons.mp (pm.mem_iff.mp m) with rfl | m
    ·omega
    ·have:=H.rng _ _ _ e0 m;omega
 ·have fr:=S.fr
  simp only [nodup_append,nodup_cons,mem_append,mem_cons,mem_singleton,not_mem_nil,or_false,cons_append,not_or,nil_append] at nd fr ⊢
  grind
 ·rw [len]
  have:x=L.length\/x∈A++(f::M++[l])++C:=by
   simp only [mem_append,mem_cons,mem_singleton,not_mem_nil,or_false,cons_append] at hx ⊢
   grind
  rcases this with rfl | z
  ·omega
  ·have:=H.orng _ z;omega
 ·rw [len] at hp
  by_cases z:p<L.length
  ·exact (H.con p z).by λ a b e=>.more (.here _) (kJY W a b e)
  ·have e:p=L.length:=by omega
   subst e;have r1:=(H.con f (hlt f (by simp))).by (L':=L2++[f::M++[l]]) λ a b e=>.more (.here _) (kJY W a b e);refine .more r1 ?_;have:=(kJX H W f (P.ex f (by simp)).choose L.length);obtain ⟨row,row2,y,e,e2,ny,pm,hn⟩:=W.on f (by simp);exact kGW ⟨row2,e2,pm.mem_iff.mpr mem_cons_self⟩
 ·have t:=H.tot
  have s:=W.sum;simp only [map_append,List.sum_append,map_cons,map_nil,List.sum_cons,List.sum_nil,length_append,length_cons,length_nil,W.len,cons_append] at t s ⊢;omega
theorem kDP {m:Nat} (H:Half L [f,m,l]) (h3:3<=L.length):Good L:=by
 refine ⟨h3,H.ne,H.nd,H.rng,λ q a b h=>?_,H.con,?_⟩
 ·by_cases n:Nx [f,m,l] q a
  ·have mm:=(qD n).1
   have hb:∃ b',Nx [f,m,l] b' q:=lZ mm;obtain ⟨b',nb⟩:=hb;have e:=kJJ H h (H.out _ _ _ n nb);subst e;refine H.out _ _ _ ?_ n;rw [nx3] at n nb ⊢;have nd:=H.ond;simp only [nodup_cons,mem_cons,not_mem_nil,or_false,not_or] at nd
   grind
  ·exact (H.tri _ _ _ h n).1
 ·have:=H.tot
  simp only [length_cons,length_nil] at this;omega
end
def cV (row:List Nat) (u w:Nat):List Nat:=row.take (row.idxOf u)++w::row.drop (row.idxOf u)
theorem kJG {A B:List Nat} {u w:Nat} (h:u∉A):cV (A++u::B) u w=A++w::u::B:=by
 unfold cV;rw [cW h,take_left' rfl,drop_left' rfl]
theorem mG (row:List Nat) (u w:Nat):(cV row u w).Perm (w::row):=by
 unfold cV;have:=List.perm_middle (a:=w) (l₁:=row.take (row.idxOf u)) (l₂:=row.drop (row.idxOf u));rwa [take_append_drop] at this
theorem mH (row:List Nat) (v w:Nat):(vU row v w).Perm (w::row):=by
 unfold vU;have:=List.perm_middle (a:=w) (l₁:=row.take (row.idxOf v+1)) (l₂:=row.drop (row.idxOf v+1));rwa [take_append_drop] at this
theorem kIS {row:List Nat} {u v w:Nat} (nd:row.Nodup) (h:Nx row v u) (a b:Nat):Nx (cV row u w) a b↔Nx (vU row v w) a b:=by
 obtain ⟨A,B,rfl,hA,hB⟩:=vX (qD h).2 nd;rw [kJG hA];rcases eq_nil_or_concat A with rfl | ⟨A',v',rfl⟩
 ·rcases eq_nil_or_concat (u::B) with e | ⟨D,v',e⟩
  ·cases e
  ·have e':u::B=D++[v']:=by rw [e];simp
   simp only [nil_append] at h nd ⊢
   have n:Nx (u::B) v' u:=by
    show Adj (u::B++[u]) v' u;rw [e',show D++[v']++[u]=D++v'::[u] by simp,qZ];exact .inr (.inl ⟨rfl,rfl⟩)
   have ev:=xC nd h n;subst ev
   have hv:v∉D:=λ z=>by
    rw [e'] at nd;exact (nodup_append.mp nd).2.2 v z v (by simp) rfl
   have ei:vU (u::B) v w=u::B++[w]:=by rw [e',oJ hv];simp
   rw [ei];exact xM [w] (u::B) a b
 ·have e1:A'.concat v'++u::B=A'++v'::(u::B):=by simp
  have e2:A'.concat v'++w::u::B=A'++v'::w::(u::B):=by simp
  rw [e1] at nd h ⊢;rw [e2]
  have n:Nx (A'++v'::(u::B)) v' u:=by
   rw [xM];exact .inl ⟨rfl,rfl⟩
  have ev:=xC nd h n;subst ev;have hv:v∉A':=λ z=>(nodup_append.mp nd).2.2 v z v (by simp) rfl;rw [oJ hv]
def zW (w:Nat):Rows->List Nat->Rows
 | L,x::y::r=>zW w (L.set x (vU (L.getD x []) y w)) (y::r)
 | L,_=>L
theorem bB (w:Nat):∀ (P:List Nat) (L:Rows),P.Nodup->(∀ x,x∈P->x<L.length) ->
  (zW w L P).length=L.length/\(∀ x y,Adj P x y->(zW w L P)[x]?=some (vU (L.getD x []) y w))/\(∀ x,(∀ y,¬ Adj P x y)->(zW w L P)[x]?=L[x]?) /\
  ((zW w L P).map List.length).sum=(L.map List.length).sum+(P.length-1)
 | [],L,_,_=>⟨rfl,λ _ _ h=>h.elim,λ _ _=>rfl,rfl⟩
 | [x],L,_,_=>⟨rfl,λ _ _ h=>h.elim,λ _ _=>rfl,rfl⟩
 | x::y::r,L,nd,rng=>by
  obtain ⟨nx,nd'⟩:=nodup_cons.mp nd;have hx:x<L.length:=rng x mem_cons_self;obtain ⟨h1,h2,h3,h4⟩:=bB w (y::r) (L.set x (vU (L.getD x []) y w)) nd' (λ z hz=>by rw [length_set];exact rng z (mem_cons_of_mem _ hz));have ne:∀ z,Adj (y::r) x z->False:=λ z h=>nx (vQ h).1;refine ⟨by show (zW w _ (y::r)).length=_;rw [h1,length_set],λ a b h=>?_,λ a h=>?_,?_⟩
  ·show (zW w _ (y::r))[a]?=_
   rcases h with ⟨rfl,rfl⟩ | h
   ·rw [h3 _ (λ z hz=>ne z hz),List.getElem?_set_self hx]
   ·have ax:a≠x:=λ e=>ne b (e ▸ h)
    rw [h2 a b h];simp only [getD_eq_getElem?_getD];rw [List.getElem?_set_ne (Ne.symm ax)]
  ·show (zW w _ (y::r))[a]?=_
   have ax:a≠x:=λ e=>h y (.inl ⟨e,rfl⟩);rw [h3 a (λ z hz=>h z (.inr hz)),List.getElem?_set_ne (Ne.symm ax)]
  ·show ((zW w _ (y::r)).map List.length).sum=_
   rw [h4];have g:L[x]?=some (L.getD x []):=by rw [getD_eq_getElem?_getD,List.getElem?_eq_getElem hx];rfl
   have s:=aU L x (L.getD x []) (vU (L.getD x []) y w) g;have p:=(mH (L.getD x []) y w).length_eq;simp only [length_cons] at p ⊢;omega
def kCR (L:Rows) (P:List Nat) (w u l:Nat):Rows:=(zW w L P).set l (cV ((zW w L P).getD l []) u w)
section
variable {L:Rows} {A M C:List Nat} {f l u:Nat}
theorem sH:∀ {P:List Nat} {l x:Nat},x∈P->∃ y,Adj (P++[l]) x y
 | [z],l,x,h=>⟨l,.inl ⟨by simpa using h,rfl⟩⟩
 | z::z'::r,l,x,h=>by
  rcases mem_cons.mp h with e | h
  ·exact ⟨z',.inl ⟨e,rfl⟩⟩
  ·obtain ⟨y,hy⟩:=sH (l:=l) h
   exact ⟨y,.inr hy⟩
theorem kIE (H:Half L (A++(f::M++[l])++C)) (hu:Adj (f::M++[l]) u l) :
  NewRows L (kCR L (f::M++[l]) L.length u l) (A++(f::M++[l])++C) (f::M++[l]) L.length:=by
 have S:=gN H;have nd:=H.ond;have pnd:(f::M++[l]).Nodup:=(nodup_append.mp (nodup_append.mp nd).1).2.1;have hO:∀ x,x∈f::M++[l]->x∈A++(f::M++[l])++C:=λ x hx=>mem_append_left _ (mem_append_right _ hx);have hlt:∀ x,x∈f::M++[l]->x<L.length:=λ x hx=>H.orng x (hO x hx);obtain ⟨h1,h2,h3,h4⟩:=bB L.length (f::M++[l]) L pnd hlt;have hl:l<L.length:=hlt l (by simp);have nl:∀ y,¬ Adj (f::M++[l]) l y:=λ y h=>(S.kk h).2.2.1 rfl;have gl:=h3 l nl;have g:∀ x,x<L.length->L[x]?=some (L.getD x []):=λ x hx=>by rw [getD_eq_getElem?_getD,List.getElem?_eq_getElem hx];rfl
 have el:(zW L.length L (f::M++[l])).getD l []=L.getD l []:=by rw [getD_eq_getElem?_getD,gl,<-getD_eq_getElem?_getD]
 unfold kCR;rw [el];refine ⟨by rw [length_set,h1],λ x hx=>?_,λ x hx=>?_,?_⟩
 ·have xl:x≠l:=λ e=>hx (e ▸ by simp)
  rw [List.getElem?_set_ne (Ne.symm xl)];exact h3 x λ y h=>hx (S.kk h).1
 ·by_cases xl:x=l
  ·subst xl
   obtain ⟨y,ny⟩:=vI (row:=A++(f::M++[x])++C) (hO x hx);obtain ⟨row,e,n⟩:=H.out x y u ny ((nxO u x).mpr (.inl hu));rw [g x hl] at e;injection e with e
   rw [<-e] at n;refine ⟨_,_,y,g x hl,List.getElem?_set_self (by rw [h1];exact hl),ny,mG _ _ _,λ a b=>kIS (H.nd _ _ (g x hl)) n a b⟩
  ·have hx':x∈f::M:=by
    rcases mem_append.mp hx with z | z
    ·exact z
    ·exact absurd (by simpa using z) xl
   obtain ⟨y,hy⟩:=sH (l:=l) hx';exact ⟨_,_,y,g x (hlt x hx),by rw [List.getElem?_set_ne (Ne.symm xl)];exact h2 x y hy,(nxO x y).mpr (.inl hy),mH _ _ _,λ a b=>Iff.rfl⟩
 ·have s:=aU (zW L.length L (f::M++[l])) l (L.getD l []) (cV (L.getD l []) u L.length) (by rw [gl];exact g l hl)
  have p:=(mG (L.getD l []) u L.length).length_eq;have pl:(f::M++[l]).length=M.length+2:=by simp
  rw [pl] at h4 ⊢;rw [length_cons] at p;omega
theorem kCQ (H:Half L (A++(f::M++[l])++C)) (hu:Adj (f::M++[l]) u l):Half (kCR L (f::M++[l]) L.length u l++[f::M++[l]]) (A++[f,L.length,l]++C):=kFI H (kIE H hu)
theorem tZ:Half [[1],[0]] [0,1]:=by
 have g:∀ p row,([[1],[0]]:Rows)[p]?=some row->(p=0/\row=[1])\/(p=1/\row=[0]):=λ p row e=>by
  match p with
  | 0=>simp at e;exact .inl ⟨rfl,e.symm⟩
  | 1=>simp at e;exact .inr ⟨rfl,e.symm⟩
  | p+2=>simp at e
 have nx1:∀ x a b,Nx [x] a b↔a=x/\b=x:=λ x a b=>by show ((a=x/\b=x)\/False)↔_;simp
 have nx2:∀ a b,Nx [0,1] a b↔(a=0/\b=1)\/(a=1/\b=0):=λ a b=>by show ((a=0/\b=1)\/(a=1/\b=0)\/False)↔_;simp
 refine ⟨λ p row e=>?_,λ p row e=>?_,λ p row a e m=>?_,by decide,λ x hx=>?_,λ q a b h n=>?_,λ q a b h h'=>?_,λ p hp=>?_,by decide⟩
 ·rcases g p row e with ⟨_,rfl⟩ | ⟨_,rfl⟩<;>simp
 ·rcases g p row e with ⟨_,rfl⟩ | ⟨_,rfl⟩<;>simp
 ·rcases g p row e with ⟨rfl,rfl⟩ | ⟨rfl,rfl⟩<;>simp at m<;>subst m<;>simp
 ·simp at hx ⊢;omega
 ·obtain ⟨row,e,h⟩:=h
  rw [nx2] at n;rcases g q row e with ⟨rfl,rfl⟩ | ⟨rfl,rfl⟩<;>rw [nx1] at h<;>exact absurd (by simp [h.1]) n
 ·rw [nx2] at h h'
  rcases h with ⟨rfl,rfl⟩ | ⟨rfl,rfl⟩
  ·exact ⟨[1],rfl,(nx1 _ _ _).mpr ⟨rfl,by omega⟩⟩
  ·exact ⟨[0],rfl,(nx1 _ _ _).mpr ⟨rfl,by omega⟩⟩
 ·match p,hp with
  | 0,_=>exact .here _
  | 1,_=>exact .more (.here _) ⟨[1],rfl,by simp⟩
  | p+2,hp=>simp at hp;omega
end
end Tri
namespace Tri
open Cyc Rnd
section
variable {W:Rows}
theorem nQ {row:List Nat} {p v:Nat} (nd:row.Nodup) (h:Nx row v p):jL row p=some v:=by
 obtain ⟨u,hu⟩:=fE (qD h).2;rw [hu,xC nd h (vE nd (qD h).2 hu)]
theorem oH (nd:∀ (p:Nat) (row:List Nat),W[p]?=some row->row.Nodup) {p q v:Nat} (h:R W q v p):nxt W (p,q)=(q,v):=by
 obtain ⟨row,e,n⟩:=h;unfold nxt;rw [getD_eq_getElem?_getD,e];show (q,(jL row p).getD 0)=(q,v);rw [nQ (nd q row e) n]
 rfl
theorem dG (nd:∀ (p:Nat) (row:List Nat),W[p]?=some row->row.Nodup):(kS W).Nodup:=by
 unfold kS;rw [List.nodup_iff_pairwise_ne,List.pairwise_flatMap];refine ⟨λ p hp=>?_,?_⟩
 ·have hl:=mem_range.mp hp
  have e:W[p]?=some (W.getD p []):=by rw [getD_eq_getElem?_getD,List.getElem?_eq_getElem hl];rfl
  have n:=nd p _ e;refine List.Pairwise.map _ (λ x y (z:x≠y) e=>z (congrArg Prod.snd e)) n
 ·refine nodup_range.imp λ {p q} hpq=>?_
  intro x hx y hy e;obtain ⟨_,_,rfl⟩:=mem_map.mp hx;obtain ⟨_,_,rfl⟩:=mem_map.mp hy;exact hpq (congrArg Prod.fst e)
theorem yY:∀ (W:Rows) ,(kS W).length=(W.map List.length).sum:=by
 intro W;unfold kS;rw [List.length_flatMap]
 congr 1
 refine List.ext_getElem (by simp) λ i h1 h2=>?_;simp at h1 h2;simp [getD_eq_getElem?_getD,h1]
end
theorem kBT (f:Nat->Nat):∀ (l:List Nat) (a b:Nat),Adj (l.map f) a b↔∃ x y,Adj l x y/\a=f x/\b=f y
 | [],a,b=>⟨λ h=>h.elim,λ ⟨_,_,h,_⟩=>h.elim⟩
 | [z],a,b=>⟨λ h=>h.elim,λ ⟨_,_,h,_⟩=>h.elim⟩
 | z::z'::r,a,b=>by
  have ih:=kBT f (z'::r) a b;constructor
  ·rintro (⟨rfl,rfl⟩ | h)
   ·exact ⟨z,z',.inl ⟨rfl,rfl⟩,rfl,rfl⟩
   ·obtain ⟨x,y,h,e⟩:=ih.mp h
    exact ⟨x,y,.inr h,e⟩
  ·rintro ⟨x,y,⟨rfl,rfl⟩ | h,rfl,rfl⟩
   ·exact .inl ⟨rfl,rfl⟩
   ·exact .inr (ih.mpr ⟨x,y,h,rfl,rfl⟩)
theorem kFY (f:Nat->Nat) (l:List Nat) (a b:Nat):Nx (l.map f) a b↔∃ x y,Nx l x y/\a=f x/\b=f y:=by
 unfold Nx;rw [show l.map f++(l.map f).head?.toList=(l++l.head?.toList).map f by cases l<;>simp];exact kBT f _ a b
theorem Reach.symm {W:Rows} (sym:∀ a b,E W a b->E W b a) {a b:Nat} (h:Reach W a b):Reach W b a:=by
 induction h with
 | here=>exact .here _
 | more _ e ih=>exact (Reach.more (.here _) (sym _ _ e)).trans ih
structure Ren (L W:Rows) (ns:List Nat):Prop where
 perm:ns.Perm (List.range L.length)
 len:W.length=L.length
 at':∀ (p:Nat) (row:List Nat),L[p]?=some row->∃ n A B,ns[p]?=some n/\row.map (λ q=>ns.getD q 0)=A++B/\W[n]?=some (B++A)
section
variable {L W:Rows} {ns:List Nat}
theorem Ren.nlen (h:Ren L W ns):ns.length=L.length:=by rw [h.perm.length_eq,length_range]
theorem Ren.get (h:Ren L W ns) {p:Nat} (hp:p<L.length):ns[p]?=some (ns.getD p 0):=by
 rw [getD_eq_getElem?_getD,List.getElem?_eq_getElem (by rw [h.nlen];exact hp)]
 rfl
theorem Ren.lt (h:Ren L W ns) {p:Nat} (hp:p<L.length):ns.getD p 0<L.length:=mem_range.mp (h.perm.mem_iff.mp (mem_of_getElem? (h.get hp)))
theorem Ren.inj (h:Ren L W ns) {p q:Nat} (hp:p<L.length) (hq:q<L.length) (e:ns.getD p 0=ns.getD q 0):p=q:=by
 have nd:ns.Nodup:=h.perm.nodup_iff.mpr nodup_range;have h1:=h.get hp;have h2:=h.get hq;rw [e,<-h2] at h1;exact (List.getElem?_inj (by rw [h.nlen];exact hp) nd).mp h1
theorem Ren.sur (h:Ren L W ns) {x:Nat} (hx:x<L.length):∃ p,p<L.length/\ns.getD p 0=x:=by
 obtain ⟨p,hp,e⟩:=List.getElem_of_mem (h.perm.mem_iff.mpr (mem_range.mpr hx));rw [h.nlen] at hp;refine ⟨p,hp,?_⟩;rw [getD_eq_getElem?_getD,List.getElem?_eq_getElem (by rw [h.nlen];exact hp),e]
 rfl
theorem Ren.row (h:Ren L W ns) {x:Nat} {row':List Nat} (e:W[x]?=some row'):∃ p row,p<L.length/\L[p]?=some row/\x=ns.getD p 0/\row'.Perm (row.map λ q=>ns.getD q 0)/\∀ a b,Nx row' a b↔Nx (row.map λ q=>ns.getD q 0) a b:=by
 have hx:x<L.length:=by rw [<-h.len];exact (List.getElem?_eq_some_iff.mp e).1
 obtain ⟨p,hp,rfl⟩:=h.sur hx;obtain ⟨n,A,B,e1,e2,e3⟩:=h.at' p _ (List.getElem?_eq_getElem hp);rw [h.get hp] at e1;cases e1
 rw [e] at e3;cases e3
 refine ⟨p,_,hp,List.getElem?_eq_getElem hp,rfl,?_,λ a b=>?_⟩
 ·rw [e2];exact perm_append_comm
 ·rw [e2];exact xM B A a b
theorem Ren.to (h:Ren L W ns) {p:Nat} {row:List Nat} (e:L[p]?=some row):∃ row',W[ns.getD p 0]?=some row'/\row'.Perm (row.map λ q=>ns.getD q 0)/\∀ a b,Nx row' a b↔Nx (row.map λ q=>ns.getD q 0) a b:=by
 have hp:=(List.getElem?_eq_some_iff.mp e).1;obtain ⟨n,A,B,e1,e2,e3⟩:=h.at' p _ e;rw [h.get hp] at e1;cases e1
 exact ⟨_,e3,by rw [e2];exact perm_append_comm,λ a b=>by rw [e2];exact xM B A a b⟩
theorem Ren.r_to (h:Ren L W ns) {q a b:Nat} (r:R L q a b):R W (ns.getD q 0) (ns.getD a 0) (ns.getD b 0):=by
 obtain ⟨row,e,n⟩:=r;obtain ⟨row',e',_,hn⟩:=h.to e;exact ⟨row',e',(hn _ _).mpr ((kFY _ _ _ _).mpr ⟨a,b,n,rfl,rfl⟩)⟩
theorem Ren.r_of (h:Ren L W ns) {q a b:Nat} (r:R W q a b):∃ q' a' b',R L q' a' b'/\q=ns.getD q' 0/\a=ns.getD a' 0/\b=ns.getD b' 0:=by
 obtain ⟨row',e',n⟩:=r;obtain ⟨p,row,hp,e,rfl,_,hn⟩:=h.row e';obtain ⟨x,y,n',rfl,rfl⟩:=(kFY _ _ _ _).mp ((hn _ _).mp n);exact ⟨p,x,y,⟨row,e,n'⟩,rfl,rfl,rfl⟩
theorem Ren.e_to (h:Ren L W ns) {a b:Nat} (r:E L a b):E W (ns.getD a 0) (ns.getD b 0):=by
 obtain ⟨row,e,m⟩:=r;obtain ⟨row',e',pm,_⟩:=h.to e;exact ⟨row',e',pm.mem_iff.mpr (mem_map.mpr ⟨b,m,rfl⟩)⟩
theorem Ren.e_of (h:Ren L W ns) {a b:Nat} (r:E W a b):∃ x y,E L x y/\a=ns.getD x 0/\b=ns.getD y 0:=by
 obtain ⟨row',e',m⟩:=r;obtain ⟨p,row,hp,e,rfl,pm,_⟩:=h.row e';obtain ⟨y,my,rfl⟩:=mem_map.mp (pm.mem_iff.mp m);exact ⟨p,y,⟨row,e,my⟩,rfl,rfl⟩
theorem kFG (G:Good L) (h:Ren L W ns):Good W:=by
 have sym:∀ a b,E W a b->E W b a:=λ a b r=>by
  obtain ⟨x,y,r',rfl,rfl⟩:=h.e_of r;exact h.e_to (G.sym r')
 have reach:∀ {x y:Nat},Reach L x y->Reach W (ns.getD x 0) (ns.getD y 0):=λ r=>by
  induction r with
  | here=>exact .here _
  | more _ e ih=>exact .more ih (h.e_to e)
 have from0:∀ x,x<L.length->Reach W (ns.getD 0 0) x:=λ x hx=>by
  obtain ⟨p,hp,rfl⟩:=h.sur hx;exact reach (G.con p hp)
 refine ⟨by rw [h.len];exact G.three,λ p row' e=>?_,λ p row' e=>?_,λ p row' a e m=>?_,λ q a b r=>?_,λ p hp=>?_,?_⟩
 ·obtain ⟨x,row,hx,e1,rfl,pm,_⟩:=h.row e
  intro z;subst z;have:=pm.length_eq;rw [length_map] at this;exact G.ne _ _ e1 (length_eq_zero_iff.mp this.symm)
 ·obtain ⟨x,row,hx,e1,rfl,pm,_⟩:=h.row e
  refine pm.nodup_iff.mpr ?_;rw [List.nodup_iff_pairwise_ne,pairwise_map];exact List.Pairwise.imp_of_mem (λ {u v} hu hv z e=>z (h.inj (G.rng _ _ _ e1 hu).1 (G.rng _ _ _ e1 hv).1 e)) (G.nd _ _ e1)
 ·obtain ⟨x,row,hx,e1,rfl,pm,_⟩:=h.row e
  obtain ⟨y,my,rfl⟩:=mem_map.mp (pm.mem_iff.mp m);obtain ⟨y1,y2⟩:=G.rng _ _ _ e1 my;exact ⟨by rw [h.len];exact h.lt y1,λ e=>y2 (h.inj y1 hx e)⟩
 ·obtain ⟨q',a',b',r',rfl,rfl,rfl⟩:=h.r_of r
  exact h.r_to (G.tri _ _ _ r')
 ·rw [h.len] at hp
  have three:=G.three;exact (from0 0 (by omega)).symm sym |>.trans (from0 p hp)
 ·have g:∀ (V:Rows),V.map List.length=(List.range V.length).map λ x=>(V.getD x []).length:=λ V=>by
   refine List.ext_getElem (by simp) λ i h1 h2=>?_;simp at h1 h2;simp [getD_eq_getElem?_getD,h1]
  have e1:(W.map List.length).sum=(ns.map λ x=>(W.getD x []).length).sum:=by
   rw [g W,h.len];exact (h.perm.symm.map _).sum_nat
  have e2:(ns.map λ x=>(W.getD x []).length)=L.map List.length:=by
   refine List.ext_getElem (by simp [h.nlen]) λ i h1 h2=>?_;simp at h1 h2;obtain ⟨row',w1,pm,_⟩:=h.to (List.getElem?_eq_getElem h2);have hn:ns[i]=ns.getD i 0:=by simp [getD_eq_getElem?_getD,h1]
   have:=pm.length_eq;rw [length_map] at this;simp only [getElem_map];rw [hn,getD_eq_getElem?_getD,w1];exact this
  rw [e1,e2,h.len];exact G.tot
end
def Ro (r r':List Nat):Prop:=∃ A B,r=A++B/\r'=B++A
theorem Ro.trans {r r' r'':List Nat}:Ro r r'->Ro r' r''->Ro r r'':=by
 rintro ⟨A,B,rfl,rfl⟩ ⟨C,D,h1,rfl⟩;rcases List.append_eq_append_iff.mp h1 with ⟨a,rfl,rfl⟩ | ⟨c,rfl,rfl⟩
 ·exact ⟨a,D++B,by simp,by simp⟩
 ·exact ⟨A++C,c,by simp,by simp⟩
theorem Ro.perm {r r':List Nat}:Ro r r'->r.Perm r':=by
 rintro ⟨A,B,rfl,rfl⟩;exact perm_append_comm
theorem Ro.mem {r r':List Nat} (h:Ro r r') (x:Nat):x∈r↔x∈r':=h.perm.mem_iff
theorem Ro.nd {r r':List Nat} (h:Ro r r'):r.Nodup↔r'.Nodup:=h.perm.nodup_iff
theorem Ro.nx {r r':List Nat} (h:Ro r r') (a b:Nat):Nx r a b↔Nx r' a b:=by
 obtain ⟨A,B,rfl,rfl⟩:=h;exact xM A B a b
def rot (row:List Nat) (M:Nat):List Nat:=row.drop (row.idxOf M)++row.take (row.idxOf M)
theorem kFD (row:List Nat) (M:Nat):Ro row (rot row M):=⟨row.take (row.idxOf M),row.drop (row.idxOf M),(take_append_drop _ _).symm,rfl⟩
structure Nb (L:Rows):Prop where
 nd:∀ (p:Nat) (row:List Nat),L[p]?=some row->row.Nodup
 rng:∀ (p:Nat) (row:List Nat) (a:Nat),L[p]?=some row->a∈row->a<L.length/\a≠p
 sym:∀ a b,E L a b->E L b a
structure Wb (L:Rows):Prop extends Nb L where
 three:3<=L.length
 con:∀ p,p<L.length->Reach L 0 p
theorem Nb.e {L:Rows} (S:Nb L) {p q:Nat} (h:E L p q):p<L.length/\q<L.length/\q≠p:=by
 obtain ⟨row,e,m⟩:=h;exact ⟨(List.getElem?_eq_some_iff.mp e).1,(S.rng p row q e m).1,(S.rng p row q e m).2⟩
theorem Nb.len {L:Rows} (S:Nb L) {p:Nat} {row:List Nat} (h:L[p]?=some row):row.length<=L.length:=by
 have:=List.Nodup.length_le_of_subset (S.nd p row h) (l₂:=List.range L.length) λ x hx=>mem_range.mpr (S.rng p row x h hx).1;rwa [length_range] at this
theorem Wb.of {L:Rows} (G:Good L):Wb L:=⟨⟨G.nd,G.rng,λ a b h=>G.sym h⟩,G.three,G.con⟩
theorem cB {W:Rows} (S:Nb W) {x y:Nat} (h:E W x y):∃ z,R W y z x/\nxt W (x,y)=(y,z)/\E W y z:=by
 obtain ⟨row,e,m⟩:=S.sym _ _ h;obtain ⟨z,n⟩:=lZ m;exact ⟨z,⟨row,e,n⟩,oH S.nd ⟨row,e,n⟩,⟨row,e,(qD n).1⟩⟩
theorem kAZ {W:Rows} (S:Nb W) {x y:Nat} (h:E W x y) (n:Nat):E W (it (nxt W) n (x,y)).1 (it (nxt W) n (x,y)).2:=by
 have:=(gE S.nd S.sym).it n (mem_steps.mpr h);exact mem_steps.mp this
theorem kLU {α:Type} [DecidableEq α] (f:α->α) (x:α) {k:Nat} (h:it f k x=x) (n:Nat):it f (k*n) x=x:=by
 induction n with
 | zero=>rfl
 | succ n ih=>rw [Nat.mul_succ,aH,h,ih]
theorem kGI {α:Type} [DecidableEq α] (f:α->α) (x:α) {k:Nat} (h:it f k x=x) (n:Nat):it f n x=it f (n % k) x:=by
 conv=>lhs;rw [<-Nat.mod_add_div n k]
 rw [aH,kLU f x h]
end Tri
local macro_rules | `(tactic| walk_at "sort_open gallop")=>`(tactic| delta $(Lean.mkIdent (Lean.mkPrivateNameCore `PySem.Builtin.List.W1All `PySem.Builtin.gallop)):ident)
namespace Srt
set_option autoImplicit false
open PySem PyProof.Rows
def vN:Bool->Keyed->Array Keyed->Nat->Nat->Nat->StateT SortSt Sem (Option Nat):=sortPriv% PySem.Builtin.gallop
def bW (left:Bool) (key:Keyed) (arr:Array Keyed) (base:Nat) (i:Nat):StateT SortSt Sem (Option Bool):=do
 let x <-elem' arr (base+i)
 if left then lt' x key else return (<-lt' key x).map (!·)
section
variable {M:Model} {A:Around} {E:Value->Shared->Prop} {s:Shared}
def kKA (left:Bool) (key:Keyed) (arr:Array Keyed) (base n lo0 hi0:Nat):StateT SortSt Sem (Option Nat):=do
 let mut lo:=lo0
 let mut hi:=hi0
 for _ in [0:n] do
  if lo >= hi then break
  let m:=lo+(hi-lo) / 2
  let some more <-bW left key arr base m | return none
  if more then lo:=m+1 else hi:=m
 return some hi
variable {left:Bool} {key:Keyed} {arr:Array Keyed} {base n hint:Nat} {Q:Option Nat->SortSt->Prop} {st:SortSt}
theorem lE (b:Nat->Bool) {lo hi:Nat}
  (hb:∀ i,i<n->∀ Q:Option Bool->SortSt->Prop,Q (some (b i)) st->wpS M A E s (bW left key arr base i) Q st)
  (mono:∀ i j,i<=j->j<n->b j=true->b i=true) (hlh:lo<=hi) (hn:hi<=n) (h1:∀ i,i<lo->b i=true) (h2:∀ i,hi<=i->i<n->b i=false)
  (h:∀ k,k<=n->(∀ i,i<k->b i=true)->(∀ i,k<=i->i<n->b i=false)->Q (some k) st):wpS M A E s (kKA left key arr base n lo hi) Q st:=by
 unfold kKA
 refine wpS_bind (wpS_mono (wpS_forRange (I:=λ x c st'=>st'=st/\∃ l r,c=(none,l,r)/\l<=r/\r<=n/\r-l<=n-x/\(∀ i,i<l->b i=true)/\∀ i,r<=i->i<n->b i=false)
  (Q:=λ c st'=>st'=st/\∃ l,c=(none,l,l)/\l<=n/\(∀ i,i<l->b i=true)/\∀ i,l<=i->i<n->b i=false) ?step ?fin ⟨rfl,lo,hi,rfl,hlh,hn,by omega,h1,h2⟩) ?post)
 case post =>
  rintro c st' ⟨rfl,l,rfl,ln,a1,a2⟩;exact wpS_pure (h l ln a1 a2)
 case fin =>
  rintro c st' ⟨rfl,l,r,rfl,lr,rn,d,a1,a2⟩;have:l=r:=by omega
  subst this;exact ⟨rfl,l,rfl,rn,a1,a2⟩
 case step =>
  rintro x c st' _ hx ⟨rfl,l,r,rfl,lr,rn,d,a1,a2⟩;dsimp only;by_cases hge:l >= r
  ·rw [if_pos hge]
   have:l=r:=by omega
   subst this;exact wpS_pure ⟨rfl,l,rfl,rn,a1,a2⟩
  ·rw [if_neg hge]
   refine wpS_bind (hb _ (by omega) _ ?_)
   cases e:b (l+(r-l) / 2)
   case true =>
    simp only [if_true];exact wpS_pure ⟨rfl,_,r,rfl,by omega,rn,by omega,λ i hi=>mono i _ (by omega) (by omega) e,a2⟩
   case false =>
    simp only [Bool.false_eq_true,if_false];refine wpS_pure ⟨rfl,l,_,rfl,by omega,by omega,by omega,a1,λ i i1 i2=>?_⟩
    cases z:b i with
    | false=>rfl
    | true=>rw [mono _ i i1 i2 z] at e;cases e
theorem sL (b:Nat->Bool)
  (hb:∀ i,i<n->∀ Q:Option Bool->SortSt->Prop,Q (some (b i)) st->wpS M A E s (bW left key arr base i) Q st)
  (mono:∀ i j,i<=j->j<n->b j=true->b i=true) (hh:hint<n)
  (h:∀ k,k<=n->(∀ i,i<k->b i=true)->(∀ i,k<=i->i<n->b i=false)->Q (some k) st):wpS M A E s (vN left key arr base n hint) Q st:=by
 unfold vN
 walk_at "sort_open gallop"
 dsimp only
 have nf:∀ {i j:Nat},i<=j->j<n->b i=false->b j=false:=λ {i j} h1 h2 e=>by
  cases z:b j with
  | false=>rfl
  | true=>rw [mono i j h1 h2 z] at e;cases e
 refine wpS_bind (hb hint hh _ ?_)
 cases e:b hint
 case true =>
  simp only [if_true]
  refine wpS_bind (wpS_mono (wpS_forRange (I:=λ x c st'=>st'=st/\∃ l o,c=(none,l,o)/\l<o/\x+1<=o/\hint+l<n/\b (hint+l)=true)
   (Q:=λ c st'=>st'=st/\∃ l o,c=(none,l,o)/\l<o/\hint+l<n/\b (hint+l)=true/\(n-hint<=o\/(hint+o<n/\b (hint+o)=false))) ?step ?fin ⟨rfl,0,1,rfl,by omega,by omega,by omega,e⟩) ?post)
  case fin =>
   rintro c st' ⟨rfl,l,o,rfl,lo,xo,ln,bl⟩;exact ⟨rfl,l,o,rfl,lo,ln,bl,.inl (by omega)⟩
  case step =>
   rintro x c st' _ hx ⟨rfl,l,o,rfl,lo,xo,ln,bl⟩;dsimp only;by_cases hge:o >= n-hint
   ·rw [if_pos hge]
    exact wpS_pure ⟨rfl,l,o,rfl,lo,ln,bl,.inl hge⟩
   ·rw [if_neg hge]
    refine wpS_bind (hb _ (by omega) _ ?_)
    cases z:b (hint+o)
    case true =>
     simp only [Bool.not_true,Bool.false_eq_true,if_false];exact wpS_pure ⟨rfl,o,_,rfl,by omega,by omega,by omega,z⟩
    case false =>
     simp only [Bool.not_false,if_true];exact wpS_pure ⟨rfl,l,o,rfl,lo,ln,bl,.inr ⟨by omega,z⟩⟩
  case post =>
   rintro c st' ⟨rfl,l,o,rfl,lo,ln,bl,bo⟩;refine lE (lo:=hint+l+1) (hi:=hint+min o (n-hint)) b hb mono (by omega) (by omega) (λ i hi=>mono i (hint+l) (by omega) ln bl) (λ i i1 i2=>?_) h;rcases bo with z | ⟨z1,z2⟩
   ·omega
   ·exact nf (i:=hint+o) (by omega) i2 z2
 case false =>
  simp only [Bool.false_eq_true,if_false]
  refine wpS_bind (wpS_mono (wpS_forRange (I:=λ x c st'=>st'=st/\∃ l o,c=(none,l,o)/\l<o/\x+1<=o/\l<=hint/\b (hint-l)=false)
   (Q:=λ c st'=>st'=st/\∃ l o,c=(none,l,o)/\l<o/\l<=hint/\b (hint-l)=false/\(hint+1<=o\/(o<=hint/\b (hint-o)=true))) ?step ?fin ⟨rfl,0,1,rfl,by omega,by omega,by omega,e⟩) ?post)
  case fin =>
   rintro c st' ⟨rfl,l,o,rfl,lo,xo,ln,bl⟩;exact ⟨rfl,l,o,rfl,lo,ln,bl,.inl (by omega)⟩
  case step =>
   rintro x c st' _ hx ⟨rfl,l,o,rfl,lo,xo,ln,bl⟩;dsimp only;by_cases hge:o >= hint+1
   ·rw [if_pos hge]
    exact wpS_pure ⟨rfl,l,o,rfl,lo,ln,bl,.inl hge⟩
   ·rw [if_neg hge]
    refine wpS_bind (hb _ (by omega) _ ?_)
    cases z:b (hint-o)
    case false =>
     simp only [Bool.false_eq_true,if_false];exact wpS_pure ⟨rfl,o,_,rfl,by omega,by omega,by omega,z⟩
    case true =>
     simp only [if_true];exact wpS_pure ⟨rfl,l,o,rfl,lo,ln,bl,.inr ⟨by omega,z⟩⟩
  case post =>
   rintro c st' ⟨rfl,l,o,rfl,lo,ln,bl,bo⟩;refine lE (lo:=hint+1-min o (hint+1)) (hi:=hint-l) b hb mono (by omega) (by omega) (λ i hi=>?_) (λ i i1 i2=>nf (i:=hint-l) i1 i2 bl) h;rcases bo with z | ⟨z1,z2⟩
   ·omega
   ·exact mono i (hint-o) (by omega) (by omega) z2
end
end Srt
namespace Srt
set_option autoImplicit false
open PySem PyProof.Rows
section
variable {α:Type}
structure Wk (lb:α->α->Bool):Prop where
 irr:∀ a,lb a a=false
 neg:∀ a b c,lb a c=true->lb a b=true\/lb b c=true
 tr:∀ a b c,lb a b=true->lb b c=true->lb a c=true
variable {lb:α->α->Bool}
def le (lb:α->α->Bool) (a b:α):Prop:=lb b a=false
theorem Wk.refl (W:Wk lb) (a:α):le lb a a:=W.irr a
theorem Wk.of_lt (W:Wk lb) {a b:α} (h:lb a b=true):le lb a b:=by
 unfold le
 cases e:lb b a with
 | false=>rfl
 | true=>have:=W.tr _ _ _ h e;rw [W.irr] at this;cases this
theorem Wk.trans (W:Wk lb) {a b c:α} (h:le lb a b) (k:le lb b c):le lb a c:=by
 unfold le at *
 cases e:lb c a with
 | false=>rfl
 | true =>
  rcases W.neg c b a e with z | z
  ·rw [k] at z;cases z
  ·rw [h] at z;cases z
def jF (lb:α->α->Bool) (l:List α):Prop:=l.Pairwise (le lb)
structure Mg (lb:α->α->Bool) (A B:List α) (out ra rb:List α):Prop where
 sa:jF lb (out++ra)
 sb:jF lb (out++rb)
 pm:(out++(ra++rb)).Perm (A++B)
theorem Mg.moveA {A B out c ra rb:List α} (h:Mg lb A B out (c++ra) rb) (hc:∀ x∈c,∀ y∈rb,le lb x y):Mg lb A B (out++c) ra rb:=by
 refine ⟨by rw [append_assoc];exact h.sa,?_,?_⟩
 ·have h1:=pairwise_append.mp h.sa
  have h2:=pairwise_append.mp h.sb;have h3:=pairwise_append.mp h1.2.1;rw [jF,append_assoc];refine pairwise_append.mpr ⟨h1.1,pairwise_append.mpr ⟨h3.1,h2.2.1,hc⟩,λ x hx y hy=>?_⟩;rcases mem_append.mp hy with z | z
  ·exact h1.2.2 x hx y (mem_append_left _ z)
  ·exact h2.2.2 x hx y z
 ·refine List.Perm.trans ?_ h.pm
  simp only [append_assoc];exact List.Perm.refl _
theorem Mg.swap {A B out ra rb:List α} (h:Mg lb A B out ra rb):Mg lb B A out rb ra :=
 ⟨h.sb,h.sa,((perm_append_comm).append_left out).trans (h.pm.trans perm_append_comm)⟩
theorem Mg.moveB {A B out c ra rb:List α} (h:Mg lb A B out ra (c++rb)) (hc:∀ x∈c,∀ y∈ra,le lb x y):Mg lb A B (out++c) ra rb:=(h.swap.moveA hc).swap
def Res (lb:α->α->Bool) (A B r:List α):Prop:=jF lb r/\r.Perm (A++B)
theorem Mg.endA {A B out ra:List α} (h:Mg lb A B out ra []):Res lb A B (out++ra++[]):=⟨by simpa using h.sa,by simpa using h.pm⟩
theorem Mg.endB {A B out rb:List α} (h:Mg lb A B out [] rb):Res lb A B (out++[]++rb):=⟨by simpa using h.sb,by simpa using h.pm⟩
theorem Mg.last {A B out rb:List α} {z:α} (h:Mg lb A B out [z] rb) (hz:∀ y∈rb,le lb y z):Res lb A B (out++rb++[z]):=by
 refine ⟨?_,?_⟩
 ·have h1:=pairwise_append.mp h.sa
  have h2:=pairwise_append.mp h.sb;refine pairwise_append.mpr ⟨h.sb,pairwise_singleton _ _,λ x hx y hy=>?_⟩;have:y=z:=by simpa using hy
  subst this;rcases mem_append.mp hx with w | w
  ·exact h1.2.2 x w y (by simp)
  ·exact hz x w
 ·refine List.Perm.trans ?_ h.pm
  rw [append_assoc];exact perm_append_comm.append_left out
end
def gG:Array Keyed->Array Keyed->StateT SortSt Sem (Array Keyed):=sortPriv% PySem.Builtin.mergeLo
def xJ:Nat->StateT SortSt Sem Unit:=sortPriv% PySem.Builtin.setMinGallop
abbrev wG (st:SortSt) (g:Nat):SortSt:=SortSt.mk' (kindOf st) (arrOf st) (pendingOf st) g (failedOf st)
theorem setMinGallop'_eq (g:Nat):xJ g=modify λ s=>wG s g:=rfl
end Srt
local macro_rules | `(tactic| walk_at "sort_open mergeLo")=>`(tactic| delta $(Lean.mkIdent (Lean.mkPrivateNameCore `PySem.Builtin.List.W1All `PySem.Builtin.mergeLo)):ident)
namespace Srt
set_option autoImplicit false
open PySem PyProof.Rows
section
variable {M:Model} {A:Around} {E:Value->Shared->Prop} {s:Shared} {lb:Keyed->Keyed->Bool} {D:Keyed->Prop} {kd:SortKind}
def vV (M:Model) (A:Around) (E:Value->Shared->Prop) (s:Shared) (lb:Keyed->Keyed->Bool) (D:Keyed->Prop) (kd:SortKind):Prop :=
 ∀ x y,D x->D y->∀ (st:SortSt) (Q:Option Bool->SortSt->Prop),kindOf st=kd->Q (some (lb x y)) st->wpS M A E s (lt' x y) Q st
theorem qJ {arr:Array Keyed} {i:Nat} {p:Keyed} {Q:Keyed->SortSt->Prop} {st:SortSt} (h:arr[i]?=some p) (q:Q p st):wpS M A E s (elem' arr i) Q st:=by
 rw [elem'_eq,h];exact wpS_pure q
def Sm (st st':SortSt):Prop:=kindOf st'=kindOf st/\arrOf st'=arrOf st/\pendingOf st'=pendingOf st/\failedOf st'=failedOf st
theorem Sm.refl (st:SortSt):Sm st st:=⟨rfl,rfl,rfl,rfl⟩
theorem Sm.gal {st st':SortSt} (h:Sm st st') (g:Nat):Sm st (wG st' g):=h
theorem wM {x:String} {Q:Unit->SortSt->Prop} {st:SortSt} (q:Q () st):wpS M A E s (liftM (rule x):StateT SortSt Sem Unit) Q st:=wpS_lift (wpAny_rule ⟨rfl,q⟩)
theorem sN (hL:vV M A E s lb D kd) {left:Bool} {key x:Keyed} {arr:Array Keyed} {base i:Nat} {Q:Option Bool->SortSt->Prop} {st:SortSt} (hk:kindOf st=kd) (hx:arr[base+i]?=some x) (dk:D key) (dx:D x)
  (q:Q (some (if left then lb x key else !lb key x)) st):wpS M A E s (bW left key arr base i) Q st:=by
 unfold bW;refine wpS_bind (qJ hx ?_)
 cases left with
 | true =>
  simp only [if_true] at q ⊢;exact hL _ _ dx dk st _ hk q
 | false =>
  simp only [Bool.false_eq_true,if_false] at q ⊢;exact wpS_bind (hL _ _ dk dx st _ hk (wpS_pure q))
theorem uJ (W:Wk lb) (hL:vV M A E s lb D kd) {left:Bool} {key:Keyed} {arr:Array Keyed} {base n hint:Nat} {Q:Option Nat->SortSt->Prop} {st:SortSt} (hk:kindOf st=kd) (dk:D key) (da:∀ x∈arr.toList,D x)
  (hn:base+n<=arr.size) (hs:∀ i j (hi:i<=j) (hj:j<n),le lb (arr[base+i]'(by omega)) (arr[base+j]'(by omega))) (hh:hint<n)
  (h:∀ k,k<=n->(∀ i (hi:i<k) (hin:i<n),if left then lb (arr[base+i]'(by omega)) key=true else le lb (arr[base+i]'(by omega)) key) ->
   (∀ i (hi:k<=i) (hin:i<n),if left then le lb key (arr[base+i]'(by omega)) else lb key (arr[base+i]'(by omega))=true)->Q (some k) st):wpS M A E s (vN left key arr base n hint) Q st:=by
 have g:∀ i,i<n->arr[base+i]?=some (arr.getD (base+i) key):=λ i hi=>by
  rw [getElem?_pos arr (base+i) (by omega)]
  congr 1
  simp [Array.getD,show base+i<arr.size by omega]
 have ge:∀ i (hi:i<n),arr.getD (base+i) key=arr[base+i]'(by omega):=λ i hi=>by simp [Array.getD,show base+i<arr.size by omega]
 refine sL (λ i=>if left then lb (arr.getD (base+i) key) key else !lb key (arr.getD (base+i) key)) (λ i hi Q q=>sN hL hk (g i hi) dk (by rw [ge i hi];exact da _ (by simp)) q) (λ i j hi hj e=>?_) hh (λ k kn h1 h2=>h k kn (λ i hi hin=>?_) (λ i hi hin=>?_))
 ·have:=hs i j hi hj
  rw [ge i (by omega)];rw [ge j hj] at e
  cases left with
  | true =>
   simp only [if_true] at e ⊢;rcases W.neg _ (arr[base+i]'(by omega)) _ e with z | z
   ·rw [show lb _ _=false from this] at z;cases z
   ·exact z
  | false =>
   simp only [Bool.false_eq_true,if_false,Bool.not_eq_true'] at e ⊢;exact W.trans (lb:=lb) this (show le lb _ _ from e)
 ·have:=h1 i hi
  rw [ge i hin] at this
  cases left with
  | true=>simpa using this
  | false=>simp only [Bool.false_eq_true,if_false,Bool.not_eq_true'] at this ⊢;exact this
 ·have:=h2 i hi hin
  rw [ge i hin] at this
  cases left with
  | true=>simp only [if_true] at this ⊢;exact this
  | false=>simp only [Bool.false_eq_true,if_false,Bool.not_eq_false'] at this ⊢;exact this
abbrev LS:=Option (Array Keyed)×Array Keyed×Nat×Nat×Nat×Nat×Nat
section
variable (a b:Array Keyed)
def pC (out:Array Keyed) (ia ib g k k1:Nat):StateT SortSt Sem (ForInStep LS):=do
 let x <-elem' a ia
 if (ia+1+1 == a.size)=true then pure (.done (some (out.push x++b.extract ib++a.extract (ia+1)),out.push x,ia+1,ib,g,k,k1))
 else if (decide (k<7) && decide (k1<7))=true then pure (.done (none,out.push x,ia+1,ib,g,k,k1)) else pure (.yield (none,out.push x,ia+1,ib,g,k,k1))
def pB (out:Array Keyed) (ia ib g k ob:Nat):StateT SortSt Sem (ForInStep LS):=do
 let y <-elem' b ib
 if (ib+1 == b.size)=true then pure (.done (some (out.push y++a.extract ia++b.extract (ib+1)),out.push y,ia,ib+1,g,k,ob))
 else do
  let x <-elem' a ia
  let r <-vN true x b (ib+1) (b.size-(ib+1)) 0
  match r with
  | some k1 =>
   if k1>0 then
    if (ib+1+k1 == b.size)=true then pure (.done (some (out.push y++b.extract (ib+1) (ib+1+k1)++a.extract ia++b.extract (ib+1+k1)),out.push y++b.extract (ib+1) (ib+1+k1),ia,ib+1+k1,g,k,k1))
    else pC a b (out.push y++b.extract (ib+1) (ib+1+k1)) ia (ib+1+k1) g k k1
   else pC a b (out.push y) ia (ib+1) g k k1
  | x=>pure (.done (some (out.push y++a.extract ia++b.extract (ib+1)),out.push y,ia,ib+1,g,k,ob))
def pA (out:Array Keyed) (ia ib g oa ob:Nat):StateT SortSt Sem (ForInStep LS):=do
 xJ g
 let y <-elem' b ib
 let r <-vN false y a ia (a.size-ia) 0
 match r with
 | some k =>
  if k>0 then
   if (ia+k+1 == a.size)=true then pure (.done (some (out++a.extract ia (ia+k)++b.extract ib++a.extract (ia+k)),out++a.extract ia (ia+k),ia+k,ib,g,k,ob))
   else if (ia+k == a.size)=true then pure (.done (some (out++a.extract ia (ia+k)++a.extract (ia+k)++b.extract ib),out++a.extract ia (ia+k),ia+k,ib,g,k,ob))
   else pB a b (out++a.extract ia (ia+k)) (ia+k) ib g k ob
  else pB a b out ia ib g k ob
 | x=>pure (.done (some (out++a.extract ia++b.extract ib),out,ia,ib,g,oa,ob))
abbrev LS1:=Option (Array Keyed)×Array Keyed×Nat×Nat×Nat×Nat
def p1 (mg:Nat) (c:LS1):StateT SortSt Sem (ForInStep LS1):=do
 let y <-elem' b c.2.2.2.1
 let x <-elem' a c.2.2.1
 let r <-lt' y x
 match r with
 | some bw =>
  if bw=true then do
   let y <-elem' b c.2.2.2.1
   if (c.2.2.2.1+1 == b.size)=true then pure (.done (some (c.2.1.push y++a.extract c.2.2.1++b.extract (c.2.2.2.1+1)),c.2.1.push y,c.2.2.1,c.2.2.2.1+1,0,c.2.2.2.2.2+1))
   else if c.2.2.2.2.2+1 >= mg then pure (.done (none,c.2.1.push y,c.2.2.1,c.2.2.2.1+1,0,c.2.2.2.2.2+1))
   else pure (.yield (none,c.2.1.push y,c.2.2.1,c.2.2.2.1+1,0,c.2.2.2.2.2+1))
  else do
   let x <-elem' a c.2.2.1
   if (c.2.2.1+1+1 == a.size)=true then pure (.done (some (c.2.1.push x++b.extract c.2.2.2.1++a.extract (c.2.2.1+1)),c.2.1.push x,c.2.2.1+1,c.2.2.2.1,c.2.2.2.2.1+1,0))
   else if c.2.2.2.2.1+1 >= mg then pure (.done (none,c.2.1.push x,c.2.2.1+1,c.2.2.2.1,c.2.2.2.2.1+1,0))
   else pure (.yield (none,c.2.1.push x,c.2.2.1+1,c.2.2.2.1,c.2.2.2.2.1+1,0))
 | x=>pure (.done (some (c.2.1++a.extract c.2.2.1++b.extract c.2.2.2.1),c.2.1,c.2.2.1,c.2.2.2.1,c.2.2.2.2.1,c.2.2.2.2.2))
abbrev LS0:=Option (Array Keyed)×Array Keyed×Nat×Nat×Nat
def p0 (c:LS0):StateT SortSt Sem (ForInStep LS0):=do
 let d <-forIn [:a.size+b.size] ((none,c.2.1,c.2.2.1,c.2.2.2.1,0,0):LS1) λ x d=>p1 a b c.2.2.2.2 d
 match d.1 with
 | some r=>pure (.done (some r,d.2.1,d.2.2.1,d.2.2.2.1,c.2.2.2.2))
 | none=>do
  liftM (rule "list.sort.gallop")
  let f <-forIn [:a.size+b.size] ((none,d.2.1,d.2.2.1,d.2.2.2.1,c.2.2.2.2+1,d.2.2.2.2.1,d.2.2.2.2.2):LS) λ x f =>
   if f.2.2.2.2.1>1 then pA a b f.2.1 f.2.2.1 f.2.2.2.1 (f.2.2.2.2.1-1) f.2.2.2.2.2.1 f.2.2.2.2.2.2 else pA a b f.2.1 f.2.2.1 f.2.2.2.1 f.2.2.2.2.1 f.2.2.2.2.2.1 f.2.2.2.2.2.2
  match f.1 with
  | some r=>pure (.done (some r,f.2.1,f.2.2.1,f.2.2.2.1,f.2.2.2.2.1))
  | none=>do
   xJ (f.2.2.2.2.1+1)
   pure (.yield (none,f.2.1,f.2.2.1,f.2.2.2.1,f.2.2.2.2.1+1))
theorem mergeLo'_parts:gG a b=(do
  liftM (rule "list.sort.merge-lo")
  let y <-elem' b 0
  if (1 == b.size)=true then pure (#[y]++a.extract 0++b.extract 1)
  else if (0+1 == a.size)=true then pure (#[y]++b.extract 1++a.extract 0)
  else do
   let st <-get
   let c <-forIn [:a.size+b.size] ((none,#[y],0,1,gallopOf st):LS0) λ x c=>p0 a b c
   match c.1 with
   | some r=>pure r
   | none=>unsupported "internal:list.sort.merge-bound"):=by
 unfold gG
 walk_at "sort_open mergeLo"
 dsimp only;refine congrArg _ (funext λ _=>?_);refine congrArg _ (funext λ y=>?_);refine congrArg _ ?_;refine congrArg _ ?_;refine congrArg _ (funext λ st=>?_);refine congr (congrArg _ (congrArg _ (funext λ x=>funext λ c=>?_))) (funext λ c=>by cases c.1<;>rfl);unfold p0;refine congr (congrArg _ (congrArg _ (funext λ x=>funext λ d=>?_))) (funext λ d=>?_)
 ·unfold p1
  refine congrArg _ (funext λ _=>?_);refine congrArg _ (funext λ _=>?_);refine congrArg _ (funext λ r=>?_);cases r<;>rfl
 ·cases d.1 with
  | some r=>rfl
  | none =>
   dsimp only;refine congrArg _ (funext λ _=>?_);refine congr (congrArg _ (congrArg _ (funext λ x=>funext λ f=>?_))) (funext λ f=>by cases f.1<;>rfl);have tail:∀ (out:Array Keyed) (ia ib g k ob:Nat),True:=λ _ _ _ _ _ _=>trivial;refine ite_congr rfl (λ _=>?_) (λ _=>?_)
   all_goals
    unfold pA;refine congrArg _ (funext λ _=>?_);refine congrArg _ (funext λ y=>?_);refine congrArg _ (funext λ r=>?_)
    cases r with
    | none=>rfl
    | some k =>
     dsimp only;refine ite_congr rfl (λ _=>ite_congr rfl (λ _=>rfl) (λ _=>ite_congr rfl (λ _=>rfl) (λ _=>?_))) (λ _=>?_)
     all_goals
      unfold pB;refine congrArg _ (funext λ y=>?_);refine ite_congr rfl (λ _=>rfl) (λ _=>?_);refine congrArg _ (funext λ x=>?_);refine congrArg _ (funext λ r=>?_);cases r<;>rfl
end
end
end Srt
namespace Srt
set_option autoImplicit false
open PySem PyProof.Rows
section
variable {α:Type}
theorem wZ (a:Array α) (i:Nat):(a.extract i).toList=a.toList.drop i:=by
 rw [Array.toList_extract,List.extract_eq_take_drop];exact take_of_length_le (by simp)
theorem xD (a:Array α) (i k:Nat):(a.extract i (i+k)).toList=(a.toList.drop i).take k:=by
 rw [Array.toList_extract,List.extract_eq_take_drop]
 congr 1
 omega
theorem drop_one {a:Array α} {i:Nat} (h:i<a.size):a.toList.drop i=[a[i]]++a.toList.drop (i+1):=by
 rw [drop_eq_getElem_cons (by simpa using h)]
 rfl
theorem kAC (l:List α) (i k:Nat):l.drop i=(l.drop i).take k++l.drop (i+k):=by
 conv=>lhs;rw [<-take_append_drop k (l.drop i)]
 rw [drop_drop]
end
section
variable {M:Model} {A:Around} {E:Value->Shared->Prop} {s:Shared} {lb:Keyed->Keyed->Bool} {D:Keyed->Prop} {kd:SortKind} {a b:Array Keyed}
structure Hy (M:Model) (A:Around) (E:Value->Shared->Prop) (s:Shared) (lb:Keyed->Keyed->Bool) (D:Keyed->Prop) (kd:SortKind) (a b:Array Keyed):Prop where
 W:Wk lb
 L:vV M A E s lb D kd
 da:∀ x∈a.toList,D x
 db:∀ x∈b.toList,D x
 sa:jF lb a.toList
 sb:jF lb b.toList
 last:∀ (h:0<a.size),∀ y∈b.toList,le lb y a[a.size-1]
def MI (lb:Keyed->Keyed->Bool) (a b:Array Keyed) (out:Array Keyed) (ia ib:Nat):Prop :=
 Mg lb a.toList b.toList out.toList (a.toList.drop ia) (b.toList.drop ib)/\ia+1<a.size/\ib<b.size/\out.size=ia+ib
def Yd (lb:Keyed->Keyed->Bool) (a b:Array Keyed) (n:Nat) {γ:Type} (c:Option (Array Keyed)×Array Keyed×Nat×Nat×γ):Prop:=c.1=none/\MI lb a b c.2.1 c.2.2.1 c.2.2.2.1/\n<=c.2.1.size
def Dn (lb:Keyed->Keyed->Bool) (a b:Array Keyed) (n:Nat) {γ:Type} (c:Option (Array Keyed)×Array Keyed×Nat×Nat×γ):Prop:=(∃ r,c.1=some r/\Res lb a.toList b.toList r.toList)\/Yd lb a b n c
def RR (lb:Keyed->Keyed->Bool) (a b:Array Keyed) (n:Nat) {γ:Type}:ForInStep (Option (Array Keyed)×Array Keyed×Nat×Nat×γ)->Prop
 | .done c=>Dn lb a b n c
 | .yield c=>Yd lb a b n c
theorem wF (W:Wk lb) {a:Array Keyed} (h:jF lb a.toList) {i j:Nat} (hij:i<=j) (hj:j<a.size):le lb (a[i]'(by omega)) a[j]:=by
 by_cases e:i=j
 ·subst e;exact W.refl _
 ·have:=pairwise_iff_getElem.mp h i j (by simp;omega) (by simp;omega) (by omega)
  simpa using this
theorem yZ {a:Array Keyed} {i:Nat} {x:Keyed} (h:x∈a.toList.drop i):∃ j,∃ hj:j<a.size,i<=j/\x=a[j]:=by
 obtain ⟨k,hk,e⟩:=mem_iff_getElem.mp h;rw [length_drop] at hk;refine ⟨i+k,by simp at hk;omega,by omega,?_⟩;rw [<-e,List.getElem_drop];simp
theorem kBE {out:Array Keyed} {ia ib:Nat} (h:Mg lb a.toList b.toList out.toList (a.toList.drop ia) (b.toList.drop ib)) (e:ib=b.size):Res lb a.toList b.toList (out++a.extract ia++b.extract ib).toList:=by
 rw [Array.toList_append,Array.toList_append,wZ,wZ];have z:b.toList.drop ib=[]:=drop_eq_nil_of_le (by simp;omega);rw [z] at h ⊢;exact h.endA
theorem kNH {out:Array Keyed} {ia ib:Nat} (h:Mg lb a.toList b.toList out.toList (a.toList.drop ia) (b.toList.drop ib)) (e:ia=a.size):Res lb a.toList b.toList (out++a.extract ia++b.extract ib).toList:=by
 rw [Array.toList_append,Array.toList_append,wZ,wZ];have z:a.toList.drop ia=[]:=drop_eq_nil_of_le (by simp;omega);rw [z] at h ⊢;exact h.endB
theorem bU (H:Hy M A E s lb D kd a b) {out:Array Keyed} {ia ib:Nat} (h:Mg lb a.toList b.toList out.toList (a.toList.drop ia) (b.toList.drop ib)) (e:ia+1=a.size):Res lb a.toList b.toList (out++b.extract ib++a.extract ia).toList:=by
 rw [Array.toList_append,Array.toList_append,wZ,wZ]
 have z:a.toList.drop ia=[a[a.size-1]'(by omega)]:=by
  rw [drop_one (show ia<a.size by omega),drop_eq_nil_of_le (by simp;omega)];simp only [append_nil]
  congr 2
  omega
 rw [z] at h ⊢;exact h.last λ y hy=>H.last (by omega) y (List.mem_of_mem_drop hy)
theorem sS (H:Hy M A E s lb D kd a b) {out:Array Keyed} {ia ib:Nat} (ha:ia<a.size) (hb:ib<b.size) (h:Mg lb a.toList b.toList out.toList (a.toList.drop ia) (b.toList.drop ib)) (c:le lb b[ib] a[ia]):Mg lb a.toList b.toList (out.push b[ib]).toList (a.toList.drop ia) (b.toList.drop (ib+1)):=by
 rw [drop_one hb] at h;rw [Array.toList_push];refine h.moveB λ x hx y hy=>?_;have:x=b[ib]:=by simpa using hx
 subst this;obtain ⟨j,hj,ij,rfl⟩:=yZ hy;exact H.W.trans c (wF H.W H.sa ij hj)
theorem kES (H:Hy M A E s lb D kd a b) {out:Array Keyed} {ia ib:Nat} (ha:ia<a.size) (h:Mg lb a.toList b.toList out.toList (a.toList.drop ia) (b.toList.drop ib)) (c:∀ y∈b.toList.drop ib,le lb a[ia] y):Mg lb a.toList b.toList (out.push a[ia]).toList (a.toList.drop (ia+1)) (b.toList.drop ib):=by
 rw [drop_one ha] at h;rw [Array.toList_push];refine h.moveA λ x hx y hy=>?_;have:x=a[ia]:=by simpa using hx
 subst this;exact c y hy
theorem kNR (H:Hy M A E s lb D kd a b) {ib:Nat} {x:Keyed} (hb:ib<b.size) (c:le lb x b[ib]):∀ y∈b.toList.drop ib,le lb x y:=λ y hy=>by
 obtain ⟨j,hj,ij,rfl⟩:=yZ hy;exact H.W.trans c (wF H.W H.sb ij hj)
theorem kKF (H:Hy M A E s lb D kd a b) {st:SortSt} (hk:kindOf st=kd) {out:Array Keyed} {ia ib u v mg:Nat} (h:MI lb a b out ia ib) {Q:ForInStep LS1->SortSt->Prop}
  (q:∀ r,RR lb a b (out.size+1) r->Q r st):wpS M A E s (p1 a b mg (none,out,ia,ib,u,v)) Q st:=by
 obtain ⟨m,h1,h2,h3⟩:=h;have ha:ia<a.size:=by omega
 unfold p1;dsimp only;refine wpS_bind (qJ (getElem?_pos b ib h2) ?_);refine wpS_bind (qJ (getElem?_pos a ia ha) ?_);refine wpS_bind (H.L _ _ (H.db _ (by simp)) (H.da _ (by simp)) st _ hk ?_)
 cases e:lb b[ib] a[ia]
 case true =>
  simp only [if_true];refine wpS_bind (qJ (getElem?_pos b ib h2) ?_);have m':=sS H ha h2 m (H.W.of_lt e);by_cases c:ib+1=b.size
  ·rw [if_pos (by simpa using c)]
   exact wpS_pure (q _ (.inl ⟨_,rfl,kBE m' c⟩))
  ·rw [if_neg (by simpa using c)]
   have y:Yd lb a b (out.size+1) (none,out.push b[ib],ia,ib+1,(0,v+1)):=⟨rfl,⟨m',h1,by show ib+1<b.size;omega,by show (out.push b[ib]).size=ia+(ib+1);rw [Array.size_push];omega⟩,by show out.size+1<=(out.push b[ib]).size;rw [Array.size_push];omega⟩
   split
   ·exact wpS_pure (q _ (.inr y))
   ·exact wpS_pure (q _ y)
 case false =>
  simp only [Bool.false_eq_true,if_false];refine wpS_bind (qJ (getElem?_pos a ia ha) ?_);have m':=kES H ha m (kNR H h2 e);by_cases c:ia+1+1=a.size
  ·rw [if_pos (by simpa using c)]
   exact wpS_pure (q _ (.inl ⟨_,rfl,bU H m' c⟩))
  ·rw [if_neg (by simpa using c)]
   have y:Yd lb a b (out.size+1) (none,out.push a[ia],ia+1,ib,(u+1,0)):=⟨rfl,⟨m',by show ia+1+1<a.size;omega,h2,by show (out.push a[ia]).size=ia+1+ib;rw [Array.size_push];omega⟩,by show out.size+1<=(out.push a[ia]).size;rw [Array.size_push];omega⟩
   split
   ·exact wpS_pure (q _ (.inr y))
   ·exact wpS_pure (q _ y)
end
end Srt
namespace Srt
set_option autoImplicit false
open PySem PyProof.Rows
section
variable {M:Model} {A:Around} {E:Value->Shared->Prop} {s:Shared} {lb:Keyed->Keyed->Bool} {D:Keyed->Prop} {kd:SortKind} {a b:Array Keyed}
theorem wB {a:Array Keyed} {i k:Nat} {x:Keyed} (h:x∈(a.toList.drop i).take k):∃ j,∃ hj:i+j<a.size,j<k/\x=a[i+j]:=by
 obtain ⟨j,hj,e⟩:=mem_iff_getElem.mp h;rw [length_take,length_drop] at hj;refine ⟨j,by simp at hj;omega,by omega,?_⟩;rw [<-e,List.getElem_take,List.getElem_drop];simp
theorem kJO {out:Array Keyed} {ia ib k:Nat} (h:Mg lb a.toList b.toList out.toList (a.toList.drop ia) (b.toList.drop ib)) (c:∀ x∈(b.toList.drop ib).take k,∀ y∈a.toList.drop ia,le lb x y):Mg lb a.toList b.toList (out++b.extract ib (ib+k)).toList (a.toList.drop ia) (b.toList.drop (ib+k)):=by
 rw [Array.toList_append,xD];rw [kAC b.toList ib k] at h;exact h.moveB c
theorem kJP {out:Array Keyed} {ia ib k:Nat} (h:Mg lb a.toList b.toList out.toList (a.toList.drop ia) (b.toList.drop ib)) (c:∀ x∈(a.toList.drop ia).take k,∀ y∈b.toList.drop ib,le lb x y):Mg lb a.toList b.toList (out++a.extract ia (ia+k)).toList (a.toList.drop (ia+k)) (b.toList.drop ib):=by
 rw [Array.toList_append,xD];rw [kAC a.toList ia k] at h;exact h.moveA c
theorem kEA (H:Hy M A E s lb D kd a b) {st:SortSt} {out:Array Keyed} {ia ib g k k1 n:Nat} (h:MI lb a b out ia ib) (hn:n<=out.size+1) (c:∀ (hh:ia<a.size),∀ y∈b.toList.drop ib,le lb a[ia] y) {Q:ForInStep LS->SortSt->Prop}
  (q:∀ r,RR lb a b n r->Q r st):wpS M A E s (pC a b out ia ib g k k1) Q st:=by
 obtain ⟨m,h1,h2,h3⟩:=h;have ha:ia<a.size:=by omega
 unfold pC;refine wpS_bind (qJ (getElem?_pos a ia ha) ?_);have m':=kES H ha m (c ha);by_cases e:ia+1+1=a.size
 ·rw [if_pos (by simpa using e)]
  exact wpS_pure (q _ (.inl ⟨_,rfl,bU H m' e⟩))
 ·rw [if_neg (by simpa using e)]
  have y:Yd lb a b n (none,out.push a[ia],ia+1,ib,(g,k,k1)):=⟨rfl,⟨m',by show ia+1+1<a.size;omega,h2,by show (out.push a[ia]).size=ia+1+ib;rw [Array.size_push];omega⟩,by show n<=(out.push a[ia]).size;rw [Array.size_push];omega⟩
  split
  ·exact wpS_pure (q _ (.inr y))
  ·exact wpS_pure (q _ y)
theorem kEB (H:Hy M A E s lb D kd a b) {st:SortSt} (hk:kindOf st=kd) {out:Array Keyed} {ia ib g k ob n:Nat} (h:MI lb a b out ia ib) (hn:n<=out.size+1) (c:∀ (ha:ia<a.size) (hb:ib<b.size),le lb b[ib] a[ia]) {Q:ForInStep LS->SortSt->Prop}
  (q:∀ r,RR lb a b n r->Q r st):wpS M A E s (pB a b out ia ib g k ob) Q st:=by
 obtain ⟨m,h1,h2,h3⟩:=h;have ha:ia<a.size:=by omega
 unfold pB;refine wpS_bind (qJ (getElem?_pos b ib h2) ?_);have m':=sS H ha h2 m (c ha h2);have sz:(out.push b[ib]).size=ia+(ib+1):=by rw [Array.size_push];omega
 by_cases e:ib+1=b.size
 ·rw [if_pos (by simpa using e)]
  exact wpS_pure (q _ (.inl ⟨_,rfl,kBE m' e⟩))
 ·rw [if_neg (by simpa using e)]
  refine wpS_bind (qJ (getElem?_pos a ia ha) ?_);refine wpS_bind (uJ H.W H.L hk (H.da _ (by simp)) H.db (by omega) (λ i j hi hj=>wF H.W H.sb (by omega) (by omega)) (by omega) λ k1 kn g1 g2=>?_);simp only [if_true] at g1 g2
  have rest:∀ y∈b.toList.drop (ib+1+k1),le lb a[ia] y:=λ y hy=>by
   obtain ⟨j,hj,ij,rfl⟩:=yZ hy;have:=g2 (j-(ib+1)) (by omega) (by omega);simp only [show ib+1+(j-(ib+1))=j by omega] at this;exact this
  dsimp only;by_cases k0:k1>0
  ·rw [if_pos k0]
   have m2:=kJO (k:=k1) m' λ x hx y hy=>by
    obtain ⟨j,hj,jk,rfl⟩:=wB hx;obtain ⟨i,hi,ii,rfl⟩:=yZ hy;exact H.W.trans (H.W.of_lt (g1 j jk (by omega))) (wF H.W H.sa ii hi)
   have sz2:(out.push b[ib]++b.extract (ib+1) (ib+1+k1)).size=ia+(ib+1+k1):=by
    rw [Array.size_append,sz,Array.size_extract];omega
   by_cases e2:ib+1+k1=b.size
   ·rw [if_pos (by simpa using e2)]
    exact wpS_pure (q _ (.inl ⟨_,rfl,kBE m2 e2⟩))
   ·rw [if_neg (by simpa using e2)]
    exact kEA H ⟨m2,h1,by omega,sz2⟩ (by omega) (λ _=>rest) q
  ·rw [if_neg k0]
   have:k1=0:=by omega
   subst this;exact kEA H ⟨m',h1,by omega,sz⟩ (by omega) (λ _=>rest) q
theorem kKE (H:Hy M A E s lb D kd a b) {st:SortSt} (hk:kindOf st=kd) {out:Array Keyed} {ia ib g oa ob n:Nat} (h:MI lb a b out ia ib) (hn:n<=out.size+1) {Q:ForInStep LS->SortSt->Prop}
  (q:∀ r,RR lb a b n r->Q r (wG st g)):wpS M A E s (pA a b out ia ib g oa ob) Q st:=by
 obtain ⟨m,h1,h2,h3⟩:=id h;have ha:ia<a.size:=by omega
 unfold pA;rw [setMinGallop'_eq];refine wpS_bind (wpS_modify ?_);refine wpS_bind (qJ (getElem?_pos b ib h2) ?_);refine wpS_bind (uJ (st:=wG st g) H.W H.L hk (H.db _ (by simp)) H.da (by omega) (λ i j hi hj=>wF H.W H.sa (by omega) (by omega)) (by omega) λ k kn g1 g2=>?_);simp only [Bool.false_eq_true,if_false] at g1 g2;dsimp only;by_cases k0:k>0
 ·rw [if_pos k0]
  have m2:=kJP (k:=k) m λ x hx y hy=>by
   obtain ⟨j,hj,jk,rfl⟩:=wB hx;obtain ⟨i,hi,ii,rfl⟩:=yZ hy;exact H.W.trans (g1 j jk (by omega)) (wF H.W H.sb ii hi)
  have sz2:(out++a.extract ia (ia+k)).size=ia+k+ib:=by
   rw [Array.size_append,Array.size_extract];omega
  by_cases e1:ia+k+1=a.size
  ·rw [if_pos (by simpa using e1)]
   exact wpS_pure (q _ (.inl ⟨_,rfl,bU H m2 e1⟩))
  ·rw [if_neg (by simpa using e1)]
   by_cases e2:ia+k=a.size
   ·rw [if_pos (by simpa using e2)]
    exact wpS_pure (q _ (.inl ⟨_,rfl,kNH m2 e2⟩))
   ·rw [if_neg (by simpa using e2)]
    exact kEB (st:=wG st g) H hk ⟨m2,by omega,h2,sz2⟩ (by omega) (λ _ _=>H.W.of_lt (g2 k (by omega) (by omega))) q
 ·rw [if_neg k0]
  have:k=0:=by omega
  subst this;exact kEB (st:=wG st g) H hk h hn (λ _ _=>H.W.of_lt (g2 0 (by omega) (by omega))) q
end
end Srt
namespace Srt
set_option autoImplicit false
open PySem PyProof.Rows
section
variable {M:Model} {A:Around} {E:Value->Shared->Prop} {s:Shared} {lb:Keyed->Keyed->Bool} {D:Keyed->Prop} {kd:SortKind} {a b:Array Keyed}
theorem Yd.mono {n n':Nat} {γ:Type} {c:Option (Array Keyed)×Array Keyed×Nat×Nat×γ} (h:Yd lb a b n c) (k:n'<=n):Yd lb a b n' c:=⟨h.1,h.2.1,Nat.le_trans k h.2.2⟩
theorem Dn.mono {n n':Nat} {γ:Type} {c:Option (Array Keyed)×Array Keyed×Nat×Nat×γ} (h:Dn lb a b n c) (k:n'<=n):Dn lb a b n' c:=h.imp id λ z=>z.mono k
theorem kKG (H:Hy M A E s lb D kd a b) {st:SortSt} (hk:kindOf st=kd) {out:Array Keyed} {ia ib g:Nat} (h:MI lb a b out ia ib) {Q:ForInStep LS0->SortSt->Prop}
  (qd:∀ r c st',Sm st st'->Res lb a.toList b.toList r.toList->Q (.done (some r,c)) st') (qy:∀ c st',Sm st st'->Yd lb a b (out.size+1) c->Q (.yield c) st'):wpS M A E s (p0 a b (none,out,ia,ib,g)) Q st:=by
 unfold p0;dsimp only;have tot:0<a.size+b.size:=by have:=h.2.2.1;omega
 refine wpS_bind (wpS_mono (wpS_forRange (I:=λ x d st'=>st'=st/\Yd lb a b (out.size+x) d) (Q:=λ d st'=>st'=st/\Dn lb a b (out.size+1) d) ?step ?fin ⟨rfl,rfl,h,Nat.le_refl _⟩) ?post)
 case fin =>
  rintro d st' ⟨rfl,y⟩;exact ⟨rfl,.inr (y.mono (by omega))⟩
 case step =>
  rintro x ⟨r,o,i,j,u,v⟩ st' _ _ ⟨rfl,e,mi,le⟩
  cases (show r=none from e)
  have le:out.size+x<=o.size:=le;refine kKF H hk mi λ r hr=>?_
  cases r with
  | done c=>exact ⟨rfl,Dn.mono hr (by omega)⟩
  | yield c=>exact ⟨rfl,Yd.mono hr (by omega)⟩
 case post =>
  rintro ⟨r,o,i,j,u,v⟩ st' ⟨rfl,hd⟩
  cases r with
  | some r =>
   dsimp only;rcases hd with ⟨r',e,res⟩ | ⟨e,_⟩
   ·cases e
    exact wpS_pure (qd _ _ _ (Sm.refl _) res)
   ·cases e
  | none =>
   dsimp only
   have y:Yd lb a b (out.size+1) (none,o,i,j,(u,v)):=by
    rcases hd with ⟨r',e,res⟩ | y
    ·cases e
    ·exact y
   refine wpS_bind (wM ?_);refine wpS_bind (wpS_mono (wpS_forRange (I:=λ x f st2=>Sm st' st2/\Yd lb a b (out.size+1) f) (Q:=λ f st2=>Sm st' st2/\Dn lb a b (out.size+1) f) ?step2 ?fin2 ⟨Sm.refl _,y⟩) ?post2)
   case fin2 =>
    rintro f st2 ⟨sm,y⟩;exact ⟨sm,.inr y⟩
   case step2 =>
    rintro x ⟨r,o,i,j,g2,u,v⟩ st2 _ _ ⟨sm,e,mi,le⟩
    cases (show r=none from e)
    have le:out.size+1<=o.size:=le;dsimp only
    split
    all_goals
     refine kKE (n:=out.size+1) H (sm.1.trans hk) mi (by omega) λ r hr=>?_
     cases r with
     | done c=>exact ⟨sm.gal _,hr⟩
     | yield c=>exact ⟨sm.gal _,hr⟩
   case post2 =>
    rintro ⟨r,o,i,j,g2,u,v⟩ st2 ⟨sm,hd⟩
    cases r with
    | some r =>
     dsimp only;rcases hd with ⟨r',e,res⟩ | ⟨e,_⟩
     ·cases e
      exact wpS_pure (qd _ _ _ sm res)
     ·cases e
    | none =>
     dsimp only;rcases hd with ⟨r',e,res⟩ | y
     ·cases e
     ·rw [setMinGallop'_eq]
      exact wpS_bind (wpS_modify (wpS_pure (qy _ _ (sm.gal _) y)))
theorem pD (H:Hy M A E s lb D kd a b) {st:SortSt} (hk:kindOf st=kd) (a0:0<a.size) (b0:0<b.size) (first:le lb b[0] a[0]) {Q:Array Keyed->SortSt->Prop}
  (q:∀ r st',Sm st st'->Res lb a.toList b.toList r.toList->Q r st'):wpS M A E s (gG a b) Q st:=by
 rw [mergeLo'_parts];refine wpS_bind (wM ?_);refine wpS_bind (qJ (getElem?_pos b 0 b0) ?_);have m0:Mg lb a.toList b.toList (#[]:Array Keyed).toList (a.toList.drop 0) (b.toList.drop 0):=⟨H.sa,H.sb,List.Perm.refl _⟩;have m1:Mg lb a.toList b.toList (#[b[0]]:Array Keyed).toList (a.toList.drop 0) (b.toList.drop 1):=sS H a0 b0 m0 first;by_cases e1:1=b.size
 ·rw [if_pos (by simpa using e1)]
  exact wpS_pure (q _ _ (Sm.refl _) (kBE m1 e1))
 rw [if_neg (by simpa using e1)];by_cases e2:0+1=a.size
 ·rw [if_pos (by simpa using e2)]
  exact wpS_pure (q _ _ (Sm.refl _) (bU H m1 e2))
 rw [if_neg (by simpa using e2)];refine wpS_bind (wpS_get ?_);refine wpS_bind (wpS_mono (wpS_forRange (I:=λ x c st'=>Sm st st'/\Yd lb a b (1+x) c) (Q:=λ c st'=>Sm st st'/\∃ r,c.1=some r/\Res lb a.toList b.toList r.toList) ?step ?fin ⟨Sm.refl _,rfl,⟨m1,by show 0+1<a.size;omega,by show 1<b.size;omega,rfl⟩,Nat.le_refl _⟩) ?post)
 case post =>
  rintro ⟨r,c⟩ st' ⟨sm,r',e,res⟩;cases e
  exact wpS_pure (q _ _ sm res)
 case fin =>
  rintro ⟨r,o,i,j,g⟩ st' ⟨sm,e,⟨_,h1,h2,h3⟩,le⟩;have h3:o.size=i+j:=h3;have le:1+max 0 (a.size+b.size)<=o.size:=le;have h1:i+1<a.size:=h1;have h2:j<b.size:=h2;omega
 case step =>
  rintro x ⟨r,o,i,j,g⟩ st' _ _ ⟨sm,e,mi,le⟩
  cases (show r=none from e)
  have le:1+x<=o.size:=le;exact kKG H (sm.1.trans hk) mi (λ r c st2 sm2 res=>⟨⟨sm2.1.trans sm.1,sm2.2.1.trans sm.2.1,sm2.2.2.1.trans sm.2.2.1,sm2.2.2.2.trans sm.2.2.2⟩,r,rfl,res⟩) λ c st2 sm2 y=>⟨⟨sm2.1.trans sm.1,sm2.2.1.trans sm.2.1,sm2.2.2.1.trans sm.2.2.1,sm2.2.2.2.trans sm.2.2.2⟩,y.mono (by omega)⟩
end
end Srt
local macro_rules | `(tactic| walk_at "sort_open mergeHi")=>`(tactic| delta $(Lean.mkIdent (Lean.mkPrivateNameCore `PySem.Builtin.List.W1All `PySem.Builtin.mergeHi)):ident)
namespace Srt
set_option autoImplicit false
open PySem PyProof.Rows
def gH:Array Keyed->Array Keyed->StateT SortSt Sem (Array Keyed):=sortPriv% PySem.Builtin.mergeHi
abbrev KS:=Option (Array Keyed)×Nat×Nat×Array Keyed×Nat×Nat×Nat
abbrev KS1:=Option (Array Keyed)×Nat×Nat×Array Keyed×Nat×Nat
abbrev KS0:=Option (Array Keyed)×Nat×Nat×Array Keyed×Nat
section
variable (a b:Array Keyed)
def hDn (na nb:Nat) (out:Array Keyed):Array Keyed:=a.extract 0 na++b.extract 0 nb++out.reverse
def hFb (na nb:Nat) (out:Array Keyed):Array Keyed:=b.extract 0 nb++a.extract 0 na++out.reverse
def hC (na nb:Nat) (out:Array Keyed) (g k k1:Nat):StateT SortSt Sem (ForInStep KS):=do
 let x <-elem' a (na-1)
 if (na-1 == 0)=true then pure (.done (some (hDn a b (na-1) nb (out.push x)),na-1,nb,out.push x,g,k,k1))
 else if (decide (k<7) && decide (k1<7))=true then pure (.done (none,na-1,nb,out.push x,g,k,k1)) else pure (.yield (none,na-1,nb,out.push x,g,k,k1))
def hB (na nb:Nat) (out:Array Keyed) (g k ob:Nat):StateT SortSt Sem (ForInStep KS):=do
 let y <-elem' b (nb-1)
 if (nb-1 == 1)=true then pure (.done (some (hFb a b na (nb-1) (out.push y)),na,nb-1,out.push y,g,k,ob))
 else do
  let x <-elem' a (na-1)
  let r <-vN true x b 0 (nb-1) (nb-1-1)
  match r with
  | some p =>
   if nb-1-p>0 then
    if (p == 1)=true then pure (.done (some (hFb a b na p (out.push y++(b.extract p (nb-1)).reverse)),na,p,out.push y++(b.extract p (nb-1)).reverse,g,k,nb-1-p))
    else if (p == 0)=true then pure (.done (some (hDn a b na p (out.push y++(b.extract p (nb-1)).reverse)),na,p,out.push y++(b.extract p (nb-1)).reverse,g,k,nb-1-p))
    else hC a b na p (out.push y++(b.extract p (nb-1)).reverse) g k (nb-1-p)
   else hC a b na (nb-1) (out.push y) g k (nb-1-p)
  | x=>pure (.done (some (hDn a b na (nb-1) (out.push y)),na,nb-1,out.push y,g,k,ob))
def hA (na nb:Nat) (out:Array Keyed) (g oa ob:Nat):StateT SortSt Sem (ForInStep KS):=do
 xJ g
 let y <-elem' b (nb-1)
 let r <-vN false y a 0 na (na-1)
 match r with
 | some p =>
  if na-p>0 then
   if (p == 0)=true then pure (.done (some (hDn a b p nb (out++(a.extract p na).reverse)),p,nb,out++(a.extract p na).reverse,g,na-p,ob))
   else hB a b p nb (out++(a.extract p na).reverse) g (na-p) ob
  else hB a b na nb out g (na-p) ob
 | x=>pure (.done (some (hDn a b na nb out),na,nb,out,g,oa,ob))
def h1 (mg:Nat) (c:KS1):StateT SortSt Sem (ForInStep KS1):=do
 let y <-elem' b (c.2.2.1-1)
 let x <-elem' a (c.2.1-1)
 let r <-lt' y x
 match r with
 | some aw =>
  if aw=true then do
   let x <-elem' a (c.2.1-1)
   if (c.2.1-1 == 0)=true then pure (.done (some (hDn a b (c.2.1-1) c.2.2.1 (c.2.2.2.1.push x)),c.2.1-1,c.2.2.1,c.2.2.2.1.push x,c.2.2.2.2.1+1,0))
   else if c.2.2.2.2.1+1 >= mg then pure (.done (none,c.2.1-1,c.2.2.1,c.2.2.2.1.push x,c.2.2.2.2.1+1,0))
   else pure (.yield (none,c.2.1-1,c.2.2.1,c.2.2.2.1.push x,c.2.2.2.2.1+1,0))
  else do
   let y <-elem' b (c.2.2.1-1)
   if (c.2.2.1-1 == 1)=true then pure (.done (some (hFb a b c.2.1 (c.2.2.1-1) (c.2.2.2.1.push y)),c.2.1,c.2.2.1-1,c.2.2.2.1.push y,0,c.2.2.2.2.2+1))
   else if c.2.2.2.2.2+1 >= mg then pure (.done (none,c.2.1,c.2.2.1-1,c.2.2.2.1.push y,0,c.2.2.2.2.2+1))
   else pure (.yield (none,c.2.1,c.2.2.1-1,c.2.2.2.1.push y,0,c.2.2.2.2.2+1))
 | x=>pure (.done (some (hDn a b c.2.1 c.2.2.1 c.2.2.2.1),c.2.1,c.2.2.1,c.2.2.2.1,c.2.2.2.2.1,c.2.2.2.2.2))
def h0 (c:KS0):StateT SortSt Sem (ForInStep KS0):=do
 let d <-forIn [:a.size+b.size] ((none,c.2.1,c.2.2.1,c.2.2.2.1,0,0):KS1) λ x d=>h1 a b c.2.2.2.2 d
 match d.1 with
 | some r=>pure (.done (some r,d.2.1,d.2.2.1,d.2.2.2.1,c.2.2.2.2))
 | none=>do
  liftM (rule "list.sort.gallop")
  let f <-forIn [:a.size+b.size] ((none,d.2.1,d.2.2.1,d.2.2.2.1,c.2.2.2.2+1,d.2.2.2.2.1,d.2.2.2.2.2):KS) λ x f =>
   if f.2.2.2.2.1>1 then hA a b f.2.1 f.2.2.1 f.2.2.2.1 (f.2.2.2.2.1-1) f.2.2.2.2.2.1 f.2.2.2.2.2.2 else hA a b f.2.1 f.2.2.1 f.2.2.2.1 f.2.2.2.2.1 f.2.2.2.2.2.1 f.2.2.2.2.2.2
  match f.1 with
  | some r=>pure (.done (some r,f.2.1,f.2.2.1,f.2.2.2.1,f.2.2.2.2.1))
  | none=>do
   xJ (f.2.2.2.2.1+1)
   pure (.yield (none,f.2.1,f.2.2.1,f.2.2.2.1,f.2.2.2.2.1+1))
theorem mergeHi'_parts:gH a b=(do
  liftM (rule "list.sort.merge-hi")
  let y <-elem' a (a.size-1)
  if (a.size-1 == 0)=true then pure (hDn a b (a.size-1) b.size #[y])
  else if (b.size == 1)=true then pure (hFb a b (a.size-1) b.size #[y])
  else do
   let st <-get
   let c <-forIn [:a.size+b.size] ((none,a.size-1,b.size,#[y],gallopOf st):KS0) λ x c=>h0 a b c
   match c.1 with
   | some r=>pure r
   | none=>unsupported "internal:list.sort.merge-bound"):=by
 unfold gH
 walk_at "sort_open mergeHi"
 dsimp only;refine congrArg _ (funext λ _=>?_);refine congrArg _ (funext λ y=>?_);refine ite_congr rfl (λ _=>rfl) (λ _=>ite_congr rfl (λ _=>rfl) (λ _=>?_));refine congrArg _ (funext λ st=>?_);refine congr (congrArg _ (congrArg _ (funext λ x=>funext λ c=>?_))) (funext λ c=>by cases c.1<;>rfl);unfold h0;refine congr (congrArg _ (congrArg _ (funext λ x=>funext λ d=>?_))) (funext λ d=>?_)
 ·unfold h1
  refine congrArg _ (funext λ _=>?_);refine congrArg _ (funext λ _=>?_);refine congrArg _ (funext λ r=>?_);cases r<;>rfl
 ·cases d.1 with
  | some r=>rfl
  | none =>
   dsimp only;refine congrArg _ (funext λ _=>?_);refine congr (congrArg _ (congrArg _ (funext λ x=>funext λ f=>?_))) (funext λ f=>by cases f.1<;>rfl);refine ite_congr rfl (λ _=>?_) (λ _=>?_)
   all_goals
    unfold hA;refine congrArg _ (funext λ _=>?_);refine congrArg _ (funext λ y=>?_);refine congrArg _ (funext λ r=>?_)
    cases r with
    | none=>rfl
    | some k =>
     dsimp only;refine ite_congr rfl (λ _=>ite_congr rfl (λ _=>rfl) (λ _=>?_)) (λ _=>?_)
     all_goals
      unfold hB;refine congrArg _ (funext λ y=>?_);refine ite_congr rfl (λ _=>rfl) (λ _=>?_);refine congrArg _ (funext λ x=>?_);refine congrArg _ (funext λ r=>?_);cases r<;>rfl
end
end Srt
namespace Srt
set_option autoImplicit false
open PySem PyProof.Rows
section
variable {α:Type} {lb:α->α->Bool}
structure Mh (lb:α->α->Bool) (A B:List α) (w ra rb:List α):Prop where
 sa:jF lb (ra++w)
 sb:jF lb (rb++w)
 pm:(ra++(rb++w)).Perm (A++B)
theorem Mh.moveA {A B w c ra rb:List α} (h:Mh lb A B w (ra++c) rb) (hc:∀ x∈rb,∀ y∈c,le lb x y):Mh lb A B (c++w) ra rb:=by
 refine ⟨by rw [<-append_assoc];exact h.sa,?_,?_⟩
 ·have h1:=pairwise_append.mp h.sa
  have h2:=pairwise_append.mp h.sb;have h3:=pairwise_append.mp h1.1;refine pairwise_append.mpr ⟨h2.1,pairwise_append.mpr ⟨h3.2.1,h1.2.1,λ x hx y hy=>h1.2.2 x (mem_append_right _ hx) y hy⟩,λ x hx y hy=>?_⟩;rcases mem_append.mp hy with z | z
  ·exact hc x hx y z
  ·exact h2.2.2 x hx y z
 ·refine List.Perm.trans ?_ h.pm
  rw [append_assoc];refine List.Perm.append_left ra ?_;rw [<-append_assoc,<-append_assoc];exact List.Perm.append_right w perm_append_comm
theorem Mh.swap {A B w ra rb:List α} (h:Mh lb A B w ra rb):Mh lb B A w rb ra:=by
 refine ⟨h.sb,h.sa,?_⟩;refine List.Perm.trans ?_ (h.pm.trans perm_append_comm);rw [<-append_assoc,<-append_assoc];exact List.Perm.append_right w perm_append_comm
theorem Mh.moveB {A B w c ra rb:List α} (h:Mh lb A B w ra (rb++c)) (hc:∀ x∈ra,∀ y∈c,le lb x y):Mh lb A B (c++w) ra rb:=(h.swap.moveA hc).swap
theorem fL {a:Array α} {n:Nat} (h0:0<n) (h:n<=a.size):a.toList.take n=a.toList.take (n-1)++[a[n-1]'(by omega)]:=by
 obtain ⟨m,rfl⟩ : ∃ m,n=m+1:=⟨n-1,by omega⟩;rw [List.take_succ_eq_append_getElem (by simp;omega)];simp
theorem bT (a:Array α) (n:Nat):(a.extract 0 n).toList=a.toList.take n:=by
 rw [Array.toList_extract,List.extract_eq_take_drop];simp
theorem sQ (a:Array α) {p n:Nat} (h:p<=n):a.toList.take n=a.toList.take p++(a.extract p n).toList:=by
 rw [Array.toList_extract,List.extract_eq_take_drop,<-List.drop_take]
 conv=>lhs;rw [<-take_append_drop p (a.toList.take n)]
 rw [List.take_take,Nat.min_eq_left h]
end
section
variable {M:Model} {A:Around} {E:Value->Shared->Prop} {s:Shared} {lb:Keyed->Keyed->Bool} {D:Keyed->Prop} {kd:SortKind} {a b:Array Keyed}
structure Hz (M:Model) (A:Around) (E:Value->Shared->Prop) (s:Shared) (lb:Keyed->Keyed->Bool) (D:Keyed->Prop) (kd:SortKind) (a b:Array Keyed):Prop where
 W:Wk lb
 L:vV M A E s lb D kd
 da:∀ x∈a.toList,D x
 db:∀ x∈b.toList,D x
 sa:jF lb a.toList
 sb:jF lb b.toList
 first:∀ (h:0<b.size),∀ y∈a.toList,le lb b[0] y
abbrev MM (lb:Keyed->Keyed->Bool) (a b:Array Keyed) (na nb:Nat) (out:Array Keyed):Prop:=Mh lb a.toList b.toList out.toList.reverse (a.toList.take na) (b.toList.take nb)
def MH (lb:Keyed->Keyed->Bool) (a b:Array Keyed) (na nb:Nat) (out:Array Keyed):Prop:=MM lb a b na nb out/\0<na/\na<=a.size/\1<nb/\nb<=b.size/\out.size+na+nb=a.size+b.size
def Zd (lb:Keyed->Keyed->Bool) (a b:Array Keyed) (n:Nat) {γ:Type} (c:Option (Array Keyed)×Nat×Nat×Array Keyed×γ):Prop:=c.1=none/\MH lb a b c.2.1 c.2.2.1 c.2.2.2.1/\n<=c.2.2.2.1.size
def En (lb:Keyed->Keyed->Bool) (a b:Array Keyed) (n:Nat) {γ:Type} (c:Option (Array Keyed)×Nat×Nat×Array Keyed×γ):Prop:=(∃ r,c.1=some r/\Res lb a.toList b.toList r.toList)\/Zd lb a b n c
def TT (lb:Keyed->Keyed->Bool) (a b:Array Keyed) (n:Nat) {γ:Type}:ForInStep (Option (Array Keyed)×Nat×Nat×Array Keyed×γ)->Prop
 | .done c=>En lb a b n c
 | .yield c=>Zd lb a b n c
theorem Zd.mono {n n':Nat} {γ:Type} {c:Option (Array Keyed)×Nat×Nat×Array Keyed×γ} (h:Zd lb a b n c) (k:n'<=n):Zd lb a b n' c:=⟨h.1,h.2.1,Nat.le_trans k h.2.2⟩
theorem En.mono {n n':Nat} {γ:Type} {c:Option (Array Keyed)×Nat×Nat×Array Keyed×γ} (h:En lb a b n c) (k:n'<=n):En lb a b n' c:=h.imp id λ z=>z.mono k
theorem bG {a:Array Keyed} {n:Nat} {x:Keyed} (h:x∈a.toList.take n):∃ j,∃ hj:j<a.size,j<n/\x=a[j]:=by
 have:=wB (a:=a) (i:=0) (k:=n) (x:=x) (by simpa using h);obtain ⟨j,hj,jk,e⟩:=this;exact ⟨j,by omega,jk,by simpa using e⟩
theorem jB {a:Array Keyed} {p n:Nat} {x:Keyed} (h:x∈(a.extract p n).toList):∃ j,∃ hj:j<a.size,p<=j/\j<n/\x=a[j]:=by
 rw [Array.toList_extract,List.extract_eq_take_drop] at h;obtain ⟨j,hj,jk,e⟩:=wB h;exact ⟨p+j,hj,by omega,by omega,e⟩
theorem rN (na nb:Nat) (out:Array Keyed):(hDn a b na nb out).toList=a.toList.take na++(b.toList.take nb++out.toList.reverse):=by
 unfold hDn;rw [Array.toList_append,Array.toList_append,bT,bT,Array.toList_reverse,append_assoc]
theorem kGM (na nb:Nat) (out:Array Keyed):(hFb a b na nb out).toList=b.toList.take nb++(a.toList.take na++out.toList.reverse):=by
 unfold hFb;rw [Array.toList_append,Array.toList_append,bT,bT,Array.toList_reverse,append_assoc]
theorem oQ {na nb:Nat} {out:Array Keyed} (m:MM lb a b na nb out) (e:na=0):Res lb a.toList b.toList (hDn a b na nb out).toList:=by
 subst e;rw [rN];exact ⟨by simpa using m.sb,m.pm⟩
theorem kLV {na nb:Nat} {out:Array Keyed} (m:MM lb a b na nb out) (e:nb=0):Res lb a.toList b.toList (hDn a b na nb out).toList:=by
 subst e;rw [rN];exact ⟨by simpa using m.sa,m.pm⟩
theorem oP (H:Hz M A E s lb D kd a b) {na nb:Nat} {out:Array Keyed} (m:MM lb a b na nb out) (e:nb=1) (hb:0<b.size):Res lb a.toList b.toList (hFb a b na nb out).toList:=by
 subst e;rw [kGM];have t:b.toList.take 1=[b[0]]:=by rw [fL (by decide) hb];simp
 have sb:=m.sb;rw [t] at sb ⊢;refine ⟨?_,?_⟩
 ·refine pairwise_append.mpr ⟨pairwise_singleton _ _,m.sa,λ x hx y hy=>?_⟩
  have:x=b[0]:=by simpa using hx
  subst this;rcases mem_append.mp hy with z | z
  ·exact H.first hb y (List.mem_of_mem_take z)
  ·exact (pairwise_append.mp sb).2.2 _ (by simp) y z
 ·have pm:=m.pm
  rw [t] at pm;refine List.Perm.trans ?_ pm;rw [<-append_assoc,<-append_assoc];exact List.Perm.append_right _ perm_append_comm
theorem kER (H:Hz M A E s lb D kd a b) {na nb:Nat} {out:Array Keyed} (m:MM lb a b na nb out) (n0:0<na) (hn:na<=a.size) (c:∀ x∈b.toList.take nb,le lb x (a[na-1]'(by omega))):MM lb a b (na-1) nb (out.push (a[na-1]'(by omega))):=by
 have m:Mh lb a.toList b.toList out.toList.reverse (a.toList.take na) (b.toList.take nb):=m;rw [fL n0 hn] at m;show Mh lb _ _ (out.push _).toList.reverse _ _;rw [Array.toList_push,reverse_append];refine m.moveA λ x hx y hy=>?_;have:y=a[na-1]'(by omega):=by simpa using hy
 rw [this];exact c x hx
theorem kJU (H:Hz M A E s lb D kd a b) {na nb:Nat} {out:Array Keyed} (m:MM lb a b na nb out) (n0:0<nb) (hn:nb<=b.size) (c:∀ x∈a.toList.take na,le lb x (b[nb-1]'(by omega))):MM lb a b na (nb-1) (out.push (b[nb-1]'(by omega))):=by
 have m:Mh lb a.toList b.toList out.toList.reverse (a.toList.take na) (b.toList.take nb):=m;rw [fL n0 hn] at m;show Mh lb _ _ (out.push _).toList.reverse _ _;rw [Array.toList_push,reverse_append];refine m.moveB λ x hx y hy=>?_;have:y=b[nb-1]'(by omega):=by simpa using hy
 rw [this];exact c x hx
theorem kNN {na nb p:Nat} {out:Array Keyed} (m:MM lb a b na nb out) (hp:p<=na) (c:∀ x∈b.toList.take nb,∀ y∈(a.extract p na).toList,le lb x y):MM lb a b p nb (out++(a.extract p na).reverse):=by
 have m:Mh lb a.toList b.toList out.toList.reverse (a.toList.take na) (b.toList.take nb):=m;rw [sQ a hp] at m;show Mh lb _ _ (out++_).toList.reverse _ _;rw [Array.toList_append,Array.toList_reverse,reverse_append,List.reverse_reverse];exact m.moveA c
theorem kNM {na nb p:Nat} {out:Array Keyed} (m:MM lb a b na nb out) (hp:p<=nb) (c:∀ x∈a.toList.take na,∀ y∈(b.extract p nb).toList,le lb x y):MM lb a b na p (out++(b.extract p nb).reverse):=by
 have m:Mh lb a.toList b.toList out.toList.reverse (a.toList.take na) (b.toList.take nb):=m;rw [sQ b hp] at m;show Mh lb _ _ (out++_).toList.reverse _ _;rw [Array.toList_append,Array.toList_reverse,reverse_append,List.reverse_reverse];exact m.moveB c
theorem kCA (W:Wk lb) {a:Array Keyed} (sa:jF lb a.toList) {n:Nat} {y:Keyed} (n0:0<n) (hn:n<=a.size) (c:le lb (a[n-1]'(by omega)) y):∀ x∈a.toList.take n,le lb x y:=λ x hx=>by
 obtain ⟨j,hj,jn,rfl⟩:=bG hx;exact W.trans (wF W sa (show j<=n-1 by omega) (by omega)) c
theorem kKI (H:Hz M A E s lb D kd a b) {st:SortSt} (hk:kindOf st=kd) {out:Array Keyed} {na nb u v mg:Nat} (h:MH lb a b na nb out) {Q:ForInStep KS1->SortSt->Prop}
  (q:∀ r,TT lb a b (out.size+1) r->Q r st):wpS M A E s (h1 a b mg (none,na,nb,out,u,v)) Q st:=by
 obtain ⟨m,a1,a2,b1,b2,sz⟩:=h;unfold h1;dsimp only;refine wpS_bind (qJ (getElem?_pos b (nb-1) (by omega)) ?_);refine wpS_bind (qJ (getElem?_pos a (na-1) (by omega)) ?_);refine wpS_bind (H.L _ _ (H.db _ (by simp)) (H.da _ (by simp)) st _ hk ?_)
 cases e:lb (b[nb-1]'(by omega)) (a[na-1]'(by omega))
 case true =>
  simp only [if_true];refine wpS_bind (qJ (getElem?_pos a (na-1) (by omega)) ?_);have m':=kER H m a1 a2 (kCA H.W H.sb (by omega) b2 (H.W.of_lt e));by_cases c:na-1=0
  ·rw [if_pos (by simpa using c)]
   exact wpS_pure (q _ (.inl ⟨_,rfl,oQ m' c⟩))
  ·rw [if_neg (by simpa using c)]
   have z:Zd lb a b (out.size+1) (none,na-1,nb,out.push (a[na-1]'(by omega)),(u+1,0)):=⟨rfl,⟨m',by show 0<na-1;omega,by show na-1<=a.size;omega,b1,b2,by show (out.push _).size+(na-1)+nb=_;rw [Array.size_push];omega⟩,by show out.size+1<=(out.push _).size;rw [Array.size_push];omega⟩
   split
   ·exact wpS_pure (q _ (.inr z))
   ·exact wpS_pure (q _ z)
 case false =>
  simp only [Bool.false_eq_true,if_false];refine wpS_bind (qJ (getElem?_pos b (nb-1) (by omega)) ?_);have m':=kJU H m (by omega) b2 (kCA H.W H.sa a1 a2 e);by_cases c:nb-1=1
  ·rw [if_pos (by simpa using c)]
   exact wpS_pure (q _ (.inl ⟨_,rfl,oP H m' c (by omega)⟩))
  ·rw [if_neg (by simpa using c)]
   have z:Zd lb a b (out.size+1) (none,na,nb-1,out.push (b[nb-1]'(by omega)),(0,v+1)):=⟨rfl,⟨m',a1,a2,by show 1<nb-1;omega,by show nb-1<=b.size;omega,by show (out.push _).size+na+(nb-1)=_;rw [Array.size_push];omega⟩,by show out.size+1<=(out.push _).size;rw [Array.size_push];omega⟩
   split
   ·exact wpS_pure (q _ (.inr z))
   ·exact wpS_pure (q _ z)
end
end Srt
namespace Srt
set_option autoImplicit false
open PySem PyProof.Rows
section
variable {M:Model} {A:Around} {E:Value->Shared->Prop} {s:Shared} {lb:Keyed->Keyed->Bool} {D:Keyed->Prop} {kd:SortKind} {a b:Array Keyed}
theorem kEC (H:Hz M A E s lb D kd a b) {st:SortSt} {out:Array Keyed} {na nb g k k1 n:Nat} (m:MM lb a b na nb out) (a1:0<na) (a2:na<=a.size) (b1:1<nb) (b2:nb<=b.size) (sz:out.size+na+nb=a.size+b.size) (hn:n<=out.size+1)
  (c:∀ x∈b.toList.take nb,le lb x (a[na-1]'(by omega))) {Q:ForInStep KS->SortSt->Prop} (q:∀ r,TT lb a b n r->Q r st):wpS M A E s (hC a b na nb out g k k1) Q st:=by
 unfold hC;refine wpS_bind (qJ (getElem?_pos a (na-1) (by omega)) ?_);have m':=kER H m a1 a2 c;by_cases e:na-1=0
 ·rw [if_pos (by simpa using e)]
  exact wpS_pure (q _ (.inl ⟨_,rfl,oQ m' e⟩))
 ·rw [if_neg (by simpa using e)]
  have z:Zd lb a b n (none,na-1,nb,out.push (a[na-1]'(by omega)),(g,k,k1)):=⟨rfl,⟨m',by show 0<na-1;omega,by show na-1<=a.size;omega,b1,b2,by show (out.push _).size+(na-1)+nb=_;rw [Array.size_push];omega⟩,by show n<=(out.push _).size;rw [Array.size_push];omega⟩
  split
  ·exact wpS_pure (q _ (.inr z))
  ·exact wpS_pure (q _ z)
theorem kED (H:Hz M A E s lb D kd a b) {st:SortSt} (hk:kindOf st=kd) {out:Array Keyed} {na nb g k ob n:Nat} (h:MH lb a b na nb out) (hn:n<=out.size+1)
  (c:∀ (ha:na-1<a.size) (hb:nb-1<b.size),le lb a[na-1] b[nb-1]) {Q:ForInStep KS->SortSt->Prop} (q:∀ r,TT lb a b n r->Q r st):wpS M A E s (hB a b na nb out g k ob) Q st:=by
 obtain ⟨m,a1,a2,b1,b2,sz⟩:=h;unfold hB;refine wpS_bind (qJ (getElem?_pos b (nb-1) (by omega)) ?_);have m':=kJU H m (by omega) b2 (kCA H.W H.sa a1 a2 (c (by omega) (by omega)));have sz':(out.push (b[nb-1]'(by omega))).size+na+(nb-1)=a.size+b.size:=by rw [Array.size_push];omega
 have gr:out.size+1=(out.push (b[nb-1]'(by omega))).size:=by rw [Array.size_push]
 by_cases e:nb-1=1
 ·rw [if_pos (by simpa using e)]
  exact wpS_pure (q _ (.inl ⟨_,rfl,oP H m' e (by omega)⟩))
 ·rw [if_neg (by simpa using e)]
  refine wpS_bind (qJ (getElem?_pos a (na-1) (by omega)) ?_);refine wpS_bind (uJ H.W H.L hk (H.da _ (by simp)) H.db (by omega) (λ i j hi hj=>wF H.W H.sb (by omega) (by omega)) (by omega) λ p kn g1 g2=>?_);simp only [if_true,Nat.zero_add] at g1 g2
  have rest:∀ x∈b.toList.take p,le lb x (a[na-1]'(by omega)):=λ x hx=>by
   obtain ⟨j,hj,jp,rfl⟩:=bG hx;exact H.W.of_lt (g1 j jp (by omega))
  dsimp only;by_cases k0:nb-1-p>0
  ·rw [if_pos k0]
   have m2:=kNM (p:=p) m' (by omega) λ x hx y hy=>by
    obtain ⟨j,hj,pj,jn,rfl⟩:=jB hy;exact kCA H.W H.sa a1 a2 (g2 j pj jn) x hx
   have sz2:(out.push (b[nb-1]'(by omega))++(b.extract p (nb-1)).reverse).size+na+p=a.size+b.size:=by
    rw [Array.size_append,Array.size_reverse,Array.size_extract];omega
   by_cases e1:p=1
   ·rw [if_pos (by simpa using e1)]
    exact wpS_pure (q _ (.inl ⟨_,rfl,oP H m2 e1 (by omega)⟩))
   ·rw [if_neg (by simpa using e1)]
    by_cases e2:p=0
    ·rw [if_pos (by simpa using e2)]
     exact wpS_pure (q _ (.inl ⟨_,rfl,kLV m2 e2⟩))
    ·rw [if_neg (by simpa using e2)]
     exact kEC H m2 a1 a2 (by omega) (by omega) sz2 (by omega) rest q
  ·rw [if_neg k0]
   have e3:p=nb-1:=by omega
   rw [e3] at rest;exact kEC H m' a1 a2 (by omega) (by omega) sz' (by omega) rest q
theorem kKH (H:Hz M A E s lb D kd a b) {st:SortSt} (hk:kindOf st=kd) {out:Array Keyed} {na nb g oa ob n:Nat} (h:MH lb a b na nb out) (hn:n<=out.size+1) {Q:ForInStep KS->SortSt->Prop}
  (q:∀ r,TT lb a b n r->Q r (wG st g)):wpS M A E s (hA a b na nb out g oa ob) Q st:=by
 obtain ⟨m,a1,a2,b1,b2,sz⟩:=id h;unfold hA;rw [setMinGallop'_eq];refine wpS_bind (wpS_modify ?_);refine wpS_bind (qJ (getElem?_pos b (nb-1) (by omega)) ?_);refine wpS_bind (uJ (st:=wG st g) H.W H.L hk (H.db _ (by simp)) H.da (by omega) (λ i j hi hj=>wF H.W H.sa (by omega) (by omega)) (by omega) λ p kn g1 g2=>?_);simp only [Bool.false_eq_true,if_false,Nat.zero_add] at g1 g2;dsimp only;by_cases k0:na-p>0
 ·rw [if_pos k0]
  have m2:=kNN (p:=p) m (by omega) λ x hx y hy=>by
   obtain ⟨j,hj,pj,jn,rfl⟩:=jB hy;exact kCA H.W H.sb (by omega) b2 (H.W.of_lt (g2 j pj jn)) x hx
  have sz2:(out++(a.extract p na).reverse).size+p+nb=a.size+b.size:=by
   rw [Array.size_append,Array.size_reverse,Array.size_extract];omega
  by_cases e1:p=0
  ·rw [if_pos (by simpa using e1)]
   exact wpS_pure (q _ (.inl ⟨_,rfl,oQ m2 e1⟩))
  ·rw [if_neg (by simpa using e1)]
   exact kED (st:=wG st g) H hk ⟨m2,by omega,by omega,b1,b2,sz2⟩ (by omega) (λ _ _=>g1 (p-1) (by omega) (by omega)) q
 ·rw [if_neg k0]
  have e3:p=na:=by omega
  exact kED (st:=wG st g) H hk h hn (λ _ _=>g1 (na-1) (by omega) (by omega)) q
theorem kKJ (H:Hz M A E s lb D kd a b) {st:SortSt} (hk:kindOf st=kd) {out:Array Keyed} {na nb g:Nat} (h:MH lb a b na nb out) {Q:ForInStep KS0->SortSt->Prop}
  (qd:∀ r c st',Sm st st'->Res lb a.toList b.toList r.toList->Q (.done (some r,c)) st') (qy:∀ c st',Sm st st'->Zd lb a b (out.size+1) c->Q (.yield c) st'):wpS M A E s (h0 a b (none,na,nb,out,g)) Q st:=by
 unfold h0;dsimp only;have tot:0<a.size+b.size:=by have:=h.2.2.1;have:=h.2.1;omega
 refine wpS_bind (wpS_mono (wpS_forRange (I:=λ x d st'=>st'=st/\Zd lb a b (out.size+x) d) (Q:=λ d st'=>st'=st/\En lb a b (out.size+1) d) ?step ?fin ⟨rfl,rfl,h,Nat.le_refl _⟩) ?post)
 case fin =>
  rintro d st' ⟨rfl,y⟩;exact ⟨rfl,.inr (y.mono (by omega))⟩
 case step =>
  rintro x ⟨r,i,j,o,u,v⟩ st' _ _ ⟨rfl,e,mi,le⟩
  cases (show r=none from e)
  have le:out.size+x<=o.size:=le;refine kKI H hk mi λ r hr=>?_
  cases r with
  | done c=>exact ⟨rfl,En.mono hr (by omega)⟩
  | yield c=>exact ⟨rfl,Zd.mono hr (by omega)⟩
 case post =>
  rintro ⟨r,i,j,o,u,v⟩ st' ⟨rfl,hd⟩
  cases r with
  | some r =>
   dsimp only;rcases hd with ⟨r',e,res⟩ | ⟨e,_⟩
   ·cases e
    exact wpS_pure (qd _ _ _ (Sm.refl _) res)
   ·cases e
  | none =>
   dsimp only
   have y:Zd lb a b (out.size+1) (none,i,j,o,(u,v)):=by
    rcases hd with ⟨r',e,res⟩ | y
    ·cases e
    ·exact y
   refine wpS_bind (wM ?_);refine wpS_bind (wpS_mono (wpS_forRange (I:=λ x f st2=>Sm st' st2/\Zd lb a b (out.size+1) f) (Q:=λ f st2=>Sm st' st2/\En lb a b (out.size+1) f) ?step2 ?fin2 ⟨Sm.refl _,y⟩) ?post2)
   case fin2 =>
    rintro f st2 ⟨sm,y⟩;exact ⟨sm,.inr y⟩
   case step2 =>
    rintro x ⟨r,i,j,o,g2,u,v⟩ st2 _ _ ⟨sm,e,mi,le⟩
    cases (show r=none from e)
    have le:out.size+1<=o.size:=le;dsimp only
    split
    all_goals
     refine kKH (n:=out.size+1) H (sm.1.trans hk) mi (by omega) λ r hr=>?_
     cases r with
     | done c=>exact ⟨sm.gal _,hr⟩
     | yield c=>exact ⟨sm.gal _,hr⟩
   case post2 =>
    rintro ⟨r,i,j,o,g2,u,v⟩ st2 ⟨sm,hd⟩
    cases r with
    | some r =>
     dsimp only;rcases hd with ⟨r',e,res⟩ | ⟨e,_⟩
     ·cases e
      exact wpS_pure (qd _ _ _ sm res)
     ·cases e
    | none =>
     dsimp only;rcases hd with ⟨r',e,res⟩ | y
     ·cases e
     ·rw [setMinGallop'_eq]
      exact wpS_bind (wpS_modify (wpS_pure (qy _ _ (sm.gal _) y)))
theorem pE (H:Hz M A E s lb D kd a b) {st:SortSt} (hk:kindOf st=kd) (a0:0<a.size) (b0:0<b.size) (last:le lb (b[b.size-1]'(by omega)) (a[a.size-1]'(by omega))) {Q:Array Keyed->SortSt->Prop}
  (q:∀ r st',Sm st st'->Res lb a.toList b.toList r.toList->Q r st'):wpS M A E s (gH a b) Q st:=by
 rw [mergeHi'_parts];refine wpS_bind (wM ?_);refine wpS_bind (qJ (getElem?_pos a (a.size-1) (by omega)) ?_);have ta:a.toList.take a.size=a.toList:=take_of_length_le (by simp);have tb:b.toList.take b.size=b.toList:=take_of_length_le (by simp)
 have m0:MM lb a b a.size b.size #[]:=by
  show Mh lb _ _ (#[]:Array Keyed).toList.reverse _ _;rw [ta,tb];exact ⟨by simpa using H.sa,by simpa using H.sb,by simp⟩
 have m1:MM lb a b (a.size-1) b.size #[a[a.size-1]'(by omega)]:=kER H m0 a0 (Nat.le_refl _) (kCA H.W H.sb b0 (Nat.le_refl _) last);by_cases e1:a.size-1=0
 ·rw [if_pos (by simpa using e1)]
  exact wpS_pure (q _ _ (Sm.refl _) (oQ m1 e1))
 rw [if_neg (by simpa using e1)];by_cases e2:b.size=1
 ·rw [if_pos (by simpa using e2)]
  exact wpS_pure (q _ _ (Sm.refl _) (oP H m1 e2 b0))
 rw [if_neg (by simpa using e2)];refine wpS_bind (wpS_get ?_);refine wpS_bind (wpS_mono (wpS_forRange (I:=λ x c st'=>Sm st st'/\Zd lb a b (1+x) c) (Q:=λ c st'=>Sm st st'/\∃ r,c.1=some r/\Res lb a.toList b.toList r.toList) ?step ?fin ⟨Sm.refl _,rfl,⟨m1,by show 0<a.size-1;omega,by show a.size-1<=a.size;omega,by show 1<b.size;omega,Nat.le_refl _,by show 1+(a.size-1)+b.size=_;omega⟩,Nat.le_refl _⟩) ?post)
 case post =>
  rintro ⟨r,c⟩ st' ⟨sm,r',e,res⟩;cases e
  exact wpS_pure (q _ _ sm res)
 case fin =>
  rintro ⟨r,i,j,o,g⟩ st' ⟨sm,e,⟨_,h1,h2,h3,h4,h5⟩,le⟩;have h5:o.size+i+j=a.size+b.size:=h5;have le:1+max 0 (a.size+b.size)<=o.size:=le;omega
 case step =>
  rintro x ⟨r,i,j,o,g⟩ st' _ _ ⟨sm,e,mi,le⟩
  cases (show r=none from e)
  have le:1+x<=o.size:=le;exact kKJ H (sm.1.trans hk) mi (λ r c st2 sm2 res=>⟨⟨sm2.1.trans sm.1,sm2.2.1.trans sm.2.1,sm2.2.2.1.trans sm.2.2.1,sm2.2.2.2.trans sm.2.2.2⟩,r,rfl,res⟩) λ c st2 sm2 y=>⟨⟨sm2.1.trans sm.1,sm2.2.1.trans sm.2.1,sm2.2.2.1.trans sm.2.2.1,sm2.2.2.2.trans sm.2.2.2⟩,y.mono (by omega)⟩
end
end Srt
namespace Srt
set_option autoImplicit false
open PySem PyProof.Rows
section
variable {α:Type} {lb:α->α->Bool}
theorem kCK (l:List α) (i:Nat) (x:α) (h:i<l.length):l.set i x=l.take i++x::l.drop (i+1):=by
 rw [List.set_eq_take_append_cons_drop,if_pos h]
theorem wr:∀ (xs:List α) (k:Nat) (arr:Array α) (lo:Nat),lo+k+xs.length<=arr.size->((xs.zipIdx k).foldl (λ a (p:α×Nat)=>a.setIfInBounds (lo+p.2) p.1) arr).toList=arr.toList.take (lo+k)++(xs++arr.toList.drop (lo+k+xs.length))
 | [],k,arr,lo,h=>by simp
 | x::xs,k,arr,lo,h=>by
  rw [length_cons] at h;rw [List.zipIdx_cons,foldl_cons];have ih:=wr xs (k+1) (arr.setIfInBounds (lo+k) x) lo (by rw [Array.size_setIfInBounds];omega);rw [ih,Array.toList_setIfInBounds,kCK _ _ _ (by simp;omega)];have e:(arr.toList.take (lo+k)).length=lo+k:=by simp;omega
  have t1:(arr.toList.take (lo+k)++x::arr.toList.drop (lo+k+1)).take (lo+(k+1))=arr.toList.take (lo+k)++[x]:=by
   rw [List.take_append,e,show lo+(k+1)-(lo+k)=1 by omega,take_of_length_le (by rw [e];omega)]
   rfl
  have t2:(arr.toList.take (lo+k)++x::arr.toList.drop (lo+k+1)).drop (lo+(k+1)+xs.length)=arr.toList.drop (lo+k+(x::xs).length):=by
   rw [List.drop_append,e,drop_eq_nil_of_le (by rw [e];omega),nil_append,show lo+(k+1)+xs.length-(lo+k)=xs.length+1 by omega,List.drop_succ_cons,drop_drop,length_cons]
   congr 1
   omega
  rw [t1,t2];simp
theorem kDJ (W:Wk lb) {X1 X2 Y1 Y2 Mm:List α} (sx:jF lb (X1++X2)) (sy:jF lb (Y1++Y2)) (h1:∀ x∈X1,∀ y∈Y1++Y2,le lb x y) (h2:∀ x∈X2,∀ y∈Y2,le lb x y) (r:Res lb X2 Y1 Mm) :
  jF lb (X1++(Mm++Y2))/\(X1++(Mm++Y2)).Perm ((X1++X2)++(Y1++Y2)):=by
 have a1:=pairwise_append.mp sx;have a2:=pairwise_append.mp sy;have mem:∀ z∈Mm,z∈X2\/z∈Y1:=λ z hz=>mem_append.mp ((r.2.mem_iff).mp hz);refine ⟨pairwise_append.mpr ⟨a1.1,pairwise_append.mpr ⟨r.1,a2.2.1,λ x hx y hy=>?_⟩,λ x hx y hy=>?_⟩,?_⟩
 ·rcases mem x hx with z | z
  ·exact h2 x z y hy
  ·exact a2.2.2 x z y hy
 ·rcases mem_append.mp hy with z | z
  ·rcases mem y z with w | w
   ·exact a1.2.2 x hx y w
   ·exact h1 x hx y (mem_append_left _ w)
  ·exact h1 x hx y (mem_append_right _ z)
 ·rw [append_assoc]
  refine List.Perm.append_left X1 ?_;rw [<-append_assoc];exact r.2.append_right Y2
end
end Srt
local macro_rules | `(tactic| walk_at "sort_open mergeAt")=>`(tactic| delta $(Lean.mkIdent (Lean.mkPrivateNameCore `PySem.Builtin.List.W1All `PySem.Builtin.mergeAt)):ident)
namespace Srt
set_option autoImplicit false
open PySem PyProof.Rows
section
variable {M:Model} {A:Around} {E:Value->Shared->Prop} {s:Shared} {lb:Keyed->Keyed->Bool} {D:Keyed->Prop} {kd:SortKind} {arr:Array Keyed}
theorem kHM {st st':SortSt} {Q:PUnit->SortSt->Prop} (h:Q ⟨⟩ st'):wpS M A E s (set st':StateT SortSt Sem PUnit) Q st:=by
 unfold wpS;rw [StateT.run_set];exact wpAny_pure ⟨rfl,h⟩
theorem wY {i m j:Nat} (h1:i<=m) (h2:m<=j):(arr.extract i j).toList=(arr.extract i m).toList++(arr.extract m j).toList:=by
 rw [<-Array.toList_append,Array.extract_append_extract,Nat.min_eq_left h1,Nat.max_eq_right h2]
theorem sY (W:Wk lb) {lo n:Nat} (h:jF lb (arr.extract lo (lo+n)).toList) (hn:lo+n<=arr.size) (i j:Nat) (hi:i<=j) (hj:j<n):le lb (arr[lo+i]'(by omega)) (arr[lo+j]'(by omega)):=by
 have:=wF W h hi (show j<(arr.extract lo (lo+n)).size by rw [Array.size_extract];omega);simpa using this
def Joined (lb:Keyed->Keyed->Bool) (arr arr':Array Keyed) (lo n:Nat):Prop:=∃ m:List Keyed,arr'.toList=arr.toList.take lo++(m++arr.toList.drop (lo+n))/\jF lb m/\m.Perm (arr.extract lo (lo+n)).toList
theorem vR {lo n:Nat} (h:lo+n<=arr.size):arr.toList=arr.toList.take lo++((arr.extract lo (lo+n)).toList++arr.toList.drop (lo+n)):=by
 rw [xD,<-drop_drop,take_append_drop,take_append_drop]
theorem pF (W:Wk lb) (hL:vV M A E s lb D kd) {st:SortSt} (hk:kindOf st=kd) (hf:failedOf st=none) (dd:∀ x∈(arrOf st).toList,D x) {i sa na nb pa pb:Nat} (hi:(pendingOf st)[i]?=some (sa,na,pa)) (hj:(pendingOf st)[i+1]?=some (sa+na,nb,pb))
  (na0:0<na) (nb0:0<nb) (hn:sa+na+nb<=(arrOf st).size) (sx:jF lb ((arrOf st).extract sa (sa+na)).toList) (sy:jF lb ((arrOf st).extract (sa+na) (sa+na+nb)).toList) {Q:Bool->SortSt->Prop}
  (q:∀ st',kindOf st'=kd->failedOf st'=none->pendingOf st'=((pendingOf st).setIfInBounds i (sa,na+nb,pa)).eraseIdxIfInBounds (i+1)->Joined lb (arrOf st) (arrOf st') sa (na+nb)->Q true st'):wpS M A E s (mergeAt' i) Q st:=by
 unfold mergeAt'
 walk_at "sort_open mergeAt"
 dsimp only;refine wpS_bind (wpS_get ?_);rw [hi,hj];dsimp only;refine wpS_bind (kHM ?_);generalize hP:((pendingOf st).setIfInBounds i (sa,na+nb,pa)).eraseIdxIfInBounds (i+1)=PP at *;have dx:∀ {j:Nat} (h:j<(arrOf st).size),D (arrOf st)[j]:=λ h=>dd _ (by simp);have z1:sa+na<(arrOf st).size:=by omega
 have z2:sa+na-1<(arrOf st).size:=by omega
 have z3:sa+na<=(arrOf st).size:=by omega
 refine wpS_bind (qJ (arr:=arrOf st) (getElem?_pos (arrOf st) (sa+na) z1) ?_);refine wpS_bind (uJ (arr:=arrOf st) (st:=setPending st PP) W hL hk (dx z1) dd z3 (sY (arr:=arrOf st) W sx z3) na0 λ k kn g1 g2=>?_);simp only [Bool.false_eq_true,if_false] at g1 g2;dsimp only;have spX:=wY (arr:=arrOf st) (i:=sa) (m:=sa+k) (j:=sa+na) (by omega) (by omega);have spW:=wY (arr:=arrOf st) (i:=sa) (m:=sa+na) (j:=sa+na+nb) (by omega) (by omega);have iy:=sY W sy (by omega);have ix:=sY W sx (by omega);have same:∀ {X:List Keyed},X=((arrOf st).extract sa (sa+(na+nb))).toList->jF lb X->Joined lb (arrOf st) (arrOf st) sa (na+nb):=λ {X} e h=>⟨X,by rw [e];exact vR (by omega),h,by rw [e]⟩
 have low:∀ x∈((arrOf st).extract sa (sa+k)).toList,∀ y∈((arrOf st).extract (sa+na) (sa+na+nb)).toList,le lb x y:=λ x hx y hy=>by
  obtain ⟨j,hj,j1,j2,rfl⟩:=jB hx;obtain ⟨j',hj',j1',j2',rfl⟩:=jB hy;have e1:=g1 (j-sa) (by omega) (by omega);have e2:=iy 0 (j'-(sa+na)) (by omega) (by omega);simp only [show sa+(j-sa)=j by omega,show sa+na+(j'-(sa+na))=j' by omega,Nat.add_zero] at e1 e2;exact W.trans e1 e2
 by_cases e:na-k=0
 ·rw [if_pos (by simpa using e)]
  have ek:sa+k=sa+na:=by omega
  rw [ek] at low;exact wpS_pure (q _ hk hf rfl (same (by rw [<-Nat.add_assoc];exact spW.symm) (pairwise_append.mpr ⟨sx,sy,low⟩)))
 rw [if_neg (by simpa using e)];have eL:sa+k+(na-k)-1=sa+na-1:=by omega
 rw [eL];refine wpS_bind (qJ (arr:=arrOf st) (getElem?_pos (arrOf st) (sa+na-1) z2) ?_);refine wpS_bind (uJ (arr:=arrOf st) (st:=setPending st PP) W hL hk (dx z2) dd hn iy (by omega) λ p pn f1 f2=>?_);simp only [if_true] at f1 f2;dsimp only
 have toLast:∀ x∈((arrOf st).extract sa (sa+na)).toList,le lb x ((arrOf st)[sa+na-1]'(by omega)):=λ x hx=>by
  obtain ⟨j,hj,j1,j2,rfl⟩:=jB hx;have e1:=ix (j-sa) (na-1) (by omega) (by omega);simp only [show sa+(j-sa)=j by omega,show sa+(na-1)=sa+na-1 by omega] at e1;exact e1
 have high:∀ y∈((arrOf st).extract (sa+na+p) (sa+na+nb)).toList,le lb ((arrOf st)[sa+na-1]'(by omega)) y:=λ y hy=>by
  obtain ⟨j,hj,j1,j2,rfl⟩:=jB hy;have e1:=f2 (j-(sa+na)) (by omega) (by omega);simp only [show sa+na+(j-(sa+na))=j by omega] at e1;exact e1
 by_cases e0:p=0
 ·rw [if_pos (by simpa using e0)]
  rw [e0,Nat.add_zero] at high;exact wpS_pure (q _ hk hf rfl (same (by rw [<-Nat.add_assoc];exact spW.symm) (pairwise_append.mpr ⟨sx,sy,λ x hx y hy=>W.trans (toLast x hx) (high y hy)⟩)))
 rw [if_neg (by simpa using e0)];have spY:=wY (arr:=arrOf st) (i:=sa+na) (m:=sa+na+p) (j:=sa+na+nb) (by omega) (by omega);have sx':=sx;rw [spX] at sx';have sy':=sy;rw [spY] at sy'
 have mx:∀ {u v:Nat},∀ x∈((arrOf st).extract u v).toList,D x:=λ x hx=>by
  obtain ⟨j,hj,_,_,rfl⟩:=jB hx;exact dx hj
 have szx:((arrOf st).extract (sa+k) (sa+na)).size=na-k:=by rw [Array.size_extract];omega
 have szy:((arrOf st).extract (sa+na) (sa+na+p)).size=p:=by rw [Array.size_extract];omega
 have x0:∀ (h:0<((arrOf st).extract (sa+k) (sa+na)).size),((arrOf st).extract (sa+k) (sa+na))[0]=(arrOf st)[sa+k]'(by omega):=λ h=>by simp
 have xl:∀ (h:0<((arrOf st).extract (sa+k) (sa+na)).size),((arrOf st).extract (sa+k) (sa+na))[((arrOf st).extract (sa+k) (sa+na)).size-1]'(by omega)=(arrOf st)[sa+na-1]'(by omega):=λ h=>by
  rw [Array.getElem_extract]
  congr 1
  omega
 have y0:∀ (h:0<((arrOf st).extract (sa+na) (sa+na+p)).size),((arrOf st).extract (sa+na) (sa+na+p))[0]=(arrOf st)[sa+na]'(by omega):=λ h=>by simp
 have below:∀ y∈((arrOf st).extract (sa+na) (sa+na+p)).toList,le lb y ((arrOf st)[sa+na-1]'(by omega)):=λ y hy=>by
  obtain ⟨j,hj,j1,j2,rfl⟩:=jB hy;have e1:=f1 (j-(sa+na)) (by omega) (by omega);simp only [show sa+na+(j-(sa+na))=j by omega] at e1;exact W.of_lt e1
 have above:∀ y∈((arrOf st).extract (sa+k) (sa+na)).toList,le lb ((arrOf st)[sa+na]'(by omega)) y:=λ y hy=>by
  obtain ⟨j,hj,j1,j2,rfl⟩:=jB hy;have e1:=g2 (j-sa) (by omega) (by omega);simp only [show sa+(j-sa)=j by omega] at e1;exact W.of_lt e1
 have fin:∀ (r:Array Keyed) (st':SortSt),Sm (setPending st PP) st'->Res lb ((arrOf st).extract (sa+k) (sa+na)).toList ((arrOf st).extract (sa+na) (sa+na+p)).toList r.toList ->
   wpS M A E s (do modify λ s=>setArr s (r.toList.zipIdx.foldl (λ a (p,j)=>a.setIfInBounds (sa+k+j) p) (arrOf s));let __do_lift <-get;pure (failedOf __do_lift).isNone) Q st':=λ r st' sm res=>by
  refine wpS_bind (wpS_modify (wpS_bind (wpS_get ?_)));have ef:failedOf st'=none:=sm.2.2.2.trans hf;have ea:arrOf st'=arrOf st:=sm.2.1;refine wpS_pure ?_;show Q (failedOf st').isNone _;rw [ef];refine q _ (sm.1.trans hk) ef sm.2.2.1 ?_;show Joined lb (arrOf st) (r.toList.zipIdx.foldl (λ a (p:Keyed×Nat)=>a.setIfInBounds (sa+k+p.2) p.1) (arrOf st')) sa (na+nb);rw [ea];obtain ⟨j1,j2⟩:=kDJ W sx' sy' (by rw [<-spY];exact low) (λ x hx y hy=>W.trans (toLast x (by rw [spX];exact mem_append_right _ hx)) (high y hy)) res;rw [<-spX,<-spY,<-spW] at j2;refine ⟨_,?_,j1,by rw [<-Nat.add_assoc];exact j2⟩
  have len:r.toList.length=na-k+p:=by
   have:=res.2.length_eq;rw [length_append] at this;simp only [Array.length_toList,szx,szy] at this;simpa using this
  rw [wr r.toList 0 (arrOf st) (sa+k) (by rw [len];omega),len];have t1:(arrOf st).toList.take (sa+k+0)=(arrOf st).toList.take sa++((arrOf st).extract sa (sa+k)).toList:=sQ (arrOf st) (by omega)
  have t2:(arrOf st).toList.drop (sa+k+0+(na-k+p))=((arrOf st).extract (sa+na+p) (sa+na+nb)).toList++(arrOf st).toList.drop (sa+(na+nb)):=by
   rw [show sa+k+0+(na-k+p)=sa+na+p by omega,show sa+na+nb=sa+na+p+(nb-p) by omega,xD,show sa+(na+nb)=sa+na+p+(nb-p) by omega];exact kAC _ _ _
  rw [t1,t2];simp only [append_assoc]
 have mx0:(arrOf st)[sa+k]'(by omega)∈((arrOf st).extract (sa+k) (sa+na)).toList:=by
  rw [<-x0 (by omega),Array.mem_toList_iff];exact Array.getElem_mem _
 have myl:((arrOf st).extract (sa+na) (sa+na+p))[((arrOf st).extract (sa+na) (sa+na+p)).size-1]'(by omega)∈((arrOf st).extract (sa+na) (sa+na+p)).toList:=by
  rw [Array.mem_toList_iff];exact Array.getElem_mem _
 by_cases c:na-k<=p
 ·rw [if_pos c]
  refine wpS_bind ?_;exact pD (st:=setPending st PP) ⟨W,hL,mx,mx,(pairwise_append.mp sx').2.1,(pairwise_append.mp sy').1,λ h y hy=>by rw [xl h];exact below y hy⟩ hk (by omega) (by omega) (by rw [x0 (by omega),y0 (by omega)];exact above _ mx0) fin
 ·rw [if_neg c]
  refine wpS_bind ?_;exact pE (st:=setPending st PP) ⟨W,hL,mx,mx,(pairwise_append.mp sx').2.1,(pairwise_append.mp sy').1,λ h y hy=>by rw [y0 h];exact above y hy⟩ hk (by omega) (by omega) (by rw [xl (by omega)];exact below _ myl) fin
end
end Srt
namespace Srt
theorem nP {α:Type} {R:α->α->Prop}:∀ {l:List α},l.length<=1->l.Pairwise R
 | [],_=>List.Pairwise.nil
 | [_],_=>pairwise_singleton _ _
set_option autoImplicit false
open PySem PyProof.Rows
section
variable {α:Type}
theorem kEQ (arr:Array α) {Q R:List α} {y x:α} (h:arr.toList=Q++y::x::R):(arr.swapIfInBounds (Q.length+1) Q.length).toList=Q++x::y::R:=by
 have sz:arr.size=Q.length+(R.length+2):=by
  have:=congrArg List.length h;simpa using this
 have g:∀ k,arr[k]?=(Q++y::x::R)[k]?:=λ k=>by rw [<-h,Array.getElem?_toList]
 refine List.ext_getElem? λ k=>?_;have e:=getElem?_swapIB (xs:=arr) (i:=Q.length+1) (j:=Q.length) (by omega) (by omega) k;rw [show (arr.swapIfInBounds (Q.length+1) Q.length).toList[k]?=(arr.swapIfInBounds (Q.length+1) Q.length)[k]? by simp,e,g,g,g];rcases Nat.lt_or_ge k Q.length with c | c
 ·rw [if_neg (by omega),if_neg (by omega),List.getElem?_append_left c,List.getElem?_append_left c]
 ·obtain ⟨j,rfl⟩ : ∃ j,k=Q.length+j:=⟨k-Q.length,by omega⟩
  rw [List.getElem?_append_right (by omega),List.getElem?_append_right (by omega),List.getElem?_append_right (by omega),List.getElem?_append_right (by omega)];rw [show Q.length+j-Q.length=j by omega,show Q.length+1-Q.length=1 by omega,Nat.sub_self]
  match j with
  | 0=>simp
  | 1=>simp
  | j+2 =>
   rw [if_neg (by omega),if_neg (by omega)];simp
theorem dL:∀ (m2 m1 T:List α) (x:α) (arr:Array α),arr.toList=m1++(m2++x::T)->(bubble arr (m1.length+m2.length) m2.length).toList=m1++(x::(m2++T))
 | [],m1,T,x,arr,h=>h
 | y::m2,m1,T,x,arr,h=>by
  have ih:=dL m2 (m1++[y]) T x arr (by rw [h];simp);rw [length_cons,bubble_succ];rw [length_append,length_singleton,show m1.length+1+m2.length=m1.length+(m2.length+1) by omega] at ih;have e:=kEQ (bubble arr (m1.length+(m2.length+1)) m2.length) (Q:=m1) (y:=y) (x:=x) (R:=m2++T) (by rw [ih];simp);rw [show m1.length+(m2.length+1)-m2.length=m1.length+1 by omega,show m1.length+1-1=m1.length by omega];rw [e];simp
end
section
variable {M:Model} {A:Around} {E:Value->Shared->Prop} {s:Shared} {lb:Keyed->Keyed->Bool} {D:Keyed->Prop} {kd:SortKind}
theorem aP (hL:vV M A E s lb D kd) {st:SortSt} (hk:kindOf st=kd) {i j:Nat} {x y:Keyed} (hx:(arrOf st)[i]?=some x) (hy:(arrOf st)[j]?=some y) (dx:D x) (dy:D y) {Q:Option Bool->SortSt->Prop} (q:Q (some (lb x y)) st):wpS M A E s (ltAt' i j) Q st:=by
 rw [ltAt'_eq];refine wpS_bind (wpS_get ?_);exact wpS_bind (qJ hx (wpS_bind (qJ hy (hL _ _ dx dy st _ hk q))))
def Sa (st st':SortSt):Prop:=kindOf st'=kindOf st/\pendingOf st'=pendingOf st/\failedOf st'=failedOf st
theorem kJE (W:Wk lb) {m1 m2:List Keyed} {x:Keyed} (h:jF lb (m1++m2)) (h1:∀ y∈m1,le lb y x) (h2:∀ y∈m2,le lb x y):jF lb (m1++x::m2):=by
 have a:=pairwise_append.mp h;refine pairwise_append.mpr ⟨a.1,List.pairwise_cons.mpr ⟨h2,a.2.1⟩,λ y hy z hz=>?_⟩;rcases mem_cons.mp hz with rfl | w
 ·exact h1 y hy
 ·exact a.2.2 y hy z w
theorem sM (W:Wk lb) (hL:vV M A E s lb D kd) {st:SortSt} (hk:kindOf st=kd) (dd:∀ x∈(arrOf st).toList,D x) {lo n ok:Nat} (hok:ok<=n) (hn:lo+n<=(arrOf st).size) (hs:jF lb ((arrOf st).extract lo (lo+ok)).toList) {Q:Bool->SortSt->Prop}
  (q:∀ st',Sa st st'->Joined lb (arrOf st) (arrOf st') lo n->Q true st'):wpS M A E s (binarySort' lo n ok) Q st:=by
 rw [binarySort'_eq];refine wpS_bind (wpS_mono (wpS_forRange (I:=λ k c st'=>c=(none,())/\Sa st st'/\Joined lb (arrOf st) (arrOf st') lo (min k n)) (Q:=λ c st'=>c=(none,())/\Sa st st'/\Joined lb (arrOf st) (arrOf st') lo n) ?step ?fin ?init) ?post)
 case post =>
  rintro c st' ⟨rfl,sm,j⟩;exact wpS_pure (q st' sm j)
 case fin =>
  rintro c st' ⟨rfl,sm,j⟩;refine ⟨rfl,sm,?_⟩;rwa [show min (max (max ok 1) n) n=n by omega] at j
 case init =>
  refine ⟨rfl,⟨rfl,rfl,rfl⟩,_,vR (by omega),?_,List.Perm.refl _⟩;by_cases o:ok=0
  ·have:((arrOf st).extract lo (lo+min (max ok 1) n)).toList.length<=1:=by
    rw [Array.length_toList,Array.size_extract];omega
   generalize ((arrOf st).extract lo (lo+min (max ok 1) n)).toList=l at *;exact nP this
  ·rwa [show min (max ok 1) n=ok by omega]
 case step =>
  rintro k c st' _ hkn ⟨rfl,sm,m,e,sr,pm⟩;rw [show min k n=k by omega] at e pm;have lm:m.length=k:=by rw [pm.length_eq,Array.length_toList,Array.size_extract];omega
  have lp:((arrOf st).toList.take lo).length=lo:=by simp;omega
  have kz:lo+k<(arrOf st).size:=by omega
  rw [drop_one kz] at e
  have ax:(arrOf st')[lo+k]?=some ((arrOf st)[lo+k]):=by
   rw [<-Array.getElem?_toList,e,List.getElem?_append_right (by omega),lp,List.getElem?_append_right (by omega),lm,show lo+k-lo-k=0 by omega]
   rfl
  have am:∀ j (h:j<m.length),(arrOf st')[lo+j]?=some m[j]:=λ j h=>by
   rw [<-Array.getElem?_toList,e,List.getElem?_append_right (by omega),lp,List.getElem?_append_left (by omega),show lo+j-lo=j by omega];exact List.getElem?_eq_getElem h
  have dx:D (arrOf st)[lo+k]:=dd _ (by simp)
  have dm:∀ j (h:j<m.length),D m[j]:=λ j h=>by
   obtain ⟨i,hi,_,_,ei⟩:=jB (pm.mem_iff.mp (getElem_mem h));rw [ei];exact dd _ (by simp)
  have mono:∀ i j (h:i<=j) (hj:j<m.length),le lb (m[i]'(by omega)) m[j]:=λ i j h hj=>by
   by_cases z:i=j
   ·subst z;exact W.refl _
   ·exact pairwise_iff_getElem.mp sr i j (by omega) hj (by omega)
  refine wpS_bind (wpS_mono (wpS_forRange (I:=λ x c st2=>st2=st'/\∃ l r,c=(none,l,r)/\l<=r/\r<=k/\r-l<=k-x/\(∀ i (h:i<m.length),i<l->le lb m[i] (arrOf st)[lo+k])/\(∀ i (h:i<m.length),r<=i->le lb (arrOf st)[lo+k] m[i]))
   (Q:=λ c st2=>st2=st'/\∃ l r,c=(none,l,r)/\l<=k/\(∀ i (h:i<m.length),i<l->le lb m[i] (arrOf st)[lo+k])/\(∀ i (h:i<m.length),l<=i->le lb (arrOf st)[lo+k] m[i])) ?istep ?ifin ?iinit) ?ipost)
  case iinit=>exact ⟨rfl,0,k,rfl,by omega,by omega,by omega,λ i _ hi=>by omega,λ i h1 h2=>by omega⟩
  case ifin =>
   rintro c st2 ⟨rfl,l,r,rfl,lr,rk,d,a1,a2⟩;have:l=r:=by omega
   subst this;exact ⟨rfl,l,l,rfl,rk,a1,a2⟩
  case istep =>
   rintro x c st2 _ _ ⟨rfl,l,r,rfl,lr,rk,d,a1,a2⟩;dsimp only;by_cases hge:l >= r
   ·rw [if_pos hge]
    have:l=r:=by omega
    subst this;exact wpS_pure ⟨rfl,l,l,rfl,rk,a1,a2⟩
   ·rw [if_neg hge]
    have hm:(l+r) / 2<m.length:=by omega
    refine wpS_bind (aP hL (sm.1.trans hk) ax (am _ hm) dx (dm _ hm) ?_)
    cases z:lb (arrOf st)[lo+k] m[(l+r) / 2]
    case true =>
     simp only [if_true];exact wpS_pure ⟨rfl,l,_,rfl,by omega,by omega,by omega,a1,λ i h hi=>W.trans (W.of_lt z) (mono _ i hi h)⟩
    case false =>
     simp only [Bool.false_eq_true,if_false];exact wpS_pure ⟨rfl,_,r,rfl,by omega,by omega,by omega,λ i h hi=>W.trans (mono i _ (by omega) hm) z,a2⟩
  case ipost =>
   rintro c st2 ⟨rfl,l,r,rfl,lk,a1,a2⟩;show wpS _ _ _ _ (do moveDown' (lo+k) (lo+l);pure (ForInStep.yield (none,()))) _ _;rw [moveDown'_eq];refine wpS_bind (wpS_modify (wpS_pure ⟨rfl,sm,?_⟩));rw [show min (k+1) n=k+1 by omega];show Joined lb (arrOf st) (bubble (arrOf st2) (lo+k) (lo+k-(lo+l))) lo (k+1)
   have b:=dL (m.drop l) ((arrOf st).toList.take lo++m.take l) ((arrOf st).toList.drop (lo+k+1)) ((arrOf st)[lo+k]) (arrOf st2) (by
    rw [e]
    conv=>lhs;rw [<-take_append_drop l m]
    simp only [append_assoc,List.singleton_append])
   have l1:((arrOf st).toList.take lo++m.take l).length+(m.drop l).length=lo+k:=by
    rw [length_append,lp,length_take,length_drop];omega
   have l2:(m.drop l).length=lo+k-(lo+l):=by rw [length_drop];omega
   rw [l1,l2] at b;refine ⟨m.take l++(arrOf st)[lo+k]::m.drop l,?_,kJE W (by rw [take_append_drop];exact sr) (λ y hy=>?_) (λ y hy=>?_),?_⟩
   ·rw [b,<-Nat.add_assoc]
    simp only [append_assoc,cons_append]
   ·obtain ⟨i,hi,rfl⟩:=mem_iff_getElem.mp hy
    rw [length_take] at hi;rw [List.getElem_take];exact a1 i (by omega) (by omega)
   ·obtain ⟨i,hi,rfl⟩:=mem_iff_getElem.mp hy
    rw [length_drop] at hi;rw [List.getElem_drop];exact a2 _ (by omega) (by omega)
   ·refine List.Perm.trans List.perm_middle ?_
    rw [take_append_drop,wY (i:=lo) (m:=lo+k) (j:=lo+(k+1)) (by omega) (by omega)]
    have:((arrOf st).extract (lo+k) (lo+(k+1))).toList=[(arrOf st)[lo+k]]:=by
     rw [<-Nat.add_assoc,xD,drop_one kz]
     rfl
    rw [this];exact (perm_append_comm (l₁:=[(arrOf st)[lo+k]]) (l₂:=m)).trans (pm.append_right _)
end
end Srt
namespace Srt
set_option autoImplicit false
open PySem PyProof.Rows
section
variable {α:Type}
theorem rJ (arr:Array α) {P m T:List α} {i j:Nat} (h:arr.toList=P++(m++T)) (hi:i=P.length) (hj:j=P.length+m.length):(mirror arr i j ((j-i) / 2)).toList=P++(m.reverse++T):=by
 subst hi hj
 have sz:arr.size=P.length+(m.length+T.length):=by
  have:=congrArg List.length h;simpa using this
 have g:∀ k,arr[k]?=(P++(m++T))[k]?:=λ k=>by rw [<-h,Array.getElem?_toList]
 refine List.ext_getElem? λ k=>?_;rw [Array.getElem?_toList,getElem?_mirror_all (by omega),g,g];rcases Nat.lt_or_ge k P.length with c | c
 ·rw [if_neg (by omega),List.getElem?_append_left c,List.getElem?_append_left c]
 ·rcases Nat.lt_or_ge k (P.length+m.length) with c2 | c2
  ·rw [if_pos ⟨c,c2⟩,List.getElem?_append_right (by omega),List.getElem?_append_right c,List.getElem?_append_left (by omega),List.getElem?_append_left (by rw [length_reverse];omega),List.getElem?_reverse (by omega)]
   congr 1
   omega
  ·rw [if_neg (by omega),List.getElem?_append_right c,List.getElem?_append_right c,List.getElem?_append_right (by omega),List.getElem?_append_right (by rw [length_reverse];omega),length_reverse]
end
section
variable {α:Type} {lb:α->α->Bool}
def Fal (lb:α->α->Bool) (l:List α):Prop:=l.Pairwise λ a b=>le lb b a
theorem Fal.rev {l:List α} (h:Fal lb l):jF lb l.reverse:=List.pairwise_reverse.mpr h
theorem Fal.tail {u t:List α} (h:Fal lb (u++t)) (e:jF lb t):Fal lb (u++t.reverse):=by
 have a:=pairwise_append.mp h;refine pairwise_append.mpr ⟨a.1,List.pairwise_reverse.mpr e,λ x hx y hy=>a.2.2 x hx y (mem_reverse.mp hy)⟩
end
end Srt
namespace Srt
set_option autoImplicit false
open PySem PyProof.Rows
section
variable {M:Model} {A:Around} {E:Value->Shared->Prop} {s:Shared} {lb:Keyed->Keyed->Bool} {D:Keyed->Prop} {kd:SortKind}
structure Rn (arr0 arr:Array Keyed) (lo n:Nat) (m:List Keyed):Prop where
 eq:arr.toList=arr0.toList.take lo++(m++arr0.toList.drop (lo+n))
 pm:m.Perm (arr0.extract lo (lo+n)).toList
 hn:lo+n<=arr0.size
variable {arr0 arr:Array Keyed} {lo n:Nat} {m:List Keyed}
theorem Rn.len (h:Rn arr0 arr lo n m):m.length=n:=by
 have:=h.hn;rw [h.pm.length_eq,Array.length_toList,Array.size_extract];omega
theorem Rn.joined (h:Rn arr0 arr lo n m) (sr:jF lb m):Joined lb arr0 arr lo n:=⟨m,h.eq,sr,h.pm⟩
theorem Rn.start (h:lo+n<=arr0.size):Rn arr0 arr0 lo n (arr0.extract lo (lo+n)).toList:=⟨vR h,List.Perm.refl _,h⟩
theorem Rn.lp (h:Rn arr0 arr lo n m):(arr0.toList.take lo).length=lo:=by have:=h.hn;simp;omega
theorem Rn.at (h:Rn arr0 arr lo n m) {j:Nat} (hj:j<m.length):arr[lo+j]?=some m[j]:=by
 rw [<-Array.getElem?_toList,h.eq,List.getElem?_append_right (by rw [h.lp];omega),h.lp,List.getElem?_append_left (by omega),show lo+j-lo=j by omega];exact List.getElem?_eq_getElem hj
theorem Rn.next (h:Rn arr0 arr lo n m) (hk:lo+n<arr0.size):arr[lo+n]?=some arr0[lo+n]:=by
 rw [<-Array.getElem?_toList,h.eq,List.getElem?_append_right (by rw [h.lp];omega),h.lp,List.getElem?_append_right (by rw [h.len];omega),h.len,drop_one hk,show lo+n-lo-n=0 by omega]
 rfl
theorem Rn.more (h:Rn arr0 arr lo n m) (hk:lo+n<arr0.size):Rn arr0 arr lo (n+1) (m++[arr0[lo+n]]):=by
 refine ⟨?_,?_,by omega⟩
 ·rw [h.eq,drop_one hk,append_assoc]
  rfl
 ·rw [wY (i:=lo) (m:=lo+n) (j:=lo+(n+1)) (by omega) (by omega)]
  have:(arr0.extract (lo+n) (lo+(n+1))).toList=[arr0[lo+n]]:=by
   rw [<-Nat.add_assoc,xD,drop_one hk]
   rfl
  rw [this];exact h.pm.append_right _
theorem Rn.dom (h:Rn arr0 arr lo n m) (dd:∀ x∈arr0.toList,D x):∀ x∈m,D x:=λ x hx=>by
 obtain ⟨i,hi,_,_,ei⟩:=jB (h.pm.mem_iff.mp hx);rw [ei];exact dd _ (by simp)
theorem Rn.turn {u v t:List Keyed} (h:Rn arr0 arr lo n (u++(v++t))) {i j:Nat} (hi:i=lo+u.length) (hj:j=lo+u.length+v.length):Rn arr0 (mirror arr i j ((j-i) / 2)) lo n (u++(v.reverse++t)):=by
 have lp:=h.lp;refine ⟨?_,List.Perm.trans (List.Perm.append_left u (List.Perm.append_right t (List.reverse_perm v))) h.pm,h.hn⟩;have e:=rJ arr (P:=arr0.toList.take lo++u) (m:=v) (T:=t++arr0.toList.drop (lo+n)) (i:=i) (j:=j) (by rw [h.eq];simp only [append_assoc]) (by rw [length_append,lp];exact hi) (by rw [length_append,lp];exact hj);rw [e];simp only [append_assoc]
theorem kAV (W:Wk lb) {m:List Keyed} {x:Keyed} (sr:jF lb m) (h:m.length-1<m.length) (c:le lb m[m.length-1] x):jF lb (m++[x]):=by
 refine pairwise_append.mpr ⟨sr,pairwise_singleton _ _,λ y hy z hz=>?_⟩;have:z=x:=by simpa using hz
 subst this;obtain ⟨i,hi,rfl⟩:=mem_iff_getElem.mp hy;by_cases e:i=m.length-1
 ·subst e;exact c
 ·exact W.trans (pairwise_iff_getElem.mp sr i (m.length-1) hi h (by omega)) c
abbrev AS:=Option (Option Nat)×Nat
def kAE (lo a nrem:Nat):StateT SortSt Sem AS :=
 forIn [a:nrem] ((none,a):AS) λ _ c=>do
  let r <-ltAt' (lo+c.2) (lo+c.2-1)
  match r with
  | some smaller=>if smaller=true then pure (ForInStep.done (none,c.2)) else pure (ForInStep.yield (none,c.2+1))
  | _=>pure (ForInStep.done (some none,c.2))
theorem pG (W:Wk lb) (hL:vV M A E s lb D kd) {st:SortSt} (hk:kindOf st=kd) (dd:∀ x∈arr0.toList,D x) {nrem:Nat} (hn:lo+nrem<=arr0.size) (n1:1<=n) (nn:n<=nrem) (h:Rn arr0 (arrOf st) lo n m) (sr:jF lb m) {Q:AS->SortSt->Prop}
  (q:∀ k m',n<=k->k<=nrem->Rn arr0 (arrOf st) lo k m'->jF lb m'->(k=nrem\/∃ (h1:lo+k<arr0.size) (h2:m'.length-1<m'.length),lb arr0[lo+k] m'[m'.length-1]=true)->Q (none,k) st):wpS M A E s (kAE lo n nrem) Q st:=by
 unfold kAE;refine wpS_forRange (I:=λ x c st'=>st'=st/\c=(none,x)/\∃ m',Rn arr0 (arrOf st) lo x m'/\jF lb m') ?step ?fin ⟨rfl,rfl,m,h,sr⟩
 case fin =>
  rintro c st' ⟨rfl,rfl,m',h',sr'⟩;rw [show max n nrem=nrem by omega] at h' ⊢;exact q nrem m' nn (Nat.le_refl _) h' sr' (.inl rfl)
 case step =>
  rintro x c st' hx1 hx2 ⟨rfl,rfl,m',h',sr'⟩;dsimp only;have lm:=h'.len;have hz:lo+x<arr0.size:=by omega
  have hl:m'.length-1<m'.length:=by omega
  have al:=h'.at hl;rw [show lo+(m'.length-1)=lo+x-1 by omega] at al;refine wpS_bind (aP hL hk (h'.next hz) al (dd _ (by simp)) (h'.dom dd _ (getElem_mem hl)) ?_)
  cases e:lb arr0[lo+x] m'[m'.length-1]
  case true =>
   simp only [if_true];exact wpS_pure (q x m' hx1 (by omega) h' sr' (.inr ⟨hz,hl,e⟩))
  case false =>
   simp only [Bool.false_eq_true,if_false];exact wpS_pure ⟨rfl,rfl,_,h'.more hz,kAV W sr' hl e⟩
end
end Srt
namespace Srt
set_option autoImplicit false
open PySem PyProof.Rows
section
variable {M:Model} {A:Around} {E:Value->Shared->Prop} {s:Shared} {lb:Keyed->Keyed->Bool} {D:Keyed->Prop} {kd:SortKind}
variable {arr0 arr:Array Keyed} {lo n:Nat} {m:List Keyed}
abbrev DS:=Option (Option Nat)×Nat×Nat
def sA (lo n nrem:Nat):StateT SortSt Sem DS :=
 forIn [n:nrem] ((none,n,0):DS) λ _ c=>do
  let r <-ltAt' (lo+c.2.1) (lo+c.2.1-1)
  match r with
  | some smaller =>
   if smaller=true then
    if c.2.2>0 then do
     reverseSlice' (lo+c.2.1-(c.2.2+1)) (lo+c.2.1)
     pure (ForInStep.yield (none,c.2.1+1,0))
    else pure (ForInStep.yield (none,c.2.1+1,0))
   else do
    let r <-ltAt' (lo+c.2.1-1) (lo+c.2.1)
    match r with
    | some larger=>if larger=true then pure (ForInStep.done (none,c.2.1,c.2.2)) else pure (ForInStep.yield (none,c.2.1+1,c.2.2+1))
    | _=>pure (ForInStep.done (some none,c.2.1,c.2.2))
  | _=>pure (ForInStep.done (some none,c.2.1,c.2.2))
structure Fl (lb:Keyed->Keyed->Bool) (arr0 arr:Array Keyed) (lo n neq:Nat) (u t:List Keyed) (z:Keyed):Prop where
 rn:Rn arr0 arr lo n (u++(t++[z]))
 fal:Fal lb (u++(t++[z]))
 srt:jF lb (t++[z])
 len:t.length=neq
theorem Fl.last {neq:Nat} {u t:List Keyed} {z:Keyed} (h:Fl lb arr0 arr lo n neq u t z) (n0:0<n):arr[lo+n-1]?=some z:=by
 have l:=h.rn.len;rw [length_append,length_append,length_singleton] at l;have:=h.rn.at (j:=n-1) (by rw [length_append,length_append,length_singleton];omega);rw [show lo+(n-1)=lo+n-1 by omega] at this;rw [this,<-List.getElem?_eq_getElem,List.getElem?_append_right (by omega),List.getElem?_append_right (by omega),show n-1-u.length-t.length=0 by omega]
 rfl
theorem Fl.low (W:Wk lb) {neq:Nat} {u t:List Keyed} {z x:Keyed} (h:Fl lb arr0 arr lo n neq u t z) (c:le lb x z):∀ y∈u++(t++[z]),le lb x y:=λ y hy=>by
 have f:=h.fal;rw [Fal,<-append_assoc] at f;rw [<-append_assoc] at hy;rcases mem_append.mp hy with w | w
 ·exact W.trans c ((pairwise_append.mp f).2.2 y w z (by simp))
 ·have:y=z:=by simpa using w
  rw [this];exact c
theorem bS {l:List Keyed} {x:Keyed} (h:Fal lb l) (c:∀ y∈l,le lb x y):Fal lb (l++[x]):=by
 refine pairwise_append.mpr ⟨h,pairwise_singleton _ _,λ y hy w hw=>?_⟩;have:w=x:=by simpa using hw
 rw [this];exact c y hy
theorem Fl.turned {neq:Nat} {u t:List Keyed} {z:Keyed} (h:Fl lb arr0 arr lo n neq u t z):Rn arr0 (mirror arr (lo+n-(neq+1)) (lo+n) ((lo+n-(lo+n-(neq+1))) / 2)) lo n (u++(t++[z]).reverse)/\Fal lb (u++(t++[z]).reverse):=by
 have l:=h.rn.len;have ll:=h.len;rw [length_append,length_append,length_singleton] at l;refine ⟨?_,h.fal.tail h.srt⟩;have:=Rn.turn (u:=u) (v:=t++[z]) (t:=[]) (by simpa using h.rn) (i:=lo+n-(neq+1)) (j:=lo+n) (by omega) (by rw [length_append,length_singleton];omega);simpa using this
theorem kBW (W:Wk lb) (hL:vV M A E s lb D kd) {st:SortSt} (hk:kindOf st=kd) (dd:∀ x∈arr0.toList,D x) {nrem:Nat} (hn:lo+nrem<=arr0.size) (n1:1<=n) (nn:n<=nrem) {u:List Keyed} {z:Keyed} (h:Fl lb arr0 (arrOf st) lo n 0 u [] z) {Q:DS->SortSt->Prop}
  (q:∀ k neq st' u t z,Sa st st'->n<=k->k<=nrem->Fl lb arr0 (arrOf st') lo k neq u t z->Q (none,k,neq) st'):wpS M A E s (sA lo n nrem) Q st:=by
 unfold sA;refine wpS_forRange (I:=λ x c st'=>Sa st st'/\∃ neq u t z,c=(none,x,neq)/\Fl lb arr0 (arrOf st') lo x neq u t z) ?step ?fin ⟨⟨rfl,rfl,rfl⟩,0,u,[],z,rfl,h⟩
 case fin =>
  rintro c st' ⟨sm,neq,u,t,z,rfl,f⟩;rw [show max n nrem=nrem by omega] at f ⊢;exact q _ _ _ _ _ _ sm nn (Nat.le_refl _) f
 case step =>
  rintro x c st' hx1 hx2 ⟨sm,neq,u,t,z,rfl,f⟩;dsimp only;have hz:lo+x<arr0.size:=by omega
  have dz:D z:=f.rn.dom dd z (by simp);have dx:D arr0[lo+x]:=dd _ (by simp);refine wpS_bind (aP hL (sm.1.trans hk) (f.rn.next hz) (f.last (by omega)) dx dz ?_)
  cases e:lb arr0[lo+x] z
  case true =>
   simp only [if_true];have lw:=f.low W (W.of_lt e);by_cases k0:neq>0
   ·rw [if_pos k0,reverseSlice'_eq]
    obtain ⟨r1,r2⟩:=f.turned;refine wpS_bind (wpS_modify (wpS_pure ⟨sm,0,_,[],_,rfl,⟨r1.more hz,bS r2 λ y hy=>lw y ?_,pairwise_singleton _ _,rfl⟩⟩));rcases mem_append.mp hy with w | w
    ·exact mem_append_left _ w
    ·exact mem_append_right _ (mem_reverse.mp w)
   ·rw [if_neg k0]
    exact wpS_pure ⟨sm,0,_,[],_,rfl,⟨f.rn.more hz,bS f.fal lw,pairwise_singleton _ _,rfl⟩⟩
  case false =>
   simp only [Bool.false_eq_true,if_false];refine wpS_bind (aP hL (sm.1.trans hk) (f.last (by omega)) (f.rn.next hz) dz dx ?_)
   cases e2:lb z arr0[lo+x]
   case true =>
    simp only [if_true];exact wpS_pure (q _ _ _ _ _ _ sm hx1 (by omega) f)
   case false =>
    simp only [Bool.false_eq_true,if_false];refine wpS_pure ⟨sm,neq+1,u,t++[z],arr0[lo+x],rfl,⟨by have:=f.rn.more hz;simpa using this,by have:=bS f.fal (f.low W e2);simpa using this,?_,by rw [length_append,f.len];rfl⟩⟩;refine kAV W f.srt (by rw [length_append,length_singleton];omega) ?_;have:(t++[z])[(t++[z]).length-1]'(by rw [length_append,length_singleton];omega)=z:=by simp
    rw [this];exact e
end
end Srt
namespace Srt
set_option autoImplicit false
open PySem PyProof.Rows
def lK (lo n nrem:Nat):StateT SortSt Sem (Option Nat):=do
 reverseSlice' lo (lo+n)
 let c <-kAE lo n nrem
 match c.1 with
 | some r=>pure r
 | none=>pure (some c.2)
def partL (lo n nrem:Nat):StateT SortSt Sem (Option Nat):=do
 liftM (rule "list.sort.descending-run")
 let c <-sA lo (n+1) nrem
 match c.1 with
 | some r=>pure r
 | none =>
  if c.2.2>0 then do
   reverseSlice' (lo+c.2.1-(c.2.2+1)) (lo+c.2.1)
   lK lo c.2.1 nrem
  else lK lo c.2.1 nrem
theorem gU (lo nrem:Nat):countRun' lo nrem=(do
  let c <-kAE lo 1 nrem
  match c.1 with
  | some r=>pure r
  | none =>
   if (c.2 == nrem)=true then pure (some c.2)
   else if c.2>1 then do
    let r <-ltAt' lo (lo+c.2-1)
    match r with
    | some rose =>
     if rose=true then pure (some c.2)
     else do
      reverseSlice' lo (lo+c.2)
      partL lo c.2 nrem
    | _=>pure none
   else partL lo c.2 nrem):=by
 rw [countRun'_eq];dsimp only;unfold kAE;refine congr (congrArg _ (congrArg _ (funext λ x=>funext λ c=>congrArg _ (funext λ r=>by cases r<;>rfl)))) (funext λ c=>?_);have part:∀ n:Nat,partL lo n nrem=partL lo n nrem:=λ _=>rfl
 cases c.1 with
 | some r=>rfl
 | none =>
  dsimp only;refine ite_congr rfl (λ _=>rfl) (λ _=>ite_congr rfl (λ _=>congrArg _ (funext λ r=>?_)) (λ _=>?_))
  ·cases r with
   | none=>rfl
   | some rose =>
    dsimp only;refine ite_congr rfl (λ _=>rfl) (λ _=>congrArg _ (funext λ _=>?_));unfold partL sA;refine congrArg _ (funext λ _=>congr (congrArg _ (congrArg _ (funext λ x=>funext λ d=>congrArg _ (funext λ r=>?_)))) (funext λ d=>?_))
    ·cases r with
     | none=>rfl
     | some b=>exact ite_congr rfl (λ _=>rfl) (λ _=>congrArg _ (funext λ r=>by cases r<;>rfl))
    ·cases d.1 with
     | some r=>rfl
     | none =>
      unfold lK kAE;refine ite_congr rfl (λ _=>congrArg _ (funext λ _=>?_)) (λ _=>?_)
      all_goals exact congrArg _ (funext λ _=>congr (congrArg _ (congrArg _ (funext λ x=>funext λ c=>congrArg _ (funext λ r=>by cases r<;>rfl)))) (funext λ c=>by cases c.1<;>rfl))
  ·unfold partL sA
   refine congrArg _ (funext λ _=>congr (congrArg _ (congrArg _ (funext λ x=>funext λ d=>congrArg _ (funext λ r=>?_)))) (funext λ d=>?_))
   ·cases r with
    | none=>rfl
    | some b=>exact ite_congr rfl (λ _=>rfl) (λ _=>congrArg _ (funext λ r=>by cases r<;>rfl))
   ·cases d.1 with
    | some r=>rfl
    | none =>
     unfold lK kAE;refine ite_congr rfl (λ _=>congrArg _ (funext λ _=>?_)) (λ _=>?_)
     all_goals exact congrArg _ (funext λ _=>congr (congrArg _ (congrArg _ (funext λ x=>funext λ c=>congrArg _ (funext λ r=>by cases r<;>rfl)))) (funext λ c=>by cases c.1<;>rfl))
section
variable {M:Model} {A:Around} {E:Value->Shared->Prop} {s:Shared} {lb:Keyed->Keyed->Bool} {D:Keyed->Prop} {kd:SortKind}
variable {arr0 arr:Array Keyed} {lo n:Nat} {m:List Keyed}
theorem hZ (W:Wk lb) (hL:vV M A E s lb D kd) {st:SortSt} (hk:kindOf st=kd) (dd:∀ x∈arr0.toList,D x) {nrem:Nat} (hn:lo+nrem<=arr0.size) (n1:1<=n) (nn:n<=nrem) (h:Rn arr0 (arrOf st) lo n m) (fa:Fal lb m) {Q:Option Nat->SortSt->Prop}
  (q:∀ k st',Sa st st'->1<=k->k<=nrem->Joined lb arr0 (arrOf st') lo k->Q (some k) st'):wpS M A E s (lK lo n nrem) Q st:=by
 unfold lK;rw [reverseSlice'_eq];refine wpS_bind (wpS_modify ?_);have t:=Rn.turn (u:=[]) (v:=m) (t:=[]) (by simpa using h) (i:=lo) (j:=lo+n) (by simp) (by rw [h.len];simp);simp only [nil_append,append_nil] at t;refine wpS_bind (pG (st:=setArr st (mirror (arrOf st) lo (lo+n) ((lo+n-lo) / 2))) W hL hk dd hn n1 nn t fa.rev λ k m' k1 k2 r' sr' _=>?_);exact wpS_pure (q k _ ⟨rfl,rfl,rfl⟩ (by omega) k2 (r'.joined sr'))
theorem lD (W:Wk lb) (hL:vV M A E s lb D kd) {st:SortSt} (hk:kindOf st=kd) (dd:∀ x∈arr0.toList,D x) {nrem:Nat} (hn:lo+nrem<=arr0.size) (n1:1<=n) (nn:n<nrem) (h:Rn arr0 (arrOf st) lo n m) (fa:Fal lb m) (hz:lo+n<arr0.size) (lw:∀ y∈m,le lb arr0[lo+n] y) {Q:Option Nat->SortSt->Prop}
  (q:∀ k st',Sa st st'->1<=k->k<=nrem->Joined lb arr0 (arrOf st') lo k->Q (some k) st'):wpS M A E s (partL lo n nrem) Q st:=by
 unfold partL;refine wpS_bind (wM ?_);refine wpS_bind (kBW W hL hk dd hn (by omega) (by omega) (u:=m) (z:=arr0[lo+n]) ⟨h.more hz,bS fa lw,pairwise_singleton _ _,rfl⟩ λ k neq st' u t z sm k1 k2 f=>?_);dsimp only;have tr:∀ k st2,Sa st' st2->1<=k->k<=nrem->Joined lb arr0 (arrOf st2) lo k->Q (some k) st2:=λ k st2 s2=>q k st2 ⟨s2.1.trans sm.1,s2.2.1.trans sm.2.1,s2.2.2.trans sm.2.2⟩;by_cases k0:neq>0
 ·rw [if_pos k0,reverseSlice'_eq]
  obtain ⟨r1,r2⟩:=f.turned;refine wpS_bind (wpS_modify ?_);exact hZ (st:=setArr st' (mirror (arrOf st') (lo+k-(neq+1)) (lo+k) ((lo+k-(lo+k-(neq+1))) / 2))) W hL (sm.1.trans hk) dd hn (by omega) k2 r1 r2 tr
 ·rw [if_neg k0]
  exact hZ W hL (sm.1.trans hk) dd hn (by omega) k2 f.rn f.fal tr
theorem mV (W:Wk lb) (hL:vV M A E s lb D kd) {st:SortSt} (hk:kindOf st=kd) (dd:∀ x∈(arrOf st).toList,D x) {nrem:Nat} (hn:lo+nrem<=(arrOf st).size) (n1:1<=nrem) {Q:Option Nat->SortSt->Prop}
  (q:∀ k st',Sa st st'->1<=k->k<=nrem->Joined lb (arrOf st) (arrOf st') lo k->Q (some k) st'):wpS M A E s (countRun' lo nrem) Q st:=by
 rw [gU];have r0:=Rn.start (arr0:=arrOf st) (lo:=lo) (n:=1) (by omega)
 have s0:jF lb ((arrOf st).extract lo (lo+1)).toList:=by
  have:=r0.len;generalize ((arrOf st).extract lo (lo+1)).toList=l at *;exact nP (Nat.le_of_eq this)
 refine wpS_bind (pG W hL hk dd hn (by omega) n1 r0 s0 λ k m k1 k2 r sr c=>?_);dsimp only;have lm:=r.len;by_cases e:k=nrem
 ·rw [if_pos (by simpa using e)]
  exact wpS_pure (q k st ⟨rfl,rfl,rfl⟩ k1 k2 (r.joined sr))
 ·rw [if_neg (by simpa using e)]
  obtain ⟨hz,hl,lt⟩ : ∃ (h1:lo+k<(arrOf st).size) (h2:m.length-1<m.length),lb (arrOf st)[lo+k] m[m.length-1]=true:=by
   rcases c with c | c
   ·exact absurd c e
   ·exact c
  by_cases g:k>1
  ·rw [if_pos g]
   have a0:=r.at (j:=0) (by omega);have al:=r.at hl;rw [Nat.add_zero] at a0;rw [show lo+(m.length-1)=lo+k-1 by omega] at al;refine wpS_bind (aP hL hk a0 al (r.dom dd _ (getElem_mem _)) (r.dom dd _ (getElem_mem _)) ?_)
   cases e2:lb (m[0]'(by omega)) m[m.length-1]
   case true =>
    simp only [if_true];exact wpS_pure (q k st ⟨rfl,rfl,rfl⟩ k1 k2 (r.joined sr))
   case false =>
    simp only [Bool.false_eq_true,if_false];rw [reverseSlice'_eq];refine wpS_bind (wpS_modify ?_);have t:=Rn.turn (u:=[]) (v:=m) (t:=[]) (by simpa using r) (i:=lo) (j:=lo+k) (by simp) (by rw [lm];simp);simp only [nil_append,append_nil] at t;refine lD (st:=setArr st (mirror (arrOf st) lo (lo+k) ((lo+k-lo) / 2))) W hL hk dd hn k1 (by omega) t (show List.Pairwise _ _ from List.pairwise_reverse.mpr sr) hz (λ y hy=>?_) λ k' st' sm=>q k' st' sm;obtain ⟨i,hi,rfl⟩:=mem_iff_getElem.mp (mem_reverse.mp hy)
    have f0:le lb (m[0]'(by omega)) m[i]:=by
     by_cases z:0=i
     ·subst z;exact W.refl _
     ·exact pairwise_iff_getElem.mp sr 0 i (by omega) hi (by omega)
    exact W.trans (W.of_lt lt) (W.trans e2 f0)
  ·rw [if_neg g]
   have k1':k=1:=by omega
   subst k1'
   exact lD W hL hk dd hn (by omega) (by omega) r (nP (by omega)) hz (λ y hy=>by
    obtain ⟨i,hi,rfl⟩:=mem_iff_getElem.mp hy;have e3:i=m.length-1:=by omega
    simp only [e3];exact W.of_lt lt) λ k' st' sm=>q k' st' sm
end
end Srt
namespace Srt
set_option autoImplicit false
open PySem PyProof.Rows
abbrev Pn:=Nat×Nat×Nat
def Tiles:List Pn->Nat->Nat->Prop
 | [],a,b=>a=b
 | x::r,a,b=>x.1=a/\0<x.2.1/\Tiles r (a+x.2.1) b
theorem Tiles.le:∀ {l:List Pn} {a b:Nat},Tiles l a b->a<=b
 | [],a,b,h=>by rw [show a=b from h];exact Nat.le_refl _
 | x::r,a,b,h=>by have:=Tiles.le h.2.2;omega
theorem Tiles.app:∀ {l r:List Pn} {a b:Nat},Tiles (l++r) a b↔∃ c,Tiles l a c/\Tiles r c b
 | [],r,a,b=>⟨λ h=>⟨a,rfl,h⟩,λ ⟨c,h1,h2⟩=>by rw [show a=c from h1];exact h2⟩
 | x::l,r,a,b=>by
  constructor
  ·rintro ⟨h1,h2,h3⟩
   obtain ⟨c,h4,h5⟩:=Tiles.app.mp h3;exact ⟨c,⟨h1,h2,h4⟩,h5⟩
  ·rintro ⟨c,⟨h1,h2,h3⟩,h4⟩
   exact ⟨h1,h2,Tiles.app.mpr ⟨c,h3,h4⟩⟩
theorem Tiles.join {l r:List Pn} {a b s n s' n' p p':Nat} (h:Tiles (l++(s,n,p)::(s',n',p')::r) a b):s'=s+n/\0<n/\0<n'/\s+n+n'<=b/\Tiles l a s/\Tiles r (s+n+n') b/\Tiles (l++(s,n+n',p)::r) a b:=by
 obtain ⟨c,h1,h2,h3,h4,h5,h6⟩:=Tiles.app.mp h;have h2:s=c:=h2;have h4:s'=c+n:=h4;have h3:0<n:=h3;have h5:0<n':=h5;have h6:Tiles r (c+n+n') b:=h6;subst h2;refine ⟨h4,h3,h5,h6.le,h1,h6,Tiles.app.mpr ⟨s,h1,rfl,by show 0<n+n';omega,?_⟩⟩;show Tiles r (s+(n+n')) b;rw [<-Nat.add_assoc];exact h6
theorem tG {P:Array Pn} {l r:List Pn} {x y z:Pn} (h:P.toList=l++x::y::r):((P.setIfInBounds l.length z).eraseIdxIfInBounds (l.length+1)).toList=l++z::r:=by
 have sz:P.size=l.length+(r.length+2):=by
  have:=congrArg List.length h;simpa using this
 unfold Array.eraseIdxIfInBounds;rw [dif_pos (by rw [Array.size_setIfInBounds];omega),Array.toList_eraseIdx,Array.toList_setIfInBounds,h];rw [List.set_append_right _ _ (Nat.le_refl _),Nat.sub_self,List.eraseIdx_append_of_length_le (by omega),show l.length+1-l.length=1 by omega]
 rfl
section
variable {lb:Keyed->Keyed->Bool} {arr arr':Array Keyed} {lo n:Nat}
theorem Joined.low (h:Joined lb arr arr' lo n) (hn:lo+n<=arr.size) {a k:Nat} (c:a+k<=lo):(arr'.extract a (a+k)).toList=(arr.extract a (a+k)).toList:=by
 obtain ⟨m,e,_,pm⟩:=h;have lp:(arr.toList.take lo).length=lo:=by simp;omega
 rw [xD,xD,e,List.drop_append_of_le_length (by omega),List.take_append_of_le_length (by rw [length_drop];omega),List.drop_take,List.take_take,Nat.min_eq_left (by omega)]
theorem Joined.high (h:Joined lb arr arr' lo n) (hn:lo+n<=arr.size) {a k:Nat} (c:lo+n<=a):(arr'.extract a (a+k)).toList=(arr.extract a (a+k)).toList:=by
 obtain ⟨m,e,_,pm⟩:=h
 have l:m.length=n:=by
  rw [pm.length_eq,xD,length_take,length_drop,Array.length_toList];omega
 have lp:(arr.toList.take lo).length=lo:=by simp;omega
 rw [xD,xD,e,List.drop_append,lp,drop_eq_nil_of_le (by omega),nil_append,List.drop_append,drop_eq_nil_of_le (by omega),nil_append,drop_drop]
 congr 2
 omega
theorem Joined.here (h:Joined lb arr arr' lo n) (hn:lo+n<=arr.size):jF lb (arr'.extract lo (lo+n)).toList:=by
 obtain ⟨m,e,sr,pm⟩:=h
 have l:m.length=n:=by
  rw [pm.length_eq,xD,length_take,length_drop,Array.length_toList];omega
 have lp:(arr.toList.take lo).length=lo:=by simp;omega
 rw [xD,e,List.drop_append,lp,drop_eq_nil_of_le (by omega),nil_append,Nat.sub_self,List.drop_zero,List.take_append_of_le_length (by omega),take_of_length_le (by omega)];exact sr
theorem Joined.perm (h:Joined lb arr arr' lo n) (hn:lo+n<=arr.size):arr'.toList.Perm arr.toList:=by
 obtain ⟨m,e,sr,pm⟩:=h;rw [e];exact (List.Perm.append_left _ (pm.append_right _)).trans (List.Perm.of_eq (vR hn).symm)
end
end Srt
namespace Srt
set_option autoImplicit false
open PySem PyProof.Rows
section
variable {M:Model} {A:Around} {E:Value->Shared->Prop} {s:Shared} {lb:Keyed->Keyed->Bool} {D:Keyed->Prop} {kd:SortKind}
structure SI (lb:Keyed->Keyed->Bool) (kd:SortKind) (a0:Array Keyed) (st:SortSt) (lo:Nat):Prop where
 kind:kindOf st=kd
 failed:failedOf st=none
 perm:(arrOf st).toList.Perm a0.toList
 tiles:Tiles (pendingOf st).toList 0 lo
 top:lo<=a0.size
 runs:∀ x∈(pendingOf st).toList,jF lb ((arrOf st).extract x.1 (x.1+x.2.1)).toList
theorem SI.size {a0:Array Keyed} {st:SortSt} {lo:Nat} (h:SI lb kd a0 st lo):(arrOf st).size=a0.size:=by simpa using h.perm.length_eq
theorem Tiles.in:∀ {l:List Pn} {a b:Nat},Tiles l a b->∀ x∈l,a<=x.1/\x.1+x.2.1<=b
 | y::l,a,b,h,x,hx=>by
  rcases mem_cons.mp hx with rfl | z
  ·have:=h.2.2.le
   have:=h.1;omega
  ·have:=Tiles.in h.2.2 x z
   omega
theorem uY (W:Wk lb) (hL:vV M A E s lb D kd) {a0:Array Keyed} (dd:∀ x∈a0.toList,D x) {st:SortSt} {lo:Nat} (h:SI lb kd a0 st lo) {i:Nat} (hi:i+1<(pendingOf st).size) {Q:Bool->SortSt->Prop}
  (q:∀ st',SI lb kd a0 st' lo->(pendingOf st').size+1=(pendingOf st).size->(∀ a k,lo<=a->((arrOf st').extract a (a+k)).toList=((arrOf st).extract a (a+k)).toList)->Q true st'):wpS M A E s (mergeAt' i) Q st:=by
 have sp:(pendingOf st).toList=(pendingOf st).toList.take i++(pendingOf st)[i]::(pendingOf st)[i+1]::(pendingOf st).toList.drop (i+2):=by
  conv=>lhs;rw [<-take_append_drop i (pendingOf st).toList]
  rw [drop_one (show i<(pendingOf st).size by omega),drop_one hi]
  rfl
 have li:((pendingOf st).toList.take i).length=i:=by simp;omega
 have e1:=getElem?_pos (pendingOf st) i (by omega);have e2:=getElem?_pos (pendingOf st) (i+1) hi;have r1:=h.runs _ (by simp:(pendingOf st)[i]∈(pendingOf st).toList);have r2:=h.runs _ (by simp:(pendingOf st)[i+1]∈(pendingOf st).toList);have ti:=h.tiles;have ru:=h.runs;rw [sp] at ti ru;generalize hx:(pendingOf st)[i]=x at *;generalize hy:(pendingOf st)[i+1]=y at *;obtain ⟨sa,na,pa⟩:=x;obtain ⟨sb,nb,pb⟩:=y;obtain ⟨eb,na0,nb0,le,tl,tr,tj⟩:=ti.join;subst eb;have top:=h.top;have sz:=h.size;refine pF W hL h.kind h.failed (λ x hx=>dd x (h.perm.mem_iff.mp hx)) e1 e2 na0 nb0 (by omega) r1 r2 λ st' k' f' p' j'=>?_;have hn:sa+(na+nb)<=(arrOf st).size:=by omega
 have pl:(pendingOf st').toList=(pendingOf st).toList.take i++(sa,na+nb,pa)::(pendingOf st).toList.drop (i+2):=by
  have:=tG (z:=(sa,na+nb,pa)) sp;rw [li] at this;rw [p',this]
 refine q st' ⟨k',f',(j'.perm hn).trans h.perm,by rw [pl];exact tj,top,λ z hz=>?_⟩ ?_ (λ a k hak=>j'.high hn (by omega))
 ·rw [pl] at hz
  rcases mem_append.mp hz with w | w
  ·have:=tl.in z w
   rw [j'.low hn (by omega)];exact ru z (mem_append_left _ w)
  ·rcases mem_cons.mp w with rfl | w
   ·exact j'.here hn
   ·have:=tr.in z w
    rw [j'.high hn (by omega)];exact ru z (mem_append_right _ (mem_cons_of_mem _ (mem_cons_of_mem _ w)))
 ·have l1:=congrArg List.length pl
  have l2:=congrArg List.length sp;simp only [Array.length_toList,length_append,length_cons] at l1 l2;omega
end
end Srt
namespace Srt
set_option autoImplicit false
open PySem PyProof.Rows
theorem Tiles.snoc {l:List Pn} {a b:Nat} {x:Pn} (h:Tiles l a b) (e:x.1=b) (n:0<x.2.1):Tiles (l++[x]) a (b+x.2.1) :=
 Tiles.app.mpr ⟨b,h,e,n,rfl⟩
theorem Tiles.repl:∀ {l:List Pn} {a b:Nat} (k:Nat) (f:Pn->Pn),(∀ x,(f x).1=x.1/\(f x).2.1=x.2.1)->Tiles l a b->Tiles (l.modify k f) a b
 | [],a,b,k,f,hf,h=>by simpa using h
 | x::r,a,b,0,f,hf,h=>by
  obtain ⟨h1,h2,h3⟩:=h;have:=hf x;rw [List.modify_zero_cons];exact ⟨this.1.trans h1,by rw [this.2];exact h2,by rw [this.2];exact h3⟩
 | x::r,a,b,k+1,f,hf,h=>by
  obtain ⟨h1,h2,h3⟩:=h;rw [List.modify_succ_cons];exact ⟨h1,h2,Tiles.repl k f hf h3⟩
theorem kIW {l:List Pn} {k:Nat} {f:Pn->Pn} {x:Pn} (h:x∈l.modify k f):∃ y∈l,x=y\/x=f y:=by
 obtain ⟨i,hi,rfl⟩:=mem_iff_getElem.mp h;rw [List.getElem_modify];have hi':i<l.length:=by simpa using hi
 split
 ·exact ⟨l[i],getElem_mem _,.inr rfl⟩
 ·exact ⟨l[i],getElem_mem _,.inl rfl⟩
theorem Tiles.one:∀ {l:List Pn} {a b:Nat},Tiles l a b->a<b->l.length<=1->∃ p,l=[(a,b-a,p)]
 | [],a,b,h,c,_=>by have:a=b:=h;omega
 | [(s,n,p)],a,b,h,c,_=>by
  obtain ⟨h1,h2,h3⟩:=h;have h1:s=a:=h1;have h3:a+n=b:=h3;refine ⟨p,?_⟩;rw [h1,show n=b-a by omega]
 | _::_::_,a,b,h,c,z=>by simp at z
section
variable {M:Model} {A:Around} {E:Value->Shared->Prop} {s:Shared} {lb:Keyed->Keyed->Bool} {D:Keyed->Prop} {kd:SortKind}
theorem SI.len {a0:Array Keyed} {st:SortSt} {lo:Nat} (h:SI lb kd a0 st lo):(pendingOf st).size<=lo:=by
 have:∀ (l:List Pn) (a b:Nat),Tiles l a b->a+l.length<=b:=by
  intro l
  induction l with
  | nil=>intro a b h;rw [show a=b from h];simp
  | cons x r ih =>
   intro a b h;have:=ih _ _ h.2.2;have:=h.2.1;rw [length_cons];omega
 have:=this _ _ _ h.tiles;simpa using this
theorem SI.push {a0:Array Keyed} {st:SortSt} {lo n:Nat} (h:SI lb kd a0 st lo) (n0:0<n) (hn:lo+n<=a0.size) (sr:jF lb ((arrOf st).extract lo (lo+n)).toList) :
  SI lb kd a0 (setPending st ((pendingOf st).push (lo,n,0))) (lo+n):=by
 refine ⟨h.kind,h.failed,h.perm,?_,hn,?_⟩
 ·show Tiles ((pendingOf st).push (lo,n,0)).toList 0 (lo+n)
  rw [Array.toList_push];exact h.tiles.snoc rfl n0
 ·intro x hx
  have hx:x∈((pendingOf st).push (lo,n,0)).toList:=hx;rw [Array.toList_push] at hx;rcases mem_append.mp hx with z | z
  ·exact h.runs x z
  ·have:x=(lo,n,0):=by simpa using z
   rw [this];exact sr
theorem SI.mod {a0:Array Keyed} {st:SortSt} {lo:Nat} (h:SI lb kd a0 st lo) (k pw:Nat):SI lb kd a0 (setPending st ((pendingOf st).modify k λ (x:Pn)=>(x.1,x.2.1,pw))) lo:=by
 refine ⟨h.kind,h.failed,h.perm,?_,h.top,?_⟩
 ·show Tiles ((pendingOf st).modify k _).toList 0 lo
  rw [Array.toList_modify];exact Tiles.repl k _ (λ x=>⟨rfl,rfl⟩) h.tiles
 ·intro x hx
  have hx:x∈((pendingOf st).modify k λ (x:Pn)=>(x.1,x.2.1,pw)).toList:=hx;rw [Array.toList_modify] at hx;obtain ⟨y,hy,e⟩:=kIW hx;have r:=h.runs y hy;rcases e with rfl | rfl
  ·exact r
  ·exact r
theorem SI.tail {a0:Array Keyed} {st st':SortSt} {lo n:Nat} (h:SI lb kd a0 st lo) (sa:Sa st st') (hn:lo+n<=a0.size) (j:Joined lb (arrOf st) (arrOf st') lo n):SI lb kd a0 st' lo:=by
 have sz:=h.size;refine ⟨sa.1.trans h.kind,sa.2.2.trans h.failed,(j.perm (by omega)).trans h.perm,by rw [sa.2.1];exact h.tiles,h.top,λ x hx=>?_⟩;rw [sa.2.1] at hx;have:=h.tiles.in x hx;rw [j.low (by omega) (by omega)];exact h.runs x hx
end
end Srt
namespace Srt
set_option autoImplicit false
open PySem PyProof.Rows
section
variable {M:Model} {A:Around} {E:Value->Shared->Prop} {s:Shared} {lb:Keyed->Keyed->Bool} {D:Keyed->Prop} {kd:SortKind}
theorem oZ (W:Wk lb) (hL:vV M A E s lb D kd) {st:SortSt} (hk:kindOf st=kd) (hf:failedOf st=none) (hp:pendingOf st = #[]) (dd:∀ x∈(arrOf st).toList,D x) {Q:Unit->SortSt->Prop}
  (h:∀ st',(arrOf st').toList.Perm (arrOf st).toList->failedOf st'=none->jF lb (arrOf st').toList->Q () st'):wpS M A E s sortRuns' Q st:=by
 rw [sortRuns'_eq];refine wpS_bind (wpS_get ?_);dsimp only;generalize hsz:(arrOf st).size=size;generalize hmr:minRun' size size 0=mr
 refine wpS_bind (wpS_mono (wpS_forRange
  (I:=λ x c st'=>∃ lo,c=(none,lo)/\SI lb kd (arrOf st) st' lo/\(x<=lo\/lo=size))
  (Q:=λ c st'=>c=(none,size)/\SI lb kd (arrOf st) st' size) ?step ?fin ⟨0,rfl,⟨hk,hf,List.Perm.refl _,by rw [hp];rfl,Nat.zero_le _,by rw [hp];simp⟩,.inl (Nat.le_refl _)⟩) ?post)
 case fin =>
  rintro c st' ⟨lo,rfl,hI,hx⟩
  have:lo=size:=by
   rcases hx with hx | hx
   ·have:=hI.top;omega
   ·exact hx
  subst this;exact ⟨rfl,hI⟩
 case step =>
  rintro x c st' _ hx ⟨lo,rfl,hI,hx'⟩;dsimp only;have top:=hI.top;have sz':=hI.size;by_cases hge:lo >= size
  ·rw [if_pos hge]
   have:lo=size:=by omega
   subst this;exact wpS_pure ⟨rfl,hI⟩
  rw [if_neg hge];have dd':∀ {st2:SortSt},SI lb kd (arrOf st) st2 lo->∀ x∈(arrOf st2).toList,D x:=λ h x hx=>dd x (h.perm.mem_iff.mp hx);refine wpS_bind (mV W hL hI.kind (dd' hI) (by omega) (by omega) λ m st2 sa2 m1 m2 j2=>?_);dsimp only;have hI2:=hI.tail sa2 (by omega) j2;have sr2:=j2.here (by omega);have sz2:=hI2.size;have bin:∀ n,n=min (size-lo) mr->m<mr->m<=n/\0<n/\lo+n<=size:=λ n e h=>by omega
  by_cases hlt:m<mr
  ·rw [if_pos hlt]
   refine wpS_bind (wM ?_);generalize hn:min (size-lo) mr=n;obtain ⟨mn,n0,hnl⟩:=bin n hn.symm hlt;refine wpS_bind (sM W hL hI2.kind (dd' hI2) mn (by omega) sr2 λ st3 sa3 j3=>?_);simp only [Bool.not_true,Bool.false_eq_true,if_false];have hI3:=hI2.tail sa3 (by omega) j3;have sr3:=j3.here (by omega);clear sr2 hI2 j2 sa2 j3 sa3 sz2 m1 m2 mn hlt hn bin;clear m st2;refine wpS_bind (wpS_get ?_)
   cases hb:(pendingOf st3).back? with
   | none =>
    dsimp only;exact wpS_bind (wpS_modify (wpS_pure ⟨lo+n,rfl,hI3.push n0 (by omega) sr3,by omega⟩))
   | some z =>
    obtain ⟨s1,n1,z1⟩:=z;dsimp only;generalize power' size (2*s1+n1) (2*s1+n1+n1+n) size=pw
    refine wpS_bind (wpS_mono (wpS_forRange (I:=λ _ c st'=>c=(none,())/\SI lb kd (arrOf st) st' lo/\jF lb ((arrOf st').extract lo (lo+n)).toList)
     (Q:=λ c st'=>c=(none,())/\SI lb kd (arrOf st) st' lo/\jF lb ((arrOf st').extract lo (lo+n)).toList) ?_ (λ _ _ hh=>hh) ⟨rfl,hI3,sr3⟩) ?_)
    ·rintro y c st4 _ hy ⟨rfl,hI4,sr4⟩
     refine wpS_bind (wpS_get ?_);by_cases h1:(pendingOf st4).size>1
     ·rw [if_pos h1,getElem?_pos (pendingOf st4) ((pendingOf st4).size-2) (by omega)]
      generalize (pendingOf st4)[(pendingOf st4).size-2]'(by omega)=zz;obtain ⟨y1,y2,y3⟩:=zz;dsimp only;by_cases h2:y3<=pw
      ·rw [if_pos h2]
       exact wpS_pure ⟨rfl,hI4,sr4⟩
      ·rw [if_neg h2]
       refine wpS_bind (uY W hL dd hI4 (by omega) λ st5 hI5 h5 e5=>?_);simp only [Bool.not_true,Bool.false_eq_true,if_false];exact wpS_pure ⟨rfl,hI5,by rw [e5 _ _ (Nat.le_refl _)];exact sr4⟩
     ·rw [if_neg h1]
      exact wpS_pure ⟨rfl,hI4,sr4⟩
    ·rintro c st4 ⟨rfl,hI4,sr4⟩
     dsimp only;refine wpS_bind (wpS_modify ?_);have hI5:=hI4.mod ((pendingOf st4).size-1) pw;exact wpS_bind (wpS_modify (wpS_pure ⟨lo+n,rfl,hI5.push n0 (by omega) sr4,by omega⟩))
  ·rw [if_neg hlt]
   have hnl:lo+m<=size:=by omega
   have n0:0<m:=by omega
   clear bin hlt m2 m1 j2 sz2 sa2;refine wpS_bind (wpS_get ?_)
   cases hb:(pendingOf st2).back? with
   | none =>
    dsimp only;exact wpS_bind (wpS_modify (wpS_pure ⟨lo+m,rfl,hI2.push n0 (by omega) sr2,by omega⟩))
   | some z =>
    obtain ⟨s1,n1,z1⟩:=z;dsimp only;generalize power' size (2*s1+n1) (2*s1+n1+n1+m) size=pw
    refine wpS_bind (wpS_mono (wpS_forRange (I:=λ _ c st'=>c=(none,())/\SI lb kd (arrOf st) st' lo/\jF lb ((arrOf st').extract lo (lo+m)).toList)
     (Q:=λ c st'=>c=(none,())/\SI lb kd (arrOf st) st' lo/\jF lb ((arrOf st').extract lo (lo+m)).toList) ?_ (λ _ _ hh=>hh) ⟨rfl,hI2,sr2⟩) ?_)
    ·rintro y c st4 _ hy ⟨rfl,hI4,sr4⟩
     refine wpS_bind (wpS_get ?_);by_cases h1:(pendingOf st4).size>1
     ·rw [if_pos h1,getElem?_pos (pendingOf st4) ((pendingOf st4).size-2) (by omega)]
      generalize (pendingOf st4)[(pendingOf st4).size-2]'(by omega)=zz;obtain ⟨y1,y2,y3⟩:=zz;dsimp only;by_cases h2:y3<=pw
      ·rw [if_pos h2]
       exact wpS_pure ⟨rfl,hI4,sr4⟩
      ·rw [if_neg h2]
       refine wpS_bind (uY W hL dd hI4 (by omega) λ st5 hI5 h5 e5=>?_);simp only [Bool.not_true,Bool.false_eq_true,if_false];exact wpS_pure ⟨rfl,hI5,by rw [e5 _ _ (Nat.le_refl _)];exact sr4⟩
     ·rw [if_neg h1]
      exact wpS_pure ⟨rfl,hI4,sr4⟩
    ·rintro c st4 ⟨rfl,hI4,sr4⟩
     dsimp only;refine wpS_bind (wpS_modify ?_);have hI5:=hI4.mod ((pendingOf st4).size-1) pw;exact wpS_bind (wpS_modify (wpS_pure ⟨lo+m,rfl,hI5.push n0 (by omega) sr4,by omega⟩))
 case post =>
  rintro c st' ⟨rfl,hI⟩;dsimp only
  have fin:∀ st',SI lb kd (arrOf st) st' size->(pendingOf st').size<=1->Q () st':=λ st' hI hl=>by
   refine h st' hI.perm hI.failed ?_;by_cases z:0<size
   ·obtain ⟨p,e⟩:=hI.tiles.one z (by simpa using hl)
    have r:=hI.runs (0,size-0,p) (by rw [e];simp);have r:jF lb ((arrOf st').extract 0 (0+(size-0))).toList:=r;have e1:=hI.size;rw [show 0+(size-0)=(arrOf st').size by omega,Array.extract_size] at r;exact r
   ·have:(arrOf st').toList=[]:=length_eq_zero_iff.mp (by rw [Array.length_toList];have:=hI.size;omega)
    rw [this];exact List.Pairwise.nil
  refine wpS_bind (wpS_mono (wpS_forRange (I:=λ x c st'=>c=(none,())/\SI lb kd (arrOf st) st' size/\(pendingOf st').size+x<=max (size+1) (1+x))
   (Q:=λ c st'=>c=(none,())/\SI lb kd (arrOf st) st' size/\(pendingOf st').size<=1) ?_ ?_ ⟨rfl,hI,by have:=hI.len;omega⟩) ?_)
  ·rintro x c st' _ hx ⟨rfl,hI,hb⟩
   refine wpS_bind (wpS_get ?_);by_cases h1:(pendingOf st').size<=1
   ·rw [if_pos h1]
    exact wpS_pure ⟨rfl,hI,h1⟩
   rw [if_neg h1];have hg:∀ b:Bool,(if b=true then (pendingOf st').size-2-1 else (pendingOf st').size-2)+1<(pendingOf st').size:=λ b=>by split<;>omega
   replace hg:=hg (Option.any (λ x=>decide (x<((pendingOf st')[(pendingOf st').size-2+1]?.elim 0 λ x=>x.snd.fst))) (if (pendingOf st').size-2>0 then Option.map (λ x=>x.snd.fst) (pendingOf st')[(pendingOf st').size-2-1]? else none))
   generalize (if (if (pendingOf st').size-2>0 then Option.map (λ x=>x.snd.fst) (pendingOf st')[(pendingOf st').size-2-1]? else none).any _=true then (pendingOf st').size-2-1 else (pendingOf st').size-2)=i at hg ⊢;refine wpS_bind (uY W hL dd hI hg λ st2 hI2 h2 _=>?_);simp only [Bool.not_true,Bool.false_eq_true,if_false];exact wpS_pure ⟨rfl,hI2,by omega⟩
  ·rintro c st' ⟨rfl,hI,hb⟩
   exact ⟨rfl,hI,by omega⟩
  ·rintro c st' ⟨rfl,hI,hb⟩
   exact wpS_pure (fin _ hI hb)
end
end Srt
namespace Srt
set_option autoImplicit false
open PySem PySem.W PyProof.Rows
def lexLt:List Int->List Int->Bool
 | [],[]=>false
 | [],_::_=>true
 | _::_,[]=>false
 | a::x,b::y=>if a=b then lexLt x y else decide (a<b)
theorem lex_irr:∀ x,lexLt x x=false
 | []=>rfl
 | a::x=>by rw [lexLt,if_pos rfl];exact lex_irr x
theorem lex_tr:∀ x y z,lexLt x y=true->lexLt y z=true->lexLt x z=true
 | [],[],_,h,_=>nomatch h
 | [],_::_,[],_,h=>nomatch h
 | [],_::_,_::_,_,_=>rfl
 | _::_,[],_,h,_=>nomatch h
 | _::_,_::_,[],_,h=>nomatch h
 | a::x,b::y,c::z,h,k=>by
  rw [lexLt] at *;by_cases e:a=b
  ·subst e
   rw [if_pos rfl] at h;by_cases e2:a=c
   ·subst e2
    rw [if_pos rfl] at k ⊢;exact lex_tr x y z h k
   ·rw [if_neg e2] at k ⊢
    exact k
  ·rw [if_neg e] at h
   by_cases e2:b=c
   ·subst e2
    rw [if_neg e];exact h
   ·rw [if_neg e2] at k
    have h:=of_decide_eq_true h;have k:=of_decide_eq_true k;rw [if_neg (by omega)];exact decide_eq_true (by omega)
theorem lex_neg:∀ x y z,lexLt x z=true->lexLt x y=true\/lexLt y z=true
 | [],[],z,h=>.inr h
 | [],_::_,z,h=>.inl rfl
 | _::_,_,[],h=>nomatch h
 | _::_,[],_::_,h=>.inr rfl
 | a::x,b::y,c::z,h=>by
  rw [lexLt] at *;by_cases e:a=c
  ·subst e
   rw [if_pos rfl] at h;by_cases e2:a=b
   ·subst e2
    rw [if_pos rfl,lexLt,if_pos rfl];exact lex_neg x y z h
   ·rw [if_neg e2,lexLt,if_neg (λ q=>e2 q.symm)]
    by_cases l:a<b
    ·exact .inl (decide_eq_true l)
    ·exact .inr (decide_eq_true (by omega))
  ·rw [if_neg e] at h
   have h:=of_decide_eq_true h;by_cases e2:a=b
   ·subst e2
    rw [lexLt,if_neg e];exact .inr (decide_eq_true h)
   ·rw [if_neg e2]
    by_cases l:a<b
    ·exact .inl (decide_eq_true l)
    ·rw [lexLt,if_neg (by omega)]
     exact .inr (decide_eq_true (by omega))
theorem lex_tot:∀ x y,lexLt x y=false->lexLt y x=false->x=y
 | [],[],_,_=>rfl
 | [],_::_,h,_=>nomatch h
 | _::_,[],_,h=>nomatch h
 | a::x,b::y,h,k=>by
  rw [lexLt] at *;by_cases e:a=b
  ·subst e
   rw [if_pos rfl] at h k;rw [lex_tot x y h k]
  ·rw [if_neg e] at h
   rw [if_neg (λ q=>e q.symm)] at k;have h:=of_decide_eq_false h;have k:=of_decide_eq_false k;omega
def keyOf (h:Heap):Value->List Int
 | .ref a=>match h.get? a with
  | some o=>match o.data with
   | .seq xs _=>xs.toList.map numOf
   | _=>[]
  | none=>[]
 | _=>[]
def lbT (h:Heap) (x y:Keyed):Bool:=lexLt (keyOf h x.1) (keyOf h y.1)
theorem kLN (h:Heap):Wk (lbT h):=⟨λ a=>lex_irr _,λ a b c=>lex_neg _ _ _,λ a b c=>lex_tr _ _ _⟩
def lbI (x y:Keyed):Bool:=decide (numOf x.1<numOf y.1)
theorem kLO:Wk lbI:=⟨λ a=>by unfold lbI;simp,λ a b c h=>by
  unfold lbI at *;have:=of_decide_eq_true h;by_cases l:numOf a.1<numOf b.1
  ·exact .inl (decide_eq_true l)
  ·exact .inr (decide_eq_true (by omega)),λ a b c h k=>by
  unfold lbI at *;have:=of_decide_eq_true h;have:=of_decide_eq_true k;exact decide_eq_true (by omega)⟩
def TupI (h:Heap) (v:Value):Prop:=∃ a o xs n,v=.ref a/\h.get? a=some o/\o.cls=.type "tuple"/\o.data=.seq xs n/\(∀ u∈xs.toList,∃ k t,u=.int k t)/\0<xs.size
theorem TupI.kept {h h':Heap} {v:Value} (x:TupI h v) (k:∀ a o,o.cls=.type "tuple"->h.get? a=some o->h'.get? a=some o):TupI h' v/\keyOf h' v=keyOf h v:=by
 obtain ⟨a,o,xs,n,rfl,ho,hc,hd,hi,hz⟩:=x;refine ⟨⟨a,o,xs,n,rfl,k _ _ hc ho,hc,hd,hi,hz⟩,?_⟩;unfold keyOf;simp only [ho,k _ _ hc ho]
theorem TupI.key {h:Heap} {a:Addr} {o:Obj} {xs:Array Value} {n:Nat} (ho:h.get? a=some o) (hd:o.data=.seq xs n):keyOf h (.ref a)=xs.toList.map numOf:=by
 unfold keyOf;simp only [ho,hd]
section
variable {prog:Program} {w:World} {A:Around} {E:Value->Shared->Prop} {s:Shared}
theorem rL {Q:Bool->Shared->Prop}:∀ (xs ys:List Value) (i:Nat),(∀ u∈xs,∃ k t,u=Value.int k t)->(∀ u∈ys,∃ k t,u=Value.int k t)->Q (lexLt (xs.map numOf) (ys.map numOf)) s->KatLex prog w A true (decide (xs.length<ys.length)) Q (xs.zip ys) i s
 | [],[],i,_,_,h=>by exact h
 | [],_::_,i,_,_,h=>by exact h
 | _::_,[],i,_,_,h=>by exact h
 | x::xs,y::ys,i,hx,hy,h=>by
  obtain ⟨a,t,rfl⟩:=hx x (mem_cons_self ..);obtain ⟨b,u,rfl⟩:=hy y (mem_cons_self ..);rw [List.zip_cons_cons,show decide ((Value.int a t::xs).length<(Value.int b u::ys).length)=decide (xs.length<ys.length) by simp];refine kat_cons (wpAny_eqBool_int ?_);have h:Q (if a=b then lexLt (xs.map numOf) (ys.map numOf) else decide (a<b)) s:=h;by_cases e:a=b
  ·rw [if_pos e] at h
   rw [beq_iff_eq.mpr e];exact kat_yes (rL xs ys (i+1) (λ u hu=>hx u (mem_cons_of_mem _ hu)) (λ u hu=>hy u (mem_cons_of_mem _ hu)) h)
  ·rw [if_neg e] at h
   rw [beq_eq_false_iff_ne.mpr e];refine kat_no ?_;rw [Bool.true_and]
   cases i == 0 with
   | true=>exact oneLt_int h
   | false=>exact kat_one _ _ (PyProof.Rows.lt_int h)
theorem kDD:vV (model prog w) A E s (lbT s.heap) (λ x=>TupI s.heap x.1) (tuples' true):=by
 intro x y hx hy st Q hk q;obtain ⟨a,oa,xs,n,ea,ha,ca,da,ia,za⟩:=hx;obtain ⟨b,ob,ys,m,eb,hb,cb,db,ib,zb⟩:=hy;rw [lt'_eq];refine wpS_bind (wpS_get ?_);rw [hk]
 have q:Q (some (lexLt (xs.toList.map numOf) (ys.toList.map numOf))) st:=by
  have:lbT s.heap x y=lexLt (xs.toList.map numOf) (ys.toList.map numOf):=by
   unfold lbT;rw [ea,eb,TupI.key ha da,TupI.key hb db]
  rw [<-this];exact q
 rw [ea,eb];refine wpS_bind (wpS_lift (wpAny_attempt (kat_lt ha da hb db ?_)))
 have:=rL (prog:=prog) (w:=w) (A:=A) (s:=s) (Q:=λ b s'=>s'=s/\wpS (model prog w) A E s (match (Except.ok b:Except Value Bool) with
  | .ok b=>pure (some b)
  | .error e=>do
   modify (λ s=>SortSt.mk' (kindOf s) (arrOf s) (pendingOf s) (gallopOf s) (some e))
   pure none) Q st) xs.toList ys.toList 0 ia ib ⟨rfl,wpS_pure q⟩
 simpa using this
theorem kDE:vV (model prog w) A E s lbI (λ x=>∃ k t,x.1=.int k t) oneType':=by
 intro x y hx hy st Q hk q;obtain ⟨a,t,ea⟩:=hx;obtain ⟨b,u,eb⟩:=hy;rw [lt'_eq];refine wpS_bind (wpS_get ?_);rw [hk,ea,eb];unfold lbI at q;rw [ea,eb] at q;exact wpS_bind (wpS_lift (wpAny_attempt (kat_lt_int ⟨rfl,wpS_pure q⟩)))
end
end Srt
namespace Fc
open Cyc Tri Rnd
section
variable {α:Type} {le:α->α->Bool}
theorem uB (anti:∀ a b,le a b=true->le b a=true->a=b):∀ {l m:List α},l.Perm m->l.Pairwise (λ a b=>le a b=true)->m.Pairwise (λ a b=>le a b=true)->l=m
 | [],m,p,_,_=>(List.nil_perm.mp p).symm
 | a::l,m,p,hl,hm=>by
  match m,p,hm with
  | [],p,_=>exact absurd p.length_eq (by simp)
  | b::m,p,hm =>
   have hl':=List.pairwise_cons.mp hl;have hm':=List.pairwise_cons.mp hm
   have e:a=b:=by
    rcases mem_cons.mp (p.mem_iff.mp (mem_cons_self ..)) with z | z
    ·exact z
    ·rcases mem_cons.mp (p.mem_iff.mpr (mem_cons_self ..)) with y | y
     ·exact y.symm
     ·exact anti a b (hl'.1 b y) (hm'.1 a z)
   subst e;rw [uB anti (List.Perm.cons_inv p) hl'.2 hm'.2]
theorem kAJ (tr:∀ a b c,le a b=true->le b c=true->le a c=true) (tot:∀ a b,(le a b || le b a)=true) (anti:∀ a b,le a b=true->le b a=true->a=b) {l m:List α} (p:l.Perm m) (h:l.Pairwise (λ a b=>le a b=true)):l=m.mergeSort le :=
 uB anti (p.trans (List.mergeSort_perm m le).symm) h (List.pairwise_mergeSort tr tot m)
end
def leP (a b:Nat×Nat):Bool:=decide (a.1<b.1\/a.1=b.1/\a.2<=b.2)
theorem bK {a b:Nat×Nat}:leP a b=true↔a.1<b.1\/a.1=b.1/\a.2<=b.2:=decide_eq_true_iff
def sortP (T:List (Nat×Nat)):List (Nat×Nat):=T.mergeSort leP
theorem sortP_is {l m:List (Nat×Nat)} (p:l.Perm m) (h:l.Pairwise (λ a b=>leP a b=true)):l=sortP m :=
 kAJ (λ a b c h k=>by rw [bK] at *;omega) (λ a b=>by
  rw [Bool.or_eq_true,bK,bK];omega) (λ a b h k=>by
  rw [bK] at h k;exact Prod.ext (by omega) (by omega)) p h
theorem sortP_perm (T:List (Nat×Nat)):(sortP T).Perm T:=List.mergeSort_perm T leP
def zl (l:List Nat):List Int:=l.map λ n:Nat=>(n:Int)
theorem zl_inj:∀ {a b:List Nat},zl a=zl b->a=b
 | [],[],_=>rfl
 | [],_::_,h=>nomatch h
 | _::_,[],h=>nomatch h
 | a::l,b::m,h=>by
  unfold zl at h;rw [map_cons,map_cons] at h;injection h with h1 h2
  rw [zl_inj (a:=l) (b:=m) h2,show a=b by omega]
def leL (a b:List Nat):Bool:=!Srt.lexLt (zl b) (zl a)
theorem leL_iff {a b:List Nat}:leL a b=true↔Srt.lexLt (zl b) (zl a)=false:=by
 unfold leL
 cases Srt.lexLt (zl b) (zl a)<;>simp
def sortL (T:List (List Nat)):List (List Nat):=T.mergeSort leL
theorem kLM (a b c:List Nat) (h:leL a b=true) (k:leL b c=true):leL a c=true:=by
 rw [leL_iff] at *
 cases e:Srt.lexLt (zl c) (zl a) with
 | false=>rfl
 | true =>
  rcases Srt.lex_neg _ (zl b) _ e with z | z
  ·rw [k] at z;cases z
  ·rw [h] at z;cases z
theorem kIY (a b:List Nat):(leL a b || leL b a)=true:=by
 rw [Bool.or_eq_true,leL_iff,leL_iff]
 cases e:Srt.lexLt (zl b) (zl a) with
 | false=>exact .inl rfl
 | true =>
  right
  cases f:Srt.lexLt (zl a) (zl b) with
  | false=>rfl
  | true =>
   have:=Srt.lex_tr _ _ _ e f;rw [Srt.lex_irr] at this;cases this
theorem kGD (a b:List Nat) (h:leL a b=true) (k:leL b a=true):a=b:=by
 rw [leL_iff] at h k;exact zl_inj (Srt.lex_tot _ _ k h)
theorem sortL_is {l m:List (List Nat)} (p:l.Perm m) (h:l.Pairwise (λ a b=>leL a b=true)):l=sortL m:=kAJ kLM kIY kGD p h
theorem vB (T:List (List Nat)):(sortL T).Perm T:=List.mergeSort_perm T leL
theorem leP_leL (a b:Nat×Nat):leL [a.1,a.2] [b.1,b.2]=leP a b:=by
 rw [Bool.eq_iff_iff,leL_iff,bK];show Srt.lexLt [(b.1:Int),(b.2:Int)] [(a.1:Int),(a.2:Int)]=false↔_;unfold Srt.lexLt;by_cases e:(b.1:Int)=a.1
 ·rw [if_pos e]
  unfold Srt.lexLt;by_cases f:(b.2:Int)=a.2
  ·rw [if_pos f]
   exact ⟨λ _=>by omega,λ _=>rfl⟩
  ·rw [if_neg f]
   rw [decide_eq_false_iff_not];omega
 ·rw [if_neg e]
  rw [decide_eq_false_iff_not];omega
open Classical in
noncomputable def per (W:Rows) (t:Nat×Nat):Nat:=if h:∃ k,0<k/\it (nxt W) k t=t/\∀ j,0<j->j<k->it (nxt W) j t≠t then Classical.choose h else 0
theorem per_is {W:Rows} {t:Nat×Nat} {k:Nat} (h0:0<k) (h1:it (nxt W) k t=t) (h2:∀ j,0<j->j<k->it (nxt W) j t≠t):per W t=k:=by
 have ex:∃ k,0<k/\it (nxt W) k t=t/\∀ j,0<j->j<k->it (nxt W) j t≠t:=⟨k,h0,h1,h2⟩;unfold per;rw [dif_pos ex];obtain ⟨a,b,c⟩:=Classical.choose_spec ex;generalize Classical.choose ex=m at *;rcases Nat.lt_trichotomy m k with l | l | l
 ·exact absurd b (h2 m a l)
 ·exact l
 ·exact absurd h1 (c k h0 l)
noncomputable def rnd (W:Rows) (t:Nat×Nat):List (Nat×Nat):=(List.range (per W t)).map λ i=>it (nxt W) i t
noncomputable def fstep (W:Rows) (st:List (List Nat)×List (Nat×Nat)) (t:Nat×Nat):List (List Nat)×List (Nat×Nat) :=
 if t∈st.2 then st else (st.1++[(rnd W t).map (·.1)],st.2++rnd W t)
noncomputable def fgo (W:Rows) (S:List (Nat×Nat)):List (List Nat)×List (Nat×Nat):=S.foldl (fstep W) ([],[])
theorem fgo_snoc (W:Rows) (S:List (Nat×Nat)) (t:Nat×Nat):fgo W (S++[t])=fstep W (fgo W S) t:=by
 unfold fgo;rw [List.foldl_append]
 rfl
def stepsS (W:Rows):List (Nat×Nat):=sortP (kS W)
def tiesS (W:Rows):List (Nat×Nat):=(stepsS W).filter λ t=>decide (t.1<t.2)
noncomputable def uH (W:Rows):List (List Nat):=(fgo W (stepsS W)).1
noncomputable def facesS (W:Rows):List (List Nat):=sortL (uH W)
theorem mem_stepsS {W:Rows} {t:Nat×Nat}:t∈stepsS W↔E W t.1 t.2:=by
 unfold stepsS;rw [(sortP_perm _).mem_iff];exact mem_steps
section
variable {W:Rows} (S:Nb W)
theorem oG (S:Nb W):Rnd.Perm (nxt W) (kS W):=gE S.nd S.sym
theorem nU (S:Nb W) {t:Nat×Nat} (h:t∈kS W):0<per W t/\per W t<=(kS W).length/\it (nxt W) (per W t) t=t/\∀ j,0<j->j<per W t->it (nxt W) j t≠t:=by
 obtain ⟨k,h1,h2,h3,h4⟩:=(oG S).comes h;have e:=per_is h1 h3 h4;rw [e];exact ⟨h1,h2,h3,h4⟩
theorem kCN (S:Nb W) {t:Nat×Nat} (h:t∈kS W):(rnd W t).Nodup:=(oG S).round_nodup h (nU S h).2.2.2
theorem rnd_len (W:Rows) (t:Nat×Nat):(rnd W t).length=per W t:=by unfold rnd;simp
theorem rnd_sub (S:Nb W) {t u:Nat×Nat} (h:t∈kS W) (hu:u∈rnd W t):u∈kS W:=by
 unfold rnd at hu;obtain ⟨i,_,rfl⟩:=mem_map.mp hu;exact (oG S).it i h
theorem bH (S:Nb W) {t u:Nat×Nat} (h:t∈kS W):u∈rnd W t↔∃ j,it (nxt W) j t=u:=by
 obtain ⟨p0,_,back,_⟩:=nU S h;unfold rnd;rw [mem_map];constructor
 ·rintro ⟨i,_,e⟩
  exact ⟨i,e⟩
 ·rintro ⟨j,e⟩
  refine ⟨j % per W t,mem_range.mpr (Nat.mod_lt _ p0),?_⟩;rw [<-kGI _ _ back];exact e
theorem rnd_self (S:Nb W) {t:Nat×Nat} (h:t∈kS W):t∈rnd W t:=(bH S h).mpr ⟨0,rfl⟩
theorem pU (S:Nb W) {t u:Nat×Nat} (h:t∈kS W) (hu:u∈rnd W t):nxt W u∈rnd W t:=by
 obtain ⟨j,rfl⟩:=(bH S h).mp hu;exact (bH S h).mpr ⟨j+1,rfl⟩
structure FI (W:Rows) (T:List (Nat×Nat)) (st:List (List Nat)×List (Nat×Nat)):Prop where
 reps:∃ R:List (Nat×Nat),(∀ r∈R,r∈T)/\st.1=R.map (λ r=>(rnd W r).map (·.1))/\st.2=R.flatMap (rnd W)
 nd:st.2.Nodup
 sub:∀ t∈st.2,t∈kS W
 cl:∀ t∈st.2,nxt W t∈st.2
 cov:∀ t∈T,t∈st.2
theorem FI.start (W:Rows):FI W [] ([],[]):=⟨⟨[],by simp,rfl,rfl⟩,nodup_nil,by simp,by simp,by simp⟩
theorem FI.it {T:List (Nat×Nat)} {st:List (List Nat)×List (Nat×Nat)} (h:FI W T st) {t:Nat×Nat} (ht:t∈st.2) (j:Nat):it (nxt W) j t∈st.2:=by
 induction j with
 | zero=>exact ht
 | succ j ih=>exact h.cl _ ih
theorem FI.step (S:Nb W) {T:List (Nat×Nat)} {st:List (List Nat)×List (Nat×Nat)} (h:FI W T st) {t:Nat×Nat} (ht:t∈kS W):FI W (T++[t]) (fstep W st t):=by
 unfold fstep;obtain ⟨R,r1,r2,r3⟩:=h.reps
 split
 ·rename_i c
  refine ⟨⟨R,λ r hr=>mem_append_left _ (r1 r hr),r2,r3⟩,h.nd,h.sub,h.cl,λ u hu=>?_⟩;rcases mem_append.mp hu with z | z
  ·exact h.cov u z
  ·rw [mem_singleton.mp z]
   exact c
 ·rename_i c
  have dis:∀ a∈st.2,∀ b∈rnd W t,a≠b:=λ a ha b hb e=>by
   subst e;obtain ⟨j,rfl⟩:=(bH S ht).mp hb;obtain ⟨p0,_,back,_⟩:=nU S ht
   have:Rnd.it (nxt W) (per W t*(j+1)-j) (Rnd.it (nxt W) j t)=t:=by
    have le:j<=per W t*(j+1):=Nat.le_trans (Nat.le_succ j) (Nat.le_mul_of_pos_left _ p0);rw [<-aH,Nat.sub_add_cancel le,kGI _ _ back,Nat.mul_mod_right]
    rfl
   rw [<-this] at c;exact c (h.it ha _)
  refine ⟨⟨R++[t],λ r hr=>?_,by rw [map_append,r2];rfl,by rw [List.flatMap_append,r3,List.flatMap_singleton]⟩,?_,λ u hu=>?_,λ u hu=>?_,λ u hu=>?_⟩
  ·rcases mem_append.mp hr with z | z
   ·exact mem_append_left _ (r1 r z)
   ·exact mem_append_right _ z
  ·exact nodup_append.mpr ⟨h.nd,kCN S ht,dis⟩
  ·rcases mem_append.mp hu with z | z
   ·exact h.sub u z
   ·exact rnd_sub S ht z
  ·rcases mem_append.mp hu with z | z
   ·exact mem_append_left _ (h.cl u z)
   ·exact mem_append_right _ (pU S ht z)
  ·rcases mem_append.mp hu with z | z
   ·exact mem_append_left _ (h.cov u z)
   ·rw [mem_singleton.mp z]
    exact mem_append_right _ (rnd_self S ht)
theorem fgo_ok (S:Nb W):∀ (T:List (Nat×Nat)),(∀ t∈T,t∈kS W)->FI W T (fgo W T):=by
 intro T
 have:∀ (n:Nat),n<=T.length->(∀ t∈T,t∈kS W)->FI W (T.take n) (fgo W (T.take n)):=λ n=>by
  induction n with
  | zero=>intro _ _;rw [List.take_zero];exact FI.start W
  | succ n ih =>
   intro hn hT;have h:=ih (by omega) hT;have e:T.take (n+1)=T.take n++[T[n]]:=by rw [take_succ,List.getElem?_eq_getElem (by omega)];rfl
   rw [e,fgo_snoc];exact h.step S (hT _ (getElem_mem _))
 intro hT;have:=this T.length (Nat.le_refl _) hT;rwa [take_length] at this
theorem FI.len {T:List (Nat×Nat)} {st:List (List Nat)×List (Nat×Nat)} (h:FI W T st):st.2.length<=(kS W).length:=List.Nodup.length_le_of_subset h.nd h.sub
end
theorem kGS {α:Type} (l:List α) (p:α->Bool):(l.filter p).length+(l.filter λ x=>!p x).length=l.length:=by
 induction l with
 | nil=>rfl
 | cons x l ih =>
  rw [filter_cons,filter_cons,length_cons]
  cases p x<;>simp<;>omega
section
variable {W:Rows}
theorem kFX (S:Nb W) {t:Nat×Nat} (h:t∈kS W):nxt W t≠t:=λ e=>by
 have a:=S.e (mem_steps.mp (show (t.1,t.2)∈kS W from h));have:(nxt W t).1=t.2:=rfl;rw [e] at this;exact a.2.2 this.symm
theorem kLL (S:Nb W):(stepsS W).Nodup:=(sortP_perm _).nodup_iff.mpr (dG S.nd)
theorem kEM (S:Nb W):2*(tiesS W).length=(kS W).length:=by
 have nd:=kLL S;have l:(stepsS W).length=(kS W).length:=(sortP_perm _).length_eq;have tot:=kGS (stepsS W) λ t=>decide (t.1<t.2)
 have perm:(((stepsS W).filter λ t=>!decide (t.1<t.2)).map λ t=>(t.2,t.1)).Perm ((stepsS W).filter λ t=>decide (t.1<t.2)):=by
  refine (List.perm_ext_iff_of_nodup ?_ (nd.filter _)).mpr λ t=>?_
  ·exact pairwise_map.mpr ((nd.filter _).imp λ {a b} h e=>h (by
    injection e with e1 e2
    exact Prod.ext e2 e1))
  ·constructor
   ·intro h
    obtain ⟨u,hu,rfl⟩:=mem_map.mp h;obtain ⟨a,b⟩:=mem_filter.mp hu;have e:=mem_stepsS.mp a;have ne:=(S.e e).2.2;refine mem_filter.mpr ⟨mem_stepsS.mpr (S.sym _ _ e),?_⟩;have b:¬ u.1<u.2:=by simpa using b
    exact decide_eq_true (show u.2<u.1 by omega)
   ·intro h
    obtain ⟨a,b⟩:=mem_filter.mp h;have b:=of_decide_eq_true b;refine mem_map.mpr ⟨(t.2,t.1),mem_filter.mpr ⟨mem_stepsS.mpr (S.sym _ _ (mem_stepsS.mp a)),?_⟩,rfl⟩;have:¬ t.2<t.1:=by omega
    simpa using this
 have e:=perm.length_eq;rw [length_map] at e;unfold tiesS;omega
theorem sF (S:Nb W):(fgo W (stepsS W)).2.Perm (kS W):=by
 have fi:=fgo_ok S (stepsS W) λ t h=>(sortP_perm _).mem_iff.mp h;exact (List.perm_ext_iff_of_nodup fi.nd (dG S.nd)).mpr λ t=>⟨fi.sub t,λ h=>fi.cov t ((sortP_perm _).mem_iff.mpr h)⟩
theorem kDT (S:Nb W):((uH W).map List.length).sum=(kS W).length:=by
 have fi:=fgo_ok S (stepsS W) λ t h=>(sortP_perm _).mem_iff.mp h;obtain ⟨R,_,r2,r3⟩:=fi.reps;have e:=(sF S).length_eq;unfold uH;rw [r2,<-e,r3,List.length_flatMap,map_map]
 congr 1
 refine List.map_congr_left λ r _=>?_;show ((rnd W r).map _).length=_;rw [length_map]
theorem kLW (S:Nb W):(∀ f∈facesS W,f.length=3)↔∀ t∈kS W,(nxt W (nxt W t)).2=t.1:=by
 have fi:=fgo_ok S (stepsS W) λ t h=>(sortP_perm _).mem_iff.mp h;obtain ⟨R,r1,r2,r3⟩:=fi.reps
 have memF:∀ f,f∈facesS W↔∃ r∈R,f=(rnd W r).map (·.1):=λ f=>by
  unfold facesS;rw [(vB _).mem_iff];unfold uH;rw [r2,mem_map];exact ⟨λ ⟨r,a,b⟩=>⟨r,a,b.symm⟩,λ ⟨r,a,b⟩=>⟨r,a,b.symm⟩⟩
 have rs:∀ r∈R,r∈kS W:=λ r hr=>(sortP_perm _).mem_iff.mp (r1 r hr);constructor
 ·intro h t ht
  have hm:=(sF S).mem_iff.mpr ht;rw [r3,List.mem_flatMap] at hm;obtain ⟨r,hr,htr⟩:=hm;have l3:=h _ ((memF _).mpr ⟨r,hr,rfl⟩);rw [length_map,rnd_len] at l3;obtain ⟨j,rfl⟩:=(bH S (rs r hr)).mp htr;have back:=(nU S (rs r hr)).2.2.1;rw [l3] at back
  have e:nxt W (nxt W (nxt W (it (nxt W) j r)))=it (nxt W) j r:=by
   show it (nxt W) 3 (it (nxt W) j r)=_;rw [<-aH,Nat.add_comm,aH,back]
  have e1:(nxt W (nxt W (nxt W (it (nxt W) j r)))).1=(nxt W (nxt W (it (nxt W) j r))).2:=rfl;rw [e] at e1;exact e1.symm
 ·intro h f hf
  obtain ⟨r,hr,rfl⟩:=(memF f).mp hf;have hs:=rs r hr;rw [length_map,rnd_len];have to:=(oG S).to
  have three:it (nxt W) 3 r=r:=by
   show nxt W (nxt W (nxt W r))=r;have a:=h r hs;have b:=h _ (to r hs);have e1:(nxt W (nxt W (nxt W r))).1=r.1:=a;have e2:(nxt W (nxt W (nxt W r))).2=r.2:=b;exact Prod.ext e1 e2
  refine per_is (by decide) three λ j j0 j3=>?_;have:j=1\/j=2:=by omega
  rcases this with rfl | rfl
  ·exact kFX S hs
  ·intro e
   have e:nxt W (nxt W r)=r:=e;have three:nxt W (nxt W (nxt W r))=r:=three;rw [e] at three;exact kFX S hs three
theorem three_cornered (S:Nb W):(W.length+(facesS W).length=(tiesS W).length+2/\∀ f∈facesS W,f.length=3)↔((∀ t∈kS W,(nxt W (nxt W t)).2=t.1)/\(kS W).length+12=6*W.length):=by
 rw [<-kLW S];have tl:=kEM S;have fs:=kDT S;have fl:(facesS W).length=(uH W).length:=(vB _).length_eq
 have key:(∀ f∈facesS W,f.length=3)->3*(facesS W).length=(kS W).length:=λ h=>by
  have h':∀ f∈uH W,f.length=3:=λ f hf=>h f ((vB _).mem_iff.mpr hf);rw [fl,<-fs];generalize uH W=F at h';clear h fs fl
  induction F with
  | nil=>rfl
  | cons f F ih =>
   rw [map_cons,List.sum_cons,length_cons,<-ih λ g hg=>h' g (mem_cons_of_mem _ hg),h' f (mem_cons_self ..)];omega
 constructor
 ·rintro ⟨a,b⟩
  have:=key b;exact ⟨b,by omega⟩
 ·rintro ⟨b,a⟩
  have:=key b;exact ⟨by omega,b⟩
end
end Fc
namespace Tri
open Cyc
theorem lS (w:Nat):∀ (D:List Nat) (L:Rows) (x y:Nat),zW w L (D++[x,y])=(zW w L (D++[x])).set x (vU ((zW w L (D++[x])).getD x []) y w)
 | [],L,x,y=>rfl
 | [z],L,x,y=>rfl
 | z::z'::r,L,x,y=>lS w (z'::r) (L.set z (vU (L.getD z []) z' w)) x y
theorem kCS (w:Nat) (L:Rows) (P:List Nat) (k x y:Nat) (hx:P[k]?=some x) (hy:P[k+1]?=some y) :
  zW w L (P.take (k+2))=(zW w L (P.take (k+1))).set x (vU ((zW w L (P.take (k+1))).getD x []) y w):=by
 have e1:P.take (k+1)=P.take k++[x]:=by rw [take_succ,hx];rfl
 have e2:P.take (k+2)=P.take k++[x,y]:=by rw [take_succ,hy,e1];simp
 rw [e1,e2];exact lS w _ L x y
theorem dH {L:Rows} {O:List Nat} (G:Half L O) {p:Nat} {row:List Nat} (h:L[p]?=some row):row.length<=6*L.length:=by
 have q:=aU L p row [] h;have t:=G.tot;simp only [length_nil] at q;omega
theorem kKX {L:Rows} {B M C:List Nat} {f l:Nat} (G:Half L (B++(f::M++[l])++C)) {i x y:Nat} (hx:(f::M++[l])[i]?=some x) (hy:(f::M++[l])[i+1]?=some y) :
  ∃ row,L[x]?=some row/\y∈row/\row.length<=6*L.length/\(zW L.length L ((f::M++[l]).take (i+1)))[x]?=some row:=by
 have pnd:(f::M++[l]).Nodup:=(nodup_append.mp (nodup_append.mp G.ond).1).2.1;have hO:∀ z,z∈f::M++[l]->z∈B++(f::M++[l])++C:=λ z hz=>mem_append_left _ (mem_append_right _ hz);generalize hP:f::M++[l]=P at *;have e1:P.take (i+1)=P.take i++[x]:=by rw [take_succ,hx];rfl
 have eP:P=P.take i++x::y::P.drop (i+2):=by
  have hi:i<P.length:=(List.getElem?_eq_some_iff.mp hx).1;have hj:i+1<P.length:=(List.getElem?_eq_some_iff.mp hy).1
  have z:P.drop i=x::y::P.drop (i+2):=by
   rw [drop_eq_getElem_cons hi,drop_eq_getElem_cons hj];rw [List.getElem?_eq_getElem hi] at hx;rw [List.getElem?_eq_getElem hj] at hy
   cases hx;cases hy;rfl
  rw [<-z,take_append_drop]
 have ad:Adj P x y:=by rw [eP,qZ];exact .inr (.inl ⟨rfl,rfl⟩)
 have nx:Nx (B++P++C) x y:=by rw [<-hP] at ad ⊢;exact (nxO x y).mpr (.inl ad)
 have xP:x∈P:=mem_of_getElem? hx;obtain ⟨z,nz⟩:=lZ (hO x xP);obtain ⟨row,e,n⟩:=G.out x y z nx nz;refine ⟨row,e,(qD n).1,dH G e,?_⟩;have tnd:(P.take (i+1)).Nodup:=pnd.sublist (List.take_sublist _ _);obtain ⟨_,_,h3,_⟩:=bB L.length (P.take (i+1)) L tnd (λ z hz=>G.orng z (hO z (List.mem_of_mem_take hz)));rw [h3 x (λ y' h=>?_),e];rw [e1] at h tnd;exact jP (λ z=>(nodup_append.mp tnd).2.2 x z x (by simp) rfl) h rfl
end Tri
namespace Tri
open Cyc Rnd
section
variable {L L2:Rows} {Os Ps:List (List Nat)} {A M C:List Nat} {f l:Nat}
end
def stF (W:Rows) (top ahead:List Nat) (place:Nat):Option (List Nat) :=
 let below:=ahead.filter λ q=>decide (q∈W.getD place [])
 let st:=top.filter λ q=>decide (q∈below)
 if st.length<2\/st.length≠below.length then none
 else if (top.drop (top.idxOf (st.headD 0))).take st.length≠st then none
 else if (st.zip st.tail).all (λ t=>decide ((nxt W t).2=place))=true then some st else none
def poF (top st:List Nat) (place:Nat):List Nat:=top.take (top.idxOf (st.headD 0)+1)++place::top.drop (top.idxOf (st.getLastD 0))
def goF (W:Rows) (thing:List Nat):Nat->Option (List (List Nat)×List (List Nat))
 | 0=>some ([],[thing.take 2])
 | i+1=>match goF W thing i with
  | none=>none
  | some (found,tops)=>match stF W (tops.getLastD []) (thing.take (i+2)) (thing.getD (i+2) 0) with
   | none=>none
   | some st=>some (found++[st],tops++[poF (tops.getLastD []) st (thing.getD (i+2) 0)])
theorem dS:∀ {l:List Nat} {a b:Nat},(a,b)∈l.zip l.tail->Adj l a b
 | [],_,_,h=>by simp at h
 | [x],_,_,h=>by simp at h
 | x::y::l,a,b,h=>by
  rw [List.tail_cons,List.zip_cons_cons] at h;rcases mem_cons.mp h with e | e
  ·injection e with e1 e2
   exact (uQ x y l a b).mpr (.inl ⟨e1,e2⟩)
  ·exact (uQ x y l a b).mpr (.inr (dS (l:=y::l) e))
theorem kBA {m:Nat->Nat}:∀ {B:List Nat} {x:Nat} {C:List Nat},(∀ b∈B,m b≠m x)->((B++x::C).map m).idxOf (m x)=B.length
 | [],x,C,_=>by simp
 | b::B,x,C,h=>by
  have:=kBA (B:=B) (x:=x) (C:=C) λ b hb=>h b (mem_cons_of_mem _ hb);rw [cons_append,map_cons,List.idxOf_cons,this,length_cons];have:(m b == m x)=false:=beq_eq_false_iff_ne.mpr (h b (mem_cons_self ..));rw [this]
  rfl
theorem kFW {W:Rows} (nd:∀ (p:Nat) (row:List Nat),W[p]?=some row->row.Nodup) {x y v:Nat} (h:R W y v x):(nxt W (x,y)).2=v:=by
 obtain ⟨row,e,n⟩:=h;unfold nxt;show (jL (W.getD y []) x).getD 0=v;rw [getD_eq_getElem?_getD,e];show (jL row x).getD 0=v;rw [nQ (nd y row e) n]
 rfl
section
variable {W:Rows} {ms:List Nat} {n:Nat}
end
end Tri
namespace Srt
set_option autoImplicit false
open PySem PySem.W PyProof.Rows
def kHK (lb:Keyed->Keyed->Bool) (l:List Value):Prop:=l.Pairwise λ u v=>le lb (u,u) (v,v)
theorem kLD {lb:Keyed->Keyed->Bool} {vs:List Value} {l:List Keyed} (p:l.Perm (vs.zip vs)) (sr:jF lb l):(l.map (·.2)).Perm vs/\kHK lb (l.map (·.2)):=by
 have same:∀ x∈l,x=(x.2,x.2):=λ x hx=>by
  have:=(mem_zip_self (p.mem_iff.mp hx)).1;obtain ⟨a,b⟩:=x;have:a=b:=this;rw [this]
 refine ⟨?_,?_⟩
 ·have:=p.map (λ x:Keyed=>x.2)
  rwa [show (vs.zip vs).map (λ x:Keyed=>x.2)=vs from List.map_snd_zip (Nat.le_refl _)] at this
 ·refine pairwise_map.mpr (sr.imp_of_mem λ {x y} hx hy h=>?_)
  rw [<-same x hx,<-same y hy];exact h
section
variable {prog:Program} {w:World} {A:Around} {E:Value->Shared->Prop} {s:Shared}
theorem kEY {lb:Keyed->Keyed->Bool} {D:Keyed->Prop} {kd:SortKind} (W:Wk lb) {a:Addr} {vs:List Value} {n:Nat} {P:PySem.Fin->Shared->Prop} (ho:s.heap.get? a=some (seqObj "list" vs.toArray n)) (hz:vs.length<=sizeLine)
  (hkk:2<=vs.length->∀ (h6:Heap),(∀ b o,o.cls≠.type "list"->s.heap.get? b=some o->h6.get? b=some o)->∀ Q:SortKind->Shared->Prop,Q kd { s with heap:=h6 }->wpAny (model prog w) A (keyKind' vs.toArray) Q E { s with heap:=h6 })
  (hL:∀ (h6:Heap),(∀ b o,o.cls≠.type "list"->s.heap.get? b=some o->h6.get? b=some o)->vV (model prog w) A E { s with heap:=h6 } lb D kd) (dd:∀ v∈vs,D (v,v))
  (h:∀ out:List Value,out.Perm vs->kHK lb out->P (.done (.ret .none)) { s with heap:=sortedHeap s.heap a vs out.toArray }) :
  wpAny (model prog w) A (Builtin.«list.sort» ⟨[.ref a],[]⟩) P E s:=by
 rw [list_sort_plain];have ha:a<s.heap.objs.size:=Heap.lt_size ho;refine wpAny_bind (listItems_at ho rfl (wpAny_bind (listUpdate_at ho rfl ?_ (by simpa using hz) (Nat.zero_le _))));obtain ⟨e1,ho1⟩ : ∃ e1,(s.heap.update a (Obj.mapSeq λ _=>#[])).get? a=some (seqObj "list" #[] e1):=⟨_,get?_update_seq ho (λ _=>#[])⟩;refine wpAny_bind (seqEpoch_at ho1 rfl (wpAny_bind (wpAny_newTuple (wpAny_bind (wpAny_newList (wpAny_holding ?_) (Nat.zero_le _))) (by simpa using hz))));generalize eG:((s.heap.update a (Obj.mapSeq λ _=>#[])).push (seqObj "tuple" vs.toArray 0)).push (seqObj "list" #[] 0)=G
 have hoG:G.get? a=some (seqObj "list" #[] e1):=by
  rw [<-eG];exact Heap.get?_push_of_some _ (Heap.get?_push_of_some _ ho1)
 have kG:∀ b o,o.cls≠.type "list"->s.heap.get? b=some o->G.get? b=some o:=λ b o hc e=>by
  have hb:b≠a:=λ q=>by
   subst q;rw [ho] at e;exact hc (by cases e;rfl)
  rw [<-eG];refine Heap.get?_push_of_some _ (Heap.get?_push_of_some _ ?_);rw [Heap.get?_update_ne _ _ _ _ hb];exact e
 have heap:∀ out:List Value,sortedHeap s.heap a vs out.toArray=G.update a (Obj.mapSeq λ _=>out.toArray):=λ out=>by rw [<-eG];rfl
 have eS:∀ X Y:Sem PySem.Fin,X=Y->wpAny (model prog w) A X P E { s with heap:=G }->wpAny (model prog w) A Y P E { s with heap:=G }:=λ X Y e h=>e ▸ h
 have fin:∀ st':SortSt,failedOf st'=none->(arrOf st').toList.Perm (vs.zip vs)->jF lb (arrOf st').toList ->
   P (.done (.ret .none)) { s with heap:=G.update a (Obj.mapSeq λ _=>(arrOf st').map (·.2)) }:=λ st' _ pm sr=>by
  have:=kLD pm sr;have q:=h _ this.1 this.2;rw [heap] at q;rw [show (arrOf st').map (·.2)=((arrOf st').toList.map (·.2)).toArray by rw [<-Array.toList_map]];exact q
 have szP:∀ {st':SortSt},(arrOf st').toList.Perm (vs.zip vs)->((arrOf st').map (·.2)).size<=sizeLine+1:=λ {st'} pm=>by
  have:=pm.length_eq;rw [Array.size_map];simp at this;omega
 dsimp only;by_cases h2:vs.toArray.size<2
 ·rw [if_pos h2,if_pos h2]
  refine wpAny_bind (wpAny_pure ?_);rw [StateT.run_pure];refine wpAny_bind (wpAny_pure ?_)
  have pm:(arrOf (SortSt.mk' general' (vs.toArray.zip vs.toArray) #[] 7 none)).toList.Perm (vs.zip vs):=by
   show (vs.toArray.zip vs.toArray).toList.Perm _;simp
  refine wpAny_bind (seqEpoch_at hoG rfl (wpAny_bind (listUpdate_at hoG rfl ?_ (Nat.zero_le _) (szP pm))));dsimp only;simp only [bne_self_eq_false,Bool.false_eq_true,if_false];refine wpAny_pure (fin (SortSt.mk' general' (vs.toArray.zip vs.toArray) #[] 7 none) rfl pm ?_)
  have:(vs.zip vs).length<=1:=by
   simp at h2 ⊢;omega
  show jF lb (vs.toArray.zip vs.toArray).toList;rw [show (vs.toArray.zip vs.toArray).toList=vs.zip vs by simp];exact nP this
 ·rw [if_neg h2,if_neg h2]
  refine wpAny_bind (hkk (by simp at h2;omega) G kG _ ?_)
  refine wpAny_bind (wpAny_mono (oZ (s:={ s with heap:=G }) W (hL G kG) (st:=SortSt.mk' kd (vs.toArray.zip vs.toArray) #[] 7 none) rfl rfl rfl (λ x hx=>?_)
   (Q:=λ _ st'=>(arrOf st').toList.Perm (vs.zip vs)/\failedOf st'=none/\jF lb (arrOf st').toList) λ st' a1 a2 a3=>⟨?_,a2,a3⟩) ?_ λ _ _ e=>e)
  ·have hx:x∈(vs.toArray.zip vs.toArray).toList:=hx
   rw [show (vs.toArray.zip vs.toArray).toList=vs.zip vs by simp] at hx;obtain ⟨z1,z2⟩:=mem_zip_self hx;obtain ⟨u,v⟩:=x;have z1:u=v:=z1;subst z1;exact dd u z2
  ·refine a1.trans ?_
   show (vs.toArray.zip vs.toArray).toList.Perm _;simp
  ·rintro ⟨⟨⟩,st'⟩ s' ⟨rfl,pm,hf,sr⟩
   refine wpAny_bind (seqEpoch_at hoG rfl (wpAny_bind (listUpdate_at hoG rfl ?_ (Nat.zero_le _) (szP pm))));dsimp only;rw [hf];simp only [bne_self_eq_false,Bool.false_eq_true,if_false];exact wpAny_pure (fin st' hf pm sr)
end
end Srt
namespace Srt
set_option autoImplicit false
open PySem PySem.W PyProof.Rows
section
variable {prog:Program} {w:World} {A:Around} {E:Value->Shared->Prop} {s:Shared}
theorem kAD {l:Addr} {o:Obj} {vs:List Value} {n:Nat} {Q:List Value->Shared->Prop} (ho:s.heap.get? l=some o) (hc:o.cls=.type "list"\/o.cls=.type "tuple") (hd:o.data=.seq vs.toArray n) (hz:vs.length<=sizeLine)
  (h:∀ h1:Heap,h1.objs.size=s.heap.objs.size+1->(∀ b u,s.heap.get? b=some u->h1.get? b=some u)->Q vs { s with heap:=h1 }):wpAny (model prog w) A (collect (.ref l)) Q E s:=by
 unfold collect;refine wpAny_bind (wpAny_runValue (codeAny_builtin entry_proto_collect' ?_));show wpAny _ _ (newList [] >>= λ x=>again (.builtin "list.__iadd__" ⟨[x,.ref l],[]⟩)) _ _ s;refine wpAny_bind (wpAny_newList (wpAny_pure ⟨Code.quiet_builtin _ (by decide +kernel),codeAny_builtin entry_list_iadd' ?_⟩) (Nat.zero_le _));generalize eG:s.heap.push (seqObj "list" #[] 0)=G;have sG:G.objs.size=s.heap.objs.size+1:=by rw [<-eG,size_push']
 have kG:∀ b u,s.heap.get? b=some u->G.get? b=some u:=λ b u e=>by rw [<-eG];exact Heap.get?_push_of_some _ e
 have nG:G.get? s.heap.objs.size=some (seqObj "list" #[] 0):=by rw [<-eG];exact Heap.get?_push_size _ rfl
 show wpAny _ _ (Builtin.List.listExtendWith (.ref s.heap.objs.size) (.ref l) (.ref s.heap.objs.size)) _ _ { s with heap:=G }
 unfold Builtin.List.listExtendWith
 have fin:wpAny (model prog w) A (load s.heap.objs.size >>= λ o=>match o.data with
   | .seq xs _=>pure xs.toList
   | _=>unsupported "internal:collect") Q E { s with heap:=G.update s.heap.objs.size (Obj.mapSeq (·++vs.toArray)) }:=by
  refine wpAny_bind (wpAny_load (get?_update_seq nG _) ?_);show wpAny _ _ (pure ((#[]:Array Value)++vs.toArray).toList) Q E _;rw [show ((#[]:Array Value)++vs.toArray).toList=vs by simp];refine wpAny_pure (h _ (by rw [Heap.size_update,sG]) λ b u e=>?_);rw [Heap.get?_update_ne _ _ _ _ (Nat.ne_of_lt (Heap.lt_size e))];exact kG b u e
 have ty:∃ T:String,o.cls=.type T/\(T = "list"\/T = "tuple"):=by
  rcases hc with e | e
  ·exact ⟨_,e,.inl rfl⟩
  ·exact ⟨_,e,.inr rfl⟩
 obtain ⟨T,hT,hT2⟩:=ty;refine wpAny_bind (wpAny_typeOf (T:=T) ⟨o,kG l o ho,hT⟩ ?_)
 have hb:(Value.type T == Value.type "list" || Value.type T == Value.type "tuple")=true:=by
  rcases hT2 with rfl | rfl<;>rfl
 rw [if_pos (by rw [Bool.or_assoc,hb,Bool.or_true])];refine wpAny_bind (listItems_at (kG l o ho) hd (wpAny_bind (listItems_at (xs:=#[]) (n:=0) nG rfl ?_)));rw [if_neg (by simp)];refine wpAny_bind (listUpdate_at (xs:=#[]) (n:=0) nG rfl ?_ (Nat.zero_le _) (by show (#[]++vs.toArray).size<=sizeLine+1;rw [Array.size_append];simp;omega));exact wpAny_pure fin
theorem fU {lb:Keyed->Keyed->Bool} {D:Keyed->Prop} {kd:SortKind} (W:Wk lb) {l:Addr} {o:Obj} {vs:List Value} {n:Nat} {Q:Value->Shared->Prop} (ho:s.heap.get? l=some o) (hc:o.cls=.type "list"\/o.cls=.type "tuple") (hd:o.data=.seq vs.toArray n) (hz:vs.length<=sizeLine)
  (hkk:2<=vs.length->∀ (A':Around) (E':Value->Shared->Prop) (h6:Heap),(∀ b o,o.cls≠.type "list"->s.heap.get? b=some o->h6.get? b=some o)->∀ Q:SortKind->Shared->Prop,Q kd { s with heap:=h6 }->wpAny (model prog w) A' (keyKind' vs.toArray) Q E' { s with heap:=h6 })
  (hL:∀ (A':Around) (E':Value->Shared->Prop) (h6:Heap),(∀ b o,o.cls≠.type "list"->s.heap.get? b=some o->h6.get? b=some o)->vV (model prog w) A' E' { s with heap:=h6 } lb D kd) (dd:∀ v∈vs,D (v,v))
  (h:∀ (out:List Value) (k:Nat) (h':Heap),out.Perm vs->kHK lb out->(∀ b u,s.heap.get? b=some u->h'.get? b=some u)->h'.get? (s.heap.objs.size+1)=some (seqObj "list" out.toArray k)->Q (.ref (s.heap.objs.size+1)) { s with heap:=h' }) :
  wpAny (model prog w) A (call (.builtin "sorted") [.ref l]) Q E s:=by
 refine Calls.call_function_entry kind_sorted plain_sorted entry_sorted (args_sorted1 _) ?_;unfold Builtin.«sorted»;refine wpAny_bind (m:=checkCount "sorted" 1 1 _) (wpAny_pure (wpAny_bind (kAD ho hc hd hz λ h1 sz1 k1=>?_)));refine wpAny_bind (wpAny_newList ?_ (by simpa using hz));generalize eG:h1.push (seqObj "list" vs.toArray 0)=G
 have nG:G.get? (s.heap.objs.size+1)=some (seqObj "list" vs.toArray 0):=by
  rw [<-eG,<-sz1];exact Heap.get?_push_size _ rfl
 have kG:∀ b u,s.heap.get? b=some u->G.get? b=some u:=λ b u e=>by
  rw [<-eG];exact Heap.get?_push_of_some _ (k1 b u e)
 show wpAny _ _ _ _ _ { s with heap:=G }
 rw [sz1];refine wpAny_bind (wpAny_holding (wpAny_call_entry slot_list_sort ⟨_,nG,rfl⟩ entry_list_sort (kEY (s:={ s with heap:=G }) W nG hz (λ h2 h6 k6 Q q=>hkk h2 _ _ h6 (λ b o c e=>k6 b o c (kG b o e)) Q q) (λ h6 k6=>hL _ _ h6 λ b o c e=>k6 b o c (kG b o e)) dd λ out pm od=>⟨_,rfl,?_⟩) (args_list_sort _)))
 have hlt:s.heap.objs.size+1<G.objs.size:=Heap.lt_size nG;have up:(G.update (s.heap.objs.size+1) (Obj.mapSeq λ _=>#[])).get? (s.heap.objs.size+1)=some (seqObj "list" #[] (if (#[]:Array Value).size == vs.toArray.size then 0 else 1)):=get?_update_seq nG (λ _=>#[]);refine wpAny_pure ⟨_,rfl,h out _ _ pm od (λ b u e=>?_) (get?_update_seq (Heap.get?_push_of_some _ (Heap.get?_push_of_some _ up)) (λ _=>out.toArray))⟩;have hb:b≠s.heap.objs.size+1:=Nat.ne_of_lt (Nat.lt_succ_of_lt (Heap.lt_size e));unfold sortedHeap;rw [Heap.get?_update_ne _ _ _ _ hb];refine Heap.get?_push_of_some _ (Heap.get?_push_of_some _ ?_);rw [Heap.get?_update_ne _ _ _ _ hb];exact kG b u e
theorem sorted_tups {l:Addr} {o:Obj} {vs:List Value} {n:Nat} {Q:Value->Shared->Prop} (ho:s.heap.get? l=some o) (hc:o.cls=.type "list"\/o.cls=.type "tuple") (hd:o.data=.seq vs.toArray n) (hz:vs.length<=sizeLine)
  (ht:∀ v∈vs,TupI s.heap v)
  (h:∀ (out:List Value) (k:Nat) (h':Heap),out.Perm vs->kHK (lbT s.heap) out->(∀ b u,s.heap.get? b=some u->h'.get? b=some u)->h'.get? (s.heap.objs.size+1)=some (seqObj "list" out.toArray k)->Q (.ref (s.heap.objs.size+1)) { s with heap:=h' }) :
  wpAny (model prog w) A (call (.builtin "sorted") [.ref l]) Q E s:=by
 have kt:∀ {h6:Heap},(∀ b o,o.cls≠.type "list"->s.heap.get? b=some o->h6.get? b=some o)->∀ b o,o.cls=.type "tuple"->s.heap.get? b=some o->h6.get? b=some o:=λ k6 b o c e=>k6 b o (by rw [c];intro q;injection q with q;exact absurd q (by decide)) e
 refine fU (D:=λ x=>TupI s.heap x.1) (kd:=tuples' true) (kLN s.heap) ho hc hd hz (λ h2 A' E' h6 k6 Q q=>?_) (λ A' E' h6 k6=>?_) (λ v hv=>ht v hv) h
 ·have t6:∀ v∈vs,TupI h6 v:=λ v hv=>((ht v hv).kept (kt k6)).1
  have:∀ us:List Value,(∀ v∈us,TupI h6 v)->∃ fs,KatTups h6 us fs/\fs.length=us.length/\∀ v∈fs,∃ k t,v=Value.int k t:=λ us=>by
   induction us with
   | nil=>intro _;exact ⟨[],.nil,rfl,by simp⟩
   | cons u us ih =>
    intro hu;obtain ⟨fs,a1,a2,a3⟩:=ih λ v hv=>hu v (mem_cons_of_mem _ hv);obtain ⟨a,o,xs,m,rfl,e1,e2,e3,e4,e5⟩:=hu u (mem_cons_self ..);refine ⟨xs[0]::fs,.cons e1 e2 e3 (getElem?_pos xs 0 e5) a1,by simp [a2],λ v hv=>?_⟩;rcases mem_cons.mp hv with rfl | z
    ·exact e4 _ (by simp)
    ·exact a3 v z
  obtain ⟨fs,a1,a2,a3⟩:=this vs t6;refine kat_kind (T:=.type "int") a1 (by omega) (λ v hv=>?_) rfl q;obtain ⟨k,t,rfl⟩:=a3 v hv;exact Looks.of_pure rfl
 ·intro x y hx hy st Q hk q
  have a:=hx.kept (kt k6);have b:=hy.kept (kt k6);refine kDD (s:={ s with heap:=h6 }) x y a.1 b.1 st Q hk ?_
  show Q (some (lexLt (keyOf h6 x.1) (keyOf h6 y.1))) st;rw [a.2,b.2];exact q
theorem sorted_nums {l:Addr} {o:Obj} {vs:List Value} {n:Nat} {Q:Value->Shared->Prop} (ho:s.heap.get? l=some o) (hc:o.cls=.type "list"\/o.cls=.type "tuple") (hd:o.data=.seq vs.toArray n) (hz:vs.length<=sizeLine)
  (ht:∀ v∈vs,∃ k t,v=Value.int k t)
  (h:∀ (out:List Value) (k:Nat) (h':Heap),out.Perm vs->kHK lbI out->(∀ b u,s.heap.get? b=some u->h'.get? b=some u)->h'.get? (s.heap.objs.size+1)=some (seqObj "list" out.toArray k)->Q (.ref (s.heap.objs.size+1)) { s with heap:=h' }) :
  wpAny (model prog w) A (call (.builtin "sorted") [.ref l]) Q E s:=by
 refine fU (D:=λ x=>∃ k t,x.1=.int k t) (kd:=oneType') kLO ho hc hd hz (λ h2 A' E' h6 k6 Q q=>?_) (λ A' E' h6 k6=>kDE) (λ v hv=>ht v hv) h;refine kas_kind (T:=.type "int") h2 (λ v hv=>?_) rfl rfl q;obtain ⟨k,t,rfl⟩:=ht v hv;exact Looks.of_pure rfl
end
end Srt
namespace Srt
theorem perm_back {α β:Type} {f:α->β}:∀ {l' l2:List β},l'.Perm l2->∀ {l:List α},l2=l.map f->∃ m:List α,m.Perm l/\l'=m.map f:=by
 intro l' l2 h
 induction h with
 | nil =>
  intro l e
  match l,e with
  | [],_=>exact ⟨[],.refl _,rfl⟩
 | cons x _ ih =>
  intro l e
  match l,e with
  | y::l,e =>
   rw [map_cons] at e;injection e with e1 e2
   obtain ⟨m,a,b⟩:=ih e2;exact ⟨y::m,a.cons y,by rw [map_cons,b,e1]⟩
 | swap x y l0 =>
  intro l e
  match l,e with
  | a::b::l,e =>
   rw [map_cons,map_cons] at e;injection e with e1 e2
   injection e2 with e2 e3
   exact ⟨b::a::l,.swap _ _ _,by rw [map_cons,map_cons,e1,e2,e3]⟩
 | trans _ _ ih1 ih2 =>
  intro l e;obtain ⟨m,a,b⟩:=ih2 e;obtain ⟨m',a',b'⟩:=ih1 b;exact ⟨m',a'.trans a,b'⟩
end Srt
namespace L2
open PySem PySem.Spec PyProof.Rows
section
variable {X:Cx}
theorem bY:∀ {ps:List (Addr×List Int)} {its:List Value},Vals (ps.map λ q=>V.ref q.1) its->its=ps.map λ q=>Value.ref q.1
 | [],_,.nil=>rfl
 | p::ps,_,.cons r t=>by
  rw [bY t,show _=Value.ref p.1 from r]
  rfl
theorem lQ:∀ (ps:List (Addr×List Int)),Vals (ps.map λ q=>V.ref q.1) (ps.map λ q=>Value.ref q.1)
 | []=>.nil
 | p::ps=>.cons rfl (lQ ps)
def kMA (H:Hp) (ps:List (Addr×List Int)):Prop:=∀ q∈ps,H q.1=some (.tup (q.2.map V.int))/\q.2≠[]
theorem mX {pins:List (Addr×Obj)} {σ:St} {H:Hp} {s:Shared} (I:Inv X pins σ H s) {a:Addr} {ns:List Int} (h:H a=some (.tup (ns.map V.int))) (h0:ns≠[]):Srt.TupI s.heap (.ref a)/\Srt.keyOf s.heap (.ref a)=ns:=by
 obtain ⟨its,rv,⟨o,ho,hc,n,hd⟩,hz⟩:=I.tuple (SqT.of (K:=X.K) h);have hi:=fG rv;have hl:=rv.length;refine ⟨⟨a,o,_,n,rfl,ho,hc,hd,λ u hu=>hi.all u (by simpa using hu),?_⟩,?_⟩
 ·rw [length_map] at hl
  have:0<ns.length:=List.length_pos_iff.mpr h0;simp;omega
 ·rw [Srt.TupI.key ho hd]
  exact hi.nums
theorem gZ:yG X (.builtin "sorted") (λ xs H Q=>∃ (p:Addr) (ps:List (Addr×List Int)),xs=[.ref p]/\(SqL X.K H p (ps.map λ q=>V.ref q.1)\/SqT X.K H p (ps.map λ q=>V.ref q.1))/\kMA H ps /\
  ∀ (l:Addr) (ps':List (Addr×List Int)),H l=none->ps'.Perm ps->ps'.Pairwise (λ a b=>Srt.lexLt b.2 a.2=false)->Q (.ref l) (upd H l (.lst (ps'.map λ q=>V.ref q.1)))):=by
 intro pins s σ H xs us Q I r h;obtain ⟨p,ps,rfl,hq,tp,q⟩:=h;obtain ⟨u,rfl,rx⟩:=uS r;cases rx
 have obj:∃ (o:Obj) (n:Nat),s.heap.get? p=some o/\(o.cls=.type "list"\/o.cls=.type "tuple")/\o.data=.seq (ps.map λ q=>Value.ref q.1).toArray n/\ps.length<=sizeLine:=by
  rcases hq with hq | hq
  ·obtain ⟨its,r',pl,hz⟩:=I.list hq
   rw [bY r'] at pl;obtain ⟨o,ho,hc,n,hd⟩:=pl.isList;exact ⟨o,n,ho,.inl hc,hd,by simpa using hz⟩
  ·obtain ⟨its,r',pl,hz⟩:=I.tuple hq
   rw [bY r'] at pl;obtain ⟨o,ho,hc,n,hd⟩:=pl;exact ⟨o,n,ho,.inr hc,hd,by simpa using hz⟩
 obtain ⟨o,n,ho,hc,hd,hz⟩:=obj;refine Srt.sorted_tups ho hc hd (by simpa using hz) (λ v hv=>?_) λ out k h' pm od kp e=>?_
 ·obtain ⟨x,hx,rfl⟩:=mem_map.mp hv
  exact (mX I (tp x hx).1 (tp x hx).2).1
 ·obtain ⟨ps',pm',rfl⟩:=Srt.perm_back pm rfl
  refine ⟨.ref (s.heap.objs.size+1),_,I.laid (t':=s.toks) kp (Nat.le_succ _) (show ObjOk X.prog X.w _ h' _ (.lst (ps'.map λ q=>V.ref q.1)) from ⟨by simpa [pm'.length_eq] using hz,_,k,lQ ps',e⟩),rfl,q _ ps' (I.hok.fresh (Nat.le_succ _)) pm' ?_⟩;refine (pairwise_map.mp od).imp_of_mem λ {a b} ha hb hh=>?_;have e1:=(mX I (tp a (pm'.mem_iff.mp ha)).1 (tp a (pm'.mem_iff.mp ha)).2).2;have e2:=(mX I (tp b (pm'.mem_iff.mp hb)).1 (tp b (pm'.mem_iff.mp hb)).2).2;have hh:Srt.lexLt (Srt.keyOf s.heap (.ref b.1)) (Srt.keyOf s.heap (.ref a.1))=false:=hh;rw [e1,e2] at hh;exact hh
theorem hG:yG X (.builtin "sorted") (λ xs H Q=>∃ (p:Addr) (ns:List Int),xs=[.ref p]/\(SqL X.K H p (ns.map V.int)\/SqT X.K H p (ns.map V.int)) /\
  ∀ (l:Addr) (ns':List Int),H l=none->ns'.Perm ns->ns'.Pairwise (·<=·)->Q (.ref l) (upd H l (.lst (ns'.map V.int)))):=by
 intro pins s σ H xs us Q I r h;obtain ⟨p,ns,rfl,hq,q⟩:=h;obtain ⟨u,rfl,rx⟩:=uS r;cases rx
 have obj:∃ (o:Obj) (n:Nat) (its:List Value),s.heap.get? p=some o/\(o.cls=.type "list"\/o.cls=.type "tuple")/\o.data=.seq its.toArray n/\its.length<=sizeLine/\Vals (ns.map V.int) its:=by
  rcases hq with hq | hq
  ·obtain ⟨its,r',pl,hz⟩:=I.list hq
   obtain ⟨o,ho,hc,n,hd⟩:=pl.isList;exact ⟨o,n,its,ho,.inl hc,hd,by rw [<-r'.length];exact hz,r'⟩
  ·obtain ⟨its,r',pl,hz⟩:=I.tuple hq
   obtain ⟨o,ho,hc,n,hd⟩:=pl;exact ⟨o,n,its,ho,.inr hc,hd,by rw [<-r'.length];exact hz,r'⟩
 obtain ⟨o,n,its,ho,hc,hd,hz,rv⟩:=obj;have hi:=fG rv;refine Srt.sorted_nums ho hc hd hz (λ v hv=>hi.all v hv) λ out k h' pm od kp e=>?_;have all:∀ v∈out,∃ k t,v=Value.int k t:=λ v hv=>hi.all v (pm.mem_iff.mp hv)
 have vo:Vals ((out.map numOf).map V.int) out:=by
  clear e od pm
  induction out with
  | nil=>exact .nil
  | cons u us ih =>
   obtain ⟨k,t,rfl⟩:=all u (mem_cons_self ..);exact .cons ⟨t,rfl⟩ (ih λ v hv=>all v (mem_cons_of_mem _ hv))
 have pn:(out.map numOf).Perm ns:=by
  have:=pm.map numOf;rwa [hi.nums] at this
 refine ⟨.ref (s.heap.objs.size+1),_,I.laid (t':=s.toks) kp (Nat.le_succ _) (show ObjOk X.prog X.w _ h' _ (.lst ((out.map numOf).map V.int)) from ⟨?_,_,k,vo,e⟩),rfl,q _ _ (I.hok.fresh (Nat.le_succ _)) pn ?_⟩
 ·rw [length_map,length_map,pm.length_eq]
  exact hz
 ·refine pairwise_map.mpr (od.imp λ {a b} hh=>?_)
  have hh:decide (numOf b<numOf a)=false:=hh;have:=of_decide_eq_false hh;omega
end
end L2
namespace Hsh
set_option autoImplicit false
open PySem PySem.Spec PyProof.Rows
def kDU:Nat->List Nat->Bool
 | 0,l=>l.length<=1
 | k+1,l=>match l with
  | []=>true
  | [_]=>true
  | l=>kDU k (l.filter λ n=>(n / 2 ^ k) % 2 == 0) && kDU k (l.filter λ n=>!((n / 2 ^ k) % 2 == 0))
theorem kJL:∀ (k:Nat) (l:List Nat),kDU k l=true->l.Nodup:=by
 intro k
 induction k with
 | zero =>
  intro l h
  match l,h with
  | [],_=>exact nodup_nil
  | [x],_=>exact nodup_cons.mpr ⟨by simp,nodup_nil⟩
  | _::_::_,h=>simp [kDU] at h
 | succ k ih =>
  intro l h
  match l,h with
  | [],_=>exact nodup_nil
  | [x],_=>exact nodup_cons.mpr ⟨by simp,nodup_nil⟩
  | a::b::l,h =>
   unfold kDU at h;rw [Bool.and_eq_true] at h;have h1:=ih _ h.1;have h2:=ih _ h.2;generalize a::b::l=m at *
   have:∀ m:List Nat,(m.filter λ n=>(n / 2 ^ k) % 2 == 0).Nodup->(m.filter λ n=>!((n / 2 ^ k) % 2 == 0)).Nodup->m.Nodup:=λ m=>by
    induction m with
    | nil=>intro _ _;exact nodup_nil
    | cons x m ih =>
     intro a1 a2
     have mem:x∉m:=λ hx=>by
      cases e:(x / 2 ^ k) % 2 == 0 with
      | true =>
       rw [filter_cons,if_pos e] at a1;exact (nodup_cons.mp a1).1 (mem_filter.mpr ⟨hx,e⟩)
      | false =>
       rw [filter_cons,if_pos (by rw [e];rfl)] at a2;exact (nodup_cons.mp a2).1 (mem_filter.mpr ⟨hx,by rw [e];rfl⟩)
     refine nodup_cons.mpr ⟨mem,ih ?_ ?_⟩
     ·rw [filter_cons] at a1
      split at a1
      ·exact (nodup_cons.mp a1).2
      ·exact a1
     ·rw [filter_cons] at a2
      split at a2
      ·exact (nodup_cons.mp a2).2
      ·exact a2
   exact this m h1 h2
def hp (p q:Nat):Nat:=(reduceHash (Builtin.Tuple.tupleHashOf [hashInt (p:Int),hashInt (q:Int)])+2 ^ 63).toNat
def all:List Nat:=(List.range 1764).map λ i=>hp (i / 42) (i % 42)
theorem kHH:kDU 64 all=true:=by decide +kernel
theorem hp_inj {p q p' q':Nat} (h1:p<42) (h2:q<42) (h3:p'<42) (h4:q'<42) (e:hp p q=hp p' q'):p=p'/\q=q':=by
 have nd:=kJL 64 all kHH
 have at':∀ p q:Nat,p<42->q<42->all[42*p+q]?=some (hp p q):=λ p q a b=>by
  unfold all;rw [List.getElem?_map,List.getElem?_range (by omega)];show some (hp ((42*p+q) / 42) ((42*p+q) % 42))=_;rw [show (42*p+q) / 42=p by omega,show (42*p+q) % 42=q by omega]
 have a:=at' p q h1 h2;have b:=at' p' q' h3 h4;rw [<-e] at b;have:=(List.getElem?_inj (List.getElem?_eq_some_iff.mp a).1 nd).mp (a.trans b.symm);omega
end Hsh
namespace Dct
set_option autoImplicit false
open PySem PySem.Spec PyProof.Rows
section
variable {prog:Program} {w:World} {A:Around} {E:Value->Shared->Prop} {s:Shared} {κ:Type} [DecidableEq κ] {kd:KeyKind prog w κ}
def fold (xs ys:List (List κ×Addr×Value)):List (List κ×Addr×Value):=ys.foldl (λ acc y=>storedH acc y.1 y.2.1 y.2.2) xs
theorem fold_len (xs ys:List (List κ×Addr×Value)):(fold xs ys).length<=xs.length+ys.length:=by
 induction ys generalizing xs with
 | nil=>exact Nat.le_refl _
 | cons y ys ih =>
  have:=ih (storedH xs y.1 y.2.1 y.2.2)
  have l:(storedH xs y.1 y.2.1 y.2.2).length<=xs.length+1:=by
   unfold storedH
   split<;>simp
  rw [length_cons];unfold fold at *;rw [foldl_cons];omega
theorem rW:∀ (xs ys:List (List κ×Addr×Value)),((xs++ys).map (·.1)).Nodup->fold xs ys=xs++ys
 | xs,[],_=>by rw [append_nil];rfl
 | xs,y::ys,h=>by
  have no:atKey xs y.1=none:=by
   refine atKey_none_of_get λ j p e=>?_;rw [map_append,map_cons,nodup_append] at h;exact h.2.2 y.1 (mem_map.mpr ⟨_,mem_of_getElem? e,rfl⟩) y.1 (mem_cons_self ..) rfl
  unfold fold;rw [foldl_cons,storedH_new no];have:=rW (xs++[y]) ys (by simpa using h);unfold fold at this;rw [show (y.1,y.2.1,y.2.2)=y from rfl,this];simp
theorem mK (xs ys:List (List κ×Addr×Value)) (i:Nat) (y:List κ×Addr×Value) (h:ys[i]?=some y):fold xs (ys.take (i+1))=storedH (fold xs (ys.take i)) y.1 y.2.1 y.2.2:=by
 unfold fold;rw [List.take_add_one,h,List.foldl_append]
 rfl
theorem fY {d a:Addr} {xs:List (List κ×Addr×Value)} {k:List κ} {v:Value} {Q:Unit->Shared->Prop} (hu:A.units<cLine) (hk:(tupleKind kd).is s.heap k a) (hm:s.heap.DictOfH (tupleKind kd) d xs) (hz:xs.length<=sizeLine)
  (q:∀ h',h'.DictOfH (tupleKind kd) d (storedH xs k a v)->Heap.SameBut d s.heap h'->Q () { s with heap:=h' }):wpAny (model prog w) A (dictSetHashed d (.ref a) ((tupleKind kd).hash k) v) Q E s:=by
 obtain ⟨o,es,ep,ho,hc,hd,he,his,hn⟩:=hm;have sz:=size_of_entries he;unfold dictSetHashed
 try with_reducible refine wpAny_holding ?_
 refine wpAny_bind (wpAny_dictFind_heap (knd:=tupleKind kd) hu hk ho hd he his hn (λ no=>?_) λ j p hj=>?_)
 ·have nk:=not_mem_keys_of_get no
  have e:=storedH_new (atKey_none_of_get no) a v;refine wpAny_bind (wpAny_rule (wpAny_updateDictKeys (hz:=by omega) ho hd (q _ ⟨_,_,ep+1,Heap.get?_update_self _ ho (Obj.isFreed_of_dict (Obj.data_mapDictKeys hd _)),hc.mapDictKeys _,Obj.data_mapDictKeys hd _,?_,?_,?_⟩ (Heap.SameBut.update ..))))
  ·rw [e]
   simp [he,entryOfKey]
  ·rw [e]
   intro x hx;rcases mem_append.mp hx with z | z
   ·exact (tupleKind kd).keeps (his x z) ho hd (Heap.SameBut.update ..)
   ·rw [mem_singleton.mp z]
    exact (tupleKind kd).keeps hk ho hd (Heap.SameBut.update ..)
  ·rw [e,map_append,nodup_append]
   refine ⟨hn,by simp,λ x hx y hy z=>nk ?_⟩;have:y=k:=by simpa using hy
   rw [<-this,<-z];exact hx
 ·have e:=storedH_old (atKey_of_get hn hj) a v
  refine wpAny_bind (wpAny_rule (wpAny_bind (wpAny_updateDict ho hd (wpAny_point (q _ ⟨_,_,ep,Heap.get?_update_self _ ho (Obj.isFreed_of_dict (Obj.data_mapDict hd _)),hc.mapDict _,Obj.data_mapDict hd _,?_,?_,?_⟩ (Heap.SameBut.update ..))))))
  ·rw [e]
   have m:=modify_map_putAt (entryOfKey (tupleKind kd)) (λ z:DictEntry=>{ z with val:=v }) k v (λ _ _=>rfl) hn hj
   rw [<-he] at m;obtain ⟨l⟩:=es;simpa using m
  ·rw [e]
   intro x hx;obtain ⟨y,hy,rfl⟩:=mem_map.mp hx;unfold putAt
   split<;>exact (tupleKind kd).keeps (his y hy) ho hd (Heap.SameBut.update ..)
  ·rw [e,keys_map_putAt]
   exact hn
theorem kCP {k:List κ} {a:Addr} {Q:Bool->Shared->Prop} (hk:(tupleKind kd).is s.heap k a) (q:Q false s):wpAny (model prog w) A (Builtin.Dict.quietEq (.ref a)) Q E s:=by
 unfold Builtin.Dict.quietEq;have hk:IsTupleKey kd s.heap k a:=hk;refine wpAny_bind (wpAny_specialOf hk.typeIs F.slot_tuple_eq.lookup (wpAny_pure ?_));exact q
theorem rX {id:String} {d:Addr} {o:Obj} {es:Array DictEntry} {ep:Nat} {xs:List (List κ×Addr×Value)} {Q:Array DictEntry->Shared->Prop} (ho:s.heap.get? d=some o) (hd:o.data=.dict es ep) (he:es.toList=xs.map (entryOfKey (tupleKind kd))) (his:∀ x∈xs,(tupleKind kd).is s.heap x.1 x.2.1)
  (hh:(xs.map λ x=>(tupleKind kd).hash x.1).Nodup) (q:Q es s):wpAny (model prog w) A (Builtin.Dict.entriesForEmpty id d) Q E s:=by
 have few:∀ e∈es,¬ (es.filter λ z=>z.hash == e.hash).size>1:=λ e hin g=>by
  have:(es.toList.map λ z=>z.hash)=xs.map λ x=>(tupleKind kd).hash x.1:=by
   rw [he,map_map]
   rfl
  rw [<-this] at hh
  have l:(es.filter λ z=>z.hash == e.hash).size=((es.toList.map λ z=>z.hash).filter λ z=>z == e.hash).length:=by
   rw [<-Array.length_toList,Array.toList_filter,List.filter_map,length_map]
   rfl
  have c:=List.nodup_iff_count.mp hh e.hash;rw [List.count_eq_length_filter] at c;omega
 unfold Builtin.Dict.entriesForEmpty;refine wpAny_bind (wpAny_dictEntries ho hd (wpAny_bind ?_));rw [<-Array.forIn_toList];refine wpAny_forIn_list _ (λ rest _ s'=>s'=s/\∀ e∈rest,e∈es) _ ?_ ?_ _ _ ⟨rfl,λ e h=>Array.mem_toList_iff.mp h⟩
 ·rintro e rest b s' ⟨rfl,hr⟩
  have hin:=hr e (mem_cons_self ..)
  obtain ⟨x,hx,rfl⟩ : ∃ x∈xs,e=entryOfKey (tupleKind kd) x:=by
   have:e∈xs.map (entryOfKey (tupleKind kd)):=he ▸ Array.mem_toList_iff.mpr hin;obtain ⟨x,hx,z⟩:=mem_map.mp this;exact ⟨x,hx,z.symm⟩
  refine wpAny_bind (kCP (his x hx) ?_);simp only [Bool.not_false,if_true];rw [if_neg (few _ hin)];exact wpAny_pure ⟨rfl,λ z hz=>hr z (mem_cons_of_mem _ hz)⟩
 ·rintro b s' ⟨rfl,_⟩
  exact wpAny_pure q
theorem kDC {nm:String} {d o:Addr} {xs ys:List (List κ×Addr×Value)} {Q:Unit->Shared->Prop} (hu:A.units<cLine) (hdo:d≠o) (hoS:(o == sysModules)=false) (hd:s.heap.DictOfH (tupleKind kd) d xs) (ho:s.heap.DictOfH (tupleKind kd) o ys)
  (hz:xs.length+ys.length<=sizeLine) (hh:xs=[]->(ys.map λ y=>(tupleKind kd).hash y.1).Nodup)
  (q:∀ h',h'.DictOfH (tupleKind kd) d (fold xs ys)->Heap.SameBut d s.heap h'->Q () { s with heap:=h' }):wpAny (model prog w) A (Builtin.Dict.mergeDict nm d o) Q E s:=by
 obtain ⟨od,esd,epd,hod,hcd,hdd,hed,hisd,hnd⟩:=id hd;obtain ⟨oo,eso,epo,hoo,hco,hdo',heo,hiso,hno⟩:=id ho;have szo:=size_of_entries heo;have szd:=size_of_entries hed;unfold Builtin.Dict.mergeDict;rw [if_neg (by simpa using hdo)];unfold Builtin.Dict.showsAll;rw [if_neg (by rw [hoS];exact Bool.false_ne_true)]
 refine wpAny_bind (wpAny_pure (wpAny_bind (wpAny_dictEntries hoo hdo' ?_)))
 have inv0:∃ h' i,s={ s with heap:=h' }/\List.range' 0 eso.size=List.range' i (eso.size-i)/\i<=eso.size/\h'.DictOfH (tupleKind kd) d (fold xs (ys.take i))/\h'.get? o=some oo/\Heap.SameBut d s.heap h' :=
  ⟨s.heap,0,rfl,rfl,Nat.zero_le _,by rw [List.take_zero];exact hd,hoo,Heap.SameBut.refl _ _⟩
 dsimp only
 split
 ·refine wpAny_bind (wpAny_dictEntries hod hdd ?_)
  split
  ·rename_i hemp
   have z:xs=[]:=by
    have h0:esd = #[]:=Array.isEmpty_iff.mp hemp;rw [h0] at szd;exact length_eq_zero_iff.mp szd.symm
   subst z;have ff:fold [] ys=ys:=rW [] ys hno;rw [ff] at q;refine wpAny_bind (rX hoo hdo' heo hiso (hh rfl) ?_)
   split
   ·refine wpAny_bind (wpAny_updateDictKeysTo hod hdd (wpAny_pure (q _ ⟨_,_,epd+1,Heap.get?_update_self _ hod (Obj.isFreed_of_dict (Obj.data_mapDictKeys hdd _)),hcd.mapDictKeys _,Obj.data_mapDictKeys hdd _,heo,λ x hx=>(tupleKind kd).keeps (hiso x hx) hod hdd (Heap.SameBut.update ..),hno⟩ (Heap.SameBut.update ..))) ?_)
    simp only [length_nil] at hz;omega
   ·rename_i hne
    have h0:eso = #[]:=Array.isEmpty_iff.mp (by simpa using hne)
    have z:ys=[]:=by
     rw [h0] at szo;exact length_eq_zero_iff.mp szo.symm
    subst z;exact wpAny_pure (q _ hd (Heap.SameBut.refl _ _))
  ·refine wpAny_bind (wpAny_dictEpoch hoo hdo' (wpAny_bind (wpAny_dictEntries hoo hdo' (wpAny_bind ?_))))
   rw [Std.Legacy.Range.forIn_eq_forIn_range'];simp only [Std.Legacy.Range.size,Nat.sub_zero,Nat.add_sub_cancel,Nat.div_one];refine wpAny_forIn_list _ (λ rest _ s'=>∃ h' i,s'={ s with heap:=h' }/\rest=List.range' i (eso.size-i)/\i<=eso.size/\h'.DictOfH (tupleKind kd) d (fold xs (ys.take i))/\h'.get? o=some oo/\Heap.SameBut d s.heap h') _ ?_ ?_ _ _ inv0
   ·rintro x rest b s' ⟨h',i,rfl,hr,hi,hd',hoo',hs'⟩
    by_cases hlt:i<eso.size
    ·rw [show eso.size-i=(eso.size-(i+1))+1 by omega,List.range'_succ] at hr
     injection hr with h1 h2
     subst h1;refine wpAny_bind (wpAny_dictEntries hoo' hdo' ?_);have hy:ys[x]?=some (ys[x]'(by omega)):=List.getElem?_eq_getElem _;rw [entry_at heo x,hy];generalize ys[x]'(by omega)=y at hy;have hk:(tupleKind kd).is h' y.1 y.2.1:=(tupleKind kd).keeps (hiso y (mem_of_getElem? hy)) hod hdd hs';have lz:=fold_len xs (ys.take x);have lt:(ys.take x).length<=ys.length:=by rw [length_take];omega
     refine wpAny_bind (wpAny_holding (fY (s:={ s with heap:=h' }) hu hk hd' (by omega) λ h'' hd'' hs''=>?_))
     have hoo'':h''.get? o=some oo:=(hs''.2 o (Ne.symm hdo)).trans hoo';refine wpAny_bind (wpAny_dictEpoch hoo'' hdo' ?_);rw [if_neg (by simp)];exact wpAny_pure ⟨h'',x+1,rfl,h2,hlt,by rw [mK xs ys x y hy];exact hd'',hoo'',hs'.trans hs''⟩
    ·rw [show eso.size-i=0 by omega] at hr
     exact nomatch hr
   ·rintro b s' ⟨h',i,rfl,hr,hi,hd',hoo',hs'⟩
    have hin:i=eso.size:=by
     by_cases hlt:i<eso.size
     ·rw [show eso.size-i=(eso.size-(i+1))+1 by omega,List.range'_succ] at hr
      exact nomatch hr
     ·omega
    refine wpAny_pure (q h' ?_ hs');rw [hin,szo,take_length] at hd';exact hd'
 ·refine wpAny_bind (wpAny_dictEpoch hoo hdo' (wpAny_bind (wpAny_dictEntries hoo hdo' (wpAny_bind ?_))))
  rw [Std.Legacy.Range.forIn_eq_forIn_range'];simp only [Std.Legacy.Range.size,Nat.sub_zero,Nat.add_sub_cancel,Nat.div_one];refine wpAny_forIn_list _ (λ rest _ s'=>∃ h' i,s'={ s with heap:=h' }/\rest=List.range' i (eso.size-i)/\i<=eso.size/\h'.DictOfH (tupleKind kd) d (fold xs (ys.take i))/\h'.get? o=some oo/\Heap.SameBut d s.heap h') _ ?_ ?_ _ _ inv0
  ·rintro x rest b s' ⟨h',i,rfl,hr,hi,hd',hoo',hs'⟩
   by_cases hlt:i<eso.size
   ·rw [show eso.size-i=(eso.size-(i+1))+1 by omega,List.range'_succ] at hr
    injection hr with h1 h2
    subst h1;refine wpAny_bind (wpAny_dictEntries hoo' hdo' ?_);have hy:ys[x]?=some (ys[x]'(by omega)):=List.getElem?_eq_getElem _;rw [entry_at heo x,hy];generalize ys[x]'(by omega)=y at hy;have hk:(tupleKind kd).is h' y.1 y.2.1:=(tupleKind kd).keeps (hiso y (mem_of_getElem? hy)) hod hdd hs';have lz:=fold_len xs (ys.take x);have lt:(ys.take x).length<=ys.length:=by rw [length_take];omega
    refine wpAny_bind (wpAny_holding (fY (s:={ s with heap:=h' }) hu hk hd' (by omega) λ h'' hd'' hs''=>?_))
    have hoo'':h''.get? o=some oo:=(hs''.2 o (Ne.symm hdo)).trans hoo';refine wpAny_bind (wpAny_dictEpoch hoo'' hdo' ?_);rw [if_neg (by simp)];exact wpAny_pure ⟨h'',x+1,rfl,h2,hlt,by rw [mK xs ys x y hy];exact hd'',hoo'',hs'.trans hs''⟩
   ·rw [show eso.size-i=0 by omega] at hr
    exact nomatch hr
  ·rintro b s' ⟨h',i,rfl,hr,hi,hd',hoo',hs'⟩
   have hin:i=eso.size:=by
    by_cases hlt:i<eso.size
    ·rw [show eso.size-i=(eso.size-(i+1))+1 by omega,List.range'_succ] at hr
     exact nomatch hr
    ·omega
   refine wpAny_pure (q h' ?_ hs');rw [hin,szo,take_length] at hd';exact hd'
end
end Dct
namespace Dct
set_option autoImplicit false
open PySem PySem.Spec PyProof.Rows
theorem meets_upd {prog:Program} {w:World} {κ:Type} [DecidableEq κ] (kd:KeyKind prog w κ) (d o:Addr) (hdo:d≠o) (hoS:(o == sysModules)=false) :
  MeetsIn prog w (Builtin.«dict.update» ⟨[.ref d,.ref o],[]⟩) (λ A R s=>A.in1.units<cLine/\∃ xs ys,s.heap.DictOfH (tupleKind kd) d xs/\s.heap.DictOfH (tupleKind kd) o ys/\xs.length+ys.length<=sizeLine/\(xs=[]->(ys.map λ y=>(tupleKind kd).hash y.1).Nodup) /\
   ∀ h',h'.DictOfH (tupleKind kd) d (fold xs ys)->Heap.SameBut d s.heap h'->R (.ok (.ret .none)) { s with heap:=h' }) :=
 .of_wp λ A R s ⟨hu,xs,ys,hd,ho,hz,hh,h⟩=>by
  unfold Builtin.«dict.update»;refine wpAny_bind ?_;unfold Builtin.Dict.selfAndRest;refine wpAny_bind (wpAny_notOrdered_dict hd.typeIs ?_);refine wpAny_pure (show wpAny _ _ (Builtin.Dict.updateFrom "dict.update" d (.ref o) [] .none) _ _ s from ?_);unfold Builtin.Dict.updateFrom;refine wpAny_bind (wpAny_typeOf ho.typeIs ?_);rw [if_neg (by decide)];refine wpAny_bind ?_;unfold Builtin.Dict.merge;refine wpAny_bind ?_;unfold Builtin.Dict.readDirectly;refine wpAny_bind (wpAny_isInstance ho.typeIs isSubtype_dict_dict ?_);simp only [Bool.not_true,Bool.false_eq_true,if_false];refine wpAny_bind (wpAny_specialOf ho.typeIs F.slot_dict_iter.lookup (wpAny_pure ?_));simp only [beq_self_eq_true,if_true];refine wpAny_bind (wpAny_pure (kDC hu hdo hoS hd ho hz hh λ h' hd' hs'=>?_));refine show wpAny _ _ (Builtin.Dict.addKeywords d [] >>= _) _ _ _ from ?_;exact wpAny_bind (wpAny_pure (wpAny_pure ⟨.none,rfl,h h' hd' hs'⟩))
end Dct
namespace L2
open PySem PySem.Spec PyProof.Rows
section
variable {X:Cx} {pins:List (Addr×Obj)} {σ:St} {H:Hp} {s:Shared} {a:Addr} {y v:V} {u r:Value} {o:Option V} {A:Around} {E:Value->Shared->Prop}
theorem kDV {H':Hp} {Q:Unit->Shared->Prop} (hu:A.units<cLine) (I:Inv X pins σ H s) (g:DPut H a y v H') (ry:RelV y u) (rv:RelV v r) (h:∀ s',Inv X pins σ H' s'->Q () s') :
  wpAny (model X.prog X.w) A (dictSet a u r) Q E s:=by
 rcases g with ⟨kvs,k,e,ey,l,eH⟩ | ⟨kvs,k,b,e,ey,eb,l,eH⟩
 ·subst ey eH
  obtain ⟨z,hd,vs,rel,dd⟩:=kNI I.hok e;refine wpAny_dictSet_pairs (hsz:=by rw [<-rel.length];exact z) (kGH ry) dd λ h' dd' hs=>h _ ?_;exact oU I (by rw [e];exact True.intro) hs (let ⟨q,_,_,hq,_⟩:=dd';⟨q,hq⟩) (kLY (by have:=wD kvs k v;omega) hd (rel.put k rv) dd')
 ·subst ey eH
  cases (show u=Value.ref b from ry)
  obtain ⟨z,hd,xs,rel,dd⟩:=kGZ I.hok e;refine wpAny_dictSet_heap (hsz:=by rw [<-Paired.length rel];exact z) hu (tX I.hok eb) dd λ h' dd' hs=>h _ ?_;obtain ⟨q,es,ep,hq,h2,h3,h4,_,h5⟩:=dd';refine oU I (by rw [e];exact True.intro) hs ⟨q,hq⟩ ⟨by have:=wD kvs k v;omega,hd,_,(rel.put k eb rv).keeps λ c ys ec=>?_,q,es,ep,hq,h2,h3,h4,h5⟩;rw [kO (vS ec e (λ z=>nomatch z))];exact ec
end
def kNO (D:Addr) (tk tv:TE):TB:=λ N σ H=>tk σ H λ y H1=>tv σ H1 λ v H2=>∃ H3,DPut H2 D y v H3/\N σ H3
theorem kIL {X:Cx} {kx vx:Expr} {tk tv:TE} {D:Addr} (hu:X.A.units+1<cLine) (hk:PE X kx tk) (hv:PE X vx tv):PBd X (kBF kx vx X.env (.ref D)) (kNO D tk tv):=by
 intro pins s σ H N I h;unfold kBF;refine wpAny_bind (thn (hk pins s σ H _ I h) λ ku s1 ⟨y,H1,I1,r1,q1⟩=>?_);refine wpAny_bind (wpAny_holding (thn (hv pins s1 σ H1 _ I1 q1) λ vu s2 ⟨x,H2,I2,r2,H3,g,q2⟩=>?_));exact wpAny_bind (wpAny_standAt (wpAny_holding (kDV (by omega) I2 g r1 r2 λ s3 I3=>⟨σ,H3,I3,q2⟩)))
section
variable {X:Cx} {tg iter kx vx:Expr} {ifs:List Expr} {sc:Scope} {pos:Pos} {Nc:List Str} {js:List (Option Nat)} {wi:TI}
def kOD (js:List (Option Nat)) (wi:TI) (g:TG) (bd:Addr->TB):TE:=λ σ H Q=>wi σ H λ J H1=>∀ D,H1 D=none->uU J g (bd D) (λ _ H'=>Q (.ref D) H') (uI js σ) (upd H1 D (.dT []))
theorem kIJ {g:TG} {bd:Addr->TB} (hx:X.xe=λ _ _=>False) (hc:X.calm=true) (hi:PI X tg iter wi) (S:CS sc X.env.scope) (cap:bV js Nc X.N sc.names=true)
  (hg:∀ C s₂ H₂ fp pins,PG (cxC X Nc sc C s₂ H₂ fp pins) tg g)
  (hb:∀ C s₂ H₂ fp pins D L,PTl (cxC X Nc sc C s₂ H₂ fp pins) (yI ifs (cxC X Nc sc C s₂ H₂ fp pins).env (kBF kx vx (cxC X Nc sc C s₂ H₂ fp pins).env (.ref D)) L) L (bd D))
  (hs:∀ x,foldedSetIterable iter X.env x=pure x:=by intro _;rfl) :
  PE X (.DictComp kx vx [⟨tg,iter,ifs,0⟩] sc pos) (kOD js wi g bd):=by
 intro pins s σ H Q I h;rw [arm_eval_DictComp];have hcl:closureFor sc X.env=pure (zJ sc X.env):=wA λ y hy hf=>I.ok.has y.1 (.inl (S.free y hy hf));refine wpAny_comprehension_free (use:=none) rfl hs hcl S.kind S.names (thn (hi pins s σ H _ I h) λ v s1 h1=>thn h1 λ itv s2 h2=>?_);obtain ⟨it,fp,tn,J,H2,e,I2,T,st2,f2,hw⟩:=h2;subst e;have hlt:∀ b∈fp,b<s2.heap.objs.size:=λ b hb=>let ⟨o,ho,_⟩:=T.obj _ _ st2 b hb;Heap.lt_size ho;refine wpAny_newObj_type (wpAny_newFunctionEnv S.nocell (by intro y hy;simp at hy) (λ h₁ hns₁ hsb₁=>?_) S.kind);dsimp only at hns₁ hsb₁ ⊢;generalize hH2:s2.heap.push { cls:=.type "dict",dict:=none,data:=.dict #[] }=G at hns₁ hsb₁ ⊢;have hCs:G.objs.size=s2.heap.objs.size+1:=by rw [<-hH2,Heap.size_push]
 have hDC:s2.heap.objs.size≠G.objs.size:=by omega
 have hCle:s2.heap.objs.size<=G.objs.size:=by omega
 have old:∀ b o,s2.heap.get? b=some o->h₁.get? b=some o:=λ b o e=>hsb₁.extBut b o (Nat.ne_of_lt (Nat.lt_of_lt_of_le (Heap.lt_size e) hCle)) (Heap.get?_push_of_some _ (hH2 ▸ Heap.get?_push_of_some _ e));have hacc:h₁.get? s2.heap.objs.size=some { cls:=.type "dict",dict:=none,data:=.dict #[] }:=hsb₁.extBut _ _ hDC (Heap.get?_push_of_some _ (hH2 ▸ Heap.get?_push_size _ rfl))
 have new:ObjOk X.prog X.w (upd H2 s2.heap.objs.size (.dT [])) h₁ s2.heap.objs.size (.dT []):=by
  exact ⟨Nat.zero_le _,beq_eq_false_iff_ne.mpr (Ne.symm (Nat.ne_of_lt I2.big)),[],.nil,_,_,_,hacc,⟨rfl,rfl,rfl⟩,rfl,rfl,nodup_nil⟩
 have I4:=bM (js:=js) (Nc:=Nc) (tk:=s2.toks+([]:List (Str×Value)).length) I2 S f2 hlt cap hCle (Nat.le_refl _) hDC old hns₁ new;have hn:H2 s2.heap.objs.size=none:=I2.fresh
 have f4:∀ b∈fp,zE (cxC X Nc sc G.objs.size s2 H2 fp pins) [] (upd H2 s2.heap.objs.size (.dT [])) b:=λ b hb=>by
  obtain ⟨h0,h1,h2,h3,h4,h5⟩:=f2 b hb;refine ⟨?_,Nat.ne_of_lt (Nat.lt_of_lt_of_le (hlt b hb) hCle),λ z=>?_,.inl hb,λ x c z=>?_,λ p hp=>?_⟩
  ·rw [kO (Nat.ne_of_lt (hlt b hb))];exact h0
  ·rcases mem_cons.mp (I2.stkSub b z) with q | q
   ·exact h1 q
   ·exact h2 q
  ·exact h4 x c (uX sc.names [] (λ z=>nomatch z) z)
  ·rcases mem_append.mp hp with z | z
   ·exact h5 p z
   ·exact absurd z (by simp)
 have st4:tn 0 h₁:=T.keep _ _ _ st2 λ b hb o e=>old b o e
 have loop:codeAny (model X.prog X.w) X.A (.compLoop (.DictComp kx vx [⟨tg,iter,ifs,0⟩] sc pos) 0 (.ref it) (.ref s2.heap.objs.size) (compEnvC sc (zJ sc X.env) G.objs.size X.env))
   (compPost (model X.prog X.w) X.A X.xe none (EP X pins σ Q) (.ref s2.heap.objs.size) G.objs.size) { s2 with heap:=h₁,toks:=s2.toks+([]:List (Str×Value)).length }:=by
  refine zS (X:=cxC X Nc sc G.objs.size s2 H2 fp pins) (.inr ⟨kx,vx,rfl⟩) hx hc (kHO _ _ _ _ _ _ _ _ _ _) T (hg _ _ _ _ _) (hb _ _ _ _ _ _ _) I4 st4 f4 (hw _ hn) λ σ' H' s' I' q=>?_;obtain ⟨m',hm',_⟩:=I'.loc;exact ⟨m',hm',λ h' hs'=>⟨.ref s2.heap.objs.size,H',bN I2 f2 hCle I' hs',rfl,q⟩⟩
 exact yW (.inr ⟨kx,vx,rfl⟩) rfl rfl loop (T.self _ _ _ _ _ st4 loop)
def yE (kvs more:List (List Key×V)):List (List Key×V):=more.foldl (λ acc y=>wS acc y.1 y.2) kvs
theorem KT.fold {H:Hp}:∀ {more:List (List Key×V)} {ys:List (List Key×Addr×Value)} {kvs:List (List Key×V)} {xs:List (List Key×Addr×Value)},KT H kvs xs->KT H more ys->KT H (yE kvs more) (Dct.fold xs ys)
 | [],_,_,_,r,.nil=>r
 | p::more,_,kvs,xs,r,.cons (b:=q) z t=>by
  have:=KT.fold (KT.put r q.1 (b:=q.2.1) (y:=p.2) (u:=q.2.2) (by rw [<-z.1];exact z.2.1) z.2.2) t;rw [<-z.1] at this;unfold yE at *;unfold Dct.fold at *;rw [foldl_cons,foldl_cons,<-z.1];exact this
def kHJ (k:List Key):Prop:=∃ p q:Nat,k=[Sum.inl (p:Int),Sum.inl (q:Int)]/\p<42/\q<42
theorem kJH {prog:Program} {w:World}:∀ {ys:List (List Key×Addr×Value)},(∀ y∈ys,kHJ y.1)->(ys.map (·.1)).Nodup->(ys.map λ y=>(tupleKind (qY prog w)).hash y.1).Nodup:=by
 intro ys hp nd;have:ys.map (λ y=>(tupleKind (qY prog w)).hash y.1)=(ys.map (·.1)).map (tupleKind (qY prog w)).hash:=by rw [map_map];rfl
 rw [this];refine pairwise_map.mpr (nd.imp_of_mem λ {a b} ha hb ne e=>ne ?_);obtain ⟨x,hx,rfl⟩:=mem_map.mp ha;obtain ⟨y,hy,rfl⟩:=mem_map.mp hb;obtain ⟨p,q,e1,p1,q1⟩:=hp x hx;obtain ⟨p',q',e2,p2,q2⟩:=hp y hy;rw [e1,e2] at e ⊢
 have:Hsh.hp p q=Hsh.hp p' q':=by
  unfold Hsh.hp;exact congrArg (λ z:Int=>(z+2 ^ 63).toNat) e
 obtain ⟨rfl,rfl⟩:=Hsh.hp_inj p1 q1 p2 q2 this
 rfl
def kMQ:V->List V->Hp->VK->Prop:=λ x vs H Q=>∃ (a b:Addr) (kvs more:List (List Key×V)),x=.ref a/\vs=[.ref b]/\a≠b/\H a=some (.dT kvs)/\H b=some (.dT more)/\(∀ y∈more,kHJ y.1)/\kvs.length+more.length<=sizeLine/\Q .non (upd H a (.dT (yE kvs more)))
theorem kIU (hu:X.A.units+1<cLine):MtM X "dict.update" kMQ:=by
 intro pins s σ H x vs v us Q I rx rv h;obtain ⟨a,b,kvs,more,rfl,rfl,ab,ha,hb,hp,hz,q⟩:=h;cases rx
 obtain ⟨u,rfl,ru⟩:=rv.one;cases ru
 obtain ⟨za,hda,xs,ra,da⟩:=kGZ I.hok ha;obtain ⟨zb,hdb,ys,rb,db⟩:=kGZ I.hok hb
 have hp':∀ y∈ys,kHJ y.1:=by
  have:∀ {l:List (List Key×V)} {m:List (List Key×Addr×Value)},KT H l m->(∀ y∈l,kHJ y.1)->∀ y∈m,kHJ y.1:=by
   intro l m r
   induction r with
   | nil=>intro _ y hy;exact nomatch hy
   | @cons p1 q1 ps qs z t ih =>
    intro hl y hy;rcases mem_cons.mp hy with rfl | hy
    ·rw [<-z.1]
     exact hl _ (mem_cons_self ..)
    ·exact ih (λ y h=>hl y (mem_cons_of_mem _ h)) y hy
  exact this rb hp
 have nd:(ys.map (·.1)).Nodup:=let ⟨_,_,_,_,_,_,_,_,n⟩:=db;n;have lx:=Paired.length ra;have ly:=Paired.length rb;refine call_meetsIn PySem.F.slot_dict_update da.typeIs PySem.F.entry_dict_update (PySem.F.args_dict_update_2 _ _) (Dct.meets_upd (qY X.prog X.w) a b ab hdb) ⟨tupleKind_room_in1 (knd:=qY X.prog X.w) hu,xs,ys,da,db,by omega,λ _=>kJH hp' nd,λ h' dd' hs=>?_⟩;obtain ⟨qo,es,ep,hq,h2,h3,h4,_,h5⟩:=dd';have lf:=Paired.length (KT.fold ra rb);have lz:=Dct.fold_len xs ys;refine ⟨.non,upd H a (.dT (yE kvs more)),oU (t':=s.toks) I (by rw [ha];exact True.intro) hs ⟨qo,hq⟩ ⟨by omega,hda,_,(KT.fold ra rb).keeps λ c zs ec=>?_,qo,es,ep,hq,h2,h3,h4,h5⟩,rfl,q⟩;rw [kO (vS ec ha (λ z=>nomatch z))];exact ec
end
section
variable {X:Cx}
end
section
variable {X:Cx}
end
section
variable {prog:Program} {w:World} {A:Around} {E:Value->Shared->Prop} {s:Shared} {z TI TO i1 i2:Addr} {fp1 fp2:List Addr} {n1 n2 j:Nat} {P1 P2:Nat->Value->Prop} {S1 S2:Nat->Heap->Prop} {a b:Value}
theorem kBV {Q:PySem.Fin->Shared->Prop} (D1:Draws prog w A i1 fp1 n1 P1 S1) (D2:Draws prog w A i2 fp2 n2 P2 S2) (ap:ZAp z TI TO i1 i2 fp1 fp2)
  (hz:IsZip s.heap z TI TO .none) (hTI:IsPair s.heap TI (.ref i1) (.ref i2)) (hTO:IsPair s.heap TO a b) (h1:S1 n2 s.heap) (h2:S2 n2 s.heap) (l1:n2<n1)
  (hE:∀ h' e tk,(∀ c o,c≠z->c≠TO->c≠i1->c≠i2->s.heap.get? c=some o->h'.get? c=some o)->(∃ o,h'.get? e=some o/\o.cls=.type "StopIteration")->E (.ref e) { s with heap:=h',toks:=tk }) :
  wpAny (model prog w) A (Builtin.«zip.__next__» ⟨[.ref z],[]⟩) Q E s:=by
 have fr1:∀ {i:Nat} {h h':Heap} {c:Addr},S1 i h->Heap.SameBut c h h'->c∉fp1->S1 i h':=λ st sb hc=>D1.frame _ _ _ st λ b hb o e=>sb.extBut b o (λ q=>hc (q ▸ hb)) e;have fr2:∀ {i:Nat} {h h':Heap} {c:Addr},S2 i h->Heap.SameBut c h h'->c∉fp2->S2 i h':=λ st sb hc=>D2.frame _ _ _ st λ b hb o e=>sb.extBut b o (λ q=>hc (q ▸ hb)) e;show wpAny _ _ (field (.ref z) 2 >>= _) _ _ _;refine wpAny_bind (wpAny_field hz rfl (x:=.bool false) rfl ?_);show wpAny _ _ (field (.ref z) 3 >>= _) _ _ _;refine wpAny_bind (wpAny_field hz rfl (x:=.ref TI) rfl ?_);refine wpAny_bind (wpAny_seqItems hTI rfl ?_);show wpAny _ _ (Builtin.SmallTypes.ownedTupleIsFree (.ref z) >>= _) _ _ _;refine wpAny_bind ?_;unfold Builtin.SmallTypes.ownedTupleIsFree;refine wpAny_bind (wpAny_field hz rfl (x:=.none) rfl (wpAny_pure ?_));simp only [if_true];refine wpAny_bind (wpAny_rule ?_);refine wpAny_bind (wpAny_field hz rfl (x:=.ref TO) rfl ?_);refine wpAny_bind (wpAny_setField_rec hz (by simp) λ g1 z1 s1=>?_)
 replace z1:IsZip g1 z TI TO .ellipsis:=z1
 refine wpAny_bind ?_
 simp only [List.zipIdx_cons,List.zipIdx_nil,List.forIn_cons,List.forIn_nil]
 refine wpAny_bind (wpAny_bind (wpAny_onRaise ?_));show wpAny _ _ (Builtin.SmallTypes.nextOf (.ref i1) >>= _) _ _ _;refine wpAny_bind (D1.item n2 _ _ _ l1 (fr1 h1 s1 ap.z1) λ x g2 tk2 px st2 s2=>wpAny_pure ?_);have o2:IsPair g2 TO a b:=s2.extBut _ _ ap.TOi1 (s1.extBut _ _ ap.zTO.symm hTO);refine wpAny_bind (wpAny_seqItems o2 rfl ?_);refine wpAny_bind (wpAny_updateSeq_pair o2 λ g3 o3 s3=>?_)
 replace o3:IsPair g3 TO x b:=o3
 refine wpAny_bind (wpAny_letGo (wpAny_pure ?_));refine wpAny_bind (wpAny_bind (wpAny_onRaise ?_));show wpAny _ _ (Builtin.SmallTypes.nextOf (.ref i2) >>= _) _ _ _;refine wpAny_bind (D2.done _ _ _ (fr2 (fr2 (fr2 h2 s1 ap.z2) s2 ap.i1f) s3 ap.t2) λ g4 e s4 he=>?_);obtain ⟨oe,hoe,hce⟩:=he;have z3:IsZip g3 z TI TO .ellipsis:=s3.extBut _ _ ap.zTO (s2.extBut _ _ ap.zi1 z1);have z4:IsZip g4 z TI TO .ellipsis:=s4 _ _ ap.zi2 z3;have ez:e≠z:=λ q=>by subst q;rw [z4] at hoe;cases hoe;simp at hce
 exact wpAny_setField_rec z4 (by simp) λ g5 _ s5=>hE g5 e _ (λ c o c1 c2 c3 c4 q=>s5.extBut _ _ c1 (s4 _ _ c4 (s3.extBut _ _ c2 (s2.extBut _ _ c3 (s1.extBut _ _ c1 q))))) ⟨oe,s5.extBut _ _ ez hoe,hce⟩
end
def kMD (k1 k2 : Bool) (K : PySem.W.Frag) (a b : Addr) : It :=
  ⟨λ i H => ∃ xs ys x y, SqX K k1 H a xs /\ SqX K k2 H b ys /\ xs[i]? = some x /\ ys[i]? = some y,
   λ i H v H' => ∃ T x y, H T = none /\ v = .ref T /\ (∀ xs, SqX K k1 H a xs -> xs[i]? = some x) /\ (∀ ys, SqX K k2 H b ys -> ys[i]? = some y) /\ H' = upd H T (.tup [x, y]),
   λ i H => ∃ xs ys x, SqX K k1 H a xs /\ SqX K k2 H b ys /\ xs[i]? = some x /\ ys.length = i⟩
theorem kCC {P:Program} {w:World} {K:PySem.W.Frag} {elts:List Expr} {x1} {pos:Pos} (k1 k2:Bool) (a b z TI TO i1 i2:Addr) (ap:ZAp z TI TO i1 i2 [i1,a] [i2,b]) :
  Turn P w K (.Tuple elts x1 pos) (kMD k1 k2 K a b) [z,TO,i1,i2,TI] z
   (λ i h=>IsZip h z TI TO .none/\IsPair h TI (.ref i1) (.ref i2)/\(∃ u v,IsPair h TO u v)/\ItOf k1 h i1 a i/\ItOf k2 h i2 b i) where
 mem:=by simp
 obj:=λ i h st c hc=>by
  obtain ⟨hz,hTI,⟨u,v,hTO⟩,h1,h2⟩:=st;simp only [mem_cons,not_mem_nil,or_false] at hc;rcases hc with rfl | rfl | rfl | rfl | rfl
  ·exact ⟨_,hz,λ v q=>by cases q⟩
  ·exact ⟨_,hTO,λ v q=>by cases q⟩
  ·exact h1.live
  ·exact h2.live
  ·exact ⟨_,hTI,λ v q=>by cases q⟩
 keep:=λ i h h' st kk=>by
  obtain ⟨hz,hTI,⟨u,v,hTO⟩,h1,h2⟩:=st;exact ⟨kk z (by simp) _ hz,kk TI (by simp) _ hTI,⟨u,v,kk TO (by simp) _ hTO⟩,h1.at λ o q=>kk i1 (by simp) o q,h2.at λ o q=>kk i2 (by simp) o q⟩
 item:=by
  intro X hP hw hK hc i pins s σ H E I hf st hg;subst hP hw hK;obtain ⟨hz,hTI,⟨u0,v0,hTO⟩,h1,h2⟩:=st;obtain ⟨xs,ys,x,y,hq1,hq2,hx,hy⟩:=hg;obtain ⟨its1,rv1,p1⟩:=I.sq hq1;obtain ⟨its2,rv2,p2⟩:=I.sq hq2;obtain ⟨u,hu,ru⟩:=rv1.get hx;obtain ⟨v,hv,rv⟩:=rv2.get hy;have D1:=vA (prog:=X.prog) (w:=X.w) (A:=X.A.in1) (I.ok.hd hc) k1 i1 a (lM p1 h1) its1.toArray;have D2:=vA (prog:=X.prog) (w:=X.w) (A:=X.A.in1) (I.ok.hd hc) k2 i2 b (lM p2 h2) its2.toArray;have hlt1:i<its1.toArray.size:=by simpa using (List.getElem?_eq_some_iff.mp hu).1
  have hlt2:i<its2.toArray.size:=by simpa using (List.getElem?_eq_some_iff.mp hv).1
  have hT:s.TypeIs (.ref z) "zip":=⟨_,hz,rfl⟩;unfold pyNext
  refine wpAny_bind (wpAny_attempt (wpAny_callSpecial?_slot (name:=Str.ofString "__next__") hT F.slot_zip_next (wpAny_call_entry F.slot_zip_next hT F.entry_zip_next
   (kBU D1 D2 ap hz hTI hTO ⟨h1,p1⟩ ⟨h2,p2⟩ hlt1 hlt2 λ u' v' h' tk hu' hv' z' o' s1' s2' t' hk=>wpAny_pure ?_) (F.args_zip_next_1 _))))
  have eu:u'=u:=by
   have q:its1[i]?=some u':=by simpa using hu'
   rw [hu] at q;exact (Option.some.inj q).symm
  have ev:v'=v:=by
   have q:its2[i]?=some v':=by simpa using hv'
   rw [hv] at q;exact (Option.some.inj q).symm
  subst eu ev;refine ⟨_,rfl,wpAny_letOwnedTupleGo_zip z' λ g hz2 hs2=>?_⟩;have zlt:z<s.heap.objs.size:=Heap.lt_size hz;have TOlt:TO<s.heap.objs.size:=Heap.lt_size hTO;have i1lt:i1<s.heap.objs.size:=let ⟨_,e,_⟩:=h1.live;Heap.lt_size e;have i2lt:i2<s.heap.objs.size:=let ⟨_,e,_⟩:=h2.live;Heap.lt_size e;have TIlt:TI<s.heap.objs.size:=Heap.lt_size hTI;have hT2:g.get? s.heap.objs.size=some { cls:=.type "tuple",data:=.seq #[u',v'] }:=hs2.extBut _ _ (Nat.ne_of_gt zlt) t'
  obtain ⟨I2,n2⟩:=I.handed (t':=tk) (ch:=[z,TO,i1,i2]) ru rv hT2 (λ c o hc' q=>hs2.extBut c o (λ e=>hc' (by simp [e])) (hk c o (λ e=>hc' (by simp [e])) (λ e=>hc' (by simp [e])) (λ e=>hc' (by simp [e])) (λ e=>hc' (by simp [e])) q))
   (λ c hc'=>hf c (by simp at hc' ⊢;rcases hc' with e | e | e | e<;>simp [e]))
   (λ c hc'=>by simp at hc';rcases hc' with rfl | rfl | rfl | rfl<;>assumption)
  refine ⟨.ref s.heap.objs.size,_,I2,rfl,⟨_,x,y,I.hok.fresh (Nat.le_refl _),rfl,(λ xs' hxs=>by rw [I.sq_inj hxs hq1];exact hx),(λ ys' hys=>by rw [I.sq_inj hys hq2];exact hy),rfl⟩,?_,λ c hc'=>?_⟩
  ·exact ⟨hz2,hs2.extBut _ _ ap.zTI.symm (hk _ _ ap.zTI.symm ap.TITO ap.TIi1 ap.TIi2 hTI),⟨_,_,hs2.extBut _ _ ap.zTO.symm o'⟩,s1'.1.at λ o q=>hs2.extBut i1 o ap.zi1.symm q,s2'.1.at λ o q=>hs2.extBut i2 o ap.zi2.symm q⟩
  ·by_cases e:c=TI
   ·subst e
    rw [kO (Nat.ne_of_lt TIlt)];exact (hf c (by simp)).1
   ·exact n2 c (by simp at hc' ⊢;rcases hc' with q | q | q | q | q<;>simp_all)
 done:=by
  intro X hP hw hK hc i pins s σ H E I hf st hg;subst hP hw hK;obtain ⟨hz,hTI,⟨u0,v0,hTO⟩,h1,h2⟩:=st;obtain ⟨xs,ys,x,hq1,hq2,hx,hy⟩:=hg;obtain ⟨its1,rv1,p1⟩:=I.sq hq1;obtain ⟨its2,rv2,p2⟩:=I.sq hq2;obtain ⟨u,hu,ru⟩:=rv1.get hx;have D1:=vA (prog:=X.prog) (w:=X.w) (A:=X.A.in1) (I.ok.hd hc) k1 i1 a (lM p1 h1) its1.toArray;have D2:=vA (prog:=X.prog) (w:=X.w) (A:=X.A.in1) (I.ok.hd hc) k2 i2 b (lM p2 h2) its2.toArray;have hl:its2.toArray.size=i:=by rw [<-hy,rv2.length];simp
  have hlt1:i<its1.toArray.size:=by simpa using (List.getElem?_eq_some_iff.mp hu).1
  have hT:s.TypeIs (.ref z) "zip":=⟨_,hz,rfl⟩;unfold pyNext
  refine wpAny_bind (wpAny_attempt (wpAny_callSpecial?_slot (name:=Str.ofString "__next__") hT F.slot_zip_next (wpAny_call_entry F.slot_zip_next hT F.entry_zip_next
   (kBV D1 D2 ap hz hTI hTO ⟨hl ▸ h1,p1⟩ ⟨hl ▸ h2,p2⟩ (by omega) λ h' e tk hk he=>?_) (F.args_zip_next_1 _))))
  obtain ⟨o,ho,hcl⟩:=he;refine wpAny_bind (wpAny_isInstance (T:="StopIteration") (b:=true) ⟨o,ho,hcl⟩ isSubtype_stop ?_)
  refine wpAny_pure ⟨rfl,I.turnedL (t':=tk) (ch:=[z,TO,i1,i2]) (λ c o hc' q=>hk c o (λ e=>hc' (by simp [e])) (λ e=>hc' (by simp [e])) (λ e=>hc' (by simp [e])) (λ e=>hc' (by simp [e])) q)
   (λ c hc'=>hf c (by simp at hc' ⊢;rcases hc' with e | e | e | e<;>simp [e]))⟩
 self:=λ _ _ _ _ _ st h=>wpAny_pyIter_zip st.1 h
section
variable {X:Cx}
def kNA (k1 k2:Bool) (K:PySem.W.Frag) (ta:TA):TI:=λ σ H R=>ta σ H λ vs H1=>∃ a b,vs=[.ref a,.ref b]/\(∃ xs,SqX K k1 H1 a xs)/\(∃ ys,SqX K k2 H1 b ys)/\R (kMD k1 k2 K a b) H1
theorem kIG (k1 k2:Bool) {a b:Expr} {ta:TA} {p pos tpos:Pos} {elts:List Expr} {x1} (hg:Gl X "zip") (hm:X.mg "zip" = none) (ha:PA X [a,b] ta) (hs:starEach [a,b] X.env=[(false,eval a X.env),(false,eval b X.env)]:=by rfl) (hs2:starEach [b] X.env=[(false,eval b X.env)]:=by rfl) :
  PI X (.Tuple elts x1 tpos) (.Call (.Name "zip" p) [a,b] [] pos) (kNA k1 k2 X.K ta):=by
 intro pins s σ H R I h;refine Call_ (vK I hg hm boot_zip (PyProof.Rows.callWith_type1 (thn (ha pos pins s σ H _ I h) λ us s1 ⟨vs,H1,I1,r1,q1⟩=>?_) (by rw [hs,hs2]) (by rw [hs2];rfl)));obtain ⟨l1,l2,rfl,⟨xs,hq1⟩,⟨ys,hq2⟩,q⟩:=q1;obtain ⟨u,v,rfl,r,r'⟩:=pK r1;cases r
 cases r'
 obtain ⟨its1,rv1,p1⟩:=I1.sq hq1;obtain ⟨its2,rv2,p2⟩:=I1.sq hq2;have lt1:=p1.lt;have lt2:=p2.lt;refine sE p1 p2 λ h' hz hTI hTO h1 h2 hk=>?_;refine wpAny_pyIter_zip (s:={ s1 with heap:=h' }) hz ?_
 have f:∀ c,s1.heap.objs.size<=c->zE X pins H1 c:=λ c hc=>I1.fpOk hc (I1.hok.fresh hc)
 refine ⟨_,[s1.heap.objs.size+4,s1.heap.objs.size+3,s1.heap.objs.size,s1.heap.objs.size+1,s1.heap.objs.size+2],_,_,H1,rfl,I1.kept (t':=s1.toks) hk,
  kCC k1 k2 l1 l2 _ _ _ _ _ (zap _ _ _ lt1 lt2),⟨hz,hTI,⟨_,_,hTO⟩,h1,h2⟩,λ c hc=>?_,q⟩
 simp at hc;rcases hc with rfl | rfl | rfl | rfl | rfl<;>exact f _ (by omega)
end
end L2
namespace HT
open PySem PySem.Spec PyProof.Rows
section
variable {prog:Program} {w:World} {A:Around} {E:Value->Shared->Prop} {s:Shared}
theorem cat_tup0 {t b:Addr} {ws:List Value} {Q:Value->Shared->Prop} (ht:IsTup s.heap t ([]:List Value).toArray) (hb:IsTup s.heap b ws.toArray) (h:Q (.ref b) s):wpAny (model prog w) A (binaryOp .Add (.ref t) (.ref b)) Q E s:=by
 obtain ⟨⟨cls,dd,data,sl⟩,ho,hc,n,hd⟩:=id ht;obtain ⟨⟨cls2,dd2,data2,sl2⟩,ho2,hc2,n2,hd2⟩:=id hb;simp only at hc hd hc2 hd2;subst hc hd hc2 hd2
 exact concat_meets ⟨_,ho,rfl⟩ ⟨_,ho2,rfl⟩ noFill_tuple_add seq_tuple_add PySem.F.slot_tuple_add PySem.F.entry_tuple_add (PySem.F.args_tuple_add_2 _ _)
   (tuple_addW0 t b _ ws.toArray n n2 dd dd2 sl sl2 (by simp)) ⟨ho,ho2,h⟩
theorem kGR {α:Type}:∀ ys:List α,(List.range ys.length).filterMap (λ (k:Nat)=>ys[k]?)=ys
 | []=>rfl
 | y::ys=>by
  rw [length_cons,List.range_succ_eq_map,filterMap_cons];show y::((List.range ys.length).map Nat.succ).filterMap (λ (k:Nat)=>(y::ys)[k]?)=y::ys;rw [List.filterMap_map];exact congrArg (y::·) (kGR ys)
theorem gR {α β:Type} {f g:α->Option β}:∀ l:List α,(∀ x∈l,f x=g x)->l.filterMap f=l.filterMap g
 | [],_=>rfl
 | x::l,h=>by rw [filterMap_cons,filterMap_cons,h x (by simp),gR l λ y hy=>h y (by simp [hy])]
theorem kFE {α:Type} (xs:List α):(List.range xs.length).filterMap (λ (k:Nat)=>xs[(((xs.length:Int)-1)+(k:Int)*(-1)).toNat]?)=xs.reverse:=by
 have h:=kGR xs.reverse;rw [length_reverse] at h;rw [<-h];refine gR _ λ k hk=>?_;have hk:=mem_range.mp hk;rw [List.getElem?_reverse hk]
 congr 1
 omega
end
end HT
namespace L2
open PySem PySem.Spec PyProof.Rows
def kME (H H':Hp):Prop:=∀ b o,H b=some o->H' b=some o
section
variable {X:Cx}
theorem rO {H:Hp} {p:Addr} (h:H p=none) (o:HO):kME H (upd H p o):=λ b u q=>by rw [kO (kH q h)];exact q
def kOE (K:PySem.W.Frag):V->Option Int->Option Int->Hp->VK->Prop:=λ x lo hi H Q=>∃ a xs,x=.ref a/\H a=some (.tup xs)/\∀ p H',kME H H'->H' p=some (.tup (jO xs lo hi))->Q (.ref p) H'
theorem kHU:SlR X (kOE X.K):=by
 intro pins s σ H x v vl vu lo hi sl Q I rx hs pl pu h;obtain ⟨a,xs,rfl,hx,q⟩:=h;refine nK pins s σ H _ v vl vu lo hi sl Q I rx hs pl pu ?_;by_cases c:HT.sIx xs.length 0 lo=0/\HT.sIx xs.length xs.length hi=xs.length
 ·refine .inr ⟨a,xs,rfl,SqT.of hx,c,q a H (λ _ _ e=>e) ?_⟩
  rw [hx];unfold jO;rw [c.1,c.2];simp
 ·exact .inl ⟨a,xs,rfl,SqT.of hx,c,λ p np=>q p _ (rO np _) kC⟩
def kMU (K:PySem.W.Frag):R2:=λ x y H Q=>∃ a b xs ys,x=.ref a/\y=.ref b/\H a=some (.tup xs)/\H b=some (.tup ys)/\xs.length+ys.length<=sizeLine/\∀ p H',kME H H'->H' p=some (.tup (xs++ys))->Q (.ref p) H'
theorem kIN:OpR X (binaryOp .Add) (kMU X.K):=by
 intro pins s σ H x y v u Q I rx ry h;obtain ⟨a,b,xs,ys,rfl,rfl,ha,hb,hz,q⟩:=h;by_cases c:xs=[]
 ·subst c
  cases rx
  cases ry
  obtain ⟨its,r1,p1,_⟩:=I.tuple (SqT.of (K:=X.K) ha);obtain ⟨its2,r2,p2,_⟩:=I.tuple (SqT.of (K:=X.K) hb);cases r1
  exact HT.cat_tup0 p1 p2 ⟨.ref b,H,I,rfl,q b H (λ _ _ e=>e) (by simpa using hb)⟩
 ·refine kAS pins s σ H _ _ v u Q I rx ry ⟨a,b,xs,ys,rfl,rfl,SqT.of ha,SqT.of hb,c,hz,λ e=>q a H (λ _ _ z=>z) (by rw [e,append_nil];exact ha),λ _ p np=>q p _ (rO np _) kC⟩
end
theorem kBZ {k:Bool} {K:PySem.W.Frag} {a:Addr} {xs:List V} {g:TG} {b:TB} {N0:St->Hp->Prop} {σ:St} {H:Hp} (Pv:Nat->St->Hp->Prop) (h0:Pv 0 σ H) (hl:∀ i σ H,i<=xs.length->Pv i σ H->SqX K k H a xs)
  (hs:∀ i x T σ H,xs[i]?=some x->H T=none->Pv i σ H->g (.ref T) σ (upd H T (.tup [.int i,x])) λ σ2 H2=>b (Pv (i+1)) σ2 H2) (hd:∀ σ H,Pv xs.length σ H->N0 σ H):uU (Ite k K a) g b N0 σ H:=by
 refine ⟨λ i m σ H=>m=xs.length-i/\i<=xs.length/\Pv i σ H,⟨xs.length,by simp,Nat.zero_le _,h0⟩,?_⟩;rintro i m σ H ⟨rfl,hle,p⟩;have q1:=hl i σ H hle p;rcases Nat.lt_or_ge i xs.length with hi | hi
 ·refine .inr ⟨⟨xs,xs[i],q1,by simp [hi]⟩,Pv (i+1),λ σ' H' q=>⟨xs.length-(i+1),by omega,rfl,by omega,q⟩,λ x H' hy=>?_⟩
  obtain ⟨T,x1,nT,rfl,e1,rfl⟩:=hy;exact hs i x1 T σ H (e1 xs q1) nT p
 ·obtain rfl:i=xs.length:=by omega
  exact .inl ⟨⟨xs,q1,rfl⟩,hd σ H p⟩
section
variable {X:Cx}
theorem rM {M:Model} {A:Around} {E:Value->Shared->Prop} {s:Shared} {a b:Bool} {Q:Value->Shared->Prop} (h:Q (.bool (!(a == b))) s):wpAny M A (compareOp .IsNot (.bool a) (.bool b)) Q E s:=by
 cases a<;>cases b<;>exact wpAny_pure h
theorem kCX:OpR X (compareOp .IsNot) (λ x y H Q=>∃ a b:Bool,x=.bl a/\y=.bl b/\Q (.bl (!(a == b))) H):=by
 intro pins s σ H x y v u Q I rx ry h;obtain ⟨a,b,rfl,rfl,q⟩:=h;cases rx
 cases ry
 exact rM (qN I q rfl)
end
end L2
namespace SetI
open PySem L2 PyProof.Rows PySem.Spec
section
variable {prog:Program} {w:World} {A:Around} {E:Value->Shared->Prop} {s:Shared}
end
end SetI
namespace L2
open PySem PySem.Spec PyProof.Rows
section
variable {X:Cx}
end
end L2
namespace HT
open PySem PySem.Spec PyProof.Rows
section
variable {prog:Program} {w:World} {A:Around} {E:Value->Shared->Prop} {s:Shared}
end
end HT
namespace L2
open PySem PySem.Spec PyProof.Rows
section
variable {X:Cx}
def wW (n:Nat):List V:=(List.range n).map λ (i:Nat)=>V.int (i:Int)
theorem kEF {n:Nat} {acc:Array Value} (h:ItemsOf (λ i v=>∃ t,v=.int ((0:Int)+i*1) t) acc n):Vals (wW n) acc.toList:=by
 obtain ⟨h1,h2⟩:=h
 have:∀ (m:Nat) (l:List Value) (k:Nat),l.length=m->(∀ (j:Nat) (v:Value),l[j]?=some v->∃ t,v=Value.int (((k+j:Nat):Int)) t)->Vals ((List.range' k m).map λ (i:Nat)=>V.int (i:Int)) l:=λ m=>by
  induction m with
  | zero=>intro l k hl _;rw [length_eq_zero_iff.mp hl];exact .nil
  | succ m ih =>
   intro l k hl hv
   match l,hl with
   | x::l,hl =>
    rw [List.range'_succ,map_cons];refine .cons ?_ (ih l (k+1) (by simpa using hl) λ j v e=>?_)
    ·obtain ⟨t,rfl⟩:=hv 0 x rfl
     exact ⟨t,by simp⟩
    ·obtain ⟨t,rfl⟩:=hv (j+1) v (by simpa using e)
     exact ⟨t,by congr 1;omega⟩
 unfold wW;rw [List.range_eq_range'];refine this n acc.toList 0 (by simpa using h1) λ j v e=>?_;obtain ⟨t,rfl⟩:=h2 j v (by simpa using e);exact ⟨t,by simp⟩
def kNW (tp:Bool) (ta:TA):TE:=λ σ H Q=>ta σ H λ vs H1=>∃ n:Nat,vs=[.int (n:Int)]/\n<=1000/\∀ l,H1 l=none->Q (.ref l) (upd H1 l (if tp then .tup (wW n) else .lst (wW n)))
theorem kAO {a:Expr} {ta:TA} {p p2 pos pos2:Pos} (hc:X.calm=true) (hg:Gl X "list") (hm:X.mg "list" = none) (hg2:Gl X "range") (hm2:X.mg "range" = none) (ha:PA X [a] ta) (hs:starEach [a] X.env=[(false,eval a X.env)]:=by rfl)
  (hs2:starEach [.Call (.Name "range" p2) [a] [] pos2] X.env=[(false,eval (.Call (.Name "range" p2) [a] [] pos2) X.env)]:=by rfl):PE X (.Call (.Name "list" p) [.Call (.Name "range" p2) [a] [] pos2] [] pos) (kNW false ta):=by
 intro pins s σ H Q I h;refine Call_ (vK I hg hm boot_list (PyProof.Rows.callWith_type1 ?_ hs2 rfl));refine PyProof.Rows.args_cons (Call_ (vK I hg2 hm2 boot_range (PyProof.Rows.callWith_type1 (thn (ha pos2 pins s σ H _ I h) λ us s1 ⟨vs,H1,I1,r1,q1⟩=>?_) hs rfl)));obtain ⟨n,rfl,hn,q⟩:=q1;obtain ⟨u,rfl,t,rfl⟩:=uS r1;refine call_range_1 ?_;refine PyProof.Rows.args_nil ?_;have I2:Inv X pins σ H1 { s1 with heap:=s1.heap.push { cls:=.type "range",data:=.fields #[.int 0 s1.toks,.int n t,.int 1 (s1.toks+1)] },toks:=s1.toks+1+1 }:=I1.kept λ b o e=>Heap.get?_push_of_some _ e
 refine call_list_range (n:=n) (I1.ok.hd hc) (IsRange.new ..) (small_one (by omega) (by omega) (by omega) (by omega)) (by rw [rangeSize_one];split<;>omega) (by omega) λ h' tk acc c' hk hl hacc=>?_;have I4:=I2.laid (t':=tk) (o:=.lst (wW n)) hk (Nat.le_refl _) (show ObjOk X.prog X.w _ _ _ (.lst (wW n)) from ⟨by unfold wW;rw [length_map,length_range];exact Nat.le_trans hn (by decide),acc.toList,_,kEF hacc,by simpa using hl⟩);exact ⟨.ref _,_,I4,rfl,q _ (I2.hok.fresh (Nat.le_refl _))⟩
end
end L2
namespace Tri
open Cyc Rnd
theorem aO {W:Rows} (G:Good W):(∀ t∈kS W,(nxt W (nxt W t)).2=t.1)/\(kS W).length+12=6*W.length:=by
 have S:=(Wb.of G).toNb;refine ⟨λ t ht=>?_,by rw [yY];exact G.tot⟩;obtain ⟨x,y⟩:=t;obtain ⟨z,r,en,_⟩:=cB S (mem_steps.mp ht);rw [en];exact kFW G.nd (G.tri _ _ _ r)
theorem kHS {W:Rows} {top ahead st:List Nat} {pl:Nat} (h:stF W top ahead pl=some st) :
  ∃ B f M l C,st=f::M++[l]/\top=B++(f::M++[l])++C/\(∀ q∈st,q∈ahead/\q∈W.getD pl [])/\∀ t∈st.zip st.tail,(nxt W t).2=pl:=by
 unfold stF at h;dsimp only at h;by_cases c1:(top.filter λ q=>decide (q∈ahead.filter λ q=>decide (q∈W.getD pl []))).length<2\/(top.filter λ q=>decide (q∈ahead.filter λ q=>decide (q∈W.getD pl []))).length≠(ahead.filter λ q=>decide (q∈W.getD pl [])).length
 ·rw [if_pos c1] at h
  cases h
 rw [if_neg c1] at h
 split at h
 ·cases h
 rename_i c2
 split at h
 ·rename_i c3
  have h:=Option.some.inj h;have c2:=Decidable.not_not.mp c2;rw [h] at c1 c2 c3
  have mem:∀ q∈st,q∈ahead/\q∈W.getD pl []:=λ q hq=>by
   rw [<-h] at hq;have:=of_decide_eq_true (mem_filter.mp hq).2;exact ⟨(mem_filter.mp this).1,of_decide_eq_true (mem_filter.mp this).2⟩
  have len:2<=st.length:=by omega
  obtain ⟨f,r,e1⟩ : ∃ a r,st=a::r:=by
   match st,len with
   | a::r,_=>exact ⟨a,r,rfl⟩
  have rn:r≠[]:=λ z=>by rw [e1,z] at len;simp at len
  refine ⟨top.take (top.idxOf (st.headD 0)),f,r.dropLast,r.getLast rn,(top.drop (top.idxOf (st.headD 0))).drop st.length,?_,?_,mem,λ t ht=>of_decide_eq_true (all_eq_true.mp c3 t ht)⟩
  ·rw [e1,cons_append,dropLast_concat_getLast rn]
  ·rw [cons_append,dropLast_concat_getLast rn,<-e1]
   have e2:top.drop (top.idxOf (st.headD 0))=st++(top.drop (top.idxOf (st.headD 0))).drop st.length:=by
    conv=>lhs;rw [<-take_append_drop st.length (top.drop (top.idxOf (st.headD 0))),c2]
   rw [append_assoc,<-e2,take_append_drop]
 ·cases h
theorem gM {B:List Nat} {x:Nat} {C:List Nat} (h:x∉B):(B++x::C).idxOf x=B.length:=by
 have:=kBA (m:=id) (B:=B) (x:=x) (C:=C) λ b hb e=>h (by rw [<-(show b=x from e)];exact hb);simpa using this
theorem kAM {top B M C:List Nat} {f l pl:Nat} (e:top=B++(f::M++[l])++C) (nd:top.Nodup):poF top (f::M++[l]) pl=B++[f,pl,l]++C:=by
 subst e;have d1:=nodup_append.mp nd;have d2:=nodup_append.mp d1.1;have d3:=nodup_append.mp d2.2.1;have fB:f∉B:=λ h=>d2.2.2 f h f (by simp) rfl
 have lB:l∉B++(f::M):=λ h=>by
  rcases mem_append.mp h with z | z
  ·exact d2.2.2 l z l (by simp) rfl
  ·exact d3.2.2 l z l (by simp) rfl
 have e1:B++(f::M++[l])++C=B++f::(M++[l]++C):=by simp
 have e2:B++(f::M++[l])++C=(B++f::M)++l::C:=by simp
 have i1:(B++(f::M++[l])++C).idxOf f=B.length:=by rw [e1];exact gM fB
 have i2:(B++(f::M++[l])++C).idxOf l=(B++f::M).length:=by rw [e2];exact gM lB
 unfold poF;have gl:(f::M++[l]).getLastD 0=l:=by rw [getLastD_eq_getLast?,List.getLast?_append];rfl
 rw [show (f::M++[l]).headD 0=f from rfl,gl,i1,i2]
 have t1:(B++(f::M++[l])++C).take (B.length+1)=B++[f]:=by
  rw [e1,show B++f::(M++[l]++C)=(B++[f])++(M++[l]++C) by simp,take_left' (by simp)]
 have t2:(B++(f::M++[l])++C).drop (B++f::M).length=l::C:=by rw [e2,drop_left' rfl]
 rw [t1,t2];simp
structure Top (W:Rows) (some top:List Nat):Prop where
 nd:top.Nodup
 sub:∀ x∈top,x∈some
 path:∀ x y,Adj top x y->E W x y
theorem Top.step {W:Rows} {ahead top st:List Nat} {pl:Nat} (T:Top W ahead top) (sym:∀ a b,E W a b->E W b a) (np:pl∉ahead) (h:stF W top ahead pl=some st) :
  Top W (ahead++[pl]) (poF top st pl)/\(∀ x∈st,x∈top)/\st≠[]/\∀ t∈st.zip st.tail,E W t.1 t.2:=by
 obtain ⟨B,f,M,l,C,rfl,et,mem,nx⟩:=kHS h;have nd:=T.nd;rw [kAM et nd];have path:=T.path;have sub:=T.sub;rw [et] at nd path sub
 have E':∀ q,q∈f::M++[l]->E W pl q:=λ q hq=>by
  have:=(mem q hq).2;rw [getD_eq_getElem?_getD] at this
  cases e:W[pl]? with
  | none=>rw [e] at this;cases this
  | some row=>rw [e] at this;exact ⟨row,e,this⟩
 have d1:=nodup_append.mp nd;have d2:=nodup_append.mp d1.1;have d3:=nodup_append.mp d2.2.1;have all:∀ x∈B++(f::M++[l])++C,x≠pl:=λ x hx e=>np (by rw [<-e];exact sub x hx);refine ⟨⟨?_,λ x hx=>?_,λ x y ad=>?_⟩,λ x hx=>by rw [et];exact mem_append_left _ (mem_append_right _ hx),by simp,λ t ht=>?_⟩
 ·have fl:f≠l:=d3.2.2 f (by simp) l (by simp)
  have h1:B.Nodup:=d2.1;have h2:C.Nodup:=d1.2.1;refine nodup_append.mpr ⟨nodup_append.mpr ⟨h1,?_,λ x hx y hy=>?_⟩,h2,λ x hx y hy=>?_⟩
  ·have a:=all f (by simp)
   have b:=all l (by simp);simp [a,fl,b.symm]
  ·simp only [mem_cons,not_mem_nil,or_false] at hy
   rcases hy with rfl | rfl | rfl
   ·exact d2.2.2 x hx _ (by simp)
   ·exact all x (by simp [hx])
   ·exact d2.2.2 x hx _ (by simp)
  ·rcases mem_append.mp hx with z | z
   ·exact d1.2.2 x (mem_append_left _ z) y hy
   ·simp only [mem_cons,not_mem_nil,or_false] at z
    rcases z with rfl | rfl | rfl
    ·exact d1.2.2 _ (by simp) y hy
    ·exact λ e=>all y (by simp [hy]) e.symm
    ·exact d1.2.2 _ (by simp) y hy
 ·rcases mem_append.mp hx with z | z
  ·rcases mem_append.mp z with z | z
   ·exact mem_append_left _ (sub x (by simp [z]))
   ·simp only [mem_cons,not_mem_nil,or_false] at z
    rcases z with rfl | rfl | rfl
    ·exact mem_append_left _ (sub _ (by simp))
    ·simp
    ·exact mem_append_left _ (sub _ (by simp))
  ·exact mem_append_left _ (sub x (by simp [z]))
 ·have e1:B++[f,pl,l]++C=B++f::(pl::(l::C)):=by simp
  have p1:B++(f::M++[l])++C=B++f::(M++l::C):=by simp
  have p2:B++(f::M++[l])++C=(B++f::M)++l::C:=by simp
  rw [e1,qZ] at ad;rcases ad with z | z
  ·exact path x y (by rw [p1,qZ];exact .inl z)
  ·rw [uQ] at z
   rcases z with ⟨rfl,rfl⟩ | z
   ·exact sym _ _ (E' _ (by simp))
   ·rw [uQ] at z
    rcases z with ⟨rfl,rfl⟩ | z
    ·exact E' _ (by simp)
    ·exact path x y (by rw [p2,qZ];exact .inr z)
 ·obtain ⟨a,b⟩:=t
  have ad:=dS ht;have e:f::M++[l]++C=(f::M)++l::C:=by simp
  have this:Adj (f::(M++l::C)) a b:=by
   have:Adj ((f::M)++l::C) a b:=by
    rw [qZ];exact .inl ad
   exact this
  refine path a b ?_;rw [show B++(f::M++[l])++C=B++f::(M++l::C) by simp,qZ];exact .inr this
theorem gP {W:Rows} {ms:List Nat} {i:Nat} (h:goF W ms i=none):∀ j,goF W ms (i+j)=none
 | 0=>h
 | j+1=>by
  have:=gP h j;show goF W ms (i+j+1)=none;unfold goF;rw [this]
def zH (W:Rows) (a b c:Nat) (ms:List Nat):Option (List (List Nat)×List (List Nat)) :=
 if ms[0]?=some a/\ms[1]?=some b/\ms.getLast?=some c then goF W ms (ms.length-2) else none
theorem rR {W:Rows} {ms:List Nat} {i:Nat} {fs ts:List (List Nat)} (h:goF W ms i=some (fs,ts)) (z:stF W (ts.getLastD []) (ms.take (i+2)) (ms.getD (i+2) 0)=none):goF W ms (i+1)=none:=by
 unfold goF;rw [h];dsimp only;rw [z]
theorem kAB {W:Rows} {ms:List Nat} {i:Nat} {fs ts:List (List Nat)} {st:List Nat} (h:goF W ms i=some (fs,ts)) (z:stF W (ts.getLastD []) (ms.take (i+2)) (ms.getD (i+2) 0)=some st):goF W ms (i+1)=some (fs++[st],ts++[poF (ts.getLastD []) st (ms.getD (i+2) 0)]):=by
 unfold goF;rw [h];dsimp only;rw [z]
theorem bL {α:Type} (l:List (List α)) (x:List α):(l++[x]).getLastD []=x:=by
 rw [getLastD_eq_getLast?,List.getLast?_append]
 rfl
theorem Top.len {W:Rows} {some top:List Nat} (T:Top W some top):top.length<=some.length:=List.Nodup.length_le_of_subset T.nd T.sub
theorem kEU {W:Rows} {top ahead B M C:List Nat} {f l pl:Nat} (nd:top.Nodup) (and_:ahead.Nodup) (e:top=B++(f::M++[l])++C) (sub:∀ q∈top,q∈ahead) (mem:∀ q,q∈f::M++[l]↔q∈ahead/\q∈W.getD pl []) (nx:∀ t∈(f::M++[l]).zip (f::M++[l]).tail,(nxt W t).2=pl) :
  stF W top ahead pl=some (f::M++[l]):=by
 have nd0:=nd;rw [e] at nd0;have d1:=nodup_append.mp nd0;have d2:=nodup_append.mp d1.1
 have bel:∀ q,q∈(ahead.filter λ q=>decide (q∈W.getD pl []))↔q∈f::M++[l]:=λ q=>by
  rw [mem_filter,decide_eq_true_iff,mem]
 have pm:(ahead.filter λ q=>decide (q∈W.getD pl [])).Perm (f::M++[l]):=(List.perm_ext_iff_of_nodup (and_.filter _) d2.2.1).mpr bel
 have es:(top.filter λ q=>decide (q∈ahead.filter λ q=>decide (q∈W.getD pl [])))=f::M++[l]:=by
  have e0:(λ q=>decide (q∈ahead.filter λ q=>decide (q∈W.getD pl [])))=λ q=>decide (q∈f::M++[l]):=by
   funext q
   rw [Bool.eq_iff_iff,decide_eq_true_iff,decide_eq_true_iff,bel]
  rw [e0,e,filter_append,filter_append];have fB:B.filter (λ q=>decide (q∈f::M++[l]))=[]:=List.filter_eq_nil_iff.mpr λ q hq h=>d2.2.2 q hq q (of_decide_eq_true h) rfl;have fC:C.filter (λ q=>decide (q∈f::M++[l]))=[]:=List.filter_eq_nil_iff.mpr λ q hq h=>d1.2.2 q (mem_append_right _ (of_decide_eq_true h)) q hq rfl;rw [fB,fC,List.filter_eq_self.mpr λ q hq=>decide_eq_true hq];simp
 have lP:(f::M++[l]).length=M.length+2:=by simp
 have fB:f∉B:=λ h=>d2.2.2 f h f (by simp) rfl
 have i1:top.idxOf f=B.length:=by
  rw [e,show B++(f::M++[l])++C=B++f::(M++[l]++C) by simp];exact gM fB
 unfold stF;dsimp only;rw [es,pm.length_eq,if_neg (by rw [lP];omega),if_neg,if_pos]
 ·exact all_eq_true.mpr λ t ht=>decide_eq_true (nx t ht)
 ·intro h
  refine h ?_;rw [show (f::M++[l]).headD 0=f from rfl,i1,e,append_assoc,drop_left' rfl,take_left' rfl]
section
variable {W:Rows} {T ahead su sv:List Nat} {u v:Nat}
end
section
variable {ms:List Nat} {k:Nat}
variable {W:Rows} {a b c:Nat} {Fs Ts:List (List Nat)}
end
theorem kGT (top:List Nat) (p:Nat->Bool):top.filter p=((List.range top.length).filter λ j=>p (top.getD j 0)).map λ j=>top.getD j 0:=by
 have e:top=(List.range top.length).map λ j=>top.getD j 0:=by
  refine List.ext_getElem (by simp) λ i h1 h2=>?_;rw [getElem_map,List.getElem_range,getD_eq_getElem?_getD,List.getElem?_eq_getElem h1]
  rfl
 conv=>lhs;rw [e,List.filter_map]
 rfl
theorem oK {S:List Nat} (h:S.Pairwise (· < ·)):∀ (j i:Nat) (hi:i<=j) (hj:j<S.length),S[i]+(j-i)<=S[j]
 | 0,i,hi,hj=>by
  have:i=0:=by omega
  subst this;simp
 | j+1,i,hi,hj=>by
  rcases Nat.lt_or_ge i (j+1) with c | c
  ·have a:=oK h j i (by omega) (by omega)
   have b:=pairwise_iff_getElem.mp h j (j+1) (by omega) hj (by omega);omega
  ·have:i=j+1:=by omega
   subst this;simp
theorem oM {top:List Nat} (nd:top.Nodup) {j:Nat} (h:j<top.length):top.idxOf (top.getD j 0)=j:=by
 rw [getD_eq_getElem?_getD,List.getElem?_eq_getElem h];show top.idxOf top[j]=j;have hm:=getElem_mem h;have hl:=idxOf_lt_length_of_mem hm;exact (getElem_inj nd).mp (List.getElem_idxOf hl)
theorem zA {S:List Nat} (h:0<S.length):S.headD 0=S[0]:=by
 cases S with
 | nil=>cases h
 | cons x r=>rfl
theorem uC {S:List Nat} (h:0<S.length):S.getLastD 0=S[S.length-1]:=by
 rw [getLastD_eq_getLast?,List.getLast?_eq_getElem?,List.getElem?_eq_getElem (by omega)]
 rfl
section
variable {W:Rows} {top ahead S:List Nat} {pl:Nat}
def kL (W:Rows) (top:List Nat) (pl:Nat):List Nat:=(List.range top.length).filter λ j=>decide (top.getD j 0∈W.getD pl [])
theorem lN:(kL W top pl).Pairwise (· < ·):=List.pairwise_lt_range.filter _
theorem aX {j:Nat} (h:j∈kL W top pl):j<top.length:=mem_range.mp (mem_filter.mp h).1
def wC (W:Rows) (ahead:List Nat) (pl:Nat):Nat:=((W.getD pl []).filter λ q=>decide (q∈ahead)).length
theorem dF (nda:ahead.Nodup) (ndr:(W.getD pl []).Nodup):(ahead.filter λ q=>decide (q∈W.getD pl [])).length=wC W ahead pl:=by
 refine List.Perm.length_eq ((List.perm_ext_iff_of_nodup (nda.filter _) (ndr.filter _)).mpr λ x=>?_);rw [mem_filter,mem_filter,decide_eq_true_iff,decide_eq_true_iff];exact ⟨λ z=>⟨z.2,z.1⟩,λ z=>⟨z.2,z.1⟩⟩
theorem kET (sub:∀ x∈top,x∈ahead):(top.filter λ q=>decide (q∈ahead.filter λ q=>decide (q∈W.getD pl [])))=(kL W top pl).map λ j=>top.getD j 0:=by
 have e:(top.filter λ q=>decide (q∈ahead.filter λ q=>decide (q∈W.getD pl [])))=top.filter λ q=>decide (q∈W.getD pl []):=by
  refine List.filter_congr λ q hq=>?_;rw [Bool.eq_iff_iff,decide_eq_true_iff,decide_eq_true_iff,mem_filter,decide_eq_true_iff];exact ⟨λ z=>z.2,λ z=>⟨sub q hq,z⟩⟩
 rw [e,kGT]
 rfl
def partL (W:Rows) (top:List Nat) (pl:Nat):List Nat:=(top.take ((kL W top pl).getLastD 0+1)).drop ((kL W top pl).headD 0)
theorem kAP (h:0<(kL W top pl).length) (c:(kL W top pl).getLastD 0=(kL W top pl).headD 0+((kL W top pl).length-1)):partL W top pl=(kL W top pl).map λ j=>top.getD j 0:=by
 have inc:=lN (W:=W) (top:=top) (pl:=pl);have lt:=λ j (hj:j∈kL W top pl)=>aX hj;unfold partL;generalize kL W top pl=S at *;rw [zA h,uC h] at *;have l1:=lt _ (getElem_mem (show S.length-1<S.length by omega))
 have at':∀ i (hi:i<S.length),S[i]=S[0]+i:=λ i hi=>by
  have a:=oK inc i 0 (by omega) hi;have b:=oK inc (S.length-1) i (by omega) (by omega);omega
 refine List.ext_getElem ?_ λ i h1 h2=>?_
 ·simp
  omega
 ·have hi:i<S.length:=by simpa using h2
  rw [List.getElem_drop,List.getElem_take,getElem_map,getD_eq_getElem?_getD,List.getElem?_eq_getElem (by rw [at' i hi];have:=at' (S.length-1) (by omega);omega)];simp only [Option.getD_some]
  congr 1
  exact (at' i hi).symm
theorem lU (nd:top.Nodup) (h:0<(kL W top pl).length):(top.drop (top.idxOf (((kL W top pl).map λ j=>top.getD j 0).headD 0))).take ((kL W top pl).map λ j=>top.getD j 0).length=((kL W top pl).map λ j=>top.getD j 0)↔(kL W top pl).getLastD 0=(kL W top pl).headD 0+((kL W top pl).length-1):=by
 have inc:=lN (W:=W) (top:=top) (pl:=pl);have lt:=λ j (hj:j∈kL W top pl)=>aX hj;have pe:=kAP (W:=W) (top:=top) (pl:=pl) h;unfold partL at pe;generalize kL W top pl=S at *;have h0:=lt _ (getElem_mem h)
 have e0:(S.map λ j=>top.getD j 0).headD 0=top.getD S[0] 0:=by
  rw [zA (by rw [length_map];exact h),getElem_map]
 rw [e0,oM nd h0,length_map];constructor
 ·intro e
  rw [zA h,uC h];have el:=lt _ (getElem_mem (show S.length-1<S.length by omega));have q:=congrArg (λ l:List Nat=>l[S.length-1]?) e;rw [List.getElem?_take_of_lt (by omega),List.getElem?_drop,List.getElem?_map,List.getElem?_eq_getElem (show S.length-1<S.length by omega)] at q;simp only [Option.map_some,getD_eq_getElem?_getD] at q;rw [List.getElem?_eq_getElem el] at q;obtain ⟨z1,z2⟩:=List.getElem?_eq_some_iff.mp q;exact ((getElem_inj nd).mp z2).symm
 ·intro c
  have:=pe c;rw [<-this,zA h,c,List.drop_take,zA h]
  congr 1
  omega
theorem all_zip {l:List Nat} {f:Nat×Nat->Bool}:(l.zip l.tail).all f=true↔∀ j,j+1<l.length->f (l.getD j 0,l.getD (j+1) 0)=true:=by
 have gd:∀ j (h:j<l.length),l.getD j 0=l[j]:=λ j h=>by rw [getD_eq_getElem?_getD,List.getElem?_eq_getElem h];rfl
 rw [all_eq_true];constructor
 ·intro a j hj
  refine a _ ?_;have hz:j<(l.zip l.tail).length:=by rw [List.length_zip,List.length_tail];omega
  have:=getElem_mem hz;rw [List.getElem_zip,List.getElem_tail] at this;rw [gd j (by omega),gd (j+1) hj];exact this
 ·intro a t ht
  obtain ⟨j,hj,rfl⟩:=mem_iff_getElem.mp ht;rw [List.length_zip,List.length_tail] at hj;have:=a j (by omega);rw [gd j (by omega),gd (j+1) (by omega)] at this;rw [List.getElem_zip,List.getElem_tail];exact this
theorem bX (nd:top.Nodup) (sub:∀ x∈top,x∈ahead) (nda:ahead.Nodup) (ndr:(W.getD pl []).Nodup)
  (h:(kL W top pl).length<2\/(kL W top pl).length≠wC W ahead pl\/(kL W top pl).getLastD 0≠(kL W top pl).headD 0+((kL W top pl).length-1)):stF W top ahead pl=none:=by
 unfold stF;dsimp only;rw [kET sub,dF nda ndr,length_map];by_cases c:(kL W top pl).length<2\/(kL W top pl).length≠wC W ahead pl
 ·rw [if_pos c]
 ·rw [if_neg c]
  have c1:¬ (kL W top pl).length<2:=λ z=>c (.inl z)
  have c2:(kL W top pl).getLastD 0≠(kL W top pl).headD 0+((kL W top pl).length-1):=by
   rcases h with h | h | h
   ·exact absurd h c1
   ·exact absurd (.inr h) c
   ·exact h
  have:=lU (W:=W) (pl:=pl) nd (by omega);rw [length_map] at this;rw [if_pos λ z=>c2 (this.mp z)]
theorem kBY (nd:top.Nodup) (sub:∀ x∈top,x∈ahead) (nda:ahead.Nodup) (ndr:(W.getD pl []).Nodup)
  (h1:2<=(kL W top pl).length) (h2:(kL W top pl).length=wC W ahead pl) (h3:(kL W top pl).getLastD 0=(kL W top pl).headD 0+((kL W top pl).length-1)) :
  (partL W top pl).length=wC W ahead pl/\(∀ x∈partL W top pl,x∈top)/\((∀ j,j+1<(partL W top pl).length->(nxt W ((partL W top pl).getD j 0,(partL W top pl).getD (j+1) 0)).2=pl)->stF W top ahead pl=some (partL W top pl))/\(∀ j,j+1<(partL W top pl).length->(nxt W ((partL W top pl).getD j 0,(partL W top pl).getD (j+1) 0)).2≠pl->stF W top ahead pl=none) /\
   poF top (partL W top pl) pl=top.take ((kL W top pl).headD 0+1)++pl::top.drop ((kL W top pl).getLastD 0):=by
 have pe:=kAP (W:=W) (top:=top) (pl:=pl) (by omega) h3;have pc:=(lU (W:=W) (pl:=pl) nd (by omega)).mpr h3;refine ⟨by rw [pe,length_map,h2],λ x hx=>?_,λ c=>?_,λ j hj c=>?_,?_⟩
 ·unfold partL at hx
  exact List.mem_of_mem_take (List.mem_of_mem_drop hx)
 ·unfold stF
  dsimp only;rw [kET sub,dF nda ndr];rw [pe] at c ⊢;rw [if_neg (by rw [length_map];omega),if_neg (λ z=>z pc),if_pos (all_zip.mpr λ j hj=>decide_eq_true (c j hj))]
 ·unfold stF
  dsimp only;rw [kET sub,dF nda ndr];rw [pe] at c hj;rw [if_neg (by rw [length_map];omega),if_neg (λ z=>z pc),if_neg λ z=>c (of_decide_eq_true (all_zip.mp z j hj))]
 ·unfold poF
  have lt:=λ j (hj:j∈kL W top pl)=>aX hj;rw [pe];generalize kL W top pl=S at *;have l1:0<S.length:=by omega
  have e0:(S.map λ j=>top.getD j 0).headD 0=top.getD S[0] 0:=by rw [zA (by rw [length_map];exact l1),getElem_map]
  have e1:(S.map λ j=>top.getD j 0).getLastD 0=top.getD (S[S.length-1]'(by omega)) 0:=by
   rw [uC (by rw [length_map];exact l1),getElem_map];simp only [length_map]
  rw [e0,e1,oM nd (lt _ (getElem_mem l1)),oM nd (lt _ (getElem_mem _)),zA l1,uC l1]
theorem kFS {j:Nat} (h:j+1<(partL W top pl).length):∃ A B,top=A++(partL W top pl).getD j 0::(partL W top pl).getD (j+1) 0::B:=by
 unfold partL at h ⊢;generalize (kL W top pl).getLastD 0=e at *;generalize (kL W top pl).headD 0=s at *;rw [length_drop,length_take] at h
 have gd:∀ i,i+s<e+1->i+s<top.length->((top.take (e+1)).drop s).getD i 0=top.getD (s+i) 0:=λ i h1 h2=>by
  rw [getD_eq_getElem?_getD,getD_eq_getElem?_getD,List.getElem?_drop,List.getElem?_take_of_lt (by omega)]
 rw [gd j (by omega) (by omega),gd (j+1) (by omega) (by omega)];refine ⟨top.take (s+j),top.drop (s+j+2),?_⟩;have a:=drop_eq_getElem_cons (l:=top) (i:=s+j) (by omega);have b:=drop_eq_getElem_cons (l:=top) (i:=s+j+1) (by omega)
 conv=>lhs;rw [<-take_append_drop (s+j) top,a,b]
 rw [getD_eq_getElem?_getD,List.getElem?_eq_getElem (by omega),getD_eq_getElem?_getD,List.getElem?_eq_getElem (by omega)]
 rfl
end
end Tri
namespace HT
open PySem PySem.Spec PyProof.Rows
section
variable {M:Model} {A:Around} {E:Value->Shared->Prop} {s:Shared}
theorem nfe_own {scope:Scope} {globals:Addr} {closure:List (Str×Addr)} {qual:Str} {func:Option Addr} {code:Value} {outer:Env} {builtins:Addr} {Q:Env->Shared->Prop}
  (hQ:Q (newEnv scope s.heap.objs.size globals (cellsFrom (s.heap.objs.size+1) scope.names closure) qual func code (some outer) builtins)
   { s with heap:=pushCells (s.heap.push { cls:=.type "dict",data:=.dict #[] }) scope.names }) :
  wpAny M A (newFunctionEnv scope globals closure [] qual func code (some outer) builtins) Q E s:=by
 simp only [newFunctionEnv,Option.isSome_some,if_true];refine wpAny_bind (wpAny_alloc ?_);refine wpAny_bind (wpAny_layCells _ (λ name kind cells=>by cases hkc:kind == NameKind.cell<;>simp [hkc]) _ _ _ _ ?_);rw [show ({ s with heap:=s.heap.push { cls:=.type "dict",data:=.dict #[] } }:Shared).heap.objs.size=s.heap.objs.size+1 from Heap.size_push ..]
 refine wpAny_bind (wpAny_pure (wpAny_pure ?_));exact hQ
end
theorem cells_of:∀ (names:List (Str×NameKind)) (lo:Nat) (acc:List (Str×Addr)) (x:Str) (c:Addr),(cellsFrom lo names acc).lookup x=some c->(lo<=c/\(x,NameKind.cell)∈names)\/acc.lookup x=some c
 | [],_,_,_,_,h=>.inr h
 | (n,k)::r,lo,acc,x,c,h=>by
  unfold cellsFrom at h
  split at h
  ·rename_i hk
   have hk:k=.cell:=by simpa using hk
   rcases cells_of r (lo+1) _ x c h with ⟨a,b⟩ | b
   ·exact .inl ⟨by omega,mem_cons_of_mem _ b⟩
   ·rw [lookup_cons] at b
    cases e:x == n with
    | true =>
     rw [e] at b;cases b
     rw [beq_iff_eq.mp e,hk];exact .inl ⟨Nat.le_refl _,mem_cons_self⟩
    | false =>
     rw [e] at b;exact .inr b
  ·rcases cells_of r lo acc x c h with ⟨a,b⟩ | b
   ·exact .inl ⟨a,mem_cons_of_mem _ b⟩
   ·exact .inr b
theorem cells_keep:∀ (names:List (Str×NameKind)) (lo:Nat) (acc:List (Str×Addr)) (x:Str),(x,NameKind.cell)∉names->(cellsFrom lo names acc).lookup x=acc.lookup x
 | [],_,_,_,_=>rfl
 | (n,k)::r,lo,acc,x,h=>by
  have hr:(x,NameKind.cell)∉r:=λ z=>h (mem_cons_of_mem _ z);unfold cellsFrom
  split
  ·rename_i hk
   have hk:k=.cell:=by simpa using hk
   rw [cells_keep r _ _ x hr,lookup_cons]
   cases e:x == n with
   | true =>
    rw [beq_iff_eq.mp e,hk] at h;exact absurd mem_cons_self h
   | false=>rfl
  ·exact cells_keep r _ _ x hr
theorem cells_has:∀ (names:List (Str×NameKind)) (lo:Nat) (acc:List (Str×Addr)) (x:Str),(x,NameKind.cell)∈names\/(∃ c,acc.lookup x=some c)->∃ c,(cellsFrom lo names acc).lookup x=some c
 | [],_,_,_,h=>h.elim (λ z=>nomatch z) id
 | (n,k)::r,lo,acc,x,h=>by
  unfold cellsFrom
  split
  ·refine cells_has r _ _ x ?_
   by_cases e:x=n
   ·subst e
    exact .inr ⟨lo,by rw [lookup_cons];simp⟩
   ·rcases h with h | ⟨c,h⟩
    ·rcases mem_cons.mp h with z | z
     ·exact absurd (congrArg Prod.fst z) e
     ·exact .inl z
    ·refine .inr ⟨c,?_⟩
     rw [lookup_cons,show (x == n)=false by simpa using e];exact h
  ·rename_i hk
   refine cells_has r _ _ x ?_;rcases h with h | h
   ·rcases mem_cons.mp h with z | z
    ·have z2:NameKind.cell=k:=congrArg Prod.snd z
     exact absurd (by rw [<-z2];rfl) hk
    ·exact .inl z
   ·exact .inr h
theorem cells_inj:∀ (names:List (Str×NameKind)) (lo:Nat) (acc:List (Str×Addr)),(∀ x c,acc.lookup x=some c->c<lo)->(∀ x y c,acc.lookup x=some c->acc.lookup y=some c->x=y) ->
  ∀ x y c,(cellsFrom lo names acc).lookup x=some c->(cellsFrom lo names acc).lookup y=some c->x=y
 | [],_,_,_,h,x,y,c,e1,e2=>h x y c e1 e2
 | (n,k)::r,lo,acc,hl,h,x,y,c,e1,e2=>by
  unfold cellsFrom at e1 e2
  split at e1
  ·rename_i hk
   rw [if_pos hk] at e2
   have look:∀ z d,((n,lo)::acc).lookup z=some d->(z=n/\d=lo)\/(z≠n/\acc.lookup z=some d):=λ z d q=>by
    rw [lookup_cons] at q
    cases e:z == n with
    | true =>
     rw [e] at q;cases q
     exact .inl ⟨beq_iff_eq.mp e,rfl⟩
    | false =>
     rw [e] at q;exact .inr ⟨by simpa using e,q⟩
   refine cells_inj r (lo+1) ((n,lo)::acc) (λ z d q=>?_) (λ z z' d q q'=>?_) x y c e1 e2
   ·rcases look z d q with ⟨_,b⟩ | ⟨_,b⟩
    ·rw [b];exact Nat.lt_succ_self _
    ·exact Nat.lt_succ_of_lt (hl z d b)
   ·rcases look z d q with ⟨a,b⟩ | ⟨a,b⟩<;>rcases look z' d q' with ⟨a',b'⟩ | ⟨a',b'⟩
    ·rw [a,a']
    ·exact absurd (hl z' d b') (by rw [b];exact Nat.lt_irrefl _)
    ·exact absurd (hl z d b) (by rw [b'];exact Nat.lt_irrefl _)
    ·exact h z z' d b b'
  ·rename_i hk
   rw [if_neg hk] at e2;exact cells_inj r lo acc hl h x y c e1 e2
theorem cells_own:∀ (names:List (Str×NameKind)) (lo:Nat) (acc:List (Str×Addr)) (x:Str) (c:Addr),(x,NameKind.cell)∈names->(cellsFrom lo names acc).lookup x=some c->lo<=c
 | (n,k)::r,lo,acc,x,c,m,h=>by
  unfold cellsFrom at h;by_cases mr:(x,NameKind.cell)∈r
  ·split at h
   ·exact Nat.le_of_succ_le (cells_own r (lo+1) _ x c mr h)
   ·exact cells_own r lo acc x c mr h
  ·rcases mem_cons.mp m with z | z
   ·injection z with z1 z2
    subst z1 z2;rw [if_pos (by rfl),cells_keep r _ _ x mr,lookup_cons] at h;simp at h;exact Nat.le_of_eq h
   ·exact absurd z mr
end HT
namespace L2
open PySem PySem.Spec PyProof.Rows
structure CS2 (sc S0:Scope):Prop where
 kind:sc.kind=.function
 names:∀ y∈sc.names,y.2=.local->sc.names.lookup y.1=some .local
 own:∀ y∈sc.names,y.2=.cell->sc.names.lookup y.1=some .cell
 nof:∀ x,sc.names.lookup x=some .free->(x,NameKind.cell)∉sc.names
 free:∀ y∈sc.names,y.2=.free->S0.names.lookup y.1=some .cell
def cxD (X:Cx) (Nc:List Str) (sc:Scope) (C:Addr) (s₂:Shared) (H₂:Hp) (fp:List Addr) (pins:List (Addr×Obj)):Cx :=
 { X with N:=Nc,s₀:=s₂,H₀:=H₂,env:=compEnvC sc (cellsFrom (C+1) sc.names (zJ sc X.env)) C X.env,outer:=X.stack,ex:=fp,fn:=λ x=>decide ((x,NameKind.cell)∈sc.names),pn:=X.pn++pins }
section
variable {X:Cx} {pins:List (Addr×Obj)} {σ:St} {H:Hp} {s:Shared} {sc:Scope} {Nc:List Str} {js:List (Option Nat)} {fp:List Addr}
theorem kFV (I:Inv X pins σ H s) (S:CS2 sc X.env.scope) (f:∀ b∈fp,zE X pins H b) (hlt:∀ b∈fp,b<s.heap.objs.size) {C:Addr} (hC:s.heap.objs.size<=C):(cxD X Nc sc C s H fp pins).Ok:=by
 have inX:∀ x c,(zJ sc X.env).lookup x=some c->X.env.cells.lookup x=some c:=λ x c e=>uX sc.names [] (λ z=>nomatch z) e
 have low:∀ x c,(zJ sc X.env).lookup x=some c->c<C+1:=λ x c e=>by
  obtain ⟨v,ic⟩:=I.cell x c (inX x c e);exact Nat.lt_succ_of_lt (Nat.lt_of_lt_of_le ic.lt hC)
 refine ⟨I.ok.mod,S.kind,I.ok.glob,I.ok.blt,hC,HT.cells_inj sc.names (C+1) _ low λ x y c e1 e2=>I.ok.inj x y c (inX x c e1) (inX y c e2),λ x hx=>?_,λ x c z e=>?_,I.ok.hd,I.ok.frames,.inl rfl,λ b hb=>⟨?_,λ x c e=>?_⟩,I.bs,Nat.le_trans I.ok.bsz I.sz,λ b o e hb=>?_,λ b hb hs=>?_,I.stack,I.stkFree⟩
 ·have hx':(sc.names.map (xG X.env)).lookup x=some .cell\/(sc.names.map (xG X.env)).lookup x=some .free:=hx
  rw [vZ] at hx';refine HT.cells_has sc.names (C+1) _ x ?_
  cases e:sc.names.lookup x with
  | none=>rw [e] at hx';rcases hx' with z | z<;>cases z
  | some k =>
   rw [e] at hx';have m:(x,k)∈sc.names:=PySem.mem_of_lookup e
   have kf:k=.free\/k=.cell:=by
    unfold xG at hx';by_cases hk:(k == NameKind.free)=true
    ·exact .inl (by simpa using hk)
    ·have hk':(k == NameKind.free)=false:=by simpa using hk
     simp only [hk',Bool.false_and,Option.map_some] at hx';rcases hx' with z | z
     ·exact .inr (by simpa using z)
     ·exact .inl (by simpa using z)
   rcases kf with rfl | rfl
   ·have hx2:=S.free _ m rfl
    obtain ⟨c,hc⟩:=I.ok.has x (.inl hx2);exact .inr (gY sc.names [] ⟨c,hc⟩ (.inr m))
   ·exact .inl m
 ·exact Nat.le_trans hC (Nat.le_of_succ_le (HT.cells_own sc.names (C+1) _ x c (of_decide_eq_true z) e))
 ·exact Nat.ne_of_lt (Nat.lt_of_lt_of_le (hlt b hb) hC)
 ·rcases HT.cells_of sc.names (C+1) _ x c e with ⟨a,_⟩ | q
  ·exact (Nat.ne_of_lt (Nat.lt_of_lt_of_le (hlt b hb) (Nat.le_trans hC (Nat.le_of_succ_le a)))).symm
  ·exact (f b hb).2.2.2.2.1 x c (inX x c q)
 ·obtain ⟨h0,h1,h2,h3,h4,h5⟩:=f b hb
  rcases h3 with z | z
  ·exact I.ok.noex b o e z
  ·exact absurd (Nat.lt_of_lt_of_le (Heap.lt_size (I.ok.bs b o e).1) z) (Nat.lt_irrefl _)
 ·obtain ⟨h0,h1,h2,h3,h4,h5⟩:=f b hb
  rcases mem_cons.mp (I.stkSub b hs) with z | z
  ·exact h1 z
  ·exact h2 z
end
section
variable {X:Cx} {pins:List (Addr×Obj)} {σ:St} {H:Hp} {s:Shared} {sc:Scope} {Nc:List Str} {js:List (Option Nat)} {fp:List Addr}
theorem kDM (I:Inv X pins σ H s) (S:CS2 sc X.env.scope) (f:∀ b∈fp,zE X pins H b) (hlt:∀ b∈fp,b<s.heap.objs.size) (cap:bV js Nc X.N sc.names=true) {C D:Addr} {o:HO} {h₁:Heap} {m:Str->Option Value} {tk:Nat}
  (hC:s.heap.objs.size<=C) (hD:s.heap.objs.size<=D) (hDC:D<C) (hcl:∀ x c,(x,NameKind.cell)∈sc.names->(cellsFrom (C+1) sc.names (zJ sc X.env)).lookup x=some c->h₁.IsCell c none) (hk:∀ b ob,s.heap.get? b=some ob->h₁.get? b=some ob) (hns:h₁.Ns C m) (new:ObjOk X.prog X.w (upd H D o) h₁ D o) :
  Inv (cxD X Nc sc C s H fp pins) [] (uI js σ) (upd H D o) { s with heap:=h₁,toks:=tk }:=by
 have inX:∀ x c,(zJ sc X.env).lookup x=some c->X.env.cells.lookup x=some c:=λ x c e=>uX sc.names [] (λ z=>nomatch z) e;have fresh:∀ a,s.heap.objs.size<=a->H a=none:=λ a ha=>I.hok.fresh ha;obtain ⟨cl,cp⟩:=kHF cap;refine ⟨kFV I S f hlt hC,rfl,I.bare,Un.laid hk hD (fresh D hD),⟨m,hns,λ i x v e1 e2 e3=>?_⟩,λ x c e=>?_,?_,λ x c e=>?_,λ p hp=>?_,I.hok.laid hk hD new,?_⟩
 ·-- a name of the frame's
  unfold uI at e2;rw [List.getElem?_map] at e2
  cases ej:js[i]? with
  | none=>rw [ej] at e2;cases e2
  | some oj =>
   rw [ej] at e2
   cases oj with
   | none=>cases e2
   | some j =>
    obtain ⟨hN,hfree⟩:=cp i j x ej e1
    have hv:σ[j]?=some (some v):=by
     simp only [Option.map_some,Option.bind_some,Option.some.injEq] at e2
     cases e:σ[j]? with
     | none=>rw [e] at e2;cases e2
     | some w=>rw [e] at e2;exact congrArg some e2
    have kc:X.env.kindOf x=some .cell:=S.free _ (PySem.mem_of_lookup hfree) rfl;obtain ⟨m',hn',hl⟩:=I.loc;obtain ⟨u,r,lk⟩:=hl j x v hN hv (.inr (.inl kc));refine ⟨u,r,.inr ⟨.inl ?_,?_⟩⟩
    ·show (sc.names.map (xG X.env)).lookup x=some .cell
     rw [vZ,hfree];unfold xG;simp [I.ok.kind,kc]
    ·rcases lk with ⟨z,_⟩ | ⟨_,c,hc,ic⟩
     ·rw [kc] at z;cases z
     ·obtain ⟨c',hc'⟩:=gY sc.names [] ⟨c,hc⟩ (.inr (PySem.mem_of_lookup hfree))
      have:c'=c:=Option.some.inj ((inX x c' hc').symm.trans hc);subst this;exact ⟨c',by show (cellsFrom (C+1) sc.names (zJ sc X.env)).lookup x=some c';rw [HT.cells_keep _ _ _ x (S.nof x hfree)];exact hc',ic.keeps hk⟩
 ·by_cases own:(x,NameKind.cell)∈sc.names
  ·exact ⟨none,hcl x c own e⟩
  ·have e':(zJ sc X.env).lookup x=some c:=by rw [<-HT.cells_keep sc.names (C+1) _ x own];exact e
   obtain ⟨v,ic⟩:=I.cell x c (inX x c e');exact ⟨v,ic.keeps hk⟩
 ·show upd H D o C=none
  rw [kO (Nat.ne_of_lt hDC).symm];exact fresh C hC
 ·by_cases own:(x,NameKind.cell)∈sc.names
  ·have lo:=HT.cells_own sc.names (C+1) _ x c own e
   show upd H D o c=none;rw [kO (Nat.ne_of_lt (Nat.lt_trans hDC (Nat.lt_of_succ_le lo))).symm];exact fresh c (Nat.le_trans hC (Nat.le_of_succ_le lo))
  ·have e':(zJ sc X.env).lookup x=some c:=by rw [<-HT.cells_keep sc.names (C+1) _ x own];exact e
   have q:=inX x c e';obtain ⟨v,ic⟩:=I.cell x c q;show upd H D o c=none;rw [kO (Nat.ne_of_lt (Nat.lt_of_lt_of_le ic.lt hD))];exact I.freeC x c q
 ·have hp':p∈X.pn++pins:=by
   rcases mem_append.mp hp with z | z
   ·exact z
   ·exact absurd z (by simp)
  obtain ⟨a1,a2,a3,a4,a5⟩:=I.pin p hp';have lt:=Heap.lt_size a1;refine ⟨hk _ _ a1,?_,Nat.ne_of_lt (Nat.lt_of_lt_of_le lt hC),λ z=>?_,a5⟩
  ·rw [kO (Nat.ne_of_lt (Nat.lt_of_lt_of_le lt hD))]
   exact a2
  ·rcases mem_cons.mp (I.stkSub _ z) with z | z
   ·exact a3 z
   ·exact a4 z
 ·unfold uI
  rw [length_map];exact cl
theorem kDN {C:Addr} {σ':St} {H':Hp} {s':Shared} {h':Heap} (I:Inv X pins σ H s) (f:∀ b∈fp,zE X pins H b) (hC:s.heap.objs.size<=C) (J:Inv (cxD X Nc sc C s H fp pins) [] σ' H' s') (hs:Heap.SameBut C s'.heap h') :
  Inv X pins σ H' { s' with heap:=h' }:=by
 have u:=J.base;have nC:H' C=none:=J.free;have stay:∀ b ob,b≠C->s'.heap.get? b=some ob->h'.get? b=some ob:=λ b ob hb e=>hs.extBut b ob hb e;have neC:∀ b ob,s.heap.get? b=some ob->b≠C:=λ b ob e=>Nat.ne_of_lt (Nat.lt_of_lt_of_le (Heap.lt_size e) hC);refine I.call' (ch:=fp) J.os ?_ (λ b v e=>?_) J.bare λ b hb=>⟨(f b hb).2.2.2.1,(f b hb).2.1,(f b hb).2.2.2.2.1,(f b hb).2.2.2.2.2⟩
 ·refine ⟨λ b ob e n h1 h2=>stay b ob (neC b ob e) (u.keep b ob e n h1 h2),λ b ob e n h1 h2=>?_,u.free,λ b ob e h2=>?_,u.tups,u.frzs,u.tbls⟩
  ·obtain ⟨sl,q⟩:=u.slot b ob e n h1 h2
   exact ⟨sl,stay b _ (neC b ob e) q⟩
  ·obtain ⟨o',q⟩:=u.there b ob e h2
   exact ⟨o',stay b _ (neC b ob e) q⟩
 ·have nb:∀ c w,H' c=some w->c≠C:=λ c w e z=>by rw [z,nC] at e;cases e
  refine (J.hok b v e).stay (λ c w hc q=>stay c w ?_ q) (λ _ q=>q) λ _ _ q=>q;rcases hc with z | z
  ·rw [z];exact nb b v e
  ·exact nb c _ z
end
end L2
namespace HT
open PySem PySem.Spec PyProof.Rows
theorem cells_none:∀ (names:List (Str×NameKind)) (h:Heap) (acc:List (Str×Addr)) (x:Str) (c:Addr),(x,NameKind.cell)∈names->(cellsFrom h.objs.size names acc).lookup x=some c->(pushCells h names).IsCell c none
 | (n,k)::r,h,acc,x,c,m,e=>by
  unfold cellsFrom at e;unfold pushCells;by_cases mr:(x,NameKind.cell)∈r
  ·split at e
   ·rename_i hk
    rw [if_pos hk];refine cells_none r _ ((n,h.objs.size)::acc) x c mr ?_;rw [Heap.size_push];exact e
   ·rename_i hk
    rw [if_neg hk];exact cells_none r _ _ x c mr e
  ·rcases mem_cons.mp m with z | z
   ·injection z with z1 z2
    subst z1 z2;rw [if_pos (by rfl),cells_keep r _ _ x mr,lookup_cons] at e;simp at e;subst e;rw [if_pos (by rfl)]
    have q:(h.push { cls:=.type "cell",data:=.cell none }).IsCell h.objs.size none:=by
     first
      | exact ⟨_,Heap.get?_push_size _ rfl,rfl⟩
      | exact ⟨_,Heap.get?_push_size _ rfl⟩
      | exact Heap.get?_push_size _ rfl
    exact q.keeps λ b o hb=>pushCells_keeps r _ b o hb
   ·exact absurd z mr
end HT
namespace L2
open PySem PySem.Spec PyProof.Rows
section
variable {X:Cx} {e tg iter el:Expr} {ifs:List Expr} {gens rest:List Comprehension} {sc:Scope} {pos:Pos} {Nc:List Str} {js:List (Option Nat)} {wi:TI}
end
def kNK (sc S0:Scope):Bool:=(sc.names.all λ y=>(y.2 != .local || sc.names.lookup y.1 == some .local) && (y.2 != .cell || sc.names.lookup y.1 == some .cell) && (y.2 != .free || S0.names.lookup y.1 == some .cell))
theorem CS2.of {sc S0:Scope} (k:sc.kind=.function) (h:kNK sc S0=true):CS2 sc S0:=by
 have q:∀ y∈sc.names,_:=all_eq_true.mp h
 have own:∀ y∈sc.names,y.2=.cell->sc.names.lookup y.1=some .cell:=λ y hy e=>by
  have z:=q y hy;rw [Bool.and_eq_true,Bool.and_eq_true] at z;obtain ⟨⟨z1,z2⟩,z3⟩:=z;rw [e] at z2;simpa using z2
 refine ⟨k,λ y hy e=>?_,own,λ x e m=>?_,λ y hy e=>?_⟩
 ·have z:=q y hy
  rw [Bool.and_eq_true,Bool.and_eq_true] at z;obtain ⟨⟨z1,z2⟩,z3⟩:=z;rw [e] at z1;simpa using z1
 ·have:=own _ m rfl
  rw [e] at this;cases this
 ·have z:=q y hy
  rw [Bool.and_eq_true,Bool.and_eq_true] at z;obtain ⟨⟨z1,z2⟩,z3⟩:=z;rw [e] at z3;simpa using z3
section
variable {X:Cx} {tg iter el:Expr} {ifs:List Expr} {sc:Scope} {pos py spos:Pos} {Nc:List Str} {js:List (Option Nat)} {wi:TI} {i:Nat} {y:Str}
theorem kIF {g:TG} {bd:Addr->TB} (hx:X.xe=λ _ _=>False) (hc:X.calm=true) (hN:X.N.Nodup) (hiN:X.N[i]?=some y) (hy:Loc X.env.scope y) (hi:PI X tg iter wi) (S:CS2 sc X.env.scope) (cap:bV js Nc X.N sc.names=true)
  (hg:∀ C s₂ H₂ fp pins,PG (cxD X Nc sc C s₂ H₂ fp pins) tg g)
  (hb:∀ C s₂ H₂ fp pins D L,PTl (cxD X Nc sc C s₂ H₂ fp pins) (yI ifs (cxD X Nc sc C s₂ H₂ fp pins).env (do let _ <-call (.builtin "list.append") [.ref D,<-eval el (cxD X Nc sc C s₂ H₂ fp pins).env]) L) L (bd D))
  (hs:∀ x,foldedSetIterable iter X.env x=pure x:=by intro _;rfl)
  (hsw:swapsWith (.ListComp el [⟨tg,iter,ifs,0⟩] sc pos) (some (.Name y py)) spos.line X.env=pure true:=by rfl)
  (hf:X.fn y=true\/X.env.scope.names.lookup y=some .local:=by first | exact .inl rfl | exact .inr rfl | assumption) :
  PS X (.Assign [.Name y py] (.ListComp el [⟨tg,iter,ifs,0⟩] sc pos) spos) (kHR (tLC js wi g bd) (rT i)):=by
 intro pins s σ H D0 I h;have hcl:closureFor sc X.env=pure (zJ sc X.env):=wA λ y hy hf=>I.ok.has y.1 (.inl (S.free y hy hf));rw [exec_Assign_Name_used _ _ _ _ hsw];refine wpAny_bind (wpAny_standAt (wpAny_bind ?_));show wpAny _ X.A (do let _ <-comprehension (.ListComp el [⟨tg,iter,ifs,0⟩] sc pos) sc X.env _ (newList []) false (eval iter X.env) (some (assign (.Name y py) X.env))) _ _ s
 refine wpAny_bind (wpAny_mono (wpAny_comprehension_free (use:=some (assign (.Name y py) X.env)) (Q:=λ _ s'=>SP X pins D0 .next s') rfl hs hcl S.kind S.names
  (thn (hi pins s σ H _ I h) λ v s1 h1=>thn h1 λ itv s2 h2=>?_)) (λ _ s' hq=>wpAny_pure (wpAny_pure hq)) λ _ _ e=>e)
 obtain ⟨it,fp,tn,J,H2,e,I2,T,st2,f2,hw⟩:=h2;subst e;have hlt:∀ b∈fp,b<s2.heap.objs.size:=λ b hb=>let ⟨o,ho,_⟩:=T.obj _ _ st2 b hb;Heap.lt_size ho;refine wpAny_newObj_type (HT.nfe_own ?_);dsimp only;generalize hH2:s2.heap.push { cls:=.type "list",dict:=none,data:=.seq ([]:List Value).toArray }=G;have hCs:G.objs.size=s2.heap.objs.size+1:=by rw [<-hH2,Heap.size_push]
 have hDC:s2.heap.objs.size<G.objs.size:=by omega
 have hCle:s2.heap.objs.size<=G.objs.size:=by omega
 generalize hh₁:pushCells (G.push { cls:=.type "dict",data:=.dict #[] }) sc.names=h₁;have old:∀ b o,s2.heap.get? b=some o->h₁.get? b=some o:=λ b o e=>hh₁ ▸ pushCells_keeps sc.names _ b o (Heap.get?_push_of_some _ (hH2 ▸ Heap.get?_push_of_some _ e));have hacc:h₁.get? s2.heap.objs.size=some { cls:=.type "list",dict:=none,data:=.seq ([]:List Value).toArray }:=hh₁ ▸ pushCells_keeps sc.names _ _ _ (Heap.get?_push_of_some _ (hH2 ▸ Heap.get?_push_size _ rfl))
 have hns₁:h₁.Ns G.objs.size λ _=>none:=by
  obtain ⟨o,es,k,a,b⟩:=Heap.Ns.new G (.type "dict");exact ⟨o,es,k,hh₁ ▸ pushCells_keeps sc.names _ _ _ a,b⟩
 have hcl₁:∀ x c,(x,NameKind.cell)∈sc.names->(cellsFrom (G.objs.size+1) sc.names (zJ sc X.env)).lookup x=some c->h₁.IsCell c none:=λ x c m e=>by
  rw [<-hh₁];refine HT.cells_none sc.names _ (zJ sc X.env) x c m ?_;rw [Heap.size_push];exact e
 have new:ObjOk X.prog X.w (upd H2 s2.heap.objs.size (.lst [])) h₁ s2.heap.objs.size (.lst []):=⟨Nat.zero_le _,[],_,.nil,hacc⟩;have I4:=kDM (js:=js) (Nc:=Nc) (tk:=s2.toks) I2 S f2 hlt cap hCle (Nat.le_refl _) hDC hcl₁ old hns₁ new;have hn:H2 s2.heap.objs.size=none:=I2.fresh
 have f4:∀ b∈fp,zE (cxD X Nc sc G.objs.size s2 H2 fp pins) [] (upd H2 s2.heap.objs.size (.lst [])) b:=λ b hb=>by
  obtain ⟨h0,h1,h2,h3,h4,h5⟩:=f2 b hb;refine ⟨?_,Nat.ne_of_lt (Nat.lt_of_lt_of_le (hlt b hb) hCle),λ z=>?_,.inl hb,λ x c z=>?_,λ p hp=>?_⟩
  ·rw [kO (Nat.ne_of_lt (hlt b hb))];exact h0
  ·rcases mem_cons.mp (I2.stkSub b z) with q | q
   ·exact h1 q
   ·exact h2 q
  ·rcases HT.cells_of sc.names (G.objs.size+1) _ x c z with ⟨a,_⟩ | q
   ·exact (Nat.ne_of_lt (Nat.lt_of_lt_of_le (hlt b hb) (Nat.le_trans hCle (Nat.le_of_succ_le a)))).symm
   ·exact h4 x c (uX sc.names [] (λ z=>nomatch z) q)
  ·rcases mem_append.mp hp with z | z
   ·exact h5 p z
   ·exact absurd z (by simp)
 have st4:tn 0 h₁:=T.keep _ _ _ st2 λ b hb o e=>old b o e
 have loop:codeAny (model X.prog X.w) X.A (.compLoop (.ListComp el [⟨tg,iter,ifs,0⟩] sc pos) 0 (.ref it) (.ref s2.heap.objs.size) (compEnvC sc (cellsFrom (G.objs.size+1) sc.names (zJ sc X.env)) G.objs.size X.env))
   (compPost (model X.prog X.w) X.A X.xe (some (assign (.Name y py) X.env)) (λ _ s'=>SP X pins D0 .next s') (.ref s2.heap.objs.size) G.objs.size) { s2 with heap:=h₁,toks:=s2.toks }:=by
  refine zS (X:=cxD X Nc sc G.objs.size s2 H2 fp pins) (.inl ⟨el,rfl⟩) hx hc (mW _ _ _ _ _ _ _ _ _) T (hg _ _ _ _ _) (hb _ _ _ _ _ _ _) I4 st4 f4 (hw _ hn) λ σ' H' s' I' q=>?_;obtain ⟨m',hm',_⟩:=I'.loc;have IB:Inv X pins σ H' { s' with heap:=s'.heap }:=kDN I2 f2 hCle I' (Heap.SameBut.refl ..)
  have nC:H' G.objs.size=none:=I'.free;have fC:zE X pins H' G.objs.size:=I2.fpOk hCle nC;show wpAny _ X.A (assign (.Name y py) X.env (.ref s2.heap.objs.size)) _ _ s';refine wpAny_assign_Name (bZ (v:=.ref s2.heap.objs.size) IB hN hiN hy rfl (λ s'' IC hsb=>?_) hf);obtain ⟨a,sb,ha⟩:=hsb
  have aC:G.objs.size≠a:=by
   rcases ha with rfl | ha
   ·exact fC.2.1
   ·exact λ z=>fC.2.2.2.2.1 y a ha z.symm
  refine ⟨m',hm'.sameBut sb aC,λ h' hs'=>?_⟩;exact ⟨_,H',IC.turnedL (t':=s''.toks) (ch:=[G.objs.size]) (λ b o hb' e=>hs'.extBut b o (λ z=>hb' (by simp [z])) e) (λ b hb'=>by rw [mem_singleton.mp hb'];exact fC),q⟩
 exact yW (.inl ⟨el,rfl⟩) rfl rfl loop (T.self _ _ _ _ _ st4 loop)
end
end L2
namespace HT
open PySem PySem.Spec PyProof.Rows
theorem pick_rev (its:List Value):slicePick its.toArray none none (some (-1))=its.reverse.toArray:=by
 unfold slicePick;have h1:(sliceBounds none none (some (-1)) its.toArray.size).1=(its.length:Int)-1:=by simp [sliceBounds]
 have h2:(sliceBounds none none (some (-1)) its.toArray.size).2.1 = -1:=by simp [sliceBounds]
 have h3:(sliceBounds none none (some (-1)) its.toArray.size).2.2 = -1:=by simp [sliceBounds]
 rw [h1,h2,h3];unfold sliceRange;dsimp only
 have hc:(if (-1:Int)>0 then if (its.length:Int)-1 < -1 then (-1-((its.length:Int)-1) + -1-1) / -1 else 0 else if (its.length:Int)-1 > -1 then ((its.length:Int)-1 - -1 - -1-1) / - -1 else 0).toNat=its.length:=by
  rw [if_neg (by decide)]
  split
  ·simp only [Int.neg_neg,Int.ediv_one]
   omega
  ·omega
 rw [hc,List.filterMap_map]
 congr 1
 rw [<-kFE its];refine gR _ λ k hk=>?_;show its.toArray[((its.length:Int)-1 + -1*(k:Int)).toNat]?=_;rw [List.getElem?_toArray]
 congr 2
 omega
end HT
namespace L2
open PySem PySem.Spec PyProof.Rows
section
variable {X:Cx}
def kMG (K:PySem.W.Frag) (te:TE) (ts:TO):TE:=λ σ H Q=>te σ H λ x H1=>ts σ H1 λ o H2=>∃ a xs,x=.ref a/\o=some (-1)/\H2 a=some (.lst xs)/\∀ p,H2 p=none->Q (.ref p) (upd H2 p (.lst xs.reverse))
theorem kIH {e st:Expr} {te:TE} {ts:TO} {p2 pos:Pos} (he:PE X e te) (hs:PO X (some st) ts):PE X (.Subscript e (.Slice none none (some st) p2) pos) (kMG X.K te ts):=by
 intro pins s σ H Q I h;refine Subscript_ (thn (he pins s σ H _ I h) λ v s1 ⟨x,H1,I1,r1,q1⟩=>?_);refine wpAny_Slice ?_;rw [evalPart_none];refine wpAny_pure ?_;refine wpAny_pure (thn (hs pins s1 σ H1 _ I1 q1) λ vt s3 ⟨o,H3,I3,pu,q3⟩=>?_);obtain ⟨a,xs,rfl,rfl,ha,q⟩:=q3;cases r1
 cases pu with
 | int i tk =>
  have I4:Inv X pins σ H3 { s3 with heap:=s3.heap.push { cls:=.type "slice",data:=.fields #[.none,.none,.int (-1) tk] } }:=I3.kept (t':=s3.toks) λ b ob q=>Heap.get?_push_of_some _ q
  obtain ⟨its,r,ht,hz⟩:=I4.list (SqL.of (K:=X.K) ha);have hl:=r.length;show wpAny (model X.prog X.w) X.A (subscriptTail e (.Slice none none (some st) p2) (.ref a) (.ref s3.heap.objs.size)) (EP X pins σ Q) X.xe { s3 with heap:=s3.heap.push { cls:=.type "slice",data:=.fields #[.none,.none,.int (-1) tk] } }
  refine tail_any (ops:=[.ref a,.ref s3.heap.objs.size]) ht.isList.typeIs slot_list_getitem.lookup ?_ (by with_unfolding_all rfl);refine wpAny_getItem_list_slice (lo:=none) (hi:=none) (st:=some (-1)) ht.isList (Heap.IsSliceOf.new ..) .none .none (.int _ _) (by simp) ?_ (by rw [size_toArray]<;>omega);rw [HT.pick_rev];refine ⟨.ref _,_,I4.laid (t':=s3.toks) (o:=.lst xs.reverse) (λ b ob q=>Heap.get?_push_of_some _ q) (Nat.le_refl _) ?_,rfl,q _ (I4.hok.fresh (Nat.le_refl _))⟩;exact ⟨by rw [length_reverse];exact hz,its.reverse,0,r.reverse,Heap.get?_push_size _ rfl⟩
end
end L2
namespace Fc
open Cyc Rnd Tri
def mgN (a b x:Nat):Nat:=if x=b then a else x
def goL (m:List Nat) (ls:List (Nat×Nat)):List Nat:=ls.foldl (λ m l=>m.map (mgN (m.getD l.1 0) (m.getD l.2 0))) m
theorem bP (m:List Nat) (l:Nat×Nat) (ls:List (Nat×Nat)):goL m (l::ls)=goL (m.map (mgN (m.getD l.1 0) (m.getD l.2 0))) ls:=rfl
theorem kBC:∀ (ls:List (Nat×Nat)) (m:List Nat),(goL m ls).length=m.length
 | [],_=>rfl
 | l::ls,m=>by rw [bP,kBC ls,length_map]
theorem mI:∀ (ls:List (Nat×Nat)) (m:List Nat) (c:Nat),(∀ x∈goL m ls,x=c)->∃ V:List Nat,V.length<=ls.length+1/\∀ x∈m,x∈V
 | [],m,c,h=>⟨[c],by simp,λ x hx=>by rw [h x hx];simp⟩
 | l::ls,m,c,h=>by
  rw [bP] at h;obtain ⟨V,h1,h2⟩:=mI ls _ c h;refine ⟨m.getD l.2 0::V,by simp;omega,λ x hx=>?_⟩;have:=h2 _ (mem_map.mpr ⟨x,hx,rfl⟩);unfold mgN at this
  split at this
  ·rename_i e
   rw [e];exact mem_cons_self ..
  ·exact mem_cons_of_mem _ this
theorem bI {m:List Nat} {f:Nat->Nat} {i:Nat} (h:i<m.length):(m.map f).getD i 0=f (m.getD i 0):=by
 rw [getD_eq_getElem?_getD,getD_eq_getElem?_getD,List.getElem?_map,List.getElem?_eq_getElem h]
 rfl
theorem rP:∀ (ls:List (Nat×Nat)) (m:List Nat) (i j:Nat),i<m.length->j<m.length->m.getD i 0=m.getD j 0->(goL m ls).getD i 0=(goL m ls).getD j 0
 | [],_,_,_,_,_,h=>h
 | l::ls,m,i,j,hi,hj,h=>by
  rw [bP];refine rP ls _ i j (by rw [length_map];exact hi) (by rw [length_map];exact hj) ?_;rw [bI hi,bI hj,h]
theorem rQ:∀ (ls:List (Nat×Nat)) (m:List Nat) (i j:Nat),i<m.length->j<m.length->(i,j)∈ls->(goL m ls).getD i 0=(goL m ls).getD j 0
 | l::ls,m,i,j,hi,hj,h=>by
  rw [bP];have hi':i<(m.map (mgN (m.getD l.1 0) (m.getD l.2 0))).length:=by rw [length_map];exact hi
  have hj':j<(m.map (mgN (m.getD l.1 0) (m.getD l.2 0))).length:=by rw [length_map];exact hj
  rcases mem_cons.mp h with e | h
  ·refine rP ls _ i j hi' hj' ?_
   rw [<-e,bI hi,bI hj];unfold mgN;simp only
   split<;>simp
  ·exact rQ ls _ i j hi' hj' h
theorem tW {F:Nat} {ls:List (Nat×Nat)} (rng:∀ l∈ls,l.1<F/\l.2<F) (all:∀ m:List Nat,m.length=F->(∀ l∈ls,m.getD l.1 0=m.getD l.2 0)->∀ i,i<F->m.getD i 0=m.getD 0 0):F<=ls.length+1:=by
 have hl:=kBC ls (List.range F);rw [length_range] at hl;have a:=all (goL (List.range F) ls) hl λ l hl'=>rQ ls _ l.1 l.2 (by rw [length_range];exact (rng l hl').1) (by rw [length_range];exact (rng l hl').2) hl'
 obtain ⟨V,h1,h2⟩:=mI ls (List.range F) ((goL (List.range F) ls).getD 0 0) λ x hx=>by
  obtain ⟨i,hi,rfl⟩:=mem_iff_getElem.mp hx;rw [<-a i (by omega),getD_eq_getElem?_getD,List.getElem?_eq_getElem hi]
  rfl
 have:=List.Nodup.length_le_of_subset nodup_range h2;rw [length_range] at this;omega
theorem kAU {p:Nat->Prop} (h:∃ k,p k):∃ k,p k/\∀ j,j<k->¬ p j:=by
 obtain ⟨k,hk⟩:=h
 induction k using Nat.strongRecOn with
 | _ k ih =>
  by_cases c:∃ j,j<k/\p j
  ·obtain ⟨j,hj,hp⟩:=c
   exact ih j hj hp
  ·exact ⟨k,hk,λ j hj hp=>c ⟨j,hj,hp⟩⟩
theorem aD {row:List Nat} (nd:row.Nodup) {P:Nat->Prop} {y w0:Nat} (hy:y∈row) (h0:w0∈row) (p0:P w0) (st:∀ w v,w∈row->w≠y->jL row w=some v->P w->P v):P y:=by
 obtain ⟨jy,hj,rfl⟩:=mem_iff_getElem.mp hy;obtain ⟨i0,hi,rfl⟩:=mem_iff_getElem.mp h0;have idx:∀ i (h:i<row.length),row.idxOf row[i]=i:=λ i h=>(getElem_inj nd).mp (List.getElem_idxOf (idxOf_lt_length_of_mem (getElem_mem h)));have ne:∀ i (h:i<row.length),i≠jy->row[i]≠row[jy]:=λ i h n z=>n ((getElem_inj nd).mp z)
 have step:∀ i (h:i+1<row.length),i+1≠jy->P row[i+1]->P row[i]:=λ i h n p=>by
  refine st _ _ (getElem_mem h) (ne _ h n) ?_ p;unfold jL;rw [idx _ h,if_neg (by omega),show i+1-1=i by omega,List.getElem?_eq_getElem (by omega)]
 have wrap:∀ (h:0<row.length),0≠jy->P row[0]->P (row[row.length-1]'(by omega)):=λ h n p=>by
  refine st _ _ (getElem_mem h) (ne _ h n) ?_ p;unfold jL;rw [idx _ h,if_pos rfl,List.getLast?_eq_getElem?,List.getElem?_eq_getElem (by omega)]
 have down:∀ k i (h:i+k<row.length),(∀ t,i<t->t<=i+k->t≠jy)->P row[i+k]->P (row[i]'(by omega)):=λ k=>by
  induction k with
  | zero=>exact λ i h _ p=>p
  | succ k ih =>
   intro i h n p;exact ih i (by omega) (λ t h1 h2=>n t h1 (by omega)) (step (i+k) (by omega) (n _ (by omega) (by omega)) p)
 rcases Nat.lt_or_ge i0 jy with c | c
 ·have a:=down i0 0 (by omega) (λ t h1 h2=>by omega) (by simpa using p0)
  have b:=wrap (by omega) (by omega) a;have:=down (row.length-1-jy) jy (by omega) (λ t h1 h2=>by omega) (by simpa [show jy+(row.length-1-jy)=row.length-1 by omega] using b);exact this
 ·have:=down (i0-jy) jy (by omega) (λ t h1 h2=>by omega) (by simpa [show jy+(i0-jy)=i0 by omega] using p0)
  exact this
section
variable {W:Rows} {par dist:Nat->Nat}
theorem kBM (dist:Nat->Nat):∀ n:Nat,∃ N,∀ v,v<n->dist v<=N
 | 0=>⟨0,λ v h=>by omega⟩
 | n+1=>by
  obtain ⟨N,h⟩:=kBM dist n;refine ⟨max N (dist n),λ v hv=>?_⟩;rcases Nat.lt_or_ge v n with c | c
  ·have:=h v c
   omega
  ·rw [show v=n by omega]
   omega
end
section
variable {W:Rows} {par dist:Nat->Nat}
theorem kHX (S:Nb W):∃ R:List (Nat×Nat),R.length=(facesS W).length/\(∀ r∈R,r∈kS W)/\(∀ t∈kS W,∃ i,∃ (h:i<R.length),t∈rnd W R[i])/\∀ t i j (hi:i<R.length) (hj:j<R.length),t∈rnd W R[i]->t∈rnd W R[j]->i=j:=by
 have sub:∀ t∈stepsS W,t∈kS W:=λ t ht=>(sortP_perm _).mem_iff.mp ht;have I:=fgo_ok S (stepsS W) sub;obtain ⟨R,r1,r2,r3⟩:=I.reps
 have lf:(facesS W).length=R.length:=by
  rw [show (facesS W).length=(uH W).length from (vB _).length_eq];show (fgo W (stepsS W)).1.length=_;rw [r2,length_map]
 have nd:=I.nd;rw [r3] at nd;have pw:=(List.pairwise_flatMap.mp nd).2;refine ⟨R,lf.symm,λ r hr=>sub r (r1 r hr),λ t ht=>?_,λ t i j hi hj h1 h2=>?_⟩
 ·have:=I.cov t ((sortP_perm _).mem_iff.mpr ht)
  rw [r3] at this;obtain ⟨r,hr,h⟩:=List.mem_flatMap.mp this;obtain ⟨i,hi,rfl⟩:=mem_iff_getElem.mp hr;exact ⟨i,hi,h⟩
 ·rcases Nat.lt_trichotomy i j with c | c | c
  ·exact absurd rfl (pairwise_iff_getElem.mp pw i j hi hj c t h1 t h2)
  ·exact c
  ·exact absurd rfl (pairwise_iff_getElem.mp pw j i hj hi c t h2 t h1)
end
section
variable {W W':Rows}
end
section
variable {W W' L:Rows}
end
section
variable {W W':Rows}
end
def RC (W:Rows) (C:List Nat):Nat->Nat->Prop
 | 0,v=>v∈C
 | k+1,v=>∃ u,RC W C k u/\E W u v
theorem kMO {W:Rows} {C:List Nat} {c v:Nat} (hc:c∈C) (h:Reach W c v):∃ k,RC W C k v:=by
 induction h with
 | here=>exact ⟨0,hc⟩
 | more _ e ih =>
  obtain ⟨k,hk⟩:=ih;exact ⟨k+1,_,hk,e⟩
structure CTree (W:Rows) (C:List Nat) (par dist:Nat->Nat):Prop where
 e:∀ v,v<W.length->v∉C->E W (par v) v
 d:∀ v,v<W.length->v∉C->dist (par v)+1=dist v
theorem kHD {W:Rows} {C:List Nat} (con:∀ v,v<W.length->∃ c∈C,Reach W c v):∃ par dist,CTree W C par dist:=by
 have h1:∀ v,∃ k,v<W.length->RC W C k v/\∀ j,j<k->¬ RC W C j v:=λ v=>by
  by_cases c:v<W.length
  ·obtain ⟨c0,hc0,r⟩:=con v c
   obtain ⟨k,hk⟩:=kAU (kMO hc0 r);exact ⟨k,λ _=>hk⟩
  ·exact ⟨0,λ z=>absurd z c⟩
 have hd:=λ v=>Classical.choose_spec (h1 v);generalize hD:(λ v=>Classical.choose (h1 v))=dist at *
 have hd:∀ v,v<W.length->RC W C (dist v) v/\∀ j,j<dist v->¬ RC W C j v:=λ v hv=>by
  rw [<-hD];exact hd v hv
 have h2:∀ v,∃ u,v<W.length->v∉C->E W u v/\dist u+1=dist v:=λ v=>by
  by_cases c:v<W.length/\v∉C
  ·obtain ⟨a,b⟩:=hd v c.1
   cases e:dist v with
   | zero =>
    rw [e] at a;exact absurd a c.2
   | succ k =>
    rw [e] at a b;obtain ⟨u,hu,eu⟩:=a
    have ul:u<W.length:=by
     obtain ⟨row,er,_⟩:=eu;exact (List.getElem?_eq_some_iff.mp er).1
    obtain ⟨a',b'⟩:=hd u ul;refine ⟨u,λ _ _=>⟨eu,?_⟩⟩;have q1:¬ k<dist u:=λ z=>b' k z hu;have q2:¬ dist u+1<k+1:=λ z=>b _ z ⟨u,a',eu⟩;omega
  ·exact ⟨0,λ z1 z2=>absurd ⟨z1,z2⟩ c⟩
 exact ⟨λ v=>Classical.choose (h2 v),dist,λ v h n=>(Classical.choose_spec (h2 v) h n).1,λ v h n=>(Classical.choose_spec (h2 v) h n).2⟩
section
variable {W:Rows} {C:List Nat} {par dist:Nat->Nat} {lab:Nat->Nat->Nat}
theorem nO (S:Nb W) {z:Nat} (hz:z<W.length):∃ r,W[z]?=some r/\r.Nodup/\(∀ w,w∈r↔E W z w)/\∀ w v,jL r w=some v->nxt W (w,z)=(z,v):=by
 refine ⟨W[z],List.getElem?_eq_getElem hz,S.nd z _ (List.getElem?_eq_getElem hz),λ w=>⟨λ m=>⟨_,List.getElem?_eq_getElem hz,m⟩,λ ⟨r,er,m⟩=>?_⟩,λ w v h=>?_⟩
 ·rw [List.getElem?_eq_getElem hz] at er
  cases er
  exact m
 ·show (z,(jL (W.getD z []) w).getD 0)=(z,v)
  rw [getD_eq_getElem?_getD,List.getElem?_eq_getElem hz];show (z,(jL W[z] w).getD 0)=(z,v);rw [h]
  rfl
def Fit (W:Rows) (lab:Nat->Nat->Nat):Prop:=∀ x y v,E W x y->nxt W (x,y)=(y,v)->lab y v=lab x y
theorem kJB (S:Nb W) (T:CTree W C par dist) (c1:Fit W lab)
  (c2:∀ x y,E W x y->¬ ((y∉C/\par y=x)\/(x∉C/\par x=y)\/Nx C x y\/Nx C y x)->lab x y=lab y x):∀ x y,E W x y->¬ Nx C x y->¬ Nx C y x->lab x y=lab y x:=by
 obtain ⟨N,hN⟩:=kBM dist W.length
 have child:∀ k z,z<W.length->z∉C->N-dist z=k->lab (par z) z=lab z (par z):=λ k=>by
  induction k using Nat.strongRecOn with
  | _ k ih =>
   intro z hz z0 hk;obtain ⟨r,er,nd,mem,nx⟩:=nO S hz;have ep:=T.e z hz z0;obtain ⟨v,rv,nv,ev⟩:=cB S ep;refine (aD nd (P:=λ w=>lab z w=lab (par z) z) ((mem _).mpr (S.sym _ _ ep)) ((mem v).mpr ev) (c1 _ _ _ ep nv) λ w u hw nw hu pw=>?_).symm;have ew:=(mem w).mp hw
   have back:lab z w=lab w z:=by
    by_cases t:(w∉C/\par w=z)\/(z∉C/\par z=w)\/Nx C z w\/Nx C w z
    ·rcases t with ⟨w0',pw'⟩ | ⟨_,pz⟩ | h | h
     ·have hwl:=(S.e ew).2.1
      have d1:=T.d w hwl w0';rw [pw'] at d1;have:=hN w hwl;have q:=ih (N-dist w) (by omega) w hwl w0' rfl;rwa [pw'] at q
     ·exact absurd pz.symm nw
     ·exact absurd (qD h).1 z0
     ·exact absurd (qD h).2 z0
    ·exact c2 z w ew t
   rw [c1 w z u (S.sym _ _ ew) (nx w u hu),<-back,pw]
 intro x y e n1 n2;by_cases t:(y∉C/\par y=x)\/(x∉C/\par x=y)\/Nx C x y\/Nx C y x
 ·rcases t with ⟨h,rfl⟩ | ⟨h,rfl⟩ | h | h
  ·exact child _ y (S.e e).2.1 h rfl
  ·exact (child _ x (S.e e).1 h rfl).symm
  ·exact absurd h n1
  ·exact absurd h n2
 ·exact c2 x y e t
theorem kAW (S:Nb W) (c1:Fit W lab) (sy:∀ x y,E W x y->¬ Nx C x y->¬ Nx C y x->lab x y=lab y x) {z w w':Nat} (hz:z∉C) (e:E W z w) (e':E W z w'):lab z w=lab z w':=by
 obtain ⟨r,er,nd,mem,nx⟩:=nO S (S.e e).1;refine aD nd (P:=λ u=>lab z u=lab z w') ((mem w).mpr e) ((mem w').mpr e') rfl λ u v hu _ hv p=>?_;have eu:=(mem u).mp hu;rw [c1 u z v (S.sym _ _ eu) (nx u v hv),<-sy z u eu (λ h=>hz (qD h).1) (λ h=>hz (qD h).2)];exact p
theorem fF (S:Nb W) (nd:C.Nodup) (c1:Fit W lab) (ce:∀ p q,Nx C p q->E W p q) (sy:∀ x y,E W x y->¬ Nx C x y->¬ Nx C y x->lab x y=lab y x) {p c n:Nat} (h1:Nx C p c) (h2:Nx C c n):lab c n=lab p c:=by
 have e1:=ce _ _ h1;have e2:=ce _ _ h2;obtain ⟨r,er,ndr,mem,nx⟩:=nO S (S.e e2).1;obtain ⟨v,rv,nv,ev⟩:=cB S e1;refine aD ndr (P:=λ u=>lab c u=lab p c) ((mem n).mpr e2) ((mem v).mpr ev) (c1 _ _ _ e1 nv) λ u v hu ne hv q=>?_;have eu:=(mem u).mp hu;rw [c1 u c v (S.sym _ _ eu) (nx u v hv)];by_cases up:u=p
 ·rw [up]
 ·rw [<-sy c u eu (λ h=>ne (jT nd h h2)) (λ h=>up (xC nd h h1))]
  exact q
theorem kJA (S:Nb W) (nd:C.Nodup) (c1:Fit W lab) (ce:∀ p q,Nx C p q->E W p q) (sy:∀ x y,E W x y->¬ Nx C x y->¬ Nx C y x->lab x y=lab y x) {p c n w:Nat} (h1:Nx C p c) (h2:Nx C c n) (e:E W c w):lab c w=lab p c\/lab c w=lab n c:=by
 have e2:=ce _ _ h2;obtain ⟨r,er,ndr,mem,nx⟩:=nO S (S.e e2).1;refine aD ndr (P:=λ u=>lab c u=lab p c\/lab c u=lab n c) ((mem w).mpr e) ((mem n).mpr e2) (.inl (fF S nd c1 ce sy h1 h2)) λ u v hu ne hv q=>?_;have eu:=(mem u).mp hu;rw [c1 u c v (S.sym _ _ eu) (nx u v hv)];by_cases un:u=n
 ·exact .inr (by rw [un])
 ·by_cases up:u=p
  ·exact .inl (by rw [up])
  ·rw [<-sy c u eu (λ h=>un (jT nd h h2)) (λ h=>up (xC nd h h1))]
   exact q
theorem kJC (S:Nb W) (T:CTree W C par dist) (nd:C.Nodup) (c1:Fit W lab) (ce:∀ p q,Nx C p q->E W p q) (sy:∀ x y,E W x y->¬ Nx C x y->¬ Nx C y x->lab x y=lab y x) {p q:Nat} (h:Nx C p q) (eq:lab p q=lab q p) :
  ∀ x y,E W x y->lab x y=lab p q:=by
 have one:∀ c n,Nx C c n->lab c n=lab p q->lab n c=lab p q->∀ w,E W c w->lab c w=lab p q:=λ c n hn a b w e=>by
  obtain ⟨v,hv⟩:=fE (qD hn).1;have hv:=vE nd (qD hn).1 hv;rcases kJA S nd c1 ce sy hv hn e with z | z
  ·rw [z,<-fF S nd c1 ce sy hv hn,a]
  ·rw [z,b]
 have onC:∀ y∈C,∀ w,E W y w->lab y w=lab p q:=λ y hy=>by
  refine aD nd (P:=λ c=>∀ w,E W c w->lab c w=lab p q) hy (qD h).1 (one p q h rfl eq.symm) λ c v hc _ hv z=>?_;have hv:=vE nd hc hv;obtain ⟨n,hn⟩:=vI hc;refine one v c hv ?_ (z v (S.sym _ _ (ce _ _ hv)));rw [<-fF S nd c1 ce sy hv hn];exact z n (ce _ _ hn)
 have tree:∀ k z,z<W.length->dist z=k->∀ w,E W z w->lab z w=lab p q:=λ k=>by
  induction k using Nat.strongRecOn with
  | _ k ih =>
   intro z hz hk w e;by_cases hc:z∈C
   ·exact onC z hc w e
   ·have ep:=T.e z hz hc
    have d1:=T.d z hz hc;rw [kAW S c1 sy hc e (S.sym _ _ ep),<-sy _ _ ep (λ h=>hc (qD h).2) (λ h=>hc (qD h).1)];exact ih _ (by omega) _ (S.e ep).1 rfl _ ep
 exact λ x y e=>tree _ x (S.e e).1 rfl y e
def pN (v u:Nat):Nat×Nat:=if v<u then (v,u) else (u,v)
theorem kEN {v u w x:Nat} (h:pN v u=pN w x):(v=w/\u=x)\/(v=x/\u=w):=by
 unfold pN at h
 split at h<;>split at h<;>injection h with h1 h2<;>omega
theorem kLI {v w:Nat} (nd:C.Nodup) (h1:Nx C v w) (h2:Nx C w v):C.length<=2:=by
 have all:∀ x∈C,x=v\/x=w:=λ x hx=>by
  refine aD nd (P:=λ x=>x=v\/x=w) hx (qD h1).1 (.inl rfl) λ y u hy _ hu p=>?_;have hu:=vE nd hy hu;rcases p with rfl | rfl
  ·exact .inr (xC nd hu h2)
  ·exact .inl (xC nd hu h1)
 have:=List.Nodup.length_le_of_subset nd (l₂:=[v,w]) λ x hx=>by
  rcases all x hx with rfl | rfl<;>simp
 simpa using this
def CtP (C:List Nat) (par:Nat->Nat) (t:Nat×Nat):Prop:=(t.2∉C/\par t.2=t.1)\/(t.1∉C/\par t.1=t.2)\/Nx C t.1 t.2\/Nx C t.2 t.1
open Classical in
theorem sB (S:Nb W) (T:CTree W C par dist) (nd:C.Nodup) (l3:3<=C.length) (ce:∀ p q,Nx C p q->E W p q):W.length<=((tiesS W).filter λ t=>decide (CtP C par t)).length:=by
 have up:∀ v,∃ u,v<W.length->(v∈C/\Nx C v u)\/(v∉C/\u=par v):=λ v=>by
  by_cases c:v∈C
  ·obtain ⟨u,hu⟩:=vI c
   exact ⟨u,λ _=>.inl ⟨c,hu⟩⟩
  ·exact ⟨par v,λ _=>.inr ⟨c,rfl⟩⟩
 have ups:=λ v=>Classical.choose_spec (up v);generalize hU:(λ v=>Classical.choose (up v))=f at *
 have ups:∀ v,v<W.length->(v∈C/\Nx C v (f v))\/(v∉C/\f v=par v):=λ v hv=>by
  rw [<-hU];exact ups v hv
 have ndl:((List.range W.length).map λ v=>pN v (f v)).Nodup:=by
  refine pairwise_map.mpr (List.pairwise_lt_range.imp_of_mem λ {a b} ha hb hab e=>?_);have ha:=mem_range.mp ha;have hb:=mem_range.mp hb;rcases kEN e with ⟨z,_⟩ | ⟨z1,z2⟩
  ·omega
  ·rcases ups a ha with ⟨ca,na⟩ | ⟨ca,na⟩<;>rcases ups b hb with ⟨cb,nb⟩ | ⟨cb,nb⟩
   ·rw [z2] at na
    rw [<-z1] at nb;have:=kLI nd na nb;omega
   ·rw [z2] at na
    exact cb (qD na).2
   ·rw [<-z1] at nb
    exact ca (qD nb).2
   ·have da:=T.d a ha ca
    have db:=T.d b hb cb;rw [<-na,z2] at da;rw [<-nb,<-z1] at db;omega
 have:=List.Nodup.length_le_of_subset ndl (l₂:=(tiesS W).filter λ t=>decide (CtP C par t)) λ t ht=>by
  obtain ⟨v,hv,rfl⟩:=mem_map.mp ht;have hv:=mem_range.mp hv
  have two:E W v (f v)/\CtP C par (v,f v)/\CtP C par (f v,v):=by
   rcases ups v hv with ⟨c,n⟩ | ⟨c,n⟩
   ·exact ⟨ce _ _ n,.inr (.inr (.inl n)),.inr (.inr (.inr n))⟩
   ·rw [n]
    exact ⟨S.sym _ _ (T.e v hv c),.inr (.inl ⟨c,rfl⟩),.inl ⟨c,rfl⟩⟩
  obtain ⟨e,p1,p2⟩:=two;have ne:=(S.e e).2.2;unfold pN tiesS;rw [mem_filter,mem_filter,mem_stepsS]
  split
  ·rename_i c
   exact ⟨⟨e,decide_eq_true c⟩,decide_eq_true p1⟩
  ·rename_i c
   exact ⟨⟨S.sym _ _ e,decide_eq_true (by show f v<v;omega)⟩,decide_eq_true p2⟩
 rw [length_map,length_range] at this;exact this
open Classical in
theorem kLT (S:Nb W) (con:∀ v,v<W.length->Reach W 0 v) (fl:W.length+(facesS W).length=(tiesS W).length+2) (nd:C.Nodup) (l3:3<=C.length) (ce:∀ p q,Nx C p q->E W p q) :
  ∃ lab:Nat->Nat->Nat,Fit W lab/\(∀ x y,E W x y->¬ Nx C x y->¬ Nx C y x->lab x y=lab y x)/\∀ p q,Nx C p q->lab p q≠lab q p:=by
 refine Classical.byContradiction λ no=>?_
 obtain ⟨c0,hc0⟩ : ∃ c,c∈C:=by
  cases C with
  | nil=>simp at l3
  | cons c C=>exact ⟨c,mem_cons_self⟩
 obtain ⟨c1,hc1⟩:=vI hc0;have e01:=ce _ _ hc1;have lc:=(S.e e01).1;obtain ⟨par,dist,T⟩:=kHD (C:=C) λ v hv=>⟨c0,hc0,(Reach.symm S.sym (con c0 lc)).trans (con v hv)⟩;obtain ⟨R,lR,rS,cov,uni⟩:=kHX S
 have hfi:∀ t,∃ i,t∈kS W->∃ (h:i<R.length),t∈rnd W R[i]:=λ t=>by
  by_cases c:t∈kS W
  ·obtain ⟨i,h,m⟩:=cov t c
   exact ⟨i,λ _=>⟨h,m⟩⟩
  ·exact ⟨0,λ z=>absurd z c⟩
 have fis:=λ t=>Classical.choose_spec (hfi t);generalize hF:(λ t=>Classical.choose (hfi t))=fi at *
 have fis:∀ t,t∈kS W->∃ (h:fi t<R.length),t∈rnd W R[fi t]:=λ t ht=>by
  subst hF;exact fis t ht
 have fnx:∀ t,t∈kS W->fi (nxt W t)=fi t:=λ t ht=>by
  obtain ⟨h1,m1⟩:=fis t ht;have hn:=pU S (rS _ (getElem_mem h1)) m1;have hs:=rnd_sub S (rS _ (getElem_mem h1)) hn;obtain ⟨h2,m2⟩:=fis _ hs;exact uni _ _ _ h2 h1 m2 hn
 have frp:∀ i (h:i<R.length),fi R[i]=i:=λ i h=>by
  have hr:=rS _ (getElem_mem h);obtain ⟨h2,m2⟩:=fis _ hr;exact uni _ _ _ h2 h m2 (rnd_self S hr)
 have st:∀ x y,E W x y->(x,y)∈kS W:=λ x y e=>mem_steps.mpr e
 have ls:R.length<=(((tiesS W).filter λ t=>!decide (CtP C par t)).map λ t=>(fi t,fi (t.2,t.1))).length+1:=by
  refine tW (λ l hl=>?_) λ m lm hl i hi=>?_
  ·obtain ⟨t,ht,rfl⟩:=mem_map.mp hl
   have ht:=(mem_filter.mp ht).1;unfold tiesS at ht;have e:=mem_stepsS.mp (mem_filter.mp ht).1;exact ⟨(fis t (st _ _ e)).1,(fis (t.2,t.1) (st _ _ (S.sym _ _ e))).1⟩
  ·have f1:Fit W (λ x y=>m.getD (fi (x,y)) 0):=λ x y v e n=>by
    have:=fnx _ (st x y e);rw [n] at this;show m.getD (fi (y,v)) 0=_;rw [this]
   have sy:=kJB (lab:=λ x y=>m.getD (fi (x,y)) 0) S T f1 λ x y e nt=>by
    show m.getD (fi (x,y)) 0=m.getD (fi (y,x)) 0;have ne:=(S.e e).2.2;rcases Nat.lt_or_ge x y with c | c
    ·exact hl (fi (x,y),fi (y,x)) (mem_map.mpr ⟨(x,y),mem_filter.mpr ⟨mem_filter.mpr ⟨mem_stepsS.mpr e,decide_eq_true c⟩,by rw [decide_eq_false (show ¬ CtP C par (x,y) from nt)];rfl⟩,rfl⟩)
    ·have nt':¬ CtP C par (y,x):=λ z=>nt (by
      rcases z with z | z | z | z
      ·exact .inr (.inl z)
      ·exact .inl z
      ·exact .inr (.inr (.inr z))
      ·exact .inr (.inr (.inl z)))
     exact (hl (fi (y,x),fi (x,y)) (mem_map.mpr ⟨(y,x),mem_filter.mpr ⟨mem_filter.mpr ⟨mem_stepsS.mpr (S.sym _ _ e),decide_eq_true (by show y<x;omega)⟩,by rw [decide_eq_false nt'];rfl⟩,rfl⟩)).symm
   have ex:∃ p q,Nx C p q/\m.getD (fi (p,q)) 0=m.getD (fi (q,p)) 0:=Classical.byContradiction λ z=>no ⟨_,f1,sy,λ p q h e=>z ⟨p,q,h,e⟩⟩;obtain ⟨p,q,h,e⟩:=ex;have all:=kJC S T nd f1 ce sy h e
   have key:∀ i,i<R.length->m.getD i 0=m.getD (fi (p,q)) 0:=λ i hi=>by
    have e:E W R[i].1 R[i].2:=mem_steps.mp (rS _ (getElem_mem hi));have:=all _ _ e;rw [show (R[i].1,R[i].2)=R[i] from rfl,frp i hi] at this;exact this
   rw [key i hi,key 0 (by omega)]
 have tc:=sB S T nd l3 ce
 have sum:((tiesS W).filter λ t=>decide (CtP C par t)).length+((tiesS W).filter λ t=>!decide (CtP C par t)).length=(tiesS W).length:=by
  have:∀ l:List (Nat×Nat),(l.filter λ t=>decide (CtP C par t)).length+(l.filter λ t=>!decide (CtP C par t)).length=l.length:=λ l=>by
   induction l with
   | nil=>rfl
   | cons t l ih =>
    rw [filter_cons,filter_cons]
    cases decide (CtP C par t)<;>simp<;>omega
  exact this _
 rw [length_map] at ls;omega
end
section
variable {W:Rows} {C:List Nat} {lab:Nat->Nat->Nat}
theorem vH (A:List Nat) (x y:Nat) (B:List Nat):Nx (A++x::y::B) x y:=by
 show Adj ((A++x::y::B)++(A++x::y::B).head?.toList) x y;rw [append_assoc];exact (qZ A x _ x y).mpr (.inr (.inl ⟨rfl,rfl⟩))
theorem kBR:∀ {l:List Nat} {p q:Nat},Adj l.reverse p q->Adj l q p
 | [],_,_,h=>h.elim
 | [x],_,_,h=>h.elim
 | x::y::r,p,q,h=>by
  rw [reverse_cons,reverse_cons,append_assoc] at h;rcases (qZ _ y [x] p q).mp h with h | h
  ·refine .inr (kBR (l:=y::r) ?_)
   rw [reverse_cons];exact h
  ·rcases h with ⟨rfl,rfl⟩ | h
   ·exact .inl ⟨rfl,rfl⟩
   ·exact h.elim
theorem kGG (S:Nb W) (c1:Fit W lab) {k t:Nat} {row A B:List Nat} (er:W[k]?=some row):∀ (seg:List Nat),Ro row (A++seg++t::B)->(∀ z∈seg.tail,lab k z=lab z k)->∀ z∈seg,lab k z=lab t k:=by
 have one:∀ (u v:Nat) (A B:List Nat),Ro row (A++u::v::B)->lab k u=lab v k:=λ u v A B ro=>by
  have r:R W k u v:=⟨row,er,(ro.nx u v).mpr (vH A u v B)⟩;exact c1 v k u (S.sym _ _ (oS r).2) (oH S.nd r)
 suffices H:∀ (n:Nat) (seg A B:List Nat) (t:Nat),seg.length=n->Ro row (A++seg++t::B)->(∀ z∈seg.tail,lab k z=lab z k)->∀ z∈seg,lab k z=lab t k from λ seg=>H _ seg A B t rfl
 intro n
 induction n with
 | zero =>
  intro seg A B t hn _ _ z hz;rw [length_eq_zero_iff.mp hn] at hz;cases hz
 | succ n ih =>
  intro seg A B t hn ro sy z hz;have ne:seg≠[]:=λ e=>by rw [e] at hn;cases hn
  obtain ⟨I,u,rfl⟩ : ∃ I u,seg=I++[u]:=⟨seg.dropLast,seg.getLast ne,(dropLast_concat_getLast ne).symm⟩;have hu:lab k u=lab t k:=one u t (A++I) B (by simpa using ro);rcases mem_append.mp hz with m | m
  ·have ln:I.length=n:=by simpa using hn
   have q:=ih I A (t::B) u ln (by simpa using ro) (λ z hz=>by
    cases I with
    | nil=>cases hz
    | cons i I=>exact sy z (by simp at hz ⊢;exact .inl hz)) z m
   rw [q,<-hu]
   cases I with
   | nil=>cases m
   | cons i I=>exact (sy u (by simp)).symm
  ·rw [mem_singleton.mp m]
   exact hu
theorem kGF (S:Nb W) (c1:Fit W lab) {k:Nat} {row:List Nat} (er:W[k]?=some row):∀ (seg A B:List Nat) (t:Nat),Ro row (A++t::(seg++B))->(∀ z∈seg,lab k z=lab z k)->∀ z∈seg,lab k z=lab k t
 | [],_,_,_,_,_,z,hz=>by cases hz
 | u::seg,A,B,t,ro,sy,z,hz=>by
  have r:R W k t u:=⟨row,er,(ro.nx t u).mpr (vH A t u _)⟩;have hu:lab k t=lab u k:=c1 u k t (S.sym _ _ (oS r).2) (oH S.nd r);have hu':lab k u=lab k t:=by rw [sy u (by simp),hu]
  rcases mem_cons.mp hz with rfl | m
  ·exact hu'
  ·rw [<-hu']
   exact kGF S c1 er seg (A++[t]) B u (by simpa using ro) (λ z hz=>sy z (mem_cons_of_mem _ hz)) z m
theorem cT (S:Nb W) (c1:Fit W lab) (sy:∀ x y,E W x y->¬ Nx C x y->¬ Nx C y x->lab x y=lab y x) {β:Nat}:∀ (D:List Nat) (e0:Nat),(∀ p q,Adj (e0::D) p q->E W p q)->(∀ d∈D,d∉C)->(∀ d1,D.head?=some d1->lab e0 d1=β)->∀ d∈D,∀ w,E W d w->lab d w=β
 | [],_,_,_,_,d,hd,_,_=>by cases hd
 | d1::D,e0,ad,nc,h1,d,hd,w,e=>by
  have e1:=ad e0 d1 (.inl ⟨rfl,rfl⟩);have n1:=nc d1 (by simp);have a:=h1 d1 rfl;have b:lab d1 e0=β:=by rw [<-sy e0 d1 e1 (λ h=>n1 (qD h).2) (λ h=>n1 (qD h).1)];exact a
  have all:∀ w,E W d1 w->lab d1 w=β:=λ w e=>by rw [kAW S c1 sy n1 e (S.sym _ _ e1)];exact b
  rcases mem_cons.mp hd with rfl | m
  ·exact all w e
  ·exact cT S c1 sy D d1 (λ p q h=>ad p q (.inr h)) (λ d hd=>nc d (mem_cons_of_mem _ hd)) (λ d2 h2=>by
    cases D with
    | nil=>cases h2
    | cons d3 D =>
     cases h2
     exact all d2 (ad d1 d2 (.inr (.inl ⟨rfl,rfl⟩)))) d m w e
theorem kJK (S:Nb W) (nd:C.Nodup) (c1:Fit W lab) (ce:∀ p q,Nx C p q->E W p q) (sy:∀ x y,E W x y->¬ Nx C x y->¬ Nx C y x->lab x y=lab y x) {p q p' q':Nat} (h:Nx C p q) (h':Nx C p' q'):lab p q=lab p' q':=by
 have:=aD nd (P:=λ c=>∀ n,Nx C c n->lab c n=lab p' q') (qD h).1 (qD h').1 (λ n hn=>by rw [jT nd hn h']) (λ c v hc _ hv z n hn=>by
  have hv:=vE nd hc hv;have:=jT nd hn hv;subst this;obtain ⟨m,hm⟩:=vI hc;rw [<-fF S nd c1 ce sy hv hm];exact z m hm)
 exact this q h
end
structure Pel (W:Rows) (a b:Nat) (T off:List Nat):Prop where
 nd:T.Nodup
 hd:T.head?=some a
 lt:T.getLast?=some b
 two:2<=T.length
 out:∀ x∈T,x∉off
 nof:off.Nodup
 inn:∀ x y,x∉off->x∉T->E W x y->y∉off
 row:∀ u v w,Nx T u v->Nx T v w->∃ row ins outs,W[v]?=some row/\Ro row (ins++outs)/\(∀ x∈ins,x∉off)/\(∀ x∈outs,x∈off)/\ins.head?=some u/\ins.getLast?=some w
section
variable {W:Rows} {T off:List Nat} {a b:Nat}
theorem Pel.path (h:Pel W a b T off) {u v:Nat} (n:Nx T u v):E W v u:=by
 obtain ⟨w,hw⟩:=vI (qD n).2;obtain ⟨row,ins,outs,er,ro,_,_,hh,_⟩:=h.row u v w n hw;refine ⟨row,er,(ro.mem u).mpr ?_⟩
 cases ins with
 | nil=>cases hh
 | cons i ins =>
  cases hh
  simp
theorem kDR {W:Rows} (G:Good W):W.length+(facesS W).length=(tiesS W).length+2:=((three_cornered (Wb.of G).toNb).mpr (aO G)).1
theorem vL {l:List Nat} {x:Nat} (h:l.getLast?=some x):∃ I,l=I++[x]:=by
 have ne:l≠[]:=λ z=>by rw [z] at h;cases h
 rw [List.getLast?_eq_some_getLast ne] at h;exact ⟨l.dropLast,by rw [<-Option.some.inj h];exact (dropLast_concat_getLast ne).symm⟩
theorem aI {l:List Nat} {x:Nat} (h:l.head?=some x):∃ I,l=x::I:=by
 cases l with
 | nil=>cases h
 | cons y l=>cases h;exact ⟨l,rfl⟩
theorem kNL (G:Good W) (h:Pel W a b T off) {A D M:List Nat} {x y k l:Nat} (e:T=A++(x::(k::M)++[y])++D) (ch:E W x y) (hl:l∈A++D) (ek:E W k l):False:=by
 have S:=(Wb.of G).toNb;have ndT:=h.nd;rw [e] at ndT;have d1:=nodup_append.mp ndT;have d2:=nodup_append.mp d1.1;have ndC:(x::(k::M)++[y]).Nodup:=d2.2.1
 have lC:l∉x::(k::M)++[y]:=λ z=>by
  rcases mem_append.mp hl with m | m
  ·exact d2.2.2 l m l z rfl
  ·exact d1.2.2 l (mem_append_right _ z) l m rfl
 have lT:l∈T:=by
  rw [e];rcases mem_append.mp hl with m | m
  ·exact mem_append_left _ (mem_append_left _ m)
  ·exact mem_append_right _ m
 have nT:∀ u v,Adj (x::(k::M)++[y]) u v->Nx T u v:=λ u v j=>by
  rw [e];exact (nxO u v).mpr (.inl j)
 have nC:∀ u v,Adj (x::(k::M)++[y]) u v->Nx (x::(k::M)++[y]) u v:=λ u v j=>(nxP (k::M) x y u v).mpr (.inl j);have nyx:Nx (x::(k::M)++[y]) y x:=(nxP (k::M) x y y x).mpr (.inr ⟨rfl,rfl⟩)
 have ce:∀ p q,Nx (x::(k::M)++[y]) p q->E W p q:=λ p q hn=>by
  rcases (nxP (k::M) x y p q).mp hn with j | ⟨rfl,rfl⟩
  ·exact S.sym _ _ (h.path (nT p q j))
  ·exact S.sym _ _ ch
 obtain ⟨lab,c1,sy,uneq⟩:=kLT S G.con (kDR G) ndC (by simp) ce
 have nonc:∀ {v p n z:Nat},Nx (x::(k::M)++[y]) p v->Nx (x::(k::M)++[y]) v n->E W v z->z≠p->z≠n->lab v z=lab z v:=λ hp hn ez n1 n2=>sy _ _ ez (λ hh=>n2 (jT ndC hh hn)) (λ hh=>n1 (xC ndC hh hp))
 have jxk:Adj (x::(k::M)++[y]) x k:=.inl ⟨rfl,rfl⟩
 obtain ⟨n,jkn⟩ : ∃ n,Adj (x::(k::M)++[y]) k n:=by
  cases M with
  | nil=>exact ⟨y,.inr (.inl ⟨rfl,rfl⟩)⟩
  | cons m M=>exact ⟨m,.inr (.inl ⟨rfl,rfl⟩)⟩
 have kA:lab k l=lab n k:=by
  obtain ⟨row,ins,outs,er,ro,hin,hout,hh,ht⟩:=h.row x k n (nT _ _ jxk) (nT _ _ jkn);obtain ⟨row',er',ml⟩:=id ek;rw [er] at er'
  cases er'
  have ndi:(ins++outs).Nodup:=ro.nd.mp (S.nd _ _ er)
  have li:l∈ins:=by
   rcases mem_append.mp ((ro.mem l).mp ml) with z | z
   ·exact z
   ·exact absurd (hout l z) (h.out l lT)
  obtain ⟨I,rfl⟩:=vL ht;have ndI:=(nodup_append.mp ndi).1
  have lI:l∈I:=by
   rcases mem_append.mp li with z | z
   ·exact z
   ·rw [mem_singleton.mp z] at lC
    exact absurd (qD (nC _ _ jkn)).2 lC
  refine kGG S c1 (A:=[]) (B:=outs) (t:=n) er I (by simpa using ro) (λ z hz=>?_) l lI;have zI:z∈I:=List.mem_of_mem_tail hz;refine nonc (nC _ _ jxk) (nC _ _ jkn) ⟨row,er,(ro.mem z).mpr (by simp [zI])⟩ (λ zx=>?_) (λ zn=>?_)
  ·cases I with
   | nil=>cases hz
   | cons i I =>
    have:i=x:=Option.some.inj hh;rw [cons_append,nodup_cons] at ndI;exact ndI.1 (mem_append_left _ (by rw [this,<-zx];exact hz))
  ·exact (nodup_append.mp ndI).2.2 z zI n (by simp) zn
 have back:∃ p q,Nx (x::(k::M)++[y]) p q/\lab l k=lab p q:=by
  rcases mem_append.mp hl with m | m
  ·-- ahead of x
   have neA:A≠[]:=List.ne_nil_of_mem m;obtain ⟨A',p0,rfl⟩ : ∃ I u,A=I++[u]:=⟨A.dropLast,A.getLast neA,(dropLast_concat_getLast neA).symm⟩
   have np0:Nx T p0 x:=by
    rw [e,show A'++[p0]++(x::(k::M)++[y])++D=A'++p0::x::((k::M)++[y]++D) by simp];exact vH _ _ _ _
   have key:lab x p0=lab y x:=by
    obtain ⟨row,ins,outs,er,ro,hin,hout,hh,ht⟩:=h.row p0 x k np0 (nT _ _ jxk);have ndi:(ins++outs).Nodup:=ro.nd.mp (S.nd _ _ er);have ndI:=(nodup_append.mp ndi).1;obtain ⟨row',er',my⟩:=id ch;rw [er] at er'
    cases er'
    have yT:y∈T:=by rw [e];simp
    have yi:y∈ins:=by
     rcases mem_append.mp ((ro.mem y).mp my) with z | z
     ·exact z
     ·exact absurd (hout y z) (h.out y yT)
    obtain ⟨I1,I2,rfl⟩:=List.append_of_mem yi;have p0y:p0≠y:=λ z=>d2.2.2 p0 (by simp) y (by simp) z
    have ky:k≠y:=λ z=>by
     rw [z] at ndC;simp at ndC
    have p0I:p0∈I1:=by
     cases I1 with
     | nil=>exact absurd (Option.some.inj hh).symm p0y
     | cons i I1=>rw [show p0=i from (Option.some.inj hh).symm];simp
    refine kGG S c1 (A:=[]) (B:=I2++outs) (t:=y) er I1 (by simpa using ro) (λ z hz=>?_) p0 p0I;have zI:z∈I1:=List.mem_of_mem_tail hz;refine nonc nyx (nC _ _ jxk) ⟨row,er,(ro.mem z).mpr (by simp [zI])⟩ (λ zy=>?_) (λ zk=>?_)
    ·exact (nodup_append.mp ndI).2.2 z zI y (by simp) zy
    ·obtain ⟨J,hJ⟩:=vL ht
     have kI:k∈y::I2:=by
      have:(I1++y::I2).getLast?=(y::I2).getLast?:=by rw [List.getLast?_append,List.getLast?_eq_some_getLast (List.cons_ne_nil y I2)];rfl
      rw [this] at ht;exact List.mem_of_getLast? ht
     exact (nodup_append.mp ndI).2.2 z zI k kI zk
   refine ⟨y,x,nyx,?_⟩;refine cT S c1 sy (A'++[p0]).reverse x (λ p q j=>?_) (λ d hd hc=>?_) (λ d1 hd=>?_) l (mem_reverse.mpr m) k (S.sym _ _ ek)
   ·have j':Adj (A'++[p0]++[x]).reverse p q:=by
     rw [reverse_append];exact j
    have j2:=kBR j';refine h.path (u:=q) (v:=p) ?_;rw [e];show Adj (A'++[p0]++(x::(k::M)++[y])++D++_) q p;rw [show A'++[p0]++(x::(k::M)++[y])++D=(A'++[p0])++x::((k::M)++[y]++D) by simp,append_assoc (A'++[p0])];exact (qZ _ x _ q p).mpr (.inl j2)
   ·exact d2.2.2 d (mem_reverse.mp hd) d hc rfl
   ·rw [reverse_append] at hd
    cases hd
    exact key
  ·-- behind y
   have neD:D≠[]:=List.ne_nil_of_mem m
   obtain ⟨d0,D',rfl⟩ : ∃ d0 D',D=d0::D':=by
    cases D with
    | nil=>exact absurd rfl neD
    | cons d0 D'=>exact ⟨d0,D',rfl⟩
   obtain ⟨Q,p,hQ⟩ : ∃ Q p,k::M=Q++[p]:=⟨(k::M).dropLast,(k::M).getLast (by simp),(dropLast_concat_getLast (by simp)).symm⟩
   have jpy:Adj (x::(k::M)++[y]) p y:=by
    rw [hQ,show x::(Q++[p])++[y]=(x::Q)++p::[y] by simp];exact (qZ (x::Q) p [y] p y).mpr (.inr (.inl ⟨rfl,rfl⟩))
   have nyd:Nx T y d0:=by
    rw [e,show A++(x::(k::M)++[y])++d0::D'=(A++x::(k::M))++y::d0::D' by simp];exact vH _ _ _ _
   have px:p≠x:=λ z=>by
    rw [hQ,z] at ndC;simp at ndC
   have key:lab y d0=lab y x:=by
    obtain ⟨row,ins,outs,er,ro,hin,hout,hh,ht⟩:=h.row p y d0 (nT _ _ jpy) nyd;have ndi:(ins++outs).Nodup:=ro.nd.mp (S.nd _ _ er);have ndI:=(nodup_append.mp ndi).1;obtain ⟨row',er',mx⟩:=S.sym _ _ ch;rw [er] at er'
    cases er'
    have xT:x∈T:=by rw [e];simp
    have xi:x∈ins:=by
     rcases mem_append.mp ((ro.mem x).mp mx) with z | z
     ·exact z
     ·exact absurd (hout x z) (h.out x xT)
    obtain ⟨I1,I2,rfl⟩:=List.append_of_mem xi;have d0x:d0≠x:=λ z=>d1.2.2 x (by simp) d0 (by simp) z.symm
    have dI:d0∈I2:=by
     have e2:(I1++x::I2).getLast?=(x::I2).getLast?:=by rw [List.getLast?_append,List.getLast?_eq_some_getLast (List.cons_ne_nil x I2)];rfl
     rw [e2] at ht;rcases mem_cons.mp (List.mem_of_getLast? ht) with z | z
     ·exact absurd z d0x
     ·exact z
    have pI:p∈I1:=by
     cases I1 with
     | nil=>exact absurd (Option.some.inj hh).symm px
     | cons i I1=>rw [show p=i from (Option.some.inj hh).symm];simp
    refine kGF S c1 er I2 I1 outs x (by simpa using ro) (λ z hz=>?_) d0 dI;refine nonc (nC _ _ jpy) nyx ⟨row,er,(ro.mem z).mpr (by simp [hz])⟩ (λ zp=>?_) (λ zx=>?_)
    ·exact (nodup_append.mp ndI).2.2 p pI z (by simp [hz]) zp.symm
    ·have:=(nodup_append.mp ndI).2.1
     rw [nodup_cons] at this;exact this.1 (zx ▸ hz)
   refine ⟨y,x,nyx,?_⟩;refine cT S c1 sy (d0::D') y (λ p q j=>?_) (λ d hd hc=>?_) (λ d1 hd=>?_) l m k (S.sym _ _ ek)
   ·refine S.sym _ _ (h.path (u:=p) (v:=q) ?_)
    rw [e];show Adj (A++(x::(k::M)++[y])++d0::D'++_) p q;rw [show A++(x::(k::M)++[y])++d0::D'=(A++x::(k::M))++y::(d0::D') by simp,append_assoc (A++x::(k::M))];refine (qZ _ y _ p q).mpr (.inr ?_)
    have:∀ (l s:List Nat),Adj l p q->Adj (l++s) p q:=λ l=>by
     induction l with
     | nil=>intro s h;exact h.elim
     | cons i l ih =>
      intro s h
      cases l with
      | nil=>exact h.elim
      | cons i2 l =>
       rcases h with h | h
       ·exact .inl h
       ·exact .inr (ih s h)
    exact this (y::d0::D') _ j
   ·exact d1.2.2 d (mem_append_right _ hc) d hd rfl
   ·cases hd
    exact key
 obtain ⟨p,q,hpq,hlk⟩:=back;have s1:lab k l=lab l k:=sy k l ek (λ hh=>lC (qD hh).2) (λ hh=>lC (qD hh).1);refine uneq k n (nC _ _ jkn) ?_;rw [kJK S ndC c1 ce sy (nC _ _ jkn) hpq,<-hlk,<-s1,kA]
end
theorem sI:∀ {l:List Nat} {p q:Nat} (s:List Nat),Adj l p q->Adj (l++s) p q
 | [],_,_,_,h=>h.elim
 | [_],_,_,_,h=>h.elim
 | i::j::l,p,q,s,h=>by
  rcases h with h | h
  ·exact .inl h
  ·exact .inr (sI (l:=j::l) s h)
theorem kHI {l:List Nat} {p q:Nat} (r:List Nat) (h:Adj l p q):Nx (l++r) p q:=by
 show Adj (l++r++_) p q;rw [append_assoc];exact sI _ h
section
variable {W:Rows} {T off:List Nat} {a b:Nat}
theorem kOM {T:List Nat} {i d:Nat} (hd:2<=d) (h:i+d<T.length):∃ M,T=T.take i++(T.getD i 0::(T.getD (i+1) 0::M)++[T.getD (i+d) 0])++T.drop (i+d+1):=by
 refine ⟨(T.drop (i+2)).take (d-2),?_⟩
 have g:∀ k,k<T.length->T.drop k=T.getD k 0::T.drop (k+1):=λ k hk=>by
  rw [drop_eq_getElem_cons hk,getD_eq_getElem?_getD,List.getElem?_eq_getElem hk]
  rfl
 conv=>lhs;rw [<-take_append_drop i T,g i (by omega),g (i+1) (by omega),<-take_append_drop (d-2) (T.drop (i+1+1)),drop_drop,show i+1+1+(d-2)=i+d by omega,g (i+d) h]
 simp
theorem Pel.loose (G:Good W) (h:Pel W a b T off) (l3:3<=T.length):∃ i,0<i/\i+1<T.length/\∀ j,j<T.length->E W (T.getD i 0) (T.getD j 0)->j+1=i\/j=i+1:=by
 refine Classical.byContradiction λ no=>?_;have S:=(Wb.of G).toNb;have ch:∀ i,0<i->i+1<T.length->∃ j,j<T.length/\E W (T.getD i 0) (T.getD j 0)/\j+1≠i/\j≠i+1/\j≠i:=λ i h0 h1=>Classical.byContradiction λ z=>no ⟨i,h0,h1,λ j hj e=>Classical.byContradiction λ y=>z ⟨j,hj,e,λ q=>y (.inl q),λ q=>y (.inr q),λ q=>by subst q;exact (S.e e).2.2 rfl⟩⟩
 have ex:∃ d,2<=d/\∃ i,i+d<T.length/\¬ (i=0/\i+d+1=T.length)/\E W (T.getD i 0) (T.getD (i+d) 0):=by
  obtain ⟨j,hj,e,n1,n2,n3⟩:=ch 1 (by omega) (by omega);exact ⟨j-1,by omega,1,by omega,by omega,by rw [show 1+(j-1)=j by omega];exact e⟩
 obtain ⟨d,⟨d2,i,hd,nb,e⟩,mn⟩:=kAU ex;obtain ⟨l,hl,ek,n1,n2,n3⟩:=ch (i+1) (by omega) (by omega);by_cases c:i<=l/\l<=i+d
 ·refine mn (l-(i+1)) (by omega) ⟨by omega,i+1,by omega,by omega,?_⟩
  rw [show i+1+(l-(i+1))=l by omega];exact ek
 ·obtain ⟨M,eT⟩:=kOM d2 hd
  refine kNL G h eT e ?_ ek;have gl:T[l]?=some (T.getD l 0):=by rw [getD_eq_getElem?_getD,List.getElem?_eq_getElem hl];rfl
  rcases Nat.lt_or_ge l i with z | z
  ·refine mem_append_left _ (mem_of_getElem? (i:=l) ?_)
   rw [List.getElem?_take_of_lt z];exact gl
  ·refine mem_append_right _ (mem_of_getElem? (i:=l-(i+d+1)) ?_)
   rw [List.getElem?_drop,show i+d+1+(l-(i+d+1))=l by omega];exact gl
theorem Pel.step (G:Good W) (h:Pel W a b T off) {A D:List Nat} {u v w:Nat} (e:T=A++[u,v,w]++D) (lo:∀ z∈T,E W v z->z=u\/z=w) :
  ∃ mid row outs,W[v]?=some row/\Ro row ((u::mid++[w])++outs)/\(∀ x∈outs,x∈off)/\(∀ x∈u::mid++[w],x∉off)/\Pel W a b (A++(u::mid++[w])++D) (off++[v]):=by
 have S:=(Wb.of G).toNb;have ndT:=h.nd;rw [e] at ndT;have nT:∀ p q,Nx T p q↔(p=u/\q=v)\/(p=v/\q=w)\/Adj (w::(D++A)++[u]) p q:=λ p q=>by rw [e];exact kLK p q
 obtain ⟨row,ins,outs,er,ro,hin,hout,hh,ht⟩:=h.row u v w ((nT _ _).mpr (.inl ⟨rfl,rfl⟩)) ((nT _ _).mpr (.inr (.inl ⟨rfl,rfl⟩)))
 have uw:u≠w:=λ z=>by
  have:=(nodup_append.mp (nodup_append.mp ndT).1).2.1;rw [z] at this;simp at this
 obtain ⟨mid,rfl⟩ : ∃ mid,ins=u::mid++[w]:=by
  obtain ⟨I,rfl⟩:=aI hh;obtain ⟨J,hJ⟩:=vL ht
  cases J with
  | nil =>
   injection hJ with h1 h2
   exact absurd h1 uw
  | cons j J =>
   injection hJ with h1 h2
   exact ⟨J,by rw [h2];rfl⟩
 have ndi:((u::mid++[w])++outs).Nodup:=ro.nd.mp (S.nd _ _ er);have ndI:=(nodup_append.mp ndi).1;have vT:v∈T:=by rw [e];simp
 have inv:∀ z∈u::mid++[w],E W v z:=λ z hz=>⟨row,er,(ro.mem z).mpr (mem_append_left _ hz)⟩
 have midT:∀ z∈mid,z∉T:=λ z hz hT=>by
  have n1:=(nodup_append.mp ndI).1;rcases lo z hT (inv z (by simp [hz])) with rfl | rfl
  ·exact (nodup_cons.mp n1).1 hz
  ·exact (nodup_append.mp ndI).2.2 z (by simp [hz]) z (by simp) rfl
 have vi:v∉u::mid++[w]:=λ z=>(S.e (inv v z)).2.2 rfl;have q1:=nodup_append.mp ndT;have q2:=nodup_append.mp q1.1
 have st:Str A mid D u w v:=by
  refine ⟨?_,?_⟩
  ·rw [nodup_append]
   refine ⟨?_,q1.2.1,λ x hx y hy z=>?_⟩
   ·rw [nodup_append]
    refine ⟨q2.1,ndI,λ x hx y hy z=>?_⟩;subst z;by_cases m:x∈mid
    ·exact midT x m (by rw [e];simp [hx])
    ·refine q2.2.2 x hx x ?_ rfl
     simp at hy ⊢;rcases hy with rfl | z | rfl
     ·exact .inl rfl
     ·exact absurd z m
     ·exact .inr (.inr rfl)
   ·subst z
    rcases mem_append.mp hx with m | m
    ·exact q1.2.2 x (mem_append_left _ m) x hy rfl
    ·by_cases c:x∈mid
     ·exact midT x c (by rw [e];simp [hy])
     ·refine q1.2.2 x (mem_append_right _ ?_) x hy rfl
      simp at m ⊢;rcases m with rfl | z | rfl
      ·exact .inl rfl
      ·exact absurd z c
      ·exact .inr (.inr rfl)
  ·intro z
   rcases mem_append.mp z with z | z
   ·rcases mem_append.mp z with z | z
    ·exact q2.2.2 v z v (by simp) rfl
    ·exact vi z
   ·exact q1.2.2 v (by simp) v z rfl
 obtain ⟨f1,f2,f3,f4,f5,f6,f7,f8⟩:=st.facts;have voff:=h.out v vT
 have noff:∀ {x:Nat},x∉off->x≠v->x∉off++[v]:=λ h1 h2 z=>by
  rcases mem_append.mp z with z | z
  ·exact h1 z
  ·exact h2 (mem_singleton.mp z)
 have rv:∀ {p q:Nat},Adj (u::mid++[w]) p q->R W v p q:=λ {p q} j=>⟨row,er,(ro.nx p q).mpr (kHI outs j)⟩;refine ⟨mid,row,outs,er,ro,hout,hin,st.nd,?_,?_,by simp;omega,λ x hx=>?_,?_,λ x y hx hxT exy=>?_,λ p z n hp hn=>?_⟩
 ·have:=h.hd
  rw [e] at this
  cases A with
  | nil=>exact this
  | cons i A=>exact this
 ·have:=h.lt
  rw [e] at this;rcases eq_nil_or_concat D with rfl | ⟨D',d,rfl⟩
  ·rw [append_nil] at this ⊢
   rw [show A++[u,v,w]=(A++[u,v])++[w] by simp,List.getLast?_concat] at this;rw [show A++(u::mid++[w])=(A++(u::mid))++[w] by simp,List.getLast?_concat];exact this
  ·rw [concat_eq_append,<-append_assoc,List.getLast?_concat] at this ⊢
   exact this
 ·have xv:x≠v:=λ z=>st.fr (z ▸ hx)
  refine noff ?_ xv;by_cases m:x∈u::mid++[w]
  ·exact hin x m
  ·refine h.out x ?_
   rw [e];simp at hx m ⊢
   grind
 ·rw [nodup_append]
  exact ⟨h.nof,by simp,λ x hx y hy z=>voff (by rw [<-mem_singleton.mp hy,<-z];exact hx)⟩
 ·have xo:x∉off:=λ z=>hx (mem_append_left _ z)
  have xv:x≠v:=λ z=>hx (by rw [z];simp)
  have xT:x∉T:=λ z=>hxT (by
   rw [e] at z;simp at z ⊢
   grind)
  refine noff (h.inn x y xo xT exy) λ z=>hxT ?_;subst z;obtain ⟨r',er',mr⟩:=S.sym _ _ exy;rw [er] at er'
  cases er'
  rcases mem_append.mp ((ro.mem x).mp mr) with m | m
  ·exact mem_append_left _ (mem_append_right _ m)
  ·exact absurd (hout x m) xo
 ·rcases (nxO p z).mp hp with j1 | j1<;>rcases (nxO z n).mp hn with j2 | j2
  ·-- a place that comes to the row
   obtain ⟨_,z2,_,z4⟩:=st.kk j1;obtain ⟨_,_,z6,_⟩:=st.kk j2
   have zm:z∈mid:=by
    simp at z2;rcases z2 with q | q | q
    ·exact absurd q z4
    ·exact q
    ·exact absurd q z6
   have r1:=G.tri _ _ _ (G.tri _ _ _ (rv j1));have r2:=G.tri _ _ _ (rv j2);obtain ⟨rz,ez,x1⟩:=r1;obtain ⟨rz',ez',x2⟩:=r2;rw [ez] at ez'
   cases ez'
   have ndz:=S.nd _ _ ez;obtain ⟨X,Y,rfl⟩:=List.append_of_mem (qD x1).1;have roz:Ro (X++v::Y) ((Y++X)++[v]):=⟨X++[v],Y,by simp,by simp⟩;have roz':Ro (X++v::Y) (v::(Y++X)):=⟨X,v::Y,by simp,by simp⟩;have ndl:=roz.nd.mp ndz;generalize Y++X=L at *;have pv:p≠v:=λ q=>vi (q ▸ (st.kk j1).1);refine ⟨_,L,[v],ez,roz,λ x hx=>?_,λ x hx=>by rw [mem_singleton.mp hx];simp,?_,?_⟩
   ·have zo:=h.inn z x (hin z (by simp [zm])) (midT z zm) ⟨_,ez,(roz.mem x).mpr (by simp [hx])⟩
    refine noff zo λ q=>?_;exact (nodup_append.mp ndl).2.2 x hx v (by simp) q
   ·cases L with
    | nil =>
     have:=qD ((roz'.nx v p).mp x1);simp at this;exact absurd this pv
    | cons p' L =>
     have:=jT ndz x1 ((roz'.nx v p').mpr (vH [] v p' L));rw [this]
     rfl
   ·rcases eq_nil_or_concat L with rfl | ⟨L',n',rfl⟩
    ·have:=qD ((roz'.nx v p).mp x1)
     simp at this;exact absurd this pv
    ·have:=xC ndz x2 ((roz.nx n' v).mpr (by rw [concat_eq_append,append_assoc];exact vH L' n' v []))
     rw [this,concat_eq_append,List.getLast?_concat]
  ·-- w
   have zw:z=w:=by
    obtain ⟨_,z2,_,z4⟩:=st.kk j1;rcases (st.j j2).1 with q | q
    ·exact q
    ·obtain ⟨a1,a2,a3⟩:=f4 z q
     simp at z2;rcases z2 with q | q | q
     ·exact absurd q a1
     ·exact absurd q a3
     ·exact q
   subst zw;obtain ⟨rz,ins2,outs2,ez,roz,hin2,hout2,hh2,ht2⟩:=h.row v z n ((nT _ _).mpr (.inr (.inl ⟨rfl,rfl⟩))) ((nT _ _).mpr (.inr (.inr j2)));have r1:=G.tri _ _ _ (G.tri _ _ _ (rv j1));obtain ⟨rz',ez',x1⟩:=r1;rw [ez] at ez'
   cases ez'
   have ndz:=S.nd _ _ ez;have ndl:=roz.nd.mp ndz
   have nv:n≠v:=λ q=>by
    rcases (st.j j2).2 with y | y
    ·exact f5 (by rw [<-y,q])
    ·exact f8 (q ▸ y)
   obtain ⟨I,rfl⟩:=aI hh2
   cases I with
   | nil=>exact absurd (Option.some.inj ht2).symm nv
   | cons p' I =>
    have pp:=jT ndz x1 ((roz.nx v p').mpr (vH [] v p' (I++outs2)));refine ⟨rz,p'::I,outs2++[v],ez,?_,λ x hx=>?_,λ x hx=>?_,by rw [pp];rfl,?_⟩
    ·exact roz.trans ⟨[v],p'::I++outs2,by simp,by simp⟩
    ·refine noff (hin2 x (mem_cons_of_mem _ hx)) λ q=>?_
     have:=(nodup_append.mp ndl).1;exact (nodup_cons.mp this).1 (q ▸ hx)
    ·rcases mem_append.mp hx with m | m
     ·exact mem_append_left _ (hout2 x m)
     ·exact mem_append_right _ m
    ·rw [List.getLast?_cons_cons] at ht2
     exact ht2
  ·-- u
   have zu:z=u:=by
    obtain ⟨z2,_,z4,_⟩:=st.kk j2;rcases (st.j j1).2 with q | q
    ·exact q
    ·obtain ⟨a1,a2,a3⟩:=f4 z q
     simp at z2;rcases z2 with q | q | q
     ·exact q
     ·exact absurd q a3
     ·exact absurd q a2
   subst zu;obtain ⟨rz,ins2,outs2,ez,roz,hin2,hout2,hh2,ht2⟩:=h.row p z v ((nT _ _).mpr (.inr (.inr j1))) ((nT _ _).mpr (.inl ⟨rfl,rfl⟩));have r1:=G.tri _ _ _ (rv j2);obtain ⟨rz',ez',x1⟩:=r1;rw [ez] at ez'
   cases ez'
   have ndz:=S.nd _ _ ez;have ndl:=roz.nd.mp ndz
   have pv:p≠v:=λ q=>by
    rcases (st.j j1).1 with y | y
    ·exact f6 (by rw [<-y,q])
    ·exact f8 (q ▸ y)
   obtain ⟨J,rfl⟩:=vL ht2;rcases eq_nil_or_concat J with rfl | ⟨J',n',rfl⟩
   ·exact absurd (Option.some.inj hh2).symm pv
   ·rw [concat_eq_append] at *
    have pp:=xC ndz x1 ((roz.nx n' v).mpr (by rw [append_assoc,append_assoc];exact vH J' n' v outs2));refine ⟨rz,J'++[n'],v::outs2,ez,?_,λ x hx=>?_,λ x hx=>?_,?_,by rw [pp,List.getLast?_concat]⟩
    ·have:J'++[n']++v::outs2=J'++[n']++[v]++outs2:=by simp
     rw [this];exact roz
    ·refine noff (hin2 x (mem_append_left _ hx)) λ q=>?_
     have:=(nodup_append.mp ndl).1;exact (nodup_append.mp this).2.2 x hx v (by simp) q
    ·rcases mem_cons.mp hx with m | m
     ·rw [m];simp
     ·exact mem_append_left _ (hout2 x m)
    ·cases J' with
     | nil=>exact hh2
     | cons i J'=>exact hh2
  ·-- the others
   have zo:z∈D++A:=by
    rcases (st.j j1).2 with q | q
    ·rcases (st.j j2).1 with y | y
     ·exact absurd (q.symm.trans y) uw
     ·exact y
    ·exact q
   obtain ⟨rz,ins2,outs2,ez,roz,hin2,hout2,hh2,ht2⟩:=h.row p z n ((nT _ _).mpr (.inr (.inr j1))) ((nT _ _).mpr (.inr (.inr j2)));refine ⟨rz,ins2,outs2,ez,roz,λ x hx=>noff (hin2 x hx) λ q=>?_,λ x hx=>mem_append_left _ (hout2 x hx),hh2,ht2⟩;subst q;have ezx:E W z x:=⟨rz,ez,(roz.mem x).mpr (mem_append_left _ hx)⟩;obtain ⟨a1,a2,a3⟩:=f4 z zo
   have zT:z∈T:=by
    rw [e];simp at zo ⊢
    grind
   rcases lo z zT (S.sym _ _ ezx) with y | y
   ·exact a1 y
   ·exact a2 y
end
section
variable {W:Rows} {a b c:Nat}
theorem kFB (S:Nb W) {z n p:Nat} (h:R W z n p) (np:n≠p):∃ row ins,W[z]?=some row/\Ro row ins/\ins.head?=some p/\ins.getLast?=some n:=by
 obtain ⟨row,er,x⟩:=h;have nd:=S.nd _ _ er;obtain ⟨X,Y,rfl⟩:=List.append_of_mem (qD x).2;have ro:Ro (X++p::Y) (p::(Y++X)):=⟨X,p::Y,rfl,by simp⟩;have ro':Ro (X++p::Y) ((Y++X)++[p]):=⟨X++[p],Y,by simp,by simp⟩;refine ⟨_,p::(Y++X),er,ro,rfl,?_⟩;generalize Y++X=L at *;rcases eq_nil_or_concat L with rfl | ⟨L',n',rfl⟩
 ·have:=(qD ((ro.nx n p).mp x)).1
  simp at this;exact absurd this np
 ·rw [concat_eq_append] at *
  have:=xC nd x ((ro'.nx n' p).mpr (by rw [append_assoc];exact vH L' n' p []));rw [this,<-cons_append,List.getLast?_concat]
theorem kBN (G:Good W) (h:R W c b a):a≠c/\b≠c/\a≠b:=by
 obtain ⟨_,_,_,h1,h2⟩:=kFH G h;obtain ⟨_,_,_,h3,_⟩:=kFH G (G.tri _ _ _ h);exact ⟨h2,h1,h3⟩
theorem Pel.start (G:Good W) (h:R W c b a):Pel W a b [a,c,b] []:=by
 have S:=(Wb.of G).toNb;obtain ⟨n1,n2,n3⟩:=kBN G h;have h2:=G.tri _ _ _ h;have h3:=G.tri _ _ _ h2;refine ⟨by simp;exact ⟨⟨n1,n3⟩,n2.symm⟩,rfl,rfl,by simp,by simp,by simp,λ _ _ _ _ _=>by simp,λ u v w hu hw=>?_⟩
 have key:∀ {z n p:Nat},R W z n p->n≠p->∃ row ins outs,W[z]?=some row/\Ro row (ins++outs)/\(∀ x∈ins,x∉([]:List Nat))/\(∀ x∈outs,x∈([]:List Nat))/\ins.head?=some p/\ins.getLast?=some n:=λ hr ne=>by
  obtain ⟨row,ins,e1,e2,e3,e4⟩:=kFB S hr ne;exact ⟨row,ins,[],e1,by rw [append_nil];exact e2,by simp,by simp,e3,e4⟩
 rw [nx3] at hu hw;rcases hu with ⟨rfl,rfl⟩ | ⟨rfl,rfl⟩ | ⟨rfl,rfl⟩
 ·rcases hw with ⟨z,_⟩ | ⟨_,rfl⟩ | ⟨z,_⟩
  ·exact absurd z.symm n1
  ·exact key h n3.symm
  ·exact absurd z.symm n2
 ·rcases hw with ⟨z,_⟩ | ⟨z,_⟩ | ⟨_,rfl⟩
  ·exact absurd z.symm n3
  ·exact absurd z n2
  ·exact key h2 n1
 ·rcases hw with ⟨_,rfl⟩ | ⟨z,_⟩ | ⟨z,_⟩
  ·exact key h3 n2.symm
  ·exact absurd z n1
  ·exact absurd z n3
theorem Pel.stop (G:Good W) {off:List Nat} (h:Pel W a b [a,b] off):∀ x,x<W.length->x∈off\/x=a\/x=b:=by
 have S:=(Wb.of G).toNb
 have nx:∀ p q,Nx [a,b] p q↔(p=a/\q=b)\/(p=b/\q=a):=λ p q=>by
  show Adj [a,b,a] p q↔_;simp only [Adj,or_false]
 have only:∀ y z,Nx [a,b] z y->Nx [a,b] y z->∀ x,E W y x->x∈off\/x=z:=λ y z h1 h2 x e=>by
  obtain ⟨row,ins,outs,er,ro,hin,hout,hh,ht⟩:=h.row z y z h1 h2;obtain ⟨row',er',m⟩:=e;rw [er] at er'
  cases er'
  have nd:=(nodup_append.mp (ro.nd.mp (S.nd _ _ er))).1;rcases mem_append.mp ((ro.mem x).mp m) with q | q
  ·obtain ⟨I,rfl⟩:=aI hh
   rcases eq_nil_or_concat I with rfl | ⟨I',i,rfl⟩
   ·exact .inr (mem_singleton.mp q)
   ·rw [concat_eq_append,<-cons_append,List.getLast?_concat] at ht
    rw [Option.some.inj ht] at nd;simp at nd
  ·exact .inl (hout x q)
 have ab:∀ x,E W a x->x∈off\/x=b:=only a b ((nx b a).mpr (.inr ⟨rfl,rfl⟩)) ((nx a b).mpr (.inl ⟨rfl,rfl⟩));have ba:∀ x,E W b x->x∈off\/x=a:=only b a ((nx a b).mpr (.inl ⟨rfl,rfl⟩)) ((nx b a).mpr (.inr ⟨rfl,rfl⟩));intro x hx;refine Classical.byContradiction λ no=>?_;have al:a<W.length:=(S.e (h.path ((nx b a).mpr (.inr ⟨rfl,rfl⟩)))).1;have r:Reach W x a:=(Reach.symm S.sym (G.con x hx)).trans (G.con a al)
 have key:∀ y,Reach W x y->y∉off/\y≠a/\y≠b:=λ y r=>by
  induction r with
  | here=>exact ⟨λ z=>no (.inl z),λ z=>no (.inr (.inl z)),λ z=>no (.inr (.inr z))⟩
  | more _ e ih =>
   rename_i y z _
   obtain ⟨i1,i2,i3⟩:=ih;refine ⟨h.inn y z i1 (by simp;exact ⟨i2,i3⟩) e,λ q=>?_,λ q=>?_⟩
   ·subst q
    rcases ab y (S.sym _ _ e) with q | q
    ·exact i1 q
    ·exact i3 q
   ·subst q
    rcases ba y (S.sym _ _ e) with q | q
    ·exact i1 q
    ·exact i2 q
 exact (key a r).2.1 rfl
inductive Peels (W:Rows) (a b:Nat):List Nat->List Nat->List Nat->Prop
 | done {off:List Nat}:Pel W a b [a,b] off->Peels W a b [a,b] off []
 | step {A D mid off rest row outs:List Nat} {u v w:Nat}:Pel W a b (A++[u,v,w]++D) off->W[v]?=some row->Ro row ((u::mid++[w])++outs)->(∀ x∈outs,x∈off)->Peels W a b (A++(u::mid++[w])++D) (off++[v]) rest->Peels W a b (A++[u,v,w]++D) off (v::rest)
theorem Peels.pel {T off rest:List Nat} (h:Peels W a b T off rest):Pel W a b T off:=by
 cases h with
 | done h=>exact h
 | step h _ _ _ _=>exact h
theorem Peels.end_ {T off rest:List Nat} (h:Peels W a b T off rest):Pel W a b [a,b] (off++rest):=by
 induction h with
 | done h=>rw [append_nil];exact h
 | step _ _ _ _ _ ih =>
  rw [append_assoc] at ih;exact ih
theorem Peels.sub {T off rest:List Nat} (h:Peels W a b T off rest):∀ x∈T,x=a\/x=b\/x∈rest:=by
 induction h with
 | done h =>
  intro x hx;simp at hx;rcases hx with q | q
  ·exact .inl q
  ·exact .inr (.inl q)
 | step _ _ _ _ _ ih =>
  rename_i A D mid off rest row outs u v w _ _ _ _ _
  intro x hx;by_cases q:x=v
  ·exact .inr (.inr (by rw [q];simp))
  ·rcases ih x (by simp at hx ⊢;grind) with q | q | q
   ·exact .inl q
   ·exact .inr (.inl q)
   ·exact .inr (.inr (mem_cons_of_mem _ q))
theorem Peels.go (G:Good W) {T off rest:List Nat} (h:Peels W a b T off rest):∀ more,∃ fs ts,goF W (a::b::(rest.reverse++more)) rest.length=some (fs,ts)/\ts.getLastD []=T:=by
 have S:=(Wb.of G).toNb
 induction h with
 | done h=>exact λ more=>⟨[],[[a,b]],rfl,rfl⟩
 | step hp er ro hout hs ih =>
  rename_i A D mid off rest row outs u v w
  intro more;obtain ⟨fs,ts,g,lt⟩:=ih (v::more);have e1:(v::rest).reverse++more=rest.reverse++v::more:=by simp
  rw [e1]
  have tk:(a::b::(rest.reverse++v::more)).take (rest.length+2)=a::b::rest.reverse:=by
   rw [show a::b::(rest.reverse++v::more)=(a::b::rest.reverse)++v::more by simp,take_left' (by simp)]
  have gt:(a::b::(rest.reverse++v::more)).getD (rest.length+2) 0=v:=by
   rw [getD_eq_getElem?_getD,show a::b::(rest.reverse++v::more)=(a::b::rest.reverse)++v::more by simp,List.getElem?_append_right (by simp)];simp
  have pe:=hs.end_;have ps:=hs.pel;have out:=pe.out;have nof:=pe.nof;have an:a∉(off++[v])++rest:=out a (by simp);have bn:b∉(off++[v])++rest:=out b (by simp)
  have ab:a≠b:=by
   have:=pe.nd;simpa using this
  have nrest:rest.Nodup:=(nodup_append.mp nof).2.1
  have z:stF W (ts.getLastD []) ((a::b::(rest.reverse++v::more)).take (rest.length+2)) ((a::b::(rest.reverse++v::more)).getD (rest.length+2) 0)=some (u::mid++[w]):=by
   rw [lt,tk,gt];have gv:W.getD v []=row:=by rw [getD_eq_getElem?_getD,er];rfl
   refine kEU ps.nd ?_ rfl (λ q hq=>?_) (λ q=>?_) (λ t ht=>?_)
   ·rw [nodup_cons,nodup_cons,mem_cons,mem_reverse,mem_reverse]
    exact ⟨λ z=>z.elim ab λ q=>an (mem_append_right _ q),λ q=>bn (mem_append_right _ q),(List.reverse_perm rest).nodup_iff.mpr nrest⟩
   ·rcases hs.sub q hq with y | y | y
    ·simp [y]
    ·simp [y]
    ·simp [y]
   ·rw [gv]
    constructor
    ·intro hq
     refine ⟨?_,(ro.mem q).mpr (mem_append_left _ hq)⟩;rcases hs.sub q (mem_append_left _ (mem_append_right _ hq)) with y | y | y
     ·simp [y]
     ·simp [y]
     ·simp [y]
    ·rintro ⟨h1,h2⟩
     rcases mem_append.mp ((ro.mem q).mp h2) with y | y
     ·exact y
     ·have qo:=hout q y
      exfalso;simp only [mem_cons,mem_reverse] at h1;rcases h1 with rfl | rfl | h1
      ·exact an (mem_append_left _ (mem_append_left _ qo))
      ·exact bn (mem_append_left _ (mem_append_left _ qo))
      ·exact (nodup_append.mp nof).2.2 q (mem_append_left _ qo) q h1 rfl
   ·have j:=dS (show (t.1,t.2)∈_ from ht)
    have r:R W v t.1 t.2:=⟨row,er,(ro.nx _ _).mpr (kHI outs j)⟩;have:=oH S.nd (G.tri _ _ _ (G.tri _ _ _ r));rw [show t=(t.1,t.2) from rfl,this]
  refine ⟨_,_,kAB g z,?_⟩;rw [bL,lt,gt,kAM rfl ps.nd]
theorem Peels.laid (G:Good W) {rest:List Nat} (h:Peels W a b [a,c,b] [] rest) (hb:R W c b a) :
  (a::b::rest.reverse).Perm (List.range W.length)/\∃ Fs Ts,zH W a b c (a::b::rest.reverse)=some (Fs,Ts):=by
 have S:=(Wb.of G).toNb;have pe:=h.end_;rw [nil_append] at pe;have an:a∉rest:=pe.out a (by simp);have bn:b∉rest:=pe.out b (by simp);obtain ⟨n1,n2,n3⟩:=kBN G hb;obtain ⟨l1,l2,l3,_,_⟩:=kFH G hb
 have lrest:∀ {T off rest:List Nat},Peels W a b T off rest->∀ x∈rest,x<W.length:=λ h=>by
  induction h with
  | done=>intro x hx;cases hx
  | step _ er _ _ _ ih =>
   intro x hx;rcases mem_cons.mp hx with rfl | q
   ·exact (List.getElem?_eq_some_iff.mp er).1
   ·exact ih x q
 have cl:∃ r',rest=c::r':=by
  generalize hT:[a,c,b]=T at h
  cases h with
  | done=>simp at hT
  | step _ _ _ _ _ =>
   rename_i A D mid rest row outs u v w _ _ _ _ _
   have hl:=congrArg List.length hT;simp at hl;have hA:A=[]:=length_eq_zero_iff.mp (by omega);subst hA;simp at hT;exact ⟨rest,by rw [hT.2.1]⟩
 obtain ⟨r',hr'⟩:=cl;refine ⟨?_,?_⟩
 ·refine (List.perm_ext_iff_of_nodup ?_ nodup_range).mpr λ x=>?_
  ·rw [nodup_cons,nodup_cons,mem_cons,mem_reverse,mem_reverse]
   exact ⟨λ z=>z.elim n3 an,bn,(List.reverse_perm rest).nodup_iff.mpr pe.nof⟩
  ·rw [mem_cons,mem_cons,mem_reverse,mem_range]
   constructor
   ·rintro (rfl | rfl | q)
    ·exact l3
    ·exact l2
    ·exact lrest h x q
   ·intro hx
    rcases pe.stop G x hx with q | q | q
    ·exact .inr (.inr q)
    ·exact .inl q
    ·exact .inr (.inl q)
 ·obtain ⟨fs,ts,g,_⟩:=h.go G []
  rw [append_nil] at g;refine ⟨fs,ts,?_⟩;unfold zH;rw [if_pos]
  ·rw [show (a::b::rest.reverse).length-2=rest.length by simp]
   exact g
  ·refine ⟨rfl,rfl,?_⟩
   rw [hr',reverse_cons,<-cons_append,<-cons_append,List.getLast?_concat]
end
def looseN (W:Rows) (T:List Nat) (i:Nat):Nat:=(T.filter λ q=>decide (q∈W.getD (T.getD i 0) [])).length
section
variable {W:Rows} {T off:List Nat} {a b:Nat}
theorem mem_getD {v z:Nat}:z∈W.getD v []↔E W v z:=by
 rw [getD_eq_getElem?_getD];constructor
 ·intro h
  cases e:W[v]? with
  | none=>rw [e] at h;cases h
  | some row =>
   rw [e] at h;exact ⟨row,e,h⟩
 ·rintro ⟨row,e,m⟩
  rw [e];exact m
theorem kNJ {i:Nat} (h0:0<i) (h1:i+1<T.length):T=T.take (i-1)++[T.getD (i-1) 0,T.getD i 0,T.getD (i+1) 0]++T.drop (i+2):=by
 have g:∀ k,k<T.length->T.drop k=T.getD k 0::T.drop (k+1):=λ k hk=>by
  rw [drop_eq_getElem_cons hk,getD_eq_getElem?_getD,List.getElem?_eq_getElem hk]
  rfl
 conv=>lhs;rw [<-take_append_drop (i-1) T,g (i-1) (by omega),show i-1+1=i by omega,g i (by omega),g (i+1) (by omega)]
 simp
theorem Pel.beside (h:Pel W a b T off) {A D:List Nat} {u v w:Nat} (e:T=A++[u,v,w]++D):E W v u/\E W w v:=by
 have nT:∀ p q,Nx T p q↔(p=u/\q=v)\/(p=v/\q=w)\/Adj (w::(D++A)++[u]) p q:=λ p q=>by rw [e];exact kLK p q
 exact ⟨h.path ((nT _ _).mpr (.inl ⟨rfl,rfl⟩)),h.path ((nT _ _).mpr (.inr (.inl ⟨rfl,rfl⟩)))⟩
theorem kGO {T:List Nat} (nd:T.Nodup) {i j:Nat} (hi:i<T.length) (hj:j<T.length) (e:T.getD i 0=T.getD j 0):i=j:=by
 rw [getD_eq_getElem?_getD,getD_eq_getElem?_getD,List.getElem?_eq_getElem hi,List.getElem?_eq_getElem hj] at e;exact (getElem_inj nd).mp e
theorem mB (S:Nb W) (h:Pel W a b T off) {i:Nat} (h0:0<i) (h1:i+1<T.length):looseN W T i=2↔∀ z∈T,E W (T.getD i 0) z->z=T.getD (i-1) 0\/z=T.getD (i+1) 0:=by
 have e:=kNJ h0 h1;obtain ⟨b1,b2⟩:=h.beside e;have b2:=S.sym _ _ b2
 have uw:T.getD (i-1) 0≠T.getD (i+1) 0:=λ z=>by
  have:=kGO h.nd (by omega) (by omega) z;omega
 have uT:T.getD (i-1) 0∈T:=by rw [getD_eq_getElem?_getD,List.getElem?_eq_getElem (by omega)];exact getElem_mem _
 have wT:T.getD (i+1) 0∈T:=by rw [getD_eq_getElem?_getD,List.getElem?_eq_getElem (by omega)];exact getElem_mem _
 have two:∀ z∈[T.getD (i-1) 0,T.getD (i+1) 0],z∈T.filter λ q=>decide (q∈W.getD (T.getD i 0) []):=λ z hz=>by
  simp only [mem_cons,not_mem_nil,or_false] at hz;rcases hz with rfl | rfl
  ·exact mem_filter.mpr ⟨uT,decide_eq_true (mem_getD.mpr b1)⟩
  ·exact mem_filter.mpr ⟨wT,decide_eq_true (mem_getD.mpr b2)⟩
 have nd2:[T.getD (i-1) 0,T.getD (i+1) 0].Nodup:=by
  rw [nodup_cons,mem_singleton];exact ⟨uw,by simp⟩
 have ndf:(T.filter λ q=>decide (q∈W.getD (T.getD i 0) [])).Nodup:=h.nd.filter _;have le:=List.Nodup.length_le_of_subset nd2 two;constructor
 ·intro l z hz ez
  refine Classical.byContradiction λ no=>?_
  have nd3:(z::[T.getD (i-1) 0,T.getD (i+1) 0]).Nodup:=by
   rw [nodup_cons];refine ⟨λ m=>no ?_,nd2⟩;rcases mem_cons.mp m with q | q
   ·exact .inl q
   ·exact .inr (mem_singleton.mp q)
  have:=List.Nodup.length_le_of_subset nd3 (l₂:=T.filter λ q=>decide (q∈W.getD (T.getD i 0) [])) λ x hx=>by
   rcases mem_cons.mp hx with rfl | m
   ·exact mem_filter.mpr ⟨hz,decide_eq_true (mem_getD.mpr ez)⟩
   ·exact two x m
  unfold looseN at l;simp only [length_cons,length_nil] at this;omega
 ·intro l
  have:=List.Nodup.length_le_of_subset ndf (l₂:=[T.getD (i-1) 0,T.getD (i+1) 0]) λ x hx=>by
   obtain ⟨m1,m2⟩:=mem_filter.mp hx;rcases l x m1 (mem_getD.mp (of_decide_eq_true m2)) with z | z
   ·rw [z];simp
   ·rw [z];simp
  unfold looseN;simp only [length_cons,length_nil] at this le;omega
theorem Pel.looseN (G:Good W) (h:Pel W a b T off) (l3:3<=T.length):∃ i,0<i/\i+1<T.length/\looseN W T i=2:=by
 obtain ⟨i,h0,h1,hl⟩:=h.loose G l3;refine ⟨i,h0,h1,(mB (Wb.of G).toNb h h0 h1).mpr λ z hz ez=>?_⟩;obtain ⟨j,hj,rfl⟩:=mem_iff_getElem.mp hz;have gj:T.getD j 0=T[j]:=by rw [getD_eq_getElem?_getD,List.getElem?_eq_getElem hj];rfl
 rcases hl j hj (by rw [gj];exact ez) with q | q
 ·exact .inl (by rw [<-gj,show i-1=j by omega])
 ·exact .inr (by rw [<-gj,q])
theorem kKT {row X:List Nat} {u:Nat} (nd:row.Nodup) (h:Ro row (u::X)):rot row u=u::X:=by
 obtain ⟨A,B,rfl,e⟩:=h;unfold rot
 cases B with
 | nil =>
  rw [nil_append] at e;subst e;simp
 | cons b B =>
  injection e with e1 e2
  subst e1;have nA:u∉A:=λ z=>(nodup_append.mp nd).2.2 u z u (by simp) rfl;rw [gM nA,drop_left' rfl,take_left' rfl,e2]
  rfl
theorem Pel.turn (G:Good W) (h:Pel W a b T off) {i:Nat} (h0:0<i) (h1:i+1<T.length) (lo:Fc.looseN W T i=2) :
  ∃ mid row,W[T.getD i 0]?=some row/\T.getD (i-1) 0∈row/\T.getD (i+1) 0∈row/\(rot row (T.getD (i-1) 0)).take ((rot row (T.getD (i-1) 0)).idxOf (T.getD (i+1) 0)+1)=T.getD (i-1) 0::mid++[T.getD (i+1) 0] /\
   Pel W a b (T.take (i-1)++(T.getD (i-1) 0::mid++[T.getD (i+1) 0])++T.drop (i+2)) (off++[T.getD i 0]) /\
   ∀ rest,Peels W a b (T.take (i-1)++(T.getD (i-1) 0::mid++[T.getD (i+1) 0])++T.drop (i+2)) (off++[T.getD i 0]) rest->Peels W a b T off (T.getD i 0::rest):=by
 have S:=(Wb.of G).toNb;have e:=kNJ h0 h1;obtain ⟨mid,row,outs,er,ro,hout,hin,hp⟩:=h.step G e ((mB S h h0 h1).mp lo);have nd:=S.nd _ _ er;have rt:rot row (T.getD (i-1) 0)=(T.getD (i-1) 0::mid++[T.getD (i+1) 0])++outs:=kKT nd ro;have ndr:=ro.nd.mp nd;refine ⟨mid,row,er,(ro.mem _).mpr (by simp),(ro.mem _).mpr (by simp),?_,hp,λ rest hr=>?_⟩
 ·rw [rt,show (T.getD (i-1) 0::mid++[T.getD (i+1) 0])++outs=(T.getD (i-1) 0::mid)++T.getD (i+1) 0::outs by simp]
  have n1:T.getD (i+1) 0∉T.getD (i-1) 0::mid:=λ z=>(nodup_append.mp (nodup_append.mp ndr).1).2.2 _ z _ (by simp) rfl;rw [gM n1,show (T.getD (i-1) 0::mid)++T.getD (i+1) 0::outs=(T.getD (i-1) 0::mid++[T.getD (i+1) 0])++outs by simp,take_left' (by simp)]
 ·have h':=h
  conv=>arg 4;rw [e]
  rw [e] at h';exact .step h' er ro hout hr
theorem Pel.two_end (h:Pel W a b T off) (l:T.length=2):T=[a,b]:=by
 have h1:=h.hd;have h2:=h.lt
 match T,l with
 | [x,y],_ =>
  cases h1
  cases h2
  rfl
end
end Fc
namespace Prf
open PySem L2 Own Tri Cyc Rnd
def top (i:Nat):Stmt:=PySem.Challenge.pw_restdraw_k55_whole_order_for_each_base.main.body.getD i (.Pass ⟨0,0,0,0⟩)
abbrev yN:Stmt:=top 7
theorem pQ:FnScope ["thing"] ["thing"] (kJ yN):=⟨rfl,rfl,rfl,by decide +kernel,rfl,by decide +kernel,by decide +kernel⟩
abbrev xW:Stmt:=top 8
theorem nM:FnScope ["thing","many"] ["thing","many"] (kJ xW):=⟨rfl,rfl,rfl,by decide +kernel,rfl,by decide +kernel,by decide +kernel⟩
abbrev zP:Stmt:=top 9
theorem sc_from_on:FnScope ["row","first","start"] ["row","first"] (kJ zP):=⟨rfl,rfl,rfl,by decide +kernel,rfl,by decide +kernel,by decide +kernel⟩
abbrev yJ:Stmt:=top 10
theorem pP:FnScope ["web"] ["web"] (kJ yJ):=⟨rfl,rfl,rfl,by decide +kernel,rfl,by decide +kernel,by decide +kernel⟩
abbrev cI:Stmt:=top 11
theorem kHW:FnScope ["web"] ["web"] (kJ cI):=⟨rfl,rfl,rfl,by decide +kernel,rfl,by decide +kernel,by decide +kernel⟩
abbrev wR:Stmt:=top 12
theorem sc_behind:FnScope ["web","step","p","q","row"] ["web","step"] (kJ wR):=⟨rfl,rfl,rfl,by decide +kernel,rfl,by decide +kernel,by decide +kernel⟩
abbrev jU:Stmt:=top 13
theorem sc_steps_round:FnScope ["web","step","steps","further"] ["web","step"] (kJ jU):=⟨rfl,rfl,rfl,by decide +kernel,rfl,by decide +kernel,by decide +kernel⟩
abbrev uL:Stmt:=top 14
theorem sc_faces:FnScope ["web","told","seen","step","steps"] ["web"] (kJ uL):=⟨rfl,rfl,rfl,by decide +kernel,rfl,by decide +kernel,by decide +kernel⟩
abbrev zM:Stmt:=top 15
theorem sZ:FnScope ["web"] ["web"] (kJ zM):=⟨rfl,rfl,rfl,by decide +kernel,rfl,by decide +kernel,by decide +kernel⟩
abbrev jJ:Stmt:=top 16
theorem dN:FnScope ["web"] ["web"] (kJ jJ):=⟨rfl,rfl,rfl,by decide +kernel,rfl,by decide +kernel,by decide +kernel⟩
abbrev qU:Stmt:=top 18
theorem sc_uncornered_face:FnScope ["web","some"] ["web"] (kJ qU):=⟨rfl,rfl,rfl,by decide +kernel,rfl,by decide +kernel,by decide +kernel⟩
abbrev xX:Stmt:=top 19
theorem nN:FnScope ["web","p","q","r"] ["web","p","q","r"] (kJ xX):=⟨rfl,rfl,rfl,by decide +kernel,rfl,by decide +kernel,by decide +kernel⟩
abbrev zN:Stmt:=top 20
theorem sc_is_base:FnScope ["web","thing","a","b","c"] ["web","thing"] (kJ zN):=⟨rfl,rfl,rfl,by decide +kernel,rfl,by decide +kernel,by decide +kernel⟩
abbrev jA:Stmt:=top 21
theorem sc_must_have_base:FnScope ["web","base","face"] ["web","base"] (kJ jA):=⟨rfl,rfl,rfl,by decide +kernel,rfl,by decide +kernel,by decide +kernel⟩
abbrev yP:Stmt:=top 23
theorem sc_has_ends:FnScope ["web","base","thing","a","b","c"] ["web","base","thing"] (kJ yP):=⟨rfl,rfl,rfl,by decide +kernel,rfl,by decide +kernel,by decide +kernel⟩
abbrev jG:Stmt:=top 24
theorem sc_stretch_under:FnScope ["web","top","ahead","place","below","stretch","start"] ["web","top","ahead","place"] (kJ jG):=⟨rfl,rfl,rfl,by decide +kernel,rfl,by decide +kernel,by decide +kernel⟩
abbrev yK:Stmt:=top 25
theorem sc_put_over:FnScope ["top","stretch","place","start","end"] ["top","stretch","place"] (kJ yK):=⟨rfl,rfl,rfl,by decide +kernel,rfl,by decide +kernel,by decide +kernel⟩
abbrev cJ:Stmt:=top 26
theorem sc_laid:FnScope ["web","base","thing","found","tops","at","stretch"] ["web","base","thing"] (kJ cJ):=⟨rfl,rfl,rfl,by decide +kernel,rfl,by decide +kernel,by decide +kernel⟩
abbrev jI:Stmt:=top 27
theorem sc_must_be_laid:FnScope ["web","base","order","both"] ["web","base","order"] (kJ jI):=⟨rfl,rfl,rfl,by decide +kernel,rfl,by decide +kernel,by decide +kernel⟩
abbrev yO:Stmt:=top 28
theorem pR:FnScope ["web","base","thing"] ["web","base","thing"] (kJ yO):=⟨rfl,rfl,rfl,by decide +kernel,rfl,by decide +kernel,by decide +kernel⟩
abbrev wQ:Stmt:=top 29
theorem sc_rounds:FnScope ["web","base","order","found","tops"] ["web","base","order"] (kJ wQ):=⟨rfl,rfl,rfl,by decide +kernel,rfl,by decide +kernel,by decide +kernel⟩
abbrev xO:Stmt:=top 30
theorem sc_stretches:FnScope ["web","base","order","found","tops"] ["web","base","order"] (kJ xO):=⟨rfl,rfl,rfl,by decide +kernel,rfl,by decide +kernel,by decide +kernel⟩
abbrev jV:Stmt:=top 31
theorem sc_first_loose:FnScope ["web","top","loose"] ["web","top"] (kJ jV):=⟨rfl,rfl,rfl,by decide +kernel,rfl,by decide +kernel,by decide +kernel⟩
abbrev zO:Stmt:=top 32
theorem sc_from_to:FnScope ["row","first","last","around"] ["row","first","last"] (kJ zO):=⟨rfl,rfl,rfl,by decide +kernel,rfl,by decide +kernel,by decide +kernel⟩
abbrev yL:Stmt:=top 33
theorem sc_order_of:FnScope ["web","base","a","b","c","top","off","at","place"] ["web","base"] (kJ yL):=⟨rfl,rfl,rfl,by decide +kernel,rfl,by decide +kernel,by decide +kernel⟩
abbrev zL:Stmt:=top 35
theorem sc_law_pot:FnScope ["_law_script","_law_k","_law_cell"] ["_law_script","_law_k"] (kJ zL):=⟨rfl,rfl,rfl,by decide +kernel,rfl,by decide +kernel,by decide +kernel⟩
abbrev xU:Stmt:=top 36
theorem sc_law_digit:FnScope ["_law_pot_here","_law_many","_law_digit_here"] ["_law_pot_here","_law_many"] (kJ xU):=⟨rfl,rfl,rfl,by decide +kernel,rfl,by decide +kernel,by decide +kernel⟩
abbrev jK:Stmt:=top 37
theorem sc_law_put_over:FnScope ["_law_rows_here","_law_row","_law_first","_law_last","_law_place","_law_part","_law_k"] ["_law_rows_here","_law_row","_law_first","_law_last"] (kJ jK):=⟨rfl,rfl,rfl,by decide +kernel,rfl,by decide +kernel,by decide +kernel⟩
abbrev yM:Stmt:=top 38
theorem sc_law_rows:FnScope ["_law_pot_here","_law_n","_law_rows_here","_law_told","_law_parts","_law_k","_law_row","_law_first","_law_last"] ["_law_pot_here","_law_n"] (kJ yM):=⟨rfl,rfl,rfl,by decide +kernel,rfl,by decide +kernel,by decide +kernel⟩
abbrev xS:Stmt:=top 39
theorem sc_law_names:FnScope ["_law_pot_here","_law_n","_law_found","_law_k"] ["_law_pot_here","_law_n"] (kJ xS):=⟨rfl,rfl,rfl,by decide +kernel,rfl,by decide +kernel,by decide +kernel⟩
abbrev zK:Stmt:=top 40
theorem sc_law_web:FnScope ["_law_rows_here","_law_names_here","_law_found","_law_p","_law_row","_law_renewed","_law_k"] ["_law_rows_here","_law_names_here"] (kJ zK):=⟨rfl,rfl,rfl,by decide +kernel,rfl,by decide +kernel,by decide +kernel⟩
abbrev xQ:Stmt:=top 41
theorem nL:FnScope ["_law_web_here","_law_p","_law_q"] ["_law_web_here","_law_p","_law_q"] (kJ xQ):=⟨rfl,rfl,rfl,by decide +kernel,rfl,by decide +kernel,by decide +kernel⟩
abbrev xA:Stmt:=top 42
theorem sc_law_walked:FnScope ["_law_web_here","_law_order","_law_row","_law_told","_law_parts","_law_k","_law_place","_law_spots","_law_many","_law_part","_law_j"] ["_law_web_here","_law_order"] (kJ xA):=⟨rfl,rfl,rfl,by decide +kernel,rfl,by decide +kernel,by decide +kernel⟩
abbrev xV:Stmt:=top 43
theorem sc_law_bases:FnScope ["_law_pot_here","_law_web_here","_law_found","_law_p","_law_row","_law_q","_law_r"] ["_law_pot_here","_law_web_here"] (kJ xV):=⟨rfl,rfl,rfl,by decide +kernel,rfl,by decide +kernel,by decide +kernel⟩
abbrev xR:Stmt:=top 44
theorem sc_law_right:FnScope ["_law_web_here","_law_base","_law_order","_law_due"] ["_law_web_here","_law_base"] (kJ xR):=⟨rfl,rfl,rfl,by decide +kernel,rfl,by decide +kernel,by decide +kernel⟩
abbrev bA:Stmt:=top 45
theorem sc_law:FnScope ["_law_script","_law_k","_law_pot_here","_law_n","_law_web_here"] ["_law_script"] (kJ bA):=⟨rfl,rfl,rfl,by decide +kernel,rfl,by decide +kernel,by decide +kernel⟩
theorem kE {H:Hp} {p:Addr} (h:H p=none) (o:HO):Same H (upd H p o):=λ b u q=>by rw [kO (kH q h)];exact q
def SameBut (a:Addr) (H H':Hp):Prop:=∀ b o,b≠a->H b=some o->H' b=some o
def kEX (K:PySem.W.Frag):Sp:=λ vs H Q _=>∃ (a:Addr) (ns:List Int) (k:Int),vs=[.ref a,.int k]/\SqL K H a (ns.map V.int)/\ns.length<=63/\0<=k/\k<=63 /\
 ∀ (p:Addr) (x y:Int) (H':Hp),0<=x->Same H H'->H p=none->H' p=some (.lst [.int x,.int y])->Q (.ref p) H'
def PotAt (H:Hp) (a:Addr):Prop:=∃ x y:Int,H a=some (.lst [.int x,.int y])/\0<=x
def uK:Sp:=λ vs H Q _=>∃ (a:Addr) (m:Int),vs=[.ref a,.int m]/\PotAt H a/\0<m/\m.natAbs<2 ^ 9000 /\
 ∀ (d:Int) (H':Hp),0<=d->d<m->SameBut a H H'->PotAt H' a->Q (.int d) H'
def vn (n:Nat):V:=.int (n:Int)
def ci (n:Nat):Int:=n
structure RowsAt (H:Hp) (r:Addr) (A:List Addr) (L:Rows):Prop where
 top:H r=some (.lst (A.map V.ref))
 len:A.length=L.length
 nd:A.Nodup
 out:r∉A
 row:∀ (i:Nat) (a:Addr) (ns:List Nat),A[i]?=some a->L[i]?=some ns->H a=some (.lst (ns.map vn))
theorem xF (ns:List Nat):ns.map vn=(ns.map ci).map V.int:=by
 rw [map_map]
 rfl
theorem qT {ns:List Nat} {n:Nat} (h:n∈ns):fH (ns.map ci) (n:Int) (ns.idxOf n):=by
 have hl:=idxOf_lt_length_of_mem h;refine ⟨?_,λ m hm e=>?_⟩
 ·rw [List.getElem?_map,List.getElem?_eq_getElem hl,List.getElem_idxOf hl]
  rfl
 ·have hm':m<ns.length:=by omega
  rw [List.getElem?_map,List.getElem?_eq_getElem hm'] at e
  have e2:ns[m]=n:=by
   have z:((ns[m]:Nat):Int)=(n:Int):=Option.some.inj e;omega
  have q:=List.not_of_lt_findIdx (p:=(· == n)) (xs:=ns) hm;rw [e2] at q;simp at q
theorem RowsAt.at {H:Hp} {r:Addr} {A:List Addr} {L:Rows} (x:RowsAt H r A L) {i:Nat} {ns:List Nat} (h:L[i]?=some ns):∃ a,A[i]?=some a/\H a=some (.lst (ns.map vn))/\atI (A.map V.ref) (i:Int)=some (.ref a):=by
 have hi:i<A.length:=by rw [x.len];exact (List.getElem?_eq_some_iff.mp h).1
 refine ⟨A[i],List.getElem?_eq_getElem hi,x.row i _ ns (List.getElem?_eq_getElem hi) h,qV ?_⟩;rw [List.getElem?_map,List.getElem?_eq_getElem hi]
 rfl
theorem kBP {row:List Nat} {p v:Nat} (hp:p∈row) (h:jL row p=some v):atI (row.map vn) ((row.idxOf p:Int)-1)=some (vn v):=by
 have hl:=idxOf_lt_length_of_mem hp;unfold jL at h;by_cases h0:row.idxOf p=0
 ·rw [if_pos h0] at h
  rw [h0]
  have e:row=row.dropLast++[v]:=by
   have ne:row≠[]:=λ z=>by rw [z] at hp;cases hp
   rw [List.getLast?_eq_some_getLast ne] at h;rw [<-Option.some.inj h];exact (dropLast_concat_getLast ne).symm
  rw [e,map_append];exact yF _ _
 ·rw [if_neg h0] at h
  have e:((row.idxOf p:Int)-1)=((row.idxOf p-1:Nat):Int):=by omega
  rw [e];exact qV (by rw [List.getElem?_map,h];rfl)
section
variable {P:Program} {w:World} {K:PySem.W.Frag} {mg:Str->Option Value} {base:Heap}
theorem at0 {x y:V}:atI [x,y] 0=some x:=rfl
theorem at1 {x y:V}:atI [x,y] 1=some y:=rfl
theorem RowsAt.set {H:Hp} {r:Addr} {A:List Addr} {L:Rows} (x:RowsAt H r A L) {i:Nat} {a:Addr} (h:A[i]?=some a) (ns:List Nat):RowsAt (upd H a (.lst (ns.map vn))) r A (L.set i ns):=by
 have ra:r≠a:=λ z=>x.out (z ▸ mem_of_getElem? h);have hi:i<L.length:=by rw [<-x.len];exact (List.getElem?_eq_some_iff.mp h).1
 refine ⟨by rw [kO ra];exact x.top,by rw [length_set];exact x.len,x.nd,x.out,λ j b ms hb hj=>?_⟩;rcases kIV hi hj with ⟨rfl,rfl⟩ | ⟨ne,hj⟩
 ·rw [h] at hb
  cases hb
  exact kC
 ·have ba:b≠a:=λ z=>by
   subst z;have:=(List.getElem?_inj (List.getElem?_eq_some_iff.mp hb).1 x.nd).mp (hb.trans h.symm);exact ne this
  rw [kO ba];exact x.row j b ms hb hj
def uR (r:Addr) (A:List Addr) (H H':Hp):Prop:=∀ b o,b≠r->b∉A->H b=some o->H' b=some o
theorem kKS {L:Rows} (G:Good L) {p:Nat} {row:List Nat} (h:L[p]?=some row):row.length<=6*L.length:=by
 have q:=aU L p row [] h;have t:=G.tot;simp only [length_nil] at q;omega
theorem kHC (ns:List Int) (lo hi:Option Int):∃ ms:List Int,jO (ns.map V.int) lo hi=ms.map V.int/\ms.length<=ns.length:=by
 refine ⟨(ns.drop (HT.sIx (ns.map V.int).length 0 lo)).take (HT.sIx (ns.map V.int).length (ns.map V.int).length hi-HT.sIx (ns.map V.int).length 0 lo),?_,?_⟩
 ·unfold jO
  rw [map_take,map_drop]
 ·rw [length_take,length_drop]
  omega
theorem kDS (ms:List Int):∃ c:Int,atI (ms.map V.int++[V.int 0]) 0=some (V.int c):=by
 cases ms with
 | nil=>exact ⟨0,rfl⟩
 | cons x r=>exact ⟨x,qV (j:=0) rfl⟩
theorem zV {n:Nat} (h:n<=20000):n<sizeLine:=Nat.lt_of_le_of_lt h (by rw [sizeLine_eq];decide)
theorem kEZ {n:Nat} (h:n<=1000):n<=sizeLine:=Nat.le_of_lt (kQ h)
theorem tN {f:Addr} {fd:FuncData} (F:Fun K "_law_pot" "_law_pot" zL f fd) (z_abs:mg "abs" = none) (z_max:mg "max" = none):FnOk P w K mg base CX0 1 f fd ["_law_script","_law_k"] (kEX K):=by
 refine F.ok sc_law_pot (λ vs H Q E h=>?_) (λ cdv A outer s H vs Q E hr h=>?_)
 ·obtain ⟨a,ns,k,rfl,_⟩:=h
  rfl
 obtain ⟨a,ns,k,rfl,hS,h63,k0,k1,q⟩:=h
 refine ⟨_,(kF (kT (i:=2) sc_law_pot.nd rfl (Or.inl rfl) (qB kY (kZ zC (qH jD (pv 0) (qG (pv 1)) (qG (kZ qX (pv 1) kK))) (qS (kB kK kD))) kK (λ _ _=>rfl)))
   (kM (kX (qS (kB (kP (mP rfl) rfl z_max PyProof.Rows.boot_max (kB kK (kB (kZ xH (pv 2) (kZ kLF kK kK)) kD))) (kB (kZ qX (kZ nW (kZ qX (kZ qX (kP kHG rfl z_abs PyProof.Rows.boot_abs (kB (pv 2) kD)) (kZ tJ kK (pv 1))) kK) kK) kK) kD)))))),?_⟩
 obtain ⟨ms,em,lm⟩:=kHC ns (some k) (some (k+1));obtain ⟨c,hc⟩:=kDS ms;refine ⟨_,rfl,_,rfl,k,rfl,_,rfl,_,_,rfl,rfl,k+1,rfl,a,_,rfl,hS,λ p1 h1=>?_⟩;refine ⟨L2.y1,λ p2 h2=>?_⟩;have n12:p1≠p2:=kH kC h2;refine ⟨p1,p2,_,_,rfl,rfl,(by rw [kO n12];exact kC),kC,(by rw [em,length_map,length_singleton];exact kEZ (by omega)),λ p3 h3=>?_⟩;refine ⟨p3,_,_,_,rfl,rfl,SqL.of kC,(by rw [em];exact hc),?_⟩;have g1:Same H (upd H p1 (.lst (jO (ns.map V.int) (some k) (some (k+1))))):=kE h1 _;have g2:=kE h2 (.lst [V.int 0]);have g3:=kE h3 (.lst (jO (ns.map V.int) (some k) (some (k+1))++[V.int 0]));have g:=g1.trans (g2.trans g3);refine ⟨_,rfl,_,_,rfl,rfl,⟨by decide,by decide,by decide⟩,_,_,rfl,rfl,_,_,rfl,_,rfl,c,rfl,_,rfl,_,_,rfl,rfl,.inl ⟨by decide,by decide⟩,_,_,rfl,rfl,_,_,rfl,rfl,_,_,rfl,rfl,(by show (0:Int)<2147483629;decide),_,_,rfl,rfl,L2.y2,λ p4 h4=>?_⟩;refine q p4 _ _ _ ?_ (g.trans (kE h4 _)) (g.free h4) kC
 split<;>omega
theorem SameBut.trans {a:Addr} {H H1 H2:Hp} (x:SameBut a H H1) (y:SameBut a H1 H2):SameBut a H H2:=λ b o n h=>y b o n (x b o n h)
theorem SameBut.of {a:Addr} {H H':Hp} (h:Same H H'):SameBut a H H':=λ b o _ e=>h b o e
theorem kBL {a:Addr} {H:Hp} {o:HO}:SameBut a H (upd H a o):=λ b u n h=>by rw [kO n];exact h
theorem oC {f:Addr} {fd:FuncData} (F:Fun K "_law_digit" "_law_digit" xU f fd) (z_divmod:mg "divmod" = none):FnOk P w K mg base CX0 1 f fd ["_law_pot_here","_law_many"] (uK):=by
 refine F.ok sc_law_digit (λ vs H Q E h=>?_) (λ cdv A outer s H vs Q E hr h=>?_)
 ·obtain ⟨a,m,rfl,_⟩:=h
  rfl
 obtain ⟨a,m,rfl,⟨x,y,ha,hx⟩,m0,m1,q⟩:=h
 refine ⟨_,(kF (xE (qF kJW (qB kY (pv 0) kK (λ _ _=>rfl)) kK (qL _)) (kF (vD (kP oX rfl z_divmod PyProof.Rows.boot_divmod (kB (qB kY (pv 0) kK (λ _ _=>rfl)) (kB (pv 1) kD))) (yQ rfl (qC (tF (pv 0) kK fW) (qC (kR (i:=2) sc_law_digit.nd rfl (Or.inl rfl)) xB))))
   (kM (kX (pv 2)))) qQ)
   (kF (vD (kZ nW (kZ qX (kZ tJ (qB kY (pv 0) kK (λ _ _=>rfl)) kK) kK) kK) (tF (pv 0) kK fW))
   (kM (kX (kZ nW (kZ kIM (kZ nW (kZ tJ (qB kY (pv 0) kK (λ _ _=>rfl)) (qB kY (pv 0) kK (λ _ _=>rfl))) kK) kK) (pv 1)))))),?_⟩
 refine ⟨_,rfl,a,_,_,_,rfl,rfl,SqL.of ha,at0,_,_,rfl,rfl,_,rfl,?_⟩;refine oI (λ c=>?_) (λ c=>?_)
 ·refine ⟨_,rfl,a,_,_,_,rfl,rfl,SqL.of ha,at0,_,rfl,x,m,rfl,⟨m0,m1⟩,λ p hp=>?_⟩
  have nap:a≠p:=kH ha hp;refine ⟨p,_,rfl,SqT.of kC,rfl,_,_,rfl,_,rfl,a,_,_,0,rfl,rfl,(by rw [kO nap];exact ha),rfl,_,_,rfl,rfl,?_⟩;refine ⟨_,rfl,?_⟩;refine q _ _ (Int.emod_nonneg _ (by omega)) (Int.emod_lt_of_pos _ m0) ((SameBut.of (kE hp _)).trans kBL) ⟨_,_,kC,?_⟩;exact Int.ediv_nonneg hx (by omega)
 ·refine ⟨_,rfl,a,_,_,_,rfl,rfl,SqL.of ha,at1,_,_,rfl,rfl,.inr ⟨by decide,by decide⟩,_,_,rfl,rfl,_,_,rfl,rfl,(by show (0:Int)<2147483647;decide),?_⟩
  refine ⟨_,rfl,a,_,_,1,rfl,rfl,ha,rfl,?_⟩;have b1:0<=(y*48271+39373) % 2147483647:=Int.emod_nonneg _ (by decide);have b2:(y*48271+39373) % 2147483647<2147483647:=Int.emod_lt_of_pos _ (by decide);refine ⟨_,rfl,a,_,_,_,rfl,rfl,SqL.of kC,at1,_,rfl,a,_,_,_,rfl,rfl,SqL.of kC,at1,_,_,rfl,rfl,.inl ⟨?_,?_⟩,_,_,rfl,rfl,(by show (0:Int)<2147483629;decide),_,_,rfl,rfl,⟨by decide,by decide⟩,_,rfl,_,_,rfl,rfl,m0,?_⟩
  ·show -(2 ^ 64)<(y*48271+39373) % 2147483647
   omega
  ·show (y*48271+39373) % 2147483647<2 ^ 64
   omega
  ·exact q _ _ (Int.emod_nonneg _ (by omega)) (Int.emod_lt_of_pos _ m0) kBL ⟨_,_,kC,hx⟩
theorem keep {H H1 H2:Hp} {p:Addr} (g:Same H H1) (n:H p=none) (b:SameBut p H1 H2):Same H H2:=λ c o e=>b c o (kH e n) (g c o e)
theorem PotAt.kept {H H':Hp} {p:Addr} (h:PotAt H p) (g:Same H H'):PotAt H' p:=by
 obtain ⟨x,y,e,z⟩:=h;exact ⟨x,y,g _ _ e,z⟩
theorem tU {i:Int} (h:i.natAbs<2 ^ 200):i.natAbs<2 ^ 9000:=Nat.lt_of_lt_of_le h (Nat.pow_le_pow_right (by decide) (by decide))
theorem PotAt.other {H:Hp} {a l:Addr} {o:HO} (h:PotAt H a) (n:a≠l):PotAt (upd H l o) a:=by
 obtain ⟨x,y,e,z⟩:=h;exact ⟨x,y,by rw [kO n];exact e,z⟩
structure Some' (L:Rows):Prop where
 pos:0<L.length
 le:L.length<=150
 ne:∀ (p:Nat) (row:List Nat),L[p]?=some row->row≠[]/\row.length<=1000
theorem RowsAt.but {H H':Hp} {r a:Addr} {A:List Addr} {L:Rows} (x:RowsAt H r A L) (h1:a≠r) (h2:a∉A) (g:SameBut a H H'):RowsAt H' r A L :=
 ⟨g _ _ h1.symm x.top,x.len,x.nd,x.out,λ i b ns hb hi=>g _ _ (λ z=>h2 (z ▸ mem_of_getElem? hb)) (x.row i b ns hb hi)⟩
theorem RowsAt.kept {H H':Hp} {r:Addr} {A:List Addr} {L:Rows} (x:RowsAt H r A L) (g:Same H H'):RowsAt H' r A L :=
 ⟨g _ _ x.top,x.len,x.nd,x.out,λ i b ns hb hi=>g _ _ (x.row i b ns hb hi)⟩
theorem kJR {row:List Nat} {j:Nat} (h:j<row.length):atI (row.map vn) (j:Int)=some (vn row[j]):=qV (by rw [List.getElem?_map,List.getElem?_eq_getElem h];rfl)
def WebAt (H:Hp) (t:Addr) (W:Rows):Prop:=∃ ts:List Addr,H t=some (.tup (ts.map V.ref))/\ts.length=W.length/\∀ (j:Nat) (a:Addr) (row:List Nat),ts[j]?=some a->W[j]?=some row->H a=some (.tup (row.map vn))
theorem WebAt.at {H:Hp} {t:Addr} {W:Rows} (h:WebAt H t W):∃ ts:List Addr,H t=some (.tup (ts.map V.ref))/\ts.length=W.length/\∀ (q:Nat) (row:List Nat),W[q]?=some row->∃ b,atI (ts.map V.ref) (q:Int)=some (.ref b)/\H b=some (.tup (row.map vn)):=by
 obtain ⟨ts,h1,h2,h3⟩:=h;refine ⟨ts,h1,h2,λ q row e=>?_⟩;have hq:q<ts.length:=by rw [h2];exact (List.getElem?_eq_some_iff.mp e).1
 exact ⟨ts[q],qV (by rw [List.getElem?_map,List.getElem?_eq_getElem hq];rfl),h3 q _ row (List.getElem?_eq_getElem hq) e⟩
theorem kFM {H:Hp} {a b:Addr} {o:HO} (hp:PotAt H a) (e:H b=some o) (n:∀ xs,o≠.lst xs):b≠a:=λ z=>by
 obtain ⟨x,y,h,_⟩:=hp;rw [z,h] at e;exact n _ (Option.some.inj e).symm
theorem WebAt.pot {H H':Hp} {a t:Addr} {W:Rows} (h:WebAt H t W) (g:SameBut a H H') (hp:PotAt H a):WebAt H' t W:=by
 obtain ⟨ts,h1,h2,h3⟩:=h;exact ⟨ts,g _ _ (kFM hp h1 (by simp)) h1,h2,λ j b row e1 e2=>g _ _ (kFM hp (h3 j b row e1 e2) (by simp)) (h3 j b row e1 e2)⟩
theorem WebAt.kept {H H':Hp} {t:Addr} {W:Rows} (h:WebAt H t W) (g:Same H H'):WebAt H' t W:=by
 obtain ⟨ts,h1,h2,h3⟩:=h;exact ⟨ts,g _ _ h1,h2,λ j a row e1 e2=>g _ _ (h3 j a row e1 e2)⟩
theorem kDQ {L:Rows} (G:Good L) (h:L.length<=150):Some' L :=
 ⟨by have:=G.three;omega,h,λ p row e=>⟨G.ne p row e,by have:=kKS G e;omega⟩⟩
theorem PotAt.rows {H H':Hp} {a r:Addr} {A:List Addr} (h:PotAt H a) (h1:a≠r) (h2:a∉A) (b:uR r A H H'):PotAt H' a:=by
 obtain ⟨x,y,e,z⟩:=h;exact ⟨x,y,b _ _ h1 h2 e,z⟩
def mZ:Sp:=λ vs H Q _=>∃ (a:Addr) (n:Nat),vs=[.ref a,vn n]/\PotAt H a/\n<=150 /\
 ∀ (l:Addr) (ns:List Nat) (H':Hp),SameBut a H H'->PotAt H' a->H l=none->l≠a->H' l=some (.lst (ns.map vn))->ns.Perm (List.range n)->Q (.ref l) H'
theorem kFO {ns:List Nat} {i d:Nat} (h:ns.Perm (List.range i)):(ns.take d++i::ns.drop d).Perm (List.range (i+1)):=by
 rw [range_succ]
 have e:(ns.take d++i::ns.drop d).Perm (i::ns):=by
  have:=List.perm_middle (a:=i) (l₁:=ns.take d) (l₂:=ns.drop d);rw [take_append_drop] at this;exact this
 exact e.trans ((List.Perm.cons i h).trans (List.perm_append_singleton i _).symm)
theorem oB {f:Addr} {fd:FuncData} (F:Fun K "_law_names" "_law_names" xS f fd) (qK:Own.Has P w K mg base "_law_digit" ["_law_pot_here","_law_many"] 1 (uK)) (z_range:mg "range" = none):FnOk P w K mg base CX0 2 f fd ["_law_pot_here","_law_n"] (mZ):=by
 refine F.ok sc_law_names (λ vs H Q E h=>?_) (λ cdv A outer s H vs Q E hr h=>?_)
 ·obtain ⟨a,n,rfl,_⟩:=h
  rfl
 obtain ⟨a,n,rfl,ha,hn,k⟩:=h
 refine ⟨_,(kF (kT (i:=2) sc_law_names.nd rfl (Or.inl rfl) (qS kD))
   (kF (wH PassesOwn.never rfl (zQ rfl z_range (kB (pv 1) kD)) (kR (i:=3) sc_law_names.nd rfl (Or.inl rfl)) (kM (jE (jS PySem.F.plainAttrs_list PySem.F.slot_list_insert PySem.F.type_list_insert cQ (pv 2) (kB (Own.pe_has qK (hr.mono (by decide)) rfl (kB (pv 0) (kB (kZ qX (pv 3) kK) kD))) (kB (pv 3) kD))))))
   (kM (kX (pv 2))))),?_⟩
 refine ⟨L2.y0,λ l nl=>?_⟩
 have la:l≠a:=by
  obtain ⟨x,y,z,_⟩:=ha;exact (kH z nl).symm
 have g0:=kE nl (.lst [])
 refine ⟨_,rfl,(n:Int),rfl,by omega,by omega,yV (lo:=0) (n:=(n:Int).toNat) (λ i σ H2=>∃ (x:Option V) (ns:List Nat),σ=[some (.ref a),some (vn n),some (.ref l),x]/\H2 l=some (.lst (ns.map vn))/\ns.Perm (List.range i)/\SameBut a H H2/\PotAt H2 a)
  ⟨none,[],rfl,kC,.nil,.of g0,ha.kept g0⟩ ?_ ?_⟩
 ·rintro i σ H2 hi ⟨x,ns,rfl,hl,hp,s2,p2⟩
  have ln:ns.length=i:=by rw [hp.length_eq,length_range]
  refine ⟨_,rfl,.inl ⟨rfl,_,SqL.of hl⟩,_,rfl,_,rfl,_,_,rfl,rfl,a,_,rfl,p2,(by omega),tU (Nat.lt_of_le_of_lt (m:=151) (by omega) (by decide)),λ d H3 d0 d1 s3 p3=>?_⟩;have hl3:=s3 _ _ la hl;refine ⟨_,rfl,l,_,_,_,rfl,rfl,hl3,d0,(by omega),(by rw [length_map,ln];exact kQ (by omega)),?_⟩;refine ⟨_,ns.take d.toNat++i::ns.drop d.toNat,rfl,?_,kFO hp,(λ b o nb e=>?_),p3.other la.symm⟩
  ·rw [map_append,map_take,map_cons,map_drop,show vn i=V.int (0+(i:Int)) by rw [Int.zero_add];rfl]
   exact kC
  ·rw [kO (kH e nl)]
   exact s3 b o nb (s2 b o nb e)
 ·rintro σ H2 ⟨x,ns,rfl,hl,hp,s2,p2⟩
  exact ⟨_,rfl,k l ns H2 s2 p2 nl la hl hp⟩
theorem zB (xs:List V) {k:Nat} (h:k<=xs.length):jO xs (some (k:Int)) none=xs.drop k:=by
 unfold jO;rw [HT.sIx_none,HT.sIx_nat,Nat.min_eq_left h,take_of_length_le];rw [length_drop];exact Nat.le_refl _
theorem xN (xs:List V) {k:Nat} (h:k<=xs.length):jO xs none (some (k:Int))=xs.take k:=by
 unfold jO;rw [HT.sIx_none,HT.sIx_nat,Nat.min_eq_left h,List.drop_zero,Nat.sub_zero]
def kHL (L:Rows) (ns:List Nat) (W:Rows) (p:Nat):Prop:=∀ row,L[p]?=some row->∃ n M,ns[p]?=some n/\M∈row.map (λ q=>ns.getD q 0)/\(∀ i∈row.map (λ q=>ns.getD q 0),M<=i)/\W[n]?=some (rot (row.map λ q=>ns.getD q 0) M)
def kEW:Sp:=λ vs H Q _=>∃ (r l:Addr) (A:List Addr) (L:Rows) (ns:List Nat),vs=[.ref r,.ref l]/\RowsAt H r A L/\H l=some (.lst (ns.map vn))/\ns.Perm (List.range L.length)/\Some' L/\(∀ (p:Nat) (row:List Nat),L[p]?=some row->∀ x∈row,x<L.length) /\
 ∀ (t:Addr) (W:Rows) (H':Hp),Same H H'->WebAt H' t W->W.length=L.length->(∀ p,p<L.length->kHL L ns W p)->Q (.ref t) H'
theorem kJD {n j:Nat} (h:j<n):ixN n (j:Int)=some j:=by
 unfold ixN;rw [if_pos (by omega),if_pos (by omega),Int.toNat_natCast]
theorem qP {H H1:Hp} {D:Addr} {o:HO} (n:H D=none) (g:Same H H1):Same H (upd H1 D o):=λ b u e=>by
 rw [kO (kH e n)];exact g b u e
theorem kFF (n:Nat) (e:Addr):(List.replicate n [V.ref e]).flatten=(List.replicate n e).map V.ref:=by
 induction n with
 | zero=>rfl
 | succ n ih=>rw [replicate_succ,replicate_succ,List.flatten_cons,ih];rfl
theorem pS {n k:Nat} (h:k<=n):HT.sIx n 0 (some (k:Int))=k:=by rw [HT.sIx_nat,Nat.min_eq_left h]
theorem vY {n k:Nat} (h:k<=n):HT.sIx n n (some (k:Int))=k:=by rw [HT.sIx_nat,Nat.min_eq_left h]
theorem kAK (ns:List Nat) (x:Nat):(ns.map vn).drop (ns.idxOf x)++(ns.map vn).take (ns.idxOf x)=(rot ns x).map vn:=by unfold rot;rw [map_append,map_drop,map_take]
def fT:Sp:=λ vs H Q _=>∃ (a:Addr) (ns:List Nat) (x:Nat),vs=[.ref a,vn x]/\(H a=some (.lst (ns.map vn))\/H a=some (.tup (ns.map vn)))/\x∈ns/\ns.length<=1000 /\
 ∀ (t:Addr) (H':Hp),Same H H'->H' t=some (.tup ((rot ns x).map vn))->Q (.ref t) H'
theorem tR {f:Addr} {fd:FuncData} (F:Fun K "from_on" "from_on" zP f fd) (z_tuple:mg "tuple" = none):FnOk P w K mg base CX0 1 f fd ["row","first"] (fT):=by
 refine F.ok sc_from_on (λ vs H Q E h=>?_) (λ cdv A outer s H vs Q E hr h=>?_)
 ·obtain ⟨a,ns,x,rfl,_⟩:=h
  rfl
 obtain ⟨D,cl,m,rfl,hD,hm,cle,k⟩:=h;have il:=idxOf_lt_length_of_mem hm;have lv:(cl.map vn).length=cl.length:=length_map _;rcases hD with hD | hD
 ·refine ⟨_,(kF (kT (i:=2) sc_from_on.nd rfl (Or.inl rfl) (jS PySem.F.plainAttrs_list PySem.F.slot_list_index PySem.F.type_list_index zX (pv 0) (kB (pv 1) kD)))
   (kM (kX (qO qE rfl z_tuple PyProof.Rows.boot_tuple (kB (kZ zC (qH jD (pv 0) (qG (pv 2)) qR) (qH jD (pv 0) qR (qG (pv 2)))) kD))))),?_⟩
  refine ⟨_,rfl,.inl ⟨rfl,_,SqL.of hD⟩,_,rfl,D,cl.map ci,m,cl.idxOf m,rfl,rfl,(by rw [hD,xF]),qT hm,?_⟩;refine ⟨_,rfl,_,rfl,_,rfl,D,_,rfl,SqL.of hD,λ p1 m1=>?_⟩;rw [zB _ (by rw [lv];omega)];have h1:=kE m1 (.lst ((cl.map vn).drop (cl.idxOf m)));refine ⟨_,rfl,_,rfl,_,rfl,D,_,rfl,SqL.of (h1 _ _ hD),λ p2 m2=>?_⟩;rw [xN _ (by rw [lv];omega)];have h2:=kE m2 (.lst ((cl.map vn).take (cl.idxOf m)));refine ⟨p1,p2,_,_,rfl,rfl,h2 _ _ kC,kC,(by rw [length_drop,length_take,lv];exact Nat.le_of_lt (kQ (by omega))),λ p3 m3=>?_⟩;have h3:=kE m3 (.lst ((cl.map vn).drop (cl.idxOf m)++(cl.map vn).take (cl.idxOf m)));refine ⟨p3,_,rfl,.inl ⟨SqL.of kC,λ t m4=>?_⟩⟩;exact k t _ (h1.trans (h2.trans (h3.trans (kE m4 _)))) (by rw [<-kAK];exact kC)
 ·refine ⟨_,(kF (kT (i:=2) sc_from_on.nd rfl (Or.inl rfl) (jS PySem.F.plainAttrs_tuple PySem.F.slot_tuple_index PySem.F.type_tuple_index uM (pv 0) (kB (pv 1) kD)))
   (kM (kX (qO qE rfl z_tuple PyProof.Rows.boot_tuple (kB (kZ kAS (qH nK (pv 0) (qG (pv 2)) qR) (qH nK (pv 0) qR (qG (pv 2)))) kD))))),?_⟩
  refine ⟨_,rfl,.inr (.inl ⟨rfl,.inr ⟨_,hD⟩⟩),_,rfl,D,cl.map ci,m,cl.idxOf m,rfl,rfl,SqT.of (by rw [hD,xF]),qT hm,?_⟩;by_cases z:cl.idxOf m=0
  ·have er:rot cl m=cl:=by unfold rot;rw [z];simp
   rw [er] at k;refine ⟨_,rfl,_,rfl,_,rfl,.inr ⟨D,_,rfl,SqT.of hD,⟨by rw [z,lv];exact pS (k:=0) (Nat.zero_le _),HT.sIx_none _ _⟩,?_⟩⟩;refine ⟨_,rfl,_,rfl,_,rfl,.inl ⟨D,_,rfl,SqT.of hD,(λ c=>by rw [lv,vY (by omega)] at c;omega),λ p2 m2=>?_⟩⟩;rw [xN _ (by rw [lv];omega),z];have h2:=kE m2 (.tup ((cl.map vn).take 0));refine ⟨D,p2,_,_,rfl,rfl,SqT.of (h2 _ _ hD),SqT.of kC,(λ c=>by rw [List.map_eq_nil_iff] at c;rw [c] at hm;cases hm),(by rw [lv];simp;exact kEZ cle),λ _=>?_,λ c=>absurd rfl c⟩;exact ⟨D,_,rfl,.inr ⟨SqT.of (h2 _ _ hD),k D _ h2 (h2 _ _ hD)⟩⟩
  ·refine ⟨_,rfl,_,rfl,_,rfl,.inl ⟨D,_,rfl,SqT.of hD,(λ c=>by rw [lv,pS (by omega)] at c;exact z c.1),λ p1 m1=>?_⟩⟩
   rw [zB _ (by rw [lv];omega)];have h1:=kE m1 (.tup ((cl.map vn).drop (cl.idxOf m)));refine ⟨_,rfl,_,rfl,_,rfl,.inl ⟨D,_,rfl,SqT.of (h1 _ _ hD),(λ c=>by rw [lv,vY (by omega)] at c;omega),λ p2 m2=>?_⟩⟩;rw [xN _ (by rw [lv];omega)];have h2:=kE m2 (.tup ((cl.map vn).take (cl.idxOf m)));refine ⟨p1,p2,_,_,rfl,rfl,SqT.of (h2 _ _ kC),SqT.of kC,(λ c=>by have:=congrArg List.length c;rw [length_drop,lv,length_nil] at this;omega),(by rw [length_drop,length_take,lv];exact kEZ (by omega)),(λ c=>by have:=congrArg List.length c;rw [length_take,lv,length_nil] at this;omega),λ _ p3 m3=>?_⟩;have h3:=kE m3 (.tup ((cl.map vn).drop (cl.idxOf m)++(cl.map vn).take (cl.idxOf m)));refine ⟨p3,_,rfl,.inr ⟨SqT.of kC,?_⟩⟩;exact k p3 _ (h1.trans (h2.trans h3)) (by rw [<-kAK];exact kC)
theorem uN (s:Nat) (row:List Nat):inV (vn s) (row.map vn)=decide (s∈row):=by
 unfold inV;rw [Bool.eq_iff_iff,List.any_eq_true,decide_eq_true_iff];constructor
 ·rintro ⟨y,hy,e⟩
  obtain ⟨n,hn,rfl⟩:=mem_map.mp hy;have:(n:Int)=s:=by simpa [eqV,vn] using e
  rw [show s=n by omega];exact hn
 ·intro h
  exact ⟨vn s,mem_map.mpr ⟨s,h,rfl⟩,by simp [eqV,vn]⟩
theorem wX (row:List Nat):(row.map vn).all bR=true:=by
 rw [all_eq_true];intro y hy;obtain ⟨n,hn,rfl⟩:=mem_map.mp hy
 rfl
def cH:Sp:=λ vs H Q _=>∃ (t z:Addr) (W:Rows) (p q:Nat),vs=[.ref t,.ref z]/\WebAt H t W/\H z=some (.tup [vn p,vn q])/\Nb W/\E W p q /\
 ∀ (y:Addr) (H':Hp),Same H H'->H y=none->H' y=some (.tup [vn (nxt W (p,q)).1,vn (nxt W (p,q)).2])->Q (.ref y) H'
theorem kHY {W:Rows} (S:Nb W) {q v p:Nat} (h:R W q v p):∃ row,W[q]?=some row/\p∈row/\jL row p=some v:=by
 obtain ⟨row,e,n⟩:=h;exact ⟨row,e,(qD n).2,nQ (S.nd _ _ e) n⟩
theorem kCZ {f:Addr} {fd:FuncData} (F:Fun K "behind" "behind" wR f fd):FnOk P w K mg base CX0 1 f fd ["web","step"] (cH):=by
 refine F.ok sc_behind (λ vs H Q E h=>?_) (λ cdv A outer s H vs Q E hr h=>?_)
 ·obtain ⟨t,z,W,p,q,rfl,_⟩:=h
  rfl
 obtain ⟨t,z,W,p,q,rfl,hW,hz,S,hE,k⟩:=h
 refine ⟨_,(kF (vD (pv 1) (yQ rfl (qC (kR (i:=2) sc_behind.nd rfl (Or.inl rfl)) (qC (kR (i:=3) sc_behind.nd rfl (Or.inl rfl)) xB))))
   (kF (kT (i:=4) sc_behind.nd rfl (Or.inl rfl) (qB jC (pv 0) (pv 3) (λ _ _=>rfl)))
   (kM (kX (qW (kB (pv 3) (kB (qB jC (pv 4) (kZ xH (jS PySem.F.plainAttrs_tuple PySem.F.slot_tuple_index PySem.F.type_tuple_index uM (pv 4) (kB (pv 2) kD)) kK) (λ _ _=>rfl)) kD))))))),?_⟩
 obtain ⟨v,rv,en,_⟩:=cB S hE;obtain ⟨row,hq,hp,hv⟩:=kHY S rv;obtain ⟨ts,h1,_,h3⟩:=hW.at;obtain ⟨b,e1,e2⟩:=h3 q row hq;rw [en] at k;refine ⟨_,rfl,z,_,rfl,SqT.of hz,rfl,_,_,rfl,_,_,rfl,rfl,?_⟩;refine ⟨_,rfl,_,rfl,t,_,_,_,rfl,rfl,SqT.of h1,e1,?_⟩;refine ⟨_,rfl,_,rfl,_,rfl,.inr (.inl ⟨rfl,.inr ⟨_,e2⟩⟩),_,rfl,b,row.map ci,p,row.idxOf p,rfl,rfl,SqT.of (by rw [e2,xF]),qT hp,_,_,rfl,rfl,b,_,_,_,rfl,rfl,SqT.of e2,kBP hp hv,L2.y2,λ y ny=>?_⟩;exact k y _ (kE ny _) ny kC
def prD (x y:Nat):PyData:=.tuple [.int (x:Int),.int (y:Int)]
theorem fZ (x y:Nat):SeqAt.shaped (prD x y)=true:=by
 first | rfl | simp [prD,SeqAt.shaped,PyData.canLay0,PyData.canLayAll0,PyData.depth,PyData.depthAll]
theorem kAL (x y u v:Nat):PyData.eqv (prD x y) (prD u v)=decide (x=u/\y=v):=by
 have e:∀ i j:Nat,((i:Int) == (j:Int))=decide (i=j):=λ i j=>by
  rw [Bool.eq_iff_iff,beq_iff_eq,decide_eq_true_iff];omega
 simp [prD,PyData.eqv,PyData.eqvAll,e]
theorem kGY {K:PySem.W.Frag} {H:Hp} {z:Addr} {x y:Nat} (h:H z=some (.tup [vn x,vn y])):Dt K H (prD x y) (.ref z):=by
 unfold prD Dt;exact ⟨z,_,rfl,SqT.of h,by simp only [DtAll,Dt];exact ⟨_,_,rfl,rfl,_,_,rfl,rfl,rfl⟩⟩
def PairsAt (H:Hp) (s:Addr) (T:List (Nat×Nat)):Prop:=∃ ss:List Addr,H s=some (.lst (ss.map V.ref))/\ss.length=T.length/\∀ (i:Nat) (b:Addr) (t:Nat×Nat),ss[i]?=some b->T[i]?=some t->H b=some (.tup [vn t.1,vn t.2])
theorem PairsAt.kept {H H':Hp} {s:Addr} {T:List (Nat×Nat)} (h:PairsAt H s T) (g:Same H H'):PairsAt H' s T:=by
 obtain ⟨ss,h1,h2,h3⟩:=h;exact ⟨ss,g _ _ h1,h2,λ i b t e1 e2=>g _ _ (h3 i b t e1 e2)⟩
theorem PairsAt.app {H H':Hp} {s b:Addr} {ss:List Addr} {T:List (Nat×Nat)} {t:Nat×Nat} (h1:H s=some (.lst (ss.map V.ref))) (h2:ss.length=T.length) (h3:∀ (i:Nat) (b:Addr) (t:Nat×Nat),ss[i]?=some b->T[i]?=some t->H b=some (.tup [vn t.1,vn t.2])) (hb:H b=some (.tup [vn t.1,vn t.2])) :
  PairsAt (upd H s (.lst (ss.map V.ref++[.ref b]))) s (T++[t]):=by
 refine ⟨ss++[b],by rw [map_append];exact kC,by simp [h2],λ i c u e1 e2=>?_⟩;have cs:c≠s->upd H s (.lst (ss.map V.ref++[.ref b])) c=H c:=λ z=>kO z;by_cases hl:i<ss.length
 ·rw [List.getElem?_append_left hl] at e1
  rw [List.getElem?_append_left (by omega)] at e2;have:=h3 i c u e1 e2;rw [cs (vS this h1 (by simp))];exact this
 ·have:i=ss.length:=by
   have:=(List.getElem?_eq_some_iff.mp e1).1;simp at this;omega
  subst this;rw [List.getElem?_concat_length] at e1;rw [h2,List.getElem?_concat_length] at e2;cases e1
  cases e2
  rw [cs (vS hb h1 (by simp))];exact hb
def orb (W:Rows) (p q k:Nat):List (Nat×Nat):=(List.range k).map λ i=>it (nxt W) i (p,q)
theorem kFT (W:Rows) (p q k:Nat):orb W p q (k+1)=orb W p q k++[it (nxt W) k (p,q)]:=by
 unfold orb;rw [range_succ,map_append]
 rfl
theorem nV (W:Rows) (p q k:Nat):(orb W p q k).length=k:=by simp [orb]
structure Turns (W:Rows) (p q k:Nat):Prop where
 pos:0<k
 back:it (nxt W) k (p,q)=(p,q)
 first:∀ j,0<j->j<k->it (nxt W) j (p,q)≠(p,q)
 few:k<=(kS W).length
theorem kEH {W:Rows} (S:Nb W) {p q:Nat} (h:E W p q):∃ k,Turns W p q k:=by
 obtain ⟨k,h1,h2,h3,h4⟩:=(gE S.nd S.sym).comes (mem_steps.mpr h);exact ⟨k,h1,h3,h4,h2⟩
theorem aW {W:Rows} (S:Nb W) (h:W.length<=42):(kS W).length<=1764:=by
 rw [yY]
 have:∀ (L:List (List Nat)) (n:Nat),(∀ r∈L,r.length<=n)->(L.map List.length).sum<=L.length*n:=λ L n hL=>by
  induction L with
  | nil=>simp
  | cons r L ih =>
   have h1:=hL r (by simp);have h2:=ih λ r hr=>hL r (by simp [hr]);simp only [map_cons,List.sum_cons,length_cons,Nat.add_mul,Nat.one_mul];omega
 have h1:=this W W.length λ r hr=>by
  obtain ⟨i,hi,rfl⟩:=mem_iff_getElem.mp hr;exact S.len (List.getElem?_eq_getElem hi)
 have h2:W.length*W.length<=42*42:=Nat.mul_le_mul h h;omega
def aY:Sp:=λ vs H Q _=>∃ (w z:Addr) (W:Rows) (p q:Nat),vs=[.ref w,.ref z]/\WebAt H w W/\Nb W/\W.length<=42/\H z=some (.tup [vn p,vn q])/\E W p q /\
 ∀ (s:Addr) (k:Nat) (H':Hp),Same H H'->Turns W p q k->PairsAt H' s (orb W p q k)->Q (.ref s) H'
def lO:Option HO->Nat
 | some (.lst xs)=>xs.length
 | some (.dK kvs)=>kvs.length
 | _=>0
def kMZ (K0:Nat) (σ:St) (H:Hp):Nat:=match σ with
 | [_,_,some (.ref s),_]=>K0-lO (H s)
 | _=>0
theorem gC {f:Addr} {fd:FuncData} (F:Fun K "steps_round" "steps_round" jU f fd) (bO:Own.Has P w K mg base "behind" ["web","step"] 1 (cH)):FnOk P w K mg base CX0 2 f fd ["web","step"] (aY):=by
 refine F.ok sc_steps_round (λ vs H Q E h=>?_) (λ cdv A outer s0 H vs Q E hr h=>?_)
 ·obtain ⟨w,z,W,p,q,rfl,_⟩:=h
  rfl
 obtain ⟨w,z,W,p,q,rfl,hW,S,h30,hz,hE,k⟩:=h
 refine ⟨_,(kF (kT (i:=2) sc_steps_round.nd rfl (Or.inl rfl) (qS (kB (pv 1) kD)))
   (kF (kT (i:=3) sc_steps_round.nd rfl (Or.inl rfl) (Own.pe_has bO (hr.mono (by decide)) rfl (kB (pv 0) (kB (pv 1) kD))))
   (kF (pW PassesOwn.never (qF (vG hr.units) (pv 3) (pv 1) (qL _)) (kF (jE (jS PySem.F.plainAttrs_list PySem.F.slot_list_append PySem.F.type_list_append jM (pv 2) (kB (pv 3) kD)))
   (kM (kT (i:=3) sc_steps_round.nd rfl (Or.inl rfl) (Own.pe_has bO (hr.mono (by decide)) rfl (kB (pv 0) (kB (pv 3) kD)))))))
   (kM (kX (pv 2)))))),?_⟩
 obtain ⟨n,T⟩:=kEH S hE;have few:=aW S h30;have n9:=T.few;refine ⟨_,rfl,L2.y1,λ s ns=>?_⟩;have gs:=kE ns (.lst [.ref z]);refine ⟨_,rfl,_,rfl,w,z,W,p,q,rfl,hW.kept gs,gs _ _ hz,S,hE,λ y H1 g1 ny hy=>?_⟩;have hs1:=g1 _ _ (kC (H:=H) (a:=s) (o:=.lst [.ref z]));have g01:=gs.trans g1
 refine pH (λ σ H2=>∃ (y:Addr) (i:Nat) (ss:List Addr),σ=[some (.ref w),some (.ref z),some (.ref s),some (.ref y)]/\Same H H2/\0<i/\i<=n /\
   H2 s=some (.lst (ss.map V.ref))/\ss.length=i/\(∀ (j:Nat) (b:Addr) (t:Nat×Nat),ss[j]?=some b->(orb W p q i)[j]?=some t->H2 b=some (.tup [vn t.1,vn t.2]))/\H2 y=some (.tup [vn (it (nxt W) i (p,q)).1,vn (it (nxt W) i (p,q)).2])) (kMZ (n+1))
  ⟨y,1,[z],rfl,g01,by omega,T.pos,hs1,rfl,(λ j b t e1 e2=>?_),hy⟩ ?_ ?_
 ·match j,e1 with
  | 0,e1 =>
   cases e1
   have:t=(p,q):=by
    have:(orb W p q 1)[0]?=some (p,q):=rfl;rw [this] at e2;exact (Option.some.inj e2).symm
   rw [this];exact g01 _ _ hz
 ·rintro σ H2 ⟨y,i,ss,rfl,g2,i0,i1,hs,ls,hss,hy⟩
  have hz2:=g2 _ _ hz;refine ⟨_,rfl,_,rfl,_,prD p q,kGY hy,kGY hz2,fZ _ _,fZ _ _,_,rfl,?_⟩;rw [kAL];by_cases c:it (nxt W) i (p,q)=(p,q)
  ·rw [decide_eq_true (by rw [c];exact ⟨rfl,rfl⟩)]
   have:i=n:=by
    rcases Nat.lt_or_ge i n with l | l
    ·exact absurd c (T.first i i0 l)
    ·omega
   subst this;exact ⟨_,rfl,k s i H2 g2 T ⟨ss,hs,by rw [nV];exact ls,hss⟩⟩
  ·rw [decide_eq_false (λ z=>c (Prod.ext z.1 z.2))]
   have lt:i<n:=by
    rcases Nat.lt_or_ge i n with l | l
    ·exact l
    ·exact absurd (by rw [show i=n by omega];exact T.back) c
   refine ⟨_,rfl,.inl ⟨rfl,_,SqL.of hs⟩,_,rfl,s,_,_,rfl,rfl,hs,(by rw [length_map];exact zV (by omega)),?_⟩;have A1:=PairsAt.app (H':=H2) hs (by rw [nV];exact ls) hss (t:=it (nxt W) i (p,q)) hy;rw [<-kFT] at A1;have gu:Same H (upd H2 s (.lst (ss.map V.ref++[V.ref y]))):=qP ns g2;have sy:y≠s:=vS hy hs (by simp);have hyu:upd H2 s (.lst (ss.map V.ref++[V.ref y])) y=some (.tup [vn (it (nxt W) i (p,q)).1,vn (it (nxt W) i (p,q)).2]):=by rw [kO sy];exact hy
   generalize upd H2 s (.lst (ss.map V.ref++[V.ref y]))=H3 at *;refine ⟨_,rfl,_,rfl,w,y,W,_,_,rfl,hW.kept gu,hyu,S,kAZ S hE i,λ y' H4 g4 ny' hy'=>?_⟩;obtain ⟨ss',b1,b2,b3⟩:=A1.kept g4;rw [nV] at b2;refine ⟨⟨y',i+1,ss',rfl,gu.trans g4,by omega,lt,b1,b2,b3,hy'⟩,?_⟩;show n+1-lO (H4 s)<n+1-lO (H2 s);rw [b1,hs];show n+1-(ss'.map V.ref).length<n+1-(ss.map V.ref).length;rw [length_map,length_map,b2,ls];clear hss b3 few;omega
 ·rintro σ H1 Q1 Q2 m ⟨v,e1,v2,e2,d,e,h1,h2,h3,h4,kk,e5,q1⟩
  exact ⟨v,e1,v2,e2,d,e,h1,h2,h3,h4,kk,e5,m _ _ q1⟩
theorem rZ {H:Hp}:∀ {ss:List Addr} {T:List (Nat×Nat)},ss.length=T.length->(∀ (i:Nat) (b:Addr) (t:Nat×Nat),ss[i]?=some b->T[i]?=some t->H b=some (.tup [vn t.1,vn t.2]))->DtAll K H (T.map λ t=>prD t.1 t.2) (ss.map V.ref)
 | [],[],_,_=>by unfold DtAll;rfl
 | s::ss,t::T,hl,h=>by
  rw [map_cons,map_cons];unfold DtAll;exact ⟨_,_,rfl,kGY (h 0 s t rfl rfl),rZ (by simpa using hl) λ i b u e1 e2=>h (i+1) b u (by simpa using e1) (by simpa using e2)⟩
 | [],_::_,hl,_=>by simp at hl
 | _::_,[],hl,_=>by simp at hl
def fX (row:List Nat):PyData:=.tuple (row.map λ n:Nat=>PyData.int (n:Int))
def aQ (W:Rows):PyData:=.tuple (W.map fX)
theorem kGJ (l:List Nat):PyData.canLayAll0 (l.map λ n:Nat=>PyData.int (n:Int))=true/\PyData.depthAll (l.map λ n:Nat=>PyData.int (n:Int))=0:=by
 induction l with
 | nil=>exact ⟨rfl,rfl⟩
 | cons x l ih=>simp [PyData.canLayAll0,PyData.canLay0,PyData.depthAll,PyData.depth,ih.1,ih.2]
theorem kFC (row:List Nat):PyData.canLay0 (fX row)=true/\PyData.depth (fX row)<=1:=by
 obtain ⟨h1,h2⟩:=kGJ row;unfold fX;simp [PyData.canLay0,PyData.depth,h1,h2]
theorem pJ (W:Rows):PyData.canLayAll0 (W.map fX)=true/\PyData.depthAll (W.map fX)<=1:=by
 induction W with
 | nil=>exact ⟨rfl,by decide⟩
 | cons x l ih =>
  obtain ⟨h1,h2⟩:=kFC x;simp only [map_cons,PyData.canLayAll0,PyData.depthAll,h1,ih.1];have:=ih.2;refine ⟨rfl,?_⟩;omega
theorem gL (l:List Nat):PyData.eqvAll (l.map λ n:Nat=>PyData.int (n:Int)) (l.map λ n:Nat=>PyData.int (n:Int))=true:=by
 induction l with
 | nil=>rfl
 | cons x l ih=>simp [PyData.eqvAll,PyData.eqv,ih]
theorem kFA (W:Rows):PyData.eqvAll (W.map fX) (W.map fX)=true:=by
 induction W with
 | nil=>rfl
 | cons x l ih=>simp [PyData.eqvAll,PyData.eqv,ih,fX,gL]
theorem kEE (W:Rows):PyData.eqv (aQ W) (aQ W)=true:=by
 unfold aQ;simp [PyData.eqv,kFA]
theorem oT {H:Hp} (row:List Nat):DtAll K H (row.map λ n:Nat=>PyData.int (n:Int)) (row.map vn):=by
 induction row with
 | nil=>unfold DtAll;rfl
 | cons x r ih =>
  rw [map_cons,map_cons];unfold DtAll;exact ⟨_,_,rfl,(by unfold Dt;rfl),ih⟩
theorem rY {H:Hp}:∀ {ts:List Addr} {W:Rows},ts.length=W.length->(∀ (j:Nat) (a:Addr) (row:List Nat),ts[j]?=some a->W[j]?=some row->H a=some (.tup (row.map vn)))->DtAll K H (W.map fX) (ts.map V.ref)
 | [],[],_,_=>by unfold DtAll;rfl
 | s::ss,t::T,hl,h=>by
  rw [map_cons,map_cons];unfold DtAll;refine ⟨_,_,rfl,?_,rY (by simpa using hl) λ i b u e1 e2=>h (i+1) b u (by simpa using e1) (by simpa using e2)⟩;unfold fX Dt;exact ⟨s,_,rfl,SqT.of (h 0 s t rfl rfl),oT t⟩
 | [],_::_,hl,_=>by simp at hl
 | _::_,[],hl,_=>by simp at hl
theorem WebAt.dt {H:Hp} {t:Addr} {W:Rows} (h:WebAt H t W):Dt K H (aQ W) (.ref t):=by
 obtain ⟨ts,h1,h2,h3⟩:=h;unfold aQ Dt;exact ⟨t,_,rfl,SqT.of h1,rY h2 h3⟩
theorem kGA {H:Hp} {a:Addr} (h:H a=some (.lst [])):Dt K H (.list []) (.ref a):=by
 unfold Dt;exact ⟨a,_,rfl,SqL.of h,by unfold DtAll;rfl⟩
theorem tM {f:Addr} {fd:FuncData} (F:Fun K "_law_web" "_law_web" zK f fd) (z_len:mg "len" = none) (z_enumerate:mg "enumerate" = none) (z_min:mg "min" = none) (z_tuple:mg "tuple" = none):FnOk P w K mg base CX0 1 f fd ["_law_rows_here","_law_names_here"] (kEW):=by
 refine F.ok sc_law_web (λ vs H Q E h=>?_) (λ cdv A outer s H vs Q E hr h=>?_)
 ·obtain ⟨r,l,A,L,ns,rfl,_⟩:=h
  rfl
 obtain ⟨r,l,A1,L,ns,rfl,X,hl,hp,S,rng,k⟩:=h
 refine ⟨_,(kF (kT (i:=2) sc_law_web.nd rfl (Or.inl rfl) (kZ kLE (qS (kB (qW kD) kD)) (kP kN rfl z_len PySem.boot_len (kB (pv 0) kD))))
   (kF (wH PassesOwn.never rfl (nS true rfl z_enumerate (kB (pv 0) kD)) (yQ rfl (qC (kR (i:=3) sc_law_web.nd rfl (Or.inl rfl)) (qC (kR (i:=4) sc_law_web.nd rfl (Or.inl rfl)) xB))) (kF (fA (i:=5) (Nc:=["_law_q","_law_names_here"]) (js:=[none,some 1]) rfl rfl sc_law_web.nd rfl (Or.inl rfl) (yC (pv 4)) (CS.of rfl rfl) rfl (λ C s₂ H₂ fp pins=>(kR (i:=0) (show List.Nodup (α:=Str) ["_law_q","_law_names_here"] by decide +kernel) rfl (Or.inl rfl))) (λ C s₂ H₂ fp pins D L=>(xK (jX (qB (show IxR _ (kIA K) from kY) (pv 1) (pv 0) (λ _ _=>rfl))))))
   (kF (kT (i:=6) sc_law_web.nd rfl (Or.inl rfl) (jS PySem.F.plainAttrs_list PySem.F.slot_list_index PySem.F.type_list_index zX (pv 5) (kB (kP (kDY rfl) rfl z_min PyProof.Rows.boot_min (kB (pv 5) kD)) kD)))
   (kM (vD (qO qE rfl z_tuple PyProof.Rows.boot_tuple (kB (kZ zC (qH jD (pv 5) (qG (pv 6)) qR) (qH jD (pv 5) qR (qG (pv 6)))) kD)) (tF (pv 2) (qB kY (pv 1) (pv 3) (λ _ _=>rfl)) fW))))))
   (kM (kX (qO qE rfl z_tuple PyProof.Rows.boot_tuple (kB (pv 2) kD)))))),?_⟩
 have lns:ns.length=L.length:=by rw [hp.length_eq,length_range]
 have nsb:∀ {j:Nat} {n:Nat},ns[j]?=some n->n<L.length:=λ {j n} e=>mem_range.mp (hp.mem_iff.mp (mem_of_getElem? e));have nnd:ns.Nodup:=hp.nodup_iff.mpr nodup_range;have lA:((A1.map V.ref).length:Int)=L.length:=by rw [length_map,X.len]
 have L150:=S.le;refine ⟨L2.y0,λ e ne=>⟨L2.y1,λ l1 n1=>?_⟩⟩;have g1:=(kE ne (.tup [])).trans (kE n1 (.lst [.ref e]));have he:=(kE n1 (.lst [.ref e])) _ _ (kC (H:=H) (a:=e) (o:=.tup []));have hl1:=kC (H:=upd H e (.tup [])) (a:=l1) (o:=.lst [.ref e]);generalize upd (upd H e (.tup [])) l1 (.lst [.ref e])=H1 at *;refine ⟨_,rfl,r,_,rfl,.inl (SqL.of (g1 _ _ X.top)),l1,_,_,rfl,rfl,hl1,(by omega),(by omega),(by rw [lA];exact Nat.le_of_lt (kQ (by simp;omega))),λ f nf=>?_⟩;rw [lA,Int.toNat_natCast,kFF];have gf:=kE nf (.lst ((List.replicate L.length e).map V.ref));have g2:=g1.trans gf;have he2:=gf _ _ he;have hf2:=kC (H:=H1) (a:=f) (o:=.lst ((List.replicate L.length e).map V.ref));generalize upd H1 f (.lst ((List.replicate L.length e).map V.ref))=H2 at *
 refine ⟨_,rfl,r,rfl,⟨_,SqL.of (g2 _ _ X.top)⟩,rV (k:=true) (xs:=A1.map V.ref) (λ i σ H3=>∃ (x3 x4 x5 x6:Option V) (ts:List Addr) (W:Rows),σ=[some (.ref r),some (.ref l),some (.ref f),x3,x4,x5,x6]/\H3 f=some (.lst (ts.map V.ref))/\ts.length=L.length/\W.length=L.length /\
   (∀ (j:Nat) (a:Addr) (row:List Nat),ts[j]?=some a->W[j]?=some row->H3 a=some (.tup (row.map vn)))/\(∀ p,p<i->kHL L ns W p)/\Same H H3/\H f=none)
  ⟨none,none,none,none,List.replicate L.length e,List.replicate L.length [],rfl,hf2,List.length_replicate,List.length_replicate,(λ j a row e1 e2=>?_),(λ p hp'=>by omega),g2,g1.free nf⟩ ?_ ?_ ?_⟩
 ·have a1:=(List.mem_replicate.mp (mem_of_getElem? e1)).2
  have a2:=(List.mem_replicate.mp (mem_of_getElem? e2)).2;subst a1 a2;exact he2
 ·rintro i σ H3 _ ⟨x3,x4,x5,x6,ts,W,rfl,hf,lt,lW,hts,hW,g3,nf0⟩
  exact SqL.of (g3 _ _ X.top)
 ·rintro i x T σ H3 hx nT ⟨x3,x4,x5,x6,ts,W,rfl,hf,lt,lW,hts,hW,g3,nf0⟩
  rw [List.getElem?_map] at hx;obtain ⟨a,ea,rfl⟩:=Option.map_eq_some_iff.mp hx;have hi:i<L.length:=by rw [<-X.len];exact (List.getElem?_eq_some_iff.mp ea).1
  have hrow:=List.getElem?_eq_getElem hi;have har:=X.row i a _ ea hrow;obtain ⟨rne,rle⟩:=S.ne i _ hrow;have rb:=rng i _ hrow;have gT:=g3.trans (kE nT (.tup [.int i,.ref a]));have hfT:=(kE nT (.tup [.int i,.ref a])) _ _ hf;have htsT:∀ (j:Nat) (b:Addr) (row:List Nat),ts[j]?=some b->W[j]?=some row->upd H3 T (.tup [.int i,.ref a]) b=some (.tup (row.map vn)):=λ j b row w1 w2=>(kE nT (.tup [.int i,.ref a])) _ _ (hts j b row w1 w2);refine ⟨T,_,rfl,SqT.of kC,rfl,_,_,rfl,_,_,rfl,rfl,?_⟩;generalize upd H3 T (.tup [.int i,.ref a])=H4 at *
  generalize hr0:L[i]=row at *
  refine ⟨_,rfl,a,rfl,⟨_,SqL.of (gT _ _ har)⟩,λ D nD=>?_⟩;refine jZ (xs:=row.map vn) (λ j σ H5=>∃ x:Option V,σ=[x,some (.ref l)]/\H5 D=some (.lst (((row.take j).map λ q=>ns.getD q 0).map vn))/\Same H4 H5) ⟨none,rfl,kC,kE nD _⟩ ?_ ?_ ?_
  ·rintro j σ H5 _ ⟨x,rfl,hD,g5⟩
   exact SqL.of (g5 _ _ (gT _ _ har))
  ·rintro j x σ H5 hx ⟨y,rfl,hD,g5⟩
   rw [List.getElem?_map] at hx;obtain ⟨q,eq,rfl⟩:=Option.map_eq_some_iff.mp hx;have hj:j<row.length:=(List.getElem?_eq_some_iff.mp eq).1;have hq:q<ns.length:=by rw [lns];exact rb q (mem_of_getElem? eq)
   refine ⟨_,rfl,_,rfl,l,_,_,_,rfl,rfl,SqL.of (g5 _ _ (gT _ _ hl)),kJR hq,_,hD,(by rw [length_map,length_map,length_take];exact kQ (by omega)),?_⟩;refine ⟨_,rfl,?_,qP nD g5⟩;rw [take_succ,eq];simp only [Option.toList_some,map_append,map_cons,map_nil];rw [show ns.getD q 0=ns[q] by simp [getD_eq_getElem?_getD,hq]];exact kC
  ·rintro σ H5 ⟨x,rfl,hD,g5⟩
   rw [length_map,take_length] at hD;generalize hc:(row.map λ q=>ns.getD q 0)=cl at *;have lcl:cl.length=row.length:=by rw [<-hc,length_map]
   have cpos:0<cl.length:=by rw [lcl];exact List.length_pos_iff.mpr rne
   refine ⟨_,rfl,.inl ⟨rfl,_,SqL.of hD⟩,_,rfl,D,cl.map ci,rfl,SqL.of (by rw [hD,xF]),(by rw [length_map];exact cpos),λ M hM hle=>?_⟩;obtain ⟨m,hm,rfl⟩:=mem_map.mp hM
   have mle:∀ j∈cl,m<=j:=λ j hj=>by
    have:=hle (ci j) (mem_map.mpr ⟨j,hj,rfl⟩);simp only [ci] at this;omega
   have il:=idxOf_lt_length_of_mem hm
   refine ⟨D,cl.map ci,m,cl.idxOf m,rfl,rfl,(by rw [hD,xF]),qT hm,?_⟩
   have lv:(cl.map vn).length=cl.length:=length_map _;refine ⟨_,rfl,_,rfl,_,rfl,D,_,rfl,SqL.of hD,λ p1 m1=>?_⟩;rw [zB _ (by rw [lv];omega)];have h1:=kE m1 (.lst ((cl.map vn).drop (cl.idxOf m)));refine ⟨_,rfl,_,rfl,_,rfl,D,_,rfl,SqL.of (h1 _ _ hD),λ p2 m2=>?_⟩;rw [xN _ (by rw [lv];omega)];have h2:=kE m2 (.lst ((cl.map vn).take (cl.idxOf m)));refine ⟨p1,p2,_,_,rfl,rfl,h2 _ _ kC,kC,(by rw [length_drop,length_take,lv];exact Nat.le_of_lt (kQ (by omega))),λ p3 m3=>?_⟩;have h3:=kE m3 (.lst ((cl.map vn).drop (cl.idxOf m)++(cl.map vn).take (cl.idxOf m)));refine ⟨p3,_,rfl,.inl ⟨SqL.of kC,λ t m4=>?_⟩⟩;have h4:=kE m4 (.tup ((cl.map vn).drop (cl.idxOf m)++(cl.map vn).take (cl.idxOf m)));have er:(cl.map vn).drop (cl.idxOf m)++(cl.map vn).take (cl.idxOf m)=(rot cl m).map vn:=by unfold rot;rw [map_append,map_drop,map_take]
   have hh:=h1.trans (h2.trans (h3.trans h4));have ht:upd (upd (upd (upd H5 p1 (.lst ((cl.map vn).drop (cl.idxOf m)))) p2 (.lst ((cl.map vn).take (cl.idxOf m)))) p3 (.lst ((cl.map vn).drop (cl.idxOf m)++(cl.map vn).take (cl.idxOf m)))) t (.tup ((cl.map vn).drop (cl.idxOf m)++(cl.map vn).take (cl.idxOf m))) t=some (.tup ((rot cl m).map vn)):=by rw [<-er];exact kC
   generalize upd (upd (upd (upd H5 p1 (.lst ((cl.map vn).drop (cl.idxOf m)))) p2 (.lst ((cl.map vn).take (cl.idxOf m)))) p3 (.lst ((cl.map vn).drop (cl.idxOf m)++(cl.map vn).take (cl.idxOf m)))) t (.tup ((cl.map vn).drop (cl.idxOf m)++(cl.map vn).take (cl.idxOf m)))=H6 at *;have g6:=gT.trans (g5.trans hh);have hf6:=hh _ _ (g5 _ _ hfT);have hin:i<ns.length:=by omega
   have hni:=List.getElem?_eq_getElem hin;have hnb:=nsb hni;refine ⟨_,rfl,_,rfl,_,rfl,l,_,_,_,rfl,rfl,SqL.of (g6 _ _ hl),kJR hin,f,_,_,ns[i],rfl,rfl,hf6,kJD (by rw [length_map,lt];exact hnb),?_⟩;refine ⟨_,_,_,_,ts.set ns[i] t,W.set ns[i] (rot cl m),rfl,(by rw [List.map_set];exact kC),(by rw [length_set];exact lt),(by rw [length_set];exact lW),(λ j b rw' e1 e2=>?_),(λ p hp'=>?_),qP nf0 g6,nf0⟩
   ·have bt:b≠f->upd H6 f (.lst ((ts.map V.ref).set ns[i] (.ref t))) b=H6 b:=λ z=>kO z
    by_cases ej:ns[i]=j
    ·subst ej
     rw [List.getElem?_set_self (by omega)] at e1;rw [List.getElem?_set_self (by omega)] at e2;cases e1
     cases e2
     rw [bt (vS ht hf6 (by intro z;cases z))];exact ht
    ·rw [List.getElem?_set_ne ej] at e1 e2
     have hb:=hh _ _ (g5 _ _ (htsT j b rw' e1 e2));rw [bt (vS hb hf6 (by intro z;cases z))];exact hb
   ·intro row' er'
    by_cases epi:p=i
    ·subst epi
     have e0:=hrow.symm.trans er';cases e0
     refine ⟨ns[p],m,hni,(by rw [hc];exact hm),(λ j hj=>mle j (by rw [hc] at hj;exact hj)),?_⟩;rw [hc,List.getElem?_set_self (by omega)]
    ·obtain ⟨n',M',w1,w2,w3,w4⟩:=hW p (by omega) row' er'
     refine ⟨n',M',w1,w2,w3,?_⟩
     have:ns[i]≠n':=λ z=>by
      have hpl:=(List.getElem?_eq_some_iff.mp w1).1;have:=(List.getElem?_inj hpl nnd).mp (w1.trans (by rw [<-z];exact hni.symm));exact epi this
     rw [List.getElem?_set_ne this];exact w4
 ·rintro σ H3 ⟨x3,x4,x5,x6,ts,W,rfl,hf,lt,lW,hts,hW,g3,nf0⟩
  rw [length_map,X.len] at hW;refine ⟨_,rfl,f,_,rfl,.inl ⟨SqL.of hf,λ t nt=>?_⟩⟩;have gt:=kE nt (.tup (ts.map V.ref));exact k t W _ (g3.trans gt) ⟨ts,kC,by omega,λ j b row w1 w2=>gt _ _ (hts j b row w1 w2)⟩ lW hW
theorem kDB {L W:Rows} {ns:List Nat} (hp:ns.Perm (List.range L.length)) (hl:W.length=L.length) (h:∀ p,p<L.length->kHL L ns W p):Ren L W ns:=⟨hp,hl,λ p row e=>by
 obtain ⟨n,M,h1,_,_,h4⟩:=h p (List.getElem?_eq_some_iff.mp e).1 row e;exact ⟨n,(row.map λ q=>ns.getD q 0).take ((row.map λ q=>ns.getD q 0).idxOf M),(row.map λ q=>ns.getD q 0).drop ((row.map λ q=>ns.getD q 0).idxOf M),h1,(take_append_drop _ _).symm,h4⟩⟩
theorem kBJ (xs:List V) {b c:Nat} (h:b<=c) (h':c<=xs.length):jO xs (some (b:Int)) (some (c:Int))=(xs.drop b).take (c-b):=by
 unfold jO;rw [HT.sIx_nat,HT.sIx_nat,Nat.min_eq_left h',Nat.min_eq_left (Nat.le_trans h h')]
theorem RowsAt.same {H H':Hp} {r:Addr} {A:List Addr} {L:Rows} (x:RowsAt H r A L) (g:Same H H'):RowsAt H' r A L:=⟨g _ _ x.top,x.len,x.nd,x.out,λ i a ns h1 h2=>g _ _ (x.row i a ns h1 h2)⟩
theorem RowsAt.mem {H:Hp} {r:Addr} {A:List Addr} {L:Rows} (x:RowsAt H r A L) {a:Addr} (h:a∈A):∃ o,H a=some o:=by
 obtain ⟨i,hi,rfl⟩:=mem_iff_getElem.mp h;have hi':i<L.length:=by rw [<-x.len];exact hi
 exact ⟨_,x.row i _ _ (List.getElem?_eq_getElem hi) (List.getElem?_eq_getElem hi')⟩
theorem RowsAt.app' {H:Hp} {r:Addr} {A:List Addr} {L:Rows} (x:RowsAt H r A L) {a:Addr} {ns:List Nat} (h:H a=some (.lst (ns.map vn))) (ra:a≠r) (na:a∉A):RowsAt (upd H r (.lst (A.map V.ref++[V.ref a]))) r (A++[a]) (L++[ns]):=by
 refine ⟨by rw [kC,map_append];rfl,by simp [x.len],?_,?_,λ i b ms hb hi=>?_⟩
 ·rw [nodup_append]
  exact ⟨x.nd,by simp,λ b hb c hc=>by simp at hc;rw [hc];exact λ z=>na (z ▸ hb)⟩
 ·intro z
  rcases mem_append.mp z with z | z
  ·exact x.out z
  ·simp at z;exact ra z.symm
 ·by_cases hl:i<A.length
  ·rw [List.getElem?_append_left hl] at hb
   rw [List.getElem?_append_left (by rw [<-x.len];exact hl)] at hi;have bm:=mem_of_getElem? hb;have br:b≠r:=λ z=>x.out (by rw [<-z];exact bm);rw [kO br];exact x.row i b ms hb hi
  ·have e:i=A.length:=by
    have:=(List.getElem?_eq_some_iff.mp hb).1;simp at this;omega
   subst e;rw [List.getElem?_append_right (Nat.le_refl _)] at hb;rw [List.getElem?_append_right (by rw [x.len];exact Nat.le_refl _)] at hi;rw [x.len] at hi;simp at hb hi;subst hb hi;rw [kO ra];exact h
theorem kNQ (D:List V) (u l:V):atI (D++[u,l]) (-2)=some u:=by
 have hl:(D++[u,l]).length=D.length+2:=by simp
 have e:ixN (D++[u,l]).length (-2)=some D.length:=by
  unfold ixN;rw [hl,if_neg (by decide),if_pos (by omega)]
  congr 1
  omega
 unfold atI;rw [e];simp
def cD:Sp:=λ vs H Q _=>∃ (r o:Addr) (A:List Addr) (L:Rows) (B M C:List Nat) (f l:Nat),vs=[.ref r,.ref o,vn B.length,vn (B.length+M.length+1)]/\RowsAt H r A L/\H o=some (.lst ((B++(f::M++[l])++C).map vn))/\o≠r/\o∉A/\Half L (B++(f::M++[l])++C)/\L.length<=150 /\
 ∀ (x o':Addr) (L':Rows) (H':Hp),H x=none->H o'=none->uR r A H H'->RowsAt H' r (A++[x]) L'->H' o'=some (.lst ((B++[f,L.length,l]++C).map vn))->o'≠x->Half L' (B++[f,L.length,l]++C)->L'.length=L.length+1->Q (.ref o') H'
theorem dQ {f:Addr} {fd:FuncData} (F:Fun K "_law_put_over" "_law_put_over" jK f fd) (z_len:mg "len" = none) (z_range:mg "range" = none):FnOk P w K mg base CX0 1 f fd ["_law_rows_here","_law_row","_law_first","_law_last"] (cD):=by
 refine F.ok sc_law_put_over (λ vs H Q E h=>?_) (λ cdv A outer s H vs Q E hr h=>?_)
 ·obtain ⟨r,o,A,L,B,M,C,f,l,rfl,_⟩:=h
  rfl
 obtain ⟨r,o,A1,L,B,M,C,f,l,rfl,X,ho,or,oA,G,hL,k⟩:=h
 refine ⟨_,(kF (kT (i:=4) sc_law_put_over.nd rfl (Or.inl rfl) (kP kN rfl z_len PySem.boot_len (kB (pv 0) kD)))
   (kF (kT (i:=5) sc_law_put_over.nd rfl (Or.inl rfl) (qH jD (pv 1) (qG (pv 2)) (qG (kZ qX (pv 3) kK))))
   (kF (wH PassesOwn.never rfl (zQ rfl z_range (kB (kZ xH (kP kN rfl z_len PySem.boot_len (kB (pv 5) kD)) kK) kD)) (kR (i:=6) sc_law_put_over.nd rfl (Or.inl rfl)) (kM (jE (jS PySem.F.plainAttrs_list PySem.F.slot_list_insert PySem.F.type_list_insert cQ (qB kY (pv 0) (qB kY (pv 5) (pv 6) (λ _ _=>rfl)) (λ _ _=>rfl)) (kB (kZ qX (jS PySem.F.plainAttrs_list PySem.F.slot_list_index PySem.F.type_list_index zX (qB kY (pv 0) (qB kY (pv 5) (pv 6) (λ _ _=>rfl)) (λ _ _=>rfl)) (kB (qB kY (pv 5) (kZ qX (pv 6) kK) (λ _ _=>rfl)) kD)) kK) (kB (pv 4) kD))))))
   (kF (jE (jS PySem.F.plainAttrs_list PySem.F.slot_list_insert PySem.F.type_list_insert cQ (qB kY (pv 0) (qB kY (pv 5) (wU yH kK) (λ _ _=>rfl)) (λ _ _=>rfl)) (kB (jS PySem.F.plainAttrs_list PySem.F.slot_list_index PySem.F.type_list_index zX (qB kY (pv 0) (qB kY (pv 5) (wU yH kK) (λ _ _=>rfl)) (λ _ _=>rfl)) (kB (qB kY (pv 5) (wU yH kK) (λ _ _=>rfl)) kD)) (kB (pv 4) kD))))
   (kF (jE (jS PySem.F.plainAttrs_list PySem.F.slot_list_append PySem.F.type_list_append jM (pv 0) (kB (pv 5) kD)))
   (kM (kX (kZ zC (kZ zC (qH jD (pv 1) qR (qG (kZ qX (pv 2) kK))) (qS (kB (pv 4) kD))) (qH jD (pv 1) (qG (pv 3)) qR))))))))),?_⟩
 refine ⟨_,rfl,r,_,rfl,.inl (SqL.of X.top),?_⟩;have lenA:(A1.map V.ref).length=L.length:=by rw [length_map];exact X.len
 have kDG:((B++(f::M++[l])++C).map vn).length=B.length+M.length+2+C.length:=by simp;omega
 have lP:(f::M++[l]).length=M.length+2:=by simp
 refine ⟨_,rfl,_,rfl,_,rfl,_,rfl,_,_,rfl,rfl,_,rfl,o,_,rfl,SqL.of ho,λ pa na=>?_⟩
 have ecut:jO ((B++(f::M++[l])++C).map vn) (some (B.length:Int)) (some (((B.length+M.length+1:Nat):Int)+1))=(f::M++[l]).map vn:=by
  rw [show (((B.length+M.length+1:Nat):Int)+1)=((B.length+(M.length+2):Nat):Int) by omega,kBJ _ (by omega) (by rw [kDG];omega)];rw [<-map_drop,<-map_take,append_assoc,drop_left' rfl,show B.length+(M.length+2)-B.length=(f::M++[l]).length by rw [lP];omega,take_left' rfl]
 rw [ecut,lenA];have g0:=kE na (.lst ((f::M++[l]).map vn));have X0:=X.same g0;have hpa:=kC (H:=H) (a:=pa) (o:=.lst ((f::M++[l]).map vn));have par:pa≠r:=(kH X.top na).symm;have paA:pa∉A1:=λ z=>by obtain ⟨q,hq⟩:=X.mem z;rw [na] at hq;cases hq
 have ho0:=g0 _ _ ho;have but0:uR r A1 H (upd H pa (.lst ((f::M++[l]).map vn))):=λ b o _ _ h=>g0 b o h;generalize upd H pa (.lst ((f::M++[l]).map vn))=H0 at *;have hn:((((f::M++[l]).map vn).length:Int)-1)=(M.length+1:Nat):=by rw [length_map,lP];omega
 have hM:M.length+2<=L.length:=by
  have pnd:(f::M++[l]).Nodup:=(nodup_append.mp (nodup_append.mp G.ond).1).2.1;have:=List.Nodup.length_le_of_subset pnd (l₂:=List.range L.length) λ z hz=>mem_range.mpr (G.orng z (mem_append_left _ (mem_append_right _ hz)));rw [lP,length_range] at this;exact this
 refine ⟨_,rfl,pa,_,rfl,.inl (SqL.of hpa),_,_,rfl,rfl,_,rfl,?_,?_,yV (lo:=0) (n:=((((f::M++[l]).map vn).length:Int)-1).toNat) (λ i σ H2=>∃ x6:Option V,σ=[some (.ref r),some (.ref o),some (vn B.length),some (vn (B.length+M.length+1)),some (vn L.length),some (.ref pa),x6]/\RowsAt H2 r A1 (zW L.length L ((f::M++[l]).take (i+1)))/\uR r A1 H0 H2)
  ⟨none,rfl,X0,λ b o _ _ h=>h⟩ ?_ ?_⟩
 ·rw [hn];omega
 ·rw [hn];omega
 ·rintro i σ H2 hi ⟨x6,rfl,X2,b2⟩
  rw [hn,Int.toNat_natCast] at hi;obtain ⟨x,hx⟩ : ∃ x,(f::M++[l])[i]?=some x:=⟨_,List.getElem?_eq_getElem (by rw [lP];omega)⟩;obtain ⟨y,hy⟩ : ∃ y,(f::M++[l])[i+1]?=some y:=⟨_,List.getElem?_eq_getElem (by rw [lP];omega)⟩;obtain ⟨row,e,my,le,e2⟩:=kKX G hx hy;obtain ⟨a,a1,a2,a3⟩:=X2.at e2;have hp2:=b2 _ _ par paA hpa;have at1:atI ((f::M++[l]).map vn) (0+(i:Int))=some (vn x):=by rw [Int.zero_add];exact qV (by rw [List.getElem?_map,hx];rfl)
  have at2:atI ((f::M++[l]).map vn) (0+(i:Int)+1)=some (vn y):=by rw [show (0+(i:Int)+1)=((i+1:Nat):Int) by omega];exact qV (by rw [List.getElem?_map,hy];rfl)
  have il:=idxOf_lt_length_of_mem my;refine ⟨_,rfl,_,rfl,_,rfl,pa,_,_,_,rfl,rfl,SqL.of hp2,at1,r,_,_,_,rfl,rfl,SqL.of X2.top,a3,.inl ⟨rfl,_,SqL.of a2⟩,?_⟩;refine ⟨_,rfl,_,rfl,_,rfl,pa,_,_,_,rfl,rfl,SqL.of hp2,at1,r,_,_,_,rfl,rfl,SqL.of X2.top,a3,.inl ⟨rfl,_,SqL.of a2⟩,?_⟩;refine ⟨_,rfl,_,rfl,_,_,rfl,rfl,pa,_,_,_,rfl,rfl,SqL.of hp2,at2,a,row.map ci,y,row.idxOf y,rfl,rfl,(by rw [a2,xF]),qT my,_,_,rfl,rfl,_,rfl,a,_,_,_,rfl,rfl,a2,(by omega),(by omega),(by rw [length_map];exact kQ (by omega)),?_⟩;refine ⟨_,rfl,?_,λ b o h1 h2 h=>?_⟩
  ·have e':List.take ((row.idxOf y:Int)+1).toNat (row.map vn)++vn L.length::List.drop ((row.idxOf y:Int)+1).toNat (row.map vn)=(vU row y L.length).map vn:=by
    have z:((row.idxOf y:Int)+1).toNat=row.idxOf y+1:=by omega
    rw [z];unfold vU;rw [map_append,map_take,map_cons,map_drop]
   have q:=X2.set a1 (vU row y L.length);have z:=kCS L.length L (f::M++[l]) i x y hx hy;rw [getD_eq_getElem?_getD,e2] at z;rw [z];rw [<-e'] at q;exact q
  ·have ne:b≠a:=λ z=>h2 (by rw [z];exact mem_of_getElem? a1)
   rw [kO ne];exact b2 b o h1 h2 h
 ·rintro σ H2 ⟨x6,rfl,X2,b2⟩
  rw [hn,Int.toNat_natCast,take_of_length_le (by rw [lP];exact Nat.le_refl _)] at X2;have hp2:=b2 _ _ par paA hpa;have ho2:=b2 _ _ or oA ho0;obtain ⟨D,u,hDu⟩ : ∃ D u,f::M=D++[u]:=⟨(f::M).dropLast,(f::M).getLast (List.cons_ne_nil _ _),(dropLast_concat_getLast _).symm⟩
  have hu:Adj (f::M++[l]) u l:=by
   rw [hDu,show D++[u]++[l]=D++u::[l] by simp,qZ];exact .inr (.inl ⟨rfl,rfl⟩)
  have S:=gN G;have hO:∀ z,z∈f::M++[l]->z∈B++(f::M++[l])++C:=λ z hz=>mem_append_left _ (mem_append_right _ hz);have pnd:(f::M++[l]).Nodup:=(nodup_append.mp (nodup_append.mp G.ond).1).2.1;obtain ⟨y,ny⟩:=vI (hO l (by simp));obtain ⟨row,e,n⟩:=G.out l y u ny ((nxO u l).mpr (.inl hu));have mu:=(qD n).2;have le:=dH G e;obtain ⟨pl,_,h3,_⟩:=bB L.length (f::M++[l]) L pnd (λ z hz=>G.orng z (hO z hz));have e2:(zW L.length L (f::M++[l]))[l]?=some row:=by rw [h3 l (λ y' h=>(S.kk h).2.2.1 rfl),e]
  have N:=kCQ G hu;obtain ⟨a,a1,a2,a3⟩:=X2.at e2;have at1:atI ((f::M++[l]).map vn) (-1)=some (vn l):=by rw [map_append];exact yF _ _
  have at2:atI ((f::M++[l]).map vn) (-2)=some (vn u):=by rw [hDu,show D++[u]++[l]=D++[u,l] by simp,map_append];exact kNQ _ _ _
  have il:=idxOf_lt_length_of_mem mu;refine ⟨_,rfl,_,rfl,_,rfl,pa,_,_,_,rfl,rfl,SqL.of hp2,at1,r,_,_,_,rfl,rfl,SqL.of X2.top,a3,.inl ⟨rfl,_,SqL.of a2⟩,?_⟩;refine ⟨_,rfl,_,rfl,_,rfl,pa,_,_,_,rfl,rfl,SqL.of hp2,at1,r,_,_,_,rfl,rfl,SqL.of X2.top,a3,.inl ⟨rfl,_,SqL.of a2⟩,?_⟩;refine ⟨_,rfl,_,rfl,pa,_,_,_,rfl,rfl,SqL.of hp2,at2,a,row.map ci,u,row.idxOf u,rfl,rfl,(by rw [a2,xF]),qT mu,_,rfl,a,_,_,_,rfl,rfl,a2,(by omega),(by omega),(by rw [length_map];exact kQ (by omega)),?_⟩
  have e':List.take ((row.idxOf u:Int)).toNat (row.map vn)++vn L.length::List.drop ((row.idxOf u:Int)).toNat (row.map vn)=(cV row u L.length).map vn:=by
   rw [Int.toNat_natCast];unfold cV;rw [map_append,map_take,map_cons,map_drop]
  rw [e'];have X3:=X2.set a1 (cV row u L.length)
  have b3:uR r A1 H0 (upd H2 a (.lst ((cV row u L.length).map vn))):=λ b o h1 h2 h=>by
   have ne:b≠a:=λ z=>h2 (by rw [z];exact mem_of_getElem? a1);rw [kO ne];exact b2 b o h1 h2 h
  have hp3:=b3 _ _ par paA hpa;have ho3:=b3 _ _ or oA ho0;generalize upd H2 a (.lst ((cV row u L.length).map vn))=H3 at *;have X4:=X3.app' hp3 par paA;refine ⟨_,rfl,.inl ⟨rfl,_,SqL.of X3.top⟩,_,rfl,r,_,_,rfl,rfl,X3.top,(by rw [lenA];exact kQ (by omega)),?_⟩
  have b4:uR r A1 H0 (upd H3 r (.lst (A1.map V.ref++[V.ref pa]))):=λ b o h1 h2 h=>by
   rw [kO h1];exact b3 b o h1 h2 h
  have ho4:=b4 _ _ or oA ho0
  have er:(zW L.length L (f::M++[l])).set l (cV row u L.length)=kCR L (f::M++[l]) L.length u l:=by
   unfold kCR;rw [getD_eq_getElem?_getD,e2]
   rfl
  rw [er] at X4;generalize upd H3 r (.lst (A1.map V.ref++[V.ref pa]))=H4 at *;have eO:B++(f::M++[l])++C=(B++[f])++(M++l::C):=by simp
  have eO2:B++(f::M++[l])++C=(B++f::M)++(l::C):=by simp
  have c1:jO ((B++(f::M++[l])++C).map vn) none (some ((B.length:Int)+1))=(B++[f]).map vn:=by
   rw [show ((B.length:Int)+1)=((B.length+1:Nat):Int) by omega,xN _ (by rw [kDG];omega),<-map_take,eO,take_left' (by simp)]
  have c2:jO ((B++(f::M++[l])++C).map vn) (some ((B.length+M.length+1:Nat):Int)) none=(l::C).map vn:=by
   rw [zB _ (by rw [kDG];omega),<-map_drop,eO2,drop_left' (by simp;omega)]
  have oN:B.length+M.length+2+C.length<=L.length:=by
   have:=List.Nodup.length_le_of_subset G.ond (l₂:=List.range L.length) λ z hz=>mem_range.mpr (G.orng z hz);rw [length_range,<-length_map (f:=vn),kDG] at this;exact this
  refine ⟨_,rfl,_,rfl,_,_,rfl,rfl,_,rfl,o,_,rfl,SqL.of ho4,λ p1 m1=>?_⟩;rw [c1];have g5:=kE m1 (.lst ((B++[f]).map vn));refine ⟨_,rfl,L2.y1,λ p2 m2=>?_⟩;have g6:=kE m2 (.lst [vn L.length]);refine ⟨p1,p2,_,_,rfl,rfl,g6 _ _ kC,kC,(by simp only [length_map,length_append,length_cons,length_nil];exact Nat.le_of_lt (kQ (by omega))),λ p3 m3=>?_⟩;have g7:=kE m3 (.lst ((B++[f]).map vn++[vn L.length]));have ho7:=g7 _ _ (g6 _ _ (g5 _ _ ho4));refine ⟨_,rfl,_,rfl,_,rfl,o,_,rfl,SqL.of ho7,λ p4 m4=>?_⟩;rw [c2];have g8:=kE m4 (.lst ((l::C).map vn));refine ⟨p3,p4,_,_,rfl,rfl,g8 _ _ kC,kC,(by simp only [length_map,length_append,length_cons,length_nil];exact Nat.le_of_lt (kQ (by omega))),λ p5 m5=>?_⟩;have g9:=kE m5 (.lst ((B++[f]).map vn++[vn L.length]++(l::C).map vn));have gg:Same H4 _:=g5.trans (g6.trans (g7.trans g8));have g48:=gg.trans g9
  have p5n:H p5=none:=by
   cases e:H p5 with
   | none=>rfl
   | some oo =>
    have:∃ q,H4 p5=some q:=by
     by_cases h1:p5=r
     ·exact ⟨_,h1 ▸ X4.top⟩
     ·by_cases h2:p5∈A1
      ·exact X4.mem (mem_append_left _ h2)
      ·exact ⟨_,b4 _ _ h1 h2 (but0 _ _ h1 h2 e)⟩
    obtain ⟨q,hq⟩:=this;rw [gg _ _ hq] at m5;cases m5
  have hpa4:H4 pa=some _:=b4 _ _ par paA hpa;refine k pa p5 (kCR L (f::M++[l]) L.length u l++[f::M++[l]]) _ na p5n (λ b q h1 h2 h=>g48 _ _ (b4 b q h1 h2 (but0 b q h1 h2 h))) (X4.same g48) ?_ ?_ N (by rw [length_append,<-er,length_set,pl];rfl)
  ·rw [kC]
   simp
  ·intro z
   rw [z,gg _ _ hpa4] at m5;cases m5
theorem RowsAt.other {H:Hp} {r c:Addr} {A:List Addr} {L:Rows} (x:RowsAt H r A L) (h1:c≠r) (h2:c∉A) (o:HO):RowsAt (upd H c o) r A L :=
 ⟨by rw [kO h1.symm];exact x.top,x.len,x.nd,x.out,λ i b ns hb hi=>by rw [kO (λ (z:b=c)=>h2 (by rw [<-z];exact mem_of_getElem? hb))];exact x.row i b ns hb hi⟩
theorem bC {H H':Hp} {a x:Addr} (s:SameBut a H H') (p:PotAt H' a) (h:H' x=none):H x=none:=by
 cases e:H x with
 | none=>rfl
 | some o =>
  have xa:x≠a:=λ z=>by
   obtain ⟨_,_,w,_⟩:=p;rw [z,w] at h;cases h
  rw [s x o xa e] at h;cases h
structure NewR (H:Hp) (a r t q o:Addr) (A:List Addr):Prop where
 top:H r=none
 all:∀ x∈A,H x=none
 nt:H t=none
 nq:H q=none
 no:H o=none
 tr:t≠r
 tA:t∉A
 qr:q≠r
 qA:q∉A
 tq:t≠q
 or:o≠r
 oA:o∉A
 ot:o≠t
 oq:o≠q
structure LsAt (H:Hp) (t:Addr) (ta:List Addr) (Os:List (List Nat)):Prop where
 top:H t=some (.lst (ta.map V.ref))
 len:ta.length=Os.length
 row:∀ (i:Nat) (a:Addr) (Z:List Nat),ta[i]?=some a->Os[i]?=some Z->H a=some (.lst (Z.map vn))
theorem LsAt.but {H H':Hp} {t:Addr} {ta:List Addr} {Os:List (List Nat)} (x:LsAt H t ta Os) (g:∀ b o,b=t\/b∈ta->H b=some o->H' b=some o):LsAt H' t ta Os :=
 ⟨g _ _ (.inl rfl) x.top,x.len,λ i a Z e1 e2=>g _ _ (.inr (mem_of_getElem? e1)) (x.row i a Z e1 e2)⟩
theorem LsAt.kept {H H':Hp} {t:Addr} {ta:List Addr} {Os:List (List Nat)} (x:LsAt H t ta Os) (g:Same H H'):LsAt H' t ta Os:=x.but λ b o _=>g b o
theorem LsAt.app {H:Hp} {t a:Addr} {ta:List Addr} {Os:List (List Nat)} {Z:List Nat} (x:LsAt H t ta Os) (h:H a=some (.lst (Z.map vn))) (nt:t∉ta) (na:a≠t):LsAt (upd H t (.lst (ta.map V.ref++[.ref a]))) t (ta++[a]) (Os++[Z]):=by
 refine ⟨by rw [map_append];exact kC,by simp [x.len],λ i b Y e1 e2=>?_⟩
 have bt:b≠t:=λ z=>by
  have:=mem_of_getElem? e1;rw [z] at this;rcases mem_append.mp this with q | q
  ·exact nt q
  ·exact na (mem_singleton.mp q).symm
 rw [kO bt];rcases Nat.lt_or_ge i ta.length with hl | hl
 ·rw [List.getElem?_append_left hl] at e1
  rw [List.getElem?_append_left (by have:=x.len;omega)] at e2;exact x.row i b Y e1 e2
 ·obtain rfl:i=ta.length:=by
   have:=(List.getElem?_eq_some_iff.mp e1).1;simp at this;omega
  rw [List.getElem?_concat_length] at e1;rw [x.len,List.getElem?_concat_length] at e2;cases e1
  cases e2
  exact h
def sV:Sp:=λ vs H Q _=>∃ (a:Addr) (n:Nat),vs=[.ref a,vn n]/\PotAt H a/\3<=n/\n<=40 /\
 ∀ (z r t q:Addr) (A:List Addr) (L:Rows) (H':Hp),SameBut a H H'->PotAt H' a->H' z=some (.tup [.ref r,.ref t,.ref q])->RowsAt H' r A L->Good L->L.length=n->H r=none->(∀ b∈A,H b=none)->Q (.ref z) H'
theorem kEV {O:List Nat} {b c:Nat} (h:b<c) (h':c<O.length):∃ B f M l C,O=B++(f::M++[l])++C/\B.length=b/\B.length+M.length+1=c:=by
 have h1:b<O.length:=by omega
 refine ⟨O.take b,O[b],(O.drop (b+1)).take (c-b-1),O[c],O.drop (c+1),?_,by rw [length_take];omega,by rw [length_take,length_take,length_drop];omega⟩;have e1:O=O.take b++O[b]::O.drop (b+1):=by rw [<-drop_eq_getElem_cons h1,take_append_drop]
 have e2:O.drop (b+1)=(O.drop (b+1)).take (c-b-1)++O[c]::O.drop (c+1):=by
  have z:(O.drop (b+1)).drop (c-b-1)=O[c]::O.drop (c+1):=by
   rw [drop_drop,show b+1+(c-b-1)=c by omega,drop_eq_getElem_cons h']
  rw [<-z,take_append_drop]
 rw [append_assoc,cons_append,cons_append,append_assoc];show O=O.take b++O[b]::((O.drop (b+1)).take (c-b-1)++O[c]::O.drop (c+1));rw [<-e2];exact e1
theorem rB {f:Addr} {fd:FuncData} (F:Fun K "_law_rows" "_law_rows" yM f fd) (qK:Own.Has P w K mg base "_law_digit" ["_law_pot_here","_law_many"] 1 (uK)) (zZ:Own.Has P w K mg base "_law_put_over" ["_law_rows_here","_law_row","_law_first","_law_last"] 1 (cD)) (z_range:mg "range" = none) (z_len:mg "len" = none):FnOk P w K mg base CX0 2 f fd ["_law_pot_here","_law_n"] (sV):=by
 refine F.ok sc_law_rows (λ vs H Q E h=>?_) (λ cdv A outer s H vs Q E hr h=>?_)
 ·obtain ⟨a,n,rfl,_⟩:=h
  rfl
 obtain ⟨a,n,rfl,ha,n3,n40,k⟩:=h
 refine ⟨_,(kF (kT (i:=2) sc_law_rows.nd rfl (Or.inl rfl) (qS (kB (qS (kB kK kD)) (kB (qS (kB kK kD)) kD))))
   (kF (kT (i:=3) sc_law_rows.nd rfl (Or.inl rfl) (qS (kB (qS (kB kK (kB kK kD))) kD)))
   (kF (kT (i:=4) sc_law_rows.nd rfl (Or.inl rfl) (qS kD))
   (kF (wH PassesOwn.never rfl (zQ rfl z_range (kB (kZ xH (pv 1) kK) kD)) (kR (i:=5) sc_law_rows.nd rfl (Or.inl rfl)) (kF (kT (i:=6) sc_law_rows.nd rfl (Or.inl rfl) (qB kY (pv 3) (wU yH kK) (λ _ _=>rfl)))
   (kF (kT (i:=7) sc_law_rows.nd rfl (Or.inl rfl) (Own.pe_has qK (hr.mono (by decide)) rfl (kB (pv 0) (kB (kZ xH (kP kN rfl z_len PySem.boot_len (kB (pv 6) kD)) kK) kD))))
   (kF (kT (i:=8) sc_law_rows.nd rfl (Or.inl rfl) (kZ qX (kZ qX (pv 7) kK) (Own.pe_has qK (hr.mono (by decide)) rfl (kB (pv 0) (kB (kZ xH (kZ xH (kP kN rfl z_len PySem.boot_len (kB (pv 6) kD)) kK) (pv 7)) kD)))))
   (kF (xE (qF kAR (pv 5) (kZ xH (pv 1) kK) (qL _)) (kM (kKZ (i:=7) (j:=8) rfl sc_law_rows.nd rfl rfl (by decide) rfl rfl (kB kK (kB (kZ xH (kP kN rfl z_len PySem.boot_len (kB (pv 6) kD)) kK) kD)) rfl)) qQ)
   (kF (jE (jS PySem.F.plainAttrs_list PySem.F.slot_list_append PySem.F.type_list_append jM (pv 4) (kB (qH jD (pv 6) (qG (pv 7)) (qG (kZ qX (pv 8) kK))) kD)))
   (kM (jE (jS PySem.F.plainAttrs_list PySem.F.slot_list_append PySem.F.type_list_append jM (pv 3) (kB (Own.pe_has zZ (hr.mono (by decide)) rfl (kB (pv 2) (kB (pv 6) (kB (pv 7) (kB (pv 8) kD))))) kD))))))))))
   (kM (kX (qW (kB (pv 2) (kB (pv 3) (kB (pv 4) kD)))))))))),?_⟩
 refine ⟨L2.y1,λ l1 m1=>⟨L2.y1,λ l2 m2=>⟨L2.y2,λ r m3=>?_⟩⟩⟩;refine ⟨L2.y2,λ o m4=>⟨L2.y1,λ t m5=>?_⟩⟩;refine ⟨L2.y0,λ q m6=>?_⟩;have g1:=kE m1 (.lst [vn 1]);have g2:=kE m2 (.lst [vn 0]);have g3:=kE m3 (.lst [.ref l1,.ref l2]);have g4:=kE m4 (.lst [vn 0,vn 1]);have g5:=kE m5 (.lst [.ref o]);have g6:=kE m6 (.lst []);have f2:=g1.free m2;have f3:=(g1.trans g2).free m3;have f4:=(g1.trans (g2.trans g3)).free m4;have f5:=(g1.trans (g2.trans (g3.trans g4))).free m5;have f6:=(g1.trans (g2.trans (g3.trans (g4.trans g5)))).free m6;have g:=g1.trans (g2.trans (g3.trans (g4.trans (g5.trans g6))));have v1:=kC (H:=H) (a:=l1) (o:=.lst [vn 1]);have v2:=kC (H:=upd H l1 (.lst [vn 1])) (a:=l2) (o:=.lst [vn 0]);have v3:=kC (H:=upd (upd H l1 (.lst [vn 1])) l2 (.lst [vn 0])) (a:=r) (o:=.lst [.ref l1,.ref l2]);have v4:=kC (H:=upd (upd (upd H l1 (.lst [vn 1])) l2 (.lst [vn 0])) r (.lst [.ref l1,.ref l2])) (a:=o) (o:=.lst [vn 0,vn 1]);have v5:=kC (H:=upd (upd (upd (upd H l1 (.lst [vn 1])) l2 (.lst [vn 0])) r (.lst [.ref l1,.ref l2])) o (.lst [vn 0,vn 1])) (a:=t) (o:=.lst [.ref o]);have v6:=kC (H:=upd (upd (upd (upd (upd H l1 (.lst [vn 1])) l2 (.lst [vn 0])) r (.lst [.ref l1,.ref l2])) o (.lst [vn 0,vn 1])) t (.lst [.ref o])) (a:=q) (o:=.lst []);have d12:=kH v1 m2;have d1r:=kH (g2 _ _ v1) m3;have d2r:=kH v2 m3;have d1o:=kH (g3 _ _ (g2 _ _ v1)) m4;have d2o:=kH (g3 _ _ v2) m4;have dro:=kH v3 m4;have d1t:=kH (g4 _ _ (g3 _ _ (g2 _ _ v1))) m5;have d2t:=kH (g4 _ _ (g3 _ _ v2)) m5;have drt:=kH (g4 _ _ v3) m5;have dot:=kH v4 m5;have d1q:=kH (g5 _ _ (g4 _ _ (g3 _ _ (g2 _ _ v1)))) m6;have d2q:=kH (g5 _ _ (g4 _ _ (g3 _ _ v2))) m6;have drq:=kH (g5 _ _ (g4 _ _ v3)) m6;have doq:=kH (g5 _ _ v4) m6;have dtq:=kH v5 m6;have w1:=g6 _ _ (g5 _ _ (g4 _ _ (g3 _ _ (g2 _ _ v1))));have w2:=g6 _ _ (g5 _ _ (g4 _ _ (g3 _ _ v2)));have w3:=g6 _ _ (g5 _ _ (g4 _ _ v3));have w4:=g6 _ _ (g5 _ _ v4);have w5:=g6 _ _ v5;clear v1 v2 v3 v4 v5 g1 g2 g3 g4 g5 g6 m2 m3 m4 m5 m6;have p0:=ha.kept g;have nw0:NewR H a r t q o [l1,l2]:=⟨f3,λ x hx=>by simp at hx;rcases hx with rfl | rfl<;>assumption,f5,f6,f4,drt.symm,by simp [d1t.symm,d2t.symm],drq.symm,by simp [d1q.symm,d2q.symm],dtq,dro.symm,by simp [d1o.symm,d2o.symm],dot,doq⟩
 have X0:RowsAt (upd (upd (upd (upd (upd (upd H l1 (.lst [vn 1])) l2 (.lst [vn 0])) r (.lst [.ref l1,.ref l2])) o (.lst [vn 0,vn 1])) t (.lst [.ref o])) q (.lst [])) r [l1,l2] [[1],[0]]:=by
  refine ⟨w3,rfl,by simp [d12],by simp [d1r.symm,d2r.symm],λ i b ns hb hi=>?_⟩
  match i with
  | 0=>cases hb;cases hi;exact w1
  | 1=>cases hb;cases hi;exact w2
  | i+2=>simp at hb
 generalize hH1:upd (upd (upd (upd (upd (upd H l1 (.lst [vn 1])) l2 (.lst [vn 0])) r (.lst [.ref l1,.ref l2])) o (.lst [vn 0,vn 1])) t (.lst [.ref o])) q (.lst [])=H1 at *;have hH1':upd (upd (upd (upd (upd (upd H l1 (.lst [.int 1])) l2 (.lst [.int 0])) r (.lst [.ref l1,.ref l2])) o (.lst [.int 0,.int 1])) t (.lst [.ref o])) q (.lst [])=H1:=hH1;rw [hH1']
 try rw [hH1'] at w4
 try rw [hH1'] at w5
 try rw [hH1'] at v6
 try rw [hH1'] at g
 try rw [hH1'] at p0
 have apt:∀ {x:Addr},H x=none->a≠x:=λ h=>by obtain ⟨_,_,e,_⟩:=ha;exact kH e h
 refine ⟨_,rfl,_,_,rfl,rfl,_,rfl,by omega,by omega,yV (lo:=0) (n:=((n:Int)-2).toNat) (λ i σ H2=>∃ (x5 x6 x7 x8:Option V) (A:List Addr) (L:Rows) (O:List Nat) (o:Addr) (ts ps:List V),σ=[some (.ref a),some (vn n),some (.ref r),some (.ref t),some (.ref q),x5,x6,x7,x8]/\RowsAt H2 r A L/\Half L O/\2<=O.length/\L.length=2+i/\(i=n-2->O.length=3)/\H2 o=some (.lst (O.map vn))/\H2 t=some (.lst (ts++[.ref o]))/\ts.length=i/\H2 q=some (.lst ps)/\ps.length=i/\SameBut a H H2/\PotAt H2 a/\NewR H a r t q o A)
  ⟨none,none,none,none,[l1,l2],[[1],[0]],[0,1],o,[],[],rfl,X0,tZ,Nat.le_refl _,rfl,λ e=>by omega,w4,w5,rfl,v6,rfl,.of g,p0,nw0⟩ ?_ ?_⟩
 ·clear X0 w1 w2 w3 w4 w5 v6 nw0 p0 hH1 hH1' g f2 f3 f4 f5 f6
  rintro i σ H2 hi ⟨x5,x6,x7,x8,A1,L,O,o,ts,ps,rfl,X,G,O2,hl,hO3,ho,ht,lts,hq,lps,s2,p2,nw⟩
  have oN:O.length<=L.length:=by
   have:=List.Nodup.length_le_of_subset G.ond (l₂:=List.range L.length) λ z hz=>mem_range.mpr (G.orng z hz);rwa [length_range] at this
  have lO:((O.map vn).length:Int)=O.length:=by rw [length_map]
  refine ⟨_,rfl,_,rfl,t,_,_,_,rfl,rfl,SqL.of ht,yF _ _,?_⟩;refine ⟨_,rfl,_,rfl,o,_,rfl,.inl (SqL.of ho),_,_,rfl,rfl,a,_,rfl,p2,(by rw [lO];omega),tU (by rw [lO];exact Nat.lt_of_le_of_lt (m:=1000) (by omega) (by decide)),λ d H3 d0 d1 s3 p3=>?_⟩;rw [lO] at d1;have ho3:=s3 _ _ (apt nw.no).symm ho;refine ⟨_,rfl,_,_,rfl,rfl,_,rfl,_,rfl,o,_,rfl,.inl (SqL.of ho3),_,_,rfl,rfl,_,rfl,_,_,rfl,rfl,a,_,rfl,p3,(by rw [lO];omega),tU (by rw [lO];exact Nat.lt_of_le_of_lt (m:=1000) (by omega) (by decide)),λ d' H4 e0 e1 s4 p4=>?_⟩;rw [lO] at e1;refine ⟨_,_,rfl,rfl,?_⟩;have aA1:a∉A1:=λ z=>by have:=apt (nw.all a z);exact this rfl
  have s34:=s2.trans (s3.trans s4);have X4:=X.but (apt nw.top) aA1 (s3.trans s4);have ho4:=s4 _ _ (apt nw.no).symm ho3;have ht4:=(s3.trans s4) _ _ (apt nw.nt).symm ht;have hq4:=(s3.trans s4) _ _ (apt nw.nq).symm hq;refine ⟨_,rfl,_,rfl,_,_,rfl,rfl,rfl,_,rfl,?_⟩;refine oI (λ cc=>?_) (λ cc=>?_)
  ·have ci:(0+(i:Int))=(n:Int)-3:=by
    have:=of_decide_eq_true cc;injection this
   refine ⟨_,rfl,o,_,rfl,.inl (SqL.of ho4),_,_,rfl,rfl,_,_,rfl,?_⟩;rw [lO]
   obtain ⟨b,c,eb,ec,bc,cO,hbc⟩ : ∃ b c:Nat,V.int 0=vn b/\V.int ((O.length:Int)-1)=vn c/\b<c/\c<O.length/\(i=n-3->b=0/\c=O.length-1) :=
    ⟨0,O.length-1,rfl,by unfold vn;congr 1;omega,by omega,by omega,λ _=>⟨rfl,rfl⟩⟩
   obtain ⟨B,fi,M,la,C,eO,eB,eM⟩:=kEV bc cO;have lO':O.length=B.length+M.length+2+C.length:=by rw [eO];simp;omega
   refine ⟨_,rfl,.inl ⟨rfl,_,SqL.of hq4⟩,_,rfl,_,rfl,_,rfl,_,rfl,_,_,rfl,rfl,_,rfl,o,_,rfl,SqL.of ho4,λ p n5=>?_⟩;have g5:=kE n5 (.lst (jO (O.map vn) (some (0)) (some ((O.length:Int)-1+1))));have hq5:=g5 _ _ hq4;have ho5:=g5 _ _ ho4;have ht5:=g5 _ _ ht4;have X5:=X4.kept g5;have p5:=p4.kept g5;have s5:=s34.trans (.of g5);refine ⟨q,_,_,rfl,rfl,hq5,(by rw [lps];exact kQ (by omega)),?_⟩;generalize upd H4 p (.lst (jO (O.map vn) (some (0)) (some ((O.length:Int)-1+1))))=H5 at *;have X6:=X5.other nw.qr nw.qA (.lst (ps++[.ref p]));have p6:=p5.other (o:=.lst (ps++[.ref p])) (apt nw.nq);have ho6:upd H5 q (.lst (ps++[.ref p])) o=some (.lst (O.map vn)):=by rw [kO nw.oq];exact ho5
   have ht6:upd H5 q (.lst (ps++[.ref p])) t=some (.lst (ts++[.ref o])):=by rw [kO nw.tq];exact ht5
   have hq6:=kC (H:=H5) (a:=q) (o:=.lst (ps++[.ref p]))
   have s6:SameBut a H (upd H5 q (.lst (ps++[.ref p]))):=λ b u nb h=>by
    rw [kO (kH h nw.nq)];exact s5 b u nb h
   generalize upd H5 q (.lst (ps++[.ref p]))=H6 at *;refine ⟨_,rfl,.inl ⟨rfl,_,SqL.of ht6⟩,_,rfl,_,rfl,_,rfl,_,rfl,r,o,A1,L,B,M,C,fi,la,(by show [V.ref r,V.ref o,V.int (0),V.int ((O.length:Int)-1)]=_;rw [eb,ec,eM,eB]),X6,(by rw [<-eO];exact ho6),nw.or,nw.oA,(by rw [<-eO];exact G),(by omega),λ x o' L' H7 hx ho' b7 X7 hh7 ox G7 hl7=>?_⟩;have ht7:=b7 _ _ nw.tr nw.tA ht6;have hq7:=b7 _ _ nw.qr nw.qA hq6;have xt:t≠x:=kH ht6 hx;have xq:q≠x:=kH hq6 hx;have aA:a∉A1:=λ z=>by have:=apt (nw.all a z);exact this rfl
   have p7:=p6.rows (apt nw.top) aA b7
   have tA':t∉A1++[x]:=λ z=>by
    rcases mem_append.mp z with z | z
    ·exact nw.tA z
    ·simp at z;exact xt z
   have qA':q∉A1++[x]:=λ z=>by
    rcases mem_append.mp z with z | z
    ·exact nw.qA z
    ·simp at z;exact xq z
   refine ⟨t,_,_,rfl,rfl,ht7,(by rw [length_append,lts];exact kQ (by show i+1<=1000;omega)),?_⟩;have X8:=X7.other nw.tr tA' (.lst (ts++[.ref o]++[.ref o']));have oo:o'≠t:=(kH ht6 ho').symm;refine ⟨_,_,_,_,A1++[x],L',B++[fi,L.length,la]++C,o',ts++[.ref o],ps++[.ref p],rfl,X8,G7,(by simp;omega),(by omega),(λ e=>?_),(by rw [kO oo];exact hh7),kC,(by simp [lts]),(by rw [kO nw.tq.symm];exact hq7),(by simp [lps]),(λ b u nb h=>?_),p7.other (apt nw.nt),?_⟩
   ·obtain ⟨z1,z2⟩:=hbc (by omega)
    simp;omega
   ·rw [kO (kH h nw.nt)]
    exact b7 b u (kH h nw.top) (λ z=>by rw [nw.all b z] at h;cases h) (s6 b u nb h)
   ·have fx:=bC s6 p6 hx
    have fo:=bC s6 p6 ho';refine ⟨nw.top,λ b hb=>?_,nw.nt,nw.nq,fo,nw.tr,tA',nw.qr,qA',nw.tq,(kH X6.top ho').symm,λ z=>?_,oo,(kH hq6 ho').symm⟩
    ·rcases mem_append.mp hb with w | w
     ·exact nw.all b w
     ·rw [mem_singleton.mp w];exact fx
    ·rcases mem_append.mp z with z | z
     ·obtain ⟨u,hu⟩:=X6.mem z
      rw [ho'] at hu;cases hu
     ·simp at z;exact ox z
  ·have ci:(0+(i:Int))≠(n:Int)-3:=λ e=>cc (by rw [e];exact decide_eq_true rfl)
   obtain ⟨b,c,eb,ec,bc,cO,hbc⟩ : ∃ b c:Nat,V.int d=vn b/\V.int (d+1+d')=vn c/\b<c/\c<O.length/\(i=n-3->b=0/\c=O.length-1) :=
    ⟨d.toNat,(d+1+d').toNat,by unfold vn;congr 1;omega,by unfold vn;congr 1;omega,by omega,by omega,λ e=>by omega⟩
   obtain ⟨B,fi,M,la,C,eO,eB,eM⟩:=kEV bc cO;have lO':O.length=B.length+M.length+2+C.length:=by rw [eO];simp;omega
   refine ⟨_,rfl,.inl ⟨rfl,_,SqL.of hq4⟩,_,rfl,_,rfl,_,rfl,_,rfl,_,_,rfl,rfl,_,rfl,o,_,rfl,SqL.of ho4,λ p n5=>?_⟩;have g5:=kE n5 (.lst (jO (O.map vn) (some (d)) (some (d+1+d'+1))));have hq5:=g5 _ _ hq4;have ho5:=g5 _ _ ho4;have ht5:=g5 _ _ ht4;have X5:=X4.kept g5;have p5:=p4.kept g5;have s5:=s34.trans (.of g5);refine ⟨q,_,_,rfl,rfl,hq5,(by rw [lps];exact kQ (by omega)),?_⟩;generalize upd H4 p (.lst (jO (O.map vn) (some (d)) (some (d+1+d'+1))))=H5 at *;have X6:=X5.other nw.qr nw.qA (.lst (ps++[.ref p]));have p6:=p5.other (o:=.lst (ps++[.ref p])) (apt nw.nq);have ho6:upd H5 q (.lst (ps++[.ref p])) o=some (.lst (O.map vn)):=by rw [kO nw.oq];exact ho5
   have ht6:upd H5 q (.lst (ps++[.ref p])) t=some (.lst (ts++[.ref o])):=by rw [kO nw.tq];exact ht5
   have hq6:=kC (H:=H5) (a:=q) (o:=.lst (ps++[.ref p]))
   have s6:SameBut a H (upd H5 q (.lst (ps++[.ref p]))):=λ b u nb h=>by
    rw [kO (kH h nw.nq)];exact s5 b u nb h
   generalize upd H5 q (.lst (ps++[.ref p]))=H6 at *;refine ⟨_,rfl,.inl ⟨rfl,_,SqL.of ht6⟩,_,rfl,_,rfl,_,rfl,_,rfl,r,o,A1,L,B,M,C,fi,la,(by show [V.ref r,V.ref o,V.int (d),V.int (d+1+d')]=_;rw [eb,ec,eM,eB]),X6,(by rw [<-eO];exact ho6),nw.or,nw.oA,(by rw [<-eO];exact G),(by omega),λ x o' L' H7 hx ho' b7 X7 hh7 ox G7 hl7=>?_⟩;have ht7:=b7 _ _ nw.tr nw.tA ht6;have hq7:=b7 _ _ nw.qr nw.qA hq6;have xt:t≠x:=kH ht6 hx;have xq:q≠x:=kH hq6 hx;have aA:a∉A1:=λ z=>by have:=apt (nw.all a z);exact this rfl
   have p7:=p6.rows (apt nw.top) aA b7
   have tA':t∉A1++[x]:=λ z=>by
    rcases mem_append.mp z with z | z
    ·exact nw.tA z
    ·simp at z;exact xt z
   have qA':q∉A1++[x]:=λ z=>by
    rcases mem_append.mp z with z | z
    ·exact nw.qA z
    ·simp at z;exact xq z
   refine ⟨t,_,_,rfl,rfl,ht7,(by rw [length_append,lts];exact kQ (by show i+1<=1000;omega)),?_⟩;have X8:=X7.other nw.tr tA' (.lst (ts++[.ref o]++[.ref o']));have oo:o'≠t:=(kH ht6 ho').symm;refine ⟨_,_,_,_,A1++[x],L',B++[fi,L.length,la]++C,o',ts++[.ref o],ps++[.ref p],rfl,X8,G7,(by simp;omega),(by omega),(λ e=>?_),(by rw [kO oo];exact hh7),kC,(by simp [lts]),(by rw [kO nw.tq.symm];exact hq7),(by simp [lps]),(λ b u nb h=>?_),p7.other (apt nw.nt),?_⟩
   ·obtain ⟨z1,z2⟩:=hbc (by omega)
    simp;omega
   ·rw [kO (kH h nw.nt)]
    exact b7 b u (kH h nw.top) (λ z=>by rw [nw.all b z] at h;cases h) (s6 b u nb h)
   ·have fx:=bC s6 p6 hx
    have fo:=bC s6 p6 ho';refine ⟨nw.top,λ b hb=>?_,nw.nt,nw.nq,fo,nw.tr,tA',nw.qr,qA',nw.tq,(kH X6.top ho').symm,λ z=>?_,oo,(kH hq6 ho').symm⟩
    ·rcases mem_append.mp hb with w | w
     ·exact nw.all b w
     ·rw [mem_singleton.mp w];exact fx
    ·rcases mem_append.mp z with z | z
     ·obtain ⟨u,hu⟩:=X6.mem z
      rw [ho'] at hu;cases hu
     ·simp at z;exact ox z
 ·rintro σ H2 ⟨x5,x6,x7,x8,A1,L,O,o',ts,ps,rfl,X,G,O2,hl,hO3,ho,ht,lts,hq,lps,s2,p2,nw⟩
  have O3:=hO3 (by omega);refine ⟨_,rfl,_,rfl,_,rfl,L2.y3,λ z nz=>?_⟩;have gz:=kE nz (.tup [.ref r,.ref t,.ref q])
  have GG:Good L:=by
   match O,O3,G with
   | [x,y,w'],_,G=>exact kDP G (by omega)
  exact k z r t q A1 L _ (s2.trans (.of gz)) (p2.kept gz) kC (X.kept gz) GG (by omega) nw.top nw.all
def dU:Sp:=λ vs H Q _=>∃ (t:Addr) (W:Rows) (p q:Nat) (row:List Nat) (v:Nat),vs=[.ref t,vn p,vn q]/\WebAt H t W/\W[q]?=some row/\p∈row/\jL row p=some v/\Q (vn v) H
theorem nY {f:Addr} {fd:FuncData} (F:Fun K "_law_third" "_law_third" xQ f fd):FnOk P w K mg base CX0 1 f fd ["_law_web_here","_law_p","_law_q"] (dU):=by
 refine F.ok nL (λ vs H Q E h=>?_) (λ cdv A outer s H vs Q E hr h=>?_)
 ·obtain ⟨t,W,p,q,row,v,rfl,_⟩:=h
  rfl
 obtain ⟨t,W,p,q,row,v,rfl,hW,hq,hp,hv,k⟩:=h;refine ⟨_,(kM (kX (qB jC (qB jC (pv 0) (pv 2) (λ _ _=>rfl)) (kZ xH (jS PySem.F.plainAttrs_tuple PySem.F.slot_tuple_index PySem.F.type_tuple_index uM (qB jC (pv 0) (pv 2) (λ _ _=>rfl)) (kB (pv 1) kD)) kK) (λ _ _=>rfl)))),?_⟩;obtain ⟨ts,h1,_,h3⟩:=hW.at;obtain ⟨b,e1,e2⟩:=h3 q row hq;refine ⟨_,rfl,_,rfl,t,_,_,_,rfl,rfl,SqT.of h1,e1,_,rfl,_,rfl,t,_,_,_,rfl,rfl,SqT.of h1,e1,.inr (.inl ⟨rfl,.inr ⟨_,e2⟩⟩),?_⟩;exact ⟨_,rfl,b,row.map ci,p,row.idxOf p,rfl,rfl,SqT.of (by rw [e2,xF]),qT hp,_,_,rfl,rfl,b,_,_,_,rfl,rfl,SqT.of e2,kBP hp hv,k⟩
def prZ (t:Nat×Nat):List Int:=[(t.1:Int),(t.2:Int)]
theorem sX {H:Hp} {s:Addr} {T:List (Nat×Nat)} (h:PairsAt H s T):∃ ps:List (Addr×List Int),H s=some (.lst (ps.map λ q=>V.ref q.1))/\kMA H ps /\
  ∀ (l:Addr) (ps':List (Addr×List Int)),H l=none->ps'.Perm ps->ps'.Pairwise (λ a b=>Srt.lexLt b.2 a.2=false)->PairsAt (upd H l (.lst (ps'.map λ q=>V.ref q.1))) l (Fc.sortP T):=by
 obtain ⟨ss,h1,h2,h3⟩:=h
 have e1:(ss.zip (T.map prZ)).map (λ q=>V.ref q.1)=ss.map V.ref:=by
  rw [show (λ q:Addr×List Int=>V.ref q.1)=V.ref∘Prod.fst from rfl,<-map_map,List.map_fst_zip (by rw [length_map];omega)]
 have mem:∀ q∈ss.zip (T.map prZ),∃ t:Nat×Nat,q.2=prZ t/\H q.1=some (.tup [vn t.1,vn t.2]):=λ q hq=>by
  obtain ⟨i,hi,rfl⟩:=mem_iff_getElem.mp hq;rw [List.length_zip,length_map] at hi;refine ⟨T[i]'(by omega),by simp,?_⟩;have:=h3 i (ss[i]'(by omega)) (T[i]'(by omega)) (List.getElem?_eq_getElem _) (List.getElem?_eq_getElem _);simpa using this
 refine ⟨ss.zip (T.map prZ),by rw [e1];exact h1,λ q hq=>?_,λ l ps' nl pm sr=>?_⟩
 ·obtain ⟨t,e,ht⟩:=mem q hq
  rw [e];exact ⟨ht,by simp [prZ]⟩
 ·have back:∃ T':List (Nat×Nat),ps'.map (·.2)=T'.map prZ/\T'.Perm T:=by
   have pz:(ps'.map (·.2)).Perm (T.map prZ):=by
    have:=pm.map (λ q:Addr×List Int=>q.2);rwa [List.map_snd_zip (by rw [length_map];omega)] at this
   obtain ⟨m,a,b⟩:=Srt.perm_back pz rfl;exact ⟨m,b,a⟩
  obtain ⟨T',eT,pT⟩:=back
  have srt:T'.Pairwise (λ a b=>Fc.leP a b=true):=by
   have a1:(ps'.map (·.2)).Pairwise (λ a b=>Srt.lexLt b a=false):=pairwise_map.mpr sr;rw [eT] at a1;refine (pairwise_map.mp a1).imp λ {a b} hh=>?_;rw [<-Fc.leP_leL,Fc.leL_iff];exact hh
  have eq:=Fc.sortP_is pT srt
  have ln:ps'.length=T'.length:=by
   have:=congrArg List.length eT;simpa using this
  refine ⟨ps'.map (·.1),by rw [map_map];exact kC,by rw [<-eq,length_map,ln],λ i b t e1 e2=>?_⟩;rw [<-eq] at e2;have hi:=(List.getElem?_eq_some_iff.mp e2).1;have hi':i<ps'.length:=by omega
  rw [List.getElem?_map,List.getElem?_eq_getElem hi'] at e1;have e1:ps'[i].1=b:=Option.some.inj e1
  have e3:ps'[i].2=prZ t:=by
   have:=congrArg (λ l=>l[i]?) eT;rw [List.getElem?_map,List.getElem?_map,e2,List.getElem?_eq_getElem hi'] at this;exact Option.some.inj this
  obtain ⟨t',e4,ht⟩:=mem ps'[i] (pm.mem_iff.mp (getElem_mem hi'))
  have tt:t'=t:=by
   rw [e4] at e3;unfold prZ at e3;injection e3 with z1 z2
   injection z2 with z2 _
   exact Prod.ext (by omega) (by omega)
  rw [<-e1,kO (kH ht nl),ht,tt]
def dW:Sp:=λ vs H Q _=>∃ (t:Addr) (W:Rows),vs=[.ref t]/\WebAt H t W/\Nb W/\W.length<=42 /\
 ∀ (s:Addr) (H':Hp),Same H H'->H s=none->PairsAt H' s (Fc.stepsS W)->Q (.ref s) H'
theorem sR (W:Rows) (i:Nat) (hi:i<W.length):kS (W.take (i+1))=kS (W.take i)++(W[i].map λ q=>(i,q)):=by
 unfold kS;rw [length_take,length_take,Nat.min_eq_left (by omega),Nat.min_eq_left (by omega),range_succ,List.flatMap_append]
 congr 1
 ·rw [List.flatMap_def,List.flatMap_def]
  congr 1
  refine List.map_congr_left λ p hp=>?_;have:=mem_range.mp hp;simp only [getD_eq_getElem?_getD];rw [List.getElem?_take_of_lt (by omega),List.getElem?_take_of_lt (by omega)]
 ·rw [List.flatMap_singleton]
  simp only [getD_eq_getElem?_getD];rw [List.getElem?_take_of_lt (by omega),List.getElem?_eq_getElem hi]
  rfl
theorem Nb.take_len {W:Rows} (S:Nb W) (h:W.length<=42) (i:Nat):(kS (W.take i)).length<=1764:=by
 have a:=aW S h
 have:(kS (W.take i)).length<=(kS W).length:=by
  rw [yY,yY]
  conv=>rhs;rw [<-take_append_drop i W]
  rw [map_append,List.sum_append];omega
 omega
theorem pY {f:Addr} {fd:FuncData} (F:Fun K "steps_of" "steps_of" yJ f fd) (z_sorted:mg "sorted" = none) (z_enumerate:mg "enumerate" = none):FnOk P w K mg base CX0 1 f fd ["web"] (dW):=by
 refine F.ok pP (λ vs H Q E h=>?_) (λ cdv A outer s0 H vs Q E hr h=>?_)
 ·obtain ⟨t,W,rfl,_⟩:=h
  rfl
 obtain ⟨t,W,rfl,hW,S,h42,k⟩:=h;refine ⟨_,(kM (kX (kP gZ rfl z_sorted PyProof.Rows.boot_sorted (kB (kII (Nc:=["p","row","q"]) (js:=[none,none,none]) rfl rfl (nS false rfl z_enumerate (kB (pv 0) kD)) (CS.of rfl rfl) rfl (λ C s₂ H₂ fp pins=>(show PG _ _ (kGP K 2 _) from yQ rfl (qC (kR (i:=0) (show List.Nodup (α:=Str) ["p","row","q"] by decide +kernel) rfl (Or.inl rfl)) (qC (kR (i:=1) (show List.Nodup (α:=Str) ["p","row","q"] by decide +kernel) rfl (Or.inl rfl)) xB)))) (λ C s₂ H₂ fp pins=>(show PI _ _ _ (kNB K _) from (cL (pv 1)))) (λ C s₂ H₂ fp pins=>(kR (i:=2) (show List.Nodup (α:=Str) ["p","row","q"] by decide +kernel) rfl (Or.inl rfl))) (λ C s₂ H₂ fp pins D L=>(xK (jX (qW (kB (pv 0) (kB (pv 2) kD))))))) kD)))),?_⟩;obtain ⟨ts,h1,lts,h3⟩:=id hW;refine ⟨_,rfl,t,rfl,⟨_,SqT.of h1⟩,λ D nD=>?_⟩
 refine kBZ (k:=false) (xs:=ts.map V.ref) (λ i σ H2=>∃ (x0 x1 x2:Option V),σ=[x0,x1,x2]/\Same H H2/\PairsAt H2 D (kS (W.take i)))
  ⟨none,none,none,rfl,kE nD _,⟨[],kC,rfl,λ i b t e=>by simp at e⟩⟩ ?_ ?_ ?_
 ·rintro i σ H2 _ ⟨x0,x1,x2,rfl,g2,_⟩
  exact SqT.of (g2 _ _ h1)
 ·rintro i x T σ H2 hx nT ⟨x0,x1,x2,rfl,g2,pr⟩
  rw [List.getElem?_map] at hx;obtain ⟨a,ea,rfl⟩:=Option.map_eq_some_iff.mp hx;have hi:i<W.length:=by rw [<-lts];exact (List.getElem?_eq_some_iff.mp ea).1
  have har:=h3 i a _ ea (List.getElem?_eq_getElem hi);have rl:=S.len (List.getElem?_eq_getElem hi);have gT:=kE nT (.tup [.int i,.ref a]);refine ⟨T,_,rfl,SqT.of kC,rfl,_,_,rfl,_,_,rfl,rfl,?_⟩;have g3:=g2.trans gT;have pr3:=pr.kept gT;generalize upd H2 T (.tup [.int i,.ref a])=H3 at *;refine ⟨_,rfl,a,rfl,⟨_,SqT.of (g3 _ _ har)⟩,?_⟩;refine wN (xs:=W[i].map vn) (λ j σ H4=>∃ (x2:Option V),σ=[some (vn i),some (.ref a),x2]/\Same H H4/\PairsAt H4 D (kS (W.take i)++((W[i].take j).map λ q=>(i,q)))) ⟨x2,rfl,g3,by simpa using pr3⟩ ?_ ?_ ?_
  ·rintro j σ H4 _ ⟨x2,rfl,g4,_⟩
   exact SqT.of (g4 _ _ har)
  ·rintro j v σ H4 hv ⟨x2,rfl,g4,pr4⟩
   rw [List.getElem?_map] at hv;obtain ⟨q,eq',rfl⟩:=Option.map_eq_some_iff.mp hv;have hj:=(List.getElem?_eq_some_iff.mp eq').1;refine ⟨_,rfl,_,rfl,L2.y2,λ b nb=>?_⟩;have gb:=kE nb (.tup [vn i,vn q]);have hb:=kC (H:=H4) (a:=b) (o:=.tup [vn i,vn q]);have pr5:=pr4.kept gb;have g5:=g4.trans gb;refine (λ (z:upd H4 b (.tup [vn i,vn q]) b=some (.tup [vn i,vn q]))=>?_) hb;generalize upd H4 b (.tup [vn i,vn q])=H5 at *;obtain ⟨ss,c1,c2,c3⟩:=id pr5;have l1:=Nb.take_len S h42 i
   have l2:ss.length<=1764+42:=by
    rw [c2,length_append,length_map,length_take];omega
   refine ⟨_,c1,(by rw [length_map];exact zV (by omega)),?_⟩;have A1:=PairsAt.app (H':=H5) c1 c2 c3 (t:=(i,q)) z;refine ⟨_,rfl,qP nD g5,?_⟩;have tk:(W[i].take (j+1)).map (λ q=>(i,q))=(W[i].take j).map (λ q=>(i,q))++[(i,q)]:=by rw [take_succ,eq',map_append];rfl
   rw [tk,<-append_assoc];exact A1
  ·rintro σ H4 ⟨x2,rfl,g4,pr4⟩
   rw [length_map,take_length] at pr4;exact ⟨_,_,_,rfl,g4,by rw [sR W i hi];exact pr4⟩
 ·rintro σ H2 ⟨x0,x1,x2,rfl,g2,pr⟩
  rw [length_map,lts,take_length] at pr;obtain ⟨ps,e1,e2,e3⟩:=sX pr;refine ⟨D,ps,rfl,.inl (SqL.of e1),e2,λ l ps' nl pm sr=>?_⟩;exact k l _ (g2.trans (kE nl _)) (g2.free nl) (e3 l ps' nl pm sr)
def RowsT (H:Hp) (s:Addr) (T:List (List Nat)):Prop:=∃ ss:List Addr,H s=some (.lst (ss.map V.ref))/\ss.length=T.length/\∀ (i:Nat) (b:Addr) (t:List Nat),ss[i]?=some b->T[i]?=some t->H b=some (.tup (t.map vn))
theorem RowsT.kept {H H':Hp} {s:Addr} {T:List (List Nat)} (h:RowsT H s T) (g:Same H H'):RowsT H' s T:=by
 obtain ⟨ss,h1,h2,h3⟩:=h;exact ⟨ss,g _ _ h1,h2,λ i b t e1 e2=>g _ _ (h3 i b t e1 e2)⟩
theorem RowsT.app {H:Hp} {s b:Addr} {ss:List Addr} {T:List (List Nat)} {t:List Nat} (h1:H s=some (.lst (ss.map V.ref))) (h2:ss.length=T.length) (h3:∀ (i:Nat) (b:Addr) (t:List Nat),ss[i]?=some b->T[i]?=some t->H b=some (.tup (t.map vn))) (hb:H b=some (.tup (t.map vn))) :
  RowsT (upd H s (.lst (ss.map V.ref++[.ref b]))) s (T++[t]):=by
 refine ⟨ss++[b],by rw [map_append];exact kC,by simp [h2],λ i c u e1 e2=>?_⟩;have cs:c≠s->upd H s (.lst (ss.map V.ref++[.ref b])) c=H c:=λ z=>kO z;rcases Nat.lt_or_ge i ss.length with hl | hl
 ·rw [List.getElem?_append_left hl] at e1
  rw [List.getElem?_append_left (by omega)] at e2;have:=h3 i c u e1 e2;rw [cs (vS this h1 (by simp))];exact this
 ·obtain rfl:i=ss.length:=by
   have:=(List.getElem?_eq_some_iff.mp e1).1;simp at this;omega
  rw [List.getElem?_concat_length] at e1;rw [h2,List.getElem?_concat_length] at e2;cases e1
  cases e2
  rw [cs (vS hb h1 (by simp))];exact hb
theorem kCJ {H:Hp} {s:Addr} {T:List (List Nat)} (h:RowsT H s T) (hne:∀ t∈T,t≠[]):∃ ps:List (Addr×List Int),H s=some (.lst (ps.map λ q=>V.ref q.1))/\kMA H ps /\
  ∀ (l:Addr) (ps':List (Addr×List Int)),H l=none->ps'.Perm ps->ps'.Pairwise (λ a b=>Srt.lexLt b.2 a.2=false)->RowsT (upd H l (.lst (ps'.map λ q=>V.ref q.1))) l (Fc.sortL T):=by
 obtain ⟨ss,h1,h2,h3⟩:=h
 have e1:(ss.zip (T.map Fc.zl)).map (λ q=>V.ref q.1)=ss.map V.ref:=by
  rw [show (λ q:Addr×List Int=>V.ref q.1)=V.ref∘Prod.fst from rfl,<-map_map,List.map_fst_zip (by rw [length_map];omega)]
 have vz:∀ t:List Nat,(Fc.zl t).map V.int=t.map vn:=λ t=>by unfold Fc.zl;rw [map_map];rfl
 have mem:∀ q∈ss.zip (T.map Fc.zl),∃ t:List Nat,t∈T/\q.2=Fc.zl t/\H q.1=some (.tup (t.map vn)):=λ q hq=>by
  obtain ⟨i,hi,rfl⟩:=mem_iff_getElem.mp hq;rw [List.length_zip,length_map] at hi;refine ⟨T[i]'(by omega),getElem_mem _,by simp,?_⟩;have:=h3 i (ss[i]'(by omega)) (T[i]'(by omega)) (List.getElem?_eq_getElem _) (List.getElem?_eq_getElem _);simpa using this
 refine ⟨ss.zip (T.map Fc.zl),by rw [e1];exact h1,λ q hq=>?_,λ l ps' nl pm sr=>?_⟩
 ·obtain ⟨t,m,e,ht⟩:=mem q hq
  rw [e,vz];refine ⟨ht,λ z=>hne t m ?_⟩;unfold Fc.zl at z;exact List.map_eq_nil_iff.mp z
 ·have back:∃ T':List (List Nat),ps'.map (·.2)=T'.map Fc.zl/\T'.Perm T:=by
   have pz:(ps'.map (·.2)).Perm (T.map Fc.zl):=by
    have:=pm.map (λ q:Addr×List Int=>q.2);rwa [List.map_snd_zip (by rw [length_map];omega)] at this
   obtain ⟨m,a,b⟩:=Srt.perm_back pz rfl;exact ⟨m,b,a⟩
  obtain ⟨T',eT,pT⟩:=back
  have srt:T'.Pairwise (λ a b=>Fc.leL a b=true):=by
   have a1:(ps'.map (·.2)).Pairwise (λ a b=>Srt.lexLt b a=false):=pairwise_map.mpr sr;rw [eT] at a1;refine (pairwise_map.mp a1).imp λ {a b} hh=>?_;rw [Fc.leL_iff];exact hh
  have eq:=Fc.sortL_is pT srt
  have ln:ps'.length=T'.length:=by
   have:=congrArg List.length eT;simpa using this
  refine ⟨ps'.map (·.1),by rw [map_map];exact kC,by rw [<-eq,length_map,ln],λ i b t e1 e2=>?_⟩;rw [<-eq] at e2;have hi:=(List.getElem?_eq_some_iff.mp e2).1;have hi':i<ps'.length:=by omega
  rw [List.getElem?_map,List.getElem?_eq_getElem hi'] at e1;have e1:ps'[i].1=b:=Option.some.inj e1
  have e3:ps'[i].2=Fc.zl t:=by
   have:=congrArg (λ l=>l[i]?) eT;rw [List.getElem?_map,List.getElem?_map,e2,List.getElem?_eq_getElem hi'] at this;exact Option.some.inj this
  obtain ⟨t',m,e4,ht⟩:=mem ps'[i] (pm.mem_iff.mp (getElem_mem hi'))
  have tt:t'=t:=by
   rw [e4] at e3;exact Fc.zl_inj e3
  rw [<-e1,kO (kH ht nl),ht,tt]
def sT:Sp:=λ vs H Q _=>∃ (t:Addr) (W:Rows),vs=[.ref t]/\WebAt H t W/\Nb W/\W.length<=42 /\
 ∀ (s:Addr) (H':Hp),Same H H'->H s=none->PairsAt H' s (Fc.tiesS W)->Q (.ref s) H'
theorem fM {W:Rows} (S:Nb W) (h:W.length<=42):(Fc.stepsS W).length<=1764:=by
 have:=aW S h;rw [show (Fc.stepsS W).length=(kS W).length from (Fc.sortP_perm _).length_eq];exact this
theorem kIO {f:Addr} {fd:FuncData} (F:Fun K "ties" "ties" cI f fd) (yS:Own.Has P w K mg base "steps_of" ["web"] 1 (dW)):FnOk P w K mg base CX0 2 f fd ["web"] (sT):=by
 refine F.ok kHW (λ vs H Q E h=>?_) (λ cdv A outer s0 H vs Q E hr h=>?_)
 ·obtain ⟨t,W,rfl,_⟩:=h
  rfl
 obtain ⟨t,W,rfl,hW,S,h42,k⟩:=h;refine ⟨_,(kM (kX (xL (Nc:=["p","q"]) (js:=[none,none]) rfl rfl (yC (Own.pe_has yS (hr.mono (by decide)) rfl (kB (pv 0) kD))) (CS.of rfl rfl) rfl (λ C s₂ H₂ fp pins=>(show PG _ _ (kGP K 2 _) from yQ rfl (qC (kR (i:=0) (show List.Nodup (α:=Str) ["p","q"] by decide +kernel) rfl (Or.inl rfl)) (qC (kR (i:=1) (show List.Nodup (α:=Str) ["p","q"] by decide +kernel) rfl (Or.inl rfl)) xB)))) (λ C s₂ H₂ fp pins D L=>(yB (qF pX (pv 0) (pv 1) (qL _)) (jX (qW (kB (pv 0) (kB (pv 1) kD))))))))),?_⟩;have l1:=fM S h42;refine ⟨_,rfl,t,W,rfl,hW,S,h42,λ s H1 g1 ns pr=>?_⟩;obtain ⟨ss,h1,h2,h3⟩:=id pr;refine ⟨s,rfl,⟨_,SqL.of h1⟩,λ D nD=>?_⟩
 refine jZ (xs:=ss.map V.ref) (λ i σ H2=>∃ (x0 x1:Option V),σ=[x0,x1]/\Same H1 H2/\PairsAt H2 D (((Fc.stepsS W).take i).filter λ t=>decide (t.1<t.2)))
  ⟨none,none,rfl,kE nD _,⟨[],kC,rfl,λ i b t e=>by simp at e⟩⟩ ?_ ?_ ?_
 ·rintro i σ H2 _ ⟨x0,x1,rfl,g2,_⟩
  exact SqL.of (g2 _ _ h1)
 ·rintro i x σ H2 hx ⟨x0,x1,rfl,g2,pr2⟩
  rw [List.getElem?_map] at hx;obtain ⟨b,eb,rfl⟩:=Option.map_eq_some_iff.mp hx;have hi:i<(Fc.stepsS W).length:=by rw [<-h2];exact (List.getElem?_eq_some_iff.mp eb).1
  have et:=List.getElem?_eq_getElem hi;have hb:=h3 i b _ eb et;have tk:(Fc.stepsS W).take (i+1)=(Fc.stepsS W).take i++[(Fc.stepsS W)[i]]:=by rw [take_succ,et];rfl
  generalize (Fc.stepsS W)[i]=t at *;refine ⟨b,_,rfl,SqT.of (g2 _ _ hb),rfl,_,_,rfl,_,_,rfl,rfl,?_⟩;refine ⟨_,rfl,_,rfl,_,_,rfl,rfl,_,rfl,?_⟩;rw [tk];refine oI (λ z=>?_) (λ z=>?_)
  ·have z:=of_decide_eq_true z
   refine ⟨_,rfl,_,rfl,L2.y2,λ c nc=>?_⟩;have gc:=kE nc (.tup [vn t.1,vn t.2]);have hc:=kC (H:=H2) (a:=c) (o:=.tup [vn t.1,vn t.2]);have pr3:=pr2.kept gc;have g3:=g2.trans gc;refine (λ (y:upd H2 c (.tup [vn t.1,vn t.2]) c=some (.tup [vn t.1,vn t.2]))=>?_) hc;generalize upd H2 c (.tup [vn t.1,vn t.2])=H3 at *;obtain ⟨cs,c1,c2,c3⟩:=id pr3
   have lc:cs.length<=1764:=by
    rw [c2];have:=length_filter_le (λ t:Nat×Nat=>decide (t.1<t.2)) ((Fc.stepsS W).take i);rw [length_take] at this;omega
   refine ⟨_,c1,(by rw [length_map];exact zV (by omega)),?_⟩;refine ⟨_,_,rfl,qP nD g3,?_⟩;rw [filter_append,filter_cons,if_pos (by exact decide_eq_true (by omega))];exact PairsAt.app (H':=H3) c1 c2 c3 y
  ·have z:¬ (t.1:Int)<(t.2:Int):=λ q=>z (decide_eq_true q)
   refine ⟨_,_,rfl,g2,?_⟩;rw [filter_append,filter_cons,if_neg (by intro q;have:=of_decide_eq_true q;omega)];simpa using pr2
 ·rintro σ H2 ⟨x0,x1,rfl,g2,pr2⟩
  rw [length_map,h2,take_length] at pr2;exact k D H2 (g1.trans g2) (g1.free nD) pr2
def pk (t:Nat×Nat):List Key:=[Sum.inl (t.1:Int),Sum.inl (t.2:Int)]
theorem kLA {a b:Nat×Nat} (h:pk a=pk b):a=b:=by
 unfold pk at h;injection h with h1 h2
 injection h2 with h2 _
 have:=Sum.inl.inj h1;have:=Sum.inl.inj h2;exact Prod.ext (by omega) (by omega)
def SeenAt (H:Hp) (d:Addr) (X:List (Nat×Nat)):Prop:=∃ kvs:List (List Key×V),H d=some (.dT kvs)/\(∀ t:Nat×Nat,(yA kvs (pk t)).isSome=decide (t∈X))/\kvs.length<=X.length/\∀ y∈kvs,∃ t∈X,y.1=pk t
theorem SeenAt.kept {H H':Hp} {d:Addr} {X:List (Nat×Nat)} (h:SeenAt H d X) (g:Same H H'):SeenAt H' d X:=by
 obtain ⟨kvs,a,b⟩:=h;exact ⟨kvs,g _ _ a,b⟩
theorem pO {H:Hp} {d:Addr}:SeenAt (upd H d (.dT [])) d []:=⟨[],kC,λ t=>by simp [yA],Nat.le_refl _,λ y hy=>nomatch hy⟩
theorem rK {kvs:List (List Key×V)} {k:List Key} {v:V} {y:List Key×V} (h:y∈wS kvs k v):y.1=k\/∃ z∈kvs,z.1=y.1:=by
 unfold wS at h
 split at h
 ·obtain ⟨z,hz,rfl⟩:=mem_map.mp h
  split
  ·exact .inr ⟨z,hz,rfl⟩
  ·exact .inr ⟨z,hz,rfl⟩
 ·rcases mem_append.mp h with z | z
  ·exact .inr ⟨y,z,rfl⟩
  ·exact .inl (by rw [mem_singleton.mp z])
theorem kCL {kvs:List (List Key×V)} {X:List (Nat×Nat)} {t:Nat×Nat} {v:V} (h1:∀ t:Nat×Nat,(yA kvs (pk t)).isSome=decide (t∈X)) (h2:kvs.length<=X.length) (h3:∀ y∈kvs,∃ t∈X,y.1=pk t) :
  (∀ u:Nat×Nat,(yA (wS kvs (pk t) v) (pk u)).isSome=decide (u∈X++[t]))/\(wS kvs (pk t) v).length<=(X++[t]).length/\∀ y∈wS kvs (pk t) v,∃ u∈X++[t],y.1=pk u:=by
 refine ⟨λ u=>?_,?_,λ y hy=>?_⟩
 ·rw [pL]
  by_cases e:pk u=pk t
  ·rw [if_pos e,kLA e]
   simp
  ·rw [if_neg e,h1 u]
   have:u≠t:=λ z=>e (by rw [z]);simp [this]
 ·have:=wD kvs (pk t) v
  rw [length_append,length_singleton];omega
 ·rcases rK hy with e | ⟨z,hz,e⟩
  ·exact ⟨t,by simp,e⟩
  ·obtain ⟨u,hu,eu⟩:=h3 z hz
   exact ⟨u,mem_append_left _ hu,by rw [<-e,eu]⟩
theorem mL:∀ (more kvs:List (List Key×V)) (k:List Key),(yA (yE kvs more) k).isSome=((yA kvs k).isSome || (yA more k).isSome)
 | [],kvs,k=>by simp [yE,yA]
 | m::more,kvs,k=>by
  have:=mL more (wS kvs m.1 m.2) k;unfold yE at this ⊢;rw [foldl_cons,this,pL];by_cases e:m.1=k
  ·rw [if_pos e.symm,jQ e]
   simp
  ·rw [if_neg (λ z=>e z.symm),jR e]
theorem mN:∀ (more kvs:List (List Key×V)),(yE kvs more).length<=kvs.length+more.length
 | [],kvs=>Nat.le_refl _
 | m::more,kvs=>by
  have:=mN more (wS kvs m.1 m.2);have:=wD kvs m.1 m.2;unfold yE at *;rw [foldl_cons,length_cons];omega
theorem gQ:∀ (more kvs:List (List Key×V)) (y:List Key×V),y∈yE kvs more->(∃ z∈kvs,z.1=y.1)\/∃ z∈more,z.1=y.1
 | [],kvs,y,h=>.inl ⟨y,h,rfl⟩
 | m::more,kvs,y,h=>by
  have h:y∈yE (wS kvs m.1 m.2) more:=h;rcases gQ more _ y h with ⟨z,hz,e⟩ | ⟨z,hz,e⟩
  ·rcases rK hz with e2 | ⟨z2,hz2,e2⟩
   ·exact .inr ⟨m,mem_cons_self ..,by rw [<-e,e2]⟩
   ·exact .inl ⟨z2,hz2,by rw [e2,e]⟩
  ·exact .inr ⟨z,mem_cons_of_mem _ hz,e⟩
theorem SeenAt.upd {H:Hp} {d:Addr} {X Y:List (Nat×Nat)} {kvs more:List (List Key×V)} (h1:∀ t:Nat×Nat,(yA kvs (pk t)).isSome=decide (t∈X)) (h2:kvs.length<=X.length) (h3:∀ y∈kvs,∃ t∈X,y.1=pk t)
  (m1:∀ t:Nat×Nat,(yA more (pk t)).isSome=decide (t∈Y)) (m2:more.length<=Y.length) (m3:∀ y∈more,∃ t∈Y,y.1=pk t):SeenAt (L2.upd H d (.dT (yE kvs more))) d (X++Y):=by
 refine ⟨_,kC,λ t=>?_,?_,λ y hy=>?_⟩
 ·rw [mL,h1,m1,Bool.eq_iff_iff,Bool.or_eq_true,decide_eq_true_iff,decide_eq_true_iff,decide_eq_true_iff,mem_append]
 ·have:=mN more kvs
  rw [length_append];omega
 ·rcases gQ more kvs y hy with ⟨z,hz,e⟩ | ⟨z,hz,e⟩
  ·obtain ⟨u,hu,eu⟩:=h3 z hz
   exact ⟨u,mem_append_left _ hu,by rw [<-e,eu]⟩
  ·obtain ⟨u,hu,eu⟩:=m3 z hz
   exact ⟨u,mem_append_right _ hu,by rw [<-e,eu]⟩
theorem lJ {W:Rows} {p q k:Nat} (T:Turns W p q k):Fc.per W (p,q)=k:=Fc.per_is T.pos T.back T.first
theorem kCB {W:Rows} {p q k:Nat} (T:Turns W p q k):orb W p q k=Fc.rnd W (p,q):=by
 unfold orb Fc.rnd;rw [lJ T]
def dZ:Sp:=λ vs H Q _=>∃ (t:Addr) (W:Rows),vs=[.ref t]/\WebAt H t W/\Nb W/\W.length<=42 /\
 ∀ (s:Addr) (H':Hp),Same H H'->H s=none->RowsT H' s (Fc.facesS W)->Q (.ref s) H'
theorem kKU {W:Rows} (S:Nb W) {t:Nat×Nat} (h:t∈kS W):(Fc.rnd W t).map (·.1)≠[]:=λ z=>by
 have:=Fc.rnd_self S h;rw [List.map_eq_nil_iff.mp z] at this;cases this
theorem kGU {W:Rows} (S:Nb W) {T:List (Nat×Nat)} (hT:∀ t∈T,t∈kS W):∀ f∈(Fc.fgo W T).1,f≠[]:=λ f hf=>by
 obtain ⟨R,r1,r2,_⟩:=(Fc.fgo_ok S T hT).reps;rw [r2] at hf;obtain ⟨r,hr,rfl⟩:=mem_map.mp hf;exact kKU S (hT r (r1 r hr))
theorem uZ {W:Rows}:∀ t∈Fc.stepsS W,t∈kS W:=λ t h=>(Fc.sortP_perm _).mem_iff.mp h
theorem kHT {W:Rows} (S:Nb W) (h:W.length<=42) {t:Nat×Nat} (ht:t∈kS W):t.1<42/\t.2<42:=by
 have:=S.e (mem_steps.mp (show (t.1,t.2)∈kS W from ht));omega
theorem kFU {f:Addr} {fd:FuncData} (F:Fun K "faces" "faces" uL f fd) (yS:Own.Has P w K mg base "steps_of" ["web"] 1 (dW)) (jW:Own.Has P w K mg base "steps_round" ["web","step"] 2 (aY)) (z_tuple:mg "tuple" = none) (z_sorted:mg "sorted" = none):FnOk P w K mg base CX0 3 f fd ["web"] (dZ):=by
 refine F.ok sc_faces (λ vs H Q E h=>?_) (λ cdv A outer s0 H vs Q E hr h=>?_)
 ·obtain ⟨t,W,rfl,_⟩:=h
  rfl
 obtain ⟨t,W,rfl,hW,S,h42,k⟩:=h
 refine ⟨_,(kF (kT (i:=1) sc_faces.nd rfl (Or.inl rfl) (qS kD))
   (kF (kT (i:=2) sc_faces.nd rfl (Or.inl rfl) kFQ)
   (kF (wH PassesOwn.never rfl (yC (Own.pe_has yS (hr.mono (by decide)) rfl (kB (pv 0) kD))) (kR (i:=3) sc_faces.nd rfl (Or.inl rfl)) (kM (xE (kKY (kCV (kGK hr) (pv 3) (pv 2))) (kF (kT (i:=4) sc_faces.nd rfl (Or.inl rfl) (Own.pe_has jW (hr.mono (by decide)) rfl (kB (pv 0) (kB (pv 3) kD))))
   (kF (jE (jS PySem.F.plainAttrs_dict PySem.F.slot_dict_update PySem.F.type_dict_update (kIU (kGK hr)) (pv 2) (kB (kIJ (Nc:=["one"]) (js:=[none]) rfl rfl (yC (pv 4)) (CS.of rfl rfl) rfl (λ C s₂ H₂ fp pins=>(kR (i:=0) (show List.Nodup (α:=Str) ["one"] by decide +kernel) rfl (Or.inl rfl))) (λ C s₂ H₂ fp pins D L=>(xK (kIL (kGK hr) (pv 0) uW)))) kD)))
   (kM (jE (jS PySem.F.plainAttrs_list PySem.F.slot_list_append PySem.F.type_list_append jM (pv 1) (kB (qO qE rfl z_tuple PyProof.Rows.boot_tuple (kB (xL (Nc:=["p","q"]) (js:=[none,none]) rfl rfl (yC (pv 4)) (CS.of rfl rfl) rfl (λ C s₂ H₂ fp pins=>(show PG _ _ (kGP K 2 _) from yQ rfl (qC (kR (i:=0) (show List.Nodup (α:=Str) ["p","q"] by decide +kernel) rfl (Or.inl rfl)) (qC (kR (i:=1) (show List.Nodup (α:=Str) ["p","q"] by decide +kernel) rfl (Or.inl rfl)) xB)))) (λ C s₂ H₂ fp pins D L=>(xK (jX (pv 0))))) kD)) kD)))))) qQ)))
   (kM (kX (kP gZ rfl z_sorted PyProof.Rows.boot_sorted (kB (pv 1) kD))))))),?_⟩
 have l1:=fM S h42;have l0:=aW S h42;refine ⟨L2.y0,λ l nl=>?_⟩;have gl:=kE nl (.lst []);have hl:=kC (H:=H) (a:=l) (o:=.lst []);refine λ d nd=>?_;have gd:=kE nd (.dT []);have hd:=pO (H:=upd H l (.lst [])) (d:=d);have nld:l≠d:=λ z=>by rw [<-z,hl] at nd;cases nd
 have hl1:=gd _ _ hl;have g1:=gl.trans gd;have nd0:H d=none:=gl.free nd;refine (λ (hd':SeenAt (upd (upd H l (.lst [])) d (.dT [])) d [])=>?_) hd;generalize upd (upd H l (.lst [])) d (.dT [])=H1 at *;refine ⟨_,rfl,t,W,rfl,hW.kept g1,S,h42,λ s H2 g2 ns pr=>?_⟩;obtain ⟨ss,h1,h2,h3⟩:=id pr;have g02:=g1.trans g2;have nsl:s≠l:=λ z=>by rw [z,hl1] at ns;cases ns
 have nsd:s≠d:=λ z=>by obtain ⟨kvs,a,_⟩:=hd';rw [z,a] at ns;cases ns
 refine ⟨s,rfl,⟨_,SqL.of h1⟩,?_⟩
 refine kGQ (xs:=ss.map V.ref) (λ i σ H3=>∃ (x3 x4:Option V),σ=[some (.ref t),some (.ref l),some (.ref d),x3,x4]/\(∀ b o,b≠l->b≠d->H2 b=some o->H3 b=some o)/\RowsT H3 l (Fc.fgo W ((Fc.stepsS W).take i)).1/\SeenAt H3 d (Fc.fgo W ((Fc.stepsS W).take i)).2)
  ⟨none,none,rfl,(λ b o _ _ e=>e),⟨[],g2 _ _ hl1,rfl,λ i b t e=>by simp at e⟩,hd'.kept g2⟩ ?_ ?_ ?_
 ·rintro i σ H3 _ ⟨x3,x4,rfl,f3,_⟩
  exact SqL.of (f3 _ _ nsl nsd h1)
 ·rintro i x σ H3 hx ⟨x3,x4,rfl,f3,rt,sn⟩
  rw [List.getElem?_map] at hx;obtain ⟨b,eb,rfl⟩:=Option.map_eq_some_iff.mp hx;have hi:i<(Fc.stepsS W).length:=by rw [<-h2];exact (List.getElem?_eq_some_iff.mp eb).1
  have et:=List.getElem?_eq_getElem hi;have hb:=h3 i b _ eb et;have tk:(Fc.stepsS W).take (i+1)=(Fc.stepsS W).take i++[(Fc.stepsS W)[i]]:=by rw [take_succ,et];rfl
  have mt:=uZ _ (getElem_mem hi);have fi:=Fc.fgo_ok S ((Fc.stepsS W).take i) λ t h=>uZ t (List.mem_of_mem_take h);have lX:=fi.len;rw [tk,Fc.fgo_snoc]
  have lF:(Fc.fgo W ((Fc.stepsS W).take i)).1.length<=1764:=by
   have:∀ T:List (Nat×Nat),(Fc.fgo W T).1.length<=T.length:=λ T=>by
    have:∀ n,n<=T.length->(Fc.fgo W (T.take n)).1.length<=n:=λ n=>by
     induction n with
     | zero=>intro _;rw [List.take_zero];exact Nat.le_refl _
     | succ n ih =>
      intro hn;rw [show T.take (n+1)=T.take n++[T[n]] by rw [take_succ,List.getElem?_eq_getElem (by omega)];rfl,Fc.fgo_snoc];have:=ih (by omega);unfold Fc.fstep
      split
      ·omega
      ·rw [length_append]
       show _+1<=_;omega
    have:=this T.length (Nat.le_refl _);rwa [take_length] at this
   have:=this ((Fc.stepsS W).take i);rw [length_take] at this;omega
  generalize (Fc.stepsS W)[i]=u at *;generalize Fc.fgo W ((Fc.stepsS W).take i)=st at *
  have nbl:b≠l:=λ z=>by
   have a:=g2 _ _ hl1;rw [z,a] at hb;cases hb
  have nbd:b≠d:=λ z=>by
   obtain ⟨kvs,a,_⟩:=hd'.kept g2;rw [z,a] at hb;cases hb
  have hb3:=f3 _ _ nbl nbd hb;obtain ⟨kvs,k1,k2,k3,k4⟩:=id sn;refine ⟨_,rfl,_,rfl,d,_,rfl,DGet.t (k:=pk u) k1 hb3,_,rfl,?_⟩;rw [k2 u];unfold Fc.fstep;by_cases c:u∈st.2
  ·rw [decide_eq_true c,if_pos c]
   exact xI ⟨_,_,rfl,f3,rt,sn⟩
  rw [decide_eq_false c,if_neg c];obtain ⟨u1,u2⟩:=u;have hE:Tri.E W u1 u2:=mem_steps.mp mt
  have keepW:WebAt H3 t W:=by
   obtain ⟨ts,q1,q2,q3⟩:=hW.kept g02;have ok:∀ (b:Addr) (xs:List V),H2 b=some (.tup xs)->H3 b=some (.tup xs):=λ b xs e=>f3 b _ (λ z=>by rw [z,g2 _ _ hl1] at e;cases e) (λ z=>by obtain ⟨kvs,a,_⟩:=hd'.kept g2;rw [z,a] at e;cases e) e;exact ⟨ts,ok _ _ q1,q2,λ j a row e1 e2=>ok _ _ (q3 j a row e1 e2)⟩
  refine wJ ⟨_,rfl,_,rfl,t,b,W,u1,u2,rfl,keepW,S,h42,hb3,hE,λ q m H4 g4 T prq=>?_⟩;rw [kCB T] at prq;have few:=T.few;have lm:=lJ T;obtain ⟨qs,q1,q2,q3⟩:=id prq
  have lq:(Fc.rnd W (u1,u2)).length=m:=by rw [Fc.rnd_len,lm]
  refine ⟨_,rfl,.inr (.inr (.inl ⟨rfl,.inr ⟨_,g4 _ _ k1⟩⟩)),_,rfl,q,rfl,⟨_,SqL.of q1⟩,λ D nD=>?_⟩;refine jZ (xs:=qs.map V.ref) (λ j σ H5=>∃ (x0:Option V),σ=[x0]/\Same H4 H5/\SeenAt H5 D ((Fc.rnd W (u1,u2)).take j)) ⟨none,rfl,kE nD _,pO⟩ ?_ ?_ ?_
  ·rintro j σ H5 _ ⟨x0,rfl,g5,_⟩
   exact SqL.of (g5 _ _ q1)
  ·rintro j v σ H5 hv ⟨x0,rfl,g5,sD⟩
   rw [List.getElem?_map] at hv;obtain ⟨c',ec,rfl⟩:=Option.map_eq_some_iff.mp hv;have hj:j<(Fc.rnd W (u1,u2)).length:=by rw [<-q2];exact (List.getElem?_eq_some_iff.mp ec).1
   have ej:=List.getElem?_eq_getElem hj;have hc:=g5 _ _ (q3 j c' _ ec ej);have tkj:(Fc.rnd W (u1,u2)).take (j+1)=(Fc.rnd W (u1,u2)).take j++[(Fc.rnd W (u1,u2))[j]]:=by rw [take_succ,ej];rfl
   rw [tkj];generalize (Fc.rnd W (u1,u2))[j]=y at *;obtain ⟨dv,d1,d2,d3,d4⟩:=sD;have ld:dv.length<=1764:=by rw [length_take] at d3;omega
   refine ⟨_,rfl,_,DPut.t (k:=pk y) d1 hc (zV (by omega)),?_⟩;obtain ⟨a1,a2,a3⟩:=kCL (t:=y) (v:=.bl true) d2 d3 d4;exact ⟨_,rfl,qP nD g5,⟨_,kC,a1,a2,a3⟩⟩
  ·rintro σ H5 ⟨x0,rfl,g5,sD⟩
   rw [length_map,q2,take_length] at sD;obtain ⟨dv,d1,d2,d3,d4⟩:=sD;have g45:=g4.trans g5;have k15:=g45 _ _ k1;have nDd:d≠D:=λ z=>by rw [<-z,g4 _ _ k1] at nD;cases nD
   refine ⟨d,D,kvs,dv,rfl,rfl,nDd,k15,d1,(λ y hy=>?_),?_,?_⟩
   ·obtain ⟨v,hv,e⟩:=d4 y hy
    have:=kHT S h42 (Fc.rnd_sub S mt hv);exact ⟨v.1,v.2,e,this.1,this.2⟩
   ·have:kvs.length+dv.length<=20000:=by omega
    exact Nat.le_of_lt (zV this)
   have sn6:=SeenAt.upd (H:=H5) (d:=d) k2 k3 k4 d2 d3 d4;have f6:∀ b o,b≠d->H3 b=some o->upd H5 d (.dT (yE kvs dv)) b=some o:=λ b o nb e=>by rw [kO nb];exact g45 _ _ e
   have q16:upd H5 d (.dT (yE kvs dv)) q=some (.lst (qs.map V.ref)):=by
    rw [kO (vS (g5 _ _ q1) k15 (by simp))];exact g5 _ _ q1
   have q36:∀ (i:Nat) (b:Addr) (t:Nat×Nat),qs[i]?=some b->(Fc.rnd W (u1,u2))[i]?=some t->upd H5 d (.dT (yE kvs dv)) b=some (.tup [vn t.1,vn t.2]):=λ i b t e1 e2=>by
    have:=g5 _ _ (q3 i b t e1 e2);rw [kO (vS this k15 (by simp))];exact this
   obtain ⟨ls,r1,r2,r3⟩:=id rt;have r16:upd H5 d (.dT (yE kvs dv)) l=some (.lst (ls.map V.ref)):=f6 l _ nld r1
   have r36:∀ (i:Nat) (b:Addr) (t:List Nat),ls[i]?=some b->st.1[i]?=some t->upd H5 d (.dT (yE kvs dv)) b=some (.tup (t.map vn)):=λ i b t e1 e2=>by
    have:=r3 i b t e1 e2;exact f6 b _ (vS this k1 (by simp)) this
   have f36:∀ b o,b≠l->b≠d->H2 b=some o->upd H5 d (.dT (yE kvs dv)) b=some o:=λ b o n1 n2 e=>f6 b o n2 (f3 b o n1 n2 e)
   generalize upd H5 d (.dT (yE kvs dv))=H6 at *
   refine ⟨_,rfl,.inl ⟨rfl,_,SqL.of r16⟩,_,rfl,q,rfl,⟨_,SqL.of q16⟩,λ D2 nD2=>?_⟩;refine jZ (xs:=qs.map V.ref) (λ j σ H7=>∃ (x0 x1:Option V),σ=[x0,x1]/\Same H6 H7/\H7 D2=some (.lst ((((Fc.rnd W (u1,u2)).take j).map (·.1)).map vn))) ⟨none,none,rfl,kE nD2 _,kC⟩ ?_ ?_ ?_
   ·rintro j σ H7 _ ⟨x0,x1,rfl,g7,_⟩
    exact SqL.of (g7 _ _ q16)
   ·rintro j v σ H7 hv ⟨x0,x1,rfl,g7,hD2⟩
    rw [List.getElem?_map] at hv;obtain ⟨c',ec,rfl⟩:=Option.map_eq_some_iff.mp hv;have hj:j<(Fc.rnd W (u1,u2)).length:=by rw [<-q2];exact (List.getElem?_eq_some_iff.mp ec).1
    have ej:=List.getElem?_eq_getElem hj;have hc:=g7 _ _ (q36 j c' _ ec ej);have tkj:(Fc.rnd W (u1,u2)).take (j+1)=(Fc.rnd W (u1,u2)).take j++[(Fc.rnd W (u1,u2))[j]]:=by rw [take_succ,ej];rfl
    rw [tkj];generalize (Fc.rnd W (u1,u2))[j]=y at *;refine ⟨c',_,rfl,SqT.of hc,rfl,_,_,rfl,_,_,rfl,rfl,?_⟩;refine ⟨_,rfl,_,hD2,(by rw [length_map,length_map,length_take];exact zV (by omega)),?_⟩;refine ⟨_,_,rfl,qP nD2 g7,?_⟩;rw [map_append,map_append];exact kC
   ·rintro σ H7 ⟨x0,x1,rfl,g7,hD2⟩
    rw [length_map,q2,take_length] at hD2;refine ⟨D2,_,rfl,.inl ⟨SqL.of hD2,λ f nf=>?_⟩⟩;have gf:=kE nf (.tup (((Fc.rnd W (u1,u2)).map (·.1)).map vn));have g8:=g7.trans gf;have hf:=kC (H:=H7) (a:=f) (o:=.tup (((Fc.rnd W (u1,u2)).map (·.1)).map vn));generalize hH8:upd H7 f (.tup (((Fc.rnd W (u1,u2)).map (·.1)).map vn))=H8 at *;have r18:=g8 _ _ r16;have r38:∀ (i:Nat) (b:Addr) (t:List Nat),ls[i]?=some b->st.1[i]?=some t->H8 b=some (.tup (t.map vn)):=λ i b t e1 e2=>g8 _ _ (r36 i b t e1 e2);refine ⟨l,_,_,rfl,rfl,r18,(by rw [length_map,r2];exact zV (by omega)),?_⟩;refine ⟨_,_,rfl,(λ b o n1 n2 e=>by rw [kO n1];exact g8 _ _ (f36 b o n1 n2 e)),RowsT.app r18 r2 r38 hf,?_⟩;obtain ⟨kv6,z1,z2⟩:=sn6.kept g8;exact ⟨kv6,by rw [kO nld.symm];exact z1,z2⟩
 ·rintro σ H3 ⟨x3,x4,rfl,f3,rt,sn⟩
  rw [length_map,h2,take_length] at rt;obtain ⟨ps,e1,e2,e3⟩:=kCJ rt (kGU S uZ);have g03:Same H H3:=λ b o e=>f3 b o (kH e nl) (kH e nd0) (g02 b o e);refine ⟨_,rfl,l,ps,rfl,.inl (SqL.of e1),e2,λ l' ps' nl' pm sr=>?_⟩;exact k l' _ (g03.trans (kE nl' _)) (g03.free nl') (e3 l' ps' nl' pm sr)
def sW:Sp:=λ vs H Q _=>∃ (t:Addr) (W:Rows),vs=[.ref t]/\WebAt H t W/\Nb W/\W.length<=42 /\
 ∀ (H':Hp),Same H H'->Q (.bl (decide (W.length+(Fc.facesS W).length=(Fc.tiesS W).length+2))) H'
theorem tO {f:Addr} {fd:FuncData} (F:Fun K "is_flat" "is_flat" zM f fd) (uO:Own.Has P w K mg base "faces" ["web"] 3 (dZ)) (kAA:Own.Has P w K mg base "ties" ["web"] 2 (sT)) (z_len:mg "len" = none):FnOk P w K mg base CX0 4 f fd ["web"] (sW):=by
 refine F.ok sZ (λ vs H Q E h=>?_) (λ cdv A outer s0 H vs Q E hr h=>?_)
 ·obtain ⟨t,W,rfl,_⟩:=h
  rfl
 obtain ⟨t,W,rfl,hW,S,h42,k⟩:=h;refine ⟨_,(kM (kX (vF kAR (kZ qX (kP kN rfl z_len PySem.boot_len (kB (pv 0) kD)) (kP kN rfl z_len PySem.boot_len (kB (Own.pe_has uO (hr.mono (by decide)) rfl (kB (pv 0) kD)) kD))) (kZ qX (kP kN rfl z_len PySem.boot_len (kB (Own.pe_has kAA (hr.mono (by decide)) rfl (kB (pv 0) kD)) kD)) kK) (qL _)))),?_⟩;obtain ⟨ts,h1,lts,h3⟩:=id hW;refine ⟨_,rfl,t,_,rfl,.inr (SqT.of h1),_,rfl,t,W,rfl,hW,S,h42,λ s H1 g1 ns rt=>?_⟩;obtain ⟨ss,r1,r2,_⟩:=rt;refine ⟨s,_,rfl,.inl (SqL.of r1),_,_,rfl,rfl,_,rfl,t,W,rfl,hW.kept g1,S,h42,λ u H2 g2 nu pr=>?_⟩;obtain ⟨us,p1,p2,_⟩:=pr;refine ⟨u,_,rfl,.inl (SqL.of p1),_,_,rfl,rfl,rfl,?_⟩
 have e:decide (V.int (((ts.map V.ref).length:Int)+((ss.map V.ref).length:Int))=V.int (((us.map V.ref).length:Int)+2))=decide (W.length+(Fc.facesS W).length=(Fc.tiesS W).length+2):=by
  rw [Bool.eq_iff_iff,decide_eq_true_iff,decide_eq_true_iff,length_map,length_map,length_map,lts,r2,p2];constructor
  ·intro z
   have:=V.int.inj z;omega
  ·intro z
   congr 1
   omega
 rw [e];exact k H2 (g1.trans g2)
def fN:Sp:=λ vs H Q _=>∃ (n:Nat),vs=[vn n]/\Q (.bl true) H
theorem rC {f:Addr} {fd:FuncData} (F:Fun K "is_whole" "is_whole" yN f fd) (z_isinstance:mg "isinstance" = none) (z_bool:mg "bool" = none) (z_int:mg "int" = none):FnOk P w K mg base CX0 1 f fd ["thing"] (fN):=by
 refine F.ok pQ (λ vs H Q E h=>?_) (λ cdv A outer s0 H vs Q E hr h=>?_)
 ·obtain ⟨n,rfl,_⟩:=h
  rfl
 obtain ⟨n,rfl,q⟩:=h;refine ⟨_,(kM (kX (gB (kP Own.call_isi rfl z_isinstance PyProof.Rows.boot_isinstance (kB (pv 0) (kB (bD (v:=.ty "int") rfl z_int PyProof.Rows.boot_int rfl) kD))) (tH (kLC (kP Own.call_isi rfl z_isinstance PyProof.Rows.boot_isinstance (kB (pv 0) (kB (bD (v:=.ty "bool") rfl z_bool PyProof.Rows.boot_bool rfl) kD)))))))),?_⟩;exact ⟨_,rfl,_,_,_,_,rfl,.int _,rfl,_,rfl,wJ ⟨_,rfl,_,_,_,_,rfl,.int _,rfl,_,rfl,q⟩⟩
def nH:Sp:=λ vs H Q _=>∃ (a:Addr) (ns:List Nat),vs=[.ref a,vn ns.length]/\H a=some (.tup (ns.map vn))/\ns.length<=1000/\∀ H',Same H H'->Q (.bl true) H'
theorem oE {f:Addr} {fd:FuncData} (F:Fun K "are_whole" "are_whole" xW f fd) (aL:Own.Has P w K mg base "is_whole" ["thing"] 1 (fN)) (z_all:mg "all" = none) (z_len:mg "len" = none) (z_isinstance:mg "isinstance" = none) (z_tuple:mg "tuple" = none):FnOk P w K mg base CX0 2 f fd ["thing","many"] (nH):=by
 refine F.ok nM (λ vs H Q E h=>?_) (λ cdv A outer s0 H vs Q E hr h=>?_)
 ·obtain ⟨a,ns,rfl,_⟩:=h
  rfl
 obtain ⟨a,ns,rfl,e,l,k⟩:=h;refine ⟨_,(kM (kX (gB (kP Own.call_isi rfl z_isinstance PyProof.Rows.boot_isinstance (kB (pv 0) (kB (bD (v:=.ty "tuple") rfl z_tuple PyProof.Rows.boot_tuple rfl) kD))) (gB (vF kAR (kP kN rfl z_len PySem.boot_len (kB (pv 0) kD)) (pv 1) (qL _)) (tH (kP (dE rfl) rfl z_all PyProof.Rows.boot_all (kB (xL (Nc:=["one"]) (js:=[none]) rfl rfl (cL (pv 0)) (CS.of rfl rfl) rfl (λ C s₂ H₂ fp pins=>(kR (i:=0) (show List.Nodup (α:=Str) ["one"] by decide +kernel) rfl (Or.inl rfl))) (λ C s₂ H₂ fp pins D L=>(xK (jX (Own.pe_has aL (hr.mono (by decide)) rfl (kB (pv 0) kD)))))) kD))))))),?_⟩;refine ⟨_,rfl,_,_,_,_,rfl,.tup e,rfl,_,rfl,wJ ⟨_,rfl,a,_,rfl,.inr (SqT.of e),_,rfl,rfl,_,rfl,?_⟩⟩;rw [decide_eq_true (show V.int (((ns.map vn).length:Nat):Int)=vn ns.length by rw [length_map];rfl)];refine wJ ⟨_,rfl,a,rfl,⟨_,SqT.of e⟩,λ D nD=>?_⟩;refine wN (xs:=ns.map vn) (λ n σ H1=>∃ (u:Option V),σ=[u]/\H1 D=some (.lst ((List.replicate n true).map V.bl))/\Same H H1) ⟨none,rfl,kC,kE nD _⟩ ?_ ?_ ?_
 ·rintro n σ H1 _ ⟨u,rfl,hD,g⟩
  exact SqT.of (g _ _ e)
 ·rintro n v σ H1 hv ⟨u,rfl,hD,g⟩
  have hn:=(List.getElem?_eq_some_iff.mp hv).1;rw [length_map] at hn;rw [List.getElem?_map] at hv;obtain ⟨x,_,rfl⟩:=Option.map_eq_some_iff.mp hv;refine ⟨_,rfl,x,rfl,_,hD,(by rw [length_map,List.length_replicate];exact kQ (by omega)),?_⟩;exact ⟨_,rfl,(by rw [List.replicate_succ',map_append];exact kC),qP nD g⟩
 ·rintro σ H1 ⟨u,rfl,hD,g⟩
  refine ⟨D,_,rfl,SqL.of hD,?_⟩
  have:(List.replicate (ns.map vn).length true).all id=true:=by
   rw [all_eq_true];intro x hx;rw [List.eq_of_mem_replicate hx]
   rfl
  rw [this];exact k H1 g
structure Tr (W:Rows):Prop where
 nb:Nb W
 le:W.length<=42
 three:∀ t∈kS W,(nxt W (nxt W t)).2=t.1
 cnt:(kS W).length+12=6*W.length
theorem Tr.flat {W:Rows} (T:Tr W):W.length+(Fc.facesS W).length=(Fc.tiesS W).length+2:=((Fc.three_cornered T.nb).mpr ⟨T.three,T.cnt⟩).1
theorem Tr.faces {W:Rows} (T:Tr W):∀ f∈Fc.facesS W,f.length=3:=((Fc.three_cornered T.nb).mpr ⟨T.three,T.cnt⟩).2
theorem Tr.turns {W:Rows} (T:Tr W) {p q k:Nat} (hE:Tri.E W p q) (Y:Turns W p q k):orb W p q k=[(p,q),(q,(nxt W (p,q)).2),((nxt W (p,q)).2,p)]:=by
 have hs:(p,q)∈kS W:=mem_steps.mpr hE;have ne:p≠q:=λ z=>(T.nb.e hE).2.2 z.symm;have t2:=T.three _ hs;have t3:=T.three _ (mem_steps.mpr (kAZ T.nb hE 1):((nxt W (p,q)).1,(nxt W (p,q)).2)∈kS W);have e1:nxt W (p,q)=(q,(nxt W (p,q)).2):=rfl;have e2:nxt W (nxt W (p,q))=((nxt W (p,q)).2,p):=Prod.ext rfl t2;have e3:nxt W (nxt W (nxt W (p,q)))=(p,q):=Prod.ext t2 t3
 have k3:k=3:=by
  rcases Nat.lt_trichotomy k 3 with h | h | h
  ·exfalso
   have b:=Y.back;have:=Y.pos;have:k=1\/k=2:=by omega
   rcases this with rfl | rfl
   ·have b:nxt W (p,q)=(p,q):=b
    have:=congrArg Prod.fst b;exact ne this.symm
   ·have b:nxt W (nxt W (p,q))=(p,q):=b
    rw [e2] at b;exact ne (congrArg Prod.snd b)
  ·exact h
  ·exact absurd e3 (Y.first 3 (by decide) h)
 subst k3;show [(p,q),nxt W (p,q),nxt W (nxt W (p,q))]=_;rw [e2]
 rfl
def aF (T:List (Nat×Nat)):PyData:=.list (T.map λ t=>prD t.1 t.2)
theorem kCW (T:List (Nat×Nat)):PyData.canLayAll0 (T.map λ t=>prD t.1 t.2)=true/\PyData.depthAll (T.map λ t=>prD t.1 t.2)<=1:=by
 induction T with
 | nil=>exact ⟨rfl,by decide⟩
 | cons t T ih =>
  have h1:PyData.canLay0 (prD t.1 t.2)=true:=by simp [prD,PyData.canLay0,PyData.canLayAll0]
  have h2:PyData.depth (prD t.1 t.2)<=1:=by simp [prD,PyData.depth,PyData.depthAll]
  simp only [map_cons,PyData.canLayAll0,PyData.depthAll,h1,ih.1];have:=ih.2;refine ⟨rfl,?_⟩;omega
theorem lV (T:List (Nat×Nat)):SeqAt.shaped (aF T)=true:=by
 obtain ⟨h1,h2⟩:=kCW T;unfold aF SeqAt.shaped;simp only [PyData.canLay0,PyData.depth,h1]
 first | (simp;omega) | (rw [Bool.and_eq_true];exact ⟨rfl,decide_eq_true (by omega)⟩) | simp_all
theorem PairsAt.dt {H:Hp} {s:Addr} {T:List (Nat×Nat)} (h:PairsAt H s T):Dt K H (aF T) (.ref s):=by
 obtain ⟨ss,h1,h2,h3⟩:=h;unfold aF Dt;exact ⟨s,_,rfl,SqL.of h1,rZ h2 h3⟩
theorem tI:∀ (T U:List (Nat×Nat)),PyData.eqv (aF T) (aF U)=decide (T=U):=by
 have go:∀ (T U:List (Nat×Nat)),PyData.eqvAll (T.map λ t=>prD t.1 t.2) (U.map λ t=>prD t.1 t.2)=decide (T=U):=λ T=>by
  induction T with
  | nil=>intro U;cases U<;>simp [PyData.eqvAll]
  | cons t T ih =>
   intro U
   cases U with
   | nil=>simp [PyData.eqvAll]
   | cons u U =>
    rw [map_cons,map_cons,PyData.eqvAll,kAL,ih U,Bool.eq_iff_iff,Bool.and_eq_true,decide_eq_true_iff,decide_eq_true_iff,decide_eq_true_iff];constructor
    ·rintro ⟨⟨h1,h2⟩,rfl⟩
     rw [show t=u from Prod.ext h1 h2]
    ·intro h
     injection h with h1 h2
     exact ⟨⟨congrArg _ h1,congrArg _ h1⟩,h2⟩
 intro T U;unfold aF;rw [PyData.eqv];exact go T U
def nI:Sp:=λ vs H Q _=>∃ (w:Addr) (W:Rows) (a c b:Nat),vs=[.ref w,vn a,vn c,vn b]/\WebAt H w W/\Tr W/\Tri.E W a c/\∀ H',Same H H'->Q (.bl (decide ((nxt W (a,c)).2=b))) H'
theorem oF {f:Addr} {fd:FuncData} (F:Fun K "are_round" "are_round" xX f fd) (jW:Own.Has P w K mg base "steps_round" ["web","step"] 2 (aY)):FnOk P w K mg base CX0 3 f fd ["web","p","q","r"] (nI):=by
 refine F.ok nN (λ vs H Q E h=>?_) (λ cdv A outer s0 H vs Q E hr h=>?_)
 ·obtain ⟨w,W,a,c,b,rfl,_⟩:=h
  rfl
 obtain ⟨w,W,a,c,b,rfl,hW,T,hE,k⟩:=h;refine ⟨_,(kM (kX (vF (tL hr.units) (Own.pe_has jW (hr.mono (by decide)) rfl (kB (pv 0) (kB (qW (kB (pv 1) (kB (pv 2) kD))) kD))) (qS (kB (qW (kB (pv 1) (kB (pv 2) kD))) (kB (qW (kB (pv 2) (kB (pv 3) kD))) (kB (qW (kB (pv 3) (kB (pv 1) kD))) kD)))) (qL _)))),?_⟩;refine ⟨_,rfl,_,rfl,_,rfl,L2.y2,λ z nz=>?_⟩;have gz:=kE nz (.tup [vn a,vn c]);have hz:=kC (H:=H) (a:=z) (o:=.tup [vn a,vn c]);refine ⟨w,z,W,a,c,rfl,hW.kept gz,T.nb,T.le,hz,hE,λ s m H1 g1 Y pr=>?_⟩;rw [T.turns hE Y] at pr;have g01:=gz.trans g1;refine ⟨_,rfl,_,rfl,L2.y2,λ u1 n1=>⟨_,rfl,_,rfl,L2.y2,λ u2 n2=>⟨_,rfl,_,rfl,L2.y2,λ u3 n3=>⟨L2.y3,λ u n4=>?_⟩⟩⟩⟩;have k1:=kE n1 (.tup [vn a,vn c]);have k2:=kE n2 (.tup [vn c,vn b]);have k3:=kE n3 (.tup [vn b,vn a]);have k4:=kE n4 (.lst [.ref u1,.ref u2,.ref u3]);have q1:=k4 _ _ (k3 _ _ (k2 _ _ (kC (H:=H1) (a:=u1) (o:=.tup [vn a,vn c]))));have q2:=k4 _ _ (k3 _ _ (kC (H:=upd H1 u1 (.tup [vn a,vn c])) (a:=u2) (o:=.tup [vn c,vn b])));have q3:=k4 _ _ (kC (H:=upd (upd H1 u1 (.tup [vn a,vn c])) u2 (.tup [vn c,vn b])) (a:=u3) (o:=.tup [vn b,vn a]));have q4:=kC (H:=upd (upd (upd H1 u1 (.tup [vn a,vn c])) u2 (.tup [vn c,vn b])) u3 (.tup [vn b,vn a])) (a:=u) (o:=.lst [.ref u1,.ref u2,.ref u3]);have kk:=k1.trans (k2.trans (k3.trans k4))
 have pu:PairsAt (upd (upd (upd (upd H1 u1 (.tup [vn a,vn c])) u2 (.tup [vn c,vn b])) u3 (.tup [vn b,vn a])) u (.lst [.ref u1,.ref u2,.ref u3])) u [(a,c),(c,b),(b,a)] :=
  ⟨[u1,u2,u3],q4,rfl,λ i d t e1 e2=>by
   match i with
   | 0=>cases e1;cases e2;exact q1
   | 1=>cases e1;cases e2;exact q2
   | 2=>cases e1;cases e2;exact q3
   | i+3=>simp at e1⟩
 refine ⟨_,_,(pr.kept kk).dt,pu.dt,lV _,lV _,?_⟩;rw [if_neg (by decide),tI]
 have e:decide ([(a,c),(c,(nxt W (a,c)).2),((nxt W (a,c)).2,a)]=[(a,c),(c,b),(b,a)])=decide ((nxt W (a,c)).2=b):=by
  rw [Bool.eq_iff_iff,decide_eq_true_iff,decide_eq_true_iff];constructor
  ·intro h
   injection h with _ h
   injection h with h _
   exact congrArg Prod.snd h
  ·intro h
   rw [h]
 rw [e];exact k _ (g01.trans kk)
def aB:Sp:=λ vs H Q _=>∃ (t:Addr) (W:Rows),vs=[.ref t]/\WebAt H t W/\Tr W/\∀ H',Same H H'->Q .non H'
theorem dP {f:Addr} {fd:FuncData} (F:Fun K "must_be_flat" "must_be_flat" jJ f fd) (dA:Own.Has P w K mg base "is_flat" ["web"] 4 (sW)):FnOk P w K mg base CX0 5 f fd ["web"] (aB):=by
 refine F.ok dN (λ vs H Q E h=>?_) (λ cdv A outer s0 H vs Q E hr h=>?_)
 ·obtain ⟨t,W,rfl,_⟩:=h
  rfl
 obtain ⟨t,W,rfl,hW,T,k⟩:=h;refine ⟨_,(kM (xE (uA (vC (Own.pe_has dA (hr.mono (by decide)) rfl (kB (pv 0) kD)))) (kM fD) qQ)),?_⟩;refine ⟨_,rfl,t,W,rfl,hW,T.nb,T.le,λ H1 g1=>⟨_,rfl,?_⟩⟩;rw [decide_eq_true T.flat];exact xI (k H1 g1)
def fP:Sp:=λ vs H Q _=>∃ (t:Addr) (W:Rows),vs=[.ref t]/\WebAt H t W/\Tr W/\∀ H',Same H H'->Q .non H'
theorem aG {f:Addr} {fd:FuncData} (F:Fun K "uncornered_face" "uncornered_face" qU f fd) (uO:Own.Has P w K mg base "faces" ["web"] 3 (dZ)) (z_len:mg "len" = none):FnOk P w K mg base CX0 4 f fd ["web"] (fP):=by
 refine F.ok sc_uncornered_face (λ vs H Q E h=>?_) (λ cdv A outer s0 H vs Q E hr h=>?_)
 ·obtain ⟨t,W,rfl,_⟩:=h
  rfl
 obtain ⟨t,W,rfl,hW,T,k⟩:=h
 refine ⟨_,(kF (fA (i:=1) (Nc:=["face"]) (js:=[none]) rfl rfl sc_uncornered_face.nd rfl (Or.inl rfl) (yC (Own.pe_has uO (hr.mono (by decide)) rfl (kB (pv 0) kD))) (CS.of rfl rfl) rfl (λ C s₂ H₂ fp pins=>(kR (i:=0) (show List.Nodup (α:=Str) ["face"] by decide +kernel) rfl (Or.inl rfl))) (λ C s₂ H₂ fp pins D L=>(yB (qF lY (kP (show yG _ _ (λ xs H Q=>∃ p ys,xs=[.ref p]/\(SqL K H p ys\/SqT K H p ys)/\Q (.int ys.length) H) from kN) rfl z_len PySem.boot_len (kB (pv 0) kD)) kK (qL _)) (jX (pv 0)))))
   (kM (kX (kFP (kFJ (pv 1) (λ _=>rfl)) (qB kY (pv 1) kK (λ _ _=>rfl)) yR)))),?_⟩
 refine ⟨_,rfl,t,W,rfl,hW,T.nb,T.le,λ s H1 g1 ns rt=>?_⟩;obtain ⟨ss,h1,h2,h3⟩:=id rt;refine ⟨s,rfl,⟨_,SqL.of h1⟩,λ D nD=>?_⟩
 refine jZ (xs:=ss.map V.ref) (λ i σ H2=>∃ (x0:Option V),σ=[x0]/\Same H1 H2/\H2 D=some (.lst []))
  ⟨none,rfl,kE nD _,kC⟩ ?_ ?_ ?_
 ·rintro i σ H2 _ ⟨x0,rfl,g2,_⟩
  exact SqL.of (g2 _ _ h1)
 ·rintro i x σ H2 hx ⟨x0,rfl,g2,hD⟩
  rw [List.getElem?_map] at hx;obtain ⟨b,eb,rfl⟩:=Option.map_eq_some_iff.mp hx;have hi:i<(Fc.facesS W).length:=by rw [<-h2];exact (List.getElem?_eq_some_iff.mp eb).1
  have et:=List.getElem?_eq_getElem hi;have hb:=h3 i b _ eb et;have l3:=T.faces _ (getElem_mem hi);refine ⟨_,rfl,b,_,rfl,.inr (SqT.of (g2 _ _ hb)),rfl,_,rfl,?_⟩;rw [length_map,l3];exact xI ⟨_,rfl,g2,hD⟩
 ·rintro σ H2 ⟨x0,rfl,g2,hD⟩
  exact ⟨_,rfl,false,.inl ⟨_,SqL.of hD,rfl⟩,k H2 (g1.trans g2)⟩
def nF:Sp:=λ vs H Q _=>∃ (w z:Addr) (W:Rows) (a b c:Nat),vs=[.ref w,.ref z]/\WebAt H w W/\Tr W/\H z=some (.tup [vn a,vn b,vn c])/\Tri.E W a c/\(nxt W (a,c)).2=b/\∀ H',Same H H'->Q (.bl true) H'
theorem tP {f:Addr} {fd:FuncData} (F:Fun K "is_base" "is_base" zN f fd) (xY:Own.Has P w K mg base "are_whole" ["thing","many"] 2 (nH)) (xZ:Own.Has P w K mg base "are_round" ["web","p","q","r"] 3 (nI)) (z_len:mg "len" = none):FnOk P w K mg base CX0 4 f fd ["web","thing"] (nF):=by
 refine F.ok sc_is_base (λ vs H Q E h=>?_) (λ cdv A outer s0 H vs Q E hr h=>?_)
 ·obtain ⟨w,z,W,a,b,c,rfl,_⟩:=h
  rfl
 obtain ⟨w,z,W,a,b,c,rfl,hW,T,hz,hE,hn,k⟩:=h
 refine ⟨_,(kF (xE (uA (vC (Own.pe_has xY (hr.mono (by decide)) rfl (kB (pv 1) (kB kK kD))))) (kM (kX uW)) qQ)
   (kF (vD (pv 1) (yQ rfl (qC (kR (i:=2) sc_is_base.nd rfl (Or.inl rfl)) (qC (kR (i:=3) sc_is_base.nd rfl (Or.inl rfl)) (qC (kR (i:=4) sc_is_base.nd rfl (Or.inl rfl)) xB)))))
   (kM (kX (gB (kFR kMX pX kK (pv 2) (kP kN rfl z_len PySem.boot_len (kB (pv 0) kD))) (gB (vF zR (pv 4) (qB jC (pv 0) (pv 2) (λ _ _=>rfl)) rfl) (tH (Own.pe_has xZ (hr.mono (by decide)) rfl (kB (pv 0) (kB (pv 2) (kB (pv 4) (kB (pv 3) kD)))))))))))),?_⟩
 refine ⟨_,rfl,z,[a,b,c],rfl,hz,(by show 3<=1000;decide),λ H1 g1=>⟨_,rfl,xI ?_⟩⟩;have hz1:=g1 _ _ hz;have W1:=hW.kept g1;obtain ⟨ts,h1,lts,h3⟩:=W1.at;obtain ⟨row,er,m⟩:=id hE;obtain ⟨b',e1,e2⟩:=h3 a row er;have la:=(T.nb.e hE).1;refine ⟨_,rfl,z,_,rfl,SqT.of hz1,rfl,_,_,rfl,_,_,rfl,_,_,rfl,rfl,?_⟩;refine ⟨_,rfl,_,_,rfl,rfl,_,rfl,?_⟩;rw [decide_eq_true (show (0:Int)<=(a:Int) by omega)];refine wJ ⟨_,rfl,w,_,rfl,.inr (SqT.of h1),_,_,rfl,rfl,_,rfl,?_⟩;rw [decide_eq_true (show (a:Int)<(((ts.map V.ref).length:Nat):Int) by rw [length_map,lts];omega)];refine wJ ⟨_,rfl,_,rfl,_,rfl,w,_,_,_,rfl,rfl,SqT.of h1,e1,b',_,rfl,.inr (SqT.of e2),rfl,wX _,_,rfl,?_⟩;rw [uN,decide_eq_true m];refine wJ ⟨_,rfl,_,rfl,_,rfl,_,rfl,w,W,a,c,b,rfl,W1,T,hE,λ H2 g2=>?_⟩;rw [decide_eq_true hn];exact k _ (g1.trans g2)
def zU:Sp:=λ vs H Q _=>∃ (w z:Addr) (W:Rows) (a b c:Nat),vs=[.ref w,.ref z]/\WebAt H w W/\Tr W/\H z=some (.tup [vn a,vn b,vn c])/\Tri.E W a c/\(nxt W (a,c)).2=b/\∀ H',Same H H'->Q .non H'
theorem bE {f:Addr} {fd:FuncData} (F:Fun K "must_have_base" "must_have_base" jA f fd) (zY:Own.Has P w K mg base "must_be_flat" ["web"] 5 (aB)) (yD:Own.Has P w K mg base "uncornered_face" ["web"] 4 (fP)) (dB:Own.Has P w K mg base "is_base" ["web","thing"] 4 (nF)):FnOk P w K mg base CX0 6 f fd ["web","base"] (zU):=by
 refine F.ok sc_must_have_base (λ vs H Q E h=>?_) (λ cdv A outer s0 H vs Q E hr h=>?_)
 ·obtain ⟨w,z,W,a,b,c,rfl,_⟩:=h
  rfl
 obtain ⟨w,z,W,a,b,c,rfl,hW,T,hz,hE,hn,k⟩:=h
 refine ⟨_,(kF (jE (Own.pe_has zY (hr.mono (by decide)) rfl (kB (pv 0) kD)))
   (kF (kT (i:=2) sc_must_have_base.nd rfl (Or.inl rfl) (Own.pe_has yD (hr.mono (by decide)) rfl (kB (pv 0) kD)))
   (kF (xE (qF kAQ (pv 2) yR (qL _)) (kM fD) qQ)
   (kM (xE (uA (vC (Own.pe_has dB (hr.mono (by decide)) rfl (kB (pv 0) (kB (pv 1) kD))))) (kM fD) qQ))))),?_⟩
 refine ⟨_,rfl,w,W,rfl,hW,T,λ H1 g1=>?_⟩;refine ⟨_,rfl,w,W,rfl,hW.kept g1,T,λ H2 g2=>?_⟩;refine ⟨_,rfl,rfl,_,rfl,xI ?_⟩;refine ⟨_,rfl,_,rfl,w,z,W,a,b,c,rfl,(hW.kept g1).kept g2,T,g2 _ _ (g1 _ _ hz),hE,hn,λ H3 g3=>⟨_,rfl,xI ?_⟩⟩;exact k H3 (g1.trans (g2.trans g3))
theorem kBX {k1 k2:Bool} {K:PySem.W.Frag} {a b:Addr} {xs ys:List V} {g:TG} {bd:TB} {N0:St->Hp->Prop} {σ:St} {H:Hp} (Pv:Nat->St->Hp->Prop) (hxy:ys.length<xs.length) (h0:Pv 0 σ H)
  (hl:∀ i σ H,i<=ys.length->Pv i σ H->SqX K k1 H a xs/\SqX K k2 H b ys)
  (hs:∀ i x y T σ H,xs[i]?=some x->ys[i]?=some y->H T=none->Pv i σ H->g (.ref T) σ (upd H T (.tup [x,y])) λ σ2 H2=>bd (Pv (i+1)) σ2 H2) (hd:∀ σ H,Pv ys.length σ H->N0 σ H):uU (kMD k1 k2 K a b) g bd N0 σ H:=by
 refine ⟨λ i m σ H=>m=ys.length-i/\i<=ys.length/\Pv i σ H,⟨ys.length,by simp,Nat.zero_le _,h0⟩,?_⟩;rintro i m σ H ⟨rfl,hle,p⟩;obtain ⟨q1,q2⟩:=hl i σ H hle p;rcases Nat.lt_or_ge i ys.length with hi | hi
 ·refine .inr ⟨⟨xs,ys,xs[i]'(by omega),ys[i],q1,q2,by simp [show i<xs.length by omega],by simp [hi]⟩,Pv (i+1),λ σ' H' q=>⟨ys.length-(i+1),by omega,rfl,by omega,q⟩,λ x H' hy=>?_⟩
  obtain ⟨T,x1,x2,nT,rfl,e1,e2,rfl⟩:=hy;exact hs i x1 x2 T σ H (e1 xs q1) (e2 ys q2) nT p
 ·obtain rfl:i=ys.length:=by omega
  exact .inl ⟨⟨xs,ys,xs[ys.length]'(by omega),q1,q2,by simp [hxy],rfl⟩,hd σ H p⟩
def zF (ns:List Nat):PyData:=.list (ns.map λ n:Nat=>PyData.int (n:Int))
def wO (ns:List Nat):PyData:=.tuple (ns.map λ n:Nat=>PyData.int (n:Int))
theorem mF (T:List Nat):PyData.canLayAll0 (T.map λ n:Nat=>PyData.int (n:Int))=true/\PyData.depthAll (T.map λ n:Nat=>PyData.int (n:Int))<=1:=by
 induction T with
 | nil=>exact ⟨rfl,by decide⟩
 | cons t T ih =>
  simp only [map_cons,PyData.canLayAll0,PyData.depthAll,PyData.canLay0,PyData.depth,ih.1];have:=ih.2;refine ⟨rfl,?_⟩;omega
theorem wV (T:List Nat):SeqAt.shaped (zF T)=true:=by
 obtain ⟨h1,h2⟩:=mF T;unfold zF SeqAt.shaped;simp only [PyData.canLay0,PyData.depth,h1]
 first | (simp;omega) | (rw [Bool.and_eq_true];exact ⟨rfl,decide_eq_true (by omega)⟩) | simp_all
theorem yX (T:List Nat):SeqAt.shaped (wO T)=true:=by
 obtain ⟨h1,h2⟩:=mF T;unfold wO SeqAt.shaped;simp only [PyData.canLay0,PyData.depth,h1]
 first | (simp;omega) | (rw [Bool.and_eq_true];exact ⟨rfl,decide_eq_true (by omega)⟩) | simp_all
theorem mC (T:List Nat):PyData.eqv (zF T) (zF T)=true:=by
 unfold zF;rw [PyData.eqv];exact gL T
theorem aT (T:List Nat):PyData.eqv (wO T) (wO T)=true:=by
 unfold wO;rw [PyData.eqv];exact gL T
theorem uP {H:Hp} {s:Addr} {T:List Nat} (h:H s=some (.lst (T.map vn))):Dt K H (zF T) (.ref s):=by
 unfold zF Dt;exact ⟨s,_,rfl,SqL.of h,oT T⟩
theorem wL {H:Hp} {s:Addr} {T:List Nat} (h:H s=some (.tup (T.map vn))):Dt K H (wO T) (.ref s):=by
 unfold wO Dt;exact ⟨s,_,rfl,SqT.of h,oT T⟩
theorem aZ {ms:List Nat} {n:Nat} (h:ms.Perm (List.range n)) {ns':List Int} (p:ns'.Perm (ms.map ci)) (s:ns'.Pairwise (·<=·)):ns'=(List.range n).map ci:=by
 have p2:ns'.Perm ((List.range n).map ci):=p.trans (h.map ci)
 have s2:((List.range n).map ci).Pairwise (·<=·):=by
  rw [pairwise_map];refine List.pairwise_lt_range.imp λ {a b} h=>?_;show (a:Int)<=b;omega
 exact p2.eq_of_pairwise (λ a b _ _ h1 h2=>Int.le_antisymm h1 h2) s s2
theorem tV (T U:List Nat):PyData.eqv (zF T) (zF U)=decide (T=U):=by
 have go:∀ (T U:List Nat),PyData.eqvAll (T.map λ n:Nat=>PyData.int (n:Int)) (U.map λ n:Nat=>PyData.int (n:Int))=decide (T=U):=λ T=>by
  induction T with
  | nil=>intro U;cases U<;>simp [PyData.eqvAll]
  | cons t T ih =>
   intro U
   cases U with
   | nil=>simp [PyData.eqvAll]
   | cons u U =>
    rw [map_cons,map_cons,PyData.eqvAll,ih U,Bool.eq_iff_iff,Bool.and_eq_true,decide_eq_true_iff,decide_eq_true_iff]
    have e:PyData.eqv (PyData.int (t:Int)) (PyData.int (u:Int))=true↔t=u:=by
     simp only [PyData.eqv,beq_iff_eq];omega
    rw [e];constructor
    ·rintro ⟨h1,h2⟩
     rw [h1,h2]
    ·intro h
     injection h with h1 h2
     exact ⟨h1,h2⟩
 unfold zF;rw [PyData.eqv];exact go T U
theorem kCG (T U:List Nat):PyData.eqv (wO T) (wO U)=decide (T=U):=by
 have go:∀ (T U:List Nat),PyData.eqvAll (T.map λ n:Nat=>PyData.int (n:Int)) (U.map λ n:Nat=>PyData.int (n:Int))=decide (T=U):=λ T=>by
  induction T with
  | nil=>intro U;cases U<;>simp [PyData.eqvAll]
  | cons t T ih =>
   intro U
   cases U with
   | nil=>simp [PyData.eqvAll]
   | cons u U =>
    rw [map_cons,map_cons,PyData.eqvAll,ih U,Bool.eq_iff_iff,Bool.and_eq_true,decide_eq_true_iff,decide_eq_true_iff]
    have e:PyData.eqv (PyData.int (t:Int)) (PyData.int (u:Int))=true↔t=u:=by
     simp only [PyData.eqv,beq_iff_eq];omega
    rw [e];constructor
    ·rintro ⟨h1,h2⟩
     rw [h1,h2]
    ·intro h
     injection h with h1 h2
     exact ⟨h1,h2⟩
 unfold wO;rw [PyData.eqv];exact go T U
def cG:Sp:=λ vs H Q _=>∃ (w z o:Addr) (W:Rows) (a b c:Nat) (ms:List Nat),vs=[.ref w,.ref z,.ref o]/\WebAt H w W/\W.length<=42/\H z=some (.tup [vn a,vn b,vn c])/\H o=some (.tup (ms.map vn))/\ms.Perm (List.range W.length) /\
 3<=W.length/\∀ H',Same H H'->Q (.bl (decide (ms[0]?=some a/\ms[1]?=some b/\ms.getLast?=some c))) H'
theorem rE {f:Addr} {fd:FuncData} (F:Fun K "has_ends" "has_ends" yP f fd) (xY:Own.Has P w K mg base "are_whole" ["thing","many"] 2 (nH)) (z_sorted:mg "sorted" = none) (z_list:mg "list" = none) (z_range:mg "range" = none) (z_len:mg "len" = none):FnOk P w K mg base CX0 3 f fd ["web","base","thing"] (cG):=by
 refine F.ok sc_has_ends (λ vs H Q E h=>?_) (λ cdv A outer s0 H vs Q E hr h=>?_)
 ·obtain ⟨w,z,o,W,a,b,c,ms,rfl,_⟩:=h
  rfl
 obtain ⟨w,z,o,W,a,b,c,ms,rfl,hW,h42,hz,ho,hp,l3,k⟩:=h
 refine ⟨_,(kF (xE (PW.pt (uV (uA (vC (Own.pe_has xY (hr.mono (by decide)) rfl (kB (pv 2) (kB (kP kN rfl z_len PySem.boot_len (kB (pv 0) kD)) kD))))) (aE (qF (vG hr.units) (kP hG rfl z_sorted PyProof.Rows.boot_sorted (kB (pv 2) kD)) (kAO rfl rfl z_list rfl z_range (kB (kP kN rfl z_len PySem.boot_len (kB (pv 0) kD)) kD)) (qL _))))) (kM (kX uW)) qQ)
   (kF (vD (pv 1) (yQ rfl (qC (kR (i:=3) sc_has_ends.nd rfl (Or.inl rfl)) (qC (kR (i:=4) sc_has_ends.nd rfl (Or.inl rfl)) (qC (kR (i:=5) sc_has_ends.nd rfl (Or.inl rfl)) xB)))))
   (kM (kX (vF (tL hr.units) (qW (kB (qB jC (pv 2) kK (λ _ _=>rfl)) (kB (qB jC (pv 2) kK (λ _ _=>rfl)) (kB (qB jC (pv 2) (wU yH kK) (λ _ _=>rfl)) kD)))) (qW (kB (pv 3) (kB (pv 4) (kB (pv 5) kD)))) (qL _)))))),?_⟩
 have lm:ms.length=W.length:=by rw [hp.length_eq,length_range]
 obtain ⟨ts,h1,lts,h3⟩:=id hW;refine ⟨_,rfl,_,rfl,w,_,rfl,.inr (SqT.of h1),o,ms,(by rw [length_map,lts,lm];rfl),ho,(by omega),λ H1 g1=>⟨_,rfl,xI ?_⟩⟩;refine ⟨_,rfl,o,ms.map ci,rfl,.inr (SqT.of (by rw [g1 _ _ ho,xF])),λ l ns' nl pm sr=>?_⟩;rw [aZ hp pm sr];have gl:=kE nl (.lst (((List.range W.length).map ci).map V.int));have hl:=kC (H:=H1) (a:=l) (o:=.lst (((List.range W.length).map ci).map V.int));refine ⟨_,rfl,w,_,rfl,.inr (SqT.of (gl _ _ (g1 _ _ h1))),W.length,(by rw [length_map,lts]),(by omega),λ l2 n2=>?_⟩;rw [if_neg Bool.false_ne_true];have g2:=kE n2 (.lst (wW W.length));have hl2:=kC (H:=upd H1 l (.lst (((List.range W.length).map ci).map V.int))) (a:=l2) (o:=.lst (wW W.length));have gg:=g1.trans (gl.trans g2);refine ⟨zF (List.range W.length),zF (List.range W.length),uP (by rw [xF];exact g2 _ _ hl),uP hl2,wV _,wV _,_,rfl,?_⟩;rw [mC];refine xI ?_;have hz2:=gg _ _ hz;have ho2:=gg _ _ ho;generalize upd (upd H1 l (.lst (((List.range W.length).map ci).map V.int))) l2 (.lst (wW W.length))=H2 at *;refine ⟨_,rfl,z,_,rfl,SqT.of hz2,rfl,_,_,rfl,_,_,rfl,_,_,rfl,rfl,?_⟩;obtain ⟨x,hx⟩ : ∃ x,ms[0]?=some x:=⟨_,List.getElem?_eq_getElem (by omega)⟩;obtain ⟨y,hy⟩ : ∃ y,ms[1]?=some y:=⟨_,List.getElem?_eq_getElem (by omega)⟩;have ne:ms≠[]:=λ z=>by rw [z] at lm;simp at lm;omega
 obtain ⟨v,hv⟩ : ∃ v,ms.getLast?=some v:=⟨_,List.getLast?_eq_some_getLast ne⟩;have e0:atI (ms.map vn) 0=some (vn x):=qV (j:=0) (by rw [List.getElem?_map,hx];rfl);have e1:atI (ms.map vn) 1=some (vn y):=qV (j:=1) (by rw [List.getElem?_map,hy];rfl)
 have e2:atI (ms.map vn) (-1)=some (vn v):=by
  have em:ms=ms.dropLast++[v]:=by
   have hv:=hv;rw [List.getLast?_eq_some_getLast ne] at hv;rw [<-Option.some.inj hv];exact (dropLast_concat_getLast ne).symm
  rw [em,map_append];exact yF _ _
 refine ⟨_,rfl,o,_,_,_,rfl,rfl,SqT.of ho2,e0,_,rfl,o,_,_,_,rfl,rfl,SqT.of ho2,e1,_,rfl,_,rfl,o,_,_,_,rfl,rfl,SqT.of ho2,e2,L2.y3,λ u1 m1=>?_⟩;have j1:=kE m1 (.tup [vn x,vn y,vn v]);refine ⟨_,rfl,_,rfl,_,rfl,L2.y3,λ u2 m2=>?_⟩;have j2:=kE m2 (.tup [vn a,vn b,vn c]);refine ⟨wO [x,y,v],wO [a,b,c],wL (j2 _ _ kC),wL kC,yX _,yX _,?_⟩;rw [if_neg (by decide),kCG]
 have ee:decide ([x,y,v]=[a,b,c])=decide (ms[0]?=some a/\ms[1]?=some b/\ms.getLast?=some c):=by
  rw [Bool.eq_iff_iff,decide_eq_true_iff,decide_eq_true_iff,hx,hy,hv];simp
 rw [ee];exact k _ (gg.trans (j1.trans j2))
theorem sJ {l r:List Nat} {x y:Nat} (h:Adj l x y):Adj (l++r) x y:=by
 match l,h with
 | a::b::l,h =>
  rcases h with z | z
  ·exact .inl z
  ·exact .inr (sJ (l:=b::l) z)
theorem mU {l r:List Nat} {x y:Nat} (h:Adj r x y):Adj (l++r) x y:=by
 induction l with
 | nil=>exact h
 | cons a l ih =>
  cases e:l++r with
  | nil=>rw [e] at ih;exact absurd ih id
  | cons b s =>
   rw [cons_append,e];rw [e] at ih;exact Or.inr ih
theorem kJN (xs:List V) (b c:Nat) (h:b<=xs.length):jO xs (some (b:Int)) (some (c:Int))=(xs.drop b).take (c-b):=by
 unfold jO;rw [HT.sIx_nat,HT.sIx_nat,Nat.min_eq_left h,List.take_eq_take_iff,length_drop];omega
def cC:Sp:=λ vs H Q _=>∃ (w tp ah:Addr) (W:Rows) (top ahead:List Nat) (pl:Nat),vs=[.ref w,.ref tp,.ref ah,vn pl]/\WebAt H w W/\Tr W/\H tp=some (.lst (top.map vn))/\H ah=some (.tup (ahead.map vn))/\top.length<=42/\ahead.length<=42/\pl<W.length /\
 top.Nodup/\(∀ x y,Adj top x y->Tri.E W x y)/\(stF W top ahead pl=none->∀ H',Same H H'->Q .non H')/\∀ (st:List Nat),stF W top ahead pl=some st->∀ (s:Addr) (H':Hp),Same H H'->H s=none->H' s=some (.lst (st.map vn))->Q (.ref s) H'
theorem cN {f:Addr} {fd:FuncData} (F:Fun K "stretch_under" "stretch_under" jG f fd) (xZ:Own.Has P w K mg base "are_round" ["web","p","q","r"] 3 (nI)) (z_len:mg "len" = none) (z_all:mg "all" = none) (z_zip:mg "zip" = none):FnOk P w K mg base CX0 4 f fd ["web","top","ahead","place"] (cC):=by
 refine F.ok sc_stretch_under (λ vs H Q E h=>?_) (λ cdv A outer s0 H vs Q E hr h=>?_)
 ·obtain ⟨w,tp,ah,W,top,ahead,pl,rfl,_⟩:=h
  rfl
 obtain ⟨w,tp,ah,W,top,ahead,pl,rfl,hW,T,htp,hah,l1,l2,lp,tnd,hA,kn,k⟩:=h
 refine ⟨_,(kF (kT (i:=4) sc_stretch_under.nd rfl (Or.inr rfl) (xL (Nc:=["q","web","place"]) (js:=[none,some 0,some 3]) rfl rfl (cL (pv 2)) (CS.of rfl rfl) rfl (λ C s₂ H₂ fp pins=>(kR (i:=0) (show List.Nodup (α:=Str) ["q","web","place"] by decide +kernel) rfl (Or.inl rfl))) (λ C s₂ H₂ fp pins D L=>(yB (qF (show OpR _ _ (rIn K false) from zR) (pv 0) (qB (show IxR _ (kHZ K) from jC) (pv 1) (pv 2) (λ _ _=>rfl)) rfl) (jX (pv 0))))))
   (kF (fA (i:=5) (Nc:=["q","below"]) (js:=[none,some 4]) rfl rfl sc_stretch_under.nd rfl (Or.inl rfl) (yC (pv 1)) (CS.of rfl rfl) rfl (λ C s₂ H₂ fp pins=>(kR (i:=0) (show List.Nodup (α:=Str) ["q","below"] by decide +kernel) rfl (Or.inl rfl))) (λ C s₂ H₂ fp pins D L=>(yB (qF (show OpR _ _ (rIn K false) from zR) (pv 0) (pv 1) rfl) (jX (pv 0)))))
   (kF (xE (PW.pt (uV (qF pX (kP kN rfl z_len PySem.boot_len (kB (pv 5) kD)) kK (qL _)) (aE (qF lY (kP kN rfl z_len PySem.boot_len (kB (pv 5) kD)) (kP kN rfl z_len PySem.boot_len (kB (pv 4) kD)) (qL _))))) (kM (kX yR)) qQ)
   (kF (kT (i:=6) sc_stretch_under.nd rfl (Or.inl rfl) (jS PySem.F.plainAttrs_list PySem.F.slot_list_index PySem.F.type_list_index zX (pv 1) (kB (qB kY (pv 5) kK (λ _ _=>rfl)) kD)))
   (kF (xE (qF (vG hr.units) (qH jD (pv 1) (qG (pv 6)) (qG (kZ qX (pv 6) (kP kN rfl z_len PySem.boot_len (kB (pv 5) kD))))) (pv 5) (qL _)) (kM (kX yR)) qQ)
   (kF (xE (uA (vC (kP (dE rfl) rfl z_all PyProof.Rows.boot_all (kB (xL (Nc:=["x","y","web","place"]) (js:=[none,none,some 0,some 3]) rfl rfl (kIG true true rfl z_zip (kB (pv 5) (kB (qH jD (pv 5) (qG kK) qR) kD))) (CS.of rfl rfl) rfl (λ C s₂ H₂ fp pins=>(show PG _ _ (kGP K 2 _) from yQ rfl (qC (kR (i:=0) (show List.Nodup (α:=Str) ["x","y","web","place"] by decide +kernel) rfl (Or.inl rfl)) (qC (kR (i:=1) (show List.Nodup (α:=Str) ["x","y","web","place"] by decide +kernel) rfl (Or.inl rfl)) xB)))) (λ C s₂ H₂ fp pins D L=>(xK (jX (Own.pe_has xZ (hr.mono (by decide)) rfl (kB (pv 2) (kB (pv 0) (kB (pv 1) (kB (pv 3) kD))))))))) kD)))) (kM (kX yR)) qQ)
   (kM (kX (pv 5))))))))),?_⟩
 have erow:W.getD pl []=W[pl]:=by rw [getD_eq_getElem?_getD,List.getElem?_eq_getElem lp];rfl
 unfold stF at kn k;dsimp only at kn k;rw [erow] at kn k;obtain ⟨ts,h1,lts,h3⟩:=hW.at;obtain ⟨b',e1,e2⟩:=h3 pl W[pl] (List.getElem?_eq_getElem lp);refine ⟨_,rfl,ah,rfl,⟨_,SqT.of hah⟩,λ D nD=>?_⟩
 refine wN (xs:=ahead.map vn) (λ i σ H2=>∃ (x0:Option V),σ=[x0,some (.ref w),some (vn pl)]/\Same H H2/\H2 D=some (.lst (((ahead.take i).filter λ q=>decide (q∈W[pl])).map vn)))
  ⟨none,rfl,kE nD _,kC⟩ ?_ ?_ ?_
 ·rintro i σ H2 _ ⟨x0,rfl,g2,_⟩
  exact SqT.of (g2 _ _ hah)
 ·rintro i x σ H2 hx ⟨x0,rfl,g2,hD⟩
  rw [List.getElem?_map] at hx;obtain ⟨q,eq',rfl⟩:=Option.map_eq_some_iff.mp hx;have tk:ahead.take (i+1)=ahead.take i++[q]:=by rw [take_succ,eq'];rfl
  refine ⟨_,rfl,_,rfl,_,rfl,w,_,_,_,rfl,rfl,SqT.of (g2 _ _ h1),e1,b',_,rfl,.inr (SqT.of (g2 _ _ e2)),rfl,wX _,_,rfl,?_⟩;rw [uN,tk,filter_append];have lf:=length_filter_le (λ q=>decide (q∈W[pl])) (ahead.take i);rw [length_take] at lf;refine oI (λ c=>?_) (λ c=>?_)
  ·refine ⟨_,rfl,_,hD,(by rw [length_map];exact kQ (by omega)),?_⟩
   refine ⟨_,rfl,qP nD g2,?_⟩;rw [filter_cons_of_pos (p:=λ q=>decide (q∈W[pl])) (show decide (q∈W[pl])=true from c),map_append];exact kC
  ·rw [filter_cons_of_neg (p:=λ q=>decide (q∈W[pl])) (show ¬ decide (q∈W[pl])=true from c),filter_nil,append_nil]
   exact ⟨_,rfl,g2,hD⟩
 rintro σ H2 ⟨x0,rfl,g2,hD⟩;rw [length_map,take_length] at hD;have htp2:=g2 _ _ htp;have lb:=length_filter_le (λ q=>decide (q∈W[pl])) ahead;generalize ahead.filter (λ q=>decide (q∈W[pl]))=bl at *;refine ⟨_,rfl,tp,rfl,⟨_,SqL.of htp2⟩,λ D2 nD2=>?_⟩
 refine jZ (xs:=top.map vn) (λ i σ H3=>∃ (x0:Option V),σ=[x0,some (.ref D)]/\Same H2 H3/\H3 D2=some (.lst (((top.take i).filter λ q=>decide (q∈bl)).map vn)))
  ⟨none,rfl,kE nD2 _,kC⟩ ?_ ?_ ?_
 ·rintro i σ H3 _ ⟨x0,rfl,g3,_⟩
  exact SqL.of (g3 _ _ htp2)
 ·rintro i x σ H3 hx ⟨x0,rfl,g3,hD2⟩
  rw [List.getElem?_map] at hx;obtain ⟨q,eq',rfl⟩:=Option.map_eq_some_iff.mp hx;have tk:top.take (i+1)=top.take i++[q]:=by rw [take_succ,eq'];rfl
  refine ⟨_,rfl,_,rfl,D,_,rfl,.inl (SqL.of (g3 _ _ hD)),rfl,wX _,_,rfl,?_⟩;rw [uN,tk,filter_append];have lf:=length_filter_le (λ q=>decide (q∈bl)) (top.take i);rw [length_take] at lf;refine oI (λ c=>?_) (λ c=>?_)
  ·refine ⟨_,rfl,_,hD2,(by rw [length_map];exact kQ (by omega)),?_⟩
   refine ⟨_,rfl,qP nD2 g3,?_⟩;rw [filter_cons_of_pos (p:=λ q=>decide (q∈bl)) (show decide (q∈bl)=true from c),map_append];exact kC
  ·rw [filter_cons_of_neg (p:=λ q=>decide (q∈bl)) (show ¬ decide (q∈bl)=true from c),filter_nil,append_nil]
   exact ⟨_,rfl,g3,hD2⟩
 rintro σ H3 ⟨x0,rfl,g3,hD2⟩;rw [length_map,take_length] at hD2;have lst0:=length_filter_le (λ q=>decide (q∈bl)) top;have sub0:∀ q∈top.filter (λ q=>decide (q∈bl)),q∈top:=λ q hq=>(mem_filter.mp hq).1;generalize top.filter (λ q=>decide (q∈bl))=st at *;have g03:=g2.trans g3;have hD3:=g3 _ _ hD;have htp3:=g3 _ _ htp2;have W3:=hW.kept g03;have lst:((st.map vn).length:Int)=st.length:=by rw [length_map]
 have lbl:((bl.map vn).length:Int)=bl.length:=by rw [length_map]
 have ls:st.length<=42:=by omega
 refine ⟨_,rfl,D2,_,rfl,.inl (SqL.of hD2),_,_,rfl,rfl,_,rfl,?_⟩;rw [lst];by_cases c1:st.length<2
 ·rw [decide_eq_true (show ((st.length:Int)<2) by omega)]
  exact wJ (kn (by rw [if_pos (.inl c1)]) _ g03)
 rw [decide_eq_false (show ¬ ((st.length:Int)<2) by omega)];refine xI ⟨_,rfl,D2,_,rfl,.inl (SqL.of hD2),_,rfl,D,_,rfl,.inl (SqL.of hD3),rfl,_,rfl,?_⟩;rw [lst,lbl];by_cases c2:st.length=bl.length
 case neg =>
  rw [decide_eq_false (show ¬ (V.int (st.length:Int)=V.int (bl.length:Int)) from λ z=>c2 (by have:=V.int.inj z;omega))];exact wJ (kn (by rw [if_pos (.inr c2)]) _ g03)
 rw [c2,decide_eq_true (rfl:V.int ((bl.length:Nat):Int)=V.int ((bl.length:Nat):Int))];refine xI ?_;rw [if_neg (by omega)] at kn k
 obtain ⟨s0',rest,est⟩ : ∃ a r,st=a::r:=by
  match st,c1 with
  | a::r,_=>exact ⟨a,r,rfl⟩
  | [],c1=>exact absurd (show ([]:List Nat).length<2 by decide) c1
 have hd0:st.headD 0=s0':=by rw [est];rfl
 have at0':atI (st.map vn) 0=some (vn s0'):=by rw [est];exact qV (j:=0) rfl
 have m0:s0'∈top:=sub0 s0' (by rw [est];exact mem_cons_self ..);have il:=idxOf_lt_length_of_mem m0;refine ⟨_,rfl,.inl ⟨rfl,_,SqL.of htp3⟩,_,rfl,D2,_,_,_,rfl,rfl,SqL.of hD2,at0',tp,top.map ci,s0',top.idxOf s0',rfl,rfl,(by rw [htp3,xF]),qT m0,?_⟩;refine ⟨_,rfl,_,rfl,_,rfl,_,rfl,_,rfl,D2,_,rfl,.inl (SqL.of hD2),_,_,rfl,rfl,_,rfl,tp,_,rfl,SqL.of htp3,λ p np=>?_⟩;rw [hd0] at kn k
 have ecut:jO (top.map vn) (some ((top.idxOf s0':Nat):Int)) (some (((top.idxOf s0':Nat):Int)+(((st.map vn).length:Nat):Int)))=((top.drop (top.idxOf s0')).take st.length).map vn:=by
  rw [lst,show (((top.idxOf s0':Nat):Int)+(st.length:Int))=((top.idxOf s0'+st.length:Nat):Int) by omega,kJN _ _ _ (by rw [length_map];omega),map_take,map_drop,show top.idxOf s0'+st.length-top.idxOf s0'=st.length by omega]
 rw [ecut];have gp:=kE np (.lst (((top.drop (top.idxOf s0')).take st.length).map vn));have hp:=kC (H:=H3) (a:=p) (o:=.lst (((top.drop (top.idxOf s0')).take st.length).map vn));refine ⟨_,rfl,zF ((top.drop (top.idxOf s0')).take st.length),zF st,uP hp,uP (gp _ _ hD2),wV _,wV _,_,rfl,?_⟩;rw [tV];by_cases c3:(top.drop (top.idxOf s0')).take st.length=st
 case neg =>
  rw [decide_eq_false c3];exact wJ (kn (by rw [if_pos c3]) _ (g03.trans gp))
 rw [decide_eq_true c3];rw [if_neg (λ z=>z c3)] at kn k;refine xI ?_;have hD24:=gp _ _ hD2;have W4:=W3.kept gp;have g04:=g03.trans gp;have nD20:H D2=none:=g2.free nD2;generalize upd H3 p (.lst (((top.drop (top.idxOf s0')).take st.length).map vn))=H4 at *
 have hE:∀ t∈st.zip st.tail,Tri.E W t.1 t.2:=λ t ht=>by
  obtain ⟨x,y⟩:=t;have ad:=dS ht
  have et:top=top.take (top.idxOf s0')++(st++(top.drop (top.idxOf s0')).drop st.length):=by
   have e2:top.drop (top.idxOf s0')=st++(top.drop (top.idxOf s0')).drop st.length:=by
    conv=>lhs;rw [<-take_append_drop st.length (top.drop (top.idxOf s0')),c3]
   rw [<-e2,take_append_drop]
  refine hA x y ?_;rw [et];have a1:Adj (st++(top.drop (top.idxOf s0')).drop st.length) x y:=sJ ad;exact mU a1
 have tl:(st.map vn).tail=st.tail.map vn:=by rw [List.map_tail]
 have c1:jO (st.map vn) (some 1) none=st.tail.map vn:=by
  rw [show (1:Int)=((1:Nat):Int) from rfl,zB _ (by rw [length_map];omega),List.drop_one,tl]
 refine ⟨_,rfl,_,rfl,_,rfl,D2,_,rfl,SqL.of hD24,λ D3 nD3=>?_⟩;rw [c1];have g5:=kE nD3 (.lst (st.tail.map vn));have hD3':=kC (H:=H4) (a:=D3) (o:=.lst (st.tail.map vn));have hD25:=g5 _ _ hD24;have W5:=W4.kept g5;have g05:=g04.trans g5;generalize upd H4 D3 (.lst (st.tail.map vn))=H5 at *;refine ⟨D2,D3,rfl,⟨_,SqL.of hD25⟩,⟨_,SqL.of hD3'⟩,λ D4 nD4=>?_⟩
 refine kBX (xs:=st.map vn) (ys:=st.tail.map vn) (λ i σ H6=>∃ (x0 x1:Option V),σ=[x0,x1,some (.ref w),some (vn pl)]/\Same H5 H6/\H6 D4=some (.lst ((((st.zip st.tail).take i).map λ t=>decide ((nxt W t).2=pl)).map V.bl))) (by rw [length_map,length_map,List.length_tail];omega)
  ⟨none,none,rfl,kE nD4 _,kC⟩ ?_ ?_ ?_
 ·rintro i σ H6 _ ⟨x0,x1,rfl,g6,_⟩
  exact ⟨SqL.of (g6 _ _ hD25),SqL.of (g6 _ _ hD3')⟩
 ·rintro i x y T' σ H6 hx hy nT ⟨x0,x1,rfl,g6,hD4⟩
  rw [List.getElem?_map] at hx hy;obtain ⟨a,ea,rfl⟩:=Option.map_eq_some_iff.mp hx;obtain ⟨b,eb,rfl⟩:=Option.map_eq_some_iff.mp hy
  have mz:(a,b)∈st.zip st.tail:=by
   refine mem_of_getElem? (i:=i) ?_;rw [List.getElem?_zip_eq_some];exact ⟨ea,eb⟩
  have li:=(List.getElem?_eq_some_iff.mp ea).1;have gT:=kE nT (.tup [vn a,vn b]);have hT:=kC (H:=H6) (a:=T') (o:=.tup [vn a,vn b]);have W7:=(W5.kept g6).kept gT;have g7:=g6.trans gT;have hD47:=gT _ _ hD4;generalize upd H6 T' (.tup [vn a,vn b])=H7 at *;refine ⟨T',_,rfl,SqT.of hT,rfl,_,_,rfl,_,_,rfl,rfl,?_⟩;refine ⟨_,rfl,_,rfl,_,rfl,_,rfl,w,W,a,b,pl,rfl,W7,T,hE _ mz,λ H8 g8=>?_⟩
  have tkz:(st.zip st.tail).take (i+1)=(st.zip st.tail).take i++[(a,b)]:=by
   have:(st.zip st.tail)[i]?=some (a,b):=by rw [List.getElem?_zip_eq_some];exact ⟨ea,eb⟩
   rw [take_succ,this]
   rfl
  refine ⟨_,g8 _ _ hD47,(by rw [length_map,length_map,length_take];exact kQ (by omega)),?_⟩;refine ⟨_,_,rfl,qP nD4 (g7.trans g8),?_⟩;rw [tkz,map_append,map_append];exact kC
 ·rintro σ H6 ⟨x0,x1,rfl,g6,hD4⟩
  refine ⟨D4,_,rfl,SqL.of hD4,?_⟩
  have ez:(st.zip st.tail).take (st.tail.map vn).length=st.zip st.tail:=by
   refine take_of_length_le ?_;rw [List.length_zip,length_map];omega
  rw [ez]
  have ea:((st.zip st.tail).map λ t=>decide ((nxt W t).2=pl)).all id=(st.zip st.tail).all λ t=>decide ((nxt W t).2=pl):=by
   rw [List.all_map]
   rfl
  rw [ea]
  cases cb:(st.zip st.tail).all λ t=>decide ((nxt W t).2=pl) with
  | false=>exact ⟨_,rfl,wJ (kn (by rw [cb];rfl) _ (g05.trans g6))⟩
  | true =>
   refine ⟨_,rfl,xI ⟨_,rfl,?_⟩⟩;exact k st (by rw [cb];rfl) D2 H6 (g05.trans g6) nD20 (g6 _ _ hD25)
def mY:Sp:=λ vs H Q _=>∃ (tp sp:Addr) (top st:List Nat) (pl:Nat),vs=[.ref tp,.ref sp,vn pl]/\H tp=some (.lst (top.map vn))/\H sp=some (.lst (st.map vn))/\st≠[]/\(∀ x∈st,x∈top)/\top.length<=42 /\
 ∀ (s:Addr) (H':Hp),Same H H'->H s=none->H' s=some (.lst ((poF top st pl).map vn))->Q (.ref s) H'
theorem pZ {f:Addr} {fd:FuncData} (F:Fun K "put_over" "put_over" yK f fd):FnOk P w K mg base CX0 1 f fd ["top","stretch","place"] (mY):=by
 refine F.ok sc_put_over (λ vs H Q E h=>?_) (λ cdv A outer s0 H vs Q E hr h=>?_)
 ·obtain ⟨tp,sp,top,st,pl,rfl,_⟩:=h
  rfl
 obtain ⟨tp,sp,top,st,pl,rfl,htp,hsp,ne,sub,l42,k⟩:=h
 refine ⟨_,(kF (kT (i:=3) sc_put_over.nd rfl (Or.inl rfl) (jS PySem.F.plainAttrs_list PySem.F.slot_list_index PySem.F.type_list_index zX (pv 0) (kB (qB kY (pv 1) kK (λ _ _=>rfl)) kD)))
   (kF (kT (i:=4) sc_put_over.nd rfl (Or.inl rfl) (jS PySem.F.plainAttrs_list PySem.F.slot_list_index PySem.F.type_list_index zX (pv 0) (kB (qB kY (pv 1) (wU yH kK) (λ _ _=>rfl)) kD)))
   (kM (kX (kZ zC (kZ zC (qH jD (pv 0) qR (qG (kZ qX (pv 3) kK))) (qS (kB (pv 2) kD))) (qH jD (pv 0) (qG (pv 4)) qR)))))),?_⟩
 obtain ⟨a,r,ea⟩ : ∃ a r,st=a::r:=by
  match st,ne with
  | a::r,_=>exact ⟨a,r,rfl⟩
 obtain ⟨D,b,eb⟩ : ∃ D b,st=D++[b]:=⟨st.dropLast,st.getLast ne,(dropLast_concat_getLast ne).symm⟩;have hd0:st.headD 0=a:=by rw [ea];rfl
 have hl0:st.getLastD 0=b:=by rw [eb,getLastD_eq_getLast?,List.getLast?_append];rfl
 have ma:a∈top:=sub a (by rw [ea];exact mem_cons_self ..);have mb:b∈top:=sub b (by rw [eb];simp);have at0':atI (st.map vn) 0=some (vn a):=by rw [ea];exact qV (j:=0) rfl
 have at1':atI (st.map vn) (-1)=some (vn b):=by rw [eb,map_append];exact yF _ _
 have ia:=idxOf_lt_length_of_mem ma;have ib:=idxOf_lt_length_of_mem mb;refine ⟨_,rfl,.inl ⟨rfl,_,SqL.of htp⟩,_,rfl,sp,_,_,_,rfl,rfl,SqL.of hsp,at0',tp,top.map ci,a,top.idxOf a,rfl,rfl,(by rw [htp,xF]),qT ma,?_⟩;refine ⟨_,rfl,.inl ⟨rfl,_,SqL.of htp⟩,_,rfl,_,rfl,sp,_,_,_,rfl,rfl,SqL.of hsp,at1',tp,top.map ci,b,top.idxOf b,rfl,rfl,(by rw [htp,xF]),qT mb,?_⟩
 have c1:jO (top.map vn) none (some (((top.idxOf a:Nat):Int)+1))=(top.take (top.idxOf a+1)).map vn:=by
  rw [show (((top.idxOf a:Nat):Int)+1)=((top.idxOf a+1:Nat):Int) by omega,xN _ (by rw [length_map];omega),<-map_take]
 have c2:jO (top.map vn) (some ((top.idxOf b:Nat):Int)) none=(top.drop (top.idxOf b)).map vn:=by
  rw [zB _ (by rw [length_map];omega),<-map_drop]
 refine ⟨_,rfl,_,rfl,_,_,rfl,rfl,_,rfl,tp,_,rfl,SqL.of htp,λ p1 m1=>?_⟩;rw [c1];have g5:=kE m1 (.lst ((top.take (top.idxOf a+1)).map vn));refine ⟨_,rfl,L2.y1,λ p2 m2=>?_⟩;have g6:=kE m2 (.lst [vn pl]);refine ⟨p1,p2,_,_,rfl,rfl,g6 _ _ kC,kC,(by simp only [length_map,length_append,length_cons,length_nil,length_take];exact Nat.le_of_lt (kQ (by omega))),λ p3 m3=>?_⟩;have g7:=kE m3 (.lst ((top.take (top.idxOf a+1)).map vn++[vn pl]));have ho7:=g7 _ _ (g6 _ _ (g5 _ _ htp));refine ⟨_,rfl,_,rfl,_,rfl,tp,_,rfl,SqL.of ho7,λ p4 m4=>?_⟩;rw [c2];have g8:=kE m4 (.lst ((top.drop (top.idxOf b)).map vn));refine ⟨p3,p4,_,_,rfl,rfl,g8 _ _ kC,kC,(by simp only [length_map,length_append,length_cons,length_nil,length_take,length_drop];exact Nat.le_of_lt (kQ (by omega))),λ p5 m5=>?_⟩;have g9:=kE m5 (.lst ((top.take (top.idxOf a+1)).map vn++[vn pl]++(top.drop (top.idxOf b)).map vn));have gg:=g5.trans (g6.trans (g7.trans g8));refine k p5 _ (gg.trans g9) (gg.free m5) ?_;rw [kC];unfold poF;rw [hd0,hl0];simp
theorem LsAt.tail {H:Hp} {t:Addr} {ta:List Addr} {Os:List (List Nat)} {Z:List Nat} (x:LsAt H t ta (Os++[Z])):∃ ta' a,ta=ta'++[a]/\H a=some (.lst (Z.map vn)):=by
 have l:=x.len;rw [length_append,length_singleton] at l;have ne:ta≠[]:=λ z=>by rw [z] at l;cases l
 refine ⟨ta.dropLast,ta.getLast ne,(dropLast_concat_getLast ne).symm,x.row Os.length _ Z ?_ ?_⟩
 ·rw [show Os.length=ta.length-1 by omega,<-List.getLast?_eq_getElem?,List.getLast?_eq_some_getLast ne]
 ·rw [List.getElem?_concat_length]
structure Gw (H:Hp) (w z o:Addr) (W:Rows) (ms:List Nat) (a b c:Nat):Prop where
 web:WebAt H w W
 tr:Tr W
 base:H z=some (.tup [vn a,vn b,vn c])
 ord:H o=some (.tup (ms.map vn))
 perm:ms.Perm (List.range W.length)
 three:3<=W.length
 ab:Tri.E W a b
theorem Gw.kept {H H':Hp} {w z o:Addr} {W:Rows} {ms:List Nat} {a b c:Nat} (h:Gw H w z o W ms a b c) (g:Same H H'):Gw H' w z o W ms a b c :=
 { h with web:=h.web.kept g,base:=g _ _ h.base,ord:=g _ _ h.ord }
def dX:Sp:=λ vs H Q _=>∃ (w z o:Addr) (W:Rows) (ms:List Nat) (a b c:Nat),vs=[.ref w,.ref z,.ref o]/\Gw H w z o W ms a b c/\(zH W a b c ms=none->∀ H',Same H H'->Q .non H') /\
 ∀ (Fs Ts:List (List Nat)),zH W a b c ms=some (Fs,Ts)->∀ (t f g:Addr) (fa ga:List Addr) (H':Hp),Same H H'->H' t=some (.tup [.ref f,.ref g])->LsAt H' f fa Fs->LsAt H' g ga Ts->Q (.ref t) H'
theorem kIP {f:Addr} {fd:FuncData} (F:Fun K "laid" "laid" cJ f fd) (aN:Own.Has P w K mg base "has_ends" ["web","base","thing"] 3 (cG)) (zD:Own.Has P w K mg base "stretch_under" ["web","top","ahead","place"] 4 (cC)) (aJ:Own.Has P w K mg base "put_over" ["top","stretch","place"] 1 (mY)) (z_list:mg "list" = none) (z_range:mg "range" = none) (z_len:mg "len" = none):FnOk P w K mg base CX0 5 f fd ["web","base","thing"] (dX):=by
 refine F.ok sc_laid (λ vs H Q E h=>?_) (λ cdv A outer s0 H vs Q E hr h=>?_)
 ·obtain ⟨w,z,o,W,ms,a,b,c,rfl,_⟩:=h
  rfl
 obtain ⟨w,z,o,W,ms,a,b,c,rfl,G,kn,k⟩:=h
 refine ⟨_,(kF (xE (uA (vC (Own.pe_has aN (hr.mono (by decide)) rfl (kB (pv 0) (kB (pv 1) (kB (pv 2) kD)))))) (kM (kX yR)) qQ)
   (kF (kT (i:=3) sc_laid.nd rfl (Or.inl rfl) (qS kD))
   (kF (kT (i:=4) sc_laid.nd rfl (Or.inl rfl) (qS (kB (qO vP rfl z_list PyProof.Rows.boot_list (kB (qH sl_tup (pv 2) qR (qG kK)) kD)) kD)))
   (kF (wH PassesOwn.never rfl (cM rfl z_range (kB kK (kB (kP kN rfl z_len PySem.boot_len (kB (pv 2) kD)) kD))) (kR (i:=5) sc_laid.nd rfl (Or.inl rfl)) (kF (kT (i:=6) sc_laid.nd rfl (Or.inl rfl) (Own.pe_has zD (hr.mono (by decide)) rfl (kB (pv 0) (kB (qB kY (pv 4) (wU yH kK) (λ _ _=>rfl)) (kB (qH sl_tup (pv 2) qR (qG (pv 5))) (kB (qB jC (pv 2) (pv 5) (λ _ _=>rfl)) kD))))))
   (kF (xE (qF tK (pv 6) yR (qL _)) (kM (kX yR)) qQ)
   (kF (jE (jS PySem.F.plainAttrs_list PySem.F.slot_list_append PySem.F.type_list_append jM (pv 3) (kB (pv 6) kD)))
   (kM (jE (jS PySem.F.plainAttrs_list PySem.F.slot_list_append PySem.F.type_list_append jM (pv 4) (kB (Own.pe_has aJ (hr.mono (by decide)) rfl (kB (qB kY (pv 4) (wU yH kK) (λ _ _=>rfl)) (kB (pv 6) (kB (qB jC (pv 2) (pv 5) (λ _ _=>rfl)) kD)))) kD))))))))
   (kM (kX (qW (kB (pv 3) (kB (pv 4) kD))))))))),?_⟩
 have lm:ms.length=W.length:=by rw [G.perm.length_eq,length_range]
 have msn:ms.Nodup:=G.perm.nodup_iff.mpr nodup_range;have l42:=G.tr.le;have l3:=G.three;refine ⟨_,rfl,_,rfl,_,rfl,w,z,o,W,a,b,c,ms,rfl,G.web,G.tr.le,G.base,G.ord,G.perm,G.three,λ H1 g1=>⟨_,rfl,?_⟩⟩;by_cases ends:ms[0]?=some a/\ms[1]?=some b/\ms.getLast?=some c
 case neg =>
  rw [decide_eq_false ends];exact wJ (kn (by unfold zH;rw [if_neg ends]) _ g1)
 rw [decide_eq_true ends];refine xI ?_;have el:zH W a b c ms=goF W ms (ms.length-2):=by unfold zH;rw [if_pos ends]
 rw [el] at kn k;have G1:=G.kept g1;refine ⟨L2.y0,λ f nf=>?_⟩;have gf:=kE nf (.lst []);have hf:=kC (H:=H1) (a:=f) (o:=.lst []);have G2:=G1.kept gf;have g2:=g1.trans gf;have nf0:H f=none:=g1.free nf;generalize upd H1 f (.lst [])=H2 at *;refine ⟨_,rfl,_,rfl,o,_,rfl,SqT.of G2.ord,?_,λ p1 n1=>?_⟩
 ·rintro ⟨_,z⟩
  rw [show (2:Int)=((2:Nat):Int) from rfl,vY (by rw [length_map];omega),length_map] at z;omega
 have c2:jO (ms.map vn) none (some 2)=(ms.take 2).map vn:=by rw [show (2:Int)=((2:Nat):Int) from rfl,xN _ (by rw [length_map];omega),<-map_take]
 rw [c2];have h1:=kC (H:=H2) (a:=p1) (o:=.tup ((ms.take 2).map vn));have gp:=kE n1 (.tup ((ms.take 2).map vn));refine ⟨p1,_,rfl,.inr (SqT.of h1),λ q1 m1=>⟨L2.y1,λ g ng=>?_⟩⟩;have gq:=kE m1 (.lst ((ms.take 2).map vn));have gg:=kE ng (.lst [.ref q1]);have hq:=gg _ _ (kC (H:=upd H2 p1 (.tup ((ms.take 2).map vn))) (a:=q1) (o:=.lst ((ms.take 2).map vn)));have hg:=kC (H:=upd (upd H2 p1 (.tup ((ms.take 2).map vn))) q1 (.lst ((ms.take 2).map vn))) (a:=g) (o:=.lst [.ref q1]);have g23:=gp.trans (gq.trans gg);have nq:H2 q1=none:=gp.free m1;have ng2:H2 g=none:=(gp.trans gq).free ng;have hf3:=g23 _ _ hf;have G3:=G2.kept g23;have g3:=g2.trans g23;have ng0:H g=none:=g2.free ng2;have fg:f≠g:=kH hf ng2;have qf:q1≠f:=(kH hf nq).symm
 have qg:q1≠g:=λ z=>by
  rw [<-z] at ng;rw [kC] at ng;cases ng
 generalize upd (upd (upd H2 p1 (.tup ((ms.take 2).map vn))) q1 (.lst ((ms.take 2).map vn))) g (.lst [.ref q1])=H3 at *
 have t2:ms.take 2=[a,b]:=by
  obtain ⟨q0,q1',_⟩:=ends
  match ms,q0,q1' with
  | x::y::ms,e1,e2 =>
   have e1:x=a:=by simpa using e1
   have e2:y=b:=by simpa using e2
   rw [e1,e2]
   rfl
 have top0:Top W (ms.take 2) (ms.take 2):=by
  rw [t2];refine ⟨?_,λ x hx=>hx,λ x y ad=>?_⟩
  ·have:=(G.tr.nb.e G.ab).2.2
   simp [this.symm]
  ·rcases ad with ⟨rfl,rfl⟩ | z
   ·exact G.ab
   ·exact absurd z id
 refine ⟨_,rfl,o,_,rfl,.inr (SqT.of G3.ord),2,_,rfl,⟨by omega,by omega,(by rw [length_map];omega),(by rw [length_map];omega)⟩,?_⟩
 refine yV (lo:=2) (n:=((((ms.map vn).length:Nat):Int)-2).toNat) (λ i σ H4=>∃ (x5 x6:Option V) (fa ga:List Addr) (fs ts:List (List Nat)),σ=[some (.ref w),some (.ref z),some (.ref o),some (.ref f),some (.ref g),x5,x6]/\Same H H4/\goF W ms i=some (fs,ts)/\fs.length=i/\ts.length=i+1/\Top W (ms.take (i+2)) (ts.getLastD [])/\LsAt H4 f fa fs/\LsAt H4 g ga ts/\(∀ x∈fa,x≠f/\x≠g)/\∀ x∈ga,x≠f/\x≠g)
  ⟨none,none,[],[q1],[],[ms.take 2],rfl,g3,rfl,rfl,rfl,top0,⟨hf3,rfl,λ i b Z e=>by simp at e⟩,(by
   exact ⟨hg,rfl,λ i b Z e1 e2=>by
    match i with
    | 0=>cases e1;cases e2;exact hq
    | i+1=>simp at e1⟩),(λ x hx=>by cases hx),(λ x hx=>by rw [mem_singleton.mp hx];exact ⟨qf,qg⟩)⟩ ?_ ?_
 ·rintro i σ H4 hi ⟨x5,x6,fa,ga,fs,ts,rfl,g4,go,lfs,lts,tp,lf,lg,af,ag⟩
  rw [length_map] at hi;have hi:i+2<W.length:=by omega
  have G4:=G.kept g4;have tne:ts≠[]:=λ z=>by rw [z] at lts;cases lts
  have ets:ts=ts.dropLast++[ts.getLastD []]:=by
   rw [getLastD_eq_getLast?,List.getLast?_eq_some_getLast tne];exact (dropLast_concat_getLast tne).symm
  obtain ⟨ga',gl,ega,hgl⟩:=LsAt.tail (by rw [<-ets];exact lg);have topg:H4 g=some (.lst (ga'.map V.ref++[.ref gl])):=by rw [lg.top,ega,map_append];rfl
  have np':ms.getD (i+2) 0∉ms.take (i+2):=by
   rw [getD_eq_getElem?_getD,List.getElem?_eq_getElem (by omega)];intro h;obtain ⟨j,hj,e⟩:=mem_iff_getElem.mp h;rw [length_take] at hj;rw [List.getElem_take] at e;have:=(getElem_inj msn).mp e;omega
  have tkm:ms.take (i+1+2)=ms.take (i+2)++[ms.getD (i+2) 0]:=by
   rw [show i+1+2=i+2+1 by omega,take_succ,getD_eq_getElem?_getD,List.getElem?_eq_getElem (show i+2<ms.length by omega)]
   rfl
  have tlen:(ts.getLastD []).length<=42:=by
   have:=tp.len;rw [length_take] at this;omega
  have plt:ms.getD (i+2) 0<W.length:=by
   rw [getD_eq_getElem?_getD,List.getElem?_eq_getElem (by omega)];exact mem_range.mp (G.perm.mem_iff.mp (getElem_mem _))
  have ati:(2+(i:Int))=((i+2:Nat):Int):=by omega
  have cA:jO (ms.map vn) none (some (2+(i:Int)))=(ms.take (i+2)).map vn:=by rw [ati,xN _ (by rw [length_map];omega),<-map_take]
  have atA:atI (ms.map vn) (2+(i:Int))=some (vn (ms.getD (i+2) 0)):=by
   rw [ati];refine qV ?_;rw [List.getElem?_map,getD_eq_getElem?_getD,List.getElem?_eq_getElem (by omega)]
   rfl
  refine ⟨_,rfl,_,rfl,_,rfl,g,_,_,_,rfl,rfl,SqL.of topg,yF _ _,_,rfl,_,rfl,_,rfl,o,_,rfl,SqT.of G4.ord,?_,λ p np=>?_⟩
  ·rintro ⟨_,z⟩
   rw [ati,vY (by rw [length_map];omega),length_map] at z;omega
  rw [cA];have gp:=kE np (.tup ((ms.take (i+2)).map vn));have hp:=kC (H:=H4) (a:=p) (o:=.tup ((ms.take (i+2)).map vn));have G5:=G4.kept gp;have hgl5:=gp _ _ hgl;have lf5:=lf.kept gp;have lg5:=lg.kept gp;have topg5:=gp _ _ topg;have g5:=g4.trans gp;generalize upd H4 p (.tup ((ms.take (i+2)).map vn))=H5 at *;refine ⟨_,rfl,_,rfl,o,_,_,_,rfl,rfl,SqT.of G5.ord,atA,w,gl,p,W,ts.getLastD [],ms.take (i+2),ms.getD (i+2) 0,rfl,G5.web,G.tr,hgl5,hp,tlen,(by rw [length_take];omega),plt,tp.nd,tp.path,(λ no H6 g6=>?_),λ st hst s H6 g6 ns hs=>?_⟩
  ·refine ⟨_,rfl,rfl,_,rfl,wJ (kn ?_ _ (g5.trans g6))⟩
   have:=gP (rR go no) (ms.length-2-(i+1));rwa [show i+1+(ms.length-2-(i+1))=ms.length-2 by omega] at this
  obtain ⟨tp2,sub,ne,_⟩:=tp.step G.tr.nb.sym np' hst;have go2:=kAB go hst;have g06:=g5.trans g6;have lf6:=lf5.kept g6;have lg6:=lg5.kept g6;have sf:s≠f:=(kH lf5.top ns).symm;have sg:s≠g:=(kH lg5.top ns).symm;have lfl:fa.length=i:=by rw [lf.len,lfs]
  have lgl:ga.length=i+1:=by rw [lg.len,lts]
  refine ⟨_,rfl,rfl,_,rfl,xI ?_⟩;refine ⟨_,rfl,.inl ⟨rfl,_,SqL.of lf6.top⟩,_,rfl,f,_,_,rfl,rfl,lf6.top,(by rw [length_map,lfl];exact kQ (by omega)),?_⟩;have lf7:=lf6.app hs (λ z=>(af f z).1 rfl) sf;have other:∀ b u,b≠f->H6 b=some u->upd H6 f (.lst (fa.map V.ref++[.ref s])) b=some u:=λ b u n e=>by rw [kO n];exact e
  have lg7:LsAt (upd H6 f (.lst (fa.map V.ref++[.ref s]))) g ga ts:=lg6.but λ b u hb e=>other b u (by
   rcases hb with rfl | hb
   ·exact fg.symm
   ·exact (ag b hb).1) e
  have hs7:=other s _ sf hs;have g07:Same H (upd H6 f (.lst (fa.map V.ref++[.ref s]))):=qP nf0 g06;have glf:gl≠f:=(ag gl (by rw [ega];simp)).1;have hgl7:=other gl _ glf (g6 _ _ hgl5);have topg7:=other g _ fg.symm (g6 _ _ topg5);generalize upd H6 f (.lst (fa.map V.ref++[.ref s]))=H7 at *;have G7:=G.kept g07;refine ⟨_,rfl,.inl ⟨rfl,_,SqL.of topg7⟩,_,rfl,_,rfl,g,_,_,_,rfl,rfl,SqL.of topg7,yF _ _,_,rfl,_,rfl,_,rfl,o,_,_,_,rfl,rfl,SqT.of G7.ord,atA,gl,s,ts.getLastD [],st,ms.getD (i+2) 0,rfl,hgl7,hs7,ne,sub,tlen,λ s' H8 g8 ns' hs'=>?_⟩;have lf8:=lf7.kept g8;have lg8:=lg7.kept g8;have s'f:s'≠f:=(kH lf7.top ns').symm;have s'g:s'≠g:=(kH lg7.top ns').symm;refine ⟨g,_,_,rfl,rfl,lg8.top,(by rw [length_map,lgl];exact kQ (by omega)),?_⟩;have lg9:=lg8.app hs' (λ z=>(ag g z).2 rfl) s'g;refine ⟨_,_,fa++[s],ga++[s'],_,_,rfl,qP ng0 (g07.trans g8),go2,(by simp [lfs]),(by simp [lts]),(by rw [bL,tkm];exact tp2),lf8.but λ b u hb e=>?_,lg9,λ x hx=>?_,λ x hx=>?_⟩
  ·have:b≠g:=by
    rcases hb with rfl | hb
    ·exact fg
    ·rcases mem_append.mp hb with q | q
     ·exact (af b q).2
     ·rw [mem_singleton.mp q];exact sg
   rw [kO this];exact e
  ·rcases mem_append.mp hx with q | q
   ·exact af x q
   ·rw [mem_singleton.mp q];exact ⟨sf,sg⟩
  ·rcases mem_append.mp hx with q | q
   ·exact ag x q
   ·rw [mem_singleton.mp q];exact ⟨s'f,s'g⟩
 ·rintro σ H4 ⟨x5,x6,fa,ga,fs,ts,rfl,g4,go,lfs,lts,tp,lf,lg,af,ag⟩
  have en:((((ms.map vn).length:Nat):Int)-2).toNat=ms.length-2:=by rw [length_map];omega
  rw [en] at go;refine ⟨_,rfl,_,rfl,L2.y2,λ t nt=>?_⟩;have gt:=kE nt (.tup [.ref f,.ref g]);exact k fs ts go t f g fa ga _ (g4.trans gt) kC (lf.kept gt) (lg.kept gt)
theorem kBD {W:Rows} {ms:List Nat}:∀ {i:Nat} {fs ts:List (List Nat)},goF W ms i=some (fs,ts)->fs.length=i/\ts.length=i+1
 | 0,fs,ts,h=>by
  unfold goF at h;have h:=Option.some.inj h;injection h with h1 h2
  subst h1 h2;exact ⟨rfl,rfl⟩
 | i+1,fs,ts,h=>by
  unfold goF at h
  split at h
  ·cases h
  ·rename_i f t e
   split at h
   ·cases h
   ·have h:=Option.some.inj h
    injection h with h1 h2
    obtain ⟨a,b⟩:=kBD e;rw [<-h1,<-h2,length_append,length_append,a,b];exact ⟨rfl,rfl⟩
def dY:Sp:=λ vs H Q _=>∃ (w z o:Addr) (W:Rows) (ms:List Nat) (a b c:Nat) (Fs Ts:List (List Nat)),vs=[.ref w,.ref z,.ref o]/\Gw H w z o W ms a b c/\(Tri.E W a c/\(nxt W (a,c)).2=b)/\zH W a b c ms=some (Fs,Ts)/\∀ (t f g:Addr) (fa ga:List Addr) (H':Hp),Same H H'->H' t=some (.tup [.ref f,.ref g])->LsAt H' f fa Fs->LsAt H' g ga Ts->Q (.ref t) H'
theorem dO {f:Addr} {fd:FuncData} (F:Fun K "must_be_laid" "must_be_laid" jI f fd) (qM:Own.Has P w K mg base "must_have_base" ["web","base"] 6 (zU)) (cZ:Own.Has P w K mg base "laid" ["web","base","thing"] 5 (dX)):FnOk P w K mg base CX0 7 f fd ["web","base","order"] (dY):=by
 refine F.ok sc_must_be_laid (λ vs H Q E h=>?_) (λ cdv A outer s0 H vs Q E hr h=>?_)
 ·obtain ⟨w,z,o,W,ms,a,b,c,Fs,Ts,rfl,_⟩:=h
  rfl
 obtain ⟨w,z,o,W,ms,a,b,c,Fs,Ts,rfl,G,isb,hl,k⟩:=h
 refine ⟨_,(kF (jE (Own.pe_has qM (hr.mono (by decide)) rfl (kB (pv 0) (kB (pv 1) kD))))
   (kF (kT (i:=3) sc_must_be_laid.nd rfl (Or.inl rfl) (Own.pe_has cZ (hr.mono (by decide)) rfl (kB (pv 0) (kB (pv 1) (kB (pv 2) kD)))))
   (kF (xE (qF tK (pv 3) yR (qL _)) (kM fD) qQ)
   (kM (kX (pv 3)))))),?_⟩
 refine ⟨_,rfl,_,rfl,w,z,W,a,b,c,rfl,G.web,G.tr,G.base,isb.1,isb.2,λ H1 g1=>?_⟩;refine ⟨_,rfl,_,rfl,_,rfl,w,z,o,W,ms,a,b,c,rfl,G.kept g1,(λ no=>by rw [hl] at no;cases no),λ Fs' Ts' e t f g fa ga H2 g2 ht lf lg=>?_⟩;rw [hl] at e;obtain ⟨rfl,rfl⟩ : Fs=Fs'/\Ts=Ts':=by injection e with e;injection e with e1 e2;exact ⟨e1,e2⟩
 refine ⟨_,rfl,rfl,_,rfl,xI ?_⟩;exact ⟨_,rfl,k t f g fa ga H2 (g1.trans g2) ht lf lg⟩
def cF:Sp:=λ vs H Q _=>∃ (w z o:Addr) (W:Rows) (ms:List Nat) (a b c:Nat),vs=[.ref w,.ref z,.ref o]/\Gw H w z o W ms a b c/\(Tri.E W a c/\(nxt W (a,c)).2=b)/\∀ H',Same H H'->Q (.bl (zH W a b c ms).isSome) H'
theorem rD {f:Addr} {fd:FuncData} (F:Fun K "is_order" "is_order" yO f fd) (qM:Own.Has P w K mg base "must_have_base" ["web","base"] 6 (zU)) (cZ:Own.Has P w K mg base "laid" ["web","base","thing"] 5 (dX)):FnOk P w K mg base CX0 7 f fd ["web","base","thing"] (cF):=by
 refine F.ok pR (λ vs H Q E h=>?_) (λ cdv A outer s0 H vs Q E hr h=>?_)
 ·obtain ⟨w,z,o,W,ms,a,b,c,rfl,_⟩:=h
  rfl
 obtain ⟨w,z,o,W,ms,a,b,c,rfl,G,isb,k⟩:=h
 refine ⟨_,(kF (jE (Own.pe_has qM (hr.mono (by decide)) rfl (kB (pv 0) (kB (pv 1) kD))))
   (kM (kX (vF kAQ (Own.pe_has cZ (hr.mono (by decide)) rfl (kB (pv 0) (kB (pv 1) (kB (pv 2) kD)))) yR (qL _))))),?_⟩
 refine ⟨_,rfl,_,rfl,w,z,W,a,b,c,rfl,G.web,G.tr,G.base,isb.1,isb.2,λ H1 g1=>?_⟩;refine ⟨_,rfl,_,rfl,_,rfl,w,z,o,W,ms,a,b,c,rfl,G.kept g1,(λ no H2 g2=>?_),λ Fs' Ts' e t f g fa ga H2 g2 ht lf lg=>?_⟩
 ·rw [no] at k
  exact ⟨rfl,k H2 (g1.trans g2)⟩
 ·rw [e] at k
  exact ⟨rfl,k H2 (g1.trans g2)⟩
theorem kEK {H:Hp} {f D:Addr} {fa:List Addr} {Zs:List (List Nat)} (lf:LsAt H f fa Zs) (few:Zs.length<=1000) {N0:St->Hp->Prop} (nD:H D=none) (fin:∀ σ H5,Same H H5->RowsT H5 D Zs->N0 σ H5) :
  uU (Itl K f) (rT 0) (kNP D (tCB (λ xs H Q=>∃ p ys,xs=[.ref p]/\((SqL K H p ys/\∀ l,H l=none->Q (.ref l) (upd H l (.tup ys)))\/(SqT K H p ys/\Q (.ref p) H))) (kJS (kKM 0) kMJ))) N0 [none] (upd H D (.lst [])):=by
 refine jZ (xs:=fa.map V.ref) (λ i σ H2=>∃ (x0:Option V),σ=[x0]/\Same H H2/\RowsT H2 D (Zs.take i)) ⟨none,rfl,kE nD _,⟨[],kC,rfl,λ i b t e=>by simp at e⟩⟩ ?_ ?_ ?_
 ·rintro i σ H2 _ ⟨x0,rfl,g2,_⟩
  exact SqL.of (g2 _ _ lf.top)
 ·rintro i x σ H2 hx ⟨x0,rfl,g2,rt⟩
  rw [List.getElem?_map] at hx;obtain ⟨b,eb,rfl⟩:=Option.map_eq_some_iff.mp hx;have hi:i<Zs.length:=by rw [<-lf.len];exact (List.getElem?_eq_some_iff.mp eb).1
  have et:=List.getElem?_eq_getElem hi;have hb:=g2 _ _ (lf.row i b _ eb et);have tk:Zs.take (i+1)=Zs.take i++[Zs[i]]:=by rw [take_succ,et];rfl
  rw [tk];generalize Zs[i]=Z at *;refine ⟨_,rfl,b,_,rfl,.inl ⟨SqL.of hb,λ l nl=>?_⟩⟩;have gl:=kE nl (.tup (Z.map vn));have hl:=kC (H:=H2) (a:=l) (o:=.tup (Z.map vn));obtain ⟨ss,c1,c2,c3⟩:=rt.kept gl;have ll:ss.length<=1000:=by rw [c2,length_take];omega
  refine ⟨_,c1,(by rw [length_map];exact kQ ll),?_⟩;exact ⟨_,rfl,qP nD (g2.trans gl),RowsT.app c1 c2 c3 hl⟩
 ·rintro σ H2 ⟨x0,rfl,g2,rt⟩
  rw [length_map,lf.len,take_length] at rt;exact fin _ H2 g2 rt
theorem RowsT.web {H:Hp} {D t:Addr} {Zs:List (List Nat)} (h:RowsT H D Zs) (nt:H t=none):∃ ss:List Addr,H D=some (.lst (ss.map V.ref))/\WebAt (upd H t (.tup (ss.map V.ref))) t Zs:=by
 obtain ⟨ss,h1,h2,h3⟩:=h;exact ⟨ss,h1,ss,kC,h2,λ j a row e1 e2=>by rw [kO (kH (h3 j a row e1 e2) nt)];exact h3 j a row e1 e2⟩
def fQ:Sp:=λ vs H Q _=>∃ (w z o:Addr) (W:Rows) (ms:List Nat) (a b c:Nat) (Fs Ts:List (List Nat)),vs=[.ref w,.ref z,.ref o]/\Gw H w z o W ms a b c/\(Tri.E W a c/\(nxt W (a,c)).2=b)/\zH W a b c ms=some (Fs,Ts)/\∀ (t:Addr) (H':Hp),Same H H'->WebAt H' t Ts->Q (.ref t) H'
def sU:Sp:=λ vs H Q _=>∃ (w z o:Addr) (W:Rows) (ms:List Nat) (a b c:Nat) (Fs Ts:List (List Nat)),vs=[.ref w,.ref z,.ref o]/\Gw H w z o W ms a b c/\(Tri.E W a c/\(nxt W (a,c)).2=b)/\zH W a b c ms=some (Fs,Ts)/\∀ (t:Addr) (H':Hp),Same H H'->WebAt H' t Fs->Q (.ref t) H'
theorem Gw.few {H:Hp} {w z o:Addr} {W:Rows} {ms:List Nat} {a b c:Nat} {Fs Ts:List (List Nat)} (h:Gw H w z o W ms a b c) (e:zH W a b c ms=some (Fs,Ts)):Ts.length<=1000/\Fs.length<=1000:=by
 unfold zH at e
 split at e
 ·obtain ⟨p,q⟩:=kBD e
  have l1:=h.tr.le;have l2:=h.perm.length_eq;rw [length_range] at l2;omega
 ·cases e
theorem kCY {f:Addr} {fd:FuncData} (F:Fun K "rounds" "rounds" wQ f fd) (jN:Own.Has P w K mg base "must_be_laid" ["web","base","order"] 7 (dY)) (z_tuple:mg "tuple" = none):FnOk P w K mg base CX0 8 f fd ["web","base","order"] (fQ):=by
 refine F.ok sc_rounds (λ vs H Q E h=>?_) (λ cdv A outer s0 H vs Q E hr h=>?_)
 ·obtain ⟨w,z,o,W,ms,a,b,c,Fs,Ts,rfl,_⟩:=h
  rfl
 obtain ⟨w,z,o,W,ms,a,b,c,Fs,Ts,rfl,G,isb,hl,k⟩:=h
 refine ⟨_,(kF (vD (Own.pe_has jN (hr.mono (by decide)) rfl (kB (pv 0) (kB (pv 1) (kB (pv 2) kD)))) (yQ rfl (qC (kR (i:=3) sc_rounds.nd rfl (Or.inl rfl)) (qC (kR (i:=4) sc_rounds.nd rfl (Or.inl rfl)) xB))))
   (kM (kX (qO qE rfl z_tuple PyProof.Rows.boot_tuple (kB (xL (Nc:=["top"]) (js:=[none]) rfl rfl (yC (pv 4)) (CS.of rfl rfl) rfl (λ C s₂ H₂ fp pins=>(kR (i:=0) (show List.Nodup (α:=Str) ["top"] by decide +kernel) rfl (Or.inl rfl))) (λ C s₂ H₂ fp pins D L=>(xK (jX (qO (show yG _ _ (λ xs H Q=>∃ p ys,xs=[.ref p]/\((SqL K H p ys/\∀ l,H l=none->Q (.ref l) (upd H l (.tup ys)))\/(SqT K H p ys/\Q (.ref p) H))) from qE) rfl z_tuple PyProof.Rows.boot_tuple (kB (pv 0) kD)))))) kD))))),?_⟩
 refine ⟨_,rfl,_,rfl,_,rfl,w,z,o,W,ms,a,b,c,Fs,Ts,rfl,G,isb,hl,λ t f g fa ga H2 g2 ht lf lg=>?_⟩;refine ⟨t,_,rfl,SqT.of ht,rfl,_,_,rfl,_,_,rfl,rfl,?_⟩;refine ⟨_,rfl,g,rfl,⟨_,SqL.of lg.top⟩,λ D nD=>?_⟩;refine kEK lg (G.few hl).1 nD λ σ H3 g3 rt=>?_;obtain ⟨ss,h1,h2,h3⟩:=id rt;refine ⟨D,_,rfl,.inl ⟨SqL.of h1,λ u nu=>?_⟩⟩;obtain ⟨ss',q1,q2⟩:=rt.web nu;rw [h1] at q1;have q1:ss.map V.ref=ss'.map V.ref:=by injection (Option.some.inj q1)
 rw [<-q1] at q2;exact k u _ (g2.trans (g3.trans (kE nu _))) q2
theorem nX {f:Addr} {fd:FuncData} (F:Fun K "stretches" "stretches" xO f fd) (jN:Own.Has P w K mg base "must_be_laid" ["web","base","order"] 7 (dY)) (z_tuple:mg "tuple" = none):FnOk P w K mg base CX0 8 f fd ["web","base","order"] (sU):=by
 refine F.ok sc_stretches (λ vs H Q E h=>?_) (λ cdv A outer s0 H vs Q E hr h=>?_)
 ·obtain ⟨w,z,o,W,ms,a,b,c,Fs,Ts,rfl,_⟩:=h
  rfl
 obtain ⟨w,z,o,W,ms,a,b,c,Fs,Ts,rfl,G,isb,hl,k⟩:=h
 refine ⟨_,(kF (vD (Own.pe_has jN (hr.mono (by decide)) rfl (kB (pv 0) (kB (pv 1) (kB (pv 2) kD)))) (yQ rfl (qC (kR (i:=3) sc_stretches.nd rfl (Or.inl rfl)) (qC (kR (i:=4) sc_stretches.nd rfl (Or.inl rfl)) xB))))
   (kM (kX (qO qE rfl z_tuple PyProof.Rows.boot_tuple (kB (xL (Nc:=["stretch"]) (js:=[none]) rfl rfl (yC (pv 3)) (CS.of rfl rfl) rfl (λ C s₂ H₂ fp pins=>(kR (i:=0) (show List.Nodup (α:=Str) ["stretch"] by decide +kernel) rfl (Or.inl rfl))) (λ C s₂ H₂ fp pins D L=>(xK (jX (qO (show yG _ _ (λ xs H Q=>∃ p ys,xs=[.ref p]/\((SqL K H p ys/\∀ l,H l=none->Q (.ref l) (upd H l (.tup ys)))\/(SqT K H p ys/\Q (.ref p) H))) from qE) rfl z_tuple PyProof.Rows.boot_tuple (kB (pv 0) kD)))))) kD))))),?_⟩
 refine ⟨_,rfl,_,rfl,_,rfl,w,z,o,W,ms,a,b,c,Fs,Ts,rfl,G,isb,hl,λ t f g fa ga H2 g2 ht lf lg=>?_⟩;refine ⟨t,_,rfl,SqT.of ht,rfl,_,_,rfl,_,_,rfl,rfl,?_⟩;refine ⟨_,rfl,f,rfl,⟨_,SqL.of lf.top⟩,λ D nD=>?_⟩;refine kEK lf (G.few hl).2 nD λ σ H3 g3 rt=>?_;obtain ⟨ss,h1,h2,h3⟩:=id rt;refine ⟨D,_,rfl,.inl ⟨SqL.of h1,λ u nu=>?_⟩⟩;obtain ⟨ss',q1,q2⟩:=rt.web nu;rw [h1] at q1;have q1:ss.map V.ref=ss'.map V.ref:=by injection (Option.some.inj q1)
 rw [<-q1] at q2;exact k u _ (g2.trans (g3.trans (kE nu _))) q2
theorem kCI {W:Rows} {top:List Nat} {pl:Nat}:(kL W top pl).length<=top.length:=by
 have:=length_filter_le (λ j=>decide (top.getD j 0∈W.getD pl [])) (List.range top.length);rwa [length_range] at this
theorem kCT {row:List Nat} {p:Nat} (h:p∈row):∃ v,jL row p=some v:=by
 have hi:=idxOf_lt_length_of_mem h;unfold jL
 split
 ·have ne:row≠[]:=λ z=>by rw [z] at h;cases h
  exact ⟨_,List.getLast?_eq_some_getLast ne⟩
 ·exact ⟨_,List.getElem?_eq_getElem (by omega)⟩
def TpsAt (H:Hp) (ta:List V) (T:List (List Nat)):Prop:=∃ as:List Addr,ta=as.map V.ref/\as.length=T.length/\∀ (j:Nat) (b:Addr) (t:List Nat),as[j]?=some b->T[j]?=some t->H b=some (.tup (t.map vn))
theorem TpsAt.but {H H':Hp} {ta:List V} {T:List (List Nat)} (h:TpsAt H ta T) (g:∀ b xs,H b=some (.tup xs)->H' b=some (.tup xs)):TpsAt H' ta T:=by
 obtain ⟨as,h1,h2,h3⟩:=h;exact ⟨as,h1,h2,λ j b t e1 e2=>g b _ (h3 j b t e1 e2)⟩
theorem TpsAt.kept {H H':Hp} {ta:List V} {T:List (List Nat)} (h:TpsAt H ta T) (g:Same H H'):TpsAt H' ta T:=h.but λ b xs e=>g _ _ e
theorem TpsAt.over {H:Hp} {ta xs ys:List V} {T:List (List Nat)} {l:Addr} (h:TpsAt H ta T) (e:H l=some (.lst xs)):TpsAt (upd H l (.lst ys)) ta T:=h.but λ b zs hb=>by
 rw [kO λ z=>by rw [z,e] at hb;cases hb];exact hb
theorem TpsAt.app {H:Hp} {ta:List V} {T:List (List Nat)} {b:Addr} {t:List Nat} (h:TpsAt H ta T) (e:H b=some (.tup (t.map vn))):TpsAt H (ta++[.ref b]) (T++[t]):=by
 obtain ⟨as,h1,h2,h3⟩:=h;refine ⟨as++[b],by rw [h1,map_append];rfl,by rw [length_append,length_append,h2];rfl,λ j c s e1 e2=>?_⟩;by_cases hj:j<as.length
 ·rw [List.getElem?_append_left hj] at e1
  rw [List.getElem?_append_left (by omega)] at e2;exact h3 j c s e1 e2
 ·rw [List.getElem?_append_right (by omega)] at e1 e2
  have:j-as.length=0:=by
   have:=(List.getElem?_eq_some_iff.mp e1).1;rw [length_singleton] at this;omega
  rw [this] at e1;rw [<-h2,this] at e2;cases e1
  cases e2
  exact e
theorem TpsAt.web {H:Hp} {ta:List V} {T:List (List Nat)} {a:Addr} (h:TpsAt H ta T) (e:H a=some (.tup ta)):WebAt H a T:=by
 obtain ⟨as,h1,h2,h3⟩:=h;exact ⟨as,by rw [e,h1],h2,h3⟩
def fO:Sp:=λ vs H Q _=>∃ (w o:Addr) (W:Rows) (ms:List Nat),vs=[.ref w,.ref o]/\WebAt H w W/\Tr W/\H o=some (.tup (ms.map vn))/\ms.Perm (List.range W.length)/\3<=W.length/\Top W (ms.take 2) (ms.take 2) /\
 (goF W ms (ms.length-2)=none->∀ H',Same H H'->Q .non H')/\(∀ Fs Ts,goF W ms (ms.length-2)=some (Fs,Ts)->∀ (t x y:Addr) (H':Hp),Same H H'->H' t=some (.tup [.ref x,.ref y])->WebAt H' x Ts->WebAt H' y Fs->Q (.ref t) H')
theorem hX {f:Addr} {fd:FuncData} (F:Fun K "_law_walked" "_law_walked" xA f fd) (jY:Own.Has P w K mg base "_law_third" ["_law_web_here","_law_p","_law_q"] 1 (dU)) (z_list:mg "list" = none) (z_tuple:mg "tuple" = none) (z_range:mg "range" = none) (z_len:mg "len" = none):FnOk P w K mg base CX0 2 f fd ["_law_web_here","_law_order"] (fO):=by
 refine F.ok sc_law_walked (λ vs H Q E h=>?_) (λ cdv A outer s0 H vs Q E hr h=>?_)
 ·obtain ⟨w,o,W,ms,rfl,_⟩:=h
  rfl
 obtain ⟨w,o,W,ms,rfl,hW,T,ho,perm,l3,top0,kn,k⟩:=h
 refine ⟨_,(kF (kT (i:=2) sc_law_walked.nd rfl (Or.inr rfl) (qO vP rfl z_list PyProof.Rows.boot_list (kB (qH sl_tup (pv 1) qR (qG kK)) kD)))
   (kF (kT (i:=3) sc_law_walked.nd rfl (Or.inl rfl) (qS (kB (qO qE rfl z_tuple PyProof.Rows.boot_tuple (kB (pv 2) kD)) kD)))
   (kF (kT (i:=4) sc_law_walked.nd rfl (Or.inl rfl) (qS kD))
   (kF (wH PassesOwn.never rfl (cM rfl z_range (kB kK (kB (kP kN rfl z_len PySem.boot_len (kB (pv 1) kD)) kD))) (kR (i:=5) sc_law_walked.nd rfl (Or.inr rfl)) (kF (kT (i:=6) sc_law_walked.nd rfl (Or.inr rfl) (qB jC (pv 1) (pv 5) (λ _ _=>rfl)))
   (kF (fA (i:=7) (Nc:=["_law_j","_law_row","_law_web_here","_law_place"]) (js:=[none,some 2,some 0,some 6]) rfl rfl sc_law_walked.nd rfl (Or.inl rfl) (zQ rfl z_range (kB (kP kN rfl z_len PySem.boot_len (kB (pv 2) kD)) kD)) (CS.of rfl rfl) rfl (λ C s₂ H₂ fp pins=>(kR (i:=0) (show List.Nodup (α:=Str) ["_law_j","_law_row","_law_web_here","_law_place"] by decide +kernel) rfl (Or.inl rfl))) (λ C s₂ H₂ fp pins D L=>(yB (qF (show OpR _ _ (rIn K false) from zR) (qB (show IxR _ (kIA K) from kY) (pv 1) (pv 0) (λ _ _=>rfl)) (qB (show IxR _ (kHZ K) from jC) (pv 2) (pv 3) (λ _ _=>rfl)) rfl) (jX (pv 0)))))
   (kF (kT (i:=8) sc_law_walked.nd rfl (Or.inl rfl) (kP kN rfl z_len PySem.boot_len (kB (xL (Nc:=["_law_q","_law_order","_law_k"]) (js:=[none,some 1,some 5]) rfl rfl (cL (qB jC (pv 0) (pv 6) (λ _ _=>rfl))) (CS.of rfl rfl) rfl (λ C s₂ H₂ fp pins=>(kR (i:=0) (show List.Nodup (α:=Str) ["_law_q","_law_order","_law_k"] by decide +kernel) rfl (Or.inl rfl))) (λ C s₂ H₂ fp pins D L=>(yB (qF (show OpR _ _ (rIn K false) from zR) (pv 0) (qH (show SlR _ (kKV K) from sl_tup) (pv 1) qR (qG (pv 2))) rfl) (jX (pv 0))))) kD)))
   (kF (xE (PW.pt (uV (qF pX (kP kN rfl z_len PySem.boot_len (kB (pv 7) kD)) kK (qL _)) (uV (qF lY (kP kN rfl z_len PySem.boot_len (kB (pv 7) kD)) (pv 8) (qL _)) (aE (qF lY (kZ xH (qB kY (pv 7) (wU yH kK) (λ _ _=>rfl)) (qB kY (pv 7) kK (λ _ _=>rfl))) (kZ xH (pv 8) kK) (qL _)))))) (kM (kX yR)) qQ)
   (kF (kT (i:=9) sc_law_walked.nd rfl (Or.inl rfl) (qH jD (pv 2) (qG (qB kY (pv 7) kK (λ _ _=>rfl))) (qG (kZ qX (qB kY (pv 7) (wU yH kK) (λ _ _=>rfl)) kK))))
   (kF (wH PassesOwn.never rfl (zQ rfl z_range (kB (kZ xH (pv 8) kK) kD)) (kR (i:=10) sc_law_walked.nd rfl (Or.inl rfl)) (kM (xE (qF lY (Own.pe_has jY (hr.mono (by decide)) rfl (kB (pv 0) (kB (qB kY (pv 9) (pv 10) (λ _ _=>rfl)) (kB (qB kY (pv 9) (kZ qX (pv 10) kK) (λ _ _=>rfl)) kD)))) (pv 6) (qL _)) (kM (kX yR)) qQ)))
   (kF (kT (i:=2) sc_law_walked.nd rfl (Or.inr rfl) (kZ zC (kZ zC (qH jD (pv 2) qR (qG (kZ qX (qB kY (pv 7) kK (λ _ _=>rfl)) kK))) (qS (kB (pv 6) kD))) (qH jD (pv 2) (qG (qB kY (pv 7) (wU yH kK) (λ _ _=>rfl))) qR)))
   (kF (jE (jS PySem.F.plainAttrs_list PySem.F.slot_list_append PySem.F.type_list_append jM (pv 3) (kB (qO qE rfl z_tuple PyProof.Rows.boot_tuple (kB (pv 2) kD)) kD)))
   (kM (jE (jS PySem.F.plainAttrs_list PySem.F.slot_list_append PySem.F.type_list_append jM (pv 4) (kB (qO qE rfl z_tuple PyProof.Rows.boot_tuple (kB (pv 9) kD)) kD)))))))))))))
   (kM (kX (qW (kB (qO qE rfl z_tuple PyProof.Rows.boot_tuple (kB (pv 3) kD)) (kB (qO qE rfl z_tuple PyProof.Rows.boot_tuple (kB (pv 4) kD)) kD))))))))),?_⟩
 have lm:ms.length=W.length:=by rw [perm.length_eq,length_range]
 have msn:ms.Nodup:=perm.nodup_iff.mpr nodup_range;have l42:=T.le;refine ⟨_,rfl,_,rfl,o,_,rfl,SqT.of ho,?_,λ p1 n1=>?_⟩
 ·rintro ⟨_,z⟩
  rw [show (2:Int)=((2:Nat):Int) from rfl,vY (by rw [length_map];omega),length_map] at z;omega
 have c2:jO (ms.map vn) none (some 2)=(ms.take 2).map vn:=by rw [show (2:Int)=((2:Nat):Int) from rfl,xN _ (by rw [length_map];omega),<-map_take]
 rw [c2];have gp:=kE n1 (.tup ((ms.take 2).map vn));have h1:=kC (H:=H) (a:=p1) (o:=.tup ((ms.take 2).map vn));refine ⟨p1,_,rfl,.inr (SqT.of h1),λ rl nrl=>?_⟩;have gr:=kE nrl (.lst ((ms.take 2).map vn));have hrl:=kC (H:=upd H p1 (.tup ((ms.take 2).map vn))) (a:=rl) (o:=.lst ((ms.take 2).map vn));have g1:=gp.trans gr;generalize upd (upd H p1 (.tup ((ms.take 2).map vn))) rl (.lst ((ms.take 2).map vn))=H1 at *;refine ⟨_,rfl,rl,_,rfl,.inl ⟨SqL.of hrl,λ q1 m1=>⟨L2.y1,λ tl ntl=>?_⟩⟩⟩;have gq:=kE m1 (.tup ((ms.take 2).map vn));have gt:=kE ntl (.lst [.ref q1]);have htl:=kC (H:=upd H1 q1 (.tup ((ms.take 2).map vn))) (a:=tl) (o:=.lst [.ref q1]);have ntl1:H1 tl=none:=gq.free ntl;have g12:=gq.trans gt;have hq2:=gt _ _ (kC (H:=H1) (a:=q1) (o:=.tup ((ms.take 2).map vn)));have rt:rl≠tl:=kH hrl ntl1;have hrl2:=g12 _ _ hrl;have g2:=g1.trans g12;generalize upd (upd H1 q1 (.tup ((ms.take 2).map vn))) tl (.lst [.ref q1])=H2 at *;refine ⟨L2.y0,λ pp npp=>?_⟩;have gpp:=kE npp (.lst []);have hpp:=kC (H:=H2) (a:=pp) (o:=.lst []);have tp:tl≠pp:=kH htl npp;have rp:rl≠pp:=kH hrl2 npp;have htl3:=gpp _ _ htl;have hq3:=gpp _ _ hq2;have hrl3:=gpp _ _ hrl2;have g3:=g2.trans gpp;have ntl0:H tl=none:=g1.free ntl1;have npp0:H pp=none:=g2.free npp;generalize upd H2 pp (.lst [])=H3 at *;refine ⟨_,rfl,o,_,rfl,.inr (SqT.of (g3 _ _ ho)),2,_,rfl,⟨by omega,by omega,(by rw [length_map];omega),(by rw [length_map];omega)⟩,?_⟩
 refine yV (lo:=2) (n:=((((ms.map vn).length:Nat):Int)-2).toNat) (λ i σ H4=>∃ (rl:Addr) (ta pa:List V) (x5 x6 x7 x8 x9 x10:Option V) (fs ts:List (List Nat)),σ=[some (.ref w),some (.ref o),some (.ref rl),some (.ref tl),some (.ref pp),x5,x6,x7,x8,x9,x10]/\Same H H4/\goF W ms i=some (fs,ts)/\Top W (ms.take (i+2)) (ts.getLastD []) /\
   H4 rl=some (.lst ((ts.getLastD []).map vn))/\H4 tl=some (.lst ta)/\ta.length=i+1/\H4 pp=some (.lst pa)/\pa.length=i/\rl≠tl/\rl≠pp/\TpsAt H4 ta ts/\TpsAt H4 pa fs)
  ⟨rl,_,_,none,none,none,none,none,none,[],[ms.take 2],rfl,g3,rfl,top0,hrl3,htl3,rfl,hpp,rfl,rt,rp,TpsAt.app (ta:=[]) (T:=[]) ⟨[],rfl,rfl,λ j b t e=>by simp at e⟩ hq3,⟨[],rfl,rfl,λ j b t e=>by simp at e⟩⟩ ?_ ?_
 ·rintro i σ H4 hi ⟨rl,ta,pa,x5,x6,x7,x8,x9,x10,fs,ts,rfl,g4,go,tp4,hr4,ht4,lta,hp4,lpa,rt4,rp4,tpa,tpb⟩
  rw [length_map] at hi;have hi:i+2<W.length:=by omega
  have ati:(2+(i:Int))=((i+2:Nat):Int):=by omega
  have atA:atI (ms.map vn) (2+(i:Int))=some (vn (ms.getD (i+2) 0)):=by
   rw [ati];refine qV ?_;rw [List.getElem?_map,getD_eq_getElem?_getD,List.getElem?_eq_getElem (by omega)]
   rfl
  have np':ms.getD (i+2) 0∉ms.take (i+2):=by
   rw [getD_eq_getElem?_getD,List.getElem?_eq_getElem (by omega)];intro h;obtain ⟨j,hj,e⟩:=mem_iff_getElem.mp h;rw [length_take] at hj;rw [List.getElem_take] at e;have:=(getElem_inj msn).mp e;omega
  have plt:ms.getD (i+2) 0<W.length:=by
   rw [getD_eq_getElem?_getD,List.getElem?_eq_getElem (by omega)];exact mem_range.mp (perm.mem_iff.mp (getElem_mem _))
  have stop:stF W (ts.getLastD []) (ms.take (i+2)) (ms.getD (i+2) 0)=none->∀ H',Same H H'->Q .non H':=λ z=>kn (by
   have:=gP (rR go z) (ms.length-2-(i+1));rwa [show i+1+(ms.length-2-(i+1))=ms.length-2 by omega] at this)
  have tkm:ms.take (i+1+2)=ms.take (i+2)++[ms.getD (i+2) 0]:=by
   rw [show i+1+2=i+2+1 by omega,take_succ,getD_eq_getElem?_getD,List.getElem?_eq_getElem (show i+2<ms.length by omega)]
   rfl
  have on:=λ st (z:stF W (ts.getLastD []) (ms.take (i+2)) (ms.getD (i+2) 0)=some st)=>kAB go z;have stp:=λ st (z:stF W (ts.getLastD []) (ms.take (i+2)) (ms.getD (i+2) 0)=some st)=>(tp4.step T.nb.sym np' z).1;rw [<-tkm] at stp
  have tlen:(ts.getLastD []).length<=42:=by
   have:=tp4.len;rw [length_take] at this;omega
  generalize hpl:ms.getD (i+2) 0=pl at *;generalize htop:ts.getLastD []=top at *;have erow:W.getD pl []=W[pl]:=by rw [getD_eq_getElem?_getD,List.getElem?_eq_getElem plt];rfl
  have nda:(ms.take (i+2)).Nodup:=msn.sublist (List.take_sublist _ _);have ndr:(W.getD pl []).Nodup:=by rw [erow];exact T.nb.nd pl _ (List.getElem?_eq_getElem plt)
  have hW4:=hW.kept g4;obtain ⟨tw,hw1,lw,hw3⟩:=hW4.at;obtain ⟨b',e1,e2⟩:=hw3 pl W[pl] (List.getElem?_eq_getElem plt);have ho4:=g4 _ _ ho
  refine ⟨_,rfl,_,rfl,o,_,_,_,rfl,rfl,SqT.of ho4,atA,?_⟩
  refine ⟨_,rfl,rl,_,rfl,.inl (SqL.of hr4),_,rfl,(by rw [length_map];omega),(by rw [length_map];omega),λ D nD=>?_⟩;refine fI (lo:=0) (n:=((((top.map vn).length:Nat):Int)-0).toNat) (λ j σ H5=>∃ (u:Option V),σ=[u,some (.ref rl),some (.ref w),some (vn pl)]/\H5 D=some (.lst (((List.range j).filter λ j=>decide (top.getD j 0∈W.getD pl [])).map vn))/\Same H4 H5) ⟨none,rfl,kC,kE nD _⟩ ?_ ?_
  ·rintro j σ H5 hj ⟨u,rfl,hD,g5⟩
   rw [length_map] at hj;have hj:j<top.length:=by omega
   have lf:=length_filter_le (λ j=>decide (top.getD j 0∈W.getD pl [])) (List.range j);rw [length_range] at lf;have atj:atI (top.map vn) (j:Int)=some (vn (top.getD j 0)):=qV (by rw [List.getElem?_map,getD_eq_getElem?_getD,List.getElem?_eq_getElem hj];rfl);rw [show V.int (0+(j:Int))=vn j by unfold vn;congr 1;omega];refine ⟨_,rfl,_,rfl,rl,_,_,_,rfl,rfl,SqL.of (g5 _ _ hr4),atj,_,rfl,_,rfl,w,_,_,_,rfl,rfl,SqT.of (g5 _ _ hw1),e1,b',_,rfl,.inr (SqT.of (g5 _ _ e2)),rfl,wX _,_,rfl,?_⟩;rw [uN,<-erow,range_succ,filter_append,map_append];refine oI (λ c=>?_) (λ c=>?_)
   ·refine ⟨_,rfl,_,hD,(by rw [length_map];exact kQ (by omega)),?_⟩
    refine ⟨_,rfl,?_,qP nD g5⟩;rw [filter_cons_of_pos (p:=λ j=>decide (top.getD j 0∈W.getD pl [])) (show decide (top.getD j 0∈W.getD pl [])=true from c)];exact kC
   ·rw [filter_cons_of_neg (p:=λ j=>decide (top.getD j 0∈W.getD pl [])) (show ¬ decide (top.getD j 0∈W.getD pl [])=true from c),filter_nil,map_nil,append_nil]
    exact ⟨_,rfl,hD,g5⟩
  rintro σ H5 ⟨u,rfl,hD,g5⟩;rw [length_map,show (((top.length:Nat):Int)-0).toNat=top.length by omega] at hD
  have hD:H5 D=some (.lst ((kL W top pl).map vn)):=hD
  refine ⟨_,rfl,_,rfl,w,_,_,_,rfl,rfl,SqT.of (g5 _ _ hw1),e1,b',rfl,⟨_,SqT.of (g5 _ _ e2)⟩,λ D2 nD2=>?_⟩;refine wN (xs:=W[pl].map vn) (λ j σ H6=>∃ (u:Option V),σ=[u,some (.ref o),some (.int (2+(i:Int)))]/\H6 D2=some (.lst (((W[pl].take j).filter λ q=>decide (q∈ms.take (i+2))).map vn))/\Same H5 H6) ⟨none,rfl,kC,kE nD2 _⟩ ?_ ?_ ?_
  ·rintro j σ H6 _ ⟨u,rfl,_,g6⟩
   exact SqT.of (g6 _ _ (g5 _ _ e2))
  ·rintro j x σ H6 hx ⟨u,rfl,hD2,g6⟩
   rw [List.getElem?_map] at hx;obtain ⟨q,eq',rfl⟩:=Option.map_eq_some_iff.mp hx;have rl':=T.nb.len (List.getElem?_eq_getElem plt);have lf:=length_filter_le (λ q=>decide (q∈ms.take (i+2))) (W[pl].take j);rw [length_take] at lf;have tk:W[pl].take (j+1)=W[pl].take j++[q]:=by rw [take_succ,eq'];rfl
   have cA:jO (ms.map vn) none (some (2+(i:Int)))=(ms.take (i+2)).map vn:=by rw [ati,xN _ (by rw [length_map];omega),<-map_take]
   refine ⟨_,rfl,_,rfl,_,rfl,_,rfl,o,_,rfl,SqT.of (g6 _ _ (g5 _ _ ho4)),?_,λ p np=>?_⟩
   ·rintro ⟨_,z⟩
    rw [ati,vY (by rw [length_map];omega),length_map] at z;omega
   rw [cA];have gp:=kE np (.tup ((ms.take (i+2)).map vn));refine ⟨p,_,rfl,.inr (SqT.of kC),rfl,wX _,_,rfl,?_⟩;rw [uN,tk,filter_append,map_append];have g7:=g6.trans gp;have hD7:=gp _ _ hD2;generalize upd H6 p (.tup ((ms.take (i+2)).map vn))=H7 at *;refine oI (λ c=>?_) (λ c=>?_)
   ·refine ⟨_,rfl,_,hD7,(by rw [length_map];exact kQ (by omega)),?_⟩
    refine ⟨_,rfl,?_,qP nD2 g7⟩;rw [filter_cons_of_pos (p:=λ q=>decide (q∈ms.take (i+2))) (show decide (q∈ms.take (i+2))=true from c)];exact kC
   ·rw [filter_cons_of_neg (p:=λ q=>decide (q∈ms.take (i+2))) (show ¬ decide (q∈ms.take (i+2))=true from c),filter_nil,map_nil,append_nil]
    exact ⟨_,rfl,hD7,g7⟩
  rintro σ H6 ⟨u,rfl,hD2,g6⟩;rw [length_map,take_length] at hD2
  have em:((((W[pl].filter λ q=>decide (q∈ms.take (i+2))).map vn).length:Nat):Int)=(wC W (ms.take (i+2)) pl:Nat):=by
   unfold wC;rw [length_map,erow]
  refine ⟨D2,_,rfl,.inl (SqL.of hD2),?_⟩;rw [em];have hD6:=g6 _ _ hD;have hr6:=g6 _ _ (g5 _ _ hr4);have ht6:=g6 _ _ (g5 _ _ ht4);have hp6:=g6 _ _ (g5 _ _ hp4);have g06:=g4.trans (g5.trans g6);have ls:(((kL W top pl).map vn).length:Int)=((kL W top pl).length:Nat):=by rw [length_map]
  refine ⟨_,rfl,D,_,rfl,.inl (SqL.of hD6),_,_,rfl,rfl,_,rfl,?_⟩;rw [ls];by_cases c1:(kL W top pl).length<2
  ·rw [decide_eq_true (show (((kL W top pl).length:Nat):Int)<2 by omega)]
   exact wJ (wJ (stop (bX tp4.nd tp4.sub nda ndr (.inl c1)) _ g06))
  rw [decide_eq_false (show ¬ (((kL W top pl).length:Nat):Int)<2 by omega)];refine xI ?_;refine ⟨_,rfl,D,_,rfl,.inl (SqL.of hD6),_,rfl,rfl,_,rfl,?_⟩;rw [ls];by_cases c2:(kL W top pl).length=wC W (ms.take (i+2)) pl
  case neg =>
   rw [decide_eq_false (show ¬ V.int (((kL W top pl).length:Nat):Int)=V.int ((wC W (ms.take (i+2)) pl:Nat):Int) from λ z=>c2 (by injection z with z;omega))]
   exact wJ (wJ (stop (bX tp4.nd tp4.sub nda ndr (.inr (.inl c2))) _ g06))
  rw [decide_eq_true (show V.int (((kL W top pl).length:Nat):Int)=V.int ((wC W (ms.take (i+2)) pl:Nat):Int) by rw [c2])];refine xI ?_;have s0:0<(kL W top pl).length:=by omega
  have ats0:atI ((kL W top pl).map vn) 0=some (vn ((kL W top pl).headD 0)):=qV (j:=0) (by rw [List.getElem?_map,List.getElem?_eq_getElem s0,zA s0];rfl)
  have atsl:atI ((kL W top pl).map vn) (-1)=some (vn ((kL W top pl).getLastD 0)):=by
   have ne:kL W top pl≠[]:=λ z=>by rw [z] at s0;cases s0
   have e:kL W top pl=(kL W top pl).dropLast++[(kL W top pl).getLastD 0]:=by
    rw [getLastD_eq_getLast?,List.getLast?_eq_some_getLast ne];exact (dropLast_concat_getLast ne).symm
   have e2:(kL W top pl).map vn=(kL W top pl).dropLast.map vn++[vn ((kL W top pl).getLastD 0)]:=by
    have:=congrArg (List.map vn) e;rwa [map_append] at this
   rw [e2];exact yF _ _
  refine ⟨_,rfl,_,rfl,D,_,_,_,rfl,rfl,SqL.of hD6,atsl,_,rfl,D,_,_,_,rfl,rfl,SqL.of hD6,ats0,_,_,rfl,rfl,_,rfl,_,_,rfl,rfl,rfl,_,rfl,?_⟩;by_cases c3:(kL W top pl).getLastD 0=(kL W top pl).headD 0+((kL W top pl).length-1)
  case neg =>
   rw [decide_eq_false (show ¬ V.int (((kL W top pl).getLastD 0:Int)-((kL W top pl).headD 0:Int))=V.int (((wC W (ms.take (i+2)) pl:Nat):Int)-1) from λ z=>c3 (by injection z with z;omega))]
   exact wJ (stop (bX tp4.nd tp4.sub nda ndr (.inr (.inr c3))) _ g06)
  rw [decide_eq_true (show V.int (((kL W top pl).getLastD 0:Int)-((kL W top pl).headD 0:Int))=V.int (((wC W (ms.take (i+2)) pl:Nat):Int)-1) by congr 1;omega)];refine xI ?_;obtain ⟨pl1,psub,pyes,pno,ppo⟩:=kBY tp4.nd tp4.sub nda ndr (by omega) c2 c3;have padj:=λ j (h:j+1<(partL W top pl).length)=>kFS h
  have sl:(kL W top pl).getLastD 0<top.length:=by
   rw [uC s0];exact aX (getElem_mem _)
  have cP:jO (top.map vn) (some (((kL W top pl).headD 0:Nat):Int)) (some ((((kL W top pl).getLastD 0:Nat):Int)+1))=(partL W top pl).map vn:=by
   rw [show ((((kL W top pl).getLastD 0:Nat):Int)+1)=(((kL W top pl).getLastD 0+1:Nat):Int) by omega,kBJ _ (by omega) (by rw [length_map];omega)];unfold partL;rw [<-map_drop,<-map_take,List.drop_take]
  refine ⟨_,rfl,_,rfl,D,_,_,_,rfl,rfl,SqL.of hD6,ats0,_,rfl,_,rfl,_,rfl,D,_,_,_,rfl,rfl,SqL.of hD6,atsl,_,_,rfl,rfl,_,rfl,rl,_,rfl,SqL.of hr6,λ pa' npa=>?_⟩;rw [cP];have g7:=kE npa (.lst ((partL W top pl).map vn));have hpa:=kC (H:=H6) (a:=pa') (o:=.lst ((partL W top pl).map vn));have hD7:=g7 _ _ hD6;have hr7:=g7 _ _ hr6;have ht7:=g7 _ _ ht6;have hp7:=g7 _ _ hp6;have g07:=g06.trans g7;have pat:pa'≠tl:=(kH ht6 npa).symm;have pap:pa'≠pp:=(kH hp6 npa).symm;generalize upd H6 pa' (.lst ((partL W top pl).map vn))=H7 at *;have plen:(partL W top pl).length<=42:=by rw [pl1,<-c2];have:=kCI (W:=W) (top:=top) (pl:=pl);omega
  refine ⟨_,rfl,_,_,rfl,rfl,_,rfl,(by omega),(by omega),?_⟩
  refine yV (lo:=0) (n:=(((wC W (ms.take (i+2)) pl:Nat):Int)-1).toNat) (λ j σ H8=>∃ (y10:Option V),σ=[some (.ref w),some (.ref o),some (.ref rl),some (.ref tl),some (.ref pp),some (.int (2+(i:Int))),some (vn pl),some (.ref D),some (.int ((wC W (ms.take (i+2)) pl:Nat):Int)),some (.ref pa'),y10]/\Same H7 H8/\∀ j',j'<j->(nxt W ((partL W top pl).getD j' 0,(partL W top pl).getD (j'+1) 0)).2=pl)
   ⟨_,rfl,Same.refl _,λ j' hj'=>by omega⟩ ?_ ?_
  ·rintro j σ H8 hj ⟨y10,rfl,g8,all⟩
   have hj:j+1<(partL W top pl).length:=by omega
   have atp:∀ x,x<(partL W top pl).length->atI ((partL W top pl).map vn) (x:Int)=some (vn ((partL W top pl).getD x 0)):=λ x hx=>qV (by rw [List.getElem?_map,getD_eq_getElem?_getD,List.getElem?_eq_getElem hx];rfl);obtain ⟨A1,B1,et⟩:=padj j hj
   have ad:Adj top ((partL W top pl).getD j 0) ((partL W top pl).getD (j+1) 0):=by
    conv=>arg 1;rw [et]
    exact mU (.inl ⟨rfl,rfl⟩)
   obtain ⟨row,er,m⟩:=T.nb.sym _ _ (tp4.path _ _ ad);obtain ⟨v,hv⟩:=kCT m
   have nv:(nxt W ((partL W top pl).getD j 0,(partL W top pl).getD (j+1) 0)).2=v:=by
    show (jL (W.getD ((partL W top pl).getD (j+1) 0) []) ((partL W top pl).getD j 0)).getD 0=v;rw [show W.getD ((partL W top pl).getD (j+1) 0) []=row by rw [getD_eq_getElem?_getD,er];rfl,hv]
    rfl
   have pno':=pno j hj;rw [nv] at pno';rw [show V.int (0+(j:Int))=vn j by unfold vn;congr 1;omega];have atj1:atI ((partL W top pl).map vn) ((j:Int)+1)=some (vn ((partL W top pl).getD (j+1) 0)):=atp (j+1) hj;refine ⟨_,rfl,_,rfl,_,rfl,pa',_,_,_,rfl,rfl,SqL.of (g8 _ _ hpa),atp j (by omega),_,rfl,_,rfl,_,_,rfl,rfl,pa',_,_,_,rfl,rfl,SqL.of (g8 _ _ hpa),atj1,w,W,_,_,row,v,rfl,(hW.kept g07).kept g8,er,m,hv,_,rfl,rfl,_,rfl,?_⟩;by_cases cv:v=pl
   case neg =>
    rw [decide_eq_false (show ¬ vn v=vn pl from λ z=>cv (by unfold vn at z;injection z with z;omega))]
    exact wJ (stop (pno' cv) _ (g07.trans g8))
   rw [decide_eq_true (show vn v=vn pl by rw [cv])];refine xI ⟨_,rfl,g8,λ j' hj'=>?_⟩;rcases Nat.lt_or_ge j' j with c | c
   ·exact all j' c
   ·obtain rfl:j'=j:=by omega
    rw [nv,cv]
  rintro σ H8 ⟨y10,rfl,g8,all⟩;have yes:=pyes λ j hj=>all j (by omega);have on':=on _ yes;have stp':=stp _ yes;rw [ppo] at on' stp';have hD8:=g8 _ _ hD7;have hr8:=g8 _ _ hr7;have ht8:=g8 _ _ ht7;have hp8:=g8 _ _ hp7;have hpa8:=g8 _ _ hpa;have g08:=g07.trans g8
  have k1:jO (top.map vn) none (some ((((kL W top pl).headD 0:Nat):Int)+1))=(top.take ((kL W top pl).headD 0+1)).map vn:=by
   rw [show ((((kL W top pl).headD 0:Nat):Int)+1)=(((kL W top pl).headD 0+1:Nat):Int) by omega,xN _ (by rw [length_map];omega),<-map_take]
  have k2:jO (top.map vn) (some (((kL W top pl).getLastD 0:Nat):Int)) none=(top.drop ((kL W top pl).getLastD 0)).map vn:=by
   rw [zB _ (by rw [length_map];omega),<-map_drop]
  refine ⟨_,rfl,_,rfl,D,_,_,_,rfl,rfl,SqL.of hD8,ats0,_,_,rfl,rfl,_,rfl,rl,_,rfl,SqL.of hr8,λ p1 m1=>?_⟩;rw [k1];have g9:=kE m1 (.lst ((top.take ((kL W top pl).headD 0+1)).map vn));refine ⟨_,rfl,L2.y1,λ p2 m2=>?_⟩;have g10:=kE m2 (.lst [vn pl]);refine ⟨p1,p2,_,_,rfl,rfl,g10 _ _ kC,kC,(by simp only [length_map,length_append,length_cons,length_nil,length_take];exact Nat.le_of_lt (kQ (by omega))),λ p3 m3=>?_⟩;have g11:=kE m3 (.lst ((top.take ((kL W top pl).headD 0+1)).map vn++[vn pl]));have g811:=g9.trans (g10.trans g11);have hr11:=g811 _ _ hr8;have hD11:=g811 _ _ hD8;refine ⟨_,rfl,_,rfl,_,rfl,D,_,_,_,rfl,rfl,SqL.of hD11,atsl,_,rfl,rl,_,rfl,SqL.of hr11,λ p4 m4=>?_⟩;rw [k2];have g12:=kE m4 (.lst ((top.drop ((kL W top pl).getLastD 0)).map vn));refine ⟨p3,p4,_,_,rfl,rfl,g12 _ _ kC,kC,(by simp only [length_map,length_append,length_cons,length_nil,length_take,length_drop];exact Nat.le_of_lt (kQ (by omega))),λ p5 m5=>?_⟩;have g13:=kE m5 (.lst ((top.take ((kL W top pl).headD 0+1)).map vn++[vn pl]++(top.drop ((kL W top pl).getLastD 0)).map vn));have g813:=g811.trans (g12.trans g13);have m5':=(g811.trans g12).free m5;have ep:(top.take ((kL W top pl).headD 0+1)).map vn++[vn pl]++(top.drop ((kL W top pl).getLastD 0)).map vn=(top.take ((kL W top pl).headD 0+1)++pl::top.drop ((kL W top pl).getLastD 0)).map vn:=by simp
  have hp5:=kC (H:=upd (upd (upd (upd H8 p1 (.lst ((top.take ((kL W top pl).headD 0+1)).map vn))) p2 (.lst [vn pl])) p3 (.lst ((top.take ((kL W top pl).headD 0+1)).map vn++[vn pl]))) p4 (.lst ((top.drop ((kL W top pl).getLastD 0)).map vn))) (a:=p5) (o:=.lst ((top.take ((kL W top pl).headD 0+1)).map vn++[vn pl]++(top.drop ((kL W top pl).getLastD 0)).map vn));rw [ep] at hp5 g813 ⊢;generalize top.take ((kL W top pl).headD 0+1)++pl::top.drop ((kL W top pl).getLastD 0)=top' at *;have ht13:=g813 _ _ ht8;have hp13:=g813 _ _ hp8;have hpa13:=g813 _ _ hpa8;have g013:=g08.trans g813;have t5:p5≠tl:=(kH ht8 m5').symm;have t6:p5≠pp:=(kH hp8 m5').symm;generalize upd (upd (upd (upd (upd H8 p1 (.lst ((top.take ((kL W top pl).headD 0+1)).map vn))) p2 (.lst [vn pl])) p3 (.lst ((top.take ((kL W top pl).headD 0+1)).map vn++[vn pl]))) p4 (.lst ((top.drop ((kL W top pl).getLastD 0)).map vn))) p5 (.lst (top'.map vn))=H13 at *;refine ⟨_,rfl,.inl ⟨rfl,_,SqL.of ht13⟩,_,rfl,p5,_,rfl,.inl ⟨SqL.of hp5,λ q2 mq=>?_⟩⟩;have gq2:=kE mq (.tup (top'.map vn));refine ⟨tl,_,_,rfl,rfl,gq2 _ _ ht13,(by rw [lta];exact kQ (by omega)),?_⟩;have tpa13:=(((((tpa.kept g5).kept g6).kept g7).kept g8).kept g813);have tpb13:=(((((tpb.kept g5).kept g6).kept g7).kept g8).kept g813);have tpa14:=((tpa13.kept gq2).app (kC (H:=H13) (a:=q2) (o:=.tup (top'.map vn)))).over (ys:=ta++[.ref q2]) (gq2 _ _ ht13);have tpb14:=(tpb13.kept gq2).over (ys:=ta++[.ref q2]) (gq2 _ _ ht13);have g14:=qP (o:=.lst (ta++[.ref q2])) ntl0 (g013.trans gq2)
  have k14:∀ b u,b≠tl->H13 b=some u->upd (upd H13 q2 (.tup (top'.map vn))) tl (.lst (ta++[.ref q2])) b=some u:=λ b u n e=>by
   rw [kO n];exact gq2 _ _ e
  have ht14:=kC (H:=upd H13 q2 (.tup (top'.map vn))) (a:=tl) (o:=.lst (ta++[.ref q2]));have hp14:=k14 _ _ tp.symm hp13;have hr14:=k14 _ _ t5 hp5;have hpa14:=k14 _ _ pat hpa13;generalize upd (upd H13 q2 (.tup (top'.map vn))) tl (.lst (ta++[.ref q2]))=H14 at *;refine ⟨_,rfl,.inl ⟨rfl,_,SqL.of hp14⟩,_,rfl,pa',_,rfl,.inl ⟨SqL.of hpa14,λ q3 mq3=>?_⟩⟩;have gq3:=kE mq3 (.tup ((partL W top pl).map vn));refine ⟨pp,_,_,rfl,rfl,gq3 _ _ hp14,(by rw [lpa];exact kQ (by omega)),?_⟩;have tpb15:=((tpb14.kept gq3).app (kC (H:=H14) (a:=q3) (o:=.tup ((partL W top pl).map vn)))).over (ys:=pa++[.ref q3]) (gq3 _ _ hp14);have tpa15:=(tpa14.kept gq3).over (ys:=pa++[.ref q3]) (gq3 _ _ hp14);have g15:=qP (o:=.lst (pa++[.ref q3])) npp0 (g14.trans gq3)
  have k15:∀ b u,b≠pp->H14 b=some u->upd (upd H14 q3 (.tup ((partL W top pl).map vn))) pp (.lst (pa++[.ref q3])) b=some u:=λ b u n e=>by
   rw [kO n];exact gq3 _ _ e
  refine ⟨p5,ta++[.ref q2],pa++[.ref q3],_,_,_,_,_,_,fs++[partL W top pl],ts++[top'],rfl,g15,on',?_,?_,k15 _ _ tp ht14,(by rw [length_append,lta];rfl),kC,(by rw [length_append,lpa];rfl),t5,t6,tpa15,tpb15⟩
  ·rw [bL]
   exact stp'
  ·rw [bL]
   exact k15 _ _ t6 hr14
 ·rintro σ H4 ⟨rl,ta,pa,x5,x6,x7,x8,x9,x10,fs,ts,rfl,g4,go,tp4,hr4,ht4,lta,hp4,lpa,rt4,rp4,tpa,tpb⟩
  rw [length_map,show (((ms.length:Nat):Int)-2).toNat=ms.length-2 by omega] at go;refine ⟨_,rfl,tl,_,rfl,.inl ⟨SqL.of ht4,λ a1 m1=>?_⟩⟩;have ga:=kE m1 (.tup ta);refine ⟨_,rfl,pp,_,rfl,.inl ⟨SqL.of (ga _ _ hp4),λ a2 m2=>?_⟩⟩;have gb:=kE m2 (.tup pa);refine ⟨L2.y2,λ a3 m3=>?_⟩;have gc:=kE m3 (.tup [.ref a1,.ref a2]);refine k fs ts go a3 a1 a2 _ (g4.trans (ga.trans (gb.trans gc))) kC ?_ ?_
  ·exact (((tpa.kept ga).web kC).kept gb).kept gc
  ·exact (((tpb.kept ga).kept gb).web kC).kept gc
def wI (W:Rows) (T:List Nat):Nat:=(((List.range (T.length-2)).filter λ i=>decide (Fc.looseN W T (i+1)=2)).headD 0)+1
def kGB (W:Rows) (T:List Nat):List Nat:=T.take (wI W T-1)++(rot (W.getD (T.getD (wI W T) 0) []) (T.getD (wI W T-1) 0)).take ((rot (W.getD (T.getD (wI W T) 0) []) (T.getD (wI W T-1) 0)).idxOf (T.getD (wI W T+1) 0)+1)++T.drop (wI W T+2)
inductive Pd (W:Rows):List Nat->List Nat->Prop
 | done {T:List Nat}:¬ T.length>2->Pd W T []
 | step {T rest:List Nat}:T.length>2->Pd W (kGB W T) rest->Pd W T (T.getD (wI W T) 0::rest)
theorem Pd.one {W:Rows} {T r1 r2:List Nat} (h1:Pd W T r1) (h2:Pd W T r2):r1=r2:=by
 induction h1 generalizing r2 with
 | done n =>
  cases h2 with
  | done=>rfl
  | step l=>exact absurd l n
 | step l _ ih =>
  cases h2 with
  | done n=>exact absurd l n
  | step _ h=>rw [ih h]
def nB:Sp:=λ vs H Q _=>∃ (w tp:Addr) (W:Rows) (T:List Nat),vs=[.ref w,.ref tp]/\WebAt H w W/\H tp=some (.lst (T.map vn))/\(∀ x∈T,x<W.length)/\T.length<=42/\(∃ i,0<i/\i+1<T.length/\Fc.looseN W T i=2) /\
 ∀ (i:Nat) (H':Hp),Same H H'->i=wI W T->0<i->i+1<T.length->Fc.looseN W T i=2->Q (vn i) H'
theorem gD {f:Addr} {fd:FuncData} (F:Fun K "first_loose" "first_loose" jV f fd) (z_range:mg "range" = none) (z_len:mg "len" = none):FnOk P w K mg base CX0 1 f fd ["web","top"] (nB):=by
 refine F.ok sc_first_loose (λ vs H Q E h=>?_) (λ cdv A outer s0 H vs Q E hr h=>?_)
 ·obtain ⟨w,tp,W,T,rfl,_⟩:=h
  rfl
 obtain ⟨w,tp,W,T,rfl,hW,hT,rng,l42,ex,k⟩:=h
 refine ⟨_,(kF (kIF (i:=2) (Nc:=["at","top","web"]) (js:=[none,some 1,some 0]) rfl rfl sc_first_loose.nd rfl (Or.inl rfl) (cM rfl z_range (kB kK (kB (kZ xH (kP kN rfl z_len PySem.boot_len (kB (pv 1) kD)) kK) kD))) (CS2.of rfl rfl) rfl (λ C s₂ H₂ fp pins=>(kR (i:=0) (show List.Nodup (α:=Str) ["at","top","web"] by decide +kernel) rfl (Or.inr rfl))) (λ C s₂ H₂ fp pins D L=>(yB (qF kAR (kP (show yG _ _ (λ xs H Q=>∃ p ys,xs=[.ref p]/\(SqL K H p ys\/SqT K H p ys)/\Q (.int ys.length) H) from kN) rfl z_len PySem.boot_len (kB (xL (Nc:=["q","web","top","at"]) (js:=[none,some 2,some 1,some 0]) rfl rfl (show PI _ _ _ (kJZ K _) from (yC (pv 1))) (CS.of rfl rfl) rfl (λ C s₂ H₂ fp pins=>(kR (i:=0) (show List.Nodup (α:=Str) ["q","web","top","at"] by decide +kernel) rfl (Or.inl rfl))) (λ C s₂ H₂ fp pins D L=>(yB (qF (show OpR _ _ (rIn K false) from zR) (pv 0) (qB (show IxR _ (kHZ K) from jC) (pv 1) (qB (show IxR _ (kIA K) from kY) (pv 2) (pv 3) (λ _ _=>rfl)) (λ _ _=>rfl)) rfl) (jX (pv 0))))) kD)) kK (qL _)) (jX (pv 0)))))
   (kM (kX (qB kY (pv 2) kK (λ _ _=>rfl))))),?_⟩
 obtain ⟨tw,hw1,lw,hw3⟩:=hW.at;refine ⟨_,rfl,tp,_,rfl,.inl (SqL.of hT),_,_,rfl,rfl,1,_,rfl,⟨by omega,by omega,(by rw [length_map];omega),(by rw [length_map];omega)⟩,λ D nD=>?_⟩;refine fI (lo:=1) (n:=((((T.map vn).length:Nat):Int)-1-1).toNat) (λ j σ H2=>∃ (x0:Option V),σ=[x0,some (.ref tp),some (.ref w)]/\Same H H2/\H2 D=some (.lst (((List.range j).filter λ i=>decide (Fc.looseN W T (i+1)=2)).map λ i=>vn (i+1)))) ⟨none,rfl,kE nD _,kC⟩ ?_ ?_
 ·rintro j σ H2 hj ⟨x0,rfl,g2,hD⟩
  rw [length_map] at hj;have hj:j+2<T.length:=by omega
  have atj:atI (T.map vn) (1+(j:Int))=some (vn (T.getD (j+1) 0)):=by
   rw [show (1+(j:Int))=((j+1:Nat):Int) by omega];exact qV (by rw [List.getElem?_map,getD_eq_getElem?_getD,List.getElem?_eq_getElem (show j+1<T.length by omega)];rfl)
  have plt:T.getD (j+1) 0<W.length:=by
   rw [getD_eq_getElem?_getD,List.getElem?_eq_getElem (show j+1<T.length by omega)];exact rng _ (getElem_mem _)
  have erow:W.getD (T.getD (j+1) 0) []=W[T.getD (j+1) 0]:=by rw [getD_eq_getElem?_getD,List.getElem?_eq_getElem plt];rfl
  have elo:Fc.looseN W T (j+1)=(T.filter λ q=>decide (q∈W[T.getD (j+1) 0])).length:=by unfold Fc.looseN;rw [erow]
  obtain ⟨b',e1,e2⟩:=hw3 _ _ (List.getElem?_eq_getElem plt);have lf:=length_filter_le (λ i=>decide (Fc.looseN W T (i+1)=2)) (List.range j);rw [length_range] at lf;generalize W[T.getD (j+1) 0]=row at *;refine ⟨_,rfl,tp,rfl,⟨_,SqL.of (g2 _ _ hT)⟩,λ D2 nD2=>?_⟩;refine jZ (xs:=T.map vn) (λ m σ H3=>∃ (x:Option V),σ=[x,some (.ref w),some (.ref tp),some (.int (1+(j:Int)))]/\H3 D2=some (.lst (((T.take m).filter λ q=>decide (q∈row)).map vn))/\Same H2 H3) ⟨none,rfl,kC,kE nD2 _⟩ ?_ ?_ ?_
  ·rintro m σ H3 _ ⟨x,rfl,_,g3⟩
   exact SqL.of (g3 _ _ (g2 _ _ hT))
  ·rintro m v σ H3 hv ⟨x,rfl,hD2,g3⟩
   rw [List.getElem?_map] at hv;obtain ⟨q,eq',rfl⟩:=Option.map_eq_some_iff.mp hv;have g23:=g2.trans g3;have lf2:=length_filter_le (λ q=>decide (q∈row)) (T.take m);rw [length_take] at lf2;refine ⟨_,rfl,_,rfl,_,rfl,_,rfl,tp,_,_,_,rfl,rfl,SqL.of (g23 _ _ hT),atj,w,_,_,_,rfl,rfl,SqT.of (g23 _ _ hw1),e1,b',_,rfl,.inr (SqT.of (g23 _ _ e2)),rfl,wX _,_,rfl,?_⟩;rw [uN,take_succ,eq',Option.toList_some,filter_append,map_append];refine oI (λ c=>?_) (λ c=>?_)
   ·refine ⟨_,rfl,_,hD2,(by rw [length_map];exact kQ (by omega)),?_⟩
    refine ⟨_,rfl,?_,qP nD2 g3⟩;rw [filter_cons_of_pos (p:=λ q=>decide (q∈row)) (show decide (q∈row)=true from c)];exact kC
   ·rw [filter_cons_of_neg (p:=λ q=>decide (q∈row)) (show ¬ decide (q∈row)=true from c),filter_nil,map_nil,append_nil]
    exact ⟨_,rfl,hD2,g3⟩
  ·rintro σ H3 ⟨x,rfl,hD2,g3⟩
   rw [length_map,take_length] at hD2;have g23:=g2.trans g3;refine ⟨D2,_,rfl,.inl (SqL.of hD2),rfl,_,rfl,?_⟩;rw [length_map,<-elo,range_succ,filter_append,map_append];by_cases c:Fc.looseN W T (j+1)=2
   ·rw [show decide (V.int ((Fc.looseN W T (j+1):Nat):Int)=V.int 2)=true from decide_eq_true (by rw [c];rfl)]
    refine wJ ⟨_,rfl,_,g3 _ _ hD,(by rw [length_map];exact kQ (by omega)),?_⟩;refine ⟨_,rfl,qP nD g23,?_⟩;rw [filter_cons_of_pos (p:=λ i=>decide (Fc.looseN W T (i+1)=2)) (decide_eq_true c),show V.int (1+(j:Int))=vn (j+1) by unfold vn;congr 1;omega];exact kC
   ·rw [show decide (V.int ((Fc.looseN W T (j+1):Nat):Int)=V.int 2)=false from decide_eq_false λ z=>c (by have:=V.int.inj z;omega)]
    refine xI ⟨_,rfl,g23,?_⟩;rw [filter_cons_of_neg (p:=λ i=>decide (Fc.looseN W T (i+1)=2)) (by simpa using c),filter_nil,map_nil,append_nil];exact g3 _ _ hD
 ·rintro σ H2 ⟨x0,rfl,g2,hD⟩
  rw [length_map,show (((T.length:Nat):Int)-1-1).toNat=T.length-2 by omega] at hD;obtain ⟨i,h0,h1,hi⟩:=ex;have mi:i-1∈(List.range (T.length-2)).filter λ i=>decide (Fc.looseN W T (i+1)=2):=mem_filter.mpr ⟨mem_range.mpr (by omega),decide_eq_true (by rw [show i-1+1=i by omega];exact hi)⟩
  have all:∀ x∈(List.range (T.length-2)).filter λ i=>decide (Fc.looseN W T (i+1)=2),x+2<T.length/\Fc.looseN W T (x+1)=2:=λ x hx=>by
   obtain ⟨m1,m2⟩:=mem_filter.mp hx;have:=mem_range.mp m1;exact ⟨by omega,of_decide_eq_true m2⟩
  have el:wI W T=((List.range (T.length-2)).filter λ i=>decide (Fc.looseN W T (i+1)=2)).headD 0+1:=rfl;generalize (List.range (T.length-2)).filter (λ i=>decide (Fc.looseN W T (i+1)=2))=L at *
  cases L with
  | nil=>cases mi
  | cons x L =>
   obtain ⟨a1,a2⟩:=all x (by simp);refine ⟨_,rfl,D,_,_,_,rfl,rfl,SqL.of hD,qV (j:=0) rfl,k (x+1) H2 g2 el.symm (by omega) (by omega) a2⟩
def fS:Sp:=λ vs H Q _=>∃ (r:Addr) (row:List Nat) (x y:Nat),vs=[.ref r,vn x,vn y]/\H r=some (.tup (row.map vn))/\x∈row/\y∈row/\row.length<=42 /\
 ∀ (l:Addr) (H':Hp),Same H H'->H' l=some (.lst (((rot row x).take ((rot row x).idxOf y+1)).map vn))->Q (.ref l) H'
theorem tQ {f:Addr} {fd:FuncData} (F:Fun K "from_to" "from_to" zO f fd) (dD:Own.Has P w K mg base "from_on" ["row","first"] 1 (fT)) (z_list:mg "list" = none):FnOk P w K mg base CX0 2 f fd ["row","first","last"] (fS):=by
 refine F.ok sc_from_to (λ vs H Q E h=>?_) (λ cdv A outer s0 H vs Q E hr h=>?_)
 ·obtain ⟨r,row,x,y,rfl,_⟩:=h
  rfl
 obtain ⟨r,row,x,y,rfl,hr',hx,hy,l42,k⟩:=h
 refine ⟨_,(kF (kT (i:=3) sc_from_to.nd rfl (Or.inl rfl) (Own.pe_has dD (hr.mono (by decide)) rfl (kB (pv 0) (kB (pv 1) kD))))
   (kM (kX (qO vP rfl z_list PyProof.Rows.boot_list (kB (qH kHU (pv 3) qR (qG (kZ qX (jS PySem.F.plainAttrs_tuple PySem.F.slot_tuple_index PySem.F.type_tuple_index uM (pv 3) (kB (pv 2) kD)) kK))) kD))))),?_⟩
 refine ⟨_,rfl,_,rfl,r,row,x,rfl,.inr hr',hx,by omega,λ t H1 g1 ht=>?_⟩;have mr:y∈rot row x:=((kFD row x).mem y).mp hy;have lr:(rot row x).length=row.length:=(kFD row x).perm.length_eq.symm;have il:=idxOf_lt_length_of_mem mr;refine ⟨_,rfl,_,rfl,.inr (.inl ⟨rfl,.inr ⟨_,ht⟩⟩),_,rfl,t,(rot row x).map ci,y,(rot row x).idxOf y,rfl,rfl,SqT.of (by rw [ht,xF]),qT mr,_,_,rfl,rfl,_,rfl,t,_,rfl,ht,λ p H2 g2 hp=>?_⟩;rw [show (((rot row x).idxOf y:Nat):Int)+1=(((rot row x).idxOf y+1:Nat):Int) by omega,xN _ (by rw [length_map];omega),<-map_take] at hp;exact ⟨p,_,rfl,.inr (SqT.of hp),λ l nl=>k l _ (g1.trans (Same.trans g2 (kE nl _))) kC⟩
def kDG (K0:Nat) (σ:St) (H:Hp):Nat:=match σ with
 | [_,_,_,_,_,_,some (.ref s),_,_]=>K0-lO (H s)
 | _=>0
theorem kAN {W:Rows} {T off:List Nat} {a b:Nat} (h:Fc.Pel W a b T off):∀ x∈T,x<W.length:=λ x hx=>by
 obtain ⟨u,hu⟩:=lZ hx;obtain ⟨v,hv⟩:=vI hx;obtain ⟨row,_,_,er,_⟩:=h.row u x v hu hv;exact (List.getElem?_eq_some_iff.mp er).1
theorem kBO {T:List Nat} {i:Nat} (h:i<T.length):atI (T.map vn) (i:Int)=some (vn (T.getD i 0)):=qV (by rw [List.getElem?_map,getD_eq_getElem?_getD,List.getElem?_eq_getElem h];rfl)
def cE:Sp:=λ vs H Q _=>∃ (w z:Addr) (W:Rows) (a b c:Nat),vs=[.ref w,.ref z]/\WebAt H w W/\Tr W/\Good W/\H z=some (.tup [vn a,vn b,vn c])/\Tri.E W a c/\(nxt W (a,c)).2=b /\
 ∀ (o:Addr) (rest:List Nat) (H':Hp),Same H H'->H' o=some (.tup ((a::b::rest.reverse).map vn))->Fc.Peels W a b [a,c,b] [] rest->Pd W [a,c,b] rest->Q (.ref o) H'
theorem rA {f:Addr} {fd:FuncData} (F:Fun K "order_of" "order_of" yL f fd) (qM:Own.Has P w K mg base "must_have_base" ["web","base"] 6 (zU)) (wK:Own.Has P w K mg base "first_loose" ["web","top"] 1 (nB)) (dC:Own.Has P w K mg base "from_to" ["row","first","last"] 2 (fS)) (z_len:mg "len" = none) (z_tuple:mg "tuple" = none):FnOk P w K mg base CX0 7 f fd ["web","base"] (cE):=by
 refine F.ok sc_order_of (λ vs H Q E h=>?_) (λ cdv A outer s0 H vs Q E hr h=>?_)
 ·obtain ⟨w,z,W,a,b,c,rfl,_⟩:=h
  rfl
 obtain ⟨w,z,W,a,b,c,rfl,hW,TW,G,hz,hE,hb,k⟩:=h
 refine ⟨_,(kF (jE (Own.pe_has qM (hr.mono (by decide)) rfl (kB (pv 0) (kB (pv 1) kD))))
   (kF (vD (pv 1) (yQ rfl (qC (kR (i:=2) sc_order_of.nd rfl (Or.inl rfl)) (qC (kR (i:=3) sc_order_of.nd rfl (Or.inl rfl)) (qC (kR (i:=4) sc_order_of.nd rfl (Or.inl rfl)) xB)))))
   (kF (kT (i:=5) sc_order_of.nd rfl (Or.inl rfl) (qS (kB (pv 2) (kB (pv 4) (kB (pv 3) kD)))))
   (kF (kT (i:=6) sc_order_of.nd rfl (Or.inl rfl) (qS kD))
   (kF (pW PassesOwn.never (qF kJW (kP kN rfl z_len PySem.boot_len (kB (pv 5) kD)) kK (qL _)) (kF (kT (i:=7) sc_order_of.nd rfl (Or.inl rfl) (Own.pe_has wK (hr.mono (by decide)) rfl (kB (pv 0) (kB (pv 5) kD))))
   (kF (kT (i:=8) sc_order_of.nd rfl (Or.inl rfl) (qB kY (pv 5) (pv 7) (λ _ _=>rfl)))
   (kF (kT (i:=5) sc_order_of.nd rfl (Or.inl rfl) (kZ zC (kZ zC (qH jD (pv 5) qR (qG (kZ xH (pv 7) kK))) (Own.pe_has dC (hr.mono (by decide)) rfl (kB (qB jC (pv 0) (pv 8) (λ _ _=>rfl)) (kB (qB kY (pv 5) (kZ xH (pv 7) kK) (λ _ _=>rfl)) (kB (qB kY (pv 5) (kZ qX (pv 7) kK) (λ _ _=>rfl)) kD))))) (qH jD (pv 5) (qG (kZ qX (pv 7) kK)) qR)))
   (kM (jE (jS PySem.F.plainAttrs_list PySem.F.slot_list_append PySem.F.type_list_append jM (pv 6) (kB (pv 8) kD))))))))
   (kM (kX (kZ kIN (qW (kB (pv 2) (kB (pv 3) kD))) (qO qE rfl z_tuple PyProof.Rows.boot_tuple (kB (kIH (pv 6) (qG (wU yH kK))) kD)))))))))),?_⟩
 refine ⟨_,rfl,_,rfl,w,z,W,a,b,c,rfl,hW,TW,hz,hE,hb,λ H1 g1=>?_⟩;refine ⟨_,rfl,z,_,rfl,SqT.of (g1 _ _ hz),rfl,_,_,rfl,_,_,rfl,_,_,rfl,rfl,?_⟩;refine ⟨_,rfl,_,rfl,_,rfl,L2.y3,λ tp ntp=>?_⟩;have gt:=kE ntp (.lst [vn a,vn c,vn b]);have htp:=kC (H:=H1) (a:=tp) (o:=.lst [vn a,vn c,vn b]);refine ⟨L2.y0,λ fo nfo=>?_⟩;have gf:=kE nfo (.lst []);have hfo:=kC (H:=upd H1 tp (.lst [vn a,vn c,vn b])) (a:=fo) (o:=.lst []);have g2:=g1.trans (gt.trans gf);have nfo0:H fo=none:=(g1.trans gt).free nfo;have tf:tp≠fo:=kH htp nfo;have htp2:=gf _ _ htp;generalize upd (upd H1 tp (.lst [vn a,vn c,vn b])) fo (.lst [])=H2 at *;have S:=TW.nb;have l42:=TW.le
 have hR:R W c b a:=by
  obtain ⟨v,rv,nv,_⟩:=cB S hE;rw [nv] at hb;exact hb ▸ rv
 refine pH (λ σ H3=>∃ (tp:Addr) (x7 x8:Option V) (T off:List Nat),σ=[some (.ref w),some (.ref z),some (vn a),some (vn b),some (vn c),some (.ref tp),some (.ref fo),x7,x8]/\Same H H3/\H3 tp=some (.lst (T.map vn))/\H3 fo=some (.lst (off.map vn))/\tp≠fo/\Fc.Pel W a b T off/\(∀ x∈off,x<W.length)/\(∀ rest,Fc.Peels W a b T off rest->Fc.Peels W a b [a,c,b] [] (off++rest))/\∀ rest,Pd W T rest->Pd W [a,c,b] (off++rest)) (kDG (W.length+1))
  ⟨tp,none,none,[a,c,b],[],rfl,g2,htp2,hfo,tf,Fc.Pel.start G hR,(by simp),(λ rest h=>h),λ rest h=>h⟩ ?_ ?_
 ·rintro σ H3 ⟨tp,x7,x8,T,off,rfl,g3,hT,hF,tf,hP,offr,hist,histd⟩
  have rng:=kAN hP
  have Tl:T.length<=W.length:=by
   have:=List.Nodup.length_le_of_subset hP.nd (l₂:=List.range W.length) λ x hx=>mem_range.mpr (rng x hx);rwa [length_range] at this
  have ol:off.length<=W.length:=by
   have:=List.Nodup.length_le_of_subset hP.nof (l₂:=List.range W.length) λ x hx=>mem_range.mpr (offr x hx);rwa [length_range] at this
  have two:=hP.two;refine ⟨_,rfl,tp,_,rfl,.inl (SqL.of hT),_,_,rfl,rfl,_,rfl,?_⟩;rw [length_map];by_cases cc:T.length>2
  ·rw [decide_eq_true (show ((T.length:Nat):Int)>2 by omega)]
   refine wJ ?_;refine ⟨_,rfl,_,rfl,w,tp,W,T,rfl,hW.kept g3,hT,rng,by omega,hP.looseN G (by omega),λ i H4 g4 ei h0 h1 lo=>?_⟩;obtain ⟨mid,row,er,mu,mw,ert,hP2,hist2⟩:=hP.turn G h0 h1 lo
   have enx:kGB W T=T.take (i-1)++(T.getD (i-1) 0::mid++[T.getD (i+1) 0])++T.drop (i+2):=by
    unfold kGB;rw [<-ei,show W.getD (T.getD i 0) []=row by rw [getD_eq_getElem?_getD,er];rfl,ert]
   have g04:=g3.trans g4;have hT4:=g4 _ _ hT;have lrow:=S.len er;refine ⟨_,rfl,_,rfl,tp,_,_,_,rfl,rfl,SqL.of hT4,kBO (by omega),?_⟩;refine ⟨_,rfl,_,rfl,_,_,rfl,rfl,_,rfl,tp,_,rfl,SqL.of hT4,λ p1 m1=>?_⟩;rw [show ((i:Int)-1)=((i-1:Nat):Int) by omega,xN _ (by rw [length_map];omega),<-map_take];have gp1:=kE m1 (.lst ((T.take (i-1)).map vn));have hp1:=kC (H:=H4) (a:=p1) (o:=.lst ((T.take (i-1)).map vn));have g05:=g04.trans gp1;have hT5:=gp1 _ _ hT4;have hF5:=gp1 _ _ (g4 _ _ hF);generalize upd H4 p1 (.lst ((T.take (i-1)).map vn))=H5 at *;obtain ⟨tw,hw1,lw,hw3⟩:=(hW.kept g05).at;obtain ⟨b',e1,e2⟩:=hw3 _ _ er;have ati1:atI (T.map vn) ((i:Int)-1)=some (vn (T.getD (i-1) 0)):=by rw [show ((i:Int)-1)=((i-1:Nat):Int) by omega];exact kBO (by omega)
   have ati2:atI (T.map vn) ((i:Int)+1)=some (vn (T.getD (i+1) 0)):=kBO (i:=i+1) (by omega);refine ⟨_,rfl,_,rfl,w,_,_,_,rfl,rfl,SqT.of hw1,e1,_,rfl,_,rfl,_,_,rfl,rfl,tp,_,_,_,rfl,rfl,SqL.of hT5,ati1,_,rfl,_,rfl,_,_,rfl,rfl,tp,_,_,_,rfl,rfl,SqL.of hT5,ati2,b',row,_,_,rfl,e2,mu,mw,by omega,λ l H6 g6 hl=>?_⟩;rw [ert] at hl;have hT6:=g6 _ _ hT5;have hF6:=g6 _ _ hF5;have hp6:=g6 _ _ hp1;have g06:=g05.trans g6;have rng2:=kAN hP2
   have T2l:(T.take (i-1)++(T.getD (i-1) 0::mid++[T.getD (i+1) 0])++T.drop (i+2)).length<=W.length:=by
    have:=List.Nodup.length_le_of_subset hP2.nd (l₂:=List.range W.length) λ x hx=>mem_range.mpr (rng2 x hx);rwa [length_range] at this
   generalize hst:T.getD (i-1) 0::mid++[T.getD (i+1) 0]=st at *;rw [length_append,length_append] at T2l;refine ⟨p1,l,_,_,rfl,rfl,hp6,hl,(by rw [length_map,length_map];exact Nat.le_of_lt (kQ (by omega))),λ p3 m3=>?_⟩;have gp3:=kE m3 (.lst ((T.take (i-1)).map vn++st.map vn));have hp3:=kC (H:=H6) (a:=p3) (o:=.lst ((T.take (i-1)).map vn++st.map vn));have hT7:=gp3 _ _ hT6;have hF7:=gp3 _ _ hF6;have g07:=g06.trans gp3;generalize upd H6 p3 (.lst ((T.take (i-1)).map vn++st.map vn))=H7 at *;refine ⟨_,rfl,_,rfl,_,_,rfl,rfl,_,rfl,tp,_,rfl,SqL.of hT7,λ p4 m4=>?_⟩;rw [show ((i:Int)+2)=((i+2:Nat):Int) by omega,zB _ (by rw [length_map];omega),<-map_drop];have gp4:=kE m4 (.lst ((T.drop (i+2)).map vn));have hp4:=kC (H:=H7) (a:=p4) (o:=.lst ((T.drop (i+2)).map vn));have hp38:=gp4 _ _ hp3;have hF8:=gp4 _ _ hF7;have g08:=g07.trans gp4;generalize upd H7 p4 (.lst ((T.drop (i+2)).map vn))=H8 at *;refine ⟨p3,p4,_,_,rfl,rfl,hp38,hp4,(by rw [length_append,length_map,length_map,length_map];exact Nat.le_of_lt (kQ (by omega))),λ p5 m5=>?_⟩;rw [<-map_append,<-map_append];generalize hT':T.take (i-1)++st++T.drop (i+2)=T' at *;have gp5:=kE m5 (.lst (T'.map vn));have hp5:=kC (H:=H8) (a:=p5) (o:=.lst (T'.map vn));have hF9:=gp5 _ _ hF8;have g09:=g08.trans gp5;have p5f:p5≠fo:=(kH hF8 m5).symm;generalize upd H8 p5 (.lst (T'.map vn))=H9 at *;refine ⟨_,rfl,.inl ⟨rfl,_,SqL.of hF9⟩,_,rfl,fo,_,_,rfl,rfl,hF9,(by rw [length_map];exact kQ (by omega)),?_⟩;have eoff:off.map vn++[vn (T.getD i 0)]=(off++[T.getD i 0]).map vn:=by rw [map_append];rfl
   rw [eoff];refine ⟨⟨p5,_,_,T',off++[T.getD i 0],rfl,qP nfo0 g09,(by rw [kO p5f];exact hp5),kC,p5f,hP2,λ x hx=>?_,λ rest hr=>?_,λ rest hr=>?_⟩,?_⟩
   ·rcases mem_append.mp hx with q | q
    ·exact offr x q
    ·rw [mem_singleton.mp q]
     exact (List.getElem?_eq_some_iff.mp er).1
   ·rw [append_assoc]
    exact hist _ (hist2 rest hr)
   ·rw [append_assoc]
    refine histd _ ?_;rw [ei];exact .step cc (by rw [enx];exact hr)
   ·show W.length+1-lO (upd H9 fo (.lst ((off++[T.getD i 0]).map vn)) fo)<W.length+1-lO (H3 fo)
    rw [kC,hF];show W.length+1-((off++[T.getD i 0]).map vn).length<W.length+1-(off.map vn).length;rw [length_map,length_map,length_append,length_singleton];omega
  ·rw [decide_eq_false (show ¬ ((T.length:Nat):Int)>2 by omega)]
   refine xI ?_;have T2:=hP.two_end (by omega);subst T2;have fin:=hist [] (.done hP);rw [append_nil] at fin;have find:=histd [] (.done (by simp));rw [append_nil] at find;refine ⟨_,rfl,_,rfl,L2.y2,λ t2 n2=>?_⟩;have gt2:=kE n2 (.tup [vn a,vn b]);have ht2:=kC (H:=H3) (a:=t2) (o:=.tup [vn a,vn b]);have hF4:=gt2 _ _ hF;have g04:=g3.trans gt2;generalize upd H3 t2 (.tup [vn a,vn b])=H4 at *;refine ⟨_,rfl,_,rfl,_,rfl,fo,_,rfl,rfl,hF4,λ p np=>⟨p,_,rfl,.inl ⟨SqL.of kC,λ t3 n3=>?_⟩⟩⟩;have gp:=kE np (.lst (off.map vn).reverse);have g3':=kE n3 (.tup (off.map vn).reverse);refine ⟨t2,t3,_,_,rfl,rfl,g3' _ _ (gp _ _ ht2),kC,(by rw [length_reverse,length_map];exact Nat.le_of_lt (kQ (by show 2+_<=_;omega))),λ o H5 g5 ho=>?_⟩;refine k o off H5 (g04.trans (gp.trans (g3'.trans g5))) ?_ fin find;rw [ho,<-List.map_reverse]
   rfl
 ·rintro σ H1 Q1 Q2 m ⟨v,e1,p,ys,e2,e3,i,j,e4,e5,kk,e6,q1⟩
  exact ⟨v,e1,p,ys,e2,e3,i,j,e4,e5,kk,e6,m _ _ q1⟩
theorem fK {W:Rows} (S:Nb W) {p q:Nat} (h:E W p q):∃ row,W[q]?=some row/\p∈row/\jL row p=some (nxt W (p,q)).2/\E W q (nxt W (p,q)).2:=by
 obtain ⟨row,e,m⟩:=S.sym p q h;obtain ⟨v,hv⟩:=fE m
 have en:(nxt W (p,q)).2=v:=by
  unfold nxt;rw [getD_eq_getElem?_getD,e];show (jL row p).getD 0=v;rw [hv]
  rfl
 rw [en];exact ⟨row,e,m,hv,row,e,kFL (S.nd _ _ e) m hv⟩
def IsBs (W:Rows) (H:Hp) (x:Addr):Prop:=∃ a b c:Nat,H x=some (.tup [vn a,vn b,vn c])/\E W a c/\(nxt W (a,c)).2=b
theorem IsBs.kept {W:Rows} {H H':Hp} {x:Addr} (h:IsBs W H x) (g:Same H H'):IsBs W H' x:=by
 obtain ⟨a,b,c,h1,h2,h3⟩:=h;exact ⟨a,b,c,g _ _ h1,h2,h3⟩
def nE:Sp:=λ vs H Q _=>∃ (p w:Addr) (W:Rows),vs=[.ref p,.ref w]/\PotAt H p/\WebAt H w W/\Tr W/\3<=W.length/\(∀ (q:Nat) (row:List Nat),W[q]?=some row->row≠[]) /\
 ∀ (l:Addr) (bs:List Addr) (H':Hp),SameBut p H H'->PotAt H' p->H' l=some (.lst (bs.map V.ref))->(∀ x∈bs,IsBs W H' x/\x≠p)->l≠p->bs.length<=1000->Q (.ref l) H'
theorem oD {f:Addr} {fd:FuncData} (F:Fun K "_law_bases" "_law_bases" xV f fd) (jY:Own.Has P w K mg base "_law_third" ["_law_web_here","_law_p","_law_q"] 1 (dU)) (qK:Own.Has P w K mg base "_law_digit" ["_law_pot_here","_law_many"] 1 (uK)) (z_len:mg "len" = none) (z_enumerate:mg "enumerate" = none):FnOk P w K mg base CX0 2 f fd ["_law_pot_here","_law_web_here"] (nE):=by
 refine F.ok sc_law_bases (λ vs H Q EX h=>?_) (λ cdv A outer s0 H vs Q EX hr h=>?_)
 ·obtain ⟨p,w,W,rfl,_⟩:=h
  rfl
 obtain ⟨p,w,W,rfl,pp,hW,TW,l3,ne,k⟩:=h
 refine ⟨_,(kF (xE (qF pX (kP kN rfl z_len PySem.boot_len (kB (pv 1) kD)) kK (qL _)) (kF (kT (i:=2) sc_law_bases.nd rfl (Or.inl rfl) (qS kD))
   (kF (wH PassesOwn.never rfl (nS false rfl z_enumerate (kB (pv 1) kD)) (yQ rfl (qC (kR (i:=3) sc_law_bases.nd rfl (Or.inr rfl)) (qC (kR (i:=4) sc_law_bases.nd rfl (Or.inl rfl)) xB))) (kM (kT (i:=2) sc_law_bases.nd rfl (Or.inl rfl) (kZ zC (pv 2) (xL (Nc:=["_law_q","_law_p","_law_web_here"]) (js:=[none,some 3,some 1]) rfl rfl (cL (pv 4)) (CS.of rfl rfl) rfl (λ C s₂ H₂ fp pins=>(kR (i:=0) (show List.Nodup (α:=Str) ["_law_q","_law_p","_law_web_here"] by decide +kernel) rfl (Or.inl rfl))) (λ C s₂ H₂ fp pins D L=>(xK (jX (qW (kB (pv 1) (kB (Own.pe_has jY (hr.mono (by decide)) rfl (kB (pv 2) (kB (pv 1) (kB (pv 0) kD)))) (kB (pv 0) kD))))))))))))
   (kM (kX (pv 2))))) qQ)
   (kF (kT (i:=3) sc_law_bases.nd rfl (Or.inr rfl) (Own.pe_has qK (hr.mono (by decide)) rfl (kB (pv 0) (kB (kP kN rfl z_len PySem.boot_len (kB (pv 1) kD)) kD))))
   (kF (kT (i:=5) sc_law_bases.nd rfl (Or.inl rfl) (qB jC (qB jC (pv 1) (pv 3) (λ _ _=>rfl)) (Own.pe_has qK (hr.mono (by decide)) rfl (kB (pv 0) (kB (kP kN rfl z_len PySem.boot_len (kB (qB jC (pv 1) (pv 3) (λ _ _=>rfl)) kD)) kD))) (λ _ _=>rfl)))
   (kF (kT (i:=6) sc_law_bases.nd rfl (Or.inl rfl) (Own.pe_has jY (hr.mono (by decide)) rfl (kB (pv 1) (kB (pv 3) (kB (pv 5) kD)))))
   (kM (kX (qS (kB (qW (kB (pv 3) (kB (pv 6) (kB (pv 5) kD)))) (kB (qW (kB (pv 5) (kB (pv 3) (kB (pv 6) kD)))) (kB (qW (kB (pv 6) (kB (pv 5) (kB (pv 3) kD)))) kD)))))))))),?_⟩
 have S:=TW.nb;have l42:=TW.le;obtain ⟨ts,h1,lts,h3⟩:=id hW;obtain ⟨px,py,hpot,_⟩:=id pp;refine ⟨_,rfl,w,_,rfl,.inr (SqT.of h1),_,_,rfl,rfl,_,rfl,oI (λ cc=>?_) (λ cc=>?_)⟩
 ·have cc:=of_decide_eq_true cc
  rw [length_map,lts] at cc;refine ⟨L2.y0,λ l0 nl0=>?_⟩;have g0:=kE nl0 (.lst [])
  refine ⟨_,rfl,w,rfl,⟨_,SqT.of (g0 _ _ h1)⟩,rV (k:=false) (xs:=ts.map V.ref) (λ i σ H2=>∃ (l:Addr) (x3 x4 x5 x6:Option V) (bs:List Addr),σ=[some (.ref p),some (.ref w),some (.ref l),x3,x4,x5,x6]/\Same H H2/\H2 l=some (.lst (bs.map V.ref))/\(∀ x∈bs,IsBs W H2 x/\H x=none)/\H l=none/\bs.length<=i*8)
   ⟨l0,none,none,none,none,[],rfl,g0,kC,(by simp),nl0,(by simp)⟩ ?_ ?_ ?_⟩
  ·rintro i σ H2 _ ⟨l,x3,x4,x5,x6,bs,rfl,g2,_⟩
   exact SqT.of (g2 _ _ h1)
  ·rintro i x T σ H2 hx nT ⟨l,x3,x4,x5,x6,bs,rfl,g2,hl,hbs,nl,lb⟩
   rw [List.getElem?_map] at hx;obtain ⟨b,eb,rfl⟩:=Option.map_eq_some_iff.mp hx;have hi:i<W.length:=by rw [<-lts];exact (List.getElem?_eq_some_iff.mp eb).1
   have et:=List.getElem?_eq_getElem hi;have hb:=h3 i b _ eb et;have lr:=S.len et;have gT':=kE nT (.tup [.int i,.ref b]);have gT:=g2.trans gT';refine ⟨T,_,rfl,SqT.of kC,rfl,_,_,rfl,_,_,rfl,rfl,?_⟩;have hl3:=gT' _ _ hl;have hbs3:∀ x∈bs,IsBs W (upd H2 T (.tup [.int i,.ref b])) x/\H x=none:=λ x hx=>⟨(hbs x hx).1.kept gT',(hbs x hx).2⟩;generalize upd H2 T (.tup [.int i,.ref b])=H3 at *;generalize W[i]=row at *;refine ⟨_,rfl,_,rfl,b,rfl,⟨_,SqT.of (gT _ _ hb)⟩,λ D nD=>?_⟩
   refine wN (xs:=row.map vn) (λ j σ H4=>∃ (x0:Option V) (ds:List Addr),σ=[x0,some (vn i),some (.ref w)]/\Same H3 H4/\H4 D=some (.lst (ds.map V.ref))/\(∀ x∈ds,IsBs W H4 x/\H3 x=none)/\ds.length=j)
    ⟨none,[],rfl,kE nD _,kC,(by simp),rfl⟩ ?_ ?_ ?_
   ·rintro j σ H4 _ ⟨x0,ds,rfl,g4,_⟩
    exact SqT.of (g4 _ _ (gT _ _ hb))
   ·rintro j v σ H4 hv ⟨x0,ds,rfl,g4,hD,hds,ld⟩
    rw [List.getElem?_map] at hv;obtain ⟨q,eq',rfl⟩:=Option.map_eq_some_iff.mp hv;have hj:=(List.getElem?_eq_some_iff.mp eq').1;have eW:E W i q:=⟨row,et,mem_of_getElem? eq'⟩;obtain ⟨r1,a1,a2,a3,a4⟩:=fK S eW;refine ⟨_,rfl,_,rfl,_,rfl,_,rfl,w,W,i,q,r1,_,rfl,(hW.kept gT).kept g4,a1,a2,a3,_,rfl,L2.y3,λ t nt=>?_⟩;have gt:=kE nt (.tup [vn i,vn (nxt W (i,q)).2,vn q]);have Dt:t≠D:=(kH hD nt).symm;refine ⟨_,gt _ _ hD,(by rw [length_map];exact kQ (by omega)),?_⟩
    have stay:∀ x,x≠D->∀ o,H4 x=some o->upd (upd H4 t (.tup [vn i,vn (nxt W (i,q)).2,vn q])) D (.lst (ds.map V.ref++[V.ref t])) x=some o:=λ x hx o e=>by
     rw [kO hx];exact gt _ _ e
    refine ⟨_,ds++[t],rfl,qP nD (g4.trans gt),(by rw [map_append];exact kC),λ x hx=>?_,by rw [length_append,ld];rfl⟩;rcases mem_append.mp hx with m | m
    ·obtain ⟨⟨a',b',c',e1,e2,e3⟩,n3⟩:=hds x m
     refine ⟨⟨a',b',c',stay x (λ z=>?_) _ e1,e2,e3⟩,n3⟩;rw [z,hD] at e1;cases e1
    ·rw [mem_singleton.mp m]
     refine ⟨⟨i,_,q,?_,eW,rfl⟩,g4.free nt⟩;rw [kO Dt];exact kC
   ·rintro σ H4 ⟨x0,ds,rfl,g4,hD,hds,ld⟩
    rw [length_map] at ld;refine ⟨l,D,_,_,rfl,rfl,g4 _ _ hl3,hD,(by rw [length_map,length_map];exact Nat.le_of_lt (kQ (by omega))),λ p3 m3=>?_⟩;have g5:=kE m3 (.lst (bs.map V.ref++ds.map V.ref));refine ⟨p3,_,_,_,_,bs++ds,rfl,gT.trans (g4.trans g5),(by rw [map_append];exact kC),λ x hx=>?_,(gT.trans g4).free m3,(by rw [length_append];omega)⟩;rcases mem_append.mp hx with m | m
    ·exact ⟨((hbs3 x m).1.kept g4).kept g5,(hbs3 x m).2⟩
    ·exact ⟨(hds x m).1.kept g5,gT.free (hds x m).2⟩
  ·rintro σ H2 ⟨l,x3,x4,x5,x6,bs,rfl,g2,hl,hbs,nl,lb⟩
   rw [length_map,lts] at lb;have np:∀ x,H x=none->x≠p:=λ x hx z=>by rw [z,hpot] at hx;cases hx
   exact ⟨_,rfl,k l bs H2 (.of g2) (pp.kept g2) hl (λ x hx=>⟨(hbs x hx).1,np x (hbs x hx).2⟩) (np l nl) (by omega)⟩
 ·have wp:w≠p:=λ z=>by
   rw [z,hpot] at h1;cases h1
  refine ⟨_,rfl,_,rfl,w,_,rfl,.inr (SqT.of h1),p,_,rfl,pp,(by rw [length_map,lts];omega),tU (by rw [length_map,lts];exact Nat.lt_of_le_of_lt (m:=1000) (by omega) (by decide)),λ d H2 d0 d1 s2 p2=>?_⟩;rw [length_map,lts] at d1;obtain ⟨x,rfl⟩:=Int.eq_ofNat_of_zero_le d0;have hW2:=hW.pot s2 pp;obtain ⟨tw,hw1,lw,hw3⟩:=hW2.at;have hx:x<W.length:=by omega
  have ex:=List.getElem?_eq_getElem hx;obtain ⟨b1,e1,e2⟩:=hw3 _ _ ex;have rne:=ne x _ ex;have rlen:=S.len ex;have rpos:0<W[x].length:=List.length_pos_iff.mpr rne;generalize W[x]=row at *;refine ⟨_,rfl,_,rfl,w,_,_,_,rfl,rfl,SqT.of hw1,e1,_,rfl,_,rfl,_,rfl,w,_,_,_,rfl,rfl,SqT.of hw1,e1,b1,_,rfl,.inr (SqT.of e2),p,_,rfl,p2,(by rw [length_map];omega),tU (by rw [length_map];exact Nat.lt_of_le_of_lt (m:=1000) (by omega) (by decide)),λ d' H3 e0 e1' s3 p3=>?_⟩;rw [length_map] at e1';obtain ⟨j,rfl⟩:=Int.eq_ofNat_of_zero_le e0;have hj:j<row.length:=by omega
  obtain ⟨px2,py2,hpot2,_⟩:=id p2
  have b1p:b1≠p:=λ z=>by
   rw [z,hpot2] at e2;cases e2
  have hW3:=hW2.pot s3 p2;refine ⟨b1,_,_,_,rfl,rfl,SqT.of (s3 _ _ b1p e2),kBO hj,?_⟩;have eW:E W x (row.getD j 0):=⟨row,ex,by rw [getD_eq_getElem?_getD,List.getElem?_eq_getElem hj];exact getElem_mem hj⟩;generalize row.getD j 0=q at *;obtain ⟨r1,a1,a2,a3,a4⟩:=fK S eW;have three:=TW.three;have t1:=three (x,q) (mem_steps.mpr eW);have n1:nxt W (x,q)=(q,(nxt W (x,q)).2):=rfl;have t2:=three (q,(nxt W (x,q)).2) (mem_steps.mpr a4)
  have n2:nxt W (q,(nxt W (x,q)).2)=((nxt W (x,q)).2,x):=by
   rw [<-n1];exact Prod.ext rfl t1
  rw [n2] at t2;obtain ⟨r2,c1,c2,c3,c4⟩:=fK S a4;rw [n2] at c4;refine ⟨_,rfl,_,rfl,_,rfl,w,W,x,q,r1,_,rfl,hW3,a1,a2,a3,?_⟩;generalize hrr:(nxt W (x,q)).2=r at *;refine ⟨_,rfl,_,rfl,_,rfl,L2.y3,λ y1 m1=>?_⟩;have k1:=kE m1 (.tup [vn x,vn r,vn q]);refine ⟨_,rfl,_,rfl,_,rfl,L2.y3,λ y2 m2=>?_⟩;have k2:=kE m2 (.tup [vn q,vn x,vn r]);refine ⟨_,rfl,_,rfl,_,rfl,L2.y3,λ y3 m3=>?_⟩;have k3:=kE m3 (.tup [vn r,vn q,vn x]);refine ⟨L2.y3,λ l m4=>?_⟩;have k4:=kE m4 (.lst [.ref y1,.ref y2,.ref y3]);have kk:=k1.trans (k2.trans (k3.trans k4));have z1:=k4 _ _ (k3 _ _ (k2 _ _ (kC (H:=H3) (a:=y1) (o:=.tup [vn x,vn r,vn q]))));have z2:=k4 _ _ (k3 _ _ (kC (H:=upd H3 y1 (.tup [vn x,vn r,vn q])) (a:=y2) (o:=.tup [vn q,vn x,vn r])));have z3:=k4 _ _ (kC (H:=upd (upd H3 y1 (.tup [vn x,vn r,vn q])) y2 (.tup [vn q,vn x,vn r])) (a:=y3) (o:=.tup [vn r,vn q,vn x]));have z4:=kC (H:=upd (upd (upd H3 y1 (.tup [vn x,vn r,vn q])) y2 (.tup [vn q,vn x,vn r])) y3 (.tup [vn r,vn q,vn x])) (a:=l) (o:=.lst [.ref y1,.ref y2,.ref y3]);have p9:=p3.kept kk
  have l3':l≠p:=λ z=>by
   have e:=m4;rw [z] at e;obtain ⟨_,_,hh,_⟩:=((p3.kept k1).kept k2).kept k3
   cases (e.symm.trans hh)
  have nt:∀ {H9:Hp} {y:Addr} {xs:List V},PotAt H9 p->H9 y=some (.tup xs)->y≠p:=λ hp e z=>by
   obtain ⟨_,_,hh,_⟩:=hp;rw [z,hh] at e;cases e
  refine k l [y1,y2,y3] _ (s2.trans (s3.trans (.of kk))) p9 z4 (λ y hy=>?_) l3' (by simp);simp only [mem_cons,not_mem_nil,or_false] at hy;rcases hy with rfl | rfl | rfl
  ·exact ⟨⟨x,r,q,z1,eW,hrr⟩,nt p9 z1⟩
  ·exact ⟨⟨q,x,r,z2,a4,by rw [n2]⟩,nt p9 z2⟩
  ·exact ⟨⟨r,q,x,z3,c4,t2⟩,nt p9 z3⟩
theorem kBB {W:Rows} (G:Good W) (h:W.length<=42):Tr W:=⟨(Wb.of G).toNb,h,(aO G).1,(aO G).2⟩
theorem fJ:Good [[1,2],[0,2],[0,1]]:=by
 have look:∀ (x:Nat) (row:List Nat),([[1,2],[0,2],[0,1]]:Rows)[x]?=some row->(x=0/\row=[1,2])\/(x=1/\row=[0,2])\/(x=2/\row=[0,1]):=by
  intro x row h
  match x,h with
  | 0,h=>exact .inl ⟨rfl,(Option.some.inj h).symm⟩
  | 1,h=>exact .inr (.inl ⟨rfl,(Option.some.inj h).symm⟩)
  | 2,h=>exact .inr (.inr ⟨rfl,(Option.some.inj h).symm⟩)
  | n+3,h=>simp at h
 have nx2:∀ x y a b:Nat,Nx [x,y] a b↔(a=x/\b=y)\/(a=y/\b=x):=by
  intro x y a b;show ((a=x/\b=y)\/(a=y/\b=x)\/False)↔_;simp
 refine ⟨by decide,?_,?_,?_,?_,?_,by decide⟩
 ·intro x row h
  rcases look x row h with ⟨_,rfl⟩ | ⟨_,rfl⟩ | ⟨_,rfl⟩<;>simp
 ·intro x row h
  rcases look x row h with ⟨_,rfl⟩ | ⟨_,rfl⟩ | ⟨_,rfl⟩<;>decide
 ·intro x row a h m
  rcases look x row h with ⟨rfl,rfl⟩ | ⟨rfl,rfl⟩ | ⟨rfl,rfl⟩<;>simp at m ⊢<;>omega
 ·rintro x a b ⟨row,h,n⟩
  rcases look x row h with ⟨rfl,rfl⟩ | ⟨rfl,rfl⟩ | ⟨rfl,rfl⟩<;>rw [nx2] at n<;>rcases n with ⟨rfl,rfl⟩ | ⟨rfl,rfl⟩
  all_goals first | exact ⟨[0,2],rfl,(nx2 _ _ _ _).mpr (.inl ⟨rfl,rfl⟩)⟩ | exact ⟨[0,2],rfl,(nx2 _ _ _ _).mpr (.inr ⟨rfl,rfl⟩)⟩ | exact ⟨[0,1],rfl,(nx2 _ _ _ _).mpr (.inl ⟨rfl,rfl⟩)⟩ | exact ⟨[0,1],rfl,(nx2 _ _ _ _).mpr (.inr ⟨rfl,rfl⟩)⟩ | exact ⟨[1,2],rfl,(nx2 _ _ _ _).mpr (.inl ⟨rfl,rfl⟩)⟩ | exact ⟨[1,2],rfl,(nx2 _ _ _ _).mpr (.inr ⟨rfl,rfl⟩)⟩
 ·intro x hx
  match x,hx with
  | 0,_=>exact .here _
  | 1,_=>exact .more (.here _) ⟨[1,2],rfl,by decide⟩
  | 2,_=>exact .more (.here _) ⟨[1,2],rfl,by decide⟩
theorem kCH {rest:List Nat} (h:Fc.Peels [[1,2],[0,2],[0,1]] 2 0 [2,1,0] [] rest):2::0::rest.reverse=[2,0,1]:=by
 obtain ⟨pm,Fs,Ts,lf⟩:=h.laid fJ (c:=1) ⟨[0,2],rfl,.inl ⟨rfl,rfl⟩⟩;have l:=pm.length_eq;simp at l;unfold zH at lf
 split at lf
 ·rename_i q
  match rest,l with
  | [x],_ =>
   have:=q.2.2;simp at this;rw [this]
   rfl
 ·cases lf
theorem kGX {H:Hp} {t x y:Addr} {A B:Rows} (h:H t=some (.tup [.ref x,.ref y])) (hx:WebAt H x A) (hy:WebAt H y B):Dt K H (.tuple [aQ A,aQ B]) (.ref t):=by
 unfold Dt;refine ⟨t,_,rfl,SqT.of h,?_⟩;unfold DtAll;refine ⟨_,_,rfl,hx.dt,?_⟩;unfold DtAll;refine ⟨_,_,rfl,hy.dt,?_⟩;unfold DtAll
 rfl
theorem kEG (A B:Rows):SeqAt.shaped (.tuple [aQ A,aQ B])=true:=by
 obtain ⟨h1,h2⟩:=pJ A;obtain ⟨h3,h4⟩:=pJ B;unfold aQ SeqAt.shaped;simp only [PyData.canLay0,PyData.depth,PyData.canLayAll0,PyData.depthAll,h1,h3]
 first | (simp;omega) | (rw [Bool.and_eq_true];exact ⟨rfl,decide_eq_true (by omega)⟩) | simp_all
theorem kHN (A B:Rows):PyData.eqv (.tuple [aQ A,aQ B]) (.tuple [aQ A,aQ B])=true:=by
 rw [PyData.eqv];simp [PyData.eqvAll,kEE]
def fR:Sp:=λ vs H Q _=>∃ (w z:Addr) (W:Rows) (a b c:Nat),vs=[.ref w,.ref z]/\WebAt H w W/\Tr W/\Good W/\H z=some (.tup [vn a,vn b,vn c])/\E W a c/\(nxt W (a,c)).2=b/\∀ H',Same H H'->Q (.bl true) H'
theorem nZ {f:Addr} {fd:FuncData} (F:Fun K "_law_right" "_law_right" xR f fd) (yU:Own.Has P w K mg base "order_of" ["web","base"] 7 (cE)) (vM:Own.Has P w K mg base "_law_walked" ["_law_web_here","_law_order"] 2 (fO)) (aM:Own.Has P w K mg base "is_order" ["web","base","thing"] 7 (cF)) (uD:Own.Has P w K mg base "stretches" ["web","base","order"] 8 (sU)) (gO:Own.Has P w K mg base "rounds" ["web","base","order"] 8 (fQ)) (z_sorted:mg "sorted" = none) (z_list:mg "list" = none) (z_range:mg "range" = none) (z_len:mg "len" = none) (z_isinstance:mg "isinstance" = none) (z_tuple:mg "tuple" = none) (z_bool:mg "bool" = none):FnOk P w K mg base CX0 9 f fd ["_law_web_here","_law_base"] (fR):=by
 refine F.ok sc_law_right (λ vs H Q EX h=>?_) (λ cdv A outer s0 H vs Q EX hr h=>?_)
 ·obtain ⟨w,z,W,a,b,c,rfl,_⟩:=h
  rfl
 obtain ⟨w,z,W,a,b,c,rfl,hW,TW,G,hz,hE,hb,k⟩:=h
 refine ⟨_,(kF (kT (i:=2) sc_law_right.nd rfl (Or.inl rfl) (Own.pe_has yU (hr.mono (by decide)) rfl (kB (pv 0) (kB (pv 1) kD))))
   (kF (xE (PW.pt (uV (uA (vC (kP Own.call_isi rfl z_isinstance PyProof.Rows.boot_isinstance (kB (pv 2) (kB (bD (v:=.ty "tuple") rfl z_tuple PyProof.Rows.boot_tuple rfl) kD))))) (aE (qF (vG hr.units) (kP hG rfl z_sorted PyProof.Rows.boot_sorted (kB (pv 2) kD)) (kAO rfl rfl z_list rfl z_range (kB (kP kN rfl z_len PySem.boot_len (kB (pv 0) kD)) kD)) (qL _))))) (kM (kX uW)) qQ)
   (kF (xE (PW.pt (uV (qF (vG hr.units) (xL (Nc:=["_law_one"]) (js:=[none]) rfl rfl (cL (pv 2)) (CS.of rfl rfl) rfl (λ C s₂ H₂ fp pins=>(kR (i:=0) (show List.Nodup (α:=Str) ["_law_one"] by decide +kernel) rfl (Or.inl rfl))) (λ C s₂ H₂ fp pins D L=>(yB (vC (kP (show yG _ _ (λ xs H Q=>∃ x t T b,xs=[x,.ty T]/\TyOf K H x t/\PySem.W.kitOne K t (.type T)=some b/\Q (.bl b) H) from Own.call_isi) rfl z_isinstance PyProof.Rows.boot_isinstance (kB (pv 0) (kB (bD (v:=.ty "bool") rfl z_bool PyProof.Rows.boot_bool rfl) kD)))) (jX (pv 0))))) (qS kD) (qL _)) (uV (qF (vG hr.units) (qH sl_tup (pv 2) qR (qG kK)) (qH sl_tup (pv 1) qR (qG kK)) (qL _)) (aE (qF lY (qB jC (pv 2) (wU yH kK) (λ _ _=>rfl)) (qB jC (pv 1) kK (λ _ _=>rfl)) (qL _)))))) (kM (kX uW)) qQ)
   (kF (kT (i:=3) sc_law_right.nd rfl (Or.inl rfl) (Own.pe_has vM (hr.mono (by decide)) rfl (kB (pv 0) (kB (pv 2) kD))))
   (kF (xE (PW.pt (uV (qF tK (pv 3) yR (qL _)) (uV (qF kCX (Own.pe_has aM (hr.mono (by decide)) rfl (kB (pv 0) (kB (pv 1) (kB (pv 2) kD)))) uW (qL _)) (aE (qF (vG hr.units) (Own.pe_has yU (hr.mono (by decide)) rfl (kB (pv 0) (kB (pv 1) kD))) (pv 2) (qL _)))))) (kM (kX uW)) qQ)
   (kF (xE (PW.pt (uV (qF (vG hr.units) (Own.pe_has yU (hr.mono (by decide)) rfl (kB (qW (kB (qW (kB kK (kB kK kD))) (kB (qW (kB kK (kB kK kD))) (kB (qW (kB kK (kB kK kD))) kD)))) (kB (qW (kB kK (kB kK (kB kK kD)))) kD))) (qW (kB kK (kB kK (kB kK kD)))) (qL _)) (aE (qF (vG hr.units) (Own.pe_has yU (hr.mono (by decide)) rfl (kB (pv 0) (kB (pv 1) kD))) (pv 2) (qL _))))) (kM (kX uW)) qQ)
   (kM (kX (vF (tL hr.units) (qW (kB (Own.pe_has gO (hr.mono (by decide)) rfl (kB (pv 0) (kB (pv 1) (kB (pv 2) kD)))) (kB (Own.pe_has uD (hr.mono (by decide)) rfl (kB (pv 0) (kB (pv 1) (kB (pv 2) kD)))) kD))) (pv 3) (qL _)))))))))),?_⟩
 have S:=TW.nb;have l42:=TW.le;have l3:=G.three
 have hR:R W c b a:=by
  obtain ⟨v,rv,nv,_⟩:=cB S hE;rw [nv] at hb;exact hb ▸ rv
 have eab:E W a b:=S.sym _ _ (oS (G.tri _ _ _ hR)).1;obtain ⟨ts,h1,lts,h3⟩:=id hW;refine ⟨_,rfl,_,rfl,w,z,W,a,b,c,rfl,hW,TW,G,hz,hE,hb,λ o rest H1 g1 ho pl pd=>?_⟩;obtain ⟨perm,Fs,Ts,lf⟩:=pl.laid G hR;have lm:(a::b::rest.reverse).length=W.length:=by rw [perm.length_eq,length_range]
 have lastc:(a::b::rest.reverse).getLast?=some c:=by
  unfold zH at lf
  split at lf
  ·rename_i q
   exact q.2.2
  ·cases lf
 have top0:Top W ((a::b::rest.reverse).take 2) ((a::b::rest.reverse).take 2):=by
  have ab:a≠b:=(S.e eab).2.2.symm;refine ⟨by simp [ab],λ x hx=>hx,λ x y j=>?_⟩;rcases j with ⟨rfl,rfl⟩ | j
  ·exact eab
  ·exact j.elim
 have go:goF W (a::b::rest.reverse) ((a::b::rest.reverse).length-2)=some (Fs,Ts):=by
  unfold zH at lf
  split at lf
  ·exact lf
  ·cases lf
 have at0':(a::b::rest.reverse).take 2=[a,b]:=rfl;have ordN:∀ rest',Pd W [a,c,b] rest'->a::b::rest'.reverse=a::b::rest.reverse:=λ rest' h=>by rw [pd.one h]
 generalize a::b::rest.reverse=ms at *;refine ⟨_,rfl,_,_,_,_,rfl,.tup ho,rfl,_,rfl,xI ?_⟩;refine ⟨_,rfl,o,ms.map ci,rfl,.inr (SqT.of (by rw [ho,xF])),λ l ns' nl pm sr=>?_⟩;rw [aZ perm pm sr];have gl:=kE nl (.lst (((List.range W.length).map ci).map V.int));have hl:=kC (H:=H1) (a:=l) (o:=.lst (((List.range W.length).map ci).map V.int));refine ⟨_,rfl,w,_,rfl,.inr (SqT.of (gl _ _ (g1 _ _ h1))),W.length,(by rw [length_map,lts]),(by omega),λ l2 n2=>?_⟩;rw [if_neg Bool.false_ne_true];have g2:=kE n2 (.lst (wW W.length));have hl2:=kC (H:=upd H1 l (.lst (((List.range W.length).map ci).map V.int))) (a:=l2) (o:=.lst (wW W.length));have gg:=g1.trans (gl.trans g2);refine ⟨zF (List.range W.length),zF (List.range W.length),uP (by rw [xF];exact g2 _ _ hl),uP hl2,wV _,wV _,_,rfl,?_⟩;rw [mC];refine xI ?_;have hz2:=gg _ _ hz;have ho2:=(gl.trans g2) _ _ ho;generalize upd (upd H1 l (.lst (((List.range W.length).map ci).map V.int))) l2 (.lst (wW W.length))=H2 at *;refine ⟨_,rfl,o,rfl,⟨_,SqT.of ho2⟩,λ D nD=>?_⟩;refine wN (xs:=ms.map vn) (λ j σ H3=>∃ (x0:Option V),σ=[x0]/\Same H2 H3/\H3 D=some (.lst [])) ⟨none,rfl,kE nD _,kC⟩ ?_ ?_ ?_
 ·rintro j σ H3 _ ⟨x0,rfl,g3,_⟩
  exact SqT.of (g3 _ _ ho2)
 ·rintro j y σ H3 hy ⟨x0,rfl,g3,hD⟩
  rw [List.getElem?_map] at hy;obtain ⟨q,eq',rfl⟩:=Option.map_eq_some_iff.mp hy;exact ⟨_,rfl,_,_,_,_,rfl,.int _,rfl,_,rfl,xI ⟨_,rfl,g3,hD⟩⟩
 rintro σ H3 ⟨x0,rfl,g3,hD⟩;refine ⟨L2.y0,λ D3 nD3=>?_⟩;have g4:=kE nD3 (.lst []);refine ⟨.list [],.list [],kGA (g4 _ _ hD),kGA kC,rfl,rfl,_,rfl,xI ?_⟩;have gg4:=gg.trans (g3.trans g4);have ho4:=(g3.trans g4) _ _ ho2;have hz4:=gg4 _ _ hz;generalize upd H3 D3 (.lst [])=H4 at *;have c2:jO (ms.map vn) none (some 2)=[vn a,vn b]:=by rw [show (2:Int)=((2:Nat):Int) from rfl,xN _ (by rw [length_map];omega),<-map_take,at0'];rfl
 refine ⟨_,rfl,_,rfl,o,_,rfl,SqT.of ho4,?_,λ p1 n1=>?_⟩
 ·rintro ⟨_,z⟩
  rw [show (2:Int)=((2:Nat):Int) from rfl,vY (by rw [length_map];omega),length_map] at z;omega
 rw [c2];have g5:=kE n1 (.tup [vn a,vn b]);have hp1:=kC (H:=H4) (a:=p1) (o:=.tup [vn a,vn b]);have hz5:=g5 _ _ hz4;have ho5:=g5 _ _ ho4;have gg5:=gg4.trans g5;generalize upd H4 p1 (.tup [vn a,vn b])=H5 at *;have c3:jO [vn a,vn b,vn c] none (some 2)=[vn a,vn b]:=by rw [show (2:Int)=((2:Nat):Int) from rfl,xN _ (by simp)];rfl
 refine ⟨_,rfl,_,rfl,z,_,rfl,SqT.of hz5,?_,λ p2 n2=>?_⟩
 ·rintro ⟨_,z⟩
  rw [show (2:Int)=((2:Nat):Int) from rfl,vY (by simp)] at z;simp at z
 rw [c3];have g6:=kE n2 (.tup [vn a,vn b]);have hp2:=kC (H:=H5) (a:=p2) (o:=.tup [vn a,vn b]);have hp16:=g6 _ _ hp1;have hz6:=g6 _ _ hz5;have ho6:=g6 _ _ ho5;have gg6:=gg5.trans g6;generalize upd H5 p2 (.tup [vn a,vn b])=H6 at *;refine ⟨wO [a,b],wO [a,b],wL hp16,wL hp2,yX _,yX _,_,rfl,?_⟩;rw [aT];refine xI ?_;have ne:ms≠[]:=λ z=>by rw [z] at lm;simp at lm;omega
 have elast:atI (ms.map vn) (-1)=some (vn c):=by
  have em:ms=ms.dropLast++[c]:=by
   have hv:=lastc;rw [List.getLast?_eq_some_getLast ne] at hv;rw [<-Option.some.inj hv];exact (dropLast_concat_getLast ne).symm
  rw [em,map_append];exact yF _ _
 refine ⟨_,rfl,_,rfl,o,_,_,_,rfl,rfl,SqT.of ho6,elast,_,rfl,z,_,_,_,rfl,rfl,SqT.of hz6,qV (j:=2) rfl,rfl,_,rfl,?_⟩
 first | rw [show (!decide (vn c=vn c))=false by simp] | rw [show decide (vn c≠vn c)=false by simp]
 refine xI ?_;refine ⟨_,rfl,_,rfl,w,o,W,ms,rfl,hW.kept gg6,TW,ho6,perm,l3,top0,(λ e=>by rw [go] at e;cases e),λ Fs' Ts' e t x y H7 g7 ht wx wy=>?_⟩;rw [go] at e;cases e
 have gg7:=gg6.trans g7;refine ⟨_,rfl,rfl,_,rfl,?_⟩;rw [show decide (V.ref t=V.non)=false from decide_eq_false λ z=>nomatch z];refine xI ?_;have Gw7:Gw H7 w z o W ms a b c:=⟨hW.kept gg7,TW,gg7 _ _ hz,g7 _ _ ho6,perm,l3,eab⟩;refine ⟨_,rfl,_,rfl,_,rfl,w,z,o,W,ms,a,b,c,rfl,Gw7,⟨hE,hb⟩,λ H8 g8=>?_⟩;rw [lf];refine ⟨true,true,rfl,rfl,_,rfl,xI ?_⟩;have gg8:=gg7.trans g8;refine ⟨_,rfl,_,rfl,w,z,W,a,b,c,rfl,hW.kept gg8,TW,G,gg8 _ _ hz,hE,hb,λ o2 rest2 H9 g9 hoo pl2 pd2=>?_⟩;rw [ordN rest2 pd2] at hoo;have Gw9:=(Gw7.kept g8).kept g9;refine ⟨_,rfl,wO ms,wO ms,wL hoo,wL Gw9.ord,yX _,yX _,_,rfl,?_⟩;rw [aT];refine xI ?_;have gg9:=gg8.trans g9;refine ⟨L2.y2,λ y1 m1=>⟨L2.y2,λ y2 m2=>⟨L2.y2,λ y3 m3=>⟨L2.y3,λ yw mw=>⟨L2.y3,λ yz mz=>?_⟩⟩⟩⟩⟩;have k1:=kE m1 (.tup [V.int 1,V.int 2]);have k2:=kE m2 (.tup [V.int 0,V.int 2]);have k3:=kE m3 (.tup [V.int 0,V.int 1]);have k4:=kE mw (.tup [.ref y1,.ref y2,.ref y3]);have k5:=kE mz (.tup [V.int 2,V.int 0,V.int 1]);have z1:=k5 _ _ (k4 _ _ (k3 _ _ (k2 _ _ (kC (H:=H9) (a:=y1) (o:=.tup [V.int 1,V.int 2])))));have z2:=k5 _ _ (k4 _ _ (k3 _ _ (kC (H:=upd H9 y1 (.tup [V.int 1,V.int 2])) (a:=y2) (o:=.tup [V.int 0,V.int 2]))));have z3:=k5 _ _ (k4 _ _ (kC (H:=upd (upd H9 y1 (.tup [V.int 1,V.int 2])) y2 (.tup [V.int 0,V.int 2])) (a:=y3) (o:=.tup [V.int 0,V.int 1])));have z4:=k5 _ _ (kC (H:=upd (upd (upd H9 y1 (.tup [V.int 1,V.int 2])) y2 (.tup [V.int 0,V.int 2])) y3 (.tup [V.int 0,V.int 1])) (a:=yw) (o:=.tup [.ref y1,.ref y2,.ref y3]));have z5:=kC (H:=upd (upd (upd (upd H9 y1 (.tup [V.int 1,V.int 2])) y2 (.tup [V.int 0,V.int 2])) y3 (.tup [V.int 0,V.int 1])) yw (.tup [.ref y1,.ref y2,.ref y3])) (a:=yz) (o:=.tup [V.int 2,V.int 0,V.int 1]);have kk:=k1.trans (k2.trans (k3.trans (k4.trans k5)));generalize upd (upd (upd (upd (upd H9 y1 (.tup [V.int 1,V.int 2])) y2 (.tup [V.int 0,V.int 2])) y3 (.tup [V.int 0,V.int 1])) yw (.tup [.ref y1,.ref y2,.ref y3])) yz (.tup [V.int 2,V.int 0,V.int 1])=H10 at *
 have wT:WebAt H10 yw [[1,2],[0,2],[0,1]]:=⟨[y1,y2,y3],z4,rfl,λ j e row e1 e2=>by
  match j,e1,e2 with
  | 0,e1,e2=>cases e1;cases e2;exact z1
  | 1,e1,e2=>cases e1;cases e2;exact z2
  | 2,e1,e2=>cases e1;cases e2;exact z3
  | j+3,e1,e2=>simp at e1⟩
 refine ⟨yw,yz,[[1,2],[0,2],[0,1]],2,0,1,rfl,wT,kBB fJ (by decide),fJ,z5,⟨[0,1],rfl,by decide⟩,rfl,λ o3 rest3 H11 g11 ho3 pl3 pd3=>?_⟩;have e3:2::0::rest3.reverse=[2,0,1]:=kCH pl3;rw [e3] at ho3;refine ⟨L2.y3,λ yo mo=>?_⟩;have k6:=kE mo (.tup [V.int 2,V.int 0,V.int 1]);refine ⟨wO [2,0,1],wO [2,0,1],wL (k6 _ _ ho3),wL kC,yX _,yX _,_,rfl,?_⟩;rw [aT];refine xI ?_;have kk2:=kk.trans (g11.trans k6);generalize upd H11 yo (.tup [V.int 2,V.int 0,V.int 1])=H12 at *;have gg12:=gg9.trans kk2;refine ⟨_,rfl,_,rfl,w,z,W,a,b,c,rfl,hW.kept gg12,TW,G,gg12 _ _ hz,hE,hb,λ o4 rest4 H13 g13 ho4' pl4 pd4=>?_⟩;rw [ordN rest4 pd4] at ho4';have k913:=kk2.trans g13;have Gw13:=Gw9.kept k913;refine ⟨_,rfl,wO ms,wO ms,wL ho4',wL Gw13.ord,yX _,yX _,_,rfl,?_⟩;rw [aT];refine xI ?_;refine ⟨_,rfl,_,rfl,_,rfl,w,z,o,W,ms,a,b,c,Fs,Ts,rfl,Gw13,⟨hE,hb⟩,lf,λ t1 H14 g14 w1=>?_⟩;refine ⟨_,rfl,_,rfl,_,rfl,w,z,o,W,ms,a,b,c,Fs,Ts,rfl,Gw13.kept g14,⟨hE,hb⟩,lf,λ t2 H15 g15 w2=>?_⟩;refine ⟨L2.y2,λ t3 n3=>?_⟩;have g16:=kE n3 (.tup [.ref t1,.ref t2]);have k7:=g8.trans (g9.trans (k913.trans (g14.trans (g15.trans g16))));have d1:=kGX (K:=K) (kC (H:=H15) (a:=t3) (o:=.tup [.ref t1,.ref t2])) ((w1.kept g15).kept g16) (w2.kept g16);have d2:=kGX (K:=K) (k7 _ _ ht) (wx.kept k7) (wy.kept k7);refine ⟨_,rfl,_,_,d1,d2,kEG _ _,kEG _ _,?_⟩;rw [if_neg (by decide),kHN];exact k _ (gg7.trans k7)
def kAI (K:PySem.W.Frag):Sp:=λ vs H Q _=>∃ (a:Addr) (ns:List Int),vs=[.ref a]/\SqL K H a (ns.map V.int)/\ns.length<=63/\∀ H',Q (.bl true) H'
theorem kLH {f:Addr} {fd:FuncData} (F:Fun K "law" "law" bA f fd) (cY:Own.Has P w K mg base "_law_pot" ["_law_script","_law_k"] 1 (kEX K)) (qK:Own.Has P w K mg base "_law_digit" ["_law_pot_here","_law_many"] 1 (uK)) (cX:Own.Has P w K mg base "_law_web" ["_law_rows_here","_law_names_here"] 1 (kEW)) (uF:Own.Has P w K mg base "_law_names" ["_law_pot_here","_law_n"] 2 (mZ)) (aK:Own.Has P w K mg base "_law_rows" ["_law_pot_here","_law_n"] 2 (sV)) (uG:Own.Has P w K mg base "_law_bases" ["_law_pot_here","_law_web_here"] 2 (nE)) (uE:Own.Has P w K mg base "_law_right" ["_law_web_here","_law_base"] 9 (fR)) (z_range:mg "range" = none) (z_max:mg "max" = none) (z_min:mg "min" = none) (z_len:mg "len" = none) (z_all:mg "all" = none):FnOk P w K mg base CX0 10 f fd ["_law_script"] (kAI K):=by
 refine F.ok sc_law (λ vs H Q E h=>?_) (λ cdv A outer s H vs Q E hr h=>?_)
 ·obtain ⟨a,ns,rfl,_⟩:=h
  rfl
 obtain ⟨a,ns,rfl,hS,h63,q⟩:=h
 refine ⟨_,(kF (wH PassesOwn.never rfl (zQ rfl z_range (kB (kP (mP rfl) rfl z_max PyProof.Rows.boot_max (kB kK (kB (kP (kDZ rfl) rfl z_min PyProof.Rows.boot_min (kB (kP kN rfl z_len PySem.boot_len (kB (pv 0) kD)) (kB kK kD))) kD))) kD)) (kR (i:=1) sc_law.nd rfl (Or.inl rfl)) (kF (kT (i:=2) sc_law.nd rfl (Or.inl rfl) (Own.pe_has cY (hr.mono (by decide)) rfl (kB (pv 0) (kB (pv 1) kD))))
   (kF (kT (i:=3) sc_law.nd rfl (Or.inl rfl) (kZ qX kK (Own.pe_has qK (hr.mono (by decide)) rfl (kB (pv 2) (kB (qB kY (qS (kB kK (kB kK kD))) (Own.pe_has qK (hr.mono (by decide)) rfl (kB (pv 2) (kB kK kD))) (λ _ _=>rfl)) kD)))))
   (kF (kT (i:=4) sc_law.nd rfl (Or.inr rfl) (Own.pe_has cX (hr.mono (by decide)) rfl (kB (qB jC (Own.pe_has aK (hr.mono (by decide)) rfl (kB (pv 2) (kB (pv 3) kD))) kK (λ _ _=>rfl)) (kB (Own.pe_has uF (hr.mono (by decide)) rfl (kB (pv 2) (kB (pv 3) kD))) kD))))
   (kM (xE (uA (vC (kP (dE rfl) rfl z_all PyProof.Rows.boot_all (kB (xL (Nc:=["_law_base","_law_web_here"]) (js:=[none,some 4]) rfl rfl (yC (Own.pe_has uG (hr.mono (by decide)) rfl (kB (pv 2) (kB (pv 4) kD)))) (CS.of rfl rfl) rfl (λ C s₂ H₂ fp pins=>(kR (i:=0) (show List.Nodup (α:=Str) ["_law_base","_law_web_here"] by decide +kernel) rfl (Or.inl rfl))) (λ C s₂ H₂ fp pins D L=>(xK (jX (Own.pe_has uE (hr.mono (by decide)) rfl (kB (pv 1) (kB (pv 0) kD))))))) kD)))) (kM (kX uW)) qQ))))))
   (kM (kX uW))),?_⟩
 have hl:(ns.map V.int).length=ns.length:=length_map _;refine ⟨_,rfl,a,_,rfl,.inl hS,_,3,rfl,1,_,rfl,?_⟩;rw [hl];generalize hj:(if (if (3:Int)<(ns.length:Int) then 3 else (ns.length:Int))>1 then (if (3:Int)<(ns.length:Int) then 3 else (ns.length:Int)) else 1)=j;have j0:0<=j:=by rw [<-hj];split<;>omega
 have j1:j<=63:=by
  rw [<-hj]
  split
  ·split<;>omega
  ·omega
 refine ⟨j,rfl,by omega,by omega,yV (lo:=0) (n:=j.toNat) (λ i σ H2=>∃ (x1 x2 x3 x4:Option V),σ=[some (.ref a),x1,x2,x3,x4]/\Same H H2)
  ⟨none,none,none,none,rfl,Same.refl H⟩ ?_ ?_⟩
 ·rintro i σ H2 hi ⟨x1,x2,x3,x4,rfl,g⟩
  refine ⟨_,rfl,_,rfl,a,ns,_,rfl,g.seq hS,h63,(by omega),(by omega),λ p x y H3 hx g3 hn hp=>?_⟩;have hnp:H p=none:=g.free hn;have gA:Same H H3:=g.trans g3;have pA:PotAt H3 p:=⟨x,y,hp,hx⟩;refine ⟨_,rfl,L2.y2,λ l nl=>?_⟩;have lp:l≠p:=(kH hp nl).symm;refine ⟨_,rfl,p,2,rfl,pA.other lp.symm,by decide,tU (by decide),λ d H4 d0 d1 s4 p4=>?_⟩;have gl:=kE nl (.lst [V.int 7,V.int 38]);have g4:=keep (gA.trans gl) hnp s4;have hl4:=s4 _ _ lp (kC (H:=H3) (a:=l) (o:=.lst [V.int 7,V.int 38]))
  have:∃ m:Int,atI [V.int 7,V.int 38] d=some (.int m)/\0<m/\m<=38:=by
   rcases (show d=0\/d=1 by omega) with rfl | rfl
   ·exact ⟨7,rfl,by decide,by decide⟩
   ·exact ⟨38,rfl,by decide,by decide⟩
  obtain ⟨m,em,m0,m1⟩:=this;refine ⟨l,_,_,_,rfl,rfl,SqL.of hl4,em,p,m,rfl,p4,m0,tU (by omega),λ d' H5 e0 e1 s5 p5=>⟨_,_,rfl,rfl,?_⟩⟩;have g5:=keep g4 hnp s5
  obtain ⟨n',rfl⟩:=Int.eq_ofNat_of_zero_le e0
  refine ⟨_,rfl,_,rfl,p,3+n',rfl,p5,by omega,by omega,λ z r t q' A1 L H6 s6 p6 hz X GL lL nr nA=>?_⟩;have g6:=keep g5 hnp s6;obtain ⟨v5,w5,pot5,_⟩:=id p5;have np5:∀ b,H5 b=none->b≠p:=λ b hb z=>by rw [z,pot5] at hb;cases hb
  refine ⟨z,_,_,_,rfl,rfl,SqT.of hz,rfl,?_⟩
  refine ⟨_,rfl,_,rfl,p,3+n',rfl,p6,by omega,λ l' ms H7 s7 p7 nl' ll' hl' perm=>?_⟩;have g7:=keep g6 hnp s7;have X7:=X.but (a:=p) (np5 r nr).symm (λ hm=>np5 p (nA p hm) rfl) s7;have perm':ms.Perm (List.range L.length):=by rw [lL];exact perm
  refine ⟨r,l',A1,L,ms,rfl,X7,hl',perm',kDQ GL (by omega),(λ p' row e x hx=>(GL.rng p' row x e hx).1),λ w W H8 g8 hW lW nm=>?_⟩;have rn:=kDB perm' lW nm;have GW:Good W:=kFG GL rn;have gW:=g7.trans g8;have l3:=GW.three;have lW':W.length=3+n':=by rw [lW,lL]
  have TW:=kBB GW (by omega);have p8:=p7.kept g8;refine ⟨_,rfl,_,rfl,p,w,W,rfl,p8,hW,TW,l3,GW.ne,λ lb bs H9 s9 p9 hlb hbs lbp bl=>?_⟩;have g9:=keep gW hnp s9;have hW9:=hW.pot s9 p8;refine ⟨lb,rfl,⟨_,SqL.of hlb⟩,λ D nD=>?_⟩;refine jZ (xs:=bs.map V.ref) (λ j σ H10=>∃ (x0:Option V),σ=[x0,some (.ref w)]/\Same H9 H10/\H10 D=some (.lst ((List.replicate j true).map V.bl))) ⟨none,rfl,kE nD _,kC⟩ ?_ ?_ ?_
  ·rintro j σ H10 _ ⟨x0,rfl,g10,_⟩
   exact SqL.of (g10 _ _ hlb)
  ·rintro j v σ H10 hv ⟨x0,rfl,g10,hD⟩
   rw [List.getElem?_map] at hv;obtain ⟨y,ey,rfl⟩:=Option.map_eq_some_iff.mp hv;have hj:=(List.getElem?_eq_some_iff.mp ey).1;obtain ⟨a',b',c',hy,eE,eN⟩:=(hbs y (mem_of_getElem? ey)).1;refine ⟨_,rfl,_,rfl,w,y,W,a',b',c',rfl,hW9.kept g10,TW,GW,g10 _ _ hy,eE,eN,λ H11 g11=>?_⟩;refine ⟨_,g11 _ _ hD,(by rw [length_map,List.length_replicate];exact kQ (by omega)),?_⟩;exact ⟨_,rfl,qP nD (g10.trans g11),(by rw [List.replicate_succ',map_append];exact kC)⟩
  ·rintro σ H10 ⟨x0,rfl,g10,hD⟩
   refine ⟨D,_,rfl,SqL.of hD,_,rfl,?_⟩;rw [show (List.replicate (bs.map V.ref).length true).all id=true by simp];refine xI ?_;exact ⟨_,_,_,_,rfl,g9.trans g10⟩
 ·rintro σ H2 ⟨x1,x2,x3,x4,rfl,g⟩
  exact q H2
end
theorem gJ {α:Type} {n:Nat} {us:List α} (hn:n=1) (h:us.length=n):∃ x0:α,us=[x0]:=by
 subst hn
 match us,h with
 | [x0],_=>exact ⟨_,rfl⟩
theorem zG {α:Type} {n:Nat} {us:List α} (hn:n=2) (h:us.length=n):∃ x0 x1:α,us=[x0,x1]:=by
 subst hn
 match us,h with
 | [x0,x1],_=>exact ⟨_,_,rfl⟩
theorem bJ {α:Type} {n:Nat} {us:List α} (hn:n=3) (h:us.length=n):∃ x0 x1 x2:α,us=[x0,x1,x2]:=by
 subst hn
 match us,h with
 | [x0,x1,x2],_=>exact ⟨_,_,_,rfl⟩
theorem kGC {α:Type} {n:Nat} {us:List α} (hn:n=4) (h:us.length=n):∃ x0 x1 x2 x3:α,us=[x0,x1,x2,x3]:=by
 subst hn
 match us,h with
 | [x0,x1,x2,x3],_=>exact ⟨_,_,_,_,rfl⟩
theorem all_mk {l:PySem.W.OpenLaw} {w:World} {K:PySem.W.Frag} {h:Heap} {mg:Str->Option Value} {fa f1 f2 f3 f4 f5 f6 f7 f8 f9 f10 f11 f12 f13 f14 f15 f16 f17 f18 f19 f20 f21 f22 f23 f24 f25 f26 f27 f28 f29 f30 f31 f32 f33 f34 f35 f36:Addr}  (X:K.In h) (G:h.Ns mainGlobals mg) (hfa:mg "law" = some (.ref fa))
  {od1 an1 od2 an2 od3 an3 od4 an4 od5 an5 od6 an6 od7 an7 od8 an8 od9 an9 od10 an10 od11 an11 od12 an12 od13 an13 od14 an14 od15 an15 od16 an16 od17 an17 od18 an18 od19 an19 od20 an20 od21 an21 od22 an22 od23 an23 od24 an24 od25 an25 od26 an26 od27 an27 od28 an28 od29 an29 od30 an30 od31 an31 od32 an32 od33 an33 od34 an34 od35 an35 od36 an36:Option Addr} {sl1 sl2 sl3 sl4 sl5 sl6 sl7 sl8 sl9 sl10 sl11 sl12 sl13 sl14 sl15 sl16 sl17 sl18 sl19 sl20 sl21 sl22 sl23 sl24 sl25 sl26 sl27 sl28 sl29 sl30 sl31 sl32 sl33 sl34 sl35 sl36:Array (Option Value)} {oc1 kV1 dc1 pm1 cd1 ct1 oc2 kV2 dc2 pm2 cd2 ct2 oc3 kV3 dc3 pm3 cd3 ct3 oc4 kV4 dc4 pm4 cd4 ct4 oc5 kV5 dc5 pm5 cd5 ct5 oc6 kV6 dc6 pm6 cd6 ct6 oc7 kV7 dc7 pm7 cd7 ct7 oc8 kV8 dc8 pm8 cd8 ct8 oc9 kV9 dc9 pm9 cd9 ct9 oc10 kV10 dc10 pm10 cd10 ct10 oc11 kV11 dc11 pm11 cd11 ct11 oc12 kV12 dc12 pm12 cd12 ct12 oc13 kV13 dc13 pm13 cd13 ct13 oc14 kV14 dc14 pm14 cd14 ct14 oc15 kV15 dc15 pm15 cd15 ct15 oc16 kV16 dc16 pm16 cd16 ct16 oc17 kV17 dc17 pm17 cd17 ct17 oc18 kV18 dc18 pm18 cd18 ct18 oc19 kV19 dc19 pm19 cd19 ct19 oc20 kV20 dc20 pm20 cd20 ct20 oc21 kV21 dc21 pm21 cd21 ct21 oc22 kV22 dc22 pm22 cd22 ct22 oc23 kV23 dc23 pm23 cd23 ct23 oc24 kV24 dc24 pm24 cd24 ct24 oc25 kV25 dc25 pm25 cd25 ct25 oc26 kV26 dc26 pm26 cd26 ct26 oc27 kV27 dc27 pm27 cd27 ct27 oc28 kV28 dc28 pm28 cd28 ct28 oc29 kV29 dc29 pm29 cd29 ct29 oc30 kV30 dc30 pm30 cd30 ct30 oc31 kV31 dc31 pm31 cd31 ct31 oc32 kV32 dc32 pm32 cd32 ct32 oc33 kV33 dc33 pm33 cd33 ct33 oc34 kV34 dc34 pm34 cd34 ct34 oc35 kV35 dc35 pm35 cd35 ct35 oc36 kV36 dc36 pm36 cd36 ct36:Value}
  (a1:PySem.W.nsIn K mainGlobals "is_whole" = some (some (.ref f1))) (l1:K.lookup f1=some ⟨oc1,od1,.func (PySem.W.fnOf "is_whole" "is_whole" (kW yN) (kU yN) (kJ yN) .none kV1 dc1 pm1 an1 cd1 ct1),sl1⟩) (c1:PySem.W.codeIn K cd1 "is_whole" = true) (k1:PySem.W.keepIn K (.ref f1)=true)
  (a2:PySem.W.nsIn K mainGlobals "are_whole" = some (some (.ref f2))) (l2:K.lookup f2=some ⟨oc2,od2,.func (PySem.W.fnOf "are_whole" "are_whole" (kW xW) (kU xW) (kJ xW) .none kV2 dc2 pm2 an2 cd2 ct2),sl2⟩) (c2:PySem.W.codeIn K cd2 "are_whole" = true) (k2:PySem.W.keepIn K (.ref f2)=true)
  (a3:PySem.W.nsIn K mainGlobals "from_on" = some (some (.ref f3))) (l3:K.lookup f3=some ⟨oc3,od3,.func (PySem.W.fnOf "from_on" "from_on" (kW zP) (kU zP) (kJ zP) .none kV3 dc3 pm3 an3 cd3 ct3),sl3⟩) (c3:PySem.W.codeIn K cd3 "from_on" = true) (k3:PySem.W.keepIn K (.ref f3)=true)
  (a4:PySem.W.nsIn K mainGlobals "steps_of" = some (some (.ref f4))) (l4:K.lookup f4=some ⟨oc4,od4,.func (PySem.W.fnOf "steps_of" "steps_of" (kW yJ) (kU yJ) (kJ yJ) .none kV4 dc4 pm4 an4 cd4 ct4),sl4⟩) (c4:PySem.W.codeIn K cd4 "steps_of" = true) (k4:PySem.W.keepIn K (.ref f4)=true)
  (a5:PySem.W.nsIn K mainGlobals "ties" = some (some (.ref f5))) (l5:K.lookup f5=some ⟨oc5,od5,.func (PySem.W.fnOf "ties" "ties" (kW cI) (kU cI) (kJ cI) .none kV5 dc5 pm5 an5 cd5 ct5),sl5⟩) (c5:PySem.W.codeIn K cd5 "ties" = true) (k5:PySem.W.keepIn K (.ref f5)=true)
  (a6:PySem.W.nsIn K mainGlobals "behind" = some (some (.ref f6))) (l6:K.lookup f6=some ⟨oc6,od6,.func (PySem.W.fnOf "behind" "behind" (kW wR) (kU wR) (kJ wR) .none kV6 dc6 pm6 an6 cd6 ct6),sl6⟩) (c6:PySem.W.codeIn K cd6 "behind" = true) (k6:PySem.W.keepIn K (.ref f6)=true)
  (a7:PySem.W.nsIn K mainGlobals "steps_round" = some (some (.ref f7))) (l7:K.lookup f7=some ⟨oc7,od7,.func (PySem.W.fnOf "steps_round" "steps_round" (kW jU) (kU jU) (kJ jU) .none kV7 dc7 pm7 an7 cd7 ct7),sl7⟩) (c7:PySem.W.codeIn K cd7 "steps_round" = true) (k7:PySem.W.keepIn K (.ref f7)=true)
  (a8:PySem.W.nsIn K mainGlobals "faces" = some (some (.ref f8))) (l8:K.lookup f8=some ⟨oc8,od8,.func (PySem.W.fnOf "faces" "faces" (kW uL) (kU uL) (kJ uL) .none kV8 dc8 pm8 an8 cd8 ct8),sl8⟩) (c8:PySem.W.codeIn K cd8 "faces" = true) (k8:PySem.W.keepIn K (.ref f8)=true)
  (a9:PySem.W.nsIn K mainGlobals "is_flat" = some (some (.ref f9))) (l9:K.lookup f9=some ⟨oc9,od9,.func (PySem.W.fnOf "is_flat" "is_flat" (kW zM) (kU zM) (kJ zM) .none kV9 dc9 pm9 an9 cd9 ct9),sl9⟩) (c9:PySem.W.codeIn K cd9 "is_flat" = true) (k9:PySem.W.keepIn K (.ref f9)=true)
  (a10:PySem.W.nsIn K mainGlobals "must_be_flat" = some (some (.ref f10))) (l10:K.lookup f10=some ⟨oc10,od10,.func (PySem.W.fnOf "must_be_flat" "must_be_flat" (kW jJ) (kU jJ) (kJ jJ) .none kV10 dc10 pm10 an10 cd10 ct10),sl10⟩) (c10:PySem.W.codeIn K cd10 "must_be_flat" = true) (k10:PySem.W.keepIn K (.ref f10)=true)
  (a11:PySem.W.nsIn K mainGlobals "uncornered_face" = some (some (.ref f11))) (l11:K.lookup f11=some ⟨oc11,od11,.func (PySem.W.fnOf "uncornered_face" "uncornered_face" (kW qU) (kU qU) (kJ qU) .none kV11 dc11 pm11 an11 cd11 ct11),sl11⟩) (c11:PySem.W.codeIn K cd11 "uncornered_face" = true) (k11:PySem.W.keepIn K (.ref f11)=true)
  (a12:PySem.W.nsIn K mainGlobals "are_round" = some (some (.ref f12))) (l12:K.lookup f12=some ⟨oc12,od12,.func (PySem.W.fnOf "are_round" "are_round" (kW xX) (kU xX) (kJ xX) .none kV12 dc12 pm12 an12 cd12 ct12),sl12⟩) (c12:PySem.W.codeIn K cd12 "are_round" = true) (k12:PySem.W.keepIn K (.ref f12)=true)
  (a13:PySem.W.nsIn K mainGlobals "is_base" = some (some (.ref f13))) (l13:K.lookup f13=some ⟨oc13,od13,.func (PySem.W.fnOf "is_base" "is_base" (kW zN) (kU zN) (kJ zN) .none kV13 dc13 pm13 an13 cd13 ct13),sl13⟩) (c13:PySem.W.codeIn K cd13 "is_base" = true) (k13:PySem.W.keepIn K (.ref f13)=true)
  (a14:PySem.W.nsIn K mainGlobals "must_have_base" = some (some (.ref f14))) (l14:K.lookup f14=some ⟨oc14,od14,.func (PySem.W.fnOf "must_have_base" "must_have_base" (kW jA) (kU jA) (kJ jA) .none kV14 dc14 pm14 an14 cd14 ct14),sl14⟩) (c14:PySem.W.codeIn K cd14 "must_have_base" = true) (k14:PySem.W.keepIn K (.ref f14)=true)
  (a15:PySem.W.nsIn K mainGlobals "has_ends" = some (some (.ref f15))) (l15:K.lookup f15=some ⟨oc15,od15,.func (PySem.W.fnOf "has_ends" "has_ends" (kW yP) (kU yP) (kJ yP) .none kV15 dc15 pm15 an15 cd15 ct15),sl15⟩) (c15:PySem.W.codeIn K cd15 "has_ends" = true) (k15:PySem.W.keepIn K (.ref f15)=true)
  (a16:PySem.W.nsIn K mainGlobals "stretch_under" = some (some (.ref f16))) (l16:K.lookup f16=some ⟨oc16,od16,.func (PySem.W.fnOf "stretch_under" "stretch_under" (kW jG) (kU jG) (kJ jG) .none kV16 dc16 pm16 an16 cd16 ct16),sl16⟩) (c16:PySem.W.codeIn K cd16 "stretch_under" = true) (k16:PySem.W.keepIn K (.ref f16)=true)
  (a17:PySem.W.nsIn K mainGlobals "put_over" = some (some (.ref f17))) (l17:K.lookup f17=some ⟨oc17,od17,.func (PySem.W.fnOf "put_over" "put_over" (kW yK) (kU yK) (kJ yK) .none kV17 dc17 pm17 an17 cd17 ct17),sl17⟩) (c17:PySem.W.codeIn K cd17 "put_over" = true) (k17:PySem.W.keepIn K (.ref f17)=true)
  (a18:PySem.W.nsIn K mainGlobals "laid" = some (some (.ref f18))) (l18:K.lookup f18=some ⟨oc18,od18,.func (PySem.W.fnOf "laid" "laid" (kW cJ) (kU cJ) (kJ cJ) .none kV18 dc18 pm18 an18 cd18 ct18),sl18⟩) (c18:PySem.W.codeIn K cd18 "laid" = true) (k18:PySem.W.keepIn K (.ref f18)=true)
  (a19:PySem.W.nsIn K mainGlobals "must_be_laid" = some (some (.ref f19))) (l19:K.lookup f19=some ⟨oc19,od19,.func (PySem.W.fnOf "must_be_laid" "must_be_laid" (kW jI) (kU jI) (kJ jI) .none kV19 dc19 pm19 an19 cd19 ct19),sl19⟩) (c19:PySem.W.codeIn K cd19 "must_be_laid" = true) (k19:PySem.W.keepIn K (.ref f19)=true)
  (a20:PySem.W.nsIn K mainGlobals "is_order" = some (some (.ref f20))) (l20:K.lookup f20=some ⟨oc20,od20,.func (PySem.W.fnOf "is_order" "is_order" (kW yO) (kU yO) (kJ yO) .none kV20 dc20 pm20 an20 cd20 ct20),sl20⟩) (c20:PySem.W.codeIn K cd20 "is_order" = true) (k20:PySem.W.keepIn K (.ref f20)=true)
  (a21:PySem.W.nsIn K mainGlobals "rounds" = some (some (.ref f21))) (l21:K.lookup f21=some ⟨oc21,od21,.func (PySem.W.fnOf "rounds" "rounds" (kW wQ) (kU wQ) (kJ wQ) .none kV21 dc21 pm21 an21 cd21 ct21),sl21⟩) (c21:PySem.W.codeIn K cd21 "rounds" = true) (k21:PySem.W.keepIn K (.ref f21)=true)
  (a22:PySem.W.nsIn K mainGlobals "stretches" = some (some (.ref f22))) (l22:K.lookup f22=some ⟨oc22,od22,.func (PySem.W.fnOf "stretches" "stretches" (kW xO) (kU xO) (kJ xO) .none kV22 dc22 pm22 an22 cd22 ct22),sl22⟩) (c22:PySem.W.codeIn K cd22 "stretches" = true) (k22:PySem.W.keepIn K (.ref f22)=true)
  (a23:PySem.W.nsIn K mainGlobals "first_loose" = some (some (.ref f23))) (l23:K.lookup f23=some ⟨oc23,od23,.func (PySem.W.fnOf "first_loose" "first_loose" (kW jV) (kU jV) (kJ jV) .none kV23 dc23 pm23 an23 cd23 ct23),sl23⟩) (c23:PySem.W.codeIn K cd23 "first_loose" = true) (k23:PySem.W.keepIn K (.ref f23)=true)
  (a24:PySem.W.nsIn K mainGlobals "from_to" = some (some (.ref f24))) (l24:K.lookup f24=some ⟨oc24,od24,.func (PySem.W.fnOf "from_to" "from_to" (kW zO) (kU zO) (kJ zO) .none kV24 dc24 pm24 an24 cd24 ct24),sl24⟩) (c24:PySem.W.codeIn K cd24 "from_to" = true) (k24:PySem.W.keepIn K (.ref f24)=true)
  (a25:PySem.W.nsIn K mainGlobals "order_of" = some (some (.ref f25))) (l25:K.lookup f25=some ⟨oc25,od25,.func (PySem.W.fnOf "order_of" "order_of" (kW yL) (kU yL) (kJ yL) .none kV25 dc25 pm25 an25 cd25 ct25),sl25⟩) (c25:PySem.W.codeIn K cd25 "order_of" = true) (k25:PySem.W.keepIn K (.ref f25)=true)
  (a26:PySem.W.nsIn K mainGlobals "_law_pot" = some (some (.ref f26))) (l26:K.lookup f26=some ⟨oc26,od26,.func (PySem.W.fnOf "_law_pot" "_law_pot" (kW zL) (kU zL) (kJ zL) .none kV26 dc26 pm26 an26 cd26 ct26),sl26⟩) (c26:PySem.W.codeIn K cd26 "_law_pot" = true) (k26:PySem.W.keepIn K (.ref f26)=true)
  (a27:PySem.W.nsIn K mainGlobals "_law_digit" = some (some (.ref f27))) (l27:K.lookup f27=some ⟨oc27,od27,.func (PySem.W.fnOf "_law_digit" "_law_digit" (kW xU) (kU xU) (kJ xU) .none kV27 dc27 pm27 an27 cd27 ct27),sl27⟩) (c27:PySem.W.codeIn K cd27 "_law_digit" = true) (k27:PySem.W.keepIn K (.ref f27)=true)
  (a28:PySem.W.nsIn K mainGlobals "_law_put_over" = some (some (.ref f28))) (l28:K.lookup f28=some ⟨oc28,od28,.func (PySem.W.fnOf "_law_put_over" "_law_put_over" (kW jK) (kU jK) (kJ jK) .none kV28 dc28 pm28 an28 cd28 ct28),sl28⟩) (c28:PySem.W.codeIn K cd28 "_law_put_over" = true) (k28:PySem.W.keepIn K (.ref f28)=true)
  (a29:PySem.W.nsIn K mainGlobals "_law_rows" = some (some (.ref f29))) (l29:K.lookup f29=some ⟨oc29,od29,.func (PySem.W.fnOf "_law_rows" "_law_rows" (kW yM) (kU yM) (kJ yM) .none kV29 dc29 pm29 an29 cd29 ct29),sl29⟩) (c29:PySem.W.codeIn K cd29 "_law_rows" = true) (k29:PySem.W.keepIn K (.ref f29)=true)
  (a30:PySem.W.nsIn K mainGlobals "_law_names" = some (some (.ref f30))) (l30:K.lookup f30=some ⟨oc30,od30,.func (PySem.W.fnOf "_law_names" "_law_names" (kW xS) (kU xS) (kJ xS) .none kV30 dc30 pm30 an30 cd30 ct30),sl30⟩) (c30:PySem.W.codeIn K cd30 "_law_names" = true) (k30:PySem.W.keepIn K (.ref f30)=true)
  (a31:PySem.W.nsIn K mainGlobals "_law_web" = some (some (.ref f31))) (l31:K.lookup f31=some ⟨oc31,od31,.func (PySem.W.fnOf "_law_web" "_law_web" (kW zK) (kU zK) (kJ zK) .none kV31 dc31 pm31 an31 cd31 ct31),sl31⟩) (c31:PySem.W.codeIn K cd31 "_law_web" = true) (k31:PySem.W.keepIn K (.ref f31)=true)
  (a32:PySem.W.nsIn K mainGlobals "_law_third" = some (some (.ref f32))) (l32:K.lookup f32=some ⟨oc32,od32,.func (PySem.W.fnOf "_law_third" "_law_third" (kW xQ) (kU xQ) (kJ xQ) .none kV32 dc32 pm32 an32 cd32 ct32),sl32⟩) (c32:PySem.W.codeIn K cd32 "_law_third" = true) (k32:PySem.W.keepIn K (.ref f32)=true)
  (a33:PySem.W.nsIn K mainGlobals "_law_walked" = some (some (.ref f33))) (l33:K.lookup f33=some ⟨oc33,od33,.func (PySem.W.fnOf "_law_walked" "_law_walked" (kW xA) (kU xA) (kJ xA) .none kV33 dc33 pm33 an33 cd33 ct33),sl33⟩) (c33:PySem.W.codeIn K cd33 "_law_walked" = true) (k33:PySem.W.keepIn K (.ref f33)=true)
  (a34:PySem.W.nsIn K mainGlobals "_law_bases" = some (some (.ref f34))) (l34:K.lookup f34=some ⟨oc34,od34,.func (PySem.W.fnOf "_law_bases" "_law_bases" (kW xV) (kU xV) (kJ xV) .none kV34 dc34 pm34 an34 cd34 ct34),sl34⟩) (c34:PySem.W.codeIn K cd34 "_law_bases" = true) (k34:PySem.W.keepIn K (.ref f34)=true)
  (a35:PySem.W.nsIn K mainGlobals "_law_right" = some (some (.ref f35))) (l35:K.lookup f35=some ⟨oc35,od35,.func (PySem.W.fnOf "_law_right" "_law_right" (kW xR) (kU xR) (kJ xR) .none kV35 dc35 pm35 an35 cd35 ct35),sl35⟩) (c35:PySem.W.codeIn K cd35 "_law_right" = true) (k35:PySem.W.keepIn K (.ref f35)=true)
  (a36:PySem.W.nsIn K mainGlobals "law" = some (some (.ref f36))) (l36:K.lookup f36=some ⟨oc36,od36,.func (PySem.W.fnOf "law" "law" (kW bA) (kU bA) (kJ bA) .none kV36 dc36 pm36 an36 cd36 ct36),sl36⟩) (c36:PySem.W.codeIn K cd36 "law" = true) (k36:PySem.W.keepIn K (.ref f36)=true)
  (y1:PySem.W.nsIn K mainGlobals "isinstance" = some none)
  (y2:PySem.W.nsIn K mainGlobals "bool" = some none)
  (y3:PySem.W.nsIn K mainGlobals "int" = some none)
  (y4:PySem.W.nsIn K mainGlobals "all" = some none)
  (y5:PySem.W.nsIn K mainGlobals "len" = some none)
  (y6:PySem.W.nsIn K mainGlobals "tuple" = some none)
  (y7:PySem.W.nsIn K mainGlobals "sorted" = some none)
  (y8:PySem.W.nsIn K mainGlobals "enumerate" = some none)
  (y9:PySem.W.nsIn K mainGlobals "list" = some none)
  (y10:PySem.W.nsIn K mainGlobals "range" = some none)
  (y11:PySem.W.nsIn K mainGlobals "zip" = some none)
  (y12:PySem.W.nsIn K mainGlobals "abs" = some none)
  (y13:PySem.W.nsIn K mainGlobals "max" = some none)
  (y14:PySem.W.nsIn K mainGlobals "divmod" = some none)
  (y15:PySem.W.nsIn K mainGlobals "min" = some none)
  : ∃ fd:FuncData,(∀ (s:Shared) (v:Value),BindsTo s fd ⟨[v],[]⟩ [("_law_script",v)])/\∀ base:Heap,K.In base->base.Ns mainGlobals mg->FnOk l.prog w K mg base CX0 10 fa fd ["_law_script"] (kAI K):=by
 have e:=hfa.symm.trans (PySem.W.mg_of X G a36);cases e
 have z_isinstance:=PySem.W.mg_none_of X G y1;have z_bool:=PySem.W.mg_none_of X G y2;have z_int:=PySem.W.mg_none_of X G y3;have z_all:=PySem.W.mg_none_of X G y4;have z_len:=PySem.W.mg_none_of X G y5;have z_tuple:=PySem.W.mg_none_of X G y6;have z_sorted:=PySem.W.mg_none_of X G y7;have z_enumerate:=PySem.W.mg_none_of X G y8;have z_list:=PySem.W.mg_none_of X G y9;have z_range:=PySem.W.mg_none_of X G y10;have z_zip:=PySem.W.mg_none_of X G y11;have z_abs:=PySem.W.mg_none_of X G y12;have z_max:=PySem.W.mg_none_of X G y13;have z_divmod:=PySem.W.mg_none_of X G y14;have z_min:=PySem.W.mg_none_of X G y15;have F1:=qI (st:=yN) l1 c1 k1;have F2:=qI (st:=xW) l2 c2 k2;have F3:=qI (st:=zP) l3 c3 k3;have F4:=qI (st:=yJ) l4 c4 k4;have F5:=qI (st:=cI) l5 c5 k5;have F6:=qI (st:=wR) l6 c6 k6;have F7:=qI (st:=jU) l7 c7 k7;have F8:=qI (st:=uL) l8 c8 k8;have F9:=qI (st:=zM) l9 c9 k9;have F10:=qI (st:=jJ) l10 c10 k10;have F11:=qI (st:=qU) l11 c11 k11;have F12:=qI (st:=xX) l12 c12 k12;have F13:=qI (st:=zN) l13 c13 k13;have F14:=qI (st:=jA) l14 c14 k14;have F15:=qI (st:=yP) l15 c15 k15;have F16:=qI (st:=jG) l16 c16 k16;have F17:=qI (st:=yK) l17 c17 k17;have F18:=qI (st:=cJ) l18 c18 k18;have F19:=qI (st:=jI) l19 c19 k19;have F20:=qI (st:=yO) l20 c20 k20;have F21:=qI (st:=wQ) l21 c21 k21;have F22:=qI (st:=xO) l22 c22 k22;have F23:=qI (st:=jV) l23 c23 k23;have F24:=qI (st:=zO) l24 c24 k24;have F25:=qI (st:=yL) l25 c25 k25;have F26:=qI (st:=zL) l26 c26 k26;have F27:=qI (st:=xU) l27 c27 k27;have F28:=qI (st:=jK) l28 c28 k28;have F29:=qI (st:=yM) l29 c29 k29;have F30:=qI (st:=xS) l30 c30 k30;have F31:=qI (st:=zK) l31 c31 k31;have F32:=qI (st:=xQ) l32 c32 k32;have F33:=qI (st:=xA) l33 c33 k33;have F34:=qI (st:=xV) l34 c34 k34;have F35:=qI (st:=xR) l35 c35 k35;have F36:=qI (st:=bA) l36 c36 k36;have b1:=F1.binds (ps:=["thing"]) λ _ _ _ _ _ _ us hl=>by obtain ⟨_,rfl⟩:=gJ (n:=1) rfl hl;rfl
 have b2:=F2.binds (ps:=["thing","many"]) λ _ _ _ _ _ _ us hl=>by obtain ⟨_,_,rfl⟩:=zG (n:=2) rfl hl;rfl
 have b3:=F3.binds (ps:=["row","first"]) λ _ _ _ _ _ _ us hl=>by obtain ⟨_,_,rfl⟩:=zG (n:=2) rfl hl;rfl
 have b4:=F4.binds (ps:=["web"]) λ _ _ _ _ _ _ us hl=>by obtain ⟨_,rfl⟩:=gJ (n:=1) rfl hl;rfl
 have b5:=F5.binds (ps:=["web"]) λ _ _ _ _ _ _ us hl=>by obtain ⟨_,rfl⟩:=gJ (n:=1) rfl hl;rfl
 have b6:=F6.binds (ps:=["web","step"]) λ _ _ _ _ _ _ us hl=>by obtain ⟨_,_,rfl⟩:=zG (n:=2) rfl hl;rfl
 have b7:=F7.binds (ps:=["web","step"]) λ _ _ _ _ _ _ us hl=>by obtain ⟨_,_,rfl⟩:=zG (n:=2) rfl hl;rfl
 have b8:=F8.binds (ps:=["web"]) λ _ _ _ _ _ _ us hl=>by obtain ⟨_,rfl⟩:=gJ (n:=1) rfl hl;rfl
 have b9:=F9.binds (ps:=["web"]) λ _ _ _ _ _ _ us hl=>by obtain ⟨_,rfl⟩:=gJ (n:=1) rfl hl;rfl
 have b10:=F10.binds (ps:=["web"]) λ _ _ _ _ _ _ us hl=>by obtain ⟨_,rfl⟩:=gJ (n:=1) rfl hl;rfl
 have b11:=F11.binds (ps:=["web"]) λ _ _ _ _ _ _ us hl=>by obtain ⟨_,rfl⟩:=gJ (n:=1) rfl hl;rfl
 have b12:=F12.binds (ps:=["web","p","q","r"]) λ _ _ _ _ _ _ us hl=>by obtain ⟨_,_,_,_,rfl⟩:=kGC (n:=4) rfl hl;rfl
 have b13:=F13.binds (ps:=["web","thing"]) λ _ _ _ _ _ _ us hl=>by obtain ⟨_,_,rfl⟩:=zG (n:=2) rfl hl;rfl
 have b14:=F14.binds (ps:=["web","base"]) λ _ _ _ _ _ _ us hl=>by obtain ⟨_,_,rfl⟩:=zG (n:=2) rfl hl;rfl
 have b15:=F15.binds (ps:=["web","base","thing"]) λ _ _ _ _ _ _ us hl=>by obtain ⟨_,_,_,rfl⟩:=bJ (n:=3) rfl hl;rfl
 have b16:=F16.binds (ps:=["web","top","ahead","place"]) λ _ _ _ _ _ _ us hl=>by obtain ⟨_,_,_,_,rfl⟩:=kGC (n:=4) rfl hl;rfl
 have b17:=F17.binds (ps:=["top","stretch","place"]) λ _ _ _ _ _ _ us hl=>by obtain ⟨_,_,_,rfl⟩:=bJ (n:=3) rfl hl;rfl
 have b18:=F18.binds (ps:=["web","base","thing"]) λ _ _ _ _ _ _ us hl=>by obtain ⟨_,_,_,rfl⟩:=bJ (n:=3) rfl hl;rfl
 have b19:=F19.binds (ps:=["web","base","order"]) λ _ _ _ _ _ _ us hl=>by obtain ⟨_,_,_,rfl⟩:=bJ (n:=3) rfl hl;rfl
 have b20:=F20.binds (ps:=["web","base","thing"]) λ _ _ _ _ _ _ us hl=>by obtain ⟨_,_,_,rfl⟩:=bJ (n:=3) rfl hl;rfl
 have b21:=F21.binds (ps:=["web","base","order"]) λ _ _ _ _ _ _ us hl=>by obtain ⟨_,_,_,rfl⟩:=bJ (n:=3) rfl hl;rfl
 have b22:=F22.binds (ps:=["web","base","order"]) λ _ _ _ _ _ _ us hl=>by obtain ⟨_,_,_,rfl⟩:=bJ (n:=3) rfl hl;rfl
 have b23:=F23.binds (ps:=["web","top"]) λ _ _ _ _ _ _ us hl=>by obtain ⟨_,_,rfl⟩:=zG (n:=2) rfl hl;rfl
 have b24:=F24.binds (ps:=["row","first","last"]) λ _ _ _ _ _ _ us hl=>by obtain ⟨_,_,_,rfl⟩:=bJ (n:=3) rfl hl;rfl
 have b25:=F25.binds (ps:=["web","base"]) λ _ _ _ _ _ _ us hl=>by obtain ⟨_,_,rfl⟩:=zG (n:=2) rfl hl;rfl
 have b26:=F26.binds (ps:=["_law_script","_law_k"]) λ _ _ _ _ _ _ us hl=>by obtain ⟨_,_,rfl⟩:=zG (n:=2) rfl hl;rfl
 have b27:=F27.binds (ps:=["_law_pot_here","_law_many"]) λ _ _ _ _ _ _ us hl=>by obtain ⟨_,_,rfl⟩:=zG (n:=2) rfl hl;rfl
 have b28:=F28.binds (ps:=["_law_rows_here","_law_row","_law_first","_law_last"]) λ _ _ _ _ _ _ us hl=>by obtain ⟨_,_,_,_,rfl⟩:=kGC (n:=4) rfl hl;rfl
 have b29:=F29.binds (ps:=["_law_pot_here","_law_n"]) λ _ _ _ _ _ _ us hl=>by obtain ⟨_,_,rfl⟩:=zG (n:=2) rfl hl;rfl
 have b30:=F30.binds (ps:=["_law_pot_here","_law_n"]) λ _ _ _ _ _ _ us hl=>by obtain ⟨_,_,rfl⟩:=zG (n:=2) rfl hl;rfl
 have b31:=F31.binds (ps:=["_law_rows_here","_law_names_here"]) λ _ _ _ _ _ _ us hl=>by obtain ⟨_,_,rfl⟩:=zG (n:=2) rfl hl;rfl
 have b32:=F32.binds (ps:=["_law_web_here","_law_p","_law_q"]) λ _ _ _ _ _ _ us hl=>by obtain ⟨_,_,_,rfl⟩:=bJ (n:=3) rfl hl;rfl
 have b33:=F33.binds (ps:=["_law_web_here","_law_order"]) λ _ _ _ _ _ _ us hl=>by obtain ⟨_,_,rfl⟩:=zG (n:=2) rfl hl;rfl
 have b34:=F34.binds (ps:=["_law_pot_here","_law_web_here"]) λ _ _ _ _ _ _ us hl=>by obtain ⟨_,_,rfl⟩:=zG (n:=2) rfl hl;rfl
 have b35:=F35.binds (ps:=["_law_web_here","_law_base"]) λ _ _ _ _ _ _ us hl=>by obtain ⟨_,_,rfl⟩:=zG (n:=2) rfl hl;rfl
 refine ⟨PySem.W.fnOf "law" "law" (kW bA) (kU bA) (kJ bA) .none kV36 dc36 pm36 an36 cd36 ct36,λ s v=>.of_eq rfl,λ base _ _=>?_⟩;have aL:Own.Has l.prog w K mg base "is_whole" ["thing"] 1 (fN):=⟨_,_,rC (P:=l.prog) (w:=w) (base:=base) (mg:=mg) F1 z_isinstance z_bool z_int,b1,k1,PySem.W.mg_of X G a1⟩;have xY:Own.Has l.prog w K mg base "are_whole" ["thing","many"] 2 (nH):=⟨_,_,oE (P:=l.prog) (w:=w) (base:=base) (mg:=mg) F2 aL z_all z_len z_isinstance z_tuple,b2,k2,PySem.W.mg_of X G a2⟩;have dD:Own.Has l.prog w K mg base "from_on" ["row","first"] 1 (fT):=⟨_,_,tR (P:=l.prog) (w:=w) (base:=base) (mg:=mg) F3 z_tuple,b3,k3,PySem.W.mg_of X G a3⟩;have yS:Own.Has l.prog w K mg base "steps_of" ["web"] 1 (dW):=⟨_,_,pY (P:=l.prog) (w:=w) (base:=base) (mg:=mg) F4 z_sorted z_enumerate,b4,k4,PySem.W.mg_of X G a4⟩;have kAA:Own.Has l.prog w K mg base "ties" ["web"] 2 (sT):=⟨_,_,kIO (P:=l.prog) (w:=w) (base:=base) (mg:=mg) F5 yS,b5,k5,PySem.W.mg_of X G a5⟩;have bO:Own.Has l.prog w K mg base "behind" ["web","step"] 1 (cH):=⟨_,_,kCZ (P:=l.prog) (w:=w) (base:=base) (mg:=mg) F6,b6,k6,PySem.W.mg_of X G a6⟩;have jW:Own.Has l.prog w K mg base "steps_round" ["web","step"] 2 (aY):=⟨_,_,gC (P:=l.prog) (w:=w) (base:=base) (mg:=mg) F7 bO,b7,k7,PySem.W.mg_of X G a7⟩;have uO:Own.Has l.prog w K mg base "faces" ["web"] 3 (dZ):=⟨_,_,kFU (P:=l.prog) (w:=w) (base:=base) (mg:=mg) F8 yS jW z_tuple z_sorted,b8,k8,PySem.W.mg_of X G a8⟩;have dA:Own.Has l.prog w K mg base "is_flat" ["web"] 4 (sW):=⟨_,_,tO (P:=l.prog) (w:=w) (base:=base) (mg:=mg) F9 uO kAA z_len,b9,k9,PySem.W.mg_of X G a9⟩;have zY:Own.Has l.prog w K mg base "must_be_flat" ["web"] 5 (aB):=⟨_,_,dP (P:=l.prog) (w:=w) (base:=base) (mg:=mg) F10 dA,b10,k10,PySem.W.mg_of X G a10⟩;have yD:Own.Has l.prog w K mg base "uncornered_face" ["web"] 4 (fP):=⟨_,_,aG (P:=l.prog) (w:=w) (base:=base) (mg:=mg) F11 uO z_len,b11,k11,PySem.W.mg_of X G a11⟩;have xZ:Own.Has l.prog w K mg base "are_round" ["web","p","q","r"] 3 (nI):=⟨_,_,oF (P:=l.prog) (w:=w) (base:=base) (mg:=mg) F12 jW,b12,k12,PySem.W.mg_of X G a12⟩;have dB:Own.Has l.prog w K mg base "is_base" ["web","thing"] 4 (nF):=⟨_,_,tP (P:=l.prog) (w:=w) (base:=base) (mg:=mg) F13 xY xZ z_len,b13,k13,PySem.W.mg_of X G a13⟩;have qM:Own.Has l.prog w K mg base "must_have_base" ["web","base"] 6 (zU):=⟨_,_,bE (P:=l.prog) (w:=w) (base:=base) (mg:=mg) F14 zY yD dB,b14,k14,PySem.W.mg_of X G a14⟩;have aN:Own.Has l.prog w K mg base "has_ends" ["web","base","thing"] 3 (cG):=⟨_,_,rE (P:=l.prog) (w:=w) (base:=base) (mg:=mg) F15 xY z_sorted z_list z_range z_len,b15,k15,PySem.W.mg_of X G a15⟩;have zD:Own.Has l.prog w K mg base "stretch_under" ["web","top","ahead","place"] 4 (cC):=⟨_,_,cN (P:=l.prog) (w:=w) (base:=base) (mg:=mg) F16 xZ z_len z_all z_zip,b16,k16,PySem.W.mg_of X G a16⟩;have aJ:Own.Has l.prog w K mg base "put_over" ["top","stretch","place"] 1 (mY):=⟨_,_,pZ (P:=l.prog) (w:=w) (base:=base) (mg:=mg) F17,b17,k17,PySem.W.mg_of X G a17⟩;have cZ:Own.Has l.prog w K mg base "laid" ["web","base","thing"] 5 (dX):=⟨_,_,kIP (P:=l.prog) (w:=w) (base:=base) (mg:=mg) F18 aN zD aJ z_list z_range z_len,b18,k18,PySem.W.mg_of X G a18⟩;have jN:Own.Has l.prog w K mg base "must_be_laid" ["web","base","order"] 7 (dY):=⟨_,_,dO (P:=l.prog) (w:=w) (base:=base) (mg:=mg) F19 qM cZ,b19,k19,PySem.W.mg_of X G a19⟩;have aM:Own.Has l.prog w K mg base "is_order" ["web","base","thing"] 7 (cF):=⟨_,_,rD (P:=l.prog) (w:=w) (base:=base) (mg:=mg) F20 qM cZ,b20,k20,PySem.W.mg_of X G a20⟩;have gO:Own.Has l.prog w K mg base "rounds" ["web","base","order"] 8 (fQ):=⟨_,_,kCY (P:=l.prog) (w:=w) (base:=base) (mg:=mg) F21 jN z_tuple,b21,k21,PySem.W.mg_of X G a21⟩;have uD:Own.Has l.prog w K mg base "stretches" ["web","base","order"] 8 (sU):=⟨_,_,nX (P:=l.prog) (w:=w) (base:=base) (mg:=mg) F22 jN z_tuple,b22,k22,PySem.W.mg_of X G a22⟩;have wK:Own.Has l.prog w K mg base "first_loose" ["web","top"] 1 (nB):=⟨_,_,gD (P:=l.prog) (w:=w) (base:=base) (mg:=mg) F23 z_range z_len,b23,k23,PySem.W.mg_of X G a23⟩;have dC:Own.Has l.prog w K mg base "from_to" ["row","first","last"] 2 (fS):=⟨_,_,tQ (P:=l.prog) (w:=w) (base:=base) (mg:=mg) F24 dD z_list,b24,k24,PySem.W.mg_of X G a24⟩;have yU:Own.Has l.prog w K mg base "order_of" ["web","base"] 7 (cE):=⟨_,_,rA (P:=l.prog) (w:=w) (base:=base) (mg:=mg) F25 qM wK dC z_len z_tuple,b25,k25,PySem.W.mg_of X G a25⟩;have cY:Own.Has l.prog w K mg base "_law_pot" ["_law_script","_law_k"] 1 (kEX K):=⟨_,_,tN (P:=l.prog) (w:=w) (base:=base) (mg:=mg) F26 z_abs z_max,b26,k26,PySem.W.mg_of X G a26⟩;have qK:Own.Has l.prog w K mg base "_law_digit" ["_law_pot_here","_law_many"] 1 (uK):=⟨_,_,oC (P:=l.prog) (w:=w) (base:=base) (mg:=mg) F27 z_divmod,b27,k27,PySem.W.mg_of X G a27⟩;have zZ:Own.Has l.prog w K mg base "_law_put_over" ["_law_rows_here","_law_row","_law_first","_law_last"] 1 (cD):=⟨_,_,dQ (P:=l.prog) (w:=w) (base:=base) (mg:=mg) F28 z_len z_range,b28,k28,PySem.W.mg_of X G a28⟩;have aK:Own.Has l.prog w K mg base "_law_rows" ["_law_pot_here","_law_n"] 2 (sV):=⟨_,_,rB (P:=l.prog) (w:=w) (base:=base) (mg:=mg) F29 qK zZ z_range z_len,b29,k29,PySem.W.mg_of X G a29⟩;have uF:Own.Has l.prog w K mg base "_law_names" ["_law_pot_here","_law_n"] 2 (mZ):=⟨_,_,oB (P:=l.prog) (w:=w) (base:=base) (mg:=mg) F30 qK z_range,b30,k30,PySem.W.mg_of X G a30⟩;have cX:Own.Has l.prog w K mg base "_law_web" ["_law_rows_here","_law_names_here"] 1 (kEW):=⟨_,_,tM (P:=l.prog) (w:=w) (base:=base) (mg:=mg) F31 z_len z_enumerate z_min z_tuple,b31,k31,PySem.W.mg_of X G a31⟩;have jY:Own.Has l.prog w K mg base "_law_third" ["_law_web_here","_law_p","_law_q"] 1 (dU):=⟨_,_,nY (P:=l.prog) (w:=w) (base:=base) (mg:=mg) F32,b32,k32,PySem.W.mg_of X G a32⟩;have vM:Own.Has l.prog w K mg base "_law_walked" ["_law_web_here","_law_order"] 2 (fO):=⟨_,_,hX (P:=l.prog) (w:=w) (base:=base) (mg:=mg) F33 jY z_list z_tuple z_range z_len,b33,k33,PySem.W.mg_of X G a33⟩;have uG:Own.Has l.prog w K mg base "_law_bases" ["_law_pot_here","_law_web_here"] 2 (nE):=⟨_,_,oD (P:=l.prog) (w:=w) (base:=base) (mg:=mg) F34 jY qK z_len z_enumerate,b34,k34,PySem.W.mg_of X G a34⟩;have uE:Own.Has l.prog w K mg base "_law_right" ["_law_web_here","_law_base"] 9 (fR):=⟨_,_,nZ (P:=l.prog) (w:=w) (base:=base) (mg:=mg) F35 yU vM aM uD gO z_sorted z_list z_range z_len z_isinstance z_tuple z_bool,b35,k35,PySem.W.mg_of X G a35⟩;exact kLH (P:=l.prog) (w:=w) (base:=base) (mg:=mg) F36 cY qK cX uF aK uG uE z_range z_max z_min z_len z_all
theorem walk {l:PySem.W.OpenLaw} {q:Program} {loose:List Str} {XP:(Str->Option Value)->Heap->Prop} {YP:World->Heap->Prop} {d:DefRec} {K:Params->PySem.W.Frag} (hn:l.most=some 63) (hdf:d.params.defaults=[])
  (hY:∀ (w:World) (h:Heap),YP w h->(K w.params).In h)
  (F:∀ (w:World) (mg:Str->Option Value) (fa:Addr) (h:Heap),(K w.params).In h->h.Ns mainGlobals mg->mg d.name=some (.ref fa) ->
   ∃ fd:FuncData,(∀ (s:Shared) (u:Value),BindsTo s fd ⟨[u],[]⟩ [("_law_script",u)])/\∀ base:Heap,(K w.params).In base->base.Ns mainGlobals mg->FnOk l.prog w (K w.params) mg base CX0 10 fa fd ["_law_script"] (kAI (K w.params))) :
  PySem.W.WalkO q loose XP YP l.row.toRowW d [] (λ f vs=>PySem.call f vs) :=
 L2.walk_of (n:=63) (k:=10) (x:="_law_script") (CX:=λ _=>CX0) (sp:=λ w=>kAI (K w.params)) hn (by decide) hdf ⟨rfl,by decide,by decide,rfl⟩ hY F (λ _ _ a ns hl _ hS=>⟨a,ns,rfl,hS,hl,λ _=>rfl⟩) λ _ _ _ _ _ z=>z
end Prf
def PySem.W.Fast.tw13043390971054366336:Nat:=0
def PySem.W.Fast.tw6831999343005056632:Nat:=0
def PySem.W.Fast.tw8032043741327106463:Nat:=0
def PySem.W.Fast.tw8991198601173663705:Nat:=0
def PySem.W.Fast.tw15486671981833245:Nat:=0
def PySem.W.Fast.tw8747224701703069805:Nat:=0
def PySem.W.Fast.tw18041804262984993460:Nat:=0
def PySem.W.Fast.tw1256144270460174817:Nat:=0
def PySem.W.Fast.tw18213740751678737570:Nat:=0
def PySem.W.Fast.tw12407121367343984772:Nat:=0
def PySem.W.Fast.tw13026864079363071941:Nat:=0
def PySem.W.Fast.tw3155675935929390695:Nat:=0
def PySem.W.Fast.tw8951142805044768553:Nat:=0
def PySem.W.Fast.tw5264558701356616906:Nat:=0
def PySem.W.Fast.tw12364303661310279594:Nat:=0
def PySem.W.Fast.tw16663628484935660942:Nat:=0
def PySem.W.Fast.tw14534515483650063923:Nat:=0
def PySem.W.Fast.tw96618443355454581:Nat:=0
def PySem.W.Fast.tw13686824856819863387:Nat:=0
open PySem PySem.W PyProof.Rows
set_option maxRecDepth 100000 in
set_option maxHeartbeats 0 in
theorem PySem.Challenge.cw_restdraw_k55_whole_order_for_each_base_holds : PySem.Challenge.rw_restdraw_k55_whole_order_for_each_base.Holds := by
 w_on;o_law;k_head;(case hw=>w_witness2)
 k_fill
 refine Prf.walk (l:=PySem.Challenge.rw_restdraw_k55_whole_order_for_each_base) rfl rfl (λ w h Y=>PySem.W.kIn_of Y) ?F
 case F =>
  intro w mg fa h KX G hmg;refine' Prf.all_mk KX G hmg ?a1 ?l1 ?c1 ?k1 ?a2 ?l2 ?c2 ?k2 ?a3 ?l3 ?c3 ?k3 ?a4 ?l4 ?c4 ?k4 ?a5 ?l5 ?c5 ?k5 ?a6 ?l6 ?c6 ?k6 ?a7 ?l7 ?c7 ?k7 ?a8 ?l8 ?c8 ?k8 ?a9 ?l9 ?c9 ?k9 ?a10 ?l10 ?c10 ?k10 ?a11 ?l11 ?c11 ?k11 ?a12 ?l12 ?c12 ?k12 ?a13 ?l13 ?c13 ?k13 ?a14 ?l14 ?c14 ?k14 ?a15 ?l15 ?c15 ?k15 ?a16 ?l16 ?c16 ?k16 ?a17 ?l17 ?c17 ?k17 ?a18 ?l18 ?c18 ?k18 ?a19 ?l19 ?c19 ?k19 ?a20 ?l20 ?c20 ?k20 ?a21 ?l21 ?c21 ?k21 ?a22 ?l22 ?c22 ?k22 ?a23 ?l23 ?c23 ?k23 ?a24 ?l24 ?c24 ?k24 ?a25 ?l25 ?c25 ?k25 ?a26 ?l26 ?c26 ?k26 ?a27 ?l27 ?c27 ?k27 ?a28 ?l28 ?c28 ?k28 ?a29 ?l29 ?c29 ?k29 ?a30 ?l30 ?c30 ?k30 ?a31 ?l31 ?c31 ?k31 ?a32 ?l32 ?c32 ?k32 ?a33 ?l33 ?c33 ?k33 ?a34 ?l34 ?c34 ?k34 ?a35 ?l35 ?c35 ?k35 ?a36 ?l36 ?c36 ?k36 ?y1 ?y2 ?y3 ?y4 ?y5 ?y6 ?y7 ?y8 ?y9 ?y10 ?y11 ?y12 ?y13 ?y14 ?y15
  (case a1=>k_is);(case l1=>k_is);(case c1=>k_is);(case k1=>k_is)
  (case a2=>k_is);(case l2=>k_is);(case c2=>k_is);(case k2=>k_is)
  (case a3=>k_is);(case l3=>k_is);(case c3=>k_is);(case k3=>k_is)
  (case a4=>k_is);(case l4=>k_is);(case c4=>k_is);(case k4=>k_is)
  (case a5=>k_is);(case l5=>k_is);(case c5=>k_is);(case k5=>k_is)
  (case a6=>k_is);(case l6=>k_is);(case c6=>k_is);(case k6=>k_is)
  (case a7=>k_is);(case l7=>k_is);(case c7=>k_is);(case k7=>k_is)
  (case a8=>k_is);(case l8=>k_is);(case c8=>k_is);(case k8=>k_is)
  (case a9=>k_is);(case l9=>k_is);(case c9=>k_is);(case k9=>k_is)
  (case a10=>k_is);(case l10=>k_is);(case c10=>k_is);(case k10=>k_is)
  (case a11=>k_is);(case l11=>k_is);(case c11=>k_is);(case k11=>k_is)
  (case a12=>k_is);(case l12=>k_is);(case c12=>k_is);(case k12=>k_is)
  (case a13=>k_is);(case l13=>k_is);(case c13=>k_is);(case k13=>k_is)
  (case a14=>k_is);(case l14=>k_is);(case c14=>k_is);(case k14=>k_is)
  (case a15=>k_is);(case l15=>k_is);(case c15=>k_is);(case k15=>k_is)
  (case a16=>k_is);(case l16=>k_is);(case c16=>k_is);(case k16=>k_is)
  (case a17=>k_is);(case l17=>k_is);(case c17=>k_is);(case k17=>k_is)
  (case a18=>k_is);(case l18=>k_is);(case c18=>k_is);(case k18=>k_is)
  (case a19=>k_is);(case l19=>k_is);(case c19=>k_is);(case k19=>k_is)
  (case a20=>k_is);(case l20=>k_is);(case c20=>k_is);(case k20=>k_is)
  (case a21=>k_is);(case l21=>k_is);(case c21=>k_is);(case k21=>k_is)
  (case a22=>k_is);(case l22=>k_is);(case c22=>k_is);(case k22=>k_is)
  (case a23=>k_is);(case l23=>k_is);(case c23=>k_is);(case k23=>k_is)
  (case a24=>k_is);(case l24=>k_is);(case c24=>k_is);(case k24=>k_is)
  (case a25=>k_is);(case l25=>k_is);(case c25=>k_is);(case k25=>k_is)
  (case a26=>k_is);(case l26=>k_is);(case c26=>k_is);(case k26=>k_is)
  (case a27=>k_is);(case l27=>k_is);(case c27=>k_is);(case k27=>k_is)
  (case a28=>k_is);(case l28=>k_is);(case c28=>k_is);(case k28=>k_is)
  (case a29=>k_is);(case l29=>k_is);(case c29=>k_is);(case k29=>k_is)
  (case a30=>k_is);(case l30=>k_is);(case c30=>k_is);(case k30=>k_is)
  (case a31=>k_is);(case l31=>k_is);(case c31=>k_is);(case k31=>k_is)
  (case a32=>k_is);(case l32=>k_is);(case c32=>k_is);(case k32=>k_is)
  (case a33=>k_is);(case l33=>k_is);(case c33=>k_is);(case k33=>k_is)
  (case a34=>k_is);(case l34=>k_is);(case c34=>k_is);(case k34=>k_is)
  (case a35=>k_is);(case l35=>k_is);(case c35=>k_is);(case k35=>k_is)
  (case a36=>k_is);(case l36=>k_is);(case c36=>k_is);(case k36=>k_is)
  (case y1=>k_is);(case y2=>k_is);(case y3=>k_is);(case y4=>k_is)
  (case y5=>k_is);(case y6=>k_is);(case y7=>k_is);(case y8=>k_is)
  (case y9=>k_is);(case y10=>k_is);(case y11=>k_is);(case y12=>k_is)
  (case y13=>k_is);(case y14=>k_is);(case y15=>k_is)
