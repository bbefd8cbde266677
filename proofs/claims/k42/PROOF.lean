import PyProof.Rows.All
import Wide.All
import OpenK.AllK
import Wide.FinOn
import Lean
import PyProof.EqAt
import PyProof.EqKinds
import PyProof.TupleCall
import PyProof.NeData
import PyProof.P3In
import PyProof.FactsAll.set
import PyProof.CollectWalk
import PyProof.FactsAll.range
import PyProof.MinMaxWalk
import KE.KMinKey
import PyProof.WalkInts
import PyProof.Rows.CallKwBuiltin
import KE.KSortTup
import PyProof.Rows.Range3
import PyProof.ListRange
import PyProof.DictCompW
import PyProof.DictWalks
import PyProof.Rows.CompDC
import PySem.Challenge.RW_twinmoulds_k42_whole_as_many_strangers_a
set_option bootstrap.genMatcherCode false
set_option genInjectivity false
set_option genSizeOfSpec false
set_option Elab.async false
set_option linter.all false
set_option maxRecDepth 100000
set_option maxHeartbeats 4000000
local macro_rules | `(tactic| omega) => `(tactic| lia)
open PySem.W (Frag)
namespace L2
open PySem PySem.Spec PyProof.Rows
noncomputable abbrev Key:=Sum Int Str
noncomputable def keyIs:Key->Value->Bool
 | .inl k,v=>Value.isInt k v
 | .inr x,v=>Value.isStrOf x v
noncomputable def keyH (w:World):Key->Int
 | .inl k=>hashInt k
 | .inr x=>hashStr w x
theorem keyIs_shape:∀{k:Key} {v:Value},keyIs k v=true->(∃i t,k=Sum.inl i/\v=Value.int i t)\/(∃x t,k=Sum.inr x/\v=Value.str x t)
 | .inl i,v,h=>by
  obtain ⟨t,e⟩:=Value.isInt_shape (k:=i) (v:=v) h
  exact .inl ⟨i,t,rfl,e⟩
 | .inr x,v,h=>by
  obtain ⟨t,e⟩:=Value.isStrOf_shape (x:=x) (v:=v) h
  exact .inr ⟨x,t,rfl,e⟩
theorem keyIs_int (i:Int) (t:Tok):keyIs (.inl i) (.int i t)=true:=by simp [keyIs,Value.isInt]
theorem keyIs_str (x:Str) (t:Tok):keyIs (.inr x) (.str x t)=true:=by simp [keyIs,Value.isStrOf]
theorem key_ll (a b:Int):decide ((Sum.inl a:Key)=Sum.inl b)=(a==b):=by
 by_cases e:a=b
 ·subst e;simp
 ·have h:¬ (Sum.inl a:Key)=Sum.inl b:=fun q=>e (Sum.inl.inj q)
  rw [decide_eq_false h]
  exact (beq_eq_false_iff_ne.mpr e).symm
theorem key_rr (a b:Str):decide ((Sum.inr a:Key)=Sum.inr b)=decide (a=b):=by
 by_cases e:a=b
 ·subst e;simp
 ·have h:¬ (Sum.inr a:Key)=Sum.inr b:=fun q=>e (Sum.inr.inj q)
  rw [decide_eq_false h,decide_eq_false e]
theorem key_lr (a:Int) (b:Str):decide ((Sum.inl a:Key)=Sum.inr b)=false:=decide_eq_false (fun q=>nomatch q)
theorem key_rl (a:Str) (b:Int):decide ((Sum.inr a:Key)=Sum.inl b)=false:=decide_eq_false (fun q=>nomatch q)
noncomputable def mixKind (prog:Program) (w:World):PySem.KeyKind prog w Key where
 is:=keyIs
 hash:=keyH w
 inj:=fun v a b ha hb=>by
  rcases keyIs_shape ha with ⟨i,t,rfl,rfl⟩ | ⟨x,t,rfl,rfl⟩
  ·rcases keyIs_shape hb with ⟨j,u,rfl,e⟩ | ⟨y,u,rfl,e⟩
   ·injection e with e1 _;rw [e1]
   ·exact nomatch e
  ·rcases keyIs_shape hb with ⟨j,u,rfl,e⟩ | ⟨y,u,rfl,e⟩
   ·exact nomatch e
   ·injection e with e1 _;rw [e1]
 byValue:=fun k v h=>by
  rcases keyIs_shape h with ⟨i,t,rfl,rfl⟩ | ⟨x,t,rfl,rfl⟩<;>rfl
 pyHash:=fun hv h=>by
  rcases keyIs_shape hv with ⟨i,t,rfl,rfl⟩ | ⟨x,t,rfl,rfl⟩
  ·exact wpAny_pyHash_int h
  ·exact wpAny_pyHash_str h
 eqBool:=fun hu hv h=>by
  rcases keyIs_shape hu with ⟨i,t,rfl,rfl⟩ | ⟨x,t,rfl,rfl⟩
  ·rcases keyIs_shape hv with ⟨j,u,rfl,rfl⟩ | ⟨y,u,rfl,rfl⟩
   ·rw [key_ll] at h;exact wpAny_eqBool_int h
   ·rw [key_lr] at h;exact SeqAt.EqAt.int_str i t y u _ _ _ _ h
  ·rcases keyIs_shape hv with ⟨j,u,rfl,rfl⟩ | ⟨y,u,rfl,rfl⟩
   ·rw [key_rl] at h;exact SeqAt.EqAt.str_int x t j u _ _ _ _ h
   ·rw [key_rr] at h;exact wpAny_eqBool_str h
 «strs»:=fun k x t v h=>by
  rcases keyIs_shape h with ⟨i,u,rfl,e⟩ | ⟨y,u,rfl,e⟩
  ·exact nomatch e
  ·injection e with e1 _
   subst e1
   cases v<;>rfl
theorem mixKind_int (prog:Program) (w:World) (i:Int) (t:Tok):(mixKind prog w).is (.inl i) (.int i t)=true:=keyIs_int i t
theorem mixKind_str (prog:Program) (w:World) (x:Str) (t:Tok):(mixKind prog w).is (.inr x) (.str x t)=true:=keyIs_str x t
end L2
namespace L2
open PySem PySem.Spec PyProof.Rows
set_option genInjectivity true in
inductive V where
 |non|bl (b:Bool)|int (i:Int)|str (x:Str)|byt (b:Array UInt8)|flt (b:UInt64)|ref (a:Addr)|ty (n:String)
 deriving DecidableEq
noncomputable def RelV:V->Value->Prop
 | .non,u=>u=Value.none
 | .bl b,u=>u=Value.bool b
 | .int i,u=>∃t,u=Value.int i t
 | .str x,u=>∃t,u=Value.str x t
 | .byt b,u=>∃t,u=Value.bytes b t
 | .flt b,u=>∃t,u=Value.float b t
 | .ref a,u=>u=Value.ref a
 | .ty n,u=>u=Value.type n
noncomputable abbrev Vals:List V->List Value->Prop:=Paired RelV
theorem Vals.length {xs:List V} {us:List Value} (r:Vals xs us):xs.length=us.length:=Paired.length r
theorem Vals.get:∀{xs:List V} {us:List Value} {i:Nat} {x:V},Vals xs us->xs[i]?=some x->∃u,us[i]?=some u/\RelV x u
 |_,_,_,_,.nil,e=>by simp at e
 |_,_,0,_,.cons r _,e=>by simp at e;subst e;exact ⟨_,rfl,r⟩
 |_,_,i+1,x,.cons _ t,e=>by
  obtain ⟨u,h1,h2⟩:=Vals.get (i:=i) (x:=x) t (by simpa using e)
  exact ⟨u,by simpa using h1,h2⟩
theorem Vals.set {x:V} {u:Value} (r:RelV x u):∀{xs:List V} {us:List Value} (i:Nat),Vals xs us->Vals (xs.set i x) (us.set i u)
 |_,_,_,.nil=>.nil
 |_,_,0,.cons _ t=>.cons r t
 |_,_,i+1,.cons q t=>.cons q (Vals.set r i t)
theorem Vals.append:∀{xs ys:List V} {us ws:List Value},Vals xs us->Vals ys ws->Vals (xs++ys) (us++ws)
 |_,_,_,_,.nil,s=>s
 |_,_,_,_,.cons r t,s=>.cons r (Vals.append t s)
theorem Vals.take:∀{xs:List V} {us:List Value} (n:Nat),Vals xs us->Vals (xs.take n) (us.take n)
 |_,_,0,_=>.nil
 |_,_,_ + 1,.nil=>.nil
 |_,_,n+1,.cons r t=>.cons r (Vals.take n t)
theorem Vals.drop:∀{xs:List V} {us:List Value} (n:Nat),Vals xs us->Vals (xs.drop n) (us.drop n)
 |_,_,0,r=>r
 |_,_,_ + 1,.nil=>.nil
 |_,_,n+1,.cons _ t=>Vals.drop n t
noncomputable def RelO:Option V->Option Value->Prop
 |some v,some u=>RelV v u
 |none,none=>True
 |_,_=>False
noncomputable def KV {κ:Type}:List (κ×V)->List (κ×Value)->Prop:=Paired fun (p:κ×V) (q:κ×Value)=>p.1=q.1/\RelV p.2 q.2
noncomputable def kV:Key->V
 | .inl i=>.int i
 | .inr x=>.str x
inductive HO where
 |lst (xs:List V)
 |tup (xs:List V)
 |dK (kvs:List (Key×V))|dT (kvs:List (List Key×V))
 |set (S:Int->Bool) (n:Nat)
 |ins (C dx:Addr) (fs:List (Str×V))
 |own (x:Addr)
 |xd (fs:List (Str×V))
 |met (f x:Addr)
 |rng (lo hi:Int)
 |frz (o:Obj) (u:HO)
 |tbl (ps:Array Value)
 |ext (φ:Heap->Prop)
noncomputable abbrev Hp:=Addr->Option HO
noncomputable def upd (H:Hp) (a:Addr) (o:HO):Hp:=fun b=>if b=a then some o else H b
theorem upd_same {H:Hp} {a:Addr} {o:HO}:upd H a o a=some o:=by unfold upd;rw [if_pos rfl]
theorem upd_ne {H:Hp} {a b:Addr} {o:HO} (h:b≠a):upd H a o b=H b:=by unfold upd;rw [if_neg h]
theorem ne_of {H:Hp} {a b:Addr} {o u:HO} (h:H a=some o) (h':H b=some u) (d:o≠u):a≠b:=by
 intro e;subst e;rw [h] at h';exact d (Option.some.inj h')
theorem ne_of_none {H:Hp} {a b:Addr} {o:HO} (h:H a=some o) (h':H b=none):a≠b:=by
 intro e;subst e;rw [h] at h';cases h'
section
variable (P:Program) (w:World)
noncomputable def ObjOk (H:Hp) (h:Heap) (a:Addr):HO->Prop
 | .lst xs=>xs.length<=sizeLine/\∃(its:List Value) (n:Nat),Vals xs its/\h.get? a=some { cls:=.type "list",data:=.seq its.toArray n }
 | .tup xs=>xs.length<=sizeLine/\∃its:List Value,Vals xs its/\IsTup h a its.toArray
 | .dK kvs=>kvs.length<=sizeLine/\(a==sysModules)=false/\∃vs,KV kvs vs/\h.DictOf (mixKind P w) a vs
 | .dT kvs=>kvs.length<=sizeLine/\(a==sysModules)=false/\∃xs:List (List Key×Addr×Value),
   Paired (fun (p:List Key×V) (q:List Key×Addr×Value)=>p.1=q.1/\H q.2.1=some (.tup (p.1.map kV))/\RelV p.2 q.2.2) kvs xs /\
   ∃o es ep,h.get? a=some o/\o.ExactDict/\o.data=.dict es ep/\es.toList=xs.map (entryOfKey (tupleKind (mixKind P w)))/\(xs.map (·.1)).Nodup
 | .set S n=>h.SetOf (intKind P w) a S n
 | .ins C dx fs=>H dx=some (.own a)/\fs.length<=1000/\dx≠a/\h.get? a=some (PySem.W.instObj C dx) /\
   ∃mA,h.Ns1 dx mA/\(∀f,RelO (fs.lookup f) (mA f))/\PySem.Within mA (fs.map (·.1))
 | .own _=>∃o,h.get? a=some o
 | .xd fs=>∃mA,h.Ns1 a mA/\∀f,RelO (fs.lookup f) (mA f)
 | .rng lo hi=>∃t u v,h.get? a=some { cls:=.type "range",data:=.fields #[.int lo t,.int hi u,.int 1 v] }
 | .frz o u=>h.get? a=some o/\ObjOk H h a u
 | .tbl ps=>h.get? a=some { cls:=.none,data:=.fields ps }
 | .met f x=>h.get? a=some (PySem.W.methodObj (.ref f) (.ref x))
 | .ext φ=>φ h/\(∃o,h.get? a=some o)/\∀h1 h2:Heap,φ h1->(∀o,h1.get? a=some o->h2.get? a=some o)->φ h2
def HOk (H:Hp) (h:Heap):Prop:=∀a o,H a=some o->ObjOk P w H h a o
end
section
variable {P:Program} {w:World} {H H':Hp} {h h':Heap} {a:Addr} {o:HO}
theorem ObjOk.lt (x:ObjOk P w H h a o):a<h.objs.size:=by
 cases o with
 |lst xs=>obtain ⟨_,_,_,_,e⟩:=x;exact Heap.lt_size e
 |tup xs=>obtain ⟨_,_,_,p⟩:=x;exact p.lt
 |dK kvs=>obtain ⟨_,_,_,_,o,_,_,e,_⟩:=x;exact Heap.lt_size e
 |dT kvs=>obtain ⟨_,_,_,_,o,_,_,e,_⟩:=x;exact Heap.lt_size e
 |set S n=>obtain ⟨o,_,_,_,e,_⟩:=x;exact Heap.lt_size e
 |ins C dx fs=>obtain ⟨_,_,_,e,_⟩:=x;exact Heap.lt_size e
 |own y=>obtain ⟨_,e⟩:=x;exact Heap.lt_size e
 |xd fs=>obtain ⟨_,⟨_,_,_,e,_⟩,_⟩:=x;exact Heap.lt_size e
 |rng lo hi=>obtain ⟨_,_,_,e⟩:=x;exact Heap.lt_size e
 |frz ob u=>obtain ⟨e,_⟩:=x;exact Heap.lt_size e
 |tbl ps=>exact Heap.lt_size (show h.get? a=some _ from x)
 |met f y=>exact Heap.lt_size (show h.get? a=some _ from x)
 |ext φ=>obtain ⟨_,⟨_,e⟩,_⟩:=x;exact Heap.lt_size e
theorem Paired.mapP {α β:Type} {F G:α->β->Prop}:∀{l₁:List α} {l₂:List β},Paired F l₁ l₂->(∀a b,F a b->G a b)->Paired G l₁ l₂
 |_,_,.nil,_=>.nil
 |_,_,.cons r t,f=>.cons (f _ _ r) (Paired.mapP t f)
theorem ObjOk.stay (x:ObjOk P w H h a o) (k:∀b u,(b=a\/H b=some (.own a))->h.get? b=some u->h'.get? b=some u)
  (ho:∀b,H b=some (.own a)->H' b=some (.own a)) (ht:∀b xs,H b=some (.tup xs)->H' b=some (.tup xs)):ObjOk P w H' h' a o:=by
 induction o with
 |lst xs=>obtain ⟨z,its,n,r,e⟩:=x;exact ⟨z,its,n,r,k _ _ (.inl rfl) e⟩
 |tup xs=>obtain ⟨z,its,r,ob,e,c⟩:=x;exact ⟨z,its,r,ob,k _ _ (.inl rfl) e,c⟩
 |dK kvs=>obtain ⟨z,y,vs,r,ob,es,ep,e,c⟩:=x;exact ⟨z,y,vs,r,ob,es,ep,k _ _ (.inl rfl) e,c⟩
 |dT kvs =>
  obtain ⟨z,y,xs,r,ob,es,ep,e,c⟩:=x
  exact ⟨z,y,xs,Paired.mapP r fun p q z=>⟨z.1,ht _ _ z.2.1,z.2.2⟩,ob,es,ep,k _ _ (.inl rfl) e,c⟩
 |set S n=>obtain ⟨ob,es,ep,t,e,c⟩:=x;exact ⟨ob,es,ep,t,k _ _ (.inl rfl) e,c⟩
 |ins C dx fs =>
  obtain ⟨d,z,ne,e,mA,⟨od,es,ep,e2,c⟩,r⟩:=x
  exact ⟨ho _ d,z,ne,k _ _ (.inl rfl) e,mA,⟨od,es,ep,k _ _ (.inr d) e2,c⟩,r⟩
 |own y=>obtain ⟨ob,e⟩:=x;exact ⟨ob,k _ _ (.inl rfl) e⟩
 |xd fs=>obtain ⟨mA,⟨od,es,ep,e,c⟩,r⟩:=x;exact ⟨mA,⟨od,es,ep,k _ _ (.inl rfl) e,c⟩,r⟩
 |rng lo hi=>obtain ⟨t,u,v,e⟩:=x;exact ⟨t,u,v,k _ _ (.inl rfl) e⟩
 |frz ob u ih=>obtain ⟨e,q⟩:=x;exact ⟨k _ _ (.inl rfl) e,ih q⟩
 |tbl ps =>
  have e:h.get? a=some { cls:=.none,data:=.fields ps }:=x
  show h'.get? a=some { cls:=.none,data:=.fields ps }
  exact k a _ (.inl rfl) e
 |met f y =>
  have e:h.get? a=some (PySem.W.methodObj (.ref f) (.ref y)):=x
  show h'.get? a=some (PySem.W.methodObj (.ref f) (.ref y))
  exact k a _ (.inl rfl) e
 |ext φ=>obtain ⟨p,⟨o,e⟩,st⟩:=x;exact ⟨st _ _ p fun o q=>k _ _ (.inl rfl) q,⟨o,k _ _ (.inl rfl) e⟩,st⟩
theorem HOk.lt (x:HOk P w H h) (e:H a=some o):a<h.objs.size:=(x a o e).lt
theorem HOk.fresh (x:HOk P w H h) (e:h.objs.size<=a):H a=none:=by
 cases q:H a with
 |none=>rfl
 |some u=>exact absurd (Nat.lt_of_lt_of_le (x.lt q) e) (Nat.lt_irrefl _)
theorem HOk.kept (x:HOk P w H h) (k:∀b u,h.get? b=some u->h'.get? b=some u):HOk P w H h':=fun a o e =>
 (x a o e).stay (fun b u _ q=>k b u q) (fun _ q=>q) fun _ _ q=>q
theorem HOk.laid (x:HOk P w H h) (k:∀b u,h.get? b=some u->h'.get? b=some u) (hp:h.objs.size<=a) (new:ObjOk P w (upd H a o) h' a o):HOk P w (upd H a o) h':=fun b u e=>by
 have hn:=x.fresh hp
 by_cases hb:b=a
 ·subst hb;rw [upd_same] at e;cases e;exact new
 ·rw [upd_ne hb] at e
  exact (x b u e).stay (fun c v _ q=>k c v q) (fun c q=>by rw [upd_ne (ne_of_none q hn)];exact q) fun c xs q=>by rw [upd_ne (ne_of_none q hn)];exact q
end
def Rd (H:Hp) (a:Addr) (u:HO):Prop:=H a=some u\/∃o,H a=some (.frz o u)
theorem Rd.ok {P:Program} {w:World} {H:Hp} {h:Heap} {a:Addr} {u:HO} (r:Rd H a u) (x:HOk P w H h):ObjOk P w H h a u:=by
 rcases r with r | ⟨o,r⟩
 ·exact x a u r
 ·obtain ⟨_,q⟩:=x a _ r
  exact q
noncomputable def Mut:Option HO->Prop
 |some (.lst _)=>True
 |some (.dK _)=>True
 |some (.dT _)=>True
 |some (.set _ _)=>True
 |some (.ins _ _ _)=>True
 |some (.ext _)=>True
 |_=>False
section
variable {P:Program} {w:World} {H:Hp} {h h':Heap} {x e:Addr} {o':HO}
theorem HOk.write (ok:HOk P w H h) (mu:Mut (H x)) (he:e=x\/H e=some (.own x)) (k:∀b u,b≠e->h.get? b=some u->h'.get? b=some u) (heo:∃u,h'.get? e=some u)
  (new:ObjOk P w (upd H x o') h' x o'):HOk P w (upd H x o') h':=fun b u q=>by
 have nown:∀c y,H c=some (.own y)->c≠x:=fun c y r z=>by subst z;rw [r] at mu;exact mu
 have ntup:∀c xs,H c=some (.tup xs)->c≠x:=fun c xs r z=>by subst z;rw [r] at mu;exact mu
 by_cases hb:b=x
 ·subst hb;rw [upd_same] at q;cases q;exact new
 ·rw [upd_ne hb] at q
  by_cases hbe:b=e
  ·have q':H b=some (.own x):=by
    rcases he with z|z
    ·exact absurd (hbe.trans z) hb
    ·rw [hbe];exact z
   rw [q] at q';cases q'
   obtain ⟨v,hv⟩:=heo
   exact ⟨v,by rw [hbe];exact hv⟩
  ·refine (ok b u q).stay (fun c v hc r=>k c v ?_ r) (fun c r=>by rw [upd_ne (nown c b r)];exact r) fun c xs r=>by rw [upd_ne (ntup c xs r)];exact r
   rcases hc with rfl|hc
   ·exact hbe
   ·rintro rfl
    rcases he with z|z
    ·exact nown c b hc z
    ·rw [hc] at z;cases z;exact hb rfl
end
structure Un (fs ex:List Addr) (H H':Hp) (h h':Heap):Prop where
 keep:∀b o,h.get? b=some o->H b=none->b∉fs->b∉ex->h'.get? b=some o
 slot:∀b o,h.get? b=some o->H b=none->b∈fs->b∉ex->∃sl,h'.get? b=some { o with slots:=sl }
 free:∀b o,h.get? b=some o->H b=none->b∉ex->H' b=none
 there:∀b o,h.get? b=some o->b∉ex->∃o',h'.get? b=some o'
 tups:∀b xs,H b=some (.tup xs)->H' b=some (.tup xs)
 frzs:∀b o u,H b=some (.frz o u)->H' b=some (.frz o u)
 tbls:∀b ps,H b=some (.tbl ps)->∃more,H' b=some (.tbl (ps++more))
section
variable {fs fs' ex ex':List Addr} {H H1 H2:Hp} {h h1 h2 h':Heap} {a x e:Addr} {o:HO}
theorem Un.any (u:Un fs ex H H1 h h1) {b:Addr} {ob:Obj} (q:h.get? b=some ob) (n:H b=none) (hx:b∉ex):∃sl,h1.get? b=some { ob with slots:=sl }:=by
 by_cases hb:b∈fs
 ·exact u.slot b ob q n hb hx
 ·exact ⟨ob.slots,u.keep b ob q n hb hx⟩
theorem Un.kept (k:∀b u,h.get? b=some u->h'.get? b=some u):Un fs ex H H h h' :=
 ⟨fun b ob q _ _ _=>k b ob q,fun b ob q _ _ _=>⟨ob.slots,k b ob q⟩,fun _ _ _ n _=>n,fun b ob q _=>⟨ob,k b ob q⟩,fun _ _ q=>q,fun _ _ _ q=>q,fun _ ps q=>⟨#[],by rw [q];simp⟩⟩
theorem Un.refl:Un fs ex H H h h:=Un.kept fun _ _ q=>q
theorem Un.laid (k:∀b u,h.get? b=some u->h'.get? b=some u) (hp:h.objs.size<=a) (hn:H a=none):Un fs ex H (upd H a o) h h' where
 keep:=fun b u q _ _ _=>k b u q
 slot:=fun b u q _ _ _=>⟨u.slots,k b u q⟩
 free:=fun b u q n _=>by rw [upd_ne (Nat.ne_of_lt (Nat.lt_of_lt_of_le (Heap.lt_size q) hp))];exact n
 there:=fun b u q _=>⟨u,k b u q⟩
 tups:=fun b xs q=>by rw [upd_ne (ne_of_none q hn)];exact q
 frzs:=fun b u xs q=>by rw [upd_ne (ne_of_none q hn)];exact q
 tbls:=fun b ps q=>⟨#[],by rw [upd_ne (ne_of_none q hn),q];simp⟩
theorem Un.write (mu:Mut (H x)) (he:e=x\/H e=some (.own x)) (k:∀b u,b≠e->h.get? b=some u->h'.get? b=some u) (heo:∃u,h'.get? e=some u):Un fs ex H (upd H x o) h h':=by
 have hx:∀b,H b=none->b≠x:=fun b n z=>by subst z;rw [n] at mu;exact mu
 have hb:∀b,H b=none->b≠e:=fun b n z=>by
  subst z
  rcases he with r|r
  ·exact hx b n r
  ·rw [n] at r;cases r
 have hm:∀b u,H b=some u->¬ Mut (some u)->b≠x:=fun b u q nm z=>by subst z;rw [q] at mu;exact nm mu
 refine ⟨fun b u q n _ _=>k b u (hb b n) q,fun b u q n _ _=>⟨u.slots,k b u (hb b n) q⟩,fun b u q n _=>by rw [upd_ne (hx b n)];exact n,fun b u q _=>?_,
  fun b xs q=>by rw [upd_ne (hm b _ q fun z=>z)];exact q,fun b u xs q=>by rw [upd_ne (hm b _ q fun z=>z)];exact q,fun b ps q=>⟨#[],by rw [upd_ne (hm b _ q fun z=>z),q];simp⟩⟩
 by_cases hbe:b=e
 ·subst hbe;exact heo
 ·exact ⟨u,k b u hbe q⟩
end
noncomputable def trk (h:Heap) (H:Hp):List Addr:=(List.range h.objs.size).filter fun a=>(H a).isSome
noncomputable def hidT (h:Heap) (H:Hp):Heap:=PySem.W.hideAll h (trk h H)
theorem hidT_size (h:Heap) (H:Hp):(hidT h H).objs.size=h.objs.size:=PySem.W.hideAll_size _ _
theorem hidT_get {h:Heap} {H:Hp} {b:Addr} {o:Obj} (e:h.get? b=some o) (n:H b=none):(hidT h H).get? b=some o :=
 PySem.W.hideAll_get _ e fun hm=>by
  have q:(H b).isSome=true:=(List.mem_filter.mp hm).2
  rw [n] at q;simp at q
theorem of_hidT {h:Heap} {H:Hp} {b:Addr} {o:Obj} (e:(hidT h H).get? b=some o):h.get? b=some o/\H b=none:=by
 have e':h.get? b=some o:=PySem.W.of_hideAll (trk h H) e
 refine ⟨e',?_⟩
 cases q:H b with
 |none=>rfl
 |some x =>
  have hm:b∈trk h H:=List.mem_filter.mpr ⟨List.mem_range.mpr (Heap.lt_size e'),by simp [q]⟩
  have z:(hidT h H).get? b=none:=PySem.W.hideAll_none (trk h H) hm
  rw [z] at e;cases e
noncomputable def allNews (g h:Heap) (L:Addr):List (Addr×Obj):=(List.range h.objs.size).filterMap fun a=>if a=L\/(g.get? a).isSome=true then none else (h.get? a).map fun o=>(a,o)
noncomputable def rest (g h:Heap) (L d:Addr):List (Addr×Obj):=(allNews g h L).filter fun p=>decide (p.1≠d)
end L2
namespace L2
open PySem PySem.Spec PyProof.Rows
structure Mod (K:Frag) (mg:Str->Option Value) (base:Heap):Prop where
 kin:K.In base
 glob:base.Ns mainGlobals mg
 blt:∃mb,base.Ns builtinsNs mb/\∀x:Str,x≠"__name__"->mb x=bootBuiltins x
 nolimit:base.NoLimit
structure Cx where
 prog:Program
 w:World
 K:Frag
 mg:Str->Option Value
 base:Heap
 A:Around
 N:List Str
 s₀:Shared
 H₀:Hp
 env:Env
 outer:List Env
 stack:List Env
 ex:List Addr
 fn:Str->Bool
 calm:Bool
 pn:List (Addr×Obj)
 xe:Value->Shared->Prop
noncomputable def frs (l:List Env):List Addr:=l.filterMap (·.frame)
noncomputable abbrev Cx.fs (X:Cx):List Addr:=frs X.outer
def Vis (sc:Scope) (x:Str):Prop:=sc.names.lookup x=some .local\/sc.names.lookup x=some .cell\/sc.names.lookup x=some .free
def Loc (sc:Scope) (x:Str):Prop:=sc.names.lookup x=some .local\/sc.names.lookup x=some .cell
def Look (env:Env) (h:Heap) (m:Str->Option Value) (x:Str) (u:Value):Prop :=
 (env.kindOf x=some .local/\m x=some u)\/((env.kindOf x=some .cell\/env.kindOf x=some .free)/\∃c,env.cells.lookup x=some c/\h.IsCell c (some u))
structure Cx.Ok (X:Cx):Prop where
 mod:Mod X.K X.mg X.base
 kind:X.env.scope.kind=.function
 glob:X.env.globals=mainGlobals
 blt:X.env.builtins=builtinsNs
 above:X.s₀.heap.objs.size<=X.env.locals
 inj:∀x y c,X.env.cells.lookup x=some c->X.env.cells.lookup y=some c->x=y
 has:∀x,(X.env.kindOf x=some .cell\/X.env.kindOf x=some .free)->∃c,X.env.cells.lookup x=some c
 cab:∀x c,X.fn x=true->X.env.cells.lookup x=some c->X.s₀.heap.objs.size<=c
 hd:X.calm=true->X.A.handled=none
 frames:X.A.frames=some X.stack
 stk:X.stack=X.outer\/(X.stack=X.env::X.outer/\X.env.frame=some X.env.locals)
 exf:∀b∈X.ex,b≠X.env.locals/\∀x c,X.env.cells.lookup x=some c->c≠b
 bs:∀b o,X.base.get? b=some o->X.s₀.heap.get? b=some o/\X.H₀ b=none
 bsz:X.base.objs.size<=X.s₀.heap.objs.size
 noex:∀b o,X.base.get? b=some o->b∉X.ex
 exfs:∀b∈X.ex,b∉X.fs
 funs:X.s₀.heap.FunFrames X.base X.outer
 frf:∀b∈X.fs,X.H₀ b=none
structure Inv (X:Cx) (pins:List (Addr×Obj)) (σ:List (Option V)) (H:Hp) (s:Shared):Prop where
 ok:X.Ok
 os:s.os=X.s₀.os
 bare:AllBare s.gens
 base:Un X.fs X.ex X.H₀ H X.s₀.heap s.heap
 loc:∃m,s.heap.Ns X.env.locals m/\∀(i:Nat) (x:Str) (v:V),X.N[i]?=some x->σ[i]?=some (some v)->Vis X.env.scope x->∃u,RelV v u/\Look X.env s.heap m x u
 cell:∀x c,X.env.cells.lookup x=some c->∃v,s.heap.IsCell c v
 free:H X.env.locals=none
 freeC:∀x c,X.env.cells.lookup x=some c->H c=none
 pin:∀p∈X.pn++pins,s.heap.get? p.1=some p.2/\H p.1=none/\p.1≠X.env.locals/\p.1∉X.fs/\∀v,p.2.data≠.cell v
 hok:HOk X.prog X.w H s.heap
 len:σ.length=X.N.length
section
variable {X:Cx} {pins:List (Addr×Obj)} {σ:List (Option V)} {H H':Hp} {s:Shared} {h':Heap}
theorem Cx.Ok.nofr (ok:X.Ok) {b:Addr} {o:Obj} (e:X.base.get? b=some o):b∉X.fs:=fun hb=>by
 have:=(ok.funs.mem hb).1
 rw [e] at this;cases this
theorem Inv.bs (I:Inv X pins σ H s):∀b o,X.base.get? b=some o->s.heap.get? b=some o/\H b=none:=fun b o e =>
 ⟨I.base.keep b o (I.ok.bs b o e).1 (I.ok.bs b o e).2 (I.ok.nofr e) (I.ok.noex b o e),I.base.free b o (I.ok.bs b o e).1 (I.ok.bs b o e).2 (I.ok.noex b o e)⟩
theorem Inv.bk (I:Inv X pins σ H s):∀b o,X.base.get? b=some o->s.heap.get? b=some o:=fun b o e=>(I.bs b o e).1
theorem Inv.mod (I:Inv X pins σ H s):Mod X.K X.mg X.base:=I.ok.mod
theorem Inv.kIn (I:Inv X pins σ H s):X.K.In s.heap:=I.ok.mod.kin.keeps I.bk
theorem Inv.lt (I:Inv X pins σ H s):X.env.locals<s.heap.objs.size:=let ⟨_,hn,_⟩:=I.loc;hn.lt
theorem Inv.sz (I:Inv X pins σ H s):X.s₀.heap.objs.size<=s.heap.objs.size:=Nat.le_trans I.ok.above (Nat.le_of_lt I.lt)
theorem Inv.nofs (I:Inv X pins σ H s) {a:Addr} (h:s.heap.objs.size<=a):a∉X.fs:=fun hb=>by
 obtain ⟨_,o,ho,_⟩:=I.ok.funs.mem hb
 exact absurd (Nat.lt_of_lt_of_le (Heap.lt_size ho) (Nat.le_trans I.sz h)) (Nat.lt_irrefl _)
theorem Inv.cne (I:Inv X pins σ H s):∀x c,X.env.cells.lookup x=some c->c≠X.env.locals:=fun x c e z=>by
 obtain ⟨v,o,ho,hd⟩:=I.cell x c e
 obtain ⟨m,⟨o',es,ep,ho',hd',_⟩,_⟩:=I.loc
 rw [z,ho'] at ho;cases ho;rw [hd'] at hd;cases hd
theorem Inv.funs (I:Inv X pins σ H s):s.heap.FunFrames X.base X.outer:=by
 have all:∀(l:List Env),(∀b∈frs l,b∈X.fs)->X.s₀.heap.FunFrames X.base l->s.heap.FunFrames X.base l:=by
  intro l
  induction l with
  |nil=>intro _ _;trivial
  |cons env r ih =>
   intro hs hl
   obtain ⟨hk,⟨L,o,hf,hn,ho,hd⟩,hr⟩:=hl
   have hL:L∈X.fs:=hs L (by unfold frs;rw [List.filterMap_cons,hf];exact List.mem_cons_self)
   obtain ⟨sl,e⟩:=I.base.slot L o ho (I.ok.frf L hL) hL fun z=>I.ok.exfs L z hL
   exact ⟨hk,⟨L,_,hf,hn,e,hd⟩,ih (fun b hb=>hs b (by unfold frs;rw [List.filterMap_cons,hf];exact List.mem_cons_of_mem _ hb)) hr⟩
 exact all X.outer (fun _ hb=>hb) I.ok.funs
theorem Inv.stack (I:Inv X pins σ H s):s.heap.FunFrames X.base X.stack:=by
 rcases I.ok.stk with e | ⟨e,hf⟩
 ·rw [e];exact I.funs
 ·rw [e]
  obtain ⟨m,hn,_⟩:=I.loc
  refine .cons (by rw [I.ok.kind];decide) hf hn ?_ I.funs
  exact Heap.get?_none_of_le (Nat.le_trans I.ok.bsz I.ok.above)
theorem Inv.stkSub (I:Inv X pins σ H s):∀b∈frs X.stack,b∈X.env.locals::X.fs:=fun b hb=>by
 rcases I.ok.stk with e | ⟨e,hf⟩
 ·rw [e] at hb;exact List.mem_cons_of_mem _ hb
 ·rw [e] at hb
  unfold frs at hb
  rw [List.filterMap_cons,hf] at hb
  exact hb
theorem Inv.stkFree (I:Inv X pins σ H s):∀b∈frs X.stack,H b=none:=fun b hb=>by
 rcases List.mem_cons.mp (I.stkSub b hb) with e|hb
 ·rw [e];exact I.free
 ·obtain ⟨_,o,ho,_⟩:=I.ok.funs.mem hb
  exact I.base.free b o ho (I.ok.frf b hb) fun z=>I.ok.exfs b z hb
theorem Inv.step {g':Array GenState} {t':Nat} {d':Drawn} {ch:List Addr} (I:Inv X pins σ H s)
  (hch:∀b∈ch,(b∈X.ex\/X.s₀.heap.objs.size<=b)/\b≠X.env.locals/\(∀x c,X.env.cells.lookup x=some c->c≠b)/\∀p∈X.pn++pins,p.1≠b)
  (keep:∀b o,b≠X.env.locals->b∉X.fs->b∉ch->s.heap.get? b=some o->H b=none->h'.get? b=some o)
  (slot:∀b o,b≠X.env.locals->b∈X.fs->b∉ch->s.heap.get? b=some o->H b=none->∃sl,h'.get? b=some { o with slots:=sl }) (free:∀b o,b∉ch->s.heap.get? b=some o->H b=none->H' b=none)
  (there:∀b o,b∉ch->s.heap.get? b=some o->∃o',h'.get? b=some o')
  (tups:∀b xs,H b=some (.tup xs)->H' b=some (.tup xs)) (frzs:∀b o u,H b=some (.frz o u)->H' b=some (.frz o u)) (tbls:∀b ps,H b=some (.tbl ps)->∃more,H' b=some (.tbl (ps++more)))
  (ns:∀m,s.heap.Ns X.env.locals m->h'.Ns X.env.locals m) (hok:HOk X.prog X.w H' h') (hg:AllBare g') :
  Inv X pins σ H' { s with heap:=h',gens:=g',drawn:=d',toks:=t' }:=by
 have neL:∀b o,X.s₀.heap.get? b=some o->b≠X.env.locals:=fun b o e=>Nat.ne_of_lt (Nat.lt_of_lt_of_le (Heap.lt_size e) I.ok.above)
 have neC:∀b o,X.s₀.heap.get? b=some o->b∉X.ex->b∉ch:=fun b o e hx hb=>by
  rcases (hch b hb).1 with z|z
  ·exact hx z
  ·exact absurd (Nat.lt_of_lt_of_le (Heap.lt_size e) z) (Nat.lt_irrefl _)
 have cellK:∀x c,X.env.cells.lookup x=some c->∀v,s.heap.IsCell c v->h'.IsCell c v:=fun x c e v ⟨o,ho,hd⟩=>by
  have nch:c∉ch:=fun z=>(hch c z).2.2.1 x c e rfl
  by_cases hc:c∈X.fs
  ·obtain ⟨sl,q⟩:=slot c o (I.cne x c e) hc nch ho (I.freeC x c e)
   exact ⟨_,q,hd⟩
  ·exact ⟨o,keep c o (I.cne x c e) hc nch ho (I.freeC x c e),hd⟩
 refine ⟨I.ok,I.os,hg,⟨fun b o e n hb hx=>?_,fun b o e n hb hx=>?_,fun b o e n hx=>?_,fun b o e hx=>?_,fun b xs e=>tups b xs (I.base.tups b xs e),fun b o xs e=>frzs b o xs (I.base.frzs b o xs e),fun b ps e=>?_⟩,?_,fun x c e=>?_,?_,fun x c e=>?_,fun p hp=>?_,hok,I.len⟩
 ·exact keep b o (neL b o e) hb (neC b o e hx) (I.base.keep b o e n hb hx) (I.base.free b o e n hx)
 ·obtain ⟨sl,e1⟩:=I.base.slot b o e n hb hx
  obtain ⟨sl',e2⟩:=slot b _ (neL b o e) hb (neC b o e hx) e1 (I.base.free b o e n hx)
  exact ⟨sl',e2⟩
 ·obtain ⟨o',e1⟩:=I.base.there b o e hx
  exact free b o' (neC b o e hx) e1 (I.base.free b o e n hx)
 ·obtain ⟨o',e1⟩:=I.base.there b o e hx
  exact there b o' (neC b o e hx) e1
 ·obtain ⟨m1,e1⟩:=I.base.tbls b ps e
  obtain ⟨m2,e2⟩:=tbls b _ e1
  exact ⟨m1++m2,by rw [e2,Array.append_assoc]⟩
 ·obtain ⟨m,hn,hl⟩:=I.loc
  refine ⟨m,ns m hn,fun i x v e1 e2 e3=>?_⟩
  obtain ⟨u,r,l⟩:=hl i x v e1 e2 e3
  refine ⟨u,r,?_⟩
  rcases l with l | ⟨k,c,e,z⟩
  ·exact .inl l
  ·exact .inr ⟨k,c,e,cellK x c e _ z⟩
 ·obtain ⟨v,z⟩:=I.cell x c e
  exact ⟨v,cellK x c e v z⟩
 ·obtain ⟨m,⟨o,_,_,ho,_⟩,_⟩:=I.loc
  exact free _ o (fun z=>(hch _ z).2.1 rfl) ho I.free
 ·obtain ⟨v,o,ho,hd⟩:=I.cell x c e
  exact free c o (fun z=>(hch c z).2.2.1 x c e rfl) ho (I.freeC x c e)
 ·obtain ⟨e,n,ne,nf,d⟩:=I.pin p hp
  have nch:p.1∉ch:=fun z=>(hch p.1 z).2.2.2 p hp rfl
  exact ⟨keep p.1 p.2 ne nf nch e n,free p.1 p.2 nch e n,ne,nf,d⟩
theorem Inv.un {t':Nat} (I:Inv X pins σ H s) (u:Un X.fs [] H H' s.heap h') (hok:HOk X.prog X.w H' h'):Inv X pins σ H' { s with heap:=h',toks:=t' }:=by
 obtain ⟨m,⟨o,es,ep,ho,r⟩,_⟩:=id I.loc
 obtain ⟨sl,hL⟩:=u.any ho I.free (by simp)
 exact I.step (g':=s.gens) (d':=s.drawn) (ch:=[]) (fun _ z=>nomatch z) (fun b o _ hb _ e n=>u.keep b o e n hb (by simp)) (fun b o _ hb _ e n=>u.slot b o e n hb (by simp)) (fun b o _ e n=>u.free b o e n (by simp)) (fun b o _ e=>u.there b o e (by simp)) u.tups u.frzs u.tbls (fun m' hm=>by
  obtain ⟨o',es',ep',ho',r'⟩:=hm
  rw [ho] at ho';cases ho'
  exact ⟨_,es',ep',hL,r'⟩) hok I.bare
theorem Inv.call {g':Array GenState} {t':Nat} {d':Drawn} {ch:List Addr} (I:Inv X pins σ H s) (u:Un (frs X.stack) ch H H' s.heap h') (hok:HOk X.prog X.w H' h') (hg:AllBare g')
  (hch:∀b∈ch,(b∈X.ex\/X.s₀.heap.objs.size<=b)/\b≠X.env.locals/\(∀x c,X.env.cells.lookup x=some c->c≠b)/\∀p∈X.pn++pins,p.1≠b) :
  Inv X pins σ H' { s with heap:=h',gens:=g',drawn:=d',toks:=t' }:=by
 obtain ⟨m,⟨o,es,ep,ho,r⟩,_⟩:=id I.loc
 obtain ⟨sl,hL⟩:=u.any ho I.free fun z=>(hch _ z).2.1 rfl
 exact I.step (ch:=ch) hch (fun b o hL hb hc e n=>u.keep b o e n (fun z=>(List.mem_cons.mp (I.stkSub b z)).elim hL hb) hc) (fun b o _ _ hc e n=>u.any e n hc) (fun b o hc e n=>u.free b o e n hc) (fun b o hc e=>u.there b o e hc) u.tups u.frzs u.tbls (fun m' hm=>by
  obtain ⟨o',es',ep',ho',r'⟩:=hm
  rw [ho] at ho';cases ho'
  exact ⟨_,es',ep',hL,r'⟩) hok hg
theorem Inv.turned {t':Nat} {it:Addr} (I:Inv X pins σ H s) (k:∀b o,b≠it->s.heap.get? b=some o->h'.get? b=some o) (hn:H it=none) (hL:it≠X.env.locals)
  (h1:it∈X.ex\/X.s₀.heap.objs.size<=it) (h2:∀x c,X.env.cells.lookup x=some c->c≠it) (h3:∀p∈X.pn++pins,p.1≠it):Inv X pins σ H { s with heap:=h',toks:=t' }:=by
 have nit:∀b u,H b=some u->b≠it:=fun b u e z=>by rw [z,hn] at e;cases e
 refine I.step (g':=s.gens) (d':=s.drawn) (ch:=[it]) (fun b hb=>?_) (fun b o _ _ hc e _=>k b o (fun z=>hc (by simp [z])) e) (fun b o _ _ hc e _=>⟨o.slots,k b o (fun z=>hc (by simp [z])) e⟩) (fun _ _ _ _ n=>n)
  (fun b o hc e=>⟨o,k b o (fun z=>hc (by simp [z])) e⟩) (fun _ _ e=>e) (fun _ _ _ e=>e) (fun b ps e=>⟨#[],by rw [e];simp⟩) (fun m hm=>?_) (fun b u e=>?_) I.bare
 ·have e:b=it:=by simpa using hb
  subst e
  exact ⟨h1,hL,h2,h3⟩
 ·obtain ⟨o,es,ep,ho,r⟩:=hm
  exact ⟨o,es,ep,k _ o (Ne.symm hL) ho,r⟩
 ·refine (I.hok b u e).stay (fun c v hc q=>k c v ?_ q) (fun _ q=>q) fun _ _ q=>q
  rcases hc with z|z
  ·rw [z];exact nit b u e
  ·exact nit c _ z
theorem Inv.tok (I:Inv X pins σ H s) (t:Nat):Inv X pins σ H { s with toks:=t }:=I.un (h':=s.heap) (t':=t) Un.refl I.hok
theorem Inv.kept {t':Nat} (I:Inv X pins σ H s) (k:∀b u,s.heap.get? b=some u->h'.get? b=some u):Inv X pins σ H { s with heap:=h',toks:=t' }:=I.un (Un.kept k) (I.hok.kept k)
theorem Inv.laid {a:Addr} {o:HO} {t':Nat} (I:Inv X pins σ H s) (k:∀b u,s.heap.get? b=some u->h'.get? b=some u) (hp:s.heap.objs.size<=a) (new:ObjOk X.prog X.w (upd H a o) h' a o) :
  Inv X pins σ (upd H a o) { s with heap:=h',toks:=t' }:=I.un (Un.laid k hp (I.hok.fresh hp)) (I.hok.laid k hp new)
theorem Inv.write {x e:Addr} {o:HO} {t':Nat} (I:Inv X pins σ H s) (mu:Mut (H x)) (he:e=x\/H e=some (.own x)) (k:∀b u,b≠e->s.heap.get? b=some u->h'.get? b=some u) (heo:∃u,h'.get? e=some u)
  (new:ObjOk X.prog X.w (upd H x o) h' x o):Inv X pins σ (upd H x o) { s with heap:=h',toks:=t' }:=I.un (Un.write mu he k heo) (I.hok.write mu he k heo new)
theorem Inv.pins_of {pins':List (Addr×Obj)} (I:Inv X pins σ H s) (h:∀p∈pins',s.heap.get? p.1=some p.2/\H p.1=none/\p.1≠X.env.locals/\p.1∉X.fs/\∀v,p.2.data≠.cell v):Inv X pins' σ H s :=
 ⟨I.ok,I.os,I.bare,I.base,I.loc,I.cell,I.free,I.freeC,fun p hp=>(List.mem_append.mp hp).elim (fun z=>I.pin p (List.mem_append_left _ z)) (h p),I.hok,I.len⟩
theorem nodup_ix {N:List Str} (hN:N.Nodup) {i j:Nat} {x:Str} (a:N[i]?=some x) (b:N[j]?=some x):i=j:=by
 obtain ⟨h1,e1⟩:=List.getElem?_eq_some_iff.mp a
 obtain ⟨h2,e2⟩:=List.getElem?_eq_some_iff.mp b
 exact (List.getElem_inj hN).mp (e1.trans e2.symm)
theorem store_ok2 {M:Model} {A:Around} {E:Value->Shared->Prop} {i:Nat} {x:Str} {v:V} {u:Value} {Q:Unit->Shared->Prop} (I:Inv X pins σ H s) (hN:X.N.Nodup) (hi:X.N[i]?=some x) (hx:Loc X.env.scope x) (r:RelV v u)
  (h:∀s',Inv X pins (σ.set i (some v)) H s'->(∃a,Heap.SameBut a s.heap s'.heap/\(a=X.env.locals\/X.env.cells.lookup x=some a))->Q () s') (hf:X.fn x=true\/X.env.scope.names.lookup x=some .local:=by first|exact .inl rfl|exact .inr rfl|assumption):wpAny M A (storeName X.env x u) Q E s:=by
 obtain ⟨m,hn,hl⟩:=id I.loc
 have hcls:(X.env.scope.kind==.class||(X.env.scope.kind==.module&&X.env.locals != X.env.globals))=false:=by rw [I.ok.kind];rfl
 have hiσ:i < σ.length:=by rw [I.len];exact (List.getElem?_eq_some_iff.mp hi).1
 have cne:=I.cne
 have tracked:∀{a:Addr} {h':Heap},(∃o,s.heap.get? a=some o/\H a=none)->Heap.SameBut a s.heap h'->HOk X.prog X.w H h':=fun {a h'} ha hs b ob e=>by
  obtain ⟨_,_,hfree⟩:=ha
  refine (I.hok b ob e).stay (fun c w' hc q=>(hs.2 c ?_).trans q) (fun _ q=>q) fun _ _ q=>q
  rintro rfl
  rcases hc with rfl|hc
  ·rw [hfree] at e;cases e
  ·rw [hfree] at hc;cases hc
 rcases hx with hk|hk
 ·refine wpAny_storeName_local hk hn (fun h' hn' hs=>?_) hcls
  obtain ⟨oL,_,_,hoL,_⟩:=id hn
  refine h _ ⟨I.ok,I.os,I.bare,⟨fun b o e n hb hx=>?_,fun b o e n hb hx=>?_,I.base.free,fun b o e hx=>?_,I.base.tups,I.base.frzs,I.base.tbls⟩,⟨_,hn',fun j y v' e1 e2 e3=>?_⟩,fun y c e=>?_,I.free,I.freeC,fun p hp=>?_,tracked ⟨oL,hoL,I.free⟩ hs,by simpa using I.len⟩ ⟨_,hs,.inl rfl⟩
  ·exact (hs.2 b (Nat.ne_of_lt (Nat.lt_of_lt_of_le (Heap.lt_size e) I.ok.above))).trans (I.base.keep b o e n hb hx)
  ·obtain ⟨sl,e1⟩:=I.base.slot b o e n hb hx
   exact ⟨sl,(hs.2 b (Nat.ne_of_lt (Nat.lt_of_lt_of_le (Heap.lt_size e) I.ok.above))).trans e1⟩
  ·obtain ⟨o',e1⟩:=I.base.there b o e hx
   exact ⟨o',(hs.2 b (Nat.ne_of_lt (Nat.lt_of_lt_of_le (Heap.lt_size e) I.ok.above))).trans e1⟩
  ·by_cases hj:j=i
   ·subst hj
    rw [hi] at e1;cases e1
    rw [List.getElem?_set_self hiσ] at e2
    cases e2
    exact ⟨u,r,.inl ⟨hk,by simp⟩⟩
   ·rw [List.getElem?_set_ne (Ne.symm hj)] at e2
    obtain ⟨u',r',q⟩:=hl j y v' e1 e2 e3
    refine ⟨u',r',?_⟩
    rcases q with ⟨k,e⟩ | ⟨k,c,e,z⟩
    ·refine .inl ⟨k,?_⟩
     have:y≠x:=fun e=>hj (nodup_ix hN e1 (e ▸ hi))
     simp [this,e]
    ·exact .inr ⟨k,c,e,z.sameBut hs (cne y c e)⟩
  ·obtain ⟨w',z⟩:=I.cell y c e
   exact ⟨w',z.sameBut hs (cne y c e)⟩
  ·obtain ⟨e,n,ne,nf,d⟩:=I.pin p hp
   exact ⟨(hs.2 p.1 ne).trans e,n,ne,nf,d⟩
 ·have hfn:X.fn x=true:=by
   rcases hf with z|z
   ·exact z
   ·rw [z] at hk;cases hk
  obtain ⟨c,hc⟩:=I.ok.has x (.inl hk)
  obtain ⟨w',z⟩:=I.cell x c hc
  refine wpAny_storeName_cell I.ok.kind hk hc z (fun h' hc' hs=>?_)
  obtain ⟨oc,hoc,hocd⟩:=id z
  refine h { s with heap:=h' } ⟨I.ok,I.os,I.bare,⟨fun b o e n hb hx=>?_,fun b o e n hb hx=>?_,I.base.free,fun b o e hx=>?_,I.base.tups,I.base.frzs,I.base.tbls⟩,⟨m,hn.sameBut hs (Ne.symm (cne x c hc)),fun j y v' e1 e2 e3=>?_⟩,fun y c' e=>?_,I.free,I.freeC,fun p hp=>?_,tracked ⟨oc,hoc,I.freeC x c hc⟩ hs,by simpa using I.len⟩ ⟨c,hs,.inr hc⟩
  ·exact (hs.2 b (Nat.ne_of_lt (Nat.lt_of_lt_of_le (Heap.lt_size e) (I.ok.cab x c hfn hc)))).trans (I.base.keep b o e n hb hx)
  ·obtain ⟨sl,e1⟩:=I.base.slot b o e n hb hx
   exact ⟨sl,(hs.2 b (Nat.ne_of_lt (Nat.lt_of_lt_of_le (Heap.lt_size e) (I.ok.cab x c hfn hc)))).trans e1⟩
  ·obtain ⟨o',e1⟩:=I.base.there b o e hx
   exact ⟨o',(hs.2 b (Nat.ne_of_lt (Nat.lt_of_lt_of_le (Heap.lt_size e) (I.ok.cab x c hfn hc)))).trans e1⟩
  ·by_cases hj:j=i
   ·subst hj
    rw [hi] at e1;cases e1
    rw [List.getElem?_set_self hiσ] at e2
    cases e2
    exact ⟨u,r,.inr ⟨.inl hk,c,hc,hc'⟩⟩
   ·rw [List.getElem?_set_ne (Ne.symm hj)] at e2
    obtain ⟨u',r',q⟩:=hl j y v' e1 e2 e3
    refine ⟨u',r',?_⟩
    rcases q with q | ⟨k,c',e,z'⟩
    ·exact .inl q
    ·refine .inr ⟨k,c',e,z'.sameBut hs ?_⟩
     rintro rfl
     exact hj (nodup_ix hN e1 (I.ok.inj _ _ _ e hc ▸ hi))
  ·by_cases hcc:c'=c
   ·subst hcc;exact ⟨_,hc'⟩
   ·obtain ⟨w2,z2⟩:=I.cell y c' e
    exact ⟨w2,z2.sameBut hs hcc⟩
  ·obtain ⟨e,n,ne,nf,d⟩:=I.pin p hp
   refine ⟨(hs.2 p.1 ?_).trans e,n,ne,nf,d⟩
   intro q
   rw [q,hoc] at e
   have q':oc=p.2:=Option.some.inj e
   exact d w' (by rw [<- q'];exact hocd)
theorem store_ok {M:Model} {A:Around} {E:Value->Shared->Prop} {i:Nat} {x:Str} {v:V} {u:Value} {Q:Unit->Shared->Prop} (I:Inv X pins σ H s) (hN:X.N.Nodup) (hi:X.N[i]?=some x) (hx:Loc X.env.scope x) (r:RelV v u)
  (h:∀s',Inv X pins (σ.set i (some v)) H s'->Q () s') (hf:X.fn x=true\/X.env.scope.names.lookup x=some .local:=by first|exact .inl rfl|exact .inr rfl|assumption):wpAny M A (storeName X.env x u) Q E s :=
 store_ok2 I hN hi hx r (fun s' I' _=>h s' I') hf
theorem Inv.call' {s':Shared} {ch:List Addr} (I:Inv X pins σ H s) (ho:s'.os=s.os) (u:Un (frs X.stack) ch H H' s.heap s'.heap) (hok:HOk X.prog X.w H' s'.heap) (hg:AllBare s'.gens)
  (hch:∀b∈ch,(b∈X.ex\/X.s₀.heap.objs.size<=b)/\b≠X.env.locals/\(∀x c,X.env.cells.lookup x=some c->c≠b)/\∀p∈X.pn++pins,p.1≠b):Inv X pins σ H' s':=by
 obtain ⟨h',g',d',t',o'⟩:=s'
 have e:o'=s.os:=ho
 subst e
 exact I.call (g':=g') (t':=t') (d':=d') u hok hg hch
end
noncomputable abbrev XK:=Value->Option Addr->Hp->Prop
noncomputable abbrev St:=List (Option V)
noncomputable abbrev VK:=V->Hp->Prop
noncomputable abbrev TE:=St->Hp->VK->Prop
noncomputable abbrev TT:=St->Hp->(Bool->Hp->Prop)->Prop
noncomputable abbrev TA:=St->Hp->(List V->Hp->Prop)->Prop
structure Ends where
 nx:St->Hp->Prop
 rt:VK
 bk:St->Hp->Prop:=fun _ _=>False
 ct:St->Hp->Prop:=fun _ _=>False
noncomputable abbrev TS:=Ends->St->Hp->Prop
def EP (X:Cx) (pins:List (Addr×Obj)) (σ:St) (Q:VK) (u:Value) (s':Shared):Prop:=∃v H',Inv X pins σ H' s'/\RelV v u/\Q v H'
def TP (X:Cx) (pins:List (Addr×Obj)) (σ:St) (Q:Bool->Hp->Prop) (b:Bool) (s':Shared):Prop:=∃H',Inv X pins σ H' s'/\Q b H'
def AP (X:Cx) (pins:List (Addr×Obj)) (σ:St) (Q:List V->Hp->Prop) (us:List Value) (s':Shared):Prop:=∃vs H',Inv X pins σ H' s'/\Vals vs us/\Q vs H'
def SP (X:Cx) (pins:List (Addr×Obj)) (D:Ends) (f:Flow) (s':Shared):Prop :=
 match f with
 | .next=>∃ σ' H',Inv X pins σ' H' s'/\D.nx σ' H'
 | .brk=>∃ σ' H',Inv X pins σ' H' s'/\D.bk σ' H'
 | .cont=>∃ σ' H',Inv X pins σ' H' s'/\D.ct σ' H'
 | .ret u=>∃v σ' H',Inv X pins σ' H' s'/\RelV v u/\D.rt v H'
def PE (X:Cx) (e:Expr) (t:TE):Prop :=
 ∀(pins:List (Addr×Obj)) (s:Shared) (σ:St) (H:Hp) (Q:VK),Inv X pins σ H s->t σ H Q->wpAny (model X.prog X.w) X.A (eval e X.env) (EP X pins σ Q) X.xe s
def PT (X:Cx) (e:Expr) (t:TT):Prop :=
 ∀(pins:List (Addr×Obj)) (s:Shared) (σ:St) (H:Hp) (Q:Bool->Hp->Prop),Inv X pins σ H s->t σ H Q->wpAny (model X.prog X.w) X.A (isTrue e X.env (eval e X.env)) (TP X pins σ Q) X.xe s
def PW (X:Cx) (e:Expr) (t:TT):Prop :=
 ∀(whole:Sem Value) (pins:List (Addr×Obj)) (s:Shared) (σ:St) (H:Hp) (Q:Bool->Hp->Prop),Inv X pins σ H s->t σ H Q->wpAny (model X.prog X.w) X.A (isTrue e X.env whole) (TP X pins σ Q) X.xe s
theorem PW.pt {X:Cx} {e:Expr} {t:TT} (h:PW X e t):PT X e t:=h _
def PA (X:Cx) (es:List Expr) (t:TA):Prop :=
 ∀(pos:Pos) (pins:List (Addr×Obj)) (s:Shared) (σ:St) (H:Hp) (Q:List V->Hp->Prop),Inv X pins σ H s->t σ H Q->wpAny (model X.prog X.w) X.A (spliced (backTo pos (starEach es X.env))) (AP X pins σ Q) X.xe s
def PS (X:Cx) (st:Stmt) (t:TS):Prop :=
 ∀(pins:List (Addr×Obj)) (s:Shared) (σ:St) (H:Hp) (D:Ends),Inv X pins σ H s->t D σ H->wpAny (model X.prog X.w) X.A (exec st X.env) (SP X pins D) X.xe s
def PSs (X:Cx) (st:List Stmt) (t:TS):Prop :=
 ∀(pins:List (Addr×Obj)) (s:Shared) (σ:St) (H:Hp) (D:Ends),Inv X pins σ H s->t D σ H->wpAny (model X.prog X.w) X.A (execs st X.env) (SP X pins D) X.xe s
theorem thn {α:Type} {t:Sem α} {Q Q':α->Shared->Prop} {M:Model} {A:Around} {E:Value->Shared->Prop} {s:Shared} (h:wpAny M A t Q E s) (hQ:∀a s,Q a s->Q' a s):wpAny M A t Q' E s:=wpAny_mono h hQ fun _ _ x=>x
end L2
namespace L2
open PySem PySem.Spec PyProof.Rows
section
variable {X:Cx}
noncomputable def tVar (i:Nat):TE:=fun σ H Q=>∃v,σ[i]?=some (some v)/\Q v H
noncomputable def tC (v:V):TE:=fun _ H Q=>Q v H
theorem pe_var {i:Nat} {x:Str} {pos:Pos} (hN:X.N[i]?=some x) (hv:Vis X.env.scope x) (hd:(x==("__debug__":Str))=false:=by decide) (hcd:(x==("__classdict__":Str))=false:=by decide):PE X (.Name x pos) (tVar i):=by
 intro pins s σ H Q I h
 obtain ⟨v,e,h⟩:=h
 obtain ⟨m,hn,hl⟩:=I.loc
 obtain ⟨u,r,l⟩:=hl i x v hN e hv
 have fin:EP X pins σ Q u s:=⟨v,H,I,r,h⟩
 rcases l with ⟨hk,hm⟩ | ⟨hk,c,hc,hcell⟩
 ·exact wpAny_Name (wpAny_loadName_local I.ok.kind hk hn hm fin) hd
 ·rcases hk with hk|hk
  ·exact wpAny_Name (wpAny_loadName_cell I.ok.kind hk hc hcell fin) hd
  ·exact wpAny_Name (wpAny_loadName_free I.ok.kind hk hc hcell fin hcd) hd
theorem pe_int {i j pos}:PE X (.Constant (.int i) j pos) (tC (.int i)):=fun _ _ _ H _ I h=>wpAny_Constant_int ⟨.int i,H,I.tok _,⟨_,rfl⟩,h⟩
theorem pe_bl {b j pos}:PE X (.Constant (.bool b) j pos) (tC (.bl b)):=fun _ _ _ H _ I h=>Constant_bool ⟨.bl b,H,I,rfl,h⟩
def Gl (X:Cx) (x:Str):Prop:=X.env.kindOf x=some .globalImplicit
theorem ld_glob {E:Value->Shared->Prop} {pins:List (Addr×Obj)} {s:Shared} {σ:St} {H:Hp} {x:Str} {u:Value} {pos:Pos} {Q:Value->Shared->Prop} (I:Inv X pins σ H s) (hg:Gl X x) (hm:X.mg x=some u) (h:Q u s)
  (hd:(x==("__debug__":Str))=false:=by decide):wpAny (model X.prog X.w) X.A (eval (.Name x pos) X.env) Q E s :=
 Calls.Name_function_global I.ok.kind hg (Calls.loadGlobal_global (by rw [I.ok.glob];exact I.mod.glob.keeps I.bk) hm h) hd
theorem ld_blt {E:Value->Shared->Prop} {pins:List (Addr×Obj)} {s:Shared} {σ:St} {H:Hp} {x:Str} {u:Value} {pos:Pos} {Q:Value->Shared->Prop} (I:Inv X pins σ H s) (hg:Gl X x) (hm:X.mg x=none) (hv:bootBuiltins x=some u) (h:Q u s)
  (hn:x≠"__name__":=by decide) (hd:(x==("__debug__":Str))=false:=by decide):wpAny (model X.prog X.w) X.A (eval (.Name x pos) X.env) Q E s:=by
 obtain ⟨mb,h1,h2⟩:=I.mod.blt
 exact Calls.Name_function_global I.ok.kind hg (Calls.loadGlobal_builtin (by rw [I.ok.glob];exact I.mod.glob.keeps I.bk) hm (by rw [I.ok.blt];exact h1.keeps I.bk) ((h2 x hn).trans hv) h) hd
theorem pe_glob {x:Str} {v:V} {u:Value} {pos:Pos} (hg:Gl X x) (hm:X.mg x=some u) (r:RelV v u) (hd:(x==("__debug__":Str))=false:=by decide):PE X (.Name x pos) (tC v) :=
 fun _ _ _ H _ I h=>ld_glob I hg hm ⟨v,H,I,r,h⟩ hd
theorem pe_bltn {x:Str} {v:V} {u:Value} {pos:Pos} (hg:Gl X x) (hm:X.mg x=none) (hv:bootBuiltins x=some u) (r:RelV v u) (hn:x≠"__name__":=by decide) (hd:(x==("__debug__":Str))=false:=by decide):PE X (.Name x pos) (tC v) :=
 fun _ _ _ H _ I h=>ld_blt I hg hm hv ⟨v,H,I,r,h⟩ hn hd
variable {a b:Expr} {ta tb:TE} {pos:Pos}
variable {tA tB':TT} {rest:List Expr}
noncomputable def tAnd (t u:TT):TT:=fun σ H Q=>t σ H fun c H1=>if c=true then u σ H1 Q else Q false H1
noncomputable def tOr (t u:TT):TT:=fun σ H Q=>t σ H fun c H1=>if c=true then Q true H1 else u σ H1 Q
noncomputable def tNot (t:TT):TT:=fun σ H Q=>t σ H fun c H1=>Q (!c) H1
theorem pw_and1 (ha:PT X a tA):PW X (.BoolOp .And [a] pos) tA:=by
 intro wh pins s σ H Q I h
 refine isTrue_and (thn (ha pins s σ H Q I h) fun c s1 e=>?_)
 cases c with
 |true=>exact isTrue_and_nil e
 |false=>exact e
theorem pw_or1 (ha:PT X a tA):PW X (.BoolOp .Or [a] pos) tA:=by
 intro wh pins s σ H Q I h
 refine isTrue_or (thn (ha pins s σ H Q I h) fun c s1 e=>?_)
 cases c with
 |false=>exact isTrue_or_nil e
 |true=>exact e
theorem pw_and (ha:PT X a tA) (hb:PW X (.BoolOp .And (b::rest) pos) tB'):PW X (.BoolOp .And (a::b::rest) pos) (tAnd tA tB'):=by
 intro wh pins s σ H Q I h
 refine isTrue_and (thn (ha pins s σ H _ I h) fun c s1 ⟨H1,I1,q1⟩=>?_)
 cases c with
 |true=>exact hb wh pins s1 σ H1 Q I1 q1
 |false=>exact ⟨H1,I1,q1⟩
theorem pw_or (ha:PT X a tA) (hb:PW X (.BoolOp .Or (b::rest) pos) tB'):PW X (.BoolOp .Or (a::b::rest) pos) (tOr tA tB'):=by
 intro wh pins s σ H Q I h
 refine isTrue_or (thn (ha pins s σ H _ I h) fun c s1 ⟨H1,I1,q1⟩=>?_)
 cases c with
 |true=>exact ⟨H1,I1,q1⟩
 |false=>exact hb wh pins s1 σ H1 Q I1 q1
theorem pt_not (ha:PT X a tA):PT X (.UnaryOp .Not a pos) (tNot tA):=by
 intro pins s σ H Q I h
 exact isTrue_not (ha pins s σ H (fun c H1=>Q (!c) H1) I h)
noncomputable def tAndV (ta tb:TE):TE:=fun σ H Q=>ta σ H fun x H1=>∃c,x=.bl c/\if c=true then tb σ H1 Q else Q (.bl false) H1
noncomputable def tOrV (ta tb:TE):TE:=fun σ H Q=>ta σ H fun x H1=>∃c,x=.bl c/\if c=true then Q (.bl true) H1 else tb σ H1 Q
noncomputable def tNotV (ta:TE):TE:=fun σ H Q=>ta σ H fun x H1=>∃c,x=.bl c/\Q (.bl (!c)) H1
theorem pe_one {op} {t:TE} (h:PE X a t):PE X (.BoolOp op [a] pos) t:=fun pins s σ H Q I hw=>BoolOp_one (h pins s σ H Q I hw)
theorem pe_and (ha:PE X a ta) (hb:PE X (.BoolOp .And (b::rest) pos) tb):PE X (.BoolOp .And (a::b::rest) pos) (tAndV ta tb):=by
 intro pins s σ H Q I h
 refine BoolOp_and (thn (ha pins s σ H _ I h) fun v s1 ⟨x,H1,I1,r1,q1⟩=>?_)
 obtain ⟨c,rfl,q1⟩:=q1
 cases r1
 refine wpAny_truthy_bool ?_
 cases c with
 |true=>exact hb pins s1 σ H1 Q I1 q1
 |false=>exact ⟨.bl false,H1,I1,rfl,q1⟩
theorem pe_or (ha:PE X a ta) (hb:PE X (.BoolOp .Or (b::rest) pos) tb):PE X (.BoolOp .Or (a::b::rest) pos) (tOrV ta tb):=by
 intro pins s σ H Q I h
 refine BoolOp_or (thn (ha pins s σ H _ I h) fun v s1 ⟨x,H1,I1,r1,q1⟩=>?_)
 obtain ⟨c,rfl,q1⟩:=q1
 cases r1
 refine wpAny_truthy_bool ?_
 cases c with
 |false=>exact hb pins s1 σ H1 Q I1 q1
 |true=>exact ⟨.bl true,H1,I1,rfl,q1⟩
theorem pe_not (ha:PE X a ta):PE X (.UnaryOp .Not a pos) (tNotV ta):=by
 intro pins s σ H Q I h
 refine UnaryOp_ (thn (ha pins s σ H _ I h) fun v s1 ⟨x,H1,I1,r1,q1⟩=>?_)
 obtain ⟨c,rfl,q1⟩:=q1
 cases r1
 exact not_of (wpAny_truthy_bool ⟨.bl (!c),H1,I1,rfl,q1⟩)
noncomputable def tIf (t:TT) (ta tb:TE):TE:=fun σ H Q=>t σ H fun c H1=>if c=true then ta σ H1 Q else tb σ H1 Q
theorem pe_ifExp {c:Expr} (hc:PT X c tA) (ha:PE X a ta) (hb:PE X b tb):PE X (.IfExp c a b pos) (tIf tA ta tb):=by
 intro pins s σ H Q I h
 refine wpAny_IfExp (thn (hc pins s σ H _ I h) fun d s1 ⟨H1,I1,q1⟩=>?_)
 cases d with
 |true=>exact ha pins s1 σ H1 Q I1 q1
 |false=>exact hb pins s1 σ H1 Q I1 q1
end
end L2
namespace L2
open PySem PySem.Spec PyProof.Rows
def SqL (K:Frag) (H:Hp) (a:Addr) (xs:List V):Prop :=
 Rd H a (.lst xs) \/
  ∃(o:Obj) (its:Array Value) (n:Nat),K.lookup a=some o/\o.cls=.type "list"/\o.dict=none/\o.data=.seq its n/\its.size<=sizeLine/\Vals xs its.toList
def SqT (K:Frag) (H:Hp) (a:Addr) (xs:List V):Prop :=
 Rd H a (.tup xs) \/
  ∃(o:Obj) (its:Array Value) (n:Nat),K.lookup a=some o/\o.cls=.type "tuple"/\o.data=.seq its n/\its.size<=sizeLine/\Vals xs its.toList
noncomputable def absV:Value->Option V
 | .none=>some .non
 | .bool b=>some (.bl b)
 | .int i _=>some (.int i)
 | .str x _=>some (.str x)
 | .bytes b _=>some (.byt b)
 | .float b _=>some (.flt b)
 | .ref a=>some (.ref a)
 | .type n=>some (.ty n)
 |_=>none
theorem RelV.abs {x:V} {u:Value} (r:RelV x u):absV u=some x:=by
 cases x with
 |non=>cases r;rfl
 |bl _=>cases r;rfl
 |int _=>obtain ⟨t,rfl⟩:=r;rfl
 |str _=>obtain ⟨t,rfl⟩:=r;rfl
 |byt _=>obtain ⟨t,rfl⟩:=r;rfl
 |flt _=>obtain ⟨t,rfl⟩:=r;rfl
 |ref _=>cases r;rfl
 |ty _=>cases r;rfl
theorem RelV.inj {x y:V} {u:Value} (r:RelV x u) (q:RelV y u):x=y:=Option.some.inj (r.abs.symm.trans q.abs)
theorem Vals.inj:∀{xs ys:List V} {us:List Value},Vals xs us->Vals ys us->xs=ys
 |_,_,_,.nil,.nil=>rfl
 |_,_,_,.cons r t,.cons r' t'=>by rw [r.inj r',Vals.inj t t']
section
variable {X:Cx} {pins:List (Addr×Obj)} {σ:St} {H:Hp} {s:Shared} {a:Addr} {xs ys:List V}
theorem SqL.of {K:Frag} (h:H a=some (.lst xs)):SqL K H a xs:=.inl (.inl h)
theorem SqT.of {K:Frag} (h:H a=some (.tup xs)):SqT K H a xs:=.inl (.inl h)
theorem Inv.list (I:Inv X pins σ H s) (h:SqL X.K H a xs):∃its:List Value,Vals xs its/\PlainL s.heap a its.toArray/\xs.length<=sizeLine:=by
 rcases h with h | ⟨o,its,n,hk,hc,hd,hs,hz,r⟩
 ·obtain ⟨z,its,n,r,e⟩:=h.ok I.hok
  exact ⟨its,r,⟨_,n,e,rfl,rfl,rfl⟩,z⟩
 ·refine ⟨its.toList,r,⟨o,n,I.kIn a o hk,hc,hd,by simpa using hs⟩,?_⟩
  have e:=r.length
  simp only [Array.length_toList] at e
  omega
theorem Inv.tuple (I:Inv X pins σ H s) (h:SqT X.K H a xs):∃its:List Value,Vals xs its/\IsTup s.heap a its.toArray/\xs.length<=sizeLine:=by
 rcases h with h | ⟨o,its,n,hk,hc,hs,hz,r⟩
 ·obtain ⟨z,its,r,p⟩:=h.ok I.hok
  exact ⟨its,r,p,z⟩
 ·refine ⟨its.toList,r,⟨o,I.kIn a o hk,hc,n,by simpa using hs⟩,?_⟩
  have e:=r.length
  simp only [Array.length_toList] at e
  omega
theorem Inv.list_inj (I:Inv X pins σ H s) (h:SqL X.K H a xs) (h':SqL X.K H a ys):xs=ys:=by
 obtain ⟨its,r,⟨o,n,e,_,_,d⟩,_⟩:=I.list h
 obtain ⟨its',r',⟨o',n',e',_,_,d'⟩,_⟩:=I.list h'
 rw [e] at e';cases e'
 rw [d] at d'
 injection d' with d1 _
 have:its=its':=by simpa using congrArg Array.toList d1
 subst this
 exact r.inj r'
theorem Inv.tuple_inj (I:Inv X pins σ H s) (h:SqT X.K H a xs) (h':SqT X.K H a ys):xs=ys:=by
 obtain ⟨its,r,⟨o,e,_,n,d⟩,_⟩:=I.tuple h
 obtain ⟨its',r',⟨o',e',_,n',d'⟩,_⟩:=I.tuple h'
 rw [e] at e';cases e'
 rw [d] at d'
 injection d' with d1 _
 have:its=its':=by simpa using congrArg Array.toList d1
 subst this
 exact r.inj r'
end
noncomputable abbrev Cx.wish (X:Cx) (E:Value->Shared->Prop):Cx:={ X with xe:=E }
noncomputable abbrev Cx.nox (X:Cx):Cx:=X.wish fun _ _=>False
theorem Cx.Ok.wish {X:Cx} (ok:X.Ok) (E:Value->Shared->Prop):(X.wish E).Ok :=
 ⟨ok.mod,ok.kind,ok.glob,ok.blt,ok.above,ok.inj,ok.has,ok.cab,ok.hd,ok.frames,ok.stk,ok.exf,ok.bs,ok.bsz,ok.noex,ok.exfs,ok.funs,ok.frf⟩
theorem Cx.Ok.unwish {X:Cx} {E:Value->Shared->Prop} (ok:(X.wish E).Ok):X.Ok :=
 ⟨ok.mod,ok.kind,ok.glob,ok.blt,ok.above,ok.inj,ok.has,ok.cab,ok.hd,ok.frames,ok.stk,ok.exf,ok.bs,ok.bsz,ok.noex,ok.exfs,ok.funs,ok.frf⟩
section
variable {X:Cx} {pins:List (Addr×Obj)} {σ:St} {H:Hp} {s:Shared} {E:Value->Shared->Prop}
theorem Inv.wish (I:Inv X pins σ H s) (E:Value->Shared->Prop):Inv (X.wish E) pins σ H s:=⟨I.ok.wish E,I.os,I.bare,I.base,I.loc,I.cell,I.free,I.freeC,I.pin,I.hok,I.len⟩
theorem Inv.unwish (I:Inv (X.wish E) pins σ H s):Inv X pins σ H s:=⟨I.ok.unwish,I.os,I.bare,I.base,I.loc,I.cell,I.free,I.freeC,I.pin,I.hok,I.len⟩
theorem SP.unwish {D:Ends} {f:Flow} {s':Shared} (h:SP (X.wish E) pins D f s'):SP X pins D f s':=by
 cases f with
 |next=>obtain ⟨σ',H',I,q⟩:=h;exact ⟨σ',H',I.unwish,q⟩
 |brk=>obtain ⟨σ',H',I,q⟩:=h;exact ⟨σ',H',I.unwish,q⟩
 |cont=>obtain ⟨σ',H',I,q⟩:=h;exact ⟨σ',H',I.unwish,q⟩
 |ret u=>obtain ⟨v,σ',H',I,r,q⟩:=h;exact ⟨v,σ',H',I.unwish,r,q⟩
theorem PSs.nox {st:List Stmt} {t:TS} (h:PSs X.nox st t):PSs X st t:=fun pins s σ H D I hw =>
 wpAny_mono (h pins s σ H D (I.wish _) hw) (fun _ _ q=>q.unwish) fun _ _ z=>False.elim z
end
section
variable {X:Cx} {st:Stmt} {rest:List Stmt} {t u:TS} {e:Expr} {te:TE} {pos:Pos}
noncomputable def tNext:TS:=fun D σ H=>D.nx σ H
noncomputable def tSeq (t u:TS):TS:=fun D σ H=>t { D with nx:=u D } σ H
theorem pss_nil:PSs X [] tNext:=fun _ _ σ H _ I h=>wpAny_execs_nil ⟨σ,H,I,h⟩
theorem pss_cons (h1:PS X st t) (h2:PSs X rest u):PSs X (st::rest) (tSeq t u):=by
 intro pins s σ H D I h
 refine wpAny_execs_cons (thn (h1 pins s σ H { D with nx:=u D } I h) fun f s1 q=>?_)
 cases f with
 |next =>
  obtain ⟨σ',H',I',q⟩:=q
  exact h2 pins s1 σ' H' D I' q
 |ret v=>exact q
 |brk=>exact q
 |cont=>exact q
theorem pss_one (h1:PS X st t):PSs X [st] t:=by
 intro pins s σ H D I h
 refine wpAny_execs_cons (thn (h1 pins s σ H D I h) fun f s1 q=>?_)
 cases f with
 |next=>exact wpAny_execs_nil q
 |ret v=>exact q
 |brk=>exact q
 |cont=>exact q
theorem Inv.quiet {pins:List (Addr×Obj)} {σ:St} {H:Hp} {s:Shared} (I:Inv X pins σ H s):interactive X.env=false:=by simp [interactive,I.ok.kind]
noncomputable def tDrop (te:TE):TS:=fun D σ H=>te σ H fun _ H1=>D.nx σ H1
theorem ps_expr (he:PE X e te) (hs:swapsWith e none pos.line X.env=pure false:=by rfl):PS X (.Expr e pos) (tDrop te):=by
 intro pins s σ H D I h
 exact wpAny_Expr_any (thn (he pins s σ H _ I h) fun v s1 ⟨x,H1,I1,r1,q1⟩=>⟨σ,H1,I1,q1⟩) I.quiet hs
noncomputable def tRet (te:TE):TS:=fun D σ H=>te σ H D.rt
theorem ps_ret (he:PE X e te):PS X (.Return (some e) pos) (tRet te):=by
 intro pins s σ H D I h
 exact wpAny_Return_some (thn (he pins s σ H _ I h) fun v s1 ⟨x,H1,I1,r1,q1⟩=>⟨x,σ,H1,I1,r1,q1⟩)
noncomputable def tIfS (c:TT) (t u:TS):TS:=fun D σ H=>c σ H fun b H1=>if b=true then t D σ H1 else u D σ H1
theorem ps_if {c:Expr} {a b:List Stmt} {tc:TT} (hc:PT X c tc) (ha:PSs X a t) (hb:PSs X b u):PS X (.If c a b pos) (tIfS tc t u):=by
 intro pins s σ H D I h
 refine wpAny_If (thn (hc pins s σ H _ I h) fun d s1 ⟨H1,I1,q1⟩=>?_)
 cases d with
 |true=>exact ha pins s1 σ H1 D I1 q1
 |false=>exact hb pins s1 σ H1 D I1 q1
end
noncomputable abbrev TG:=V->St->Hp->(St->Hp->Prop)->Prop
noncomputable abbrev TGs:=List V->St->Hp->(St->Hp->Prop)->Prop
def PG (X:Cx) (target:Expr) (t:TG):Prop :=
 ∀(pins:List (Addr×Obj)) (s:Shared) (σ:St) (H:Hp) (v:V) (u:Value) (Q:St->Hp->Prop),Inv X pins σ H s->RelV v u->t v σ H Q ->
  wpAny (model X.prog X.w) X.A (assign target X.env u) (fun _ s'=>∃ σ' H',Inv X pins σ' H' s'/\Q σ' H') X.xe s
def PGs (X:Cx) (ts:List Expr) (t:TGs):Prop :=
 ∀(pins:List (Addr×Obj)) (s:Shared) (σ:St) (H:Hp) (vs:List V) (us:List Value) (Q:St->Hp->Prop),Inv X pins σ H s->Vals vs us->t vs σ H Q ->
  wpAny (model X.prog X.w) X.A (assignInOrder ((assignEach ts X.env).map (·.2)) us) (fun _ s'=>∃ σ' H',Inv X pins σ' H' s'/\Q σ' H') X.xe s
noncomputable abbrev TSet:=V->V->V->Hp->(Hp->Prop)->Prop
def PSet (X:Cx) (t:TSet):Prop :=
 ∀(pins:List (Addr×Obj)) (s:Shared) (σ:St) (H:Hp) (o i v:V) (ov iv u:Value) (Q:Hp->Prop),Inv X pins σ H s->RelV o ov->RelV i iv->RelV v u->t o i v H Q ->
  wpAny (model X.prog X.w) X.A (setItem ov iv u) (fun _ s'=>∃H',Inv X pins σ H' s'/\Q H') X.xe s
section
variable {X:Cx} {pos:Pos}
noncomputable def gName (i:Nat):TG:=fun v σ H Q=>Q (σ.set i (some v)) H
theorem pg_name {i:Nat} {x:Str} (hN:X.N.Nodup) (hi:X.N[i]?=some x) (hx:Loc X.env.scope x) (hf:X.fn x=true\/X.env.scope.names.lookup x=some .local:=by first|exact .inl rfl|exact .inr rfl|assumption):PG X (.Name x pos) (gName i):=by
 intro pins s σ H v u Q I r h
 exact wpAny_assign_Name (store_ok I hN hi hx r (fun s' I'=>⟨_,H,I',h⟩) hf)
noncomputable def gNil:TGs:=fun vs σ H Q=>vs=[]/\Q σ H
noncomputable def gCons (t:TG) (u:TGs):TGs:=fun vs σ H Q=>∃v r,vs=v::r/\t v σ H fun σ' H'=>u r σ' H' Q
theorem pgs_nil:PGs X [] gNil:=by
 intro pins s σ H vs us Q I r h
 obtain ⟨e,h⟩:=h
 subst e
 cases r
 exact assignInOrder_nil ⟨σ,H,I,h⟩
theorem pgs_cons {e:Expr} {es:List Expr} {t:TG} {u:TGs} (h1:PG X e t) (h2:PGs X es u)
  (hs:(assignEach (e::es) X.env).map (·.2)=assign e X.env::(assignEach es X.env).map (·.2):=by rfl):PGs X (e::es) (gCons t u):=by
 intro pins s σ H vs us Q I r h
 obtain ⟨v,vr,e1,h⟩:=h
 subst e1
 cases r with
 |cons r rr =>
  rw [hs]
  refine assignInOrder_cons (thn (h1 pins s σ H _ _ _ I r h) fun _ s1 ⟨σ1,H1,I1,q1⟩=>?_)
  exact h2 pins s1 σ1 H1 _ _ Q I1 rr q1
noncomputable def gTup (K:Frag) (n:Nat) (t:TGs):TG:=fun v σ H Q=>∃a xs,v=.ref a/\SqT K H a xs/\xs.length=n/\t xs σ H Q
theorem pg_tup {es:List Expr} {k:Nat} {t:TGs} {n:Nat} (hc:X.calm=true) (h:PGs X es t)
  (hn:(assignEach es X.env).length=n:=by rfl) (hst:(assignEach es X.env).findIdx? (·.1)=none:=by rfl):PG X (.Tuple es k pos) (gTup X.K n t):=by
 intro pins s σ H v u Q I r hw
 obtain ⟨a,xs,e1,hq,hl,hw⟩:=hw
 subst e1
 cases r
 obtain ⟨its,rv,ht,hz⟩:=I.tuple hq
 refine assign_Tuple_tuple (I.ok.hd hc) ht (by simp [hn,<- hl,rv.length]) hst fun h' hx=>?_
 have I1:Inv X pins σ H { s with heap:=h' }:=I.kept (t':=s.toks) fun b o e=>hx b o (Nat.ne_of_lt (Heap.lt_size e)) e
 exact h pins _ σ H xs _ Q I1 (by simpa using rv) hw
noncomputable def gSub (to ti:TE) (t:TSet):TG:=fun v σ H Q=>to σ H fun o H1=>ti σ H1 fun i H2=>t o i v H2 fun H3=>Q σ H3
theorem pg_sub {o i:Expr} {to ti:TE} {t:TSet} (ho:PE X o to) (hi:PE X i ti) (hs:PSet X t)
  (ha:∀v,assign (.Subscript o i pos) X.env v=(do
   let ov <- holding [v] (eval o X.env)
   let iv <- holding [v,ov] (eval i X.env)
   standAt pos
   holding [v,ov,iv] (setItem ov iv v)
   release [v,ov,iv] []):=by intro _;rfl):PG X (.Subscript o i pos) (gSub to ti t):=by
 intro pins s σ H v u Q I r h
 rw [ha]
 refine wpAny_bind (wpAny_holding (thn (ho pins s σ H _ I h) fun ov s1 ⟨x,H1,I1,r1,q1⟩=>?_))
 refine wpAny_bind (wpAny_holding (thn (hi pins s1 σ H1 _ I1 q1) fun iv s2 ⟨y,H2,I2,r2,q2⟩=>?_))
 refine wpAny_bind (wpAny_standAt (wpAny_bind (wpAny_holding (thn (hs pins s2 σ H2 x y v ov iv u _ I2 r1 r2 r q2) fun _ s3 ⟨H3,I3,q3⟩=>?_))))
 exact wpAny_release ⟨σ,H3,I3,q3⟩
noncomputable def tAsg (te:TE) (g:TG):TS:=fun D σ H=>te σ H fun x H1=>g x σ H1 D.nx
theorem ps_asg {tg e:Expr} {te:TE} {g:TG} (he:PE X e te) (hg:PG X tg g) (hs:swapsWithSole [tg] e pos.line X.env=pure false:=by rfl) (hw:swappedStores [tg] e X.env=pure none:=by rfl)
  (h1:(assignEach [tg] X.env).map (·.2)=[assign tg X.env]:=by rfl):PS X (.Assign [tg] e pos) (tAsg te g):=by
 intro pins s σ H D I h
 refine wpAny_Assign_stores (thn (he pins s σ H _ I h) fun v s1 ⟨x,H1,I1,r1,q1⟩=>?_) hs hw
 rw [h1]
 exact thn (hg pins s1 σ H1 x v _ I1 r1 q1) fun _ s2 q=>q
theorem ps_set {i:Nat} {x:Str} {e:Expr} {te:TE} {pos':Pos} (hN:X.N.Nodup) (hi:X.N[i]?=some x) (hx:Loc X.env.scope x) (he:PE X e te) (hs:swapsWith e (some (.Name x pos')) pos.line X.env=pure false:=by rfl) (hf:X.fn x=true\/X.env.scope.names.lookup x=some .local:=by first|exact .inl rfl|exact .inr rfl|assumption) :
  PS X (.Assign [.Name x pos'] e pos) (tAsg te (gName i)):=by
 intro pins s σ H D I h
 refine wpAny_Assign_Name (thn (he pins s σ H _ I h) fun v s1 ⟨y,H1,I1,r1,q1⟩=>?_) hs
 exact store_ok I1 hN hi hx r1 (fun s2 I2=>⟨_,H1,I2,q1⟩) hf
noncomputable def tPar (i j:Nat) (ta:TA):TS:=fun D σ H=>ta σ H fun vs H1=>∃v w,vs=[v,w]/\D.nx ((σ.set i (some v)).set j (some w)) H1
theorem ps_par {i j:Nat} {x y:Str} {a b:Expr} {ta:TA} {px py pt:Pos} {kt k2 pt2} (hc:X.calm=true) (hN:X.N.Nodup) (hi:X.N[i]?=some x) (hj:X.N[j]?=some y) (hij:i≠j)
  (hx:X.env.scope.names.lookup x=some .local) (hy:X.env.scope.names.lookup y=some .local) (ha:PA X [a,b] ta)
  (hw:swappedStores [.Tuple [.Name x px,.Name y py] kt pt] (.Tuple [a,b] k2 pt2) X.env=pure (some [x,y]))
  (hs:swapsWithSole [.Tuple [.Name x px,.Name y py] kt pt] (.Tuple [a,b] k2 pt2) pos.line X.env=pure false:=by rfl) :
  PS X (.Assign [.Tuple [.Name x px,.Name y py] kt pt] (.Tuple [a,b] k2 pt2) pos) (tPar i j ta):=by
 intro pins s σ H D I h
 rw [exec_Assign_arm]
 refine wpAny_bind (wpAny_standAt ?_)
 rw [hs]
 refine wpAny_bind (wpAny_pure ?_)
 rw [if_neg (by decide)]
 refine wpAny_bind (Tuple_ (thn (ha _ pins s σ H _ I h) fun us s1 ⟨vs,H1,I1,r1,q1⟩=>?_))
 obtain ⟨v,w,e1,q1⟩:=q1
 subst e1
 obtain ⟨u1,u2,rfl,rv,rw'⟩:∃u1 u2,us=[u1,u2]/\RelV v u1/\RelV w u2:=by
  cases r1 with
  |cons p q =>
   cases q with
   |cons p' q' =>
    cases q'
    exact ⟨_,_,rfl,p,p'⟩
 refine wpAny_newObj_type ?_ (by show 2<=sizeLine;decide)
 have I2:Inv X pins σ H1 { s1 with heap:=s1.heap.push { cls:=.type "tuple",data:=.seq [u1,u2].toArray } }:=I1.kept (t':=s1.toks) fun b o e=>Heap.get?_push_of_some _ e
 rw [hw]
 refine wpAny_bind (wpAny_pure ?_)
 show wpAny (model X.prog X.w) X.A (do rule "assign.swapped-stores";let items <- unpackItems (.ref s1.heap.objs.size) 2 none;assignInOrder [fun v=>bindName X.env y v,fun v=>bindName X.env x v] items.reverse;pure Flow.next) _ _ _
 refine wpAny_bind (wpAny_rule (wpAny_bind (unpackItems_tuple (items:=#[u1,u2]) (I.ok.hd hc) (IsTup.new s1.heap _) fun h' hx'=>?_)))
 have I3:=I2.kept (h':=h') (t':=s1.toks) fun b o e=>hx' b o (Nat.ne_of_lt (Heap.lt_size e)) e
 show wpAny _ _ (assignInOrder [fun v=>bindName X.env y v,fun v=>bindName X.env x v] [u2,u1] >>= fun _=>pure Flow.next) _ _ _
 refine wpAny_bind (assignInOrder_cons (wpAny_bindName (store_ok I3 hN hj (.inl hy) rw' (fun s2 I4=>?_) (.inr hy))))
 refine assignInOrder_cons (wpAny_bindName (store_ok I4 hN hi (.inl hx) rv (fun s3 I5=>assignInOrder_nil (wpAny_pure ?_)) (.inr hx)))
 rw [List.set_comm _ _ (Ne.symm hij)] at I5
 exact ⟨_,H1,I5,q1⟩
end
section
variable {X:Cx} {pos:Pos}
noncomputable def tWhile (c:TT) (tb:TS):TS:=fun D σ H=>∃W:Nat->St->Hp->Prop,(∃m,W m σ H)/\∀m σ H,W m σ H ->
 c σ H fun b H1=>if b=true then ∃N:St->Hp->Prop,(∀ σ' H',N σ' H'->∃m',m' < m/\W m' σ' H')/\tb { D with nx:=N,ct:=N,bk:=D.nx } σ H1 else D.nx σ H1
theorem ps_while {c:Expr} {body:List Stmt} {tc:TT} {tb:TS} (hp:PassesOwn (model X.prog X.w) X.A X.env X.xe) (hc:PT X c tc) (hb:PSs X body tb):PS X (.While c body [] pos) (tWhile tc tb):=by
 intro pins s σ H D I h
 obtain ⟨W,⟨m0,w0⟩,turn⟩:=h
 refine wpAny_While (codeAny_whileLoop (fun n s'=>∃ σ' H',Inv X pins σ' H' s'/\W n σ' H') ?_ m0 ⟨σ,H,I,w0⟩)
 rintro n s1 ⟨σ1,H1,I1,w1⟩
 refine wpAny_passesOwn hp (thn (hc pins s1 σ1 H1 _ I1 (turn n σ1 H1 w1)) fun b s2 ⟨H2,I2,q2⟩=>?_)
 cases b with
 |true =>
  obtain ⟨N,hN,q2⟩:=q2
  rw [if_pos rfl]
  refine wpAny_passesOwn hp (thn (hb pins s2 σ1 H2 _ I2 q2) fun f s3 q3=>?_)
  cases f with
  |next =>
   obtain ⟨σ3,H3,I3,n3⟩:=q3
   obtain ⟨m',hm,w3⟩:=hN σ3 H3 n3
   exact ⟨m',hm,σ3,H3,I3,w3⟩
  |cont =>
   obtain ⟨σ3,H3,I3,n3⟩:=q3
   obtain ⟨m',hm,w3⟩:=hN σ3 H3 n3
   exact ⟨m',hm,σ3,H3,I3,w3⟩
  |brk=>exact q3
  |ret v=>exact q3
 |false =>
  rw [if_neg Bool.false_ne_true]
  exact wpAny_execs_nil ⟨σ1,H2,I2,q2⟩
end
structure It where
 go:Nat->Hp->Prop
 yld:Nat->Hp->V->Hp->Prop
 stop:Nat->Hp->Prop
def FpOk (X:Cx) (pins:List (Addr×Obj)) (H:Hp) (b:Addr):Prop :=
 H b=none/\b≠X.env.locals/\b∉X.fs/\(b∈X.ex\/X.s₀.heap.objs.size<=b)/\(∀x c,X.env.cells.lookup x=some c->c≠b)/\∀p∈X.pn++pins,p.1≠b
theorem Inv.fpOk {X:Cx} {pins:List (Addr×Obj)} {σ:St} {H H':Hp} {s:Shared} {b:Addr} (I:Inv X pins σ H s) (hb:s.heap.objs.size<=b) (hn:H' b=none):FpOk X pins H' b:=by
 refine ⟨hn,Nat.ne_of_gt (Nat.lt_of_lt_of_le I.lt hb),I.nofs hb,.inr (Nat.le_trans I.sz hb),fun x c e z=>?_,fun p hp z=>?_⟩
 ·obtain ⟨v,q⟩:=I.cell x c e
  exact absurd (Nat.lt_of_lt_of_le q.lt (by rw [z];exact hb)) (Nat.lt_irrefl _)
 ·exact absurd (Nat.lt_of_lt_of_le (Heap.lt_size (I.pin p hp).1) (by rw [z];exact hb)) (Nat.lt_irrefl _)
structure Turn (P:Program) (w:World) (K:Frag) (tg:Expr) (J:It) (fp:List Addr) (it:Addr) (tn:Nat->Heap->Prop):Prop where
 mem:it∈fp
 obj:∀i h,tn i h->∀b∈fp,∃o,h.get? b=some o/\∀v,o.data≠.cell v
 keep:∀i h h',tn i h->(∀b∈fp,∀o,h.get? b=some o->h'.get? b=some o)->tn i h'
 item:∀(X:Cx),X.prog=P->X.w=w->X.K=K->X.calm=true->∀(i:Nat) (pins:List (Addr×Obj)) (s:Shared) (σ:St) (H:Hp) (E:Value->Shared->Prop),Inv X pins σ H s->(∀b∈fp,FpOk X pins H b)->tn i s.heap->J.go i H ->
  wpAny (model P w) X.A (pyNext (.ref it)) (fun r s1=>∃u,r=some u /\
   wpAny (model P w) X.A (letOwnedTupleGo tg (.ref it) u) (fun _ s2=>∃x H',Inv X pins σ H' s2/\RelV x u/\J.yld i H x H'/\tn (i+1) s2.heap/\∀b∈fp,H' b=none) E s1) E s
 done:∀(X:Cx),X.prog=P->X.w=w->X.K=K->X.calm=true->∀(i:Nat) (pins:List (Addr×Obj)) (s:Shared) (σ:St) (H:Hp) (E:Value->Shared->Prop),Inv X pins σ H s->(∀b∈fp,FpOk X pins H b)->tn i s.heap->J.stop i H ->
  wpAny (model P w) X.A (pyNext (.ref it)) (fun r s1=>r=none/\Inv X pins σ H s1) E s
 self:∀(A:Around) (i:Nat) (s:Shared) (Q:Value->Shared->Prop) (E:Value->Shared->Prop),tn i s.heap->Q (.ref it) s->wpAny (model P w) A (pyIter (.ref it)) Q E s
noncomputable abbrev TI:=St->Hp->(It->Hp->Prop)->Prop
def PIE (X:Cx) (pins:List (Addr×Obj)) (σ:St) (tg:Expr) (R:It->Hp->Prop) (itv:Value) (s2:Shared):Prop :=
 ∃(it:Addr) (fp:List Addr) (tn:Nat->Heap->Prop) (J:It) (H':Hp),itv=.ref it/\Inv X pins σ H' s2/\Turn X.prog X.w X.K tg J fp it tn/\tn 0 s2.heap/\(∀b∈fp,FpOk X pins H' b)/\R J H'
def PI (X:Cx) (tg iter:Expr) (wi:TI):Prop :=
 ∀(pins:List (Addr×Obj)) (s:Shared) (σ:St) (H:Hp) (R:It->Hp->Prop),Inv X pins σ H s->wi σ H R ->
  wpAny (model X.prog X.w) X.A (eval iter X.env) (fun v s1=>wpAny (model X.prog X.w) X.A (pyIter v) (PIE X pins σ tg R) X.xe s1) X.xe s
theorem go_of {M:Model} {A:Around} {E:Value->Shared->Prop} {s:Shared} {tg:Expr} {it:Addr} {u:Value} {o:Obj} {n:String} {vs:Array Value} {Q:Unit->Shared->Prop} (ho:s.heap.get? it=some o) (hc:o.cls=.type n) (hd:o.data=.fields vs)
  (hn:["enumerate","zip","dict_itemiterator","dict_reverseitemiterator","odict_iterator","itertools.zip_longest","itertools.pairwise"].contains n=false) (hQ:Q () s):wpAny M A (letOwnedTupleGo tg (.ref it) u) Q E s:=by
 unfold letOwnedTupleGo
 cases tg<;>first
  |exact wpAny_pure hQ
  |(cases u<;>first
    |exact wpAny_pure hQ
    |(refine wpAny_bind (wpAny_load ho ?_)
      rw [hc,hd]
      show wpAny M A (if (["enumerate","zip","dict_itemiterator","dict_reverseitemiterator","odict_iterator","itertools.zip_longest","itertools.pairwise"].contains n&&vs[0]?==some (rawInt _))=true then _ else _) Q E s
      rw [if_neg (by intro h;rw [hn,Bool.false_and] at h;cases h)]
      exact wpAny_pure hQ))
noncomputable def Itl (K:Frag) (a:Addr):It :=
 ⟨fun i H=>∃xs x,SqL K H a xs/\xs[i]?=some x,fun i H x H'=>H'=H/\∀xs,SqL K H a xs->xs[i]?=some x,fun i H=>∃xs,SqL K H a xs/\xs.length<=i⟩
noncomputable def Itt (K:Frag) (a:Addr):It :=
 ⟨fun i H=>∃xs x,SqT K H a xs/\xs[i]?=some x,fun i H x H'=>H'=H/\∀xs,SqT K H a xs->xs[i]?=some x,fun i H=>∃xs,SqT K H a xs/\xs.length<=i⟩
noncomputable def Itr (lo:Int) (n:Nat):It:=⟨fun i _=>i<n,fun i H x H'=>H'=H/\x=.int (lo+i),fun i _=>n<=i⟩
theorem turn_list {P:Program} {w:World} {K:Frag} {tg:Expr} (a it:Addr):Turn P w K tg (Itl K a) [it] it (fun i h=>h.IsListIter it a i) where
 mem:=by simp
 obj:=fun i h st b hb=>by
  have e:b=it:=by simpa using hb
  subst e
  obtain ⟨o,e,c,d⟩:=st
  exact ⟨o,e,fun v z=>by rw [d] at z;cases z⟩
 keep:=fun i h h' st k=>st.at fun o e=>k it (by simp) o e
 item:=by
  intro X hP hw hK hc i pins s σ H E I hf st hg
  subst hP hw hK
  obtain ⟨xs,x,hq,hx⟩:=hg
  obtain ⟨its,rv,p,hz⟩:=I.list hq
  obtain ⟨u,hu,ru⟩:=rv.get hx
  obtain ⟨f0,f1,f2,f3,f4,f5⟩:=hf it (by simp)
  refine wpAny_pyNext_list_item st p.isList (x:=u) (by simpa using hu) fun h' st' sb=>?_
  have I1:Inv X pins σ H { s with heap:=h' }:=I.turned (t':=s.toks) (fun b o hb e=>(sb.2 b hb).trans e) f0 f1 f3 f4 f5
  obtain ⟨o,e,c,d⟩:=id st'
  exact ⟨u,rfl,go_of (s:={ s with heap:=h' }) e c d (by decide) ⟨x,H,I1,ru,⟨rfl,fun ys hy=>by rw [I.list_inj hy hq];exact hx⟩,st',fun b hb=>(hf b hb).1⟩⟩
 done:=by
  intro X hP hw hK hc i pins s σ H E I hf st hg
  subst hP hw hK
  obtain ⟨xs,hq,hx⟩:=hg
  obtain ⟨its,rv,p,hz⟩:=I.list hq
  obtain ⟨f0,f1,f2,f3,f4,f5⟩:=hf it (by simp)
  have hl:=rv.length
  exact wpAny_pyNext_list_end (I.ok.hd hc) st p.isList (by simp;omega) fun h' eb=>⟨rfl,I.turned (t':=s.toks) (fun b o hb e=>eb b o hb e) f0 f1 f3 f4 f5⟩
 self:=fun _ _ _ _ _ st h=>wpAny_pyIter_listiter st h
theorem turn_tuple {P:Program} {w:World} {K:Frag} {tg:Expr} (a it:Addr):Turn P w K tg (Itt K a) [it] it (fun i h=>h.IsTupleIter it a i) where
 mem:=by simp
 obj:=fun i h st b hb=>by
  have e:b=it:=by simpa using hb
  subst e
  obtain ⟨o,e,c,d⟩:=st
  exact ⟨o,e,fun v z=>by rw [d] at z;cases z⟩
 keep:=fun i h h' st k=>st.at fun o e=>k it (by simp) o e
 item:=by
  intro X hP hw hK hc i pins s σ H E I hf st hg
  subst hP hw hK
  obtain ⟨xs,x,hq,hx⟩:=hg
  obtain ⟨its,rv,p,hz⟩:=I.tuple hq
  obtain ⟨u,hu,ru⟩:=rv.get hx
  obtain ⟨f0,f1,f2,f3,f4,f5⟩:=hf it (by simp)
  refine wpAny_pyNext_tuple_item st (show s.heap.IsTuple a its.toArray from p) (x:=u) (by simpa using hu) fun h' st' sb=>?_
  have I1:Inv X pins σ H { s with heap:=h' }:=I.turned (t':=s.toks) (fun b o hb e=>(sb.2 b hb).trans e) f0 f1 f3 f4 f5
  obtain ⟨o,e,c,d⟩:=id st'
  exact ⟨u,rfl,go_of (s:={ s with heap:=h' }) e c d (by decide) ⟨x,H,I1,ru,⟨rfl,fun ys hy=>by rw [I.tuple_inj hy hq];exact hx⟩,st',fun b hb=>(hf b hb).1⟩⟩
 done:=by
  intro X hP hw hK hc i pins s σ H E I hf st hg
  subst hP hw hK
  obtain ⟨xs,hq,hx⟩:=hg
  obtain ⟨its,rv,p,hz⟩:=I.tuple hq
  obtain ⟨f0,f1,f2,f3,f4,f5⟩:=hf it (by simp)
  have hl:=rv.length
  exact wpAny_pyNext_tuple_end (I.ok.hd hc) st (show s.heap.IsTuple a its.toArray from p) (by simp;omega) fun h' eb=>⟨rfl,I.turned (t':=s.toks) (fun b o hb e=>eb b o hb e) f0 f1 f3 f4 f5⟩
 self:=fun _ _ _ _ _ st h=>wpAny_pyIter_tupleiter st h
theorem turn_range {P:Program} {w:World} {K:Frag} {tg:Expr} (it:Addr) (lo:Int) (n:Nat):Turn P w K tg (Itr lo n) [it] it (fun i h=>IsRangeIter h it (lo+(i:Nat)*1) ((n:Int)-(i:Nat)) 1) where
 mem:=by simp
 obj:=fun i h st b hb=>by
  have e:b=it:=by simpa using hb
  subst e
  exact ⟨_,st,fun v z=>by
   have z':Data.fields _=Data.cell v:=z
   cases z'⟩
 keep:=fun i h h' st k=>k it (by simp) _ st
 item:=by
  intro X hP hw hK hc i pins s σ H E I hf st hg
  subst hP hw hK
  obtain ⟨f0,f1,f2,f3,f4,f5⟩:=hf it (by simp)
  have W:=Walks.range (prog:=X.prog) (w:=X.w) (I.ok.hd hc) it lo 1 n
  refine W.item i s _ _ hg st fun v h' tk hv st' kk=>?_
  obtain ⟨t,rfl⟩:=hv
  have I1:Inv X pins σ H { s with heap:=h',toks:=tk }:=I.turned (fun b o hb e=>kk b o (by simpa using hb) e) f0 f1 f3 f4 f5
  refine ⟨_,rfl,go_of (s:={ s with heap:=h',toks:=tk }) (n:="range_iterator") st' rfl rfl (by decide) ⟨.int (lo+i),H,I1,⟨t,?_⟩,⟨rfl,rfl⟩,st',fun b hb=>(hf b hb).1⟩⟩
  rw [Int.mul_one]
 done:=by
  intro X hP hw hK hc i pins s σ H E I hf st hg
  subst hP hw hK
  obtain ⟨f0,f1,f2,f3,f4,f5⟩:=hf it (by simp)
  exact wpAny_pyNext_range_end (I.ok.hd hc) st (by have:n<=i:=hg;omega) fun h' eb=>⟨rfl,I.turned (t':=s.toks) (fun b o hb e=>eb b o hb e) f0 f1 f3 f4 f5⟩
 self:=fun _ _ _ _ _ st h=>wpAny_pyIter_rangeiter st h
end L2
namespace L2
open PySem PySem.Spec PyProof.Rows
section
variable {X:Cx} {tg:Expr}
noncomputable def iList (K:Frag) (tl:TE):TI:=fun σ H R=>tl σ H fun x H1=>∃a,x=.ref a/\(∃xs,SqL K H1 a xs)/\R (Itl K a) H1
noncomputable def iTup (K:Frag) (tl:TE):TI:=fun σ H R=>tl σ H fun x H1=>∃a,x=.ref a/\(∃xs,SqT K H1 a xs)/\R (Itt K a) H1
theorem pi_list {l:Expr} {tl:TE} (hl:PE X l tl):PI X tg l (iList X.K tl):=by
 intro pins s σ H R I h
 refine thn (hl pins s σ H _ I h) fun v s1 ⟨x,H1,I1,r1,q1⟩=>?_
 obtain ⟨a,e,⟨xs,hq⟩,q⟩:=q1
 subst e
 cases r1
 obtain ⟨its,rv,p,hz⟩:=I1.list hq
 refine wpAny_pyIter_list p.isList ?_
 refine ⟨s1.heap.objs.size,[s1.heap.objs.size],_,_,H1,rfl,I1.kept (t':=s1.toks) fun b o e=>Heap.get?_push_of_some _ e,turn_list a _,⟨_,Heap.get?_push_size _ rfl,rfl,rfl⟩,fun b hb=>?_,q⟩
 have e:b=s1.heap.objs.size:=by simpa using hb
 subst e
 exact I1.fpOk (Nat.le_refl _) (I1.hok.fresh (Nat.le_refl _))
theorem pi_tup {l:Expr} {tl:TE} (hl:PE X l tl):PI X tg l (iTup X.K tl):=by
 intro pins s σ H R I h
 refine thn (hl pins s σ H _ I h) fun v s1 ⟨x,H1,I1,r1,q1⟩=>?_
 obtain ⟨a,e,⟨xs,hq⟩,q⟩:=q1
 subst e
 cases r1
 obtain ⟨its,rv,p,hz⟩:=I1.tuple hq
 refine wpAny_pyIter_tuple (show s1.heap.IsTuple a its.toArray from p) ?_
 refine ⟨s1.heap.objs.size,[s1.heap.objs.size],_,_,H1,rfl,I1.kept (t':=s1.toks) fun b o e=>Heap.get?_push_of_some _ e,turn_tuple a _,⟨_,Heap.get?_push_size _ rfl,rfl,rfl⟩,fun b hb=>?_,q⟩
 have e:b=s1.heap.objs.size:=by simpa using hb
 subst e
 exact I1.fpOk (Nat.le_refl _) (I1.hok.fresh (Nat.le_refl _))
theorem range_it {pins:List (Addr×Obj)} {σ:St} {H:Hp} {s:Shared} {R:It->Hp->Prop} {E:Value->Shared->Prop} {lo hi:Int} {t u v:Tok} {tk:Nat} (I:Inv X pins σ H s) (h1:-(2 ^ 62)<=lo) (h2:lo<2 ^ 62) (h3:-(2 ^ 62)<=hi) (h4:hi<2 ^ 62)
  (q:R (Itr lo (hi-lo).toNat) H):wpAny (model X.prog X.w) X.A (pyIter (.ref s.heap.objs.size)) (PIE X pins σ tg R) E { s with heap:=s.heap.push { cls:=.type "range",data:=.fields #[.int lo t,.int hi u,.int 1 v] },toks:=tk }:=by
 refine wpAny_pyIter_range (IsRange.new ..) (small_one h1 h2 h3 h4) ?_
 have I1:Inv X pins σ H { s with heap:=s.heap.push { cls:=.type "range",data:=.fields #[.int lo t,.int hi u,.int 1 v] },toks:=tk }:=I.kept fun b o e=>Heap.get?_push_of_some _ e
 refine ⟨(s.heap.push { cls:=.type "range",data:=.fields #[.int lo t,.int hi u,.int 1 v] }).objs.size,[(s.heap.push { cls:=.type "range",data:=.fields #[.int lo t,.int hi u,.int 1 v] }).objs.size],_,_,H,rfl,
  I1.kept (t':=tk) fun b o e=>Heap.get?_push_of_some _ e,turn_range _ lo (hi-lo).toNat,?_,fun b hb=>?_,q⟩
 ·have e1:lo+((0:Nat):Int)*1=lo:=by simp
  have e2:(((hi-lo).toNat:Nat):Int)-((0:Nat):Int)=Builtin.Range.rangeSize lo hi 1:=by rw [rangeSize_one];split<;>omega
  show IsRangeIter _ _ (lo+((0:Nat):Int)*1) ((((hi-lo).toNat:Nat):Int)-((0:Nat):Int)) 1
  rw [e1,e2]
  exact Heap.get?_push_size _ rfl
 ·have e:b=(s.heap.push { cls:=.type "range",data:=.fields #[.int lo t,.int hi u,.int 1 v] }).objs.size:=by simpa using hb
  subst e
  exact I1.fpOk (Nat.le_refl _) (I1.hok.fresh (Nat.le_refl _))
noncomputable def iRng1 (ta:TA):TI:=fun σ H R=>ta σ H fun vs H1=>∃j:Int,vs=[.int j]/\-(2 ^ 62)<=j/\j<2 ^ 62/\R (Itr 0 j.toNat) H1
theorem pi_range1 {a:Expr} {ta:TA} {p pos:Pos} (hg:Gl X "range") (hm:X.mg "range"=none) (ha:PA X [a] ta) (hs:starEach [a] X.env=[(false,eval a X.env)]:=by rfl):PI X tg (.Call (.Name "range" p) [a] [] pos) (iRng1 ta):=by
 intro pins s σ H R I h
 refine Call_ (ld_blt I hg hm boot_range (PyProof.Rows.callWith_type1 (thn (ha pos pins s σ H _ I h) fun us s1 ⟨vs,H1,I1,r1,q1⟩=>?_) hs rfl))
 obtain ⟨j,e,q1,q2,q⟩:=q1
 subst e
 cases r1 with
 |cons r rr =>
  cases rr
  obtain ⟨t,rfl⟩:=r
  exact call_range_1 (range_it I1 (by omega) (by omega) q1 q2 (by simpa using q))
noncomputable def tFor (wi:TI) (g:TG) (tb:TS):TS:=fun D σ H=>wi σ H fun J H1=>∃W:Nat->Nat->St->Hp->Prop,(∃m,W 0 m σ H1)/\∀i m σ H,W i m σ H ->
 (J.stop i H/\D.nx σ H)\/(J.go i H/\∃N:St->Hp->Prop,(∀ σ' H',N σ' H'->∃m',m' < m/\W (i+1) m' σ' H')/\∀x H',J.yld i H x H'->g x σ H' fun σ2 H2=>tb { D with nx:=N,ct:=N,bk:=D.nx } σ2 H2)
noncomputable def pinsAt (fp:List Addr) (h:Heap):List (Addr×Obj):=fp.filterMap fun b=>(h.get? b).map fun o=>(b,o)
theorem mem_pinsAt {fp:List Addr} {h:Heap} {b:Addr} {o:Obj} (hb:b∈fp) (e:h.get? b=some o):(b,o)∈pinsAt fp h:=List.mem_filterMap.mpr ⟨b,hb,by rw [e];rfl⟩
theorem of_pinsAt {fp:List Addr} {h:Heap} {p:Addr×Obj} (hp:p∈pinsAt fp h):p.1∈fp/\h.get? p.1=some p.2:=by
 obtain ⟨b,hb,e⟩:=List.mem_filterMap.mp hp
 cases q:h.get? b with
 |none=>rw [q] at e;cases e
 |some o =>
  rw [q] at e
  have e':(b,o)=p:=Option.some.inj e
  subst e'
  exact ⟨hb,q⟩
theorem Inv.pinned {pins:List (Addr×Obj)} {σ:St} {H:Hp} {s:Shared} {fp:List Addr} (I:Inv X pins σ H s) (hf:∀b∈fp,FpOk X pins H b) (ho:∀b∈fp,∃o,s.heap.get? b=some o/\∀v,o.data≠.cell v):Inv X (pins++pinsAt fp s.heap) σ H s :=
 I.pins_of fun p hp=>(List.mem_append.mp hp).elim (fun z=>I.pin p (List.mem_append_right _ z)) fun z=>by
  obtain ⟨hb,e⟩:=of_pinsAt z
  obtain ⟨f0,f1,f2,_⟩:=hf p.1 hb
  obtain ⟨o,e',d⟩:=ho p.1 hb
  rw [e] at e';cases e'
  exact ⟨e,f0,f1,f2,d⟩
theorem Inv.unpinned {pins pl:List (Addr×Obj)} {σ:St} {H:Hp} {s:Shared} (I:Inv X (pins++pl) σ H s):Inv X pins σ H s:=I.pins_of fun p hp=>I.pin p (List.mem_append_right _ (List.mem_append_left _ hp))
theorem ps_for {iter:Expr} {body:List Stmt} {wi:TI} {g:TG} {tb:TS} {pos:Pos} (hp:PassesOwn (model X.prog X.w) X.A X.env X.xe) (hc:X.calm=true) (hi:PI X tg iter wi) (hg:PG X tg g) (hb:PSs X body tb)
  (hs:∀x,foldedSetIterable iter X.env x=pure x:=by intro _;rfl):PS X (.For tg iter body [] pos) (tFor wi g tb):=by
 intro pins s σ H D I h
 refine wpAny_For (thn (hi pins s σ H _ I h) fun v s1 h1=>thn h1 fun itv s2 h2=>?_) hs
 obtain ⟨it,fp,tn,J,H2,e,I2,T,st2,f2,W,⟨m0,w0⟩,turn⟩:=h2
 subst e
 have stat:∀{H':Hp},(∀b∈fp,H' b=none)->∀b∈fp,FpOk X pins H' b:=fun hn b hb=>⟨hn b hb,(f2 b hb).2⟩
 refine codeAny_forLoop_any (fun n s'=>∃i σ' H',Inv X pins σ' H' s'/\tn i s'.heap/\(∀b∈fp,H' b=none)/\W i n σ' H') ?_ m0 ⟨0,σ,H2,I2,st2,fun b hb=>(f2 b hb).1,w0⟩
 rintro n s3 ⟨i,σ3,H3,I3,st3,fr3,w3⟩
 rcases turn i n σ3 H3 w3 with ⟨stop,qn⟩ | ⟨go,N,hN,step⟩
 ·refine wpAny_passesOwn hp (thn (T.done X rfl rfl rfl hc i pins s3 σ3 H3 X.xe I3 (stat fr3) st3 stop) fun r s4 ⟨hr,I4⟩=>?_)
  subst hr
  exact wpAny_execs_nil ⟨σ3,H3,I4,qn⟩
 ·refine wpAny_passesOwn hp (thn (T.item X rfl rfl rfl hc i pins s3 σ3 H3 X.xe I3 (stat fr3) st3 go) fun r s4 ⟨u,hr,h4⟩=>?_)
  subst hr
  refine wpAny_passesOwn hp (thn h4 fun _ s5 ⟨x,H5,I5,r5,y5,st5,fr5⟩=>?_)
  have I5':=I5.pinned (stat fr5) (T.obj _ _ st5)
  refine wpAny_passesOwn hp (thn (hg _ s5 σ3 H5 x u _ I5' r5 (step x H5 y5)) fun _ s6 ⟨σ6,H6,I6,q6⟩=>?_)
  refine wpAny_passesOwn hp (thn (hb _ s6 σ6 H6 _ I6 q6) fun f s7 q7=>?_)
  have again:∀{σ7:St} {H7:Hp},Inv X (pins++pinsAt fp s5.heap) σ7 H7 s7->N σ7 H7->∃m,m<n/\∃i σ' H',Inv X pins σ' H' s7/\tn i s7.heap/\(∀b∈fp,H' b=none)/\W i m σ' H':=fun {σ7 H7} I7 n7=>by
   obtain ⟨m',hm,w7⟩:=hN σ7 H7 n7
   refine ⟨m',hm,i+1,σ7,H7,I7.unpinned,T.keep _ _ _ st5 fun b hb o e=>(I7.pin (b,o) (List.mem_append_right _ (List.mem_append_right _ (mem_pinsAt hb e)))).1,fun b hb=>?_,w7⟩
   obtain ⟨o,e,d⟩:=T.obj _ _ st5 b hb
   exact (I7.pin (b,o) (List.mem_append_right _ (List.mem_append_right _ (mem_pinsAt hb e)))).2.1
  cases f with
  |next=>obtain ⟨σ7,H7,I7,n7⟩:=q7;exact again I7 n7
  |cont=>obtain ⟨σ7,H7,I7,n7⟩:=q7;exact again I7 n7
  |brk=>obtain ⟨σ7,H7,I7,q7⟩:=q7;exact ⟨σ7,H7,I7.unpinned,q7⟩
  |ret v=>obtain ⟨x7,σ7,H7,I7,r7,q7⟩:=q7;exact ⟨x7,σ7,H7,I7.unpinned,r7,q7⟩
end
end L2
namespace L2
open PySem PySem.Spec PyProof.Rows
noncomputable abbrev R2:=V->V->Hp->VK->Prop
def OpR (X:Cx) (f:Value->Value->Sem Value) (r:R2):Prop :=
 ∀(pins:List (Addr×Obj)) (s:Shared) (σ:St) (H:Hp) (x y:V) (v u:Value) (Q:VK),Inv X pins σ H s->RelV x v->RelV y u->r x y H Q ->
  wpAny (model X.prog X.w) X.A (f v u) (EP X pins σ Q) X.xe s
def UnR (X:Cx) (f:Value->Sem Value) (r:V->Hp->VK->Prop):Prop :=
 ∀(pins:List (Addr×Obj)) (s:Shared) (σ:St) (H:Hp) (x:V) (v:Value) (Q:VK),Inv X pins σ H s->RelV x v->r x H Q ->
  wpAny (model X.prog X.w) X.A (f v) (EP X pins σ Q) X.xe s
def CallR (X:Cx) (f:Value) (r:List V->Hp->VK->Prop):Prop :=
 ∀(pins:List (Addr×Obj)) (s:Shared) (σ:St) (H:Hp) (xs:List V) (us:List Value) (Q:VK),Inv X pins σ H s->Vals xs us->r xs H Q ->
  wpAny (model X.prog X.w) X.A (call f us) (EP X pins σ Q) X.xe s
def TruR (X:Cx) (r:V->Hp->(Bool->Hp->Prop)->Prop):Prop :=
 ∀(pins:List (Addr×Obj)) (s:Shared) (σ:St) (H:Hp) (x:V) (v:Value) (Q:Bool->Hp->Prop),Inv X pins σ H s->RelV x v->r x H Q ->
  wpAny (model X.prog X.w) X.A (truthy v) (TP X pins σ Q) X.xe s
noncomputable def tOp (r:R2) (ta tb:TE):TE:=fun σ H Q=>ta σ H fun x H1=>tb σ H1 fun y H2=>r x y H2 Q
noncomputable def tUn (r:V->Hp->VK->Prop) (ta:TE):TE:=fun σ H Q=>ta σ H fun x H1=>r x H1 Q
noncomputable def rI (C:Int->Int->Prop) (g:Int->Int->V):R2:=fun x y H Q=>∃i j,x=.int i/\y=.int j/\C i j/\Q (g i j) H
noncomputable def rI0 (g:Int->Int->V):R2:=fun x y H Q=>∃i j,x=.int i/\y=.int j/\Q (g i j) H
noncomputable def rU (g:Int->V):V->Hp->VK->Prop:=fun x H Q=>∃i,x=.int i/\Q (g i) H
section
variable {X:Cx} {a b c:Expr} {ta tb tc:TE} {pos:Pos}
theorem binT (ha:PE X a ta) (hb:PE X b tb) {pins:List (Addr×Obj)} {s:Shared} {σ:St} {H:Hp} {R:V->V->Hp->Prop} (I:Inv X pins σ H s)
  (h:ta σ H fun x H1=>tb σ H1 fun y H2=>R x y H2) {Q:Value->Shared->Prop} {f:Value->Value->Sem Value}
  (hf:∀v u s2 x y H2,Inv X pins σ H2 s2->RelV x v->RelV y u->R x y H2->wpAny (model X.prog X.w) X.A (f v u) Q X.xe s2) :
  wpAny (model X.prog X.w) X.A (eval a X.env) (fun v s₁=>wpAny (model X.prog X.w) X.A (eval b X.env) (fun u s₂=>wpAny (model X.prog X.w) X.A (f v u) Q X.xe s₂) X.xe s₁) X.xe s:=by
 refine thn (ha pins s σ H _ I h) fun v s1 ⟨x,H1,I1,r1,q1⟩=>?_
 refine thn (hb pins s1 σ H1 _ I1 q1) fun u s2 ⟨y,H2,I2,r2,q2⟩=>?_
 exact hf v u s2 x y H2 I2 r1 r2 q2
theorem pe_op {op:Operator} {r:R2} (ho:OpR X (binaryOp op) r) (ha:PE X a ta) (hb:PE X b tb):PE X (.BinOp a op b pos) (tOp r ta tb):=by
 intro pins s σ H Q I h
 exact wpAny_BinOp (binT ha hb I h fun v u s2 x y H2 I2 rx ry q=>ho pins s2 σ H2 x y v u Q I2 rx ry q)
theorem pe_un {op:UnaryOp} {r:V->Hp->VK->Prop} (ho:UnR X (unaryOp op) r) (ha:PE X a ta):PE X (.UnaryOp op a pos) (tUn r ta):=by
 intro pins s σ H Q I h
 exact UnaryOp_ (thn (ha pins s σ H _ I h) fun v s1 ⟨x,H1,I1,r1,q1⟩=>ho pins s1 σ H1 x v Q I1 r1 q1)
theorem opI {f:Value->Value->Sem Value} {C:Int->Int->Prop} {g:Int->Int->Int}
  (rule:∀(i j:Int) (t u:Tok) (s:Shared) (Q:Value->Shared->Prop) (E:Value->Shared->Prop),C i j->Q (.int (g i j) s.toks) { s with toks:=s.toks+1 }->wpAny (model X.prog X.w) X.A (f (.int i t) (.int j u)) Q E s) :
  OpR X f (rI C fun i j=>.int (g i j)):=by
 intro pins s σ H x y v u Q I rx ry h
 obtain ⟨i,j,rfl,rfl,hc,q⟩:=h
 obtain ⟨t,rfl⟩:=rx
 obtain ⟨t',rfl⟩:=ry
 exact rule i j t t' s _ _ hc ⟨.int (g i j),H,I.tok _,⟨_,rfl⟩,q⟩
theorem opI0 {f:Value->Value->Sem Value} {g:Int->Int->Int}
  (rule:∀(i j:Int) (t u:Tok) (s:Shared) (Q:Value->Shared->Prop) (E:Value->Shared->Prop),Q (.int (g i j) s.toks) { s with toks:=s.toks+1 }->wpAny (model X.prog X.w) X.A (f (.int i t) (.int j u)) Q E s) :
  OpR X f (rI0 fun i j=>.int (g i j)):=by
 intro pins s σ H x y v u Q I rx ry h
 obtain ⟨i,j,rfl,rfl,q⟩:=h
 obtain ⟨t,rfl⟩:=rx
 obtain ⟨t',rfl⟩:=ry
 exact rule i j t t' s _ _ ⟨.int (g i j),H,I.tok _,⟨_,rfl⟩,q⟩
theorem opB0 {f:Value->Value->Sem Value} {g:Int->Int->Bool}
  (rule:∀(i j:Int) (t u:Tok) (s:Shared) (Q:Value->Shared->Prop) (E:Value->Shared->Prop),Q (.bool (g i j)) s->wpAny (model X.prog X.w) X.A (f (.int i t) (.int j u)) Q E s) :
  OpR X f (rI0 fun i j=>.bl (g i j)):=by
 intro pins s σ H x y v u Q I rx ry h
 obtain ⟨i,j,rfl,rfl,q⟩:=h
 obtain ⟨t,rfl⟩:=rx
 obtain ⟨t',rfl⟩:=ry
 exact rule i j t t' s _ _ ⟨.bl (g i j),H,I,rfl,q⟩
def CDiv (i j:Int):Prop:=0<j/\j<1073741824
def CPow (i j:Int):Prop:=0<=j/\j<=1000000/\i.natAbs<2 ^ 64
def CMul (i j:Int):Prop:=(-(2 ^ 64)<i/\i<2 ^ 64)\/(-(2 ^ 64)<j/\j<2 ^ 64)
theorem CMul.ok {i j:Int} (h:CMul i j):IntMulOk i j:=by
 rcases h with ⟨h1,h2⟩ | ⟨h1,h2⟩
 ·exact .of_left (intBits_le_64 h1 h2)
 ·exact .of_right (intBits_le_64 h1 h2)
theorem op_add:OpR X (binaryOp .Add) (rI0 fun i j=>.int (i+j)):=opI0 fun _ _ _ _ _ _ _ q=>add_int q
theorem op_sub:OpR X (binaryOp .Sub) (rI0 fun i j=>.int (i-j)):=opI0 fun _ _ _ _ _ _ _ q=>sub_int q
theorem op_mul:OpR X (binaryOp .Mult) (rI CMul fun i j=>.int (i*j)):=opI fun _ _ _ _ _ _ _ hc q=>mul_int q hc.ok
theorem op_fdiv:OpR X (binaryOp .FloorDiv) (rI CDiv fun i j=>.int (i / j)):=opI fun i j _ _ _ _ _ hc q=>by
 have h1:(0:Int)<j:=hc.1
 have h2:j<1073741824:=hc.2
 exact floordiv_int (by omega) (by rw [Int.fdiv_eq_ediv_of_nonneg i (by omega)];exact q) (.inl (PyProof.noPylong_small (by omega)))
theorem op_mod:OpR X (binaryOp .Mod) (rI (fun _ j=>0<j) fun i j=>.int (i % j)):=opI fun i j _ _ _ _ _ hc q=>by
 have h1:(0:Int)<j:=hc
 exact mod_int' (by omega) (by rw [Int.fmod_eq_emod_of_nonneg i (by omega)];exact q)
theorem op_pow:OpR X (binaryOp .Pow) (rI CPow fun i j=>.int (i ^ j.toNat)):=opI fun _ _ _ _ _ _ _ hc q=>pow_int_small hc.1 hc.2.1 hc.2.2 q
theorem unI {f:Value->Sem Value} {g:Int->Int}
  (rule:∀(i:Int) (t:Tok) (s:Shared) (Q:Value->Shared->Prop) (E:Value->Shared->Prop),Q (.int (g i) s.toks) { s with toks:=s.toks+1 }->wpAny (model X.prog X.w) X.A (f (.int i t)) Q E s) :
  UnR X f (rU fun i=>.int (g i)):=by
 intro pins s σ H x v Q I rx h
 obtain ⟨i,rfl,q⟩:=h
 obtain ⟨t,rfl⟩:=rx
 exact rule i t s _ _ ⟨.int (g i),H,I.tok _,⟨_,rfl⟩,q⟩
theorem un_neg:UnR X (unaryOp .USub) (rU fun i=>.int (-i)):=unI fun _ _ _ _ _ q=>neg_int q
end
noncomputable def scal:V->V->Bool
 | .non,.non=>true | .non,.int _=>true | .int _,.non=>true | .non,.bl _=>true | .bl _,.non=>true | .non,.str _=>true | .str _,.non=>true
 | .int _,.int _=>true | .bl _,.bl _=>true | .str _,.str _=>true | .byt _,.byt _=>true
 | .int _,.str _=>true | .str _,.int _=>true | .bl _,.str _=>true | .str _,.bl _=>true
 |_,_=>false
noncomputable def rEq:R2:=fun x y H Q=>scal x y=true/\Q (.bl (decide (x=y))) H
noncomputable def rNe:R2:=fun x y H Q=>scal x y=true/\Q (.bl (!decide (x=y))) H
theorem dec_int {i j:Int}:decide (V.int i=V.int j)=(i==j):=by
 rw [Bool.eq_iff_iff]
 simp
theorem dec_bl {i j:Bool}:decide (V.bl i=V.bl j)=(i==j):=by
 rw [Bool.eq_iff_iff]
 simp
theorem dec_str {i j:Str}:decide (V.str i=V.str j)=(i==j):=by
 rw [Bool.eq_iff_iff]
 simp
theorem dec_byt {i j:Array UInt8}:decide (V.byt i=V.byt j)=(i.toList==j.toList):=by
 rw [Bool.eq_iff_iff]
 cases i
 cases j
 simp
section
variable {X:Cx} {a b c:Expr} {ta tb tc:TE} {pos:Pos}
theorem fin_bl {pins:List (Addr×Obj)} {σ:St} {H:Hp} {s:Shared} {Q:VK} {k k':Bool} (I:Inv X pins σ H s) (q:Q (.bl k) H) (e:k=k'):EP X pins σ Q (.bool k') s:=by
 subst e
 exact ⟨.bl k,H,I,rfl,q⟩
theorem op_eq:OpR X (compareOp .Eq) rEq:=by
 intro pins s σ H x y v u Q I rx ry h
 obtain ⟨hs,q⟩:=h
 cases x with
 |non =>
  cases rx
  cases y with
  |non=>cases ry;exact PySem.EqNone.eq_none_none (fin_bl I q (by simp))
  |bl j=>cases ry;exact PySem.EqNone.eq_none_bool (fin_bl I q (by simp))
  |int j=>obtain ⟨t',rfl⟩:=ry;exact PySem.EqNone.eq_none_int (fin_bl I q (by simp))
  |str j=>obtain ⟨t',rfl⟩:=ry;exact PySem.EqNone.eq_none_str (fin_bl I q (by simp))
  |_=>exact absurd (show false=true from hs) Bool.false_ne_true
 |bl i =>
  cases rx
  cases y with
  |non=>cases ry;exact PySem.EqNone.eq_bool_none (fin_bl I q (by simp))
  |bl j=>cases ry;exact eq_bool (fin_bl I q dec_bl)
  |str j=>obtain ⟨t',rfl⟩:=ry;exact PySem.EqMixed.eq_bool_str (fin_bl I q (by simp))
  |_=>exact absurd (show false=true from hs) Bool.false_ne_true
 |int i =>
  obtain ⟨t,rfl⟩:=rx
  cases y with
  |non=>cases ry;exact PySem.EqNone.eq_int_none (fin_bl I q (by simp))
  |int j=>obtain ⟨t',rfl⟩:=ry;exact eq_int (fin_bl I q dec_int)
  |str j=>obtain ⟨t',rfl⟩:=ry;exact PySem.EqMixed.eq_int_str (fin_bl I q (by simp))
  |_=>exact absurd (show false=true from hs) Bool.false_ne_true
 |str i =>
  obtain ⟨t,rfl⟩:=rx
  cases y with
  |non=>cases ry;exact PySem.EqNone.eq_str_none (fin_bl I q (by simp))
  |bl j=>cases ry;exact PySem.EqMixed.eq_str_bool (fin_bl I q (by simp))
  |int j=>obtain ⟨t',rfl⟩:=ry;exact PySem.EqMixed.eq_str_int (fin_bl I q (by simp))
  |str j=>obtain ⟨t',rfl⟩:=ry;exact eq_str (fin_bl I q dec_str)
  |_=>exact absurd (show false=true from hs) Bool.false_ne_true
 |byt i =>
  obtain ⟨t,rfl⟩:=rx
  cases y with
  |byt j=>obtain ⟨t',rfl⟩:=ry;exact PySem.W.eq_bytes (fin_bl I q dec_byt)
  |_=>exact absurd (show false=true from hs) Bool.false_ne_true
 |_=>cases y<;>exact absurd (show false=true from hs) Bool.false_ne_true
theorem op_ne:OpR X (compareOp .NotEq) rNe:=by
 intro pins s σ H x y v u Q I rx ry h
 obtain ⟨hs,q⟩:=h
 cases x with
 |non =>
  cases rx
  cases y with
  |non=>cases ry;exact PySem.EqNone.ne_none_none (fin_bl I q (by simp))
  |bl j=>cases ry;exact PySem.EqNone.ne_none_bool (fin_bl I q (by simp))
  |int j=>obtain ⟨t',rfl⟩:=ry;exact PySem.EqNone.ne_none_int (fin_bl I q (by simp))
  |str j=>obtain ⟨t',rfl⟩:=ry;exact PySem.EqNone.ne_none_str (fin_bl I q (by simp))
  |_=>exact absurd (show false=true from hs) Bool.false_ne_true
 |bl i =>
  cases rx
  cases y with
  |non=>cases ry;exact PySem.EqNone.ne_bool_none (fin_bl I q (by simp))
  |bl j=>cases ry;exact ne_bool (fin_bl I q (congrArg not dec_bl))
  |str j=>obtain ⟨t',rfl⟩:=ry;exact PySem.EqMixed.ne_bool_str (fin_bl I q (by simp))
  |_=>exact absurd (show false=true from hs) Bool.false_ne_true
 |int i =>
  obtain ⟨t,rfl⟩:=rx
  cases y with
  |non=>cases ry;exact PySem.EqNone.ne_int_none (fin_bl I q (by simp))
  |int j=>obtain ⟨t',rfl⟩:=ry;exact ne_int (fin_bl I q (congrArg not dec_int))
  |str j=>obtain ⟨t',rfl⟩:=ry;exact PySem.EqMixed.ne_int_str (fin_bl I q (by simp))
  |_=>exact absurd (show false=true from hs) Bool.false_ne_true
 |str i =>
  obtain ⟨t,rfl⟩:=rx
  cases y with
  |non=>cases ry;exact PySem.EqNone.ne_str_none (fin_bl I q (by simp))
  |bl j=>cases ry;exact PySem.EqMixed.ne_str_bool (fin_bl I q (by simp))
  |int j=>obtain ⟨t',rfl⟩:=ry;exact PySem.EqMixed.ne_str_int (fin_bl I q (by simp))
  |str j=>obtain ⟨t',rfl⟩:=ry;exact ne_str (fin_bl I q (congrArg not dec_str))
  |_=>exact absurd (show false=true from hs) Bool.false_ne_true
 |byt i =>
  obtain ⟨t,rfl⟩:=rx
  cases y with
  |byt j=>obtain ⟨t',rfl⟩:=ry;exact PySem.W.ne_bytes (fin_bl I q (congrArg not dec_byt))
  |_=>exact absurd (show false=true from hs) Bool.false_ne_true
 |_=>cases y<;>exact absurd (show false=true from hs) Bool.false_ne_true
theorem op_le:OpR X (compareOp .LtE) (rI0 fun i j=>.bl (decide (i<=j))):=opB0 fun _ _ _ _ _ _ _ q=>le_int q
theorem op_gt:OpR X (compareOp .Gt) (rI0 fun i j=>.bl (decide (j<i))):=opB0 fun _ _ _ _ _ _ _ q=>gt_int q
theorem op_ge:OpR X (compareOp .GtE) (rI0 fun i j=>.bl (decide (j<=i))):=opB0 fun _ _ _ _ _ _ _ q=>ge_int q
theorem nomark (b:Expr) {op:CmpOp} (h:op≠.In:=by decide) (h2:op≠.NotIn:=by decide):behindInMarks op b=false:=by
 have e1:(op==CmpOp.In)=false:=by cases op<;>first|rfl|exact absurd rfl h
 have e2:(op==CmpOp.NotIn)=false:=by cases op<;>first|rfl|exact absurd rfl h2
 cases b<;>simp [behindInMarks,e1,e2]
theorem pe_cmpR {op:CmpOp} {r:R2} (ho:OpR X (compareOp op) r) (ha:PE X a ta) (hb:PE X b tb) (hm:behindInMarks op b=false):PE X (.Compare a [op] [b] pos) (tOp r ta tb):=by
 intro pins s σ H Q I h
 exact wpAny_Compare1 (binT ha hb I h fun v u s2 x y H2 I2 rx ry q=>ho pins s2 σ H2 x y v u Q I2 rx ry q) hm
noncomputable def tTest (t:TE):TT:=fun σ H Q=>t σ H fun x H'=>∃k,x=.bl k/\Q k H'
theorem pt_cmpR {op:CmpOp} {r:R2} (ho:OpR X (compareOp op) r) (ha:PE X a ta) (hb:PE X b tb) (hm:behindInMarks op b=false):PT X (.Compare a [op] [b] pos) (tTest (tOp r ta tb)):=by
 intro pins s σ H Q I h
 refine wpAny_isTrue_Compare1 (thn (ha pins s σ H _ I h) fun v s1 ⟨x,H1,I1,r1,q1⟩=>thn (hb pins s1 σ H1 _ I1 q1) fun u s2 ⟨y,H2,I2,r2,q2⟩ =>
  thn (ho pins s2 σ H2 x y v u _ I2 r1 r2 q2) fun c s3 ⟨z,H3,I3,r3,k,e,q3⟩=>?_) hm
 subst e
 cases r3
 exact wpAny_truthy_bool ⟨H3,I3,q3⟩
noncomputable def tChain (r r':R2) (ta tb tc:TE):TE:=fun σ H Q=>ta σ H fun x H1=>tb σ H1 fun y H2=>r x y H2 fun z H3=>∃k,z=.bl k /\
 (if k=true then tc σ H3 fun w' H4=>r' y w' H4 Q else Q (.bl false) H3)
theorem pe_chain {op op':CmpOp} {r r':R2} (ho:OpR X (compareOp op) r) (ho':OpR X (compareOp op') r') (ha:PE X a ta) (hb:PE X b tb) (hc:PE X c tc)
  (hm:lastMarks [op,op'] [b,c]=false:=by with_unfolding_all rfl):PE X (.Compare a [op,op'] [b,c] pos) (tChain r r' ta tb tc):=by
 intro pins s σ H Q I h
 refine Compare_chain (thn (ha pins s σ H _ I h) fun v s1 ⟨x,H1,I1,r1,q1⟩=>chain_link (thn (hb pins s1 σ H1 _ I1 q1) fun u s2 ⟨y,H2,I2,r2,q2⟩ =>
  thn (ho pins s2 σ H2 x y v u _ I2 r1 r2 q2) fun d s3 ⟨z,H3,I3,r3,k,e,q3⟩=>?_)) hm
 subst e
 cases r3
 refine wpAny_truthy_bool ?_
 cases k with
 |false=>exact ite_ff ⟨.bl false,H3,I3,rfl,q3⟩
 |true=>exact ite_tt (chain_last (thn (hc pins s3 σ H3 _ I3 q3) fun w' s4 ⟨z',H4,I4,r4,q4⟩=>ho' pins s4 σ H4 y z' u w' Q I4 r2 r4 q4))
theorem pt_chain {op op':CmpOp} {r r':R2} (ho:OpR X (compareOp op) r) (ho':OpR X (compareOp op') r') (ha:PE X a ta) (hb:PE X b tb) (hc:PE X c tc)
  (hm:lastMarks [op,op'] [b,c]=false:=by with_unfolding_all rfl):PT X (.Compare a [op,op'] [b,c] pos) (tTest (tChain r r' ta tb tc)):=by
 intro pins s σ H Q I h
 refine isTrue_chain (thn (ha pins s σ H _ I h) fun v s1 ⟨x,H1,I1,r1,q1⟩=>test_link (thn (hb pins s1 σ H1 _ I1 q1) fun u s2 ⟨y,H2,I2,r2,q2⟩ =>
  thn (ho pins s2 σ H2 x y v u _ I2 r1 r2 q2) fun d s3 ⟨z,H3,I3,r3,k,e,q3⟩=>?_)) hm
 subst e
 cases r3
 refine wpAny_truthy_bool ?_
 cases k with
 |false =>
  obtain ⟨k',e',q'⟩:=q3
  cases e'
  exact ite_ff ⟨H3,I3,q'⟩
 |true =>
  refine ite_tt (test_last (thn (hc pins s3 σ H3 _ I3 q3) fun w' s4 ⟨z',H4,I4,r4,q4⟩=>thn (ho' pins s4 σ H4 y z' u w' _ I4 r2 r4 q4) fun d' s5 ⟨z2,H5,I5,r5,k2,e2,q5⟩=>?_))
  subst e2
  cases r5
  exact wpAny_truthy_bool ⟨H5,I5,q5⟩
def TruV (K:Frag) (x:V) (H:Hp) (k:Bool):Prop :=
 match x with
 | .non=>k=false
 | .bl b=>k=b
 | .int i=>k=(i != 0)
 | .str y=>y.length<=sizeLine/\k=((y.length:Int) != 0)
 | .byt y=>y.size<=sizeLine/\k=((y.size:Int) != 0)
 | .ref p=>(∃xs,SqL K H p xs/\k=!xs.isEmpty)\/(∃xs,SqT K H p xs/\k=!xs.isEmpty)\/∃kvs,H p=some (.dK kvs)/\k=!kvs.isEmpty
 |_=>False
theorem isEmpty_kv {κ:Type} {kvs:List (κ×V)} {vs:List (κ×Value)} (r:KV kvs vs):(!vs.isEmpty)=!kvs.isEmpty:=by
 cases r<;>rfl
theorem isEmpty_of {xs:List V} {its:List Value} (r:Vals xs its):(!its.toArray.isEmpty)=!xs.isEmpty:=by
 cases r<;>simp
theorem line63:(sizeLine:Nat)<2 ^ 63:=by rw [sizeLine_eq];decide
theorem tru_ok:TruR X (fun x H Q=>∃k,TruV X.K x H k/\Q k H):=by
 intro pins s σ H x v Q I rx h
 obtain ⟨k,e,q⟩:=h
 have hl:=line63
 have hs:sizeLine=16777216:=sizeLine_eq
 cases x with
 |non =>
  cases rx
  have e':k=false:=e
  subst e'
  exact truthy_none ⟨H,I,q⟩
 |bl b =>
  cases rx
  have e':k=b:=e
  subst e'
  exact wpAny_truthy_bool ⟨H,I,q⟩
 |int i =>
  obtain ⟨t,rfl⟩:=rx
  have e':k=(i != 0):=e
  subst e'
  exact PySem.P.truthy_int ⟨H,I,q⟩
 |str y =>
  obtain ⟨t,rfl⟩:=rx
  obtain ⟨hy,e'⟩:y.length<=sizeLine/\k=((y.length:Int) != 0):=e
  subst e'
  exact PySem.P.truthy_str (by omega) ⟨H,I.tok _,q⟩
 |byt y =>
  obtain ⟨t,rfl⟩:=rx
  obtain ⟨hy,e'⟩:y.size<=sizeLine/\k=((y.size:Int) != 0):=e
  subst e'
  exact PySem.W.truthy_bytes (by omega) ⟨H,I.tok _,q⟩
 |ref p =>
  cases rx
  have e':(∃xs,SqL X.K H p xs/\k=!xs.isEmpty)\/(∃xs,SqT X.K H p xs/\k=!xs.isEmpty)\/∃kvs,H p=some (.dK kvs)/\k=!kvs.isEmpty:=e
  rcases e' with ⟨xs,hx,e'⟩ | ⟨xs,hx,e'⟩ | ⟨kvs,hx,e'⟩
  ·subst e'
   obtain ⟨its,r,pl,hz⟩:=I.list hx
   have hlen:=r.length
   exact wpAny_truthy_list pl.isList (by simp only [List.size_toArray];omega) ⟨H,I.tok _,by rw [isEmpty_of r];exact q⟩
  ·subst e'
   obtain ⟨its,r,pl,hz⟩:=I.tuple hx
   have hlen:=r.length
   exact truthy_tuple pl (by simp only [List.size_toArray];omega) ⟨H,I.tok _,by rw [isEmpty_of r];exact q⟩
  ·subst e'
   obtain ⟨hz,hS,vs,r,m⟩:kvs.length<=sizeLine/\(p==sysModules)=false/\∃vs,KV kvs vs/\s.heap.DictOf (mixKind X.prog X.w) p vs:=I.hok p _ hx
   have hlen:kvs.length=vs.length:=Paired.length r
   exact wpAny_truthy_dict hS m (by omega) ⟨H,I.tok _,by rw [isEmpty_kv r];exact q⟩
 |_=>exact (show False from e).elim
theorem pt_truth (ha:PE X a ta) (he:∀whole,isTrue a X.env whole=(do let v <- whole;standAt a.pos;holding [v] (truthy v))) :
  PT X a (fun σ H Q=>ta σ H fun x H'=>∃k,TruV X.K x H' k/\Q k H'):=by
 intro pins s σ H Q I h
 exact isTrue_plain (thn (ha pins s σ H _ I h) fun v s1 ⟨x,H1,I1,r1,q1⟩=>tru_ok pins s1 σ H1 x v Q I1 r1 q1) (he _)
theorem op_add_str:OpR X (binaryOp .Add) (fun x y H Q=>∃i j,x=.str i/\y=.str j/\i.length+j.length<=sizeLine/\Q (.str (i++j)) H):=by
 intro pins s σ H x y v u Q I rx ry h
 obtain ⟨i,j,rfl,rfl,hz,q⟩:=h
 obtain ⟨t,rfl⟩:=rx
 obtain ⟨t',rfl⟩:=ry
 exact add_str (fun t' tk=>⟨.str (i++j),H,I.tok _,⟨_,rfl⟩,q⟩) hz
theorem vals1 {x:V} {us:List Value} (r:Vals [x] us):∃u,us=[u]/\RelV x u:=by
 cases r with
 |cons r1 r2=>cases r2;exact ⟨_,rfl,r1⟩
theorem vals2 {x y:V} {us:List Value} (r:Vals [x,y] us):∃u w',us=[u,w']/\RelV x u/\RelV y w':=by
 cases r with
 |cons r1 r2 =>
  cases r2 with
  |cons r3 r4=>cases r4;exact ⟨_,_,rfl,r1,r3⟩
theorem call_max2 (hc:X.calm=true):CallR X (.builtin "max") (fun xs H Q=>∃i j,xs=[.int i,.int j]/\Q (.int (if j > i then j else i)) H):=by
 intro pins s σ H xs us Q I r h
 obtain ⟨i,j,rfl,q⟩:=h
 obtain ⟨u,w',rfl,⟨t,rfl⟩,⟨t',rfl⟩⟩:=vals2 r
 refine max_two_ints (I.ok.hd hc) fun h' tk k=>⟨_,H,I.kept k,?_,q⟩
 by_cases hj:j > i
 ·rw [if_pos hj,if_pos hj];exact ⟨_,rfl⟩
 ·rw [if_neg hj,if_neg hj];exact ⟨_,rfl⟩
theorem call_min2 (hc:X.calm=true):CallR X (.builtin "min") (fun xs H Q=>∃i j,xs=[.int i,.int j]/\Q (.int (if j<i then j else i)) H):=by
 intro pins s σ H xs us Q I r h
 obtain ⟨i,j,rfl,q⟩:=h
 obtain ⟨u,w',rfl,⟨t,rfl⟩,⟨t',rfl⟩⟩:=vals2 r
 refine min_two_ints (I.ok.hd hc) fun h' tk k=>⟨_,H,I.kept k,?_,q⟩
 by_cases hj:j<i
 ·rw [if_pos hj,if_pos hj];exact ⟨_,rfl⟩
 ·rw [if_neg hj,if_neg hj];exact ⟨_,rfl⟩
end
end L2
namespace L2
open PySem PySem.Spec PyProof.Rows
structure ObjM (h:Heap) (x dx C:Addr) (mA:Str->Option Value):Prop where
 obj:h.get? x=some (PySem.W.instObj C dx)
 ns:h.Ns1 dx mA
 ne:dx≠x
section
variable {prog:Program} {w:World} {A:Around} {E:Value->Shared->Prop} {s:Shared} {K:Frag} {x dx C f:Addr} {mA:Str->Option Value} {name:Str} {v:Value}
end
theorem RelO.some_of {v:V} {o:Option Value} (r:RelO (some v) o):∃u,o=some u/\RelV v u:=by
 cases o with
 |none=>exact (show False from r).elim
 |some u=>exact ⟨u,rfl,r⟩
section
variable {P:Program} {w:World} {H H':Hp} {h h':Heap} {a C dx:Addr} {fs fs':List (Str×V)}
end
structure Cls (K:Frag) (C:Addr):Prop where
 pg:PySem.W.plainGet K C Str.empty=true
 hd:PySem.W.hasDictIn K C=true
 po:PySem.W.plainOver K C=true
 sa:PySem.W.findIn K (.ref C) "__setattr__"=some (some (.builtin "object.__setattr__"))
structure Con (K:Frag) (C:Addr) (f:Str) (v:V) (u:Value):Prop where
 at_:PySem.W.findIn K (.ref C) f=some (some u)
 rel:RelV v u
 get:PySem.W.specialIn K u "__get__"=some none
 cp:PySem.W.copiedNames.contains f=false
structure Meth (K:Frag) (C:Addr) (m:Str) (f:Addr):Prop where
 at_:PySem.W.findIn K (.ref C) m=some (some (.ref f))
 fn:PySem.W.isFn K (.ref f)=true
 kp:PySem.W.keepIn K (.ref f)=true
section
variable {X:Cx} {pins:List (Addr×Obj)} {σ:St} {H:Hp} {s:Shared} {a C dx:Addr} {fs:List (Str×V)} {f:Str} {v:V} {A:Around} {E:Value->Shared->Prop}
end
section
variable {X:Cx} {o e value:Expr} {f:Str} {pos pos' tpos:Pos} {ta tv:TE}
end
section
variable {X:Cx} {pins:List (Addr×Obj)} {σ:St} {H:Hp} {s:Shared} {A:Around} {E:Value->Shared->Prop} {Q:Value->Shared->Prop} {c:Value} {b:Bool}
inductive TyOf (K:Frag) (H:Hp):V->Value->Prop where
 |non:TyOf K H .non (.type "NoneType")
 |bl (x:Bool):TyOf K H (.bl x) (.type "bool")
 |int (i:Int):TyOf K H (.int i) (.type "int")
 |str (x:Str):TyOf K H (.str x) (.type "str")
 |flt (x:UInt64):TyOf K H (.flt x) (.type "float")
 |lst {a:Addr} {xs:List V} (e:H a=some (.lst xs)):TyOf K H (.ref a) (.type "list")
 |frz {a:Addr} {o:Obj} {xs:List V} (e:H a=some (.frz o (.lst xs))):TyOf K H (.ref a) (.type "list")
 |tup {a:Addr} {xs:List V} (e:H a=some (.tup xs)):TyOf K H (.ref a) (.type "tuple")
 |dK {a:Addr} {kvs:List (Key×V)} (e:H a=some (.dK kvs)):TyOf K H (.ref a) (.type "dict")
 |dT {a:Addr} {kvs:List (List Key×V)} (e:H a=some (.dT kvs)):TyOf K H (.ref a) (.type "dict")
 |ins {a C dx:Addr} {fs:List (Str×V)} (e:H a=some (.ins C dx fs)) (cl:Cls K C) (ha:PySem.W.findIn K (.ref C) "__class__"=some (some (.builtin "object.__class__")))
   (hn:PySem.W.specialIn K (.builtin "object.__class__") "__get__"=some (some (.builtin "getset_descriptor.__get__"))) (htk:PySem.W.takesIn K (.builtin "object.__class__")=some true)
   (hm:PySem.W.mroIn K C (.type "object")=some true):TyOf K H (.ref a) (.ref C)
end
end L2
namespace L2
open PySem PySem.Spec PyProof.Rows
structure Room (k:Nat) (A:Around):Prop where
 hd:A.handled=none
 dp:A.depth+3*k+5<recursionLimit
 un:A.units+16*k+200<cLine
 gd:A.guards=some []
theorem Room.mono {j k:Nat} {A:Around} (r:Room k A) (h:j<=k):Room j A:=⟨r.hd,by have:=r.dp;omega,by have:=r.un;omega,r.gd⟩
theorem Room.deeper {k:Nat} {A:Around} (r:Room (k+1) A) (env:Env):Room k (A.deeper env) :=
 ⟨r.hd,by have:=r.dp;show A.depth+1+3*k+5 < _;omega,by have:=r.un;show A.units+3+16*k+200 < _;omega,r.gd⟩
theorem Room.depth {k:Nat} {A:Around} (r:Room k A):A.depth<recursionLimit:=by have:=r.dp;omega
noncomputable def tNil:TA:=fun _ H Q=>Q [] H
noncomputable def tCons (ta:TE) (tr:TA):TA:=fun σ H Q=>ta σ H fun x H1=>tr σ H1 fun xs H2=>Q (x::xs) H2
section
variable {X:Cx} {e:Expr} {es:List Expr} {te:TE} {t:TA} {pos:Pos}
theorem pa_nil:PA X [] tNil:=fun _ _ _ _ H Q I h=>Calls.spliced_nil ⟨[],H,I,.nil,h⟩
theorem pa_cons (ha:PE X e te) (hr:PA X es t) (hs:starEach (e::es) X.env=(false,eval e X.env)::starEach es X.env:=by rfl):PA X (e::es) (tCons te t):=by
 intro pos pins s σ H Q I h
 rw [hs]
 show wpAny _ _ (spliced ((false,eval e X.env)::backTo pos (starEach es X.env))) _ _ s
 refine Calls.spliced_cons (thn (ha pins s σ H _ I h) fun u s1 ⟨x,H1,I1,r1,q1⟩=>?_)
 exact thn (hr pos pins s1 σ H1 _ I1 q1) fun us s2 ⟨xs,H2,I2,r2,q2⟩=>⟨x::xs,H2,I2,.cons r1 r2,q2⟩
noncomputable def tTup (t:TA):TE:=fun σ H Q=>t σ H fun xs H1=>xs.length<=sizeLine/\∀p,H1 p=none->Q (.ref p) (upd H1 p (.tup xs))
noncomputable def tLst (t:TA):TE:=fun σ H Q=>t σ H fun xs H1=>xs.length<=sizeLine/\∀p,H1 p=none->Q (.ref p) (upd H1 p (.lst xs))
theorem pe_tup {x1} (h:PA X es t):PE X (.Tuple es x1 pos) (tTup t):=by
 intro pins s σ H Q I hq
 refine wpAny_Tuple_spliced (thn (h pos pins s σ H _ I hq) fun us s1 ⟨xs,H1,I1,r,z,q⟩=>⟨by rw [<- r.length];exact z,?_⟩)
 have hf:H1 s1.heap.objs.size=none:=I1.hok.fresh (Nat.le_refl _)
 refine ⟨.ref s1.heap.objs.size,upd H1 s1.heap.objs.size (.tup xs),I1.laid (t':=s1.toks) (fun b u e=>Heap.get?_push_of_some _ e) (Nat.le_refl _) ?_,rfl,q _ hf⟩
 exact ⟨z,us,r,⟨_,Heap.get?_push_size _ rfl,rfl,_,rfl⟩⟩
theorem pe_lst (h:PA X es t):PE X (.List es pos) (tLst t):=by
 intro pins s σ H Q I hq
 refine wpAny_List_spliced (thn (h pos pins s σ H _ I hq) fun us s1 ⟨xs,H1,I1,r,z,q⟩=>⟨by rw [<- r.length];exact z,?_⟩)
 have hf:H1 s1.heap.objs.size=none:=I1.hok.fresh (Nat.le_refl _)
 refine ⟨.ref s1.heap.objs.size,upd H1 s1.heap.objs.size (.lst xs),I1.laid (t':=s1.toks) (fun b u e=>Heap.get?_push_of_some _ e) (Nat.le_refl _) ?_,rfl,q _ hf⟩
 exact ⟨z,us,0,r,Heap.get?_push_size _ rfl⟩
end
noncomputable abbrev Sp:=List V->Hp->VK->XK->Prop
noncomputable abbrev CXT:=List Env->Hp->Shared->XK->Value->Shared->Prop
structure Env0 (P:Program) (w:World) (K:Frag) (mg:Str->Option Value) (base:Heap) (A:Around) (outer:List Env) (s:Shared) (H:Hp):Prop where
 frames:A.frames=some outer
 mod:Mod K mg base
 bs:∀b o,base.get? b=some o->s.heap.get? b=some o/\H b=none
 bsz:base.objs.size<=s.heap.objs.size
 funs:s.heap.FunFrames base outer
 frf:∀b∈frs outer,H b=none
 hok:HOk P w H s.heap
 bare:AllBare s.gens
def CE (outer:List Env) (P:Program) (w:World) (H:Hp) (s:Shared) (Q:VK) (u:Value) (s':Shared):Prop :=
 ∃v H',s'.os=s.os/\AllBare s'.gens/\Un (frs outer) [] H H' s.heap s'.heap/\HOk P w H' s'.heap/\RelV v u/\Q v H'
def CR (CX:CXT) (outer:List Env) (P:Program) (w:World) (H:Hp) (s:Shared) (Q:VK) (E:XK) (r:Result) (s':Shared):Prop :=
 match r with
 | .ok (.ret u)=>CE outer P w H s Q u s'
 | .ok _=>False
 | .error e=>CX outer H s E e s'
structure FnOk (P:Program) (w:World) (K:Frag) (mg:Str->Option Value) (base:Heap) (CX:CXT) (k:Nat) (f:Addr) (fd:FuncData) (ps:List Str) (sp:Sp):Prop where
 len:∀vs H Q E,sp vs H Q E->vs.length=ps.length
 run:∀(A:Around) (outer:List Env) (s:Shared) (H:Hp) (args:Args) (us:List Value) (vs:List V) (Q:VK) (E:XK),Room k A->Env0 P w K mg base A outer s H->BindsTo s fd args (ps.zip us)->Vals vs us->sp vs H Q E ->
  codeAny (model P w) A (.call (.ref f) args) (CR CX outer P w H s Q E) s
theorem FnOk.imp {P:Program} {w:World} {K:Frag} {mg:Str->Option Value} {base:Heap} {CX:CXT} {k:Nat} {f:Addr} {fd:FuncData} {ps:List Str} {sp sp':Sp} (F:FnOk P w K mg base CX k f fd ps sp)
  (h:∀vs H Q E,sp' vs H Q E->sp vs H Q E):FnOk P w K mg base CX k f fd ps sp' :=
 ⟨fun vs H Q E q=>F.len vs H Q E (h _ _ _ _ q),fun A outer s H args us vs Q E hr he hb hv hs=>F.run A outer s H args us vs Q E hr he hb hv (h _ _ _ _ hs)⟩
section
variable {X:Cx} {pins:List (Addr×Obj)} {σ:St} {H:Hp} {s s':Shared}
theorem Inv.env0 (I:Inv X pins σ H s):Env0 X.prog X.w X.K X.mg X.base X.A X.stack s H :=
 ⟨I.ok.frames,I.ok.mod,I.bs,Nat.le_trans I.ok.bsz I.sz,I.stack,I.stkFree,I.hok,I.bare⟩
theorem Inv.after {Q:VK} {u:Value} (I:Inv X pins σ H s) (h:CE X.stack X.prog X.w H s Q u s'):EP X pins σ Q u s':=by
 obtain ⟨v,H',os,bare,un,hok,r,q⟩:=h
 obtain ⟨hh,g,d,t,os'⟩:=s'
 obtain rfl:os'=s.os:=os
 exact ⟨v,H',I.call (h':=hh) (g':=g) (d':=d) (t':=t) (ch:=[]) un hok bare (fun b z=>absurd z (by simp)),r,q⟩
end
noncomputable def tCall (sp:Sp) (dvs:List V) (E:XK) (t:TA):TE:=fun σ H Q=>t σ H fun vs H1=>sp (vs++dvs) H1 Q E
def Binds (K:Frag) (fd:FuncData) (ps:List Str) (ds:List Value):Prop :=
 ∀(s:Shared) (us:List Value),K.In s.heap->(us++ds).length=ps.length->BindsTo s fd ⟨us,[]⟩ (ps.zip (us++ds))
theorem Binds.all {K:Frag} {fd:FuncData} {ps:List Str} (h:∀us:List Value,us.length=ps.length->bindArgs fd ⟨us,[]⟩=pure (ps.zip us)):Binds K fd ps []:=fun s us _ hl=>by
 rw [List.append_nil] at hl |-
 exact .of_eq (h us hl)
def Passes (CX:CXT) (X:Cx) (E:XK):Prop:=∀(pins:List (Addr×Obj)) (σ:St) (H:Hp) (s:Shared) (e:Value) (s':Shared),Inv X pins σ H s->CX X.stack H s E e s'->X.xe e s'
section
variable {X:Cx} {CX:CXT} {k:Nat} {f C:Addr} {fd:FuncData} {ps:List Str} {sp:Sp} {dvs:List V} {ds:List Value} {E:XK} {x m:Str} {p pos apos:Pos} {e o:Expr} {es:List Expr} {ta:TE} {t:TA}
theorem run_fn {pins:List (Addr×Obj)} {σ:St} {H:Hp} {s:Shared} {Q:VK} {us:List Value} {vs:List V} (F:FnOk X.prog X.w X.K X.mg X.base CX k f fd ps sp) (hr:Room k X.A) (hb:Binds X.K fd ps ds) (hd:Vals dvs ds) (hx:Passes CX X E)
  (I:Inv X pins σ H s) (r:Vals vs us) (h:sp (vs++dvs) H Q E):wpAny (model X.prog X.w) X.A (call (.ref f) us) (EP X pins σ Q) X.xe s:=by
 have r2:Vals (vs++dvs) (us++ds):=r.append hd
 have hl:(us++ds).length=ps.length:=by rw [<- r2.length];exact F.len _ _ _ _ h
 refine wpAny_call (codeAny_mono (F.run X.A X.stack s H ⟨us,[]⟩ (us++ds) (vs++dvs) Q E hr I.env0 (hb s us I.kIn hl) r2 h) fun r s' hq=>?_)
 cases r with
 |error e=>exact hx pins σ H s e s' I hq
 |ok fl =>
  cases fl with
  |ret u=>exact I.after hq
  |next=>exact False.elim hq
  |brk=>exact False.elim hq
  |cont=>exact False.elim hq
theorem pe_call (F:FnOk X.prog X.w X.K X.mg X.base CX k f fd ps sp) (hr:Room k X.A) (hg:Gl X x) (hm:X.mg x=some (.ref f)) (hk:PySem.W.keepIn X.K (.ref f)=true) (hb:Binds X.K fd ps ds) (hd:Vals dvs ds) (hx:Passes CX X E)
  (ha:PA X (e::es) t) (hdb:(x==("__debug__":Str))=false:=by decide) (he:starEach (e::es) X.env=(false,eval e X.env)::starEach es X.env:=by rfl) (hpl:(backTo pos (starEach es X.env)).any (·.1)=false:=by rfl) :
  PE X (.Call (.Name x p) (e::es) [] pos) (tCall sp dvs E t):=by
 intro pins s σ H Q I h
 refine wpAny_Call_Name_kw (ld_glob I hg hm ?_ hdb)
 refine PySem.W.callWith_K (h₀:=X.base) I.ok.mod.kin hk (thn (ha pos pins s σ H _ I h) fun us s1 ⟨vs,H1,I1,r,q⟩=>⟨I1.kIn,?_⟩) he hpl
 exact run_fn F hr hb hd hx I1 r q
structure Mk (K:Frag) (C f:Addr):Prop where
 makes:PySem.W.makesIn K C=true
 init:PySem.W.findIn K (.ref C) "__init__"=some (some (.ref f))
 fn:PySem.W.isFn K (.ref f)=true
 kp:PySem.W.keepIn K (.ref C)=true
end
section
variable {X:Cx} {CX:CXT} {k:Nat} {f C:Addr} {fd:FuncData} {ps ks:List Str} {sp:Sp} {E:XK} {x m:Str} {p pos apos kpos:Pos} {e o:Expr} {es:List Expr} {kws:List Keyword} {te ta:TE} {t tk:TA} {nm:Option Str}
structure KBinds (K:Frag) (fd:FuncData) (ps ks:List Str) (g:List Value->List Value->List Value) (gV:List V->List V->List V):Prop where
 to:∀(s:Shared) (us ws:List Value),K.In s.heap->(g us ws).length=ps.length->BindsTo s fd ⟨us,ks.zip ws⟩ (ps.zip (g us ws))
 rel:∀{vs:List V} {us:List Value} {zs:List V} {ws:List Value},Vals vs us->Vals zs ws->Vals (gV vs zs) (g us ws)
variable {g:List Value->List Value->List Value} {gV:List V->List V->List V}
end
structure FnScope (N P:List Str) (sc:Scope):Prop where
 kind:sc.kind=.function
 co:sc.isCoroutine=false
 gen:sc.isGenerator=false
 nd:N.Nodup
 pre:N.take P.length=P
 par:∀x∈P,sc.names.lookup x=some .local\/sc.names.lookup x=some .cell
 nofree:∀y∈sc.names,y.2≠.free
theorem bindL_out {kindOf:Str->Option NameKind} {x:Str}:∀{binds:List (Str×Value)} {m:Str->Option Value},(∀v,(x,v)∉binds)->bindL kindOf binds m x=m x
 | [],_,_=>rfl
 |(n,v)::r,m,h=>by
  unfold bindL
  rw [bindL_out fun w hw=>h w (List.mem_cons_of_mem _ hw)]
  split
  ·have:x≠n:=by rintro rfl;exact h v List.mem_cons_self
   simp [this]
  ·rfl
theorem bindC_out {kindOf:Str->Option NameKind} {x:Str}:∀{binds:List (Str×Value)} {m:Str->Option Value},(∀v,(x,v)∉binds)->bindC kindOf binds m x=m x
 | [],_,_=>rfl
 |(n,v)::r,m,h=>by
  unfold bindC
  rw [bindC_out fun w hw=>h w (List.mem_cons_of_mem _ hw)]
  split
  ·rfl
  ·have:x≠n:=by rintro rfl;exact h v List.mem_cons_self
   simp [this]
theorem bindL_get {kindOf:Str->Option NameKind} {x:Str} {v:Value}:∀{P:List Str} {vs:List Value} {i:Nat} {m:Str->Option Value},P.Nodup->P[i]?=some x->vs[i]?=some v->kindOf x=some .local ->
  bindL kindOf (P.zip vs) m x=some v
 | [],_,_,_,_,h,_,_=>by simp at h
 |_::_,[],_,_,_,_,h,_=>by simp at h
 |p::P,w::vs,0,m,nd,h1,h2,hk=>by
  simp at h1 h2;subst h1;subst h2
  show bindL kindOf ((p,w)::P.zip vs) m p=_
  unfold bindL
  rw [bindL_out fun v hv=>(List.nodup_cons.mp nd).1 (List.of_mem_zip hv).1,if_pos hk]
  simp
 |p::P,w::vs,i+1,m,nd,h1,h2,hk=>by
  show bindL kindOf ((p,w)::P.zip vs) m x=_
  unfold bindL
  exact bindL_get (i:=i) (List.nodup_cons.mp nd).2 (by simpa using h1) (by simpa using h2) hk
theorem bindC_get {kindOf:Str->Option NameKind} {x:Str} {v:Value}:∀{P:List Str} {vs:List Value} {i:Nat} {m:Str->Option Value},P.Nodup->P[i]?=some x->vs[i]?=some v->kindOf x≠some .local ->
  bindC kindOf (P.zip vs) m x=some v
 | [],_,_,_,_,h,_,_=>by simp at h
 |_::_,[],_,_,_,_,h,_=>by simp at h
 |p::P,w::vs,0,m,nd,h1,h2,hk=>by
  simp at h1 h2;subst h1;subst h2
  show bindC kindOf ((p,w)::P.zip vs) m p=_
  unfold bindC
  rw [bindC_out fun v hv=>(List.nodup_cons.mp nd).1 (List.of_mem_zip hv).1,if_neg hk]
  simp
 |p::P,w::vs,i+1,m,nd,h1,h2,hk=>by
  show bindC kindOf ((p,w)::P.zip vs) m x=_
  unfold bindC
  exact bindC_get (i:=i) (List.nodup_cons.mp nd).2 (by simpa using h1) (by simpa using h2) hk
noncomputable def start (N:List Str) (vs:List V):St:=vs.map some++List.replicate (N.length-vs.length) none
noncomputable def cxOf (CX:CXT) (P:Program) (w:World) (K:Frag) (mg:Str->Option Value) (base:Heap) (N:List Str) (qual:Str) (scope:Scope) (f:Addr) (cd:Value) (A:Around) (outer:List Env) (s:Shared) (H:Hp) (E:XK):Cx where
 prog:=P
 w:=w
 K:=K
 mg:=mg
 base:=base
 A:=A.deeper (envOfC qual scope s.heap.objs.size f cd)
 N:=N
 s₀:=s
 H₀:=H
 env:=envOfC qual scope s.heap.objs.size f cd
 outer:=outer
 stack:=envOfC qual scope s.heap.objs.size f cd::outer
 ex:=[]
 calm:=true
 fn:=fun _=>true
 pn:=[]
 xe:=fun e s'=>wpAny (model P w) (A.deeper (envOfC qual scope s.heap.objs.size f cd)) (leaving (envOfC qual scope s.heap.objs.size f cd) e) (fun _ s''=>CX outer H s E e s'') (fun e' s''=>CX outer H s E e' s'') s'
theorem cell_has {sc:Scope} {n:Nat} {x:Str} (h:sc.names.lookup x=some .cell):∃c,(cellsFrom n sc.names []).lookup x=some c:=by
 have q:=PySem.W.cellsFrom_some sc.names n [] (.inl h)
 exact Option.isSome_iff_exists.mp q
theorem inv_start {CX:CXT} {P:Program} {w:World} {K:Frag} {mg:Str->Option Value} {base:Heap} {N ps:List Str} {qual:Str} {scope:Scope} {f:Addr} {cd:Value} {A:Around} {outer:List Env} {s s1:Shared} {H:Hp} {E:XK} {us:List Value} {vs:List V}
  (S:FnScope N ps scope) (hd:A.handled=none) (e0:Env0 P w K mg base A outer s H) (hl:vs.length=ps.length) (r:Vals vs us)
  (x:InCallC s s.heap.objs.size (bindL (envOfC qual scope s.heap.objs.size f cd).kindOf (ps.zip us) fun _=>none) (cellsFrom (s.heap.objs.size+1) scope.names []) (bindC (envOfC qual scope s.heap.objs.size f cd).kindOf (ps.zip us) fun _=>none) s1) :
  Inv (cxOf CX P w K mg base N qual scope f cd A outer s H E) [] (start N vs) H s1:=by
 have hpl:ps.length<=N.length:=by have:=congrArg List.length S.pre;rw [List.length_take] at this;omega
 obtain ⟨h1,tk,rfl,hk⟩:=x.done
 have noA:∀b:Addr,b∉(cxOf CX P w K mg base N qual scope f cd A outer s H E).ex:=fun b z=>absurd (show b∈([]:List Addr) from z) (by simp)
 refine ⟨⟨e0.mod,S.kind,rfl,rfl,Nat.le_refl _,fun y z c h1 h2=>?_,fun y hy=>?_,fun y c _ h=>?_,fun _=>hd,Around.frames_deeper e0.frames,.inr ⟨rfl,rfl⟩,fun b z=>absurd z (noA b),e0.bs,e0.bsz,fun b _ _=>noA b,fun b z=>absurd z (noA b),e0.funs,e0.frf⟩,
  rfl,e0.bare,Un.kept hk,⟨_,x.toInCall.ns,fun i y v h1 h2 h3=>?_⟩,fun y c h=>⟨_,x.cell y c h⟩,e0.hok.fresh (Nat.le_refl _),fun y c h=>?_,fun p hp=>absurd (show p∈([]:List (Addr×Obj)) from hp) (by simp),e0.hok.kept hk,?_⟩
 ·exact name_of_addr x.apart (PySem.mem_of_lookup h1) (PySem.mem_of_lookup h2)
 ·have hy:scope.names.lookup y=some .cell\/scope.names.lookup y=some .free:=hy
  rcases hy with hy|hy
  ·exact cell_has hy
  ·exact absurd rfl (S.nofree _ (PySem.mem_of_lookup hy))
 ·exact Nat.le_of_lt (x.above y c (PySem.mem_of_lookup h))
 ·have hi:i<vs.length:=by
   unfold start at h2
   by_cases hi:i<vs.length
   ·exact hi
   ·rw [List.getElem?_append_right (by simpa using hi)] at h2
    rw [List.getElem?_replicate] at h2
    split at h2<;>cases h2
  have ha:vs[i]?=some v:=by
   unfold start at h2
   rw [List.getElem?_append_left (by simpa using hi),List.getElem?_map] at h2
   cases e:vs[i]? with
   |none=>rw [e] at h2;cases h2
   |some a=>rw [e] at h2;cases h2;rfl
  obtain ⟨u,hu,rv⟩:=r.get ha
  have hp:ps[i]?=some y:=by
   rw [<- S.pre,List.getElem?_take_of_lt (by omega)];exact h1
  have ndP:ps.Nodup:=by rw [<- S.pre];exact S.nd.sublist (List.take_sublist _ _)
  refine ⟨u,rv,?_⟩
  rcases S.par y (List.mem_of_getElem? hp) with k|k
  ·exact .inl ⟨k,bindL_get ndP hp hu k⟩
  ·obtain ⟨c,e⟩:=cell_has (n:=s.heap.objs.size+1) k
   refine .inr ⟨.inl k,c,e,?_⟩
   have q:=x.cell y c e
   rw [bindC_get ndP hp hu (by show scope.names.lookup y≠_;rw [k];decide)] at q
   exact q
 ·exact e0.hok.fresh (Nat.le_of_lt (x.above y c (PySem.mem_of_lookup h)))
 ·unfold start
  show _=N.length
  rw [List.length_append,List.length_map,List.length_replicate]
  omega
theorem fn_of {CX:CXT} {P:Program} {w:World} {K:Frag} {mg:Str->Option Value} {base:Heap} {k:Nat} {f:Addr} {name qual:Str} {params:Arguments} {body:List Stmt} {scope:Scope} {dV kV doc pm cdv ct oc:Value} {an od:Option Addr}
  {osl:Array (Option Value)} {N ps:List Str} {sp:Sp} (lk:K.lookup f=some ⟨oc,od,.func (PySem.W.fnOf name qual params body scope dV kV doc pm an cdv ct),osl⟩) (hcd:PySem.W.codeIn K cdv qual=true) (S:FnScope N ps scope)
  (len:∀vs H Q E,sp vs H Q E->vs.length=ps.length)
  (hbody:∀(A:Around) (outer:List Env) (s:Shared) (H:Hp) (vs:List V) (Q:VK) (E:XK),Room k (A.deeper (envOfC qual scope s.heap.objs.size f cdv))->sp vs H Q E ->
   ∃t,PSs (cxOf CX P w K mg base N qual scope f cdv A outer s H E) body t/\t { nx:=fun _ H'=>Q .non H',rt:=Q } (start N vs) H) :
  FnOk P w K mg base CX (k+1) f (PySem.W.fnOf name qual params body scope dV kV doc pm an cdv ct) ps sp:=by
 refine ⟨len,fun A outer s H args us vs Q E hr e0 hb r hsp=>?_⟩
 have hl:=len _ _ _ _ hsp
 have KX:K.In s.heap:=e0.mod.kin.keeps fun b o e=>(e0.bs b o e).1
 have lim:s.heap.NoLimit:=e0.mod.nolimit.keeps fun b o e=>(e0.bs b o e).1
 have hkind:∀y∈ps.zip us,scope.names.lookup y.1=some .local\/(scope.names.lookup y.1=some .cell/\((cellsFrom (s.heap.objs.size+1) scope.names []).lookup y.1).isSome=true):=fun ⟨n,v⟩ hy=>by
  rcases S.par n (List.of_mem_zip hy).1 with q|q
  ·exact .inl q
  ·exact .inr ⟨q,PySem.W.cellsFrom_some _ _ _ (.inl q)⟩
 refine codeAny_call_function hr.depth (KX _ _ lk) rfl S.co S.gen rfl (PySem.W.codeRec_of KX hcd) (hb _ _ _ _ ?_)
 refine wpAny_newFunctionEnv_cells S.kind hkind fun env he s1 x=>?_
 subst he
 refine ⟨lim.keeps x.toInCall.keep,codeAny_func ?_⟩
 obtain ⟨t,ht,hq⟩:=hbody A outer s H vs Q E (hr.deeper _) hsp
 have I:Inv (cxOf CX P w K mg base N qual scope f cdv A outer s H E) [] (start N vs) H s1:=inv_start S hr.hd e0 hl r x
 refine wpAny_mono (ht [] s1 (start N vs) H _ I hq) (fun fl s' hs=>?_) fun e s' hs=>hs
 have fin:∀{σ':St} {H':Hp} {v:V} {u:Value},Inv (cxOf CX P w K mg base N qual scope f cdv A outer s H E) [] σ' H' s'->RelV v u->Q v H'->CE outer P w H s Q u s' :=
  fun {σ' H' v u} J rv q=>⟨v,H',J.os,J.bare,J.base,J.hok,rv,q⟩
 cases fl with
 |ret u =>
  obtain ⟨v,σ',H',J,rv,q⟩:=hs
  exact fin J rv q
 |next =>
  obtain ⟨σ',H',J,q⟩:=hs
  exact fin (v:=V.non) (u:=Value.none) J rfl q
 |brk =>
  obtain ⟨_,_,_,q⟩:=hs
  exact False.elim q
 |cont =>
  obtain ⟨_,_,_,q⟩:=hs
  exact False.elim q
end L2
namespace L2
open PySem PySem.Spec PyProof.Rows
section
variable {X:Cx} {x:Str} {p pos:Pos} {e:Expr} {es:List Expr} {t:TA} {id T:String} {r:List V->Hp->VK->Prop}
noncomputable def tCB (r:List V->Hp->VK->Prop) (t:TA):TE:=fun σ H Q=>t σ H fun vs H1=>r vs H1 Q
theorem pe_callB (hc:CallR X (.builtin id) r) (hg:Gl X x) (hm:X.mg x=none) (hv:bootBuiltins x=some (.builtin id)) (ha:PA X (e::es) t) (hn:x≠"__name__":=by decide) (hdb:(x==("__debug__":Str))=false:=by decide)
  (he:starEach (e::es) X.env=(false,eval e X.env)::starEach es X.env:=by rfl) (hpl:(backTo pos (starEach es X.env)).any (·.1)=false:=by rfl):PE X (.Call (.Name x p) (e::es) [] pos) (tCB r t):=by
 intro pins s σ H Q I h
 refine wpAny_Call_Name_kw (ld_blt I hg hm hv ?_ hn hdb)
 exact PyProof.Rows.callWith_builtin1 (thn (ha pos pins s σ H _ I h) fun us s1 ⟨vs,H1,I1,r1,q1⟩=>hc pins s1 σ H1 vs us Q I1 r1 q1) he hpl
theorem pe_callTy (hc:CallR X (.type T) r) (hg:Gl X x) (hm:X.mg x=none) (hv:bootBuiltins x=some (.type T)) (ha:PA X (e::es) t) (hn:x≠"__name__":=by decide) (hdb:(x==("__debug__":Str))=false:=by decide)
  (he:starEach (e::es) X.env=(false,eval e X.env)::starEach es X.env:=by rfl) (hpl:(backTo pos (starEach es X.env)).any (·.1)=false:=by rfl):PE X (.Call (.Name x p) (e::es) [] pos) (tCB r t):=by
 intro pins s σ H Q I h
 refine wpAny_Call_Name_kw (ld_blt I hg hm hv ?_ hn hdb)
 exact PyProof.Rows.callWith_type1 (thn (ha pos pins s σ H _ I h) fun us s1 ⟨vs,H1,I1,r1,q1⟩=>hc pins s1 σ H1 vs us Q I1 r1 q1) he hpl
end
end L2
namespace HT
open PySem PyProof.Rows
theorem rcLt_int (A:Around) (s:Shared) (a:Int) (t:Tok) (c:Int) (u:Tok) (prog:Program) (w:World) (E:Value->Shared->Prop) (Q:Value->Shared->Prop) (h:Q (.bool (decide (a<c))) s) :
  wpAny (model prog w) A (richCompare .Lt (.int a t) (.int c u)) Q E s :=
 (PyProof.Rows.lt_int h:wpAny (model prog w) A (compareOp .Lt (.int a t) (.int c u)) Q E s)
section
open PySem.SeqAt
open PySem.AutoSeq1 (wpAny_loadPart')
open PySem.MeetsSeq PySem.MeetsSeq2 PySem.MeetsSeq3
end
section
variable {prog:Program} {w:World} {A:Around} {E:Value->Shared->Prop} {s:Shared}
theorem cat_tup {t b:Addr} {vs ws:List Value} {Q:Value->Shared->Prop} (ht:IsTup s.heap t vs.toArray) (hb:IsTup s.heap b ws.toArray) (hv:vs≠[])
  (h1:ws=[]->Q (.ref t) s) (h2:ws≠[]->Q (.ref s.heap.objs.size) { s with heap:=s.heap.push { cls:=.type "tuple",data:=.seq (vs++ws).toArray } })
  (hsz:vs.length+ws.length<=sizeLine):wpAny (model prog w) A (binaryOp .Add (.ref t) (.ref b)) Q E s:=by
 obtain ⟨⟨cls,dd,data,sl⟩,ho,hc,n,hd⟩:=id ht
 obtain ⟨⟨cls2,dd2,data2,sl2⟩,ho2,hc2,n2,hd2⟩:=id hb
 simp only at hc hd hc2 hd2
 subst hc hd hc2 hd2
 have e:vs.toArray++ws.toArray=(vs++ws).toArray:=by simp
 by_cases hw:ws=[]
 ·exact concat_meets ⟨_,ho,rfl⟩ ⟨_,ho2,rfl⟩ noFill_tuple_add seq_tuple_add PySem.F.slot_tuple_add PySem.F.entry_tuple_add (PySem.F.args_tuple_add_2 _ _)
   (tuple_addW1 t b vs.toArray ws.toArray n n2 dd dd2 sl sl2 (by simpa using hv) (by simp [hw])) ⟨ho,ho2,h1 hw⟩
 ·refine concat_meets ⟨_,ho,rfl⟩ ⟨_,ho2,rfl⟩ noFill_tuple_add seq_tuple_add PySem.F.slot_tuple_add PySem.F.entry_tuple_add (PySem.F.args_tuple_add_2 _ _)
   (tuple_addW2 t b vs.toArray ws.toArray n n2 dd dd2 sl sl2 (by simpa using hv) (by simpa using hw) (by rw [List.size_toArray,List.size_toArray];exact hsz)) ⟨ho,ho2,?_⟩
  rw [e]
  exact h2 hw
noncomputable def sIx (n d:Nat):Option Int->Nat
 |none=>d
 |some v=>if v<0 then (v+(n:Int)).toNat else min v.toNat n
theorem sIx_nat (n d k:Nat):sIx n d (some (k:Int))=min k n:=by
 show (if (k:Int)<0 then ((k:Int)+(n:Int)).toNat else min (k:Int).toNat n)=min k n
 rw [if_neg (by omega),Int.toNat_natCast]
theorem sIx_le (n d:Nat) (hd:d<=n) (o:Option Int):sIx n d o<=n:=by
 cases o with
 |none=>exact hd
 |some v =>
  show (if v<0 then (v+(n:Int)).toNat else min v.toNat n)<=n
  by_cases hv:v<0
  ·rw [if_pos hv];omega
  ·rw [if_neg hv];exact Nat.min_le_right _ _
theorem clip_eq (v:Int) (n d:Nat):(if v<0 then max (v+(n:Int)) 0 else min v (n:Int))=((sIx n d (some v):Nat):Int):=by
 show (if v<0 then max (v+(n:Int)) 0 else min v (n:Int))=(((if v<0 then (v+(n:Int)).toNat else min v.toNat n):Nat):Int)
 by_cases hv:v<0
 ·simp only [if_pos hv];omega
 ·simp only [if_neg hv];omega
theorem adjust_gen (lo hi:Option Int) (n:Nat):Builtin.Slice.sliceAdjust lo hi 1 (n:Int)=(((sIx n 0 lo:Nat):Int),((sIx n n hi:Nat):Int)):=by
 have h1:¬ ((1:Int)<0):=by omega
 unfold Builtin.Slice.sliceAdjust
 simp only [h1,if_false]
 refine Prod.ext ?_ ?_
 ·cases lo with
  |none=>rfl
  |some v=>exact clip_eq v n 0
 ·cases hi with
  |none=>rfl
  |some v=>exact clip_eq v n n
theorem places_gen (i j:Nat):Builtin.Slice.slicePlaces (i:Int) (j:Int) 1=j-i:=by
 unfold Builtin.Slice.slicePlaces
 have h1:(1:Int) > 0:=by omega
 simp only [h1,if_true,Int.ediv_one]
 split<;>omega
theorem slicePart_ {v:Value} {o:Option Int} {Q:Option Int->Shared->Prop} (p:IsPart v o) (h:Q o s):wpAny (model prog w) A (Builtin.Slice.slicePartIndex v) Q E s:=by
 cases p with
 |none=>exact slicePart_none h
 |int i t=>exact slicePart_int h
theorem sliceApplied_gen {sl:Addr} {vl vu:Value} {lo hi:Option Int} {n:Nat} {Q:Int×Int×Nat->Shared->Prop} (hs:s.heap.IsSliceOf sl vl vu .none) (pl:IsPart vl lo) (pu:IsPart vu hi)
  (h:Q (((sIx n 0 lo:Nat):Int),1,sIx n n hi-sIx n 0 lo) s):wpAny (model prog w) A (Builtin.Slice.sliceApplied (.ref sl) (pure (n:Int))) Q E s:=by
 obtain ⟨os,hos,hcs,hds⟩:=id hs
 unfold Builtin.Slice.sliceApplied Builtin.Slice.sliceFields
 refine wpAny_bind (wpAny_bind (wpAny_field hos hds (x:=vl) rfl (wpAny_bind (wpAny_field hos hds (x:=vu) rfl (wpAny_bind (wpAny_field hos hds (x:=.none) rfl (wpAny_pure ?_)))))))
 refine wpAny_bind (slicePart_none ?_)
 show wpAny _ _ (if ((1:Int)==0)=true then _ else _) _ _ s
 rw [if_neg (by decide)]
 refine wpAny_bind (slicePart_ pl (wpAny_bind (slicePart_ pu (wpAny_bind (wpAny_pure ?_)))))
 show wpAny _ _ (match Builtin.Slice.sliceAdjust lo hi 1 (n:Int) with | (lo,hi)=>pure (lo,(1:Int),Builtin.Slice.slicePlaces lo hi 1)) _ _ s
 rw [adjust_gen lo hi n]
 show wpAny _ _ (pure (((sIx n 0 lo:Nat):Int),(1:Int),Builtin.Slice.slicePlaces ((sIx n 0 lo:Nat):Int) ((sIx n n hi:Nat):Int) 1)) _ _ s
 rw [places_gen]
 exact wpAny_pure h
theorem pick_gen (xs:Array Value) (i k:Nat):((List.range k).filterMap fun (m:Nat)=>xs[((i:Int)+(m:Int)*1).toNat]?).toArray=((xs.toList.drop i).take k).toArray:=by
 have e:(fun (m:Nat)=>xs[((i:Int)+(m:Int)*1).toNat]?)=fun m=>xs[i+m]?:=by
  funext m
  have:((i:Int)+(m:Int)*1).toNat=i+m:=by omega
  rw [this]
 rw [e]
 have:=pick_run xs i k
 rw [List.filterMap_map] at this
 have e2:((fun x=>xs[x]?) ∘ fun x=>i+x)=fun m=>xs[i+m]?:=rfl
 rw [e2] at this
 rw [this]
theorem getItem_tuple_cut {t sl:Addr} {items:Array Value} {vl vu:Value} {lo hi:Option Int} {Q:Value->Shared->Prop} (ht:IsTup s.heap t items) (hs:s.heap.IsSliceOf sl vl vu .none) (pl:IsPart vl lo) (pu:IsPart vu hi)
  (hw:¬ (sIx items.size 0 lo=0/\sIx items.size items.size hi=items.size))
  (h:Q (.ref s.heap.objs.size) { s with heap:=s.heap.push { cls:=.type "tuple",data:=.seq ((items.toList.drop (sIx items.size 0 lo)).take (sIx items.size items.size hi-sIx items.size 0 lo)).toArray } })
  (hsz:items.size<=sizeLine):wpAny (model prog w) A (getItem (.ref t) (.ref sl)) Q E s:=by
 have htake:sizeOk (.seq ((items.toList.drop (sIx items.size 0 lo)).take (sIx items.size items.size hi-sIx items.size 0 lo)).toArray):=by
  show ((items.toList.drop (sIx items.size 0 lo)).take (sIx items.size items.size hi-sIx items.size 0 lo)).toArray.size<=sizeLine
  rw [List.size_toArray,List.length_take,List.length_drop,Array.length_toList]
  omega
 have hj:sIx items.size items.size hi<=items.size:=sIx_le _ _ (Nat.le_refl _) hi
 obtain ⟨os,hos,hcs,hds⟩:=id hs
 have hTs:s.TypeIs (.ref sl) "slice":=⟨os,hos,hcs⟩
 unfold getItem
 try with_reducible refine wpAny_holding ?_
 first|refine wpAny_bind (wpAny_pure ?_)|skip
 refine wpAny_bind (wpAny_sequenceKey ht.typeIs (by decide) ?_)
 refine wpAny_bind (wpAny_callSpecial?_slot (name:=Str.ofString "__getitem__") ht.typeIs PyProof.Rows.slot_tuple_getitem
  (wpAny_call_entry PyProof.Rows.slot_tuple_getitem ht.typeIs entry_tuple_getitem ?_ (args_tuple_getitem _ _)))
 show wpAny _ _ (Builtin.Tuple.tupleItemsOf (.ref t) >>= _) _ _ s
 refine wpAny_bind (tupleItemsOf_ ht ?_)
 refine wpAny_bind (wpAny_typeOf hTs ?_)
 rw [if_pos (by decide)]
 refine wpAny_bind (sliceApplied_gen hs pl pu ?_)
 have hno:¬ ((((sIx items.size 0 lo:Nat):Int)==0&&(1:Int)==1&&(sIx items.size items.size hi-sIx items.size 0 lo)==items.size)=true):=by
  intro q
  rw [Bool.and_eq_true,Bool.and_eq_true] at q
  have q1:((sIx items.size 0 lo:Nat):Int)=0:=eq_of_beq q.1.1
  have q2:sIx items.size items.size hi-sIx items.size 0 lo=items.size:=eq_of_beq q.2
  exact hw ⟨by omega,by omega⟩
 show wpAny _ _ (if (((sIx items.size 0 lo:Nat):Int)==0&&(1:Int)==1&&(sIx items.size items.size hi-sIx items.size 0 lo)==items.size)=true then _ else _) _ _ s
 rw [if_neg hno,pick_gen]
 first
  |exact wpAny_bind (m:=Builtin.Tuple.tupleExact _) (wpAny_newObj_type (wpAny_pure ⟨_,rfl,wpAny_pure h⟩) htake)
  |exact wpAny_bind (m:=Builtin.Tuple.tupleExact _) (wpAny_newObj_type (wpAny_bind (wpAny_pure (wpAny_pure ⟨_,rfl,wpAny_pure h⟩))) htake)
  |exact wpAny_bind (wpAny_bind (m:=Builtin.Tuple.tupleExact _) (wpAny_newObj_type (wpAny_pure (wpAny_pure ⟨_,rfl,wpAny_pure h⟩)) htake))
  |exact wpAny_bind (wpAny_bind (m:=Builtin.Tuple.tupleExact _) (wpAny_newObj_type (wpAny_pure ⟨_,rfl,wpAny_pure h⟩) htake))
end
end HT
namespace L2
open PySem PySem.Spec PyProof.Rows
noncomputable abbrev TO:=St->Hp->(Option Int->Hp->Prop)->Prop
def PO (X:Cx) (e:Option Expr) (t:TO):Prop :=
 ∀(pins:List (Addr×Obj)) (s:Shared) (σ:St) (H:Hp) (Q:Option Int->Hp->Prop),Inv X pins σ H s->t σ H Q ->
  wpAny (model X.prog X.w) X.A (evalPart e X.env) (fun u s'=>∃o H',Inv X pins σ H' s'/\IsPart u o/\Q o H') X.xe s
noncomputable def tNoPart:TO:=fun _ H Q=>Q none H
noncomputable def tPart (t:TE):TO:=fun σ H Q=>t σ H fun x H1=>∃i,x=.int i/\Q (some i) H1
theorem intsAre_of {ns:List Int}:∀{us:List Value},Vals (ns.map V.int) us->IntsAre us ns:=by
 induction ns with
 |nil=>intro us r;rw [List.map_nil] at r;cases r;exact .nil
 |cons n ns ih =>
  intro us r
  rw [List.map_cons] at r
  cases r with
  |cons r1 r2 =>
   obtain ⟨t,e⟩:=r1
   subst e
   exact .cons n t (ih r2)
section
variable {X:Cx} {e:Expr} {te:TE} {lo hi:Option Expr} {tl th:TO} {pos p2:Pos}
theorem po_none:PO X none tNoPart:=by
 intro pins s σ H Q I h
 rw [evalPart_none]
 exact wpAny_pure ⟨none,H,I,.none,h⟩
theorem po_some (h:PE X e te):PO X (some e) (tPart te):=by
 intro pins s σ H Q I hw
 rw [evalPart_some]
 refine thn (h pins s σ H _ I hw) fun u s1 ⟨x,H1,I1,r1,q1⟩=>?_
 obtain ⟨i,rfl,q⟩:=q1
 obtain ⟨t,rfl⟩:=r1
 exact ⟨some i,H1,I1,.int i t,q⟩
def SlR (X:Cx) (r:V->Option Int->Option Int->Hp->VK->Prop):Prop :=
 ∀(pins:List (Addr×Obj)) (s:Shared) (σ:St) (H:Hp) (x:V) (v vl vu:Value) (lo hi:Option Int) (sl:Addr) (Q:VK),Inv X pins σ H s->RelV x v->s.heap.IsSliceOf sl vl vu .none->IsPart vl lo->IsPart vu hi->r x lo hi H Q ->
  ∃T id,typeLookup (.type T) "__getitem__"=pure (some (.builtin id))/\s.TypeIs v T/\wpAny (model X.prog X.w) X.A (getItem v (.ref sl)) (EP X pins σ Q) X.xe s
noncomputable def tSl (r:V->Option Int->Option Int->Hp->VK->Prop) (te:TE) (tl th:TO):TE:=fun σ H Q=>te σ H fun x H1=>tl σ H1 fun l H2=>th σ H2 fun u H3=>r x l u H3 Q
theorem pe_slice {r:V->Option Int->Option Int->Hp->VK->Prop} (hr:SlR X r) (he:PE X e te) (hl:PO X lo tl) (hu:PO X hi th):PE X (.Subscript e (.Slice lo hi none p2) pos) (tSl r te tl th):=by
 intro pins s σ H Q I h
 refine Subscript_ (thn (he pins s σ H _ I h) fun v s1 ⟨x,H1,I1,r1,q1⟩=>?_)
 refine wpAny_Slice (thn (hl pins s1 σ H1 _ I1 q1) fun vl s2 ⟨l,H2,I2,pl,q2⟩=>thn (hu pins s2 σ H2 _ I2 q2) fun vu s3 ⟨u,H3,I3,pu,q3⟩=>?_)
 rw [evalPart_none]
 refine wpAny_pure ?_
 have I4:Inv X pins σ H3 { s3 with heap:=s3.heap.push { cls:=.type "slice",data:=.fields #[vl,vu,.none] } }:=I3.kept (t':=s3.toks) fun b ob q=>Heap.get?_push_of_some _ q
 obtain ⟨T,id,hT,ht,hg⟩:=hr pins { s3 with heap:=s3.heap.push { cls:=.type "slice",data:=.fields #[vl,vu,.none] } } σ H3 x v vl vu l u s3.heap.objs.size Q I4 r1 (Heap.IsSliceOf.new ..) pl pu q3
 show wpAny (model X.prog X.w) X.A (subscriptTail e (.Slice lo hi none p2) v (.ref s3.heap.objs.size)) (EP X pins σ Q) X.xe { s3 with heap:=s3.heap.push { cls:=.type "slice",data:=.fields #[vl,vu,.none] } }
 exact tail_any (ops:=[.ref s3.heap.objs.size,v]) ht hT hg (by with_unfolding_all rfl)
noncomputable def cutV (xs:List V) (lo hi:Option Int):List V:=(xs.drop (HT.sIx xs.length 0 lo)).take (HT.sIx xs.length xs.length hi-HT.sIx xs.length 0 lo)
theorem cutV_length (xs:List V) (lo hi:Option Int):(cutV xs lo hi).length<=xs.length:=by
 unfold cutV
 rw [List.length_take,List.length_drop]
 omega
noncomputable def rSlT (K:Frag):V->Option Int->Option Int->Hp->VK->Prop:=fun x lo hi H Q=>∃a xs,x=.ref a/\SqT K H a xs /\
 ¬ (HT.sIx xs.length 0 lo=0/\HT.sIx xs.length xs.length hi=xs.length)/\∀p,H p=none->Q (.ref p) (upd H p (.tup (cutV xs lo hi)))
theorem sl_tup:SlR X (rSlT X.K):=by
 intro pins s σ H x v vl vu lo hi sl Q I rx hs pl pu h
 obtain ⟨a,xs,rfl,hx,hw,q⟩:=h
 cases rx
 obtain ⟨its,r,ht,hz⟩:=I.tuple hx
 have hlen:its.toArray.size=xs.length:=by rw [List.size_toArray];exact r.length.symm
 refine ⟨"tuple",_,PyProof.Rows.slot_tuple_getitem.lookup,ht.typeIs,?_⟩
 refine HT.getItem_tuple_cut ht hs pl pu (by rw [hlen];exact hw) ?_ (by rw [hlen];exact hz)
 rw [hlen]
 refine ⟨.ref s.heap.objs.size,_,I.laid (t':=s.toks) (o:=.tup (cutV xs lo hi)) (fun b ob q=>Heap.get?_push_of_some _ q) (Nat.le_refl _) ?_,rfl,q _ (I.hok.fresh (Nat.le_refl _))⟩
 exact ⟨Nat.le_trans (cutV_length xs lo hi) hz,_,(r.drop (HT.sIx xs.length 0 lo)).take (HT.sIx xs.length xs.length hi-HT.sIx xs.length 0 lo),IsTup.new _ _⟩
noncomputable def rCatT (K:Frag):R2:=fun x y H Q=>∃a b xs ys,x=.ref a/\y=.ref b/\SqT K H a xs/\SqT K H b ys/\xs≠[]/\xs.length+ys.length<=sizeLine /\
 (ys=[]->Q (.ref a) H)/\(ys≠[]->∀p,H p=none->Q (.ref p) (upd H p (.tup (xs++ys))))
theorem Vals.nil_iff {xs:List V} {us:List Value} (r:Vals xs us):us=[]↔xs=[]:=by
 cases r with
 |nil=>simp
 |cons _ _=>simp
theorem op_catT:OpR X (binaryOp .Add) (rCatT X.K):=by
 intro pins s σ H x y v u Q I rx ry h
 obtain ⟨a,b,xs,ys,rfl,rfl,ha,hb,hx,hz,q1,q2⟩:=h
 cases rx
 cases ry
 obtain ⟨its,r1,p1,_⟩:=I.tuple ha
 obtain ⟨its2,r2,p2,_⟩:=I.tuple hb
 refine HT.cat_tup p1 p2 (fun z=>hx (r1.nil_iff.mp z)) (fun z=>⟨.ref a,H,I,rfl,q1 (r2.nil_iff.mp z)⟩) (fun z=>?_) (by rw [<- r1.length,<- r2.length];exact hz)
 refine ⟨.ref s.heap.objs.size,_,I.laid (t':=s.toks) (o:=.tup (xs++ys)) (fun b ob q=>Heap.get?_push_of_some _ q) (Nat.le_refl _) ?_,rfl,q2 (fun w=>z (r2.nil_iff.mpr w)) _ (I.hok.fresh (Nat.le_refl _))⟩
 exact ⟨by rw [List.length_append];exact hz,_,r1.append r2,IsTup.new _ _⟩
end
end L2
namespace L2
open PySem PySem.Spec PyProof.Rows
noncomputable def ixN (n:Nat) (i:Int):Option Nat:=if 0<=i then (if i<n then some i.toNat else none) else if -(n:Int)<=i then some (i+n).toNat else none
noncomputable def atI {α:Type} (xs:List α) (i:Int):Option α:=(ixN xs.length i).bind fun j=>xs[j]?
theorem ixN_seq {n:Nat} {i:Int} {j:Nat} (h:ixN n i=some j):seqIndex? i n=some j/\j<n/\-(n:Int)<=i/\i<n:=by
 unfold ixN at h
 by_cases h0:0<=i
 ·rw [if_pos h0] at h
  by_cases h1:i<n
  ·rw [if_pos h1] at h
   have e:i.toNat=j:=Option.some.inj h
   exact ⟨by rw [seqIndex_of h0 h1,e],by omega,by omega,h1⟩
  ·rw [if_neg h1] at h;cases h
 ·rw [if_neg h0] at h
  by_cases h1:-(n:Int)<=i
  ·rw [if_pos h1] at h
   have e:(i+n).toNat=j:=Option.some.inj h
   exact ⟨by rw [seqIndex_neg (by omega) h1,e],by omega,h1,by omega⟩
  ·rw [if_neg h1] at h;cases h
theorem atI_get {α:Type} {xs:List α} {i:Int} {v:α} (h:atI xs i=some v):∃j,seqIndex? i xs.length=some j/\xs[j]?=some v/\j<xs.length/\-(xs.length:Int)<=i/\i<xs.length:=by
 unfold atI at h
 cases e:ixN xs.length i with
 |none=>rw [e] at h;cases h
 |some j =>
  rw [e] at h
  obtain ⟨h1,h2,h3,h4⟩:=ixN_seq e
  exact ⟨j,h1,h,h2,h3,h4⟩
theorem atI_nat {α:Type} {xs:List α} {j:Nat} {v:α} (h:xs[j]?=some v):atI xs (j:Int)=some v:=by
 have hj:j<xs.length:=(List.getElem?_eq_some_iff.mp h).1
 have e:ixN xs.length (j:Int)=some j:=by
  unfold ixN
  rw [if_pos (by omega),if_pos (by omega)];simp
 unfold atI;rw [e];exact h
theorem atI_last {α:Type} (xs:List α) (v:α):atI (xs++[v]) (-1)=some v:=by
 have hl:(xs++[v]).length=xs.length+1:=by simp
 have e:ixN (xs++[v]).length (-1)=some xs.length:=by
  unfold ixN
  rw [hl,if_neg (by decide),if_pos (by omega)]
  congr 1
  omega
 unfold atI
 rw [e]
 show (xs++[v])[xs.length]?=some v
 simp
def PlainIx (b:Expr):Prop:=∀o i,subscripted b false o i=operate [o,i] (getItem o i)
def IxR (X:Cx) (r:R2):Prop :=
 ∀(value slice:Expr) (pins:List (Addr×Obj)) (s:Shared) (σ:St) (H:Hp) (x y:V) (v u:Value) (Q:VK),Inv X pins σ H s->RelV x v->RelV y u->r x y H Q ->
  subscripted slice false v u=operate [v,u] (getItem v u)->wpAny (model X.prog X.w) X.A (subscriptTail value slice v u) (EP X pins σ Q) X.xe s
def MtR (X:Cx) (id:String) (r:V->List V->Hp->VK->Prop):Prop :=
 ∀(pins:List (Addr×Obj)) (s:Shared) (σ:St) (H:Hp) (x:V) (xs:List V) (v:Value) (us:List Value) (Q:VK),Inv X pins σ H s->RelV x v->Vals xs us->r x xs H Q ->
  wpAny (model X.prog X.w) X.A (call (.builtin id) (v::us)) (EP X pins σ Q) X.xe s
section
variable {X:Cx} {a b:Expr} {ta tb:TE} {pos:Pos}
theorem pe_ix {r:R2} (hr:IxR X r) (ha:PE X a ta) (hb:PE X b tb) (hs:PlainIx b):PE X (.Subscript a b pos) (tOp r ta tb):=by
 intro pins s σ H Q I h
 exact Subscript_ (binT ha hb I h fun v u s2 x y H2 I2 rx ry q=>hr a b pins s2 σ H2 x y v u Q I2 rx ry q (hs _ _))
noncomputable def rIxL (K:Frag):R2:=fun x y H Q=>∃p xs i v,x=.ref p/\y=.int i/\SqL K H p xs/\atI xs i=some v/\Q v H
noncomputable def rIxT (K:Frag):R2:=fun x y H Q=>∃p xs i v,x=.ref p/\y=.int i/\SqT K H p xs/\atI xs i=some v/\Q v H
noncomputable def rIxS:R2:=fun x y H Q=>∃z i c,x=.str z/\y=.int i/\z.length<=sizeLine/\atI z.cps.toList i=some c/\Q (.str ⟨#[c]⟩) H
theorem ix_list:IxR X (rIxL X.K):=by
 intro value slice pins s σ H x y v u Q I rx ry h hs
 obtain ⟨p,xs,i,z,rfl,rfl,hq,he,q⟩:=h
 cases rx
 obtain ⟨t,rfl⟩:=ry
 obtain ⟨its,r,pl,hz⟩:=I.list hq
 obtain ⟨j,h1,h2,h3,h4,h5⟩:=atI_get he
 obtain ⟨w,ew,rw'⟩:=r.get h2
 have hl:=r.length
 have hn:=line63
 have fin:EP X pins σ Q w s:=⟨z,H,I,rw',q⟩
 by_cases h0:0<=i
 ·have hj:i.toNat=j:=by
   rw [seqIndex_of h0 h5] at h1
   exact Option.some.inj h1
  exact item_listR pl.isList h0 (by omega) (by rw [hj];simpa using ew) fin hs
 ·have hj:(i+(its.toArray.size:Int)).toNat=j:=by
   rw [seqIndex_neg (by omega) h4] at h1
   rw [List.size_toArray,<- hl]
   exact Option.some.inj h1
  exact subscriptTail_builtinR (x:=w) pl.isList.typeIs slot_list_getitem.lookup
   (wpAny_getItem_list_neg (Q:=fun r s'=>r=w/\EP X pins σ Q r s') pl.isList (by omega) (by rw [List.size_toArray]<;>omega) (by omega) (by rw [hj];simpa using ew) ⟨rfl,fin⟩) hs
theorem ix_tup:IxR X (rIxT X.K):=by
 intro value slice pins s σ H x y v u Q I rx ry h hs
 obtain ⟨p,xs,i,z,rfl,rfl,hq,he,q⟩:=h
 cases rx
 obtain ⟨t,rfl⟩:=ry
 obtain ⟨its,r,pl,hz⟩:=I.tuple hq
 obtain ⟨j,h1,h2,h3,h4,h5⟩:=atI_get he
 obtain ⟨w,ew,rw'⟩:=r.get h2
 have hl:=r.length
 have hn:=line63
 have fin:EP X pins σ Q w s:=⟨z,H,I,rw',q⟩
 exact subscriptTail_builtinR (x:=w) pl.typeIs slot_tuple_getitem.lookup
  (getItem_tuple (j:=j) (Q:=fun r s'=>r=w/\EP X pins σ Q r s') pl (by omega) (by omega) (by rw [List.size_toArray,<- hl];exact h1) (by simpa using ew) ⟨rfl,fin⟩) hs
theorem ix_str:IxR X rIxS:=by
 intro value slice pins s σ H x y v u Q I rx ry h hs
 obtain ⟨z,i,c,rfl,rfl,hz,he,q⟩:=h
 obtain ⟨t,rfl⟩:=rx
 obtain ⟨t',rfl⟩:=ry
 obtain ⟨j,h1,h2,h3,h4,h5⟩:=atI_get he
 have hl:z.cps.toList.length=z.length:=by simp [Str.length]
 rw [hl] at h1 h4 h5
 have hn:=line63
 exact tail_any (typeIs_str s z t) slot_str_getitem.lookup (getItem_str (c:=c) (by
  have e1:decide (i < -(2 ^ 63:Int))=false:=decide_eq_false (by omega)
  have e2:decide (i ≥ 2 ^ 63)=false:=decide_eq_false (by omega)
  rw [e1,e2,Bool.or_false]) (by rw [h1];simpa using h2) ⟨.str ⟨#[c]⟩,H,I.tok _,⟨_,rfl⟩,q⟩) hs
theorem mapSeq_set (its:List Value) (n j:Nat) (u:Value):Obj.mapSeq (·.setIfInBounds j u) { cls:=.type "list",data:=.seq its.toArray n }={ cls:=.type "list",data:=.seq (its.set j u).toArray n }:=by
 simp [Obj.mapSeq]
theorem Inv.lst {pins:List (Addr×Obj)} {σ:St} {H:Hp} {s:Shared} {p:Addr} {xs:List V} (I:Inv X pins σ H s) (h:H p=some (.lst xs)) :
  ∃(its:List Value) (n:Nat),Vals xs its/\s.heap.get? p=some { cls:=.type "list",data:=.seq its.toArray n }/\xs.length<=sizeLine:=by
 obtain ⟨z,its,n,r,e⟩:=I.hok p _ h
 exact ⟨its,n,r,e,z⟩
theorem Inv.lstUpd {pins:List (Addr×Obj)} {σ:St} {H:Hp} {s:Shared} {p:Addr} {xs ys:List V} {its its':List Value} {n n':Nat} {f:Obj->Obj} (I:Inv X pins σ H s) (h:H p=some (.lst xs))
  (ho:s.heap.get? p=some { cls:=.type "list",data:=.seq its.toArray n }) (hf:f { cls:=.type "list",data:=.seq its.toArray n }={ cls:=.type "list",data:=.seq its'.toArray n' }) (r:Vals ys its') (hz:ys.length<=sizeLine) (t:Nat) :
  Inv X pins σ (upd H p (.lst ys)) { s with heap:=s.heap.update p f,toks:=t }:=by
 have e:(s.heap.update p f).get? p=some { cls:=.type "list",data:=.seq its'.toArray n' }:=by
  rw [Heap.get?_update_self f ho (by rw [hf]<;>rfl),hf]
 refine I.write (x:=p) (e:=p) (by rw [h];trivial) (.inl rfl) (fun b u hb q=>(Heap.get?_update_other _ _ (Ne.symm hb)).trans q) ⟨_,e⟩ ?_
 exact ⟨hz,its',n',r,e⟩
noncomputable def rSetL:V->V->V->Hp->(Hp->Prop)->Prop:=fun o i v H Q=>∃p xs k j,o=.ref p/\i=.int k/\H p=some (.lst xs)/\ixN xs.length k=some j/\Q (upd H p (.lst (xs.set j v)))
theorem set_list:PSet X rSetL:=by
 intro pins s σ H o i v ov iv u Q I ro ri rv h
 obtain ⟨p,xs,k,j,rfl,rfl,hp,hj,q⟩:=h
 cases ro
 obtain ⟨t,rfl⟩:=ri
 obtain ⟨its,n,r,ho,hz⟩:=I.lst hp
 obtain ⟨h1,h2,h3,h4⟩:=ixN_seq hj
 have hl:=r.length
 have hn:=line63
 have I':Inv X pins σ (upd H p (.lst (xs.set j v))) { s with heap:=s.heap.update p (Obj.mapSeq (·.setIfInBounds j u)) } :=
  I.lstUpd hp ho (mapSeq_set its n j u) (r.set rv j) (by rw [List.length_set];exact hz) s.toks
 by_cases h0:0<=k
 ·have hk:k.toNat=j:=by
   rw [seqIndex_of h0 h4] at h1
   exact Option.some.inj h1
  exact PySem.W.ki_setAt ho h0 (by omega) (by rw [List.size_toArray,<- hl];exact h4) (by rw [hk];exact ⟨_,I',q⟩)
 ·have hk:(k+(its.toArray.size:Int)).toNat=j:=by
   rw [seqIndex_neg (by omega) h3] at h1
   rw [List.size_toArray,<- hl]
   exact Option.some.inj h1
  exact PySem.W.ki_setBack ho (by omega) (by rw [List.size_toArray,<- hl];exact h3) (by omega) (by rw [hk];exact ⟨_,I',q⟩)
theorem slice_bounds (lo hi:Option Int) (n:Nat):(sliceBounds lo hi none n).1=((HT.sIx n 0 lo:Nat):Int)/\(sliceBounds lo hi none n).2.1=((HT.sIx n n hi:Nat):Int)/\(sliceBounds lo hi none n).2.2=1:=by
 refine ⟨?_,?_,rfl⟩
 ·cases lo with
  |none=>simp [sliceBounds,HT.sIx]
  |some i =>
   simp only [sliceBounds,HT.sIx,Option.getD_none,show (1:Int) > 0 by decide,if_true]
   by_cases h:i<0
   ·simp only [h,if_true]<;>omega
   ·simp only [h,if_false]<;>omega
 ·cases hi with
  |none=>simp [sliceBounds,HT.sIx]
  |some i =>
   simp only [sliceBounds,HT.sIx,Option.getD_none,show (1:Int) > 0 by decide,if_true]
   by_cases h:i<0
   ·simp only [h,if_true]<;>omega
   ·simp only [h,if_false]<;>omega
theorem slicePick_cut (its:List Value) (lo hi:Option Int):slicePick its.toArray lo hi none=((its.drop (HT.sIx its.length 0 lo)).take (HT.sIx its.length its.length hi-HT.sIx its.length 0 lo)).toArray:=by
 obtain ⟨h1,h2,h3⟩:=slice_bounds lo hi its.toArray.size
 unfold slicePick
 rw [h1,h2,h3]
 simp only [sliceRange_one,pick_run,List.size_toArray]<;>rfl
noncomputable def rSlL (K:Frag):V->Option Int->Option Int->Hp->VK->Prop:=fun x lo hi H Q=>∃a xs,x=.ref a/\SqL K H a xs/\∀p,H p=none->Q (.ref p) (upd H p (.lst (cutV xs lo hi)))
theorem sl_list:SlR X (rSlL X.K):=by
 intro pins s σ H x v vl vu lo hi sl Q I rx hs pl pu h
 obtain ⟨a,xs,rfl,hx,q⟩:=h
 cases rx
 obtain ⟨its,r,ht,hz⟩:=I.list hx
 have hlen:=r.length
 refine ⟨"list",_,slot_list_getitem.lookup,ht.isList.typeIs,?_⟩
 refine wpAny_getItem_list_slice ht.isList hs pl pu .none (by simp) ?_ (by rw [List.size_toArray]<;>omega)
 rw [slicePick_cut,<- hlen]
 refine ⟨.ref s.heap.objs.size,_,I.laid (t':=s.toks) (o:=.lst (cutV xs lo hi)) (fun b ob q=>Heap.get?_push_of_some _ q) (Nat.le_refl _) ?_,rfl,q _ (I.hok.fresh (Nat.le_refl _))⟩
 exact ⟨Nat.le_trans (cutV_length xs lo hi) hz,_,0,(r.drop (HT.sIx xs.length 0 lo)).take (HT.sIx xs.length xs.length hi-HT.sIx xs.length 0 lo),Heap.get?_push_size _ rfl⟩
theorem call_len_seq:CallR X (.builtin "len") (fun xs H Q=>∃p ys,xs=[.ref p]/\(SqL X.K H p ys\/SqT X.K H p ys)/\Q (.int ys.length) H):=by
 intro pins s σ H xs us Q I r h
 obtain ⟨p,ys,rfl,hq,q⟩:=h
 obtain ⟨u,rfl,rx⟩:=vals1 r
 cases rx
 have hn:=line63
 rcases hq with hq|hq
 ·obtain ⟨its,r',pl,hz⟩:=I.list hq
  have hlen:=r'.length
  exact Calls.call_len_list pl.isList (by simp only [List.size_toArray]<;>omega) ⟨.int ys.length,H,I.tok _,⟨s.toks+1,by rw [List.size_toArray,hlen]⟩,q⟩
 ·obtain ⟨its,r',pl,hz⟩:=I.tuple hq
  have hlen:=r'.length
  exact len_tuple pl (by simp only [List.size_toArray]<;>omega) ⟨.int ys.length,H,I.tok _,⟨s.toks+1,by rw [List.size_toArray,hlen]⟩,q⟩
theorem call_len_str:CallR X (.builtin "len") (fun xs H Q=>∃z,xs=[.str z]/\z.length<=sizeLine/\Q (.int z.length) H):=by
 intro pins s σ H xs us Q I r h
 obtain ⟨z,rfl,hz,q⟩:=h
 obtain ⟨u,rfl,t,rfl⟩:=vals1 r
 have hn:=line63
 exact len_str (by omega) ⟨.int z.length,H,I.tok _,⟨_,rfl⟩,q⟩
theorem call_list_of:CallR X (.type "list") (fun xs H Q=>∃p ys,xs=[.ref p]/\(SqL X.K H p ys\/SqT X.K H p ys)/\∀l,H l=none->Q (.ref l) (upd H l (.lst ys))):=by
 intro pins s σ H xs us Q I r h
 obtain ⟨p,ys,rfl,hq,q⟩:=h
 obtain ⟨u,rfl,rx⟩:=vals1 r
 cases rx
 have fin:∀(its:List Value),Vals ys its->ys.length<=sizeLine->∀(h':Heap) (c':Nat),(∀b o',s.heap.get? b=some o'->h'.get? b=some o') ->
   h'.get? s.heap.objs.size=some { cls:=.type "list",dict:=none,data:=.seq its.toArray c',slots:=#[] }->EP X pins σ Q (.ref s.heap.objs.size) { s with heap:=h' }:=fun its r' hz h' c' kp e =>
  ⟨.ref s.heap.objs.size,_,I.laid (t':=s.toks) kp (Nat.le_refl _) (show ObjOk X.prog X.w _ h' _ (.lst ys) from ⟨hz,its,c',r',e⟩),rfl,q _ (I.hok.fresh (Nat.le_refl _))⟩
 rcases hq with hq|hq
 ·obtain ⟨its,r',pl,hz⟩:=I.list hq
  have hlen:=r'.length
  obtain ⟨o,ho,hc,n,hd⟩:=pl.isList
  exact call_list_seq p (.inl rfl) ho hc hd (fun h' c' kp e=>fin its r' hz h' c' kp e) (by simp only [List.size_toArray]<;>omega)
 ·obtain ⟨its,r',pl,hz⟩:=I.tuple hq
  have hlen:=r'.length
  obtain ⟨o,ho,hc,n,hd⟩:=pl
  exact call_list_seq p (.inr rfl) ho hc hd (fun h' c' kp e=>fin its r' hz h' c' kp e) (by simp only [List.size_toArray]<;>omega)
theorem call_tuple_of:CallR X (.type "tuple") (fun xs H Q=>∃p ys,xs=[.ref p]/\((SqL X.K H p ys/\∀l,H l=none->Q (.ref l) (upd H l (.tup ys)))\/(SqT X.K H p ys/\Q (.ref p) H))):=by
 intro pins s σ H xs us Q I r h
 obtain ⟨p,ys,rfl,h⟩:=h
 obtain ⟨u,rfl,rx⟩:=vals1 r
 cases rx
 rcases h with ⟨hq,q⟩ | ⟨hq,q⟩
 ·obtain ⟨its,r',pl,hz⟩:=I.list hq
  have hlen:=r'.length
  refine call_tuple_list pl.isList (fun h' kp=>?_) (by simp only [List.size_toArray]<;>omega)
  have I1:Inv X pins σ H { s with heap:=h' }:=I.kept (t':=s.toks) kp
  have I2:Inv X pins σ (upd H h'.objs.size (.tup ys)) { s with heap:=h'.push { cls:=.type "tuple",data:=.seq its.toArray } } :=
   I1.laid (t':=s.toks) (fun b o e=>Heap.get?_push_of_some _ e) (Nat.le_refl _) (show ObjOk X.prog X.w _ _ _ (.tup ys) from ⟨hz,its,r',IsTup.new _ _⟩)
  exact ⟨.ref h'.objs.size,_,I2,rfl,q _ (I1.hok.fresh (Nat.le_refl _))⟩
 ·obtain ⟨its,r',pl,hz⟩:=I.tuple hq
  exact call_tuple_same pl ⟨.ref p,H,I,rfl,q⟩
def tyV (K:Frag) (T:String) (x:V) (H:Hp):Prop:=match x with
 | .str _=>T="str"
 | .int _=>T="int"
 | .ref p=>(T="list"/\∃xs,SqL K H p xs)\/(T="tuple"/\∃o,K.lookup p=some o/\o.cls=.type "tuple"/\o.dict=none) \/
   (T="dict"/\((∃kvs,H p=some (.dK kvs))\/∃kvs,H p=some (.dT kvs)))\/(T="set"/\∃S n,H p=some (.set S n))
 |_=>False
theorem tyV_is {pins:List (Addr×Obj)} {σ:St} {H:Hp} {s:Shared} {T:String} {x:V} {v:Value} (I:Inv X pins σ H s) (r:RelV x v) (ty:tyV X.K T x H) :
  s.TypeIs v T/\∀a,v=.ref a->∃ob,s.heap.get? a=some ob/\ob.dict=none:=by
 cases x with
 |str z =>
  obtain ⟨t,rfl⟩:=r
  cases (show T="str" from ty)
  exact ⟨typeIs_str s z t,fun _ e=>nomatch e⟩
 |int i =>
  obtain ⟨t,rfl⟩:=r
  cases (show T="int" from ty)
  exact ⟨typeIs_int s i t,fun _ e=>nomatch e⟩
 |ref p =>
  cases r
  rcases ty with ⟨rfl,xs,hq⟩ | ⟨rfl,o,hk,hc,hd⟩ | ⟨rfl,hk⟩ | ⟨rfl,S,n,hk⟩
  ·obtain ⟨its,_,pl,_⟩:=I.list hq
   refine ⟨pl.isList.typeIs,fun a e=>?_⟩
   cases e
   obtain ⟨o,n,e,c,hd,_⟩:=pl
   exact ⟨o,e,hd⟩
  ·refine ⟨⟨o,I.kIn p o hk,hc⟩,fun a e=>?_⟩
   cases e
   exact ⟨o,I.kIn _ o hk,hd⟩
  ·have z:∃o,s.heap.get? p=some o/\o.ExactDict:=by
    rcases hk with ⟨kvs,hk⟩ | ⟨kvs,hk⟩
    ·obtain ⟨_,_,_,_,o,_,_,e,ex,_⟩:=I.hok p _ hk
     exact ⟨o,e,ex⟩
    ·obtain ⟨_,_,_,_,o,_,_,e,ex,_⟩:=I.hok p _ hk
     exact ⟨o,e,ex⟩
   obtain ⟨o,e,ex⟩:=z
   refine ⟨⟨o,e,ex.1⟩,fun a e2=>?_⟩
   cases e2
   exact ⟨o,e,ex.2.1⟩
  ·obtain ⟨o,_,_,_,e,ex,_⟩:=I.hok p _ hk
   refine ⟨⟨o,e,ex.1⟩,fun a e2=>?_⟩
   cases e2
   exact ⟨o,e,ex.2.1⟩
 |_=>exact False.elim ty
noncomputable def tBM (K:Frag) (T:String) (r:V->List V->Hp->VK->Prop) (to:TE) (t:TA):TE:=fun σ H Q=>to σ H fun x H1=>tyV K T x H1/\t σ H1 fun xs H2=>r x xs H2 Q
variable {o e:Expr} {es:List Expr} {to:TE} {t:TA} {name:Str} {apos cpos:Pos} {T id:String} {r:V->List V->Hp->VK->Prop}
theorem pe_bm (pa:PlainAttrs T) (slot:Slot T name id) (hty:typeOf (.builtin id)=pure (.type "method_descriptor")) (hm:MtR X id r) (ho:PE X o to) (ha:PA X (e::es) t)
  (hbase:attributeBase o name X.env (eval o X.env)=eval o X.env:=by rfl)
  (hfew:((backTo cpos (starEach (e::es) X.env)).all (fun x=>!x.1)&&(backToKw cpos (keywordEach [] X.env)).all (fun x=>x.1.isSome)
   && decide ((e::es).length+([]:List Keyword).length+(if ([]:List Keyword).isEmpty then 0 else 1)<30))=true:=by rfl)
  (hline:(apos.endLine==cpos.line)=true:=by rfl) (hs:starEach (e::es) X.env=(false,eval e X.env)::starEach es X.env:=by rfl) (hplain:(backTo cpos (starEach es X.env)).any (·.1)=false:=by rfl) :
  PE X (.Call (.Attribute o name apos) (e::es) [] cpos) (tBM X.K T r to t):=by
 intro pins s σ H Q I h
 refine wpAny_Call_method_late hbase hfew hline rfl (thn (ho pins s σ H _ I h) fun v s1 ⟨x,H1,I1,r1,ty,q1⟩=>?_)
 obtain ⟨h1,h2⟩:=tyV_is I1 r1 ty
 refine ⟨T,id,pa,slot,hty,h1,h2,?_⟩
 have hA:=ha cpos pins s1 σ H1 _ I1 q1
 rw [hs] at hA |-
 refine Calls.callWith_builtin (by show (false||(backTo cpos (starEach es X.env)).any (·.1))=false;rw [hplain]<;>rfl) (Calls.evalArgs_plain ?_)
 exact thn hA fun us s2 ⟨vs,H2,I2,r2,q2⟩=>hm pins s2 σ H2 x vs v us Q I2 r1 r2 q2
end
end L2
namespace L2
open PySem PySem.Spec PyProof.Rows
def MtM (X:Cx) (id:String) (r:V->List V->Hp->VK->Prop):Prop :=
 ∀(pins:List (Addr×Obj)) (s:Shared) (σ:St) (H:Hp) (x:V) (xs:List V) (v:Value) (us:List Value) (Q:VK),Inv X pins σ H s->RelV x v->Vals xs us->r x xs H Q ->
  wpAny (model X.prog X.w) X.A (call (.builtin id) (v::us)) (EP X pins σ Q) X.xe s
theorem Vals.one:∀{x:V} {us:List Value},Vals [x] us->∃u,us=[u]/\RelV x u
 |_,_,.cons r .nil=>⟨_,rfl,r⟩
theorem Vals.rep {xs:List V} {us:List Value} (h:Vals xs us):∀k:Nat,Vals (List.replicate k xs).flatten (List.replicate k us).flatten
 |0=>.nil
 |k+1=>by
  rw [List.replicate_succ,List.replicate_succ,List.flatten_cons,List.flatten_cons]
  exact Vals.append h (Vals.rep h k)
theorem foldl_rep (its:List Value):∀(k:Nat) (acc:List Value),
  List.foldl (fun x1 x2=>x1++x2) acc.toArray (List.replicate k its.toArray)=(acc++(List.replicate k its).flatten).toArray
 |0,acc=>by simp
 |k+1,acc=>by
  have e:acc.toArray++its.toArray=(acc++its).toArray:=by simp
  have e2:(acc++its)++(List.replicate k its).flatten=acc++(List.replicate (k+1) its).flatten:=by
   rw [List.replicate_succ,List.flatten_cons,List.append_assoc]
  rw [<- e2,<- foldl_rep its k (acc++its),<- e,List.replicate_succ,List.foldl_cons]
section
variable {X:Cx} {pins:List (Addr×Obj)} {σ:St} {H:Hp} {s:Shared} {l b:Addr} {xs ys zs:List V}
theorem Inv.lset {its its':List Value} {n:Nat} {f:Array Value->Array Value} {t':Nat} (I:Inv X pins σ H s) (hH:H l=some (.lst xs))
  (e:s.heap.get? l=some { cls:=.type "list",data:=.seq its.toArray n }) (hf:f its.toArray=its'.toArray) (hv:Vals ys its') (hz:ys.length<=sizeLine) :
  Inv X pins σ (upd H l (.lst ys)) { s with heap:=s.heap.update l (Obj.mapSeq f),toks:=t' }:=by
 have q:=PySem.IsL.update e f
 rw [hf] at q
 refine I.write (x:=l) (e:=l) (by rw [hH];exact trivial) (.inl rfl) (fun b' u hb hu=>(Heap.get?_update_other s.heap (Obj.mapSeq f) (Ne.symm hb)).trans hu) ⟨_,q⟩ ?_
 exact ⟨hz,its',_,hv,q⟩
theorem Inv.lnew {its:List Value} {t':Nat} (I:Inv X pins σ H s) (hv:Vals ys its) (hz:ys.length<=sizeLine) :
  Inv X pins σ (upd H s.heap.objs.size (.lst ys)) { s with heap:=s.heap.push { cls:=.type "list",data:=.seq its.toArray },toks:=t' } :=
 I.laid (fun _ _ q=>Heap.get?_push_of_some _ q) (Nat.le_refl _) ⟨hz,its,0,hv,Heap.get?_push_size _ rfl⟩
theorem Inv.fresh (I:Inv X pins σ H s):H s.heap.objs.size=none:=I.hok.fresh (Nat.le_refl _)
theorem Inv.lstM (I:Inv X pins σ H s) (hH:H l=some (.lst xs)):xs.length<=sizeLine/\∃(its:List Value) (n:Nat),Vals xs its/\xs.length=its.length/\s.heap.get? l=some { cls:=.type "list",data:=.seq its.toArray n }:=by
 obtain ⟨z,its,n,r,e⟩:=I.hok l _ hH
 exact ⟨z,its,n,r,r.length,e⟩
theorem notLongL {n:Nat} (h:n<=sizeLine):Builtin.List.listTooLong n=false:=by
 unfold Builtin.List.listTooLong
 exact decide_eq_false (by omega)
end
section
variable {X:Cx}
noncomputable def rAppend:V->List V->Hp->VK->Prop:=fun x vs H Q=>∃l xs y,x=.ref l/\vs=[y]/\H l=some (.lst xs)/\xs.length<sizeLine/\Q .non (upd H l (.lst (xs++[y])))
theorem mt_append:MtM X "list.append" rAppend:=by
 intro pins s σ H x vs v us Q I rx rv h
 obtain ⟨l,xs,y,rfl,rfl,hH,hz,q⟩:=h
 cases rx
 obtain ⟨u,rfl,ru⟩:=rv.one
 obtain ⟨z,its,n,r,hl,e⟩:=I.lstM hH
 refine call_meets F.slot_list_append ⟨_,e,rfl⟩ F.entry_list_append (F.args_list_append_2 _ _) (PySem.list_append l its.toArray n u (by rw [List.size_toArray];omega)) ⟨e,?_⟩
 refine ⟨.non,_,I.lset (its':=its++[u]) hH e (by simp) (r.append (.cons ru .nil)) ?_,rfl,q⟩
 rw [List.length_append,List.length_singleton]
 omega
noncomputable def rCat:R2:=fun x y H Q=>∃l b xs zs,x=.ref l/\y=.ref b/\H l=some (.lst xs)/\H b=some (.lst zs)/\xs.length+zs.length<=sizeLine/\∀p,H p=none->Q (.ref p) (upd H p (.lst (xs++zs)))
theorem op_cat:OpR X (binaryOp .Add) rCat:=by
 intro pins s σ H x y v u Q I rx ry h
 obtain ⟨l,b,xs,zs,rfl,rfl,hH,hB,hz,q⟩:=h
 cases rx
 cases ry
 obtain ⟨z,its,n,r,hl,e⟩:=I.lstM hH
 obtain ⟨z2,its2,n2,r2,hl2,e2⟩:=I.lstM hB
 refine PySem.P.add_list e e2 ?_ (by rw [List.size_toArray,List.size_toArray];omega)
 have ea:its.toArray++its2.toArray=(its++its2).toArray:=by simp
 rw [ea]
 exact ⟨.ref _,_,I.lnew (t':=s.toks) (r.append r2) (by rw [List.length_append];omega),rfl,q _ I.fresh⟩
noncomputable def rRep:R2:=fun x y H Q=>∃l k xs,x=.ref l/\y=.int k/\H l=some (.lst xs)/\-(2 ^ 63)<=k/\k<2 ^ 63/\xs.length*k.toNat<=sizeLine /\
 ∀p,H p=none->Q (.ref p) (upd H p (.lst (List.replicate k.toNat xs).flatten))
theorem len_rep {α:Type} (xs:List α) (k:Nat):(List.replicate k xs).flatten.length=k*xs.length:=by
 induction k with
 |zero=>simp
 |succ k ih=>rw [List.replicate_succ,List.flatten_cons,List.length_append,ih,Nat.succ_mul,Nat.add_comm]
theorem op_rep:OpR X (binaryOp .Mult) rRep:=by
 intro pins s σ H x y v u Q I rx ry h
 obtain ⟨l,k,xs,rfl,rfl,hH,h1,h2,hz,q⟩:=h
 cases rx
 obtain ⟨t,rfl⟩:=ry
 obtain ⟨z,its,n,r,hl,e⟩:=I.lstM hH
 have hlen:its.toArray.size*k.toNat<=sizeLine:=by rw [List.size_toArray,<- hl];exact hz
 have hcap:¬ its.toArray.size*k.toNat > (2 ^ 63-1) / 8:=by
  have:(sizeLine:Nat)<=(2 ^ 63-1) / 8:=by decide
  omega
 have hfit:¬ (!Builtin.List.listFitsIndex k)=true:=by
  rw [fitsIndex_both h1 h2]
  exact Bool.false_ne_true
 have hlong:¬ Builtin.List.listTooLong (its.toArray.size*k.toNat)=true:=by
  rw [notLongL hlen]
  exact Bool.false_ne_true
 have hnew:List.foldl (fun x1 x2=>x1++x2) #[] (List.replicate (if its.toArray.isEmpty=true then 0 else k.toNat) its.toArray)=(List.replicate k.toNat its).flatten.toArray:=by
  have f0:∀m:Nat,List.foldl (fun x1 x2=>x1++x2) #[] (List.replicate m its.toArray)=(List.replicate m its).flatten.toArray:=fun m=>by
   have:=foldl_rep its m []
   rw [List.nil_append] at this
   exact this
  rw [f0]
  cases its with
  |nil=>simp
  |cons a r'=>rw [if_neg (by simp)]
 refine wpAny_binaryOp_repeat_ref (T:="list") (U:="int") (by decide) ⟨_,e,rfl⟩ (fun s'=>typeIs_int s' k t) noFill_list_mul F.fills_int_mul F.slot_int_rmul repeat_list F.slot_int_index.lookup
  (call_meets F.slot_int_rmul (typeIs_int s k t) F.entry_int_rmul (F.args_int_rmul_2 _ _) (int___rmul___int_list k t l its.toArray n)
   ⟨e,rfl,⟨_,e,rfl⟩,call_meets F.slot_list_mul ⟨_,e,rfl⟩ F.entry_list_mul (F.args_list_mul_2 _ _) (AutoListH.list___mul___list_int_3 l its.toArray n k t hfit hcap hlong) ⟨e,?_⟩⟩)
 rw [hnew]
 exact ⟨.ref _,_,I.lnew (t':=s.toks) (r.rep k.toNat) (by rw [len_rep,Nat.mul_comm];exact hz),rfl,q _ I.fresh⟩
end
section
variable {prog:Program} {w:World} {A:Around} {E:Value->Shared->Prop} {s:Shared}
set_option maxRecDepth 100000 in
end
section
variable {X:Cx}
end
end L2
namespace Att
open PySem PySem.W PySem.Calls PyProof.Rows
theorem ints_of_wellAll {P:Params} {h:Heap}:∀(ns:List Int) (vs:List Value),WellAll P h vs (ns.map WData.int)->IntsAre vs ns:=by
 intro ns
 induction ns with
 |nil =>
  intro vs w
  rw [List.map_nil] at w
  cases w
  exact .nil
 |cons n ns ih =>
  intro vs w
  rw [List.map_cons] at w
  cases w with
  |cons a b =>
   cases a
   exact .cons _ _ (ih _ b)
theorem script_of {l:OpenLaw} {n:Nat} (hn:l.most=some n) {P:Params} {h:Heap} {args:List WData} {vals:List Value}
  (hpre:l.row.toRowW.claim.pre args=true) (hwl:WellAll P h vals args) :
  ∃a vs ns,vals=[Value.ref a]/\args=[WData.list (ns.map WData.int)]/\h.get? a=some { cls:=.type "list",data:=.seq vs.toArray }/\IntsAre vs ns/\ns.length<=n:=by
 have hsh:WShape.hasAll [] args [.list .int]=true:=(pre_splitW hpre).1
 have hc:l.pre.holds [] { args:=args }=true:=(pre_splitW hpre).2
 obtain ⟨d,r,rfl,h1,h2⟩:=hasAllW_cons hsh
 obtain rfl:=hasAllW_nil h2
 obtain ⟨xs,rfl,h3⟩:=hasW_list h1
 obtain ⟨ns,rfl⟩:=items_int h3
 have hlen:ns.length<=n:=by
  unfold OpenLaw.pre at hc
  have h4:(WTm.not (.lt (.lit (.int (n:Int))) (.len (.arg 0)))).holds [] { args:=[.list (ns.map .int)] }=true:=by
   have h4:=(holds_andW hc).1
   rw [hn] at h4
   exact h4
  have h5:=condW_of h4 (w_not (w_lt w_lit (w_len_list (w_arg rfl))))
  rw [List.length_map] at h5
  refine Nat.le_of_not_lt fun q=>?_
  have q':(n:Int)<((ns.length:Nat):Int):=by omega
  first
   |(rw [decide_eq_true q'] at h5;exact absurd h5 (by decide))
   |(simp at h5;omega)
 cases hwl with
 |cons w1 w2 =>
  cases w2
  cases w1 with
  |list ho hall=>exact ⟨_,_,ns,rfl,rfl,ho,ints_of_wellAll ns _ hall,hlen⟩
theorem post_true (l:OpenLaw) (args:List WData):l.row.toRowW.claim.post args (.bool true) args=true :=
 postW_of (r:=l.row.toRowW) (X:=(true==true))
  (show WShape.has [] (.bool true) .bool=true by first|rfl|decide|simp [WShape.has,WShape.arms,WShape.armsAll])
  (show (WTm.eq .res (.lit (.bool true))).value [] { args:=args,res:=some (.bool true),after:=args }=some (.bool (true==true)) from w_eq_bool (w_res rfl) w_lit) rfl
theorem attach_call {l:OpenLaw} {n:Nat} {q:Program} {loose:List Str} {XP:(Str->Option Value)->Heap->Prop} {YP:World->Heap->Prop} {d:DefRec}
  (hn:l.most=some n) (hdf:d.params.defaults=[])
  (call:∀(w:World) (s₀ s₁:Shared) (mg mb:Str->Option Value) (fa:Addr) (o:Obj) (pm cd doc:Value) (a:Addr) (vs:List Value) (ns:List Int),
   Ground q loose [] XP w s₀ mg mb s₁.heap->YP w s₁.heap ->
   s₁.heap.get? fa=some o->o.data=.func (docDef d.name d.params d.body d.scope pm cd doc)->s₁.heap.CodeRec cd d.name->mg d.name=some (.ref fa) ->
   s₁.heap.get? a=some { cls:=.type "list",data:=.seq vs.toArray }->IntsAre vs ns->ns.length<=n->s₁.gens=#[] ->
   codeAny (model l.prog w) callerA (.call (.ref fa) ⟨[.ref a],[]⟩) (fun r s'=>r=.ok (.ret (.bool true))/\OldK s₁.heap s'.heap/\s'.os=s₁.os/\AllBare s'.gens) s₁) :
  WalkO q loose XP YP l.row.toRowW d [] (fun f vs=>PySem.call f vs):=by
 intro w s₀ s₁ mg mb G Y fa o pm cd doc dV kV ho hd hcd hD hmg hg args vals as hpre hlay hrd hwl hlo
 obtain rfl:dV=.none:=Dflts.none hD hdf
 obtain rfl:kV=.none:=Dflts.noKw hD
 obtain ⟨a,vs,ns,rfl,rfl,hobj,hints,hlen⟩:=script_of hn hpre hwl
 refine enter_call (codeAny_mono (call w s₀ s₁ mg mb fa o pm cd doc a vs ns G Y ho (fd_plain hd) hcd hmg hobj hints hlen hg) fun r s' hq=>?_)
 obtain ⟨rfl,h2,h3,h4⟩:=hq
 exact ⟨.inl ⟨.bool true,.bool true,[],rfl,fun _=>rfl,.bool true,post_true l _,fun _=>⟨List.Pairwise.nil,fun _ hm=>(nomatch hm)⟩⟩,h2,h3,h4⟩
section
variable {prog:Program} {w:World} {A:Around} {E:Value->Shared->Prop} {s:Shared} {K:Frag}
noncomputable def ledger (h:Heap) (L d:Addr):List (Addr×Obj):=(List.range h.objs.size).filterMap fun a=>if a=L\/a=d then none else (h.get? a).map fun o=>(a,o)
end
end Att
namespace L2
open PySem PySem.Spec PyProof.Rows
theorem vals_ints:∀{vs:List Value} {ns:List Int},IntsAre vs ns->Vals (ns.map V.int) vs
 |_,_,.nil=>.nil
 |_,_,.cons n t h=>.cons ⟨t,rfl⟩ (vals_ints h)
def Only (H:Hp):Prop:=∀b,H b=none\/∃o xs,H b=some (.frz o (.lst xs))
theorem law_call {P:Program} {w:World} {K:Frag} {mg mb:Str->Option Value} {CX:CXT} {k:Nat} {fa a:Addr} {fd:FuncData} {x:Str} {sp:Sp} {s₁:Shared} {vs:List Value} {ns:List Int}
  (KX:K.In s₁.heap) (hns:s₁.heap.Ns mainGlobals mg) (hb:s₁.heap.Ns builtinsNs mb) (hbb:∀x:Str,x≠"__name__"->mb x=bootBuiltins x) (hlim:s₁.heap.NoLimit) (hg:s₁.gens=#[])
  (ha:s₁.heap.get? a=some { cls:=.type "list",data:=.seq vs.toArray }) (hi:IntsAre vs ns) (hl:ns.length<=sizeLine) (hr:Room k callerA)
  (F:∀base:Heap,K.In base->base.Ns mainGlobals mg->FnOk P w K mg base CX k fa fd [x] sp) (hbind:∀(s:Shared) (u:Value),BindsTo s fd ⟨[u],[]⟩ [(x,u)])
  (hsp:∀H:Hp,Only H->SqL K H a (ns.map V.int)->sp [.ref a] H (fun v _=>v=.bl true) fun _ _ _=>False)
  (hCX:∀H e s',CX [] H s₁ (fun _ _ _=>False) e s'->False) :
  codeAny (model P w) callerA (.call (.ref fa) ⟨[.ref a],[]⟩) (fun r s'=>r=.ok (.ret (.bool true))/\OldK s₁.heap s'.heap/\s'.os=s₁.os/\AllBare s'.gens) s₁:=by
 have rv:=vals_ints hi
 have lenV:=hi.length
 have core:∀H:Hp,Only H->SqL K H a (ns.map V.int)->HOk P w H s₁.heap->(∀b,H b≠none->b=a)->(H a≠none->K.lookup a=none) ->
   codeAny (model P w) callerA (.call (.ref fa) ⟨[.ref a],[]⟩) (fun r s'=>r=.ok (.ret (.bool true))/\OldK s₁.heap s'.heap/\s'.os=s₁.os/\AllBare s'.gens) s₁:=by
  intro H hO hS hok hA hK
  have base_of:∀{b:Addr} {o:Obj},s₁.heap.get? b=some o->H b=none->(hidT s₁.heap H).get? b=some o:=fun e n=>hidT_get e n
  have noA:∀{b:Addr} {o:Obj} {es:Array DictEntry} {ep:Nat},s₁.heap.get? b=some o->o.data=.dict es ep->H b=none:=fun {b o es ep} e d=>by
   cases q:H b with
   |none=>rfl
   |some u =>
    have e':b=a:=hA b (by rw [q];simp)
    subst e'
    rw [ha] at e;cases e
    have d':Data.seq vs.toArray _=Data.dict es ep:=d
    cases d'
  have nsK:∀{b:Addr} {m:Str->Option Value},s₁.heap.Ns b m->(hidT s₁.heap H).Ns b m:=fun {b m} ⟨o,es,ep,e,d,r⟩=>⟨o,es,ep,base_of e (noA e d),d,r⟩
  have hKb:K.In (hidT s₁.heap H):=fun b o e=>base_of (KX b o e) (by
   cases q:H b with
   |none=>rfl
   |some u =>
    have e':b=a:=hA b (by rw [q];simp)
    subst e'
    rw [hK (by rw [q];simp)] at e;cases e)
  have hM:Mod K mg (hidT s₁.heap H):=⟨hKb,nsK hns,⟨mb,nsK hb,hbb⟩,let ⟨mc,h1,h2⟩:=hlim;⟨mc,nsK h1,h2⟩⟩
  have e0:Env0 P w K mg (hidT s₁.heap H) callerA [] s₁ H:=⟨rfl,hM,fun b o e=>of_hidT e,Nat.le_of_eq (hidT_size _ _),trivial,fun b hb=>absurd (show b∈([]:List Addr) from hb) (by simp),hok,.of_eq hg⟩
  refine codeAny_mono ((F _ hKb (nsK hns)).run callerA [] s₁ H ⟨[.ref a],[]⟩ [.ref a] [.ref a] _ _ hr e0 (hbind s₁ (.ref a)) (.cons rfl .nil) (hsp H hO hS)) fun r s' h=>?_
  cases r with
  |error e=>exact (hCX H e s' h).elim
  |ok fl =>
   cases fl with
   |next=>exact False.elim h
   |brk=>exact False.elim h
   |cont=>exact False.elim h
   |ret u =>
    obtain ⟨v,H',os,bare,un,hok',r',q⟩:=h
    have q':v=.bl true:=q
    subst q'
    obtain rfl:u=Value.bool true:=r'
    refine ⟨rfl,OldK.of_keep fun b o e=>?_,os,bare⟩
    cases q:H b with
    |none=>exact un.keep b o e q (by intro z;exact absurd (show b∈([]:List Addr) from z) (by simp)) (by simp)
    |some u =>
     rcases hO b with z | ⟨ob,xs,z⟩
     ·rw [q] at z;cases z
     ·have z2:=un.frzs b ob _ z
      obtain ⟨e1,_⟩:=hok b _ z
      obtain ⟨e2,_⟩:=hok' b _ z2
      rw [e] at e1;cases e1
      exact e2
 cases hk:K.lookup a with
 |some o =>
  have e:=KX a o hk
  rw [ha] at e
  cases e
  refine core (fun _=>none) (fun _=>.inl rfl) (.inr ⟨_,vs.toArray,_,hk,rfl,rfl,rfl,by rw [List.size_toArray,lenV];exact hl,by simpa using rv⟩) (fun b u z=>by have z':(none:Option HO)=some u:=z;cases z') (fun b z=>absurd rfl z) fun z=>absurd rfl z
 |none =>
  refine core (fun b=>if b=a then some (.frz { cls:=.type "list",data:=.seq vs.toArray } (.lst (ns.map V.int))) else none) (fun b=>?_) (.inl (.inr ⟨{ cls:=.type "list",data:=.seq vs.toArray },if_pos rfl⟩)) (fun b u z=>?_) (fun b z=>?_) fun _=>hk
  ·by_cases hb:b=a
   ·exact .inr ⟨_,_,if_pos hb⟩
   ·exact .inl (if_neg hb)
  ·by_cases hb:b=a
   ·have z':=(if_pos hb).symm.trans z
    cases z'
    subst hb
    exact ⟨ha,by rw [List.length_map];exact hl,vs,_,rv,ha⟩
   ·have z':=(if_neg hb).symm.trans z
    cases z'
  ·by_cases hb:b=a
   ·exact hb
   ·exact absurd (if_neg hb) z
end L2
namespace L2
open PySem PySem.Spec PyProof.Rows
noncomputable abbrev KOf {K:Frag} {h:Heap} (_:K.In h):Frag:=K
theorem walk_of {l:PySem.W.OpenLaw} {n k:Nat} {q:Program} {loose:List Str} {XP:(Str->Option Value)->Heap->Prop} {YP:World->Heap->Prop} {d:DefRec} {K:Params->Frag} {CX:World->CXT} {sp:World->Sp} {x:Str}
  (hn:l.most=some n) (hn2:n<=sizeLine) (hdf:d.params.defaults=[]) (hr:Room k callerA)
  (hY:∀(w:World) (h:Heap),YP w h->(K w.params).In h)
  (F:∀(w:World) (mg:Str->Option Value) (fa:Addr) (h:Heap),(K w.params).In h->h.Ns mainGlobals mg->mg d.name=some (.ref fa) ->
   ∃fd:FuncData,(∀(s:Shared) (u:Value),BindsTo s fd ⟨[u],[]⟩ [(x,u)]) /\
    ∀base:Heap,(K w.params).In base->base.Ns mainGlobals mg->FnOk l.prog w (K w.params) mg base (CX w) k fa fd [x] (sp w))
  (hsp:∀(w:World) (H:Hp) (a:Addr) (ns:List Int),ns.length<=n->Only H->SqL (K w.params) H a (ns.map V.int)->sp w [.ref a] H (fun v _=>v=.bl true) fun _ _ _=>False)
  (hCX:∀(w:World) (H:Hp) (s:Shared) (e:Value) (s':Shared),CX w [] H s (fun _ _ _=>False) e s'->False) :
  PySem.W.WalkO q loose XP YP l.row.toRowW d [] (fun f vs=>PySem.call f vs):=by
 refine Att.attach_call hn hdf fun w s₀ s₁ mg mb fa o pm cd doc a vs ns G Y ho hd hcd hmg hobj hints hlen hg=>?_
 have KX:=hY w _ Y
 obtain ⟨fd,hb,hF⟩:=F w mg fa _ KX G.T.g hmg
 exact law_call KX G.T.g G.T.b G.T.builtins G.T.nolimit hg hobj hints (Nat.le_trans hlen hn2) hr hF hb (fun H hO hS=>hsp w H a ns hlen hO hS) fun H e s'=>hCX w H s₁ e s'
end L2
namespace L2
open PySem PySem.Spec PyProof.Rows
noncomputable def defArgs (s:Stmt):Arguments:=match s with
 | .FunctionDef _ a _ _ _ _ _ _ _ _=>a
 |_=>{ posonlyargs:=[],args:=[],vararg:=none,kwonlyargs:=[],kw_defaults:=[],kwarg:=none,defaults:=[] }
noncomputable def defBody (s:Stmt):List Stmt:=match s with
 | .FunctionDef _ _ b _ _ _ _ _ _ _=>b
 |_=>[]
noncomputable def defScope (s:Stmt):Scope:=match s with
 | .FunctionDef _ _ _ _ _ _ sc _ _ _=>sc
 |_=>{ kind:=.function,names:=[],isGenerator:=false,isCoroutine:=false }
noncomputable abbrev CX0:CXT:=fun _ _ _ _ _ _=>False
noncomputable abbrev E0:XK:=fun _ _ _=>False
theorem pass0 {X:Cx}:Passes CX0 X E0:=fun _ _ _ _ _ _ _ h=>h.elim
structure Fun (K:Frag) (x qual:Str) (st:Stmt) (f:Addr) (fd:FuncData):Prop where
 ex:∃(oc:Value) (od:Option Addr) (kV doc pm:Value) (an:Option Addr) (cdv ct:Value) (osl:Array (Option Value)),
  fd=PySem.W.fnOf x qual (defArgs st) (defBody st) (defScope st) .none kV doc pm an cdv ct/\K.lookup f=some ⟨oc,od,.func fd,osl⟩/\PySem.W.codeIn K cdv qual=true
 kp:PySem.W.keepIn K (.ref f)=true
section
variable {P:Program} {w:World} {K:Frag} {mg:Str->Option Value} {base:Heap}
theorem Fun.ok {x qual:Str} {st:Stmt} {f:Addr} {fd:FuncData} {N ps:List Str} {k:Nat} {sp:Sp} (F:Fun K x qual st f fd) (S:FnScope N ps (defScope st)) (len:∀vs H Q E,sp vs H Q E->vs.length=ps.length)
  (hbody:∀(cdv:Value) (A:Around) (outer:List Env) (s:Shared) (H:Hp) (vs:List V) (Q:VK) (E:XK),Room k (A.deeper (envOfC qual (defScope st) s.heap.objs.size f cdv))->sp vs H Q E ->
   ∃t,PSs (cxOf CX0 P w K mg base N qual (defScope st) f cdv A outer s H E).nox (defBody st) t/\t { nx:=fun _ H'=>Q .non H',rt:=Q } (start N vs) H):FnOk P w K mg base CX0 (k+1) f fd ps sp:=by
 obtain ⟨oc,od,kV,doc,pm,an,cdv,ct,osl,rfl,lk,hcd⟩:=F.ex
 refine fn_of lk hcd S len fun A outer s H vs Q E hr hsp=>?_
 obtain ⟨t,h,q⟩:=hbody cdv A outer s H vs Q E hr hsp
 exact ⟨t,h.nox,q⟩
theorem Fun.binds {x qual:Str} {st:Stmt} {f:Addr} {fd:FuncData} {ps:List Str} (F:Fun K x qual st f fd)
  (h:∀(kV doc pm:Value) (an:Option Addr) (cdv ct:Value) (us:List Value),us.length=ps.length->bindArgs (PySem.W.fnOf x qual (defArgs st) (defBody st) (defScope st) .none kV doc pm an cdv ct) ⟨us,[]⟩=pure (ps.zip us)):Binds K fd ps []:=by
 obtain ⟨oc,od,kV,doc,pm,an,cdv,ct,osl,rfl,lk,hcd⟩:=F.ex
 exact .all (h kV doc pm an cdv ct)
theorem fun_mk {x qual:Str} {st:Stmt} {f:Addr} {oc:Value} {od an:Option Addr} {osl:Array (Option Value)} {kV doc pm cdv ct:Value} (l:K.lookup f=some ⟨oc,od,.func (PySem.W.fnOf x qual (defArgs st) (defBody st) (defScope st) .none kV doc pm an cdv ct),osl⟩)
  (c:PySem.W.codeIn K cdv qual=true) (k:PySem.W.keepIn K (.ref f)=true):Fun K x qual st f (PySem.W.fnOf x qual (defArgs st) (defBody st) (defScope st) .none kV doc pm an cdv ct):=⟨⟨oc,od,kV,doc,pm,an,cdv,ct,osl,rfl,l,c⟩,k⟩
end
section
variable {X:Cx}
end
def Same (H H':Hp):Prop:=∀b o,H b=some o->H' b=some o
theorem Same.refl (H:Hp):Same H H:=fun _ _ h=>h
end L2
namespace L2
open PySem PySem.Spec PyProof.Rows
theorem comp_turns {P:Program} {w:World} {A:Around} {R:Result->Shared->Prop} {s:Shared} {el tg src:Expr} {tests:List Expr} {sc:Scope} {ps:Pos} {itv av:Value} {ce:Env} (J:Nat->Shared->Prop)
  (turn:∀n s,J n s->wpAny (model P w) A (pyNext itv) (fun r s1=>match r with
   |none=>R (.ok .next) s1
   |some v=>wpAny (model P w) A (letOwnedTupleGo tg itv v) (fun _ s2=>wpAny (model P w) A (assign tg ce v) (fun _ s3 =>
     wpAny (model P w) A (forIn tests true fun c r=>if r=true then do let ok <- isTrue c ce (eval c ce);pure (ForInStep.yield ok) else pure (ForInStep.yield r)) (fun ok s4 =>
      if ok=true then wpAny (model P w) A (eval el ce) (fun y s5=>wpAny (model P w) A (call (.builtin "list.append") [av,y]) (fun _ s6=>∃m,m<n/\J m s6) (fun _ _=>False) s5) (fun _ _=>False) s4
      else ∃m,m<n/\J m s4) (fun _ _=>False) s3) (fun _ _=>False) s2) (fun _ _=>False) s1) (fun _ _=>False) s)
  (n:Nat) (h:J n s):codeAny (model P w) A (.compLoop (.ListComp el [⟨tg,src,tests,0⟩] sc ps) 0 itv av ce) R s:=by
 refine codeAny_loop rfl J (fun n s hJ=>?_) n h
 show wpAny _ A ((compTurn (.ListComp el [⟨tg,src,tests,0⟩] sc ps) 0 itv av ce).onRaise (fun x=>do noteFrame x ce;theTreesLotGoes x)) _ _ s
 refine wpAny_noted ?_
 rw [compTurn_list]
 refine wpAny_bind (wpAny_standAt (wpAny_bind (wpAny_mono (turn n s hJ) (fun r s1 h1=>?_) fun _ _ z=>z.elim)))
 cases r with
 |none=>exact wpAny_pure h1
 |some v =>
  refine wpAny_bind (wpAny_mono h1 (fun _ s2 h2=>?_) fun _ _ z=>z.elim)
  refine wpAny_bind (wpAny_mono h2 (fun _ s3 h3=>wpAny_bind (wpAny_mono h3 (fun ok s4 h4=>?_) fun _ _ z=>z.elim)) fun _ _ z=>z.elim)
  cases ok with
  |false=>exact wpAny_pure ⟨rfl,h4⟩
  |true =>
   exact wpAny_bind (wpAny_bind (wpAny_mono h4 (fun y s5 h5=>wpAny_bind (wpAny_mono h5 (fun _ s6 h6=>wpAny_pure (wpAny_pure ⟨rfl,h6⟩)) fun _ _ z=>z.elim)) fun _ _ z=>z.elim))
theorem clo_step (env:Env):∀(l:List (Str×NameKind)) (acc:List (Str×Addr)),(∀n,(n,NameKind.free)∈l->∃c,env.cells.lookup n=some c) ->
  ∃cl,(forIn l acc (fun (p:Str×NameKind) (cs:List (Str×Addr))=>(do
   if (p.2==NameKind.free)=true then do let c <- cellOf env p.1;pure (ForInStep.yield ((p.1,c)::cs)) else pure (ForInStep.yield cs):Sem (ForInStep (List (Str×Addr))))))=pure cl /\
   ∀n c,cl.lookup n=some c↔(((n,NameKind.free)∈l/\env.cells.lookup n=some c)\/((n,NameKind.free)∉l/\acc.lookup n=some c))
 | [],acc,_=>⟨acc,rfl,fun n c=>by simp⟩
 |(x,k)::r,acc,h=>by
  rw [List.forIn_cons]
  cases hk:(k==NameKind.free) with
  |false =>
   have hne:k≠.free:=by intro e;rw [e] at hk;cases hk
   obtain ⟨cl,e,q⟩:=clo_step env r acc fun n hn=>h n (List.mem_cons_of_mem _ hn)
   refine ⟨cl,?_,fun n c=>?_⟩
   ·simp only [Bool.false_eq_true,if_false]
    exact e
   ·rw [q n c]
    have:(n,NameKind.free)∈(x,k)::r↔(n,NameKind.free)∈r:=by
     constructor
     ·intro hm
      rcases List.mem_cons.mp hm with z|z
      ·injection z with _ z2
       exact absurd z2.symm hne
      ·exact z
     ·exact List.mem_cons_of_mem _
    rw [this]
  |true =>
   have he:k=.free:=by cases k<;>first|rfl|cases hk
   subst he
   obtain ⟨c0,hc0⟩:=h x List.mem_cons_self
   obtain ⟨cl,e,q⟩:=clo_step env r ((x,c0)::acc) fun n hn=>h n (List.mem_cons_of_mem _ hn)
   refine ⟨cl,?_,fun n c=>?_⟩
   ·simp only [if_true,cellOf,hc0]
    exact e
   ·rw [q n c]
    by_cases hx:n=x
    ·subst hx
     constructor
     ·rintro (⟨_,z⟩ | ⟨_,z⟩)
      ·exact .inl ⟨List.mem_cons_self,z⟩
      ·rw [List.lookup_cons,beq_self_eq_true] at z
       exact .inl ⟨List.mem_cons_self,hc0.trans z⟩
     ·rintro (⟨_,z⟩ | ⟨z,_⟩)
      ·by_cases hm:(n,NameKind.free)∈r
       ·exact .inl ⟨hm,z⟩
       ·refine .inr ⟨hm,?_⟩
        rw [List.lookup_cons,beq_self_eq_true]
        exact hc0.symm.trans z
      ·exact absurd List.mem_cons_self z
    ·have:(n,NameKind.free)∈(x,NameKind.free)::r↔(n,NameKind.free)∈r:=by
      constructor
      ·intro hm
       rcases List.mem_cons.mp hm with z|z
       ·injection z with z1 _
        exact absurd z1 hx
       ·exact z
      ·exact List.mem_cons_of_mem _
     rw [this,List.lookup_cons,beq_false_of_ne hx]
theorem clo_of {env:Env} {sc:Scope} (h:∀n,(n,NameKind.free)∈sc.names->∃c,env.cells.lookup n=some c) :
  ∃cl,closureFor sc env=pure cl/\∀n c,cl.lookup n=some c↔((n,NameKind.free)∈sc.names/\env.cells.lookup n=some c):=by
 obtain ⟨cl,e,q⟩:=clo_step env sc.names [] h
 refine ⟨cl,?_,fun n c=>?_⟩
 ·unfold closureFor
  exact (congrArg (fun z:Sem (List (Str×Addr))=>z >>= fun r=>pure r) e)
 ·rw [q n c]
  simp
theorem look_map (f:Str->NameKind->NameKind) (x:Str):∀l:List (Str×NameKind),(l.map fun p=>(p.1,f p.1 p.2)).lookup x=(l.lookup x).map (f x)
 | []=>rfl
 |(n,k)::r=>by
  rw [List.map_cons,List.lookup_cons,List.lookup_cons]
  cases h:x==n with
  |true =>
   have e:x=n:=by simpa using h
   subst e
   rfl
  |false=>exact look_map f x r
theorem look_relabel (sc:Scope) (env:Env) (x:Str):(relabel sc env).names.lookup x=(sc.names.lookup x).map fun k=>if (k==NameKind.free&&env.scope.kind==.function&&env.kindOf x==some .cell)=true then NameKind.cell else k:=by
 rw [<- look_map (fun x k=>if (k==NameKind.free&&env.scope.kind==.function&&env.kindOf x==some .cell)=true then NameKind.cell else k)]
 show List.lookup x (sc.names.map _)=_
 congr 1
 apply List.map_congr_left
 rintro ⟨n,k⟩ _
 dsimp only
 split<;>rfl
noncomputable abbrev cxC (X:Cx) (N:List Str) (sc:Scope) (cl:List (Str×Addr)) (C:Addr) (s:Shared) (H:Hp) (ex:List Addr) (pn:List (Addr×Obj)):Cx where
 prog:=X.prog
 w:=X.w
 K:=X.K
 mg:=X.mg
 base:=X.base
 A:=X.A
 N:=N
 s₀:=s
 H₀:=H
 env:=compEnvC sc cl C X.env
 outer:=X.stack
 stack:=X.stack
 ex:=ex
 fn:=fun _=>false
 calm:=X.calm
 pn:=pn
 xe:=fun _ _=>False
structure CScope (X:Cx) (sc:Scope) (N:List Str) (nt:Nat) (cap:List Nat):Prop where
 kind:sc.kind=.function
 nocell:∀x∈sc.names,x.2≠.cell
 names:∀x∈sc.names,x.2=.local->sc.names.lookup x.1=some .local
 frees:∀x∈sc.names,x.2=.free->sc.names.lookup x.1=some .free/\(X.env.scope.names.lookup x.1=some .cell\/X.env.scope.names.lookup x.1=some .free)
 len:N.length=nt+cap.length
 capN:∀(k:Nat) j,cap[k]?=some j->∃x,X.N[j]?=some x/\N[nt+k]?=some x/\(x,NameKind.free)∈sc.names
noncomputable def startC (nt:Nat) (cap:List Nat) (σ:St):St:=List.replicate nt none++cap.map fun j=>(σ[j]?).getD none
def PF (X:Cx) (tests:List Expr) (t:TT):Prop :=
 ∀(pins:List (Addr×Obj)) (s:Shared) (σ:St) (H:Hp) (Q:Bool->Hp->Prop),Inv X pins σ H s->t σ H Q ->
  wpAny (model X.prog X.w) X.A (forIn tests true fun c r=>if r=true then do let ok <- isTrue c X.env (eval c X.env);pure (ForInStep.yield ok) else pure (ForInStep.yield r)) (TP X pins σ Q) X.xe s
noncomputable def tYes:TT:=fun _ H Q=>Q true H
theorem pf_nil {X:Cx}:PF X [] tYes:=fun _ _ _ H _ I h=>wpAny_tests_nil ⟨H,I,h⟩
theorem pf_one {X:Cx} {c:Expr} {t:TT} (h:PT X c t):PF X [c] t:=fun pins s σ H Q I hw=>wpAny_tests_one (h pins s σ H Q I hw)
def GOk (g:TG) (nt:Nat):Prop:=∀(x:V) (o caps:St) (H:Hp) (R:St->Hp->Prop),o.length=nt->g x (o++caps) H R->g x (o++caps) H fun τ H2=>(∃o2:St,o2.length=nt/\τ=o2++caps)/\R τ H2
noncomputable def capsC (cap:List Nat) (σ:St):St:=cap.map fun j=>(σ[j]?).getD none
def CW (J:It) (nt:Nat) (caps:St) (g:TG) (tf:TT) (te:TE) (H:Hp) (Q:VK):Prop:=∃W:Nat->Nat->List V->Hp->Prop,(∃m,W 0 m [] H) /\
 ∀i m acc H2,W i m acc H2->(J.stop i H2/\acc.length<=sizeLine/\∀D,H2 D=none->Q (.ref D) (upd H2 D (.lst acc))) \/
  (J.go i H2/\acc.length<=sizeLine/\∃N:List V->Hp->Prop,(∀acc' H',N acc' H'->∃m',m' < m/\W (i+1) m' acc' H') /\
   ∀o x H3,o.length=nt->J.yld i H2 x H3->g x (o++caps) H3 fun τ2 H4=>tf τ2 H4 fun b H5=>if b=true then te τ2 H5 fun v H6=>N (acc++[v]) H6 else N acc H5)
noncomputable def tComp (wi:TI) (nt:Nat) (cap:List Nat) (g:TG) (tf:TT) (te:TE):TE:=fun σ H Q=>wi σ H fun J H1=>CW J nt (capsC cap σ) g tf te H1 Q
section
variable {fs ex:List Addr} {H H':Hp} {h h1 h2:Heap} {P:Program} {w:World}
theorem Un.adopt {D:Addr} {o:HO} (u:Un fs ex H H' h h1) (hp:h.objs.size<=D) (hn:H' D=none):Un fs ex H (upd H' D o) h h1 where
 keep:=u.keep
 slot:=u.slot
 free:=fun b ob q n hx=>by rw [upd_ne (Nat.ne_of_lt (Nat.lt_of_lt_of_le (Heap.lt_size q) hp))];exact u.free b ob q n hx
 there:=u.there
 tups:=fun b xs q=>by rw [upd_ne (ne_of_none (u.tups b xs q) hn)];exact u.tups b xs q
 frzs:=fun b ob xs q=>by rw [upd_ne (ne_of_none (u.frzs b ob xs q) hn)];exact u.frzs b ob xs q
 tbls:=fun b ps q=>by
  obtain ⟨more,e⟩:=u.tbls b ps q
  exact ⟨more,by rw [upd_ne (ne_of_none e hn)];exact e⟩
theorem Un.but {C:Addr} (u:Un fs ex H H' h h1) (hp:h.objs.size<=C) (sb:Heap.SameBut C h1 h2):Un fs ex H H' h h2:=by
 have ne:∀b ob,h.get? b=some ob->b≠C:=fun b ob q=>Nat.ne_of_lt (Nat.lt_of_lt_of_le (Heap.lt_size q) hp)
 refine ⟨fun b ob q n hb hx=>(sb.2 b (ne b ob q)).trans (u.keep b ob q n hb hx),fun b ob q n hb hx=>?_,u.free,fun b ob q hx=>?_,u.tups,u.frzs,u.tbls⟩
 ·obtain ⟨sl,e⟩:=u.slot b ob q n hb hx
  exact ⟨sl,(sb.2 b (ne b ob q)).trans e⟩
 ·obtain ⟨o',e⟩:=u.there b ob q hx
  exact ⟨o',(sb.2 b (ne b ob q)).trans e⟩
theorem HOk.but {C:Addr} (x:HOk P w H h1) (hn:H C=none) (sb:Heap.SameBut C h1 h2):HOk P w H h2:=fun a o e =>
 (x a o e).stay (fun b u hb q=>(sb.2 b (by
  rintro rfl
  rcases hb with z|z
  ·subst z;rw [hn] at e;cases e
  ·rw [hn] at z;cases z)).trans q) (fun _ q=>q) fun _ _ q=>q
theorem HOk.adopt {D:Addr} {o:HO} (x:HOk P w H h) (hn:H D=none) (new:ObjOk P w (upd H D o) h D o):HOk P w (upd H D o) h:=fun b u e=>by
 by_cases hb:b=D
 ·subst hb;rw [upd_same] at e;cases e;exact new
 ·rw [upd_ne hb] at e
  exact (x b u e).stay (fun c v _ q=>q) (fun c q=>by rw [upd_ne (ne_of_none q hn)];exact q) fun c xs q=>by rw [upd_ne (ne_of_none q hn)];exact q
end
section
variable {X:Cx} {sc:Scope} {N:List Str} {nt:Nat} {cap:List Nat} {cl:List (Str×Addr)} {s:Shared} {h1:Heap} {H:Hp} {σ:St} {pins:List (Addr×Obj)} {fp:List Addr} {C:Addr} {t':Nat}
theorem Inv.block (I:Inv X pins σ H s) (S:CScope X sc N nt cap) (hcl:∀n c,cl.lookup n=some c↔((n,NameKind.free)∈sc.names/\X.env.cells.lookup n=some c)) (hf:∀b∈fp,FpOk X pins H b) (hfs:∀b∈fp,b<s.heap.objs.size)
  (hk:∀b o,s.heap.get? b=some o->h1.get? b=some o) (hC:s.heap.objs.size<=C) (hns:∃m,h1.Ns C m):Inv (cxC X N sc cl C s H fp (X.pn++pins)) [] (startC nt cap σ) H { s with heap:=h1,toks:=t' }:=by
 have hfsub:∀b∈frs X.stack,b∈X.env.locals::X.fs:=I.stkSub
 have hCs:C∉frs X.stack:=fun z=>by
  rcases List.mem_cons.mp (I.stkSub C z) with e|e
  ·exact absurd (Nat.lt_of_lt_of_le I.lt hC) (by rw [e];exact Nat.lt_irrefl _)
  ·exact I.nofs hC e
 have kindC:∀x,(relabel sc X.env).names.lookup x=some .cell\/(relabel sc X.env).names.lookup x=some .free->(x,NameKind.free)∈sc.names:=fun x hx=>by
  rw [look_relabel] at hx
  cases e:sc.names.lookup x with
  |none=>rw [e] at hx;rcases hx with z|z<;>cases z
  |some k =>
   have hm:(x,k)∈sc.names:=by
    obtain ⟨l1,l2,e1,_⟩:=List.lookup_eq_some_iff.mp e
    rw [e1]
    simp
   rw [e] at hx
   cases k with
   |free=>exact hm
   |cell=>exact absurd rfl (S.nocell _ hm)
   |_=>exfalso;revert hx;simp
 have hasCell:∀x,(x,NameKind.free)∈sc.names->∃c,X.env.cells.lookup x=some c:=fun x hx=>I.ok.has x (S.frees _ hx rfl).2
 have ok:Cx.Ok (cxC X N sc cl C s H fp (X.pn++pins)):=by
  refine ⟨I.ok.mod,?_,I.ok.glob,I.ok.blt,hC,?_,?_,?_,I.ok.hd,I.ok.frames,.inl rfl,?_,I.bs,Nat.le_trans I.ok.bsz I.sz,?_,?_,I.stack,I.stkFree⟩
  ·exact S.kind
  ·intro x y c hx hy
   exact I.ok.inj x y c ((hcl x c).mp hx).2 ((hcl y c).mp hy).2
  ·intro x hx
   have hm:=kindC x hx
   obtain ⟨c,e⟩:=hasCell x hm
   exact ⟨c,(hcl x c).mpr ⟨hm,e⟩⟩
  ·intro x c hx
   cases hx
  ·intro b hb
   refine ⟨Nat.ne_of_lt (Nat.lt_of_lt_of_le (hfs b hb) hC),fun x c e=>?_⟩
   exact (hf b hb).2.2.2.2.1 x c ((hcl x c).mp e).2
  ·intro b o e hb
   rcases (hf b hb).2.2.2.1 with z|z
   ·exact I.ok.noex b o e z
   ·exact absurd (Nat.lt_of_lt_of_le (Heap.lt_size e) (Nat.le_trans I.ok.bsz z)) (Nat.lt_irrefl _)
  ·intro b hb z
   rcases List.mem_cons.mp (hfsub b z) with e|e
   ·exact (hf b hb).2.1 e
   ·exact (hf b hb).2.2.1 e
 obtain ⟨m,hm⟩:=hns
 obtain ⟨mX,hnX,hlX⟩:=I.loc
 refine ⟨ok,rfl,I.bare,Un.kept hk,⟨m,hm,fun i x v e1 e2 e3=>?_⟩,fun x c e=>?_,I.hok.fresh hC,fun x c e=>I.freeC x c ((hcl x c).mp e).2,fun p hp=>?_,I.hok.kept hk,?_⟩
 ·
  have hi:nt<=i:=by
   apply Nat.le_of_not_lt
   intro hlt
   have:(startC nt cap σ)[i]?=some none:=by
    unfold startC
    rw [List.getElem?_append_left (by simpa using hlt),List.getElem?_replicate,if_pos hlt]
   rw [this] at e2
   cases e2
  have e2':(cap.map fun j=>(σ[j]?).getD none)[i-nt]?=some (some v):=by
   have e:=e2
   unfold startC at e
   rw [List.getElem?_append_right (by simpa using hi)] at e
   simpa using e
  rw [List.getElem?_map] at e2'
  cases ej:cap[i-nt]? with
  |none=>rw [ej] at e2';cases e2'
  |some j =>
   rw [ej] at e2'
   have ev:(σ[j]?).getD none=some v:=Option.some.inj e2'
   have ev':σ[j]?=some (some v):=by
    cases q:σ[j]? with
    |none=>rw [q] at ev;cases ev
    |some z=>rw [q] at ev;exact congrArg some ev
   obtain ⟨y,f1,f2,f3⟩:=S.capN _ _ ej
   rw [Nat.add_sub_cancel' hi] at f2
   have exy:y=x:=Option.some.inj (f2.symm.trans e1)
   subst exy
   obtain ⟨g1,g2⟩:=S.frees _ f3 rfl
   have vis:Vis X.env.scope y:=.inr g2
   obtain ⟨u,r,l⟩:=hlX j y v f1 ev' vis
   refine ⟨u,r,.inr ⟨?_,?_⟩⟩
   ·show (relabel sc X.env).names.lookup y=some .cell\/(relabel sc X.env).names.lookup y=some .free
    rw [look_relabel,g1]
    simp only [Option.map_some]
    split
    ·exact .inl rfl
    ·exact .inr rfl
   ·rcases l with ⟨k,_⟩ | ⟨_,c,hc,hcell⟩
    ·exfalso
     have k':X.env.scope.names.lookup y=some .local:=k
     dsimp only at g2
     rw [k'] at g2
     rcases g2 with z|z<;>cases z
    ·obtain ⟨oc,ho,hd⟩:=hcell
     exact ⟨c,(hcl y c).mpr ⟨f3,hc⟩,oc,hk _ _ ho,hd⟩
 ·obtain ⟨v,oc,ho,hd⟩:=I.cell x c ((hcl x c).mp e).2
  exact ⟨v,oc,hk _ _ ho,hd⟩
 ·have hp':p∈X.pn++pins:=by simpa using hp
  obtain ⟨e,n,ne,nf,d⟩:=I.pin p hp'
  refine ⟨hk _ _ e,n,Nat.ne_of_lt (Nat.lt_of_lt_of_le (Heap.lt_size e) hC),fun z=>?_,d⟩
  rcases List.mem_cons.mp (hfsub p.1 z) with q|q
  ·exact ne q
  ·exact nf q
 ·unfold startC
  rw [List.length_append,List.length_replicate,List.length_map]
  exact S.len.symm
end
section
variable {X:Cx}
end
end L2
namespace L2
open PySem PySem.Spec PyProof.Rows
inductive Kn where
 |non|bl|int|str|tup|lst|dct
 deriving DecidableEq
noncomputable def KdV (K:Frag) (H:Hp):V->Kn->Prop
 | .non,.non=>True
 | .bl _,.bl=>True
 | .int _,.int=>True
 | .str _,.str=>True
 | .ref a,.tup=>∃xs,SqT K H a xs
 | .ref a,.lst=>∃xs,SqL K H a xs
 | .ref a,.dct=>∃kvs,H a=some (.dK kvs)
 |_,_=>False
noncomputable def isiK:Kn->String->Bool
 | .int,"int"=>true
 | .bl,"int"=>true
 | .bl,"bool"=>true
 | .str,"str"=>true
 | .tup,"tuple"=>true
 | .lst,"list"=>true
 |_,_=>false
section
variable {X:Cx}
theorem Inv.tupObj {pins:List (Addr×Obj)} {σ:St} {H:Hp} {s:Shared} {a:Addr} {xs:List V} (I:Inv X pins σ H s) (h:SqT X.K H a xs):∃o,s.heap.get? a=some o/\o.cls=.type "tuple":=by
 obtain ⟨its,r,⟨o,e,c,_⟩,_⟩:=I.tuple h
 exact ⟨o,e,c⟩
theorem Inv.lstObj {pins:List (Addr×Obj)} {σ:St} {H:Hp} {s:Shared} {a:Addr} {xs:List V} (I:Inv X pins σ H s) (h:SqL X.K H a xs):∃o,s.heap.get? a=some o/\o.cls=.type "list":=by
 obtain ⟨its,r,⟨o,n,e,c,_⟩,_⟩:=I.list h
 exact ⟨o,e,c⟩
theorem Inv.dctObj {pins:List (Addr×Obj)} {σ:St} {H:Hp} {s:Shared} {a:Addr} {kvs:List (Key×V)} (I:Inv X pins σ H s) (h:H a=some (.dK kvs)):∃o,s.heap.get? a=some o/\o.cls=.type "dict":=by
 obtain ⟨_,_,vs,_,p⟩:=(show ObjOk X.prog X.w H s.heap a (.dK kvs) from I.hok a _ h)
 obtain ⟨o,es,ep,h1,h2,_⟩:=p
 exact ⟨o,h1,h2.1⟩
theorem call_isi_int:CallR X (.builtin "isinstance") (fun xs H Q=>∃x k,xs=[x,.ty "int"]/\KdV X.K H x k/\Q (.bl (isiK k "int")) H):=by
 intro pins s σ H xs us Q I r h
 obtain ⟨x,k,rfl,hk,q⟩:=h
 obtain ⟨u,c,rfl,ru,rc⟩:=vals2 r
 cases rc
 cases k with
 |non =>
  cases x with
  |non =>
   cases ru
   exact IsiPair.NoneType_int ⟨.bl false,H,I.tok _,rfl,q⟩
  |_=>exact hk.elim
 |bl =>
  cases x with
  |bl b =>
   cases ru
   exact IsiPair.bool_int ⟨.bl true,H,I,rfl,q⟩
  |_=>exact hk.elim
 |int =>
  cases x with
  |int i =>
   obtain ⟨t,rfl⟩:=ru
   exact IsiPair.int_int ⟨.bl true,H,I,rfl,q⟩
  |_=>exact hk.elim
 |str =>
  cases x with
  |str y =>
   obtain ⟨t,rfl⟩:=ru
   exact IsiPair.str_int ⟨.bl false,H,I.tok _,rfl,q⟩
  |_=>exact hk.elim
 |tup =>
  cases x with
  |ref a =>
   cases ru
   obtain ⟨z,hz⟩:=hk
   obtain ⟨o,ho,hc⟩:=I.tupObj hz
   exact IsiPair.tuple_int ho hc ⟨.bl false,H,I.tok _,rfl,q⟩
  |_=>exact hk.elim
 |lst =>
  cases x with
  |ref a =>
   cases ru
   obtain ⟨z,hz⟩:=hk
   obtain ⟨o,ho,hc⟩:=I.lstObj hz
   exact IsiPair.list_int ho hc ⟨.bl false,H,I.tok _,rfl,q⟩
  |_=>exact hk.elim
 |dct =>
  cases x with
  |ref a =>
   cases ru
   obtain ⟨z,hz⟩:=hk
   obtain ⟨o,ho,hc⟩:=I.dctObj hz
   exact IsiPair.dict_int ho hc ⟨.bl false,H,I.tok _,rfl,q⟩
  |_=>exact hk.elim
theorem call_isi_bool:CallR X (.builtin "isinstance") (fun xs H Q=>∃x k,xs=[x,.ty "bool"]/\KdV X.K H x k/\Q (.bl (isiK k "bool")) H):=by
 intro pins s σ H xs us Q I r h
 obtain ⟨x,k,rfl,hk,q⟩:=h
 obtain ⟨u,c,rfl,ru,rc⟩:=vals2 r
 cases rc
 cases k with
 |non =>
  cases x with
  |non =>
   cases ru
   exact IsiPair.NoneType_bool ⟨.bl false,H,I.tok _,rfl,q⟩
  |_=>exact hk.elim
 |bl =>
  cases x with
  |bl b =>
   cases ru
   exact IsiPair.bool_bool ⟨.bl true,H,I,rfl,q⟩
  |_=>exact hk.elim
 |int =>
  cases x with
  |int i =>
   obtain ⟨t,rfl⟩:=ru
   exact IsiPair.int_bool ⟨.bl false,H,I.tok _,rfl,q⟩
  |_=>exact hk.elim
 |str =>
  cases x with
  |str y =>
   obtain ⟨t,rfl⟩:=ru
   exact IsiPair.str_bool ⟨.bl false,H,I.tok _,rfl,q⟩
  |_=>exact hk.elim
 |tup =>
  cases x with
  |ref a =>
   cases ru
   obtain ⟨z,hz⟩:=hk
   obtain ⟨o,ho,hc⟩:=I.tupObj hz
   exact IsiPair.tuple_bool ho hc ⟨.bl false,H,I.tok _,rfl,q⟩
  |_=>exact hk.elim
 |lst =>
  cases x with
  |ref a =>
   cases ru
   obtain ⟨z,hz⟩:=hk
   obtain ⟨o,ho,hc⟩:=I.lstObj hz
   exact IsiPair.list_bool ho hc ⟨.bl false,H,I.tok _,rfl,q⟩
  |_=>exact hk.elim
 |dct =>
  cases x with
  |ref a =>
   cases ru
   obtain ⟨z,hz⟩:=hk
   obtain ⟨o,ho,hc⟩:=I.dctObj hz
   exact IsiPair.dict_bool ho hc ⟨.bl false,H,I.tok _,rfl,q⟩
  |_=>exact hk.elim
theorem call_isi_str:CallR X (.builtin "isinstance") (fun xs H Q=>∃x k,xs=[x,.ty "str"]/\KdV X.K H x k/\Q (.bl (isiK k "str")) H):=by
 intro pins s σ H xs us Q I r h
 obtain ⟨x,k,rfl,hk,q⟩:=h
 obtain ⟨u,c,rfl,ru,rc⟩:=vals2 r
 cases rc
 cases k with
 |non =>
  cases x with
  |non =>
   cases ru
   exact IsiPair.NoneType_str ⟨.bl false,H,I.tok _,rfl,q⟩
  |_=>exact hk.elim
 |bl =>
  cases x with
  |bl b =>
   cases ru
   exact IsiPair.bool_str ⟨.bl false,H,I.tok _,rfl,q⟩
  |_=>exact hk.elim
 |int =>
  cases x with
  |int i =>
   obtain ⟨t,rfl⟩:=ru
   exact IsiPair.int_str ⟨.bl false,H,I.tok _,rfl,q⟩
  |_=>exact hk.elim
 |str =>
  cases x with
  |str y =>
   obtain ⟨t,rfl⟩:=ru
   exact IsiPair.str_str ⟨.bl true,H,I,rfl,q⟩
  |_=>exact hk.elim
 |tup =>
  cases x with
  |ref a =>
   cases ru
   obtain ⟨z,hz⟩:=hk
   obtain ⟨o,ho,hc⟩:=I.tupObj hz
   exact IsiPair.tuple_str ho hc ⟨.bl false,H,I.tok _,rfl,q⟩
  |_=>exact hk.elim
 |lst =>
  cases x with
  |ref a =>
   cases ru
   obtain ⟨z,hz⟩:=hk
   obtain ⟨o,ho,hc⟩:=I.lstObj hz
   exact IsiPair.list_str ho hc ⟨.bl false,H,I.tok _,rfl,q⟩
  |_=>exact hk.elim
 |dct =>
  cases x with
  |ref a =>
   cases ru
   obtain ⟨z,hz⟩:=hk
   obtain ⟨o,ho,hc⟩:=I.dctObj hz
   exact IsiPair.dict_str ho hc ⟨.bl false,H,I.tok _,rfl,q⟩
  |_=>exact hk.elim
theorem call_isi_tuple:CallR X (.builtin "isinstance") (fun xs H Q=>∃x k,xs=[x,.ty "tuple"]/\KdV X.K H x k/\Q (.bl (isiK k "tuple")) H):=by
 intro pins s σ H xs us Q I r h
 obtain ⟨x,k,rfl,hk,q⟩:=h
 obtain ⟨u,c,rfl,ru,rc⟩:=vals2 r
 cases rc
 cases k with
 |non =>
  cases x with
  |non =>
   cases ru
   exact IsiPair.NoneType_tuple ⟨.bl false,H,I.tok _,rfl,q⟩
  |_=>exact hk.elim
 |bl =>
  cases x with
  |bl b =>
   cases ru
   exact IsiPair.bool_tuple ⟨.bl false,H,I.tok _,rfl,q⟩
  |_=>exact hk.elim
 |int =>
  cases x with
  |int i =>
   obtain ⟨t,rfl⟩:=ru
   exact IsiPair.int_tuple ⟨.bl false,H,I.tok _,rfl,q⟩
  |_=>exact hk.elim
 |str =>
  cases x with
  |str y =>
   obtain ⟨t,rfl⟩:=ru
   exact IsiPair.str_tuple ⟨.bl false,H,I.tok _,rfl,q⟩
  |_=>exact hk.elim
 |tup =>
  cases x with
  |ref a =>
   cases ru
   obtain ⟨z,hz⟩:=hk
   obtain ⟨o,ho,hc⟩:=I.tupObj hz
   exact IsiPair.tuple_tuple ho hc ⟨.bl true,H,I,rfl,q⟩
  |_=>exact hk.elim
 |lst =>
  cases x with
  |ref a =>
   cases ru
   obtain ⟨z,hz⟩:=hk
   obtain ⟨o,ho,hc⟩:=I.lstObj hz
   exact IsiPair.list_tuple ho hc ⟨.bl false,H,I.tok _,rfl,q⟩
  |_=>exact hk.elim
 |dct =>
  cases x with
  |ref a =>
   cases ru
   obtain ⟨z,hz⟩:=hk
   obtain ⟨o,ho,hc⟩:=I.dctObj hz
   exact IsiPair.dict_tuple ho hc ⟨.bl false,H,I.tok _,rfl,q⟩
  |_=>exact hk.elim
theorem call_isi_list:CallR X (.builtin "isinstance") (fun xs H Q=>∃x k,xs=[x,.ty "list"]/\KdV X.K H x k/\Q (.bl (isiK k "list")) H):=by
 intro pins s σ H xs us Q I r h
 obtain ⟨x,k,rfl,hk,q⟩:=h
 obtain ⟨u,c,rfl,ru,rc⟩:=vals2 r
 cases rc
 cases k with
 |non =>
  cases x with
  |non =>
   cases ru
   exact IsiPair.NoneType_list ⟨.bl false,H,I.tok _,rfl,q⟩
  |_=>exact hk.elim
 |bl =>
  cases x with
  |bl b =>
   cases ru
   exact IsiPair.bool_list ⟨.bl false,H,I.tok _,rfl,q⟩
  |_=>exact hk.elim
 |int =>
  cases x with
  |int i =>
   obtain ⟨t,rfl⟩:=ru
   exact IsiPair.int_list ⟨.bl false,H,I.tok _,rfl,q⟩
  |_=>exact hk.elim
 |str =>
  cases x with
  |str y =>
   obtain ⟨t,rfl⟩:=ru
   exact IsiPair.str_list ⟨.bl false,H,I.tok _,rfl,q⟩
  |_=>exact hk.elim
 |tup =>
  cases x with
  |ref a =>
   cases ru
   obtain ⟨z,hz⟩:=hk
   obtain ⟨o,ho,hc⟩:=I.tupObj hz
   exact IsiPair.tuple_list ho hc ⟨.bl false,H,I.tok _,rfl,q⟩
  |_=>exact hk.elim
 |lst =>
  cases x with
  |ref a =>
   cases ru
   obtain ⟨z,hz⟩:=hk
   obtain ⟨o,ho,hc⟩:=I.lstObj hz
   exact IsiPair.list_list ho hc ⟨.bl true,H,I,rfl,q⟩
  |_=>exact hk.elim
 |dct =>
  cases x with
  |ref a =>
   cases ru
   obtain ⟨z,hz⟩:=hk
   obtain ⟨o,ho,hc⟩:=I.dctObj hz
   exact IsiPair.dict_list ho hc ⟨.bl false,H,I.tok _,rfl,q⟩
  |_=>exact hk.elim
end
end L2
namespace L2
open PySem PySem.Spec PyProof.Rows
noncomputable def TyTup (p:Addr) (Ts:List String):Heap->Prop:=fun h=>h.get? p=some { cls:=.type "tuple",data:=.seq (Ts.map Value.type).toArray }
theorem vals_ty:∀{Ts:List String} {us:List Value},Vals (Ts.map V.ty) us->us=Ts.map Value.type
 | [],_,.nil=>rfl
 |_::r,_,.cons h t=>by
  cases h
  rw [vals_ty t]
  rfl
noncomputable def tTyTup (t:TA):TE:=fun σ H Q=>t σ H fun xs H1=>∃Ts:List String,xs=Ts.map V.ty/\xs.length<=sizeLine/\∀p,H1 p=none->Q (.ref p) (upd H1 p (.ext (TyTup p Ts)))
section
variable {X:Cx} {es:List Expr} {t:TA} {pos:Pos}
theorem pe_tytup {x1} (h:PA X es t):PE X (.Tuple es x1 pos) (tTyTup t):=by
 intro pins s σ H Q I hq
 refine wpAny_Tuple_spliced (thn (h pos pins s σ H _ I hq) fun us s1 ⟨xs,H1,I1,r,Ts,e,z,q⟩=>⟨by rw [<- r.length];exact z,?_⟩)
 subst e
 have eu:=vals_ty r
 subst eu
 have hf:H1 s1.heap.objs.size=none:=I1.hok.fresh (Nat.le_refl _)
 refine ⟨.ref s1.heap.objs.size,upd H1 s1.heap.objs.size (.ext (TyTup s1.heap.objs.size Ts)),I1.laid (t':=s1.toks) (fun b u e=>Heap.get?_push_of_some _ e) (Nat.le_refl _) ?_,rfl,q _ hf⟩
 refine ⟨Heap.get?_push_size _ rfl,⟨_,Heap.get?_push_size _ rfl⟩,fun h1 h2 e k=>k _ e⟩
theorem truth_bl {A:Around} {bs:List Bool} {its:List Value} (r:Vals (bs.map V.bl) its):TruthOf X.prog X.w A (fun i v=>its.toArray[i]?=some v) (fun i=>bs.getD i false):=by
 intro i v s Q E hv hQ
 have hv':its[i]?=some v:=by simpa using hv
 have hi:i<its.length:=(List.getElem?_eq_some_iff.mp hv').1
 have hb:i<bs.length:=by
  have e:=r.length
  rw [List.length_map] at e
  omega
 have hx:(bs.map V.bl)[i]?=some (.bl (bs[i])):=by rw [List.getElem?_map,List.getElem?_eq_getElem hb];rfl
 obtain ⟨u,hu,ru⟩:=Vals.get r hx
 rw [hv'] at hu
 cases hu
 cases ru
 have e:bs.getD i false=bs[i]:=by simp [List.getD,List.getElem?_eq_getElem hb]
 have hQ':Q (bs.getD i false) s:=hQ
 rw [e] at hQ'
 exact wpAny_truthy_bool hQ'
theorem range_all (bs:List Bool):(List.range bs.length).all (fun i=>bs.getD i false)=bs.all id:=by
 rw [Bool.eq_iff_iff,List.all_eq_true,List.all_eq_true]
 constructor
 ·intro h b hb
  obtain ⟨i,hi,e⟩:=List.getElem_of_mem hb
  have:=h i (List.mem_range.mpr hi)
  simpa [List.getD,List.getElem?_eq_getElem hi,e] using this
 ·intro h i hi
  have hi:=List.mem_range.mp hi
  have:=h _ (List.getElem_mem hi)
  simpa [List.getD,List.getElem?_eq_getElem hi] using this
theorem range_any (bs:List Bool):(List.range bs.length).any (fun i=>bs.getD i false)=bs.any id:=by
 rw [Bool.eq_iff_iff,List.any_eq_true,List.any_eq_true]
 constructor
 ·rintro ⟨i,hi,h⟩
  have hi:=List.mem_range.mp hi
  exact ⟨bs[i],List.getElem_mem hi,by simpa [List.getD,List.getElem?_eq_getElem hi] using h⟩
 ·rintro ⟨b,hb,h⟩
  obtain ⟨i,hi,e⟩:=List.getElem_of_mem hb
  exact ⟨i,List.mem_range.mpr hi,by simpa [List.getD,List.getElem?_eq_getElem hi,e] using h⟩
theorem call_all (hc:X.calm=true):CallR X (.builtin "all") (fun xs H Q=>∃(p:Addr) (bs:List Bool),xs=[.ref p]/\SqL X.K H p (bs.map V.bl)/\Q (.bl (bs.all id)) H):=by
 intro pins s σ H xs us Q I r h
 obtain ⟨p,bs,rfl,hp,q⟩:=h
 obtain ⟨u,rfl,ru⟩:=vals1 r
 cases ru
 obtain ⟨its,rv,pl,hz⟩:=I.list hp
 have hn:its.toArray.size=bs.length:=by
  have e:=rv.length
  rw [List.length_map] at e
  simpa using e.symm
 have hh:X.A.in1.handled=none:=I.ok.hd hc
 refine call_all_walk (wpAny_pyIter_list pl.isList ?_)
 have old:p≠s.heap.objs.size:=Nat.ne_of_lt (by obtain ⟨o,n,e,_⟩:=pl;exact Heap.lt_size e)
 refine ⟨s.heap.objs.size,[s.heap.objs.size,p],[s.heap.objs.size],its.toArray.size,_,_,fun i=>bs.getD i false,rfl,Walks.list hh s.heap.objs.size p old its.toArray,⟨⟨_,Heap.get?_push_size _ rfl,rfl,rfl⟩,pl.isList.at fun o e=>Heap.get?_push_of_some _ e⟩,truth_bl rv,fun h' tk hk=>?_⟩
 rw [hn,range_all]
 exact ⟨.bl _,H,I.kept (t':=tk) fun b o e=>hk b o (by simpa using Nat.ne_of_lt (Heap.lt_size e)) (Heap.get?_push_of_some _ e),rfl,q⟩
theorem call_any (hc:X.calm=true):CallR X (.builtin "any") (fun xs H Q=>∃(p:Addr) (bs:List Bool),xs=[.ref p]/\SqL X.K H p (bs.map V.bl)/\Q (.bl (bs.any id)) H):=by
 intro pins s σ H xs us Q I r h
 obtain ⟨p,bs,rfl,hp,q⟩:=h
 obtain ⟨u,rfl,ru⟩:=vals1 r
 cases ru
 obtain ⟨its,rv,pl,hz⟩:=I.list hp
 have hn:its.toArray.size=bs.length:=by
  have e:=rv.length
  rw [List.length_map] at e
  simpa using e.symm
 have hh:X.A.in1.handled=none:=I.ok.hd hc
 refine call_any_walk (wpAny_pyIter_list pl.isList ?_)
 have old:p≠s.heap.objs.size:=Nat.ne_of_lt (by obtain ⟨o,n,e,_⟩:=pl;exact Heap.lt_size e)
 refine ⟨s.heap.objs.size,[s.heap.objs.size,p],[s.heap.objs.size],its.toArray.size,_,_,fun i=>bs.getD i false,rfl,Walks.list hh s.heap.objs.size p old its.toArray,⟨⟨_,Heap.get?_push_size _ rfl,rfl,rfl⟩,pl.isList.at fun o e=>Heap.get?_push_of_some _ e⟩,truth_bl rv,fun h' tk hk=>?_⟩
 rw [hn,range_any]
 exact ⟨.bl _,H,I.kept (t':=tk) fun b o e=>hk b o (by simpa using Nat.ne_of_lt (Heap.lt_size e)) (Heap.get?_push_of_some _ e),rfl,q⟩
end
end L2
namespace L2
open PySem PySem.Spec PyProof.Rows
noncomputable def keyD:Key->PyData
 | .inl i=>.int i
 | .inr x=>.str x
mutual
noncomputable def DV (K:Frag) (Z:Addr->Prop) (H:Hp):PyData->V->Prop
 | .none,v=>v=.non
 | .bool b,v=>v=.bl b
 | .int i,v=>v=.int i
 | .str x,v=>v=.str x
 | .tuple ds,v=>∃a xs,v=.ref a/\SqT K H a xs/\DVs K Z H ds xs
 | .list ds,v=>∃a xs,v=.ref a/\¬ Z a/\H a=some (.lst xs)/\DVs K Z H ds xs
 | .dict kvs,v=>∃a es,v=.ref a/\¬ Z a/\H a=some (.dK es)/\∃l:List (Key×Int),es=l.map (fun p=>(p.1,V.int p.2))/\kvs=l.map fun p=>(keyD p.1,PyData.int p.2)
noncomputable def DVs (K:Frag) (Z:Addr->Prop) (H:Hp):List PyData->List V->Prop
 | [],vs=>vs=[]
 |d::ds,vs=>∃v r,vs=v::r/\DV K Z H d v/\DVs K Z H ds r
end
structure Stay (K:Frag) (Z:Addr->Prop) (H H':Hp):Prop where
 tup:∀b xs,SqT K H b xs->SqT K H' b xs
 lst:∀b xs,¬ Z b->H b=some (.lst xs)->H' b=some (.lst xs)
 dct:∀b es,¬ Z b->H b=some (.dK es)->H' b=some (.dK es)
mutual
theorem DV.stay {K:Frag} {Z:Addr->Prop} {H H':Hp} (S:Stay K Z H H'):∀{d:PyData} {v:V},DV K Z H d v->DV K Z H' d v
 | .none,_,h=>h
 | .bool _,_,h=>h
 | .int _,_,h=>h
 | .str _,_,h=>h
 | .tuple ds,v,h=>by
  simp only [DV] at h |-
  obtain ⟨a,xs,e,hq,r⟩:=h
  exact ⟨a,xs,e,S.tup a xs hq,DVs.stay S r⟩
 | .list ds,v,h=>by
  simp only [DV] at h |-
  obtain ⟨a,xs,e,hz,hq,r⟩:=h
  exact ⟨a,xs,e,hz,S.lst a xs hz hq,DVs.stay S r⟩
 | .dict kvs,v,h=>by
  simp only [DV] at h |-
  obtain ⟨a,es,e,hz,hq,r⟩:=h
  exact ⟨a,es,e,hz,S.dct a es hz hq,r⟩
theorem DVs.stay {K:Frag} {Z:Addr->Prop} {H H':Hp} (S:Stay K Z H H'):∀{ds:List PyData} {vs:List V},DVs K Z H ds vs->DVs K Z H' ds vs
 | [],_,h=>h
 |d::ds,vs,h=>by
  simp only [DVs] at h |-
  obtain ⟨v,r,e,h1,h2⟩:=h
  exact ⟨v,r,e,DV.stay S h1,DVs.stay S h2⟩
end
mutual
theorem DV.more {K:Frag} {Z:Addr->Prop} {H:Hp} {p:Addr} (hp:H p=none):∀{d:PyData} {v:V},DV K Z H d v->DV K (fun a=>Z a\/a=p) H d v
 | .none,_,h=>h
 | .bool _,_,h=>h
 | .int _,_,h=>h
 | .str _,_,h=>h
 | .tuple ds,v,h=>by
  simp only [DV] at h |-
  obtain ⟨a,xs,e,hq,r⟩:=h
  exact ⟨a,xs,e,hq,DVs.more hp r⟩
 | .list ds,v,h=>by
  simp only [DV] at h |-
  obtain ⟨a,xs,e,hz,hq,r⟩:=h
  exact ⟨a,xs,e,(fun z=>z.elim hz fun e=>by subst e;rw [hp] at hq;cases hq),hq,DVs.more hp r⟩
 | .dict kvs,v,h=>by
  simp only [DV] at h |-
  obtain ⟨a,es,e,hz,hq,r⟩:=h
  exact ⟨a,es,e,(fun z=>z.elim hz fun e=>by subst e;rw [hp] at hq;cases hq),hq,r⟩
theorem DVs.more {K:Frag} {Z:Addr->Prop} {H:Hp} {p:Addr} (hp:H p=none):∀{ds:List PyData} {vs:List V},DVs K Z H ds vs->DVs K (fun a=>Z a\/a=p) H ds vs
 | [],_,h=>h
 |d::ds,vs,h=>by
  simp only [DVs] at h |-
  obtain ⟨v,r,e,h1,h2⟩:=h
  exact ⟨v,r,e,DV.more hp h1,DVs.more hp h2⟩
end
mutual
theorem DV.less {K:Frag} {Z Z':Addr->Prop} {H:Hp} (hz':∀a,Z' a->Z a):∀{d:PyData} {v:V},DV K Z H d v->DV K Z' H d v
 | .none,_,h=>h
 | .bool _,_,h=>h
 | .int _,_,h=>h
 | .str _,_,h=>h
 | .tuple ds,v,h=>by
  simp only [DV] at h |-
  obtain ⟨a,xs,e,hq,r⟩:=h
  exact ⟨a,xs,e,hq,DVs.less hz' r⟩
 | .list ds,v,h=>by
  simp only [DV] at h |-
  obtain ⟨a,xs,e,hz,hq,r⟩:=h
  exact ⟨a,xs,e,fun z=>hz (hz' _ z),hq,DVs.less hz' r⟩
 | .dict kvs,v,h=>by
  simp only [DV] at h |-
  obtain ⟨a,es,e,hz,hq,r⟩:=h
  exact ⟨a,es,e,fun z=>hz (hz' _ z),hq,r⟩
theorem DVs.less {K:Frag} {Z Z':Addr->Prop} {H:Hp} (hz':∀a,Z' a->Z a):∀{ds:List PyData} {vs:List V},DVs K Z H ds vs->DVs K Z' H ds vs
 | [],_,h=>h
 |d::ds,vs,h=>by
  simp only [DVs] at h |-
  obtain ⟨v,r,e,h1,h2⟩:=h
  exact ⟨v,r,e,DV.less hz' h1,DVs.less hz' h2⟩
end
noncomputable def kdD:PyData->Kn
 | .none=>.non
 | .bool _=>.bl
 | .int _=>.int
 | .str _=>.str
 | .tuple _=>.tup
 | .list _=>.lst
 | .dict _=>.dct
section
variable {X:Cx} {pins:List (Addr×Obj)} {σ:St} {H:Hp} {s:Shared} {Z:Addr->Prop}
theorem pairs_reads {h:Heap} {P:Program} {w:World}:∀{l:List (Key×Int)} {vs:List (Key×Value)} {es:List DictEntry},KV (l.map fun p=>(p.1,V.int p.2)) vs->Pairs (mixKind P w) es vs ->
  ReadsAll h (es.map (·.key)) ((l.map fun p=>(keyD p.1,PyData.int p.2)).map (·.1)) []/\ReadsAll h (es.map (·.val)) ((l.map fun p=>(keyD p.1,PyData.int p.2)).map (·.2)) []
 | [],_,_,.nil,.nil=>⟨.nil,.nil⟩
 |(k,i)::l,_,_,.cons (b:=q) r t,.cons (e:=e) h1 h2 h3=>by
  obtain ⟨a1,a2⟩:=pairs_reads (h:=h) t h3
  obtain ⟨r1,t',r2⟩:=r
  have r1:k=q.1:=r1
  have r2:q.2=Value.int i t':=r2
  refine ⟨?_,?_⟩
  ·have hk:keyIs q.1 e.key=true:=h1
   rw [<- r1] at hk
   have:Reads h e.key (keyD k) []:=by
    rcases keyIs_shape hk with ⟨j,u,e1,e2⟩ | ⟨x,u,e1,e2⟩
    ·rw [e1,e2];exact .int j u
    ·rw [e1,e2];exact .str x u
   exact ReadsAll.cons (as:=[]) (bs:=[]) this a1
  ·have:Reads h e.val (.int i) []:=by rw [h2,r2];exact .int i t'
   exact ReadsAll.cons (as:=[]) (bs:=[]) this a2
mutual
theorem DV.reads (I:Inv X pins σ H s):∀{d:PyData} {v:V} {u:Value},DV X.K Z H d v->RelV v u->∃as,Reads s.heap u d as
 | .none,v,u,h,r=>by
  have e:v=.non:=h
  subst e;cases r
  exact ⟨[],.none⟩
 | .bool b,v,u,h,r=>by
  have e:v=.bl b:=h
  subst e;cases r
  exact ⟨[],.bool b⟩
 | .int i,v,u,h,r=>by
  have e:v=.int i:=h
  subst e;obtain ⟨t,rfl⟩:=r
  exact ⟨[],.int i t⟩
 | .str x,v,u,h,r=>by
  have e:v=.str x:=h
  subst e;obtain ⟨t,rfl⟩:=r
  exact ⟨[],.str x t⟩
 | .tuple ds,v,u,h,r=>by
  simp only [DV] at h
  obtain ⟨a,xs,e,hq,hr⟩:=h
  subst e;cases r
  obtain ⟨its,rv,⟨o,e,c,n,hd⟩,_⟩:=I.tuple hq
  obtain ⟨as,rs⟩:=DVs.reads I hr rv
  exact ⟨as,.tuple e c hd (by simpa using rs)⟩
 | .list ds,v,u,h,r=>by
  simp only [DV] at h
  obtain ⟨a,xs,e,_,hq,hr⟩:=h
  subst e;cases r
  obtain ⟨its,rv,⟨o,n,e,c,_,hd⟩,_⟩:=I.list (SqL.of hq)
  obtain ⟨as,rs⟩:=DVs.reads I hr rv
  exact ⟨a::as,.list e c hd (by simpa using rs)⟩
 | .dict kvs,v,u,h,r=>by
  simp only [DV] at h
  obtain ⟨a,es,e,_,hq,l,e1,e2⟩:=h
  subst e e1 e2;cases r
  obtain ⟨_,_,vs,kv,o,es',ep,g1,g2,g3,_,g5,_⟩:=(show ObjOk X.prog X.w H s.heap a (.dK _) from I.hok a _ hq)
  obtain ⟨r1,r2⟩:=pairs_reads (h:=s.heap) kv g5
  exact ⟨a::[]++[],.dict g1 g2.1 g3 r1 r2⟩
theorem DVs.reads (I:Inv X pins σ H s):∀{ds:List PyData} {vs:List V} {us:List Value},DVs X.K Z H ds vs->Vals vs us->∃as,ReadsAll s.heap us ds as
 | [],vs,us,h,r=>by
  have e:vs=[]:=h
  subst e;cases r
  exact ⟨[],.nil⟩
 |d::ds,vs,us,h,r=>by
  obtain ⟨v,rr,e,h1,h2⟩:=h
  subst e
  cases r with
  |cons ru rt =>
   obtain ⟨as,a1⟩:=DV.reads I h1 ru
   obtain ⟨bs,a2⟩:=DVs.reads I h2 rt
   exact ⟨as++bs,.cons a1 a2⟩
end
theorem call_repr {k:Nat} (hr:Room k X.A):CallR X (.builtin "repr") (fun xs H Q=>∃(x:V) (d:PyData) (Z:Addr->Prop),xs=[x]/\DV X.K Z H d x/\d.showable=true/\(d.hasDict=false\/kdD d=.dct)/\d.depth<=100/\d.shown.length<=sizeLine/\Q (.str d.shown) H):=by
 intro pins s σ H xs us Q I r h
 obtain ⟨x,d,Z,rfl,hd,hs,hnd,hdp,hz,q⟩:=h
 obtain ⟨u,rfl,ru⟩:=vals1 r
 have hun:X.A.units+(d.depth+1)<cLine:=by have:=hr.un;omega
 obtain ⟨as,rd⟩:=hd.reads I ru
 have go:∀a,u=.ref a->(d.hasDict=true->sysModules∉as)->wpAny (model X.prog X.w) X.A (call (.builtin "repr") [u]) (EP X pins σ Q) X.xe s:=fun a e hsm=>by
  subst e
  exact repr_of_reads' rd hs hsm hr.gd hun (fun _ _ e=>e) (fun h' t tk hk=>⟨.str d.shown,H,I.kept (t':=tk) hk,⟨t,rfl⟩,q⟩) hz
 cases d with
 |none =>
  cases rd
  exact P.repr_of_none ⟨.str _,H,I.tok _,⟨_,rfl⟩,q⟩
 |bool b =>
  cases rd
  exact P.repr_of_bool ⟨.str _,H,I.tok _,⟨_,rfl⟩,q⟩
 |int i =>
  cases rd
  exact P.repr_of_int (by simpa [PyData.showable] using hs) ⟨.str _,H,I.tok _,⟨_,rfl⟩,q⟩
 |str y =>
  cases rd
  exact P.repr_of_str ⟨.str _,H,I.tok _,⟨_,rfl⟩,q⟩ hz
 |list ds =>
  cases rd with
  |list h1 h2 h3 h4 =>
   refine go _ rfl fun z=>?_
   rcases hnd with e|e
   ·rw [e] at z;cases z
   ·cases e
 |tuple ds =>
  cases rd with
  |tuple h1 h2 h3 h4 =>
   refine go _ rfl fun z=>?_
   rcases hnd with e|e
   ·rw [e] at z;cases z
   ·cases e
 |dict kvs =>
  simp only [DV] at hd
  obtain ⟨a,es,e,_,hq,l,e1,e2⟩:=hd
  subst e e1 e2;cases ru
  obtain ⟨_,hsys,vs,kv,o,es',ep,g1,g2,g3,_,g5,_⟩:=(show ObjOk X.prog X.w H s.heap a (.dK _) from I.hok a _ hq)
  obtain ⟨r1,r2⟩:=pairs_reads (h:=s.heap) kv g5
  have rd':Reads s.heap (.ref a) (.dict (l.map fun p=>(keyD p.1,PyData.int p.2))) (a::[]++[]):=.dict g1 g2.1 g3 r1 r2
  refine repr_of_reads' rd' hs (fun _ hm=>?_) hr.gd hun (fun _ _ e=>e) (fun h' t tk hk=>⟨.str _,H,I.kept (t':=tk) hk,⟨t,rfl⟩,q⟩) hz
  have e:sysModules=a:=by simpa using hm
  subst e
  simp at hsys
noncomputable def rEqD (K:Frag) (neg:Bool):R2:=fun x y H Q=>∃(d e:PyData) (Z:Addr->Prop),DV K Z H d x/\DV K Z H e y/\d.canLay0=true/\e.canLay0=true/\min d.depth e.depth<=100/\Q (.bl (if neg then !PyData.eqv d e else PyData.eqv d e)) H
theorem op_eqD {k:Nat} (hr:Room k X.A):OpR X (compareOp .Eq) (rEqD X.K false):=by
 intro pins s σ H x y v u Q I rx ry h
 obtain ⟨d,e,Z,h1,h2,l1,l2,hd,q⟩:=h
 obtain ⟨as,r1⟩:=h1.reads I rx
 obtain ⟨bs,r2⟩:=h2.reads I ry
 exact SeqAt.eqOverData _ _ _ _ _ _ _ _ _ _ _ _ r1 r2 l1 l2 (by have:=hr.un;omega) ⟨.bl _,H,I,rfl,q⟩
theorem op_neD {k:Nat} (hr:Room k X.A):OpR X (compareOp .NotEq) (rEqD X.K true):=by
 intro pins s σ H x y v u Q I rx ry h
 obtain ⟨d,e,Z,h1,h2,l1,l2,hd,q⟩:=h
 obtain ⟨as,r1⟩:=h1.reads I rx
 obtain ⟨bs,r2⟩:=h2.reads I ry
 exact SeqAt.neOverData _ _ _ _ _ _ _ _ _ _ _ _ r1 r2 l1 l2 (by have:=hr.un;omega) ⟨.bl _,H,I,rfl,q⟩
end
end L2
namespace HT
open PySem PySem.Spec PyProof.Rows
section
variable {prog:Program} {w:World} {A:Around} {E:Value->Shared->Prop} {s:Shared}
theorem exact_tup {t:Addr} {items:Array Value} {Q:Bool->Shared->Prop} (ht:IsTup s.heap t items) (h:Q true s):wpAny (model prog w) A (Builtin.Tuple.tupleIsExact (.ref t)) Q E s:=by
 unfold Builtin.Tuple.tupleIsExact
 exact wpAny_bind (wpAny_typeOf ht.typeIs (wpAny_pure h))
theorem item_tuple_all {t sl:Addr} {items:Array Value} {vl vu:Value} {lo hi:Option Int} {Q:Value->Shared->Prop} (ht:IsTup s.heap t items) (hs:s.heap.IsSliceOf sl vl vu .none) (pl:IsPart vl lo) (pu:IsPart vu hi)
  (hw:sIx items.size 0 lo=0/\sIx items.size items.size hi=items.size) (h:Q (.ref t) s):wpAny (model prog w) A (getItem (.ref t) (.ref sl)) Q E s:=by
 obtain ⟨os,hos,hcs,hds⟩:=id hs
 have hTs:s.TypeIs (.ref sl) "slice":=⟨os,hos,hcs⟩
 unfold getItem
 try with_reducible refine wpAny_holding ?_
 first|refine wpAny_bind (wpAny_pure ?_)|skip
 refine wpAny_bind (wpAny_sequenceKey ht.typeIs (by decide) ?_)
 refine wpAny_bind (wpAny_callSpecial?_slot (name:=Str.ofString "__getitem__") ht.typeIs PyProof.Rows.slot_tuple_getitem
  (wpAny_call_entry PyProof.Rows.slot_tuple_getitem ht.typeIs entry_tuple_getitem ?_ (args_tuple_getitem _ _)))
 show wpAny _ _ (Builtin.Tuple.tupleItemsOf (.ref t) >>= _) _ _ s
 refine wpAny_bind (tupleItemsOf_ ht ?_)
 refine wpAny_bind (wpAny_typeOf hTs ?_)
 rw [if_pos (by decide)]
 refine wpAny_bind (sliceApplied_gen hs pl pu ?_)
 obtain ⟨w1,w2⟩:=hw
 show wpAny _ _ (if (((sIx items.size 0 lo:Nat):Int)==0&&(1:Int)==1&&(sIx items.size items.size hi-sIx items.size 0 lo)==items.size)=true then _ else _) _ _ s
 rw [w1,w2,if_pos (by simp)]
 first
  |exact wpAny_bind (exact_tup ht (by simp only [if_true];exact wpAny_bind (wpAny_rule (wpAny_pure ⟨_,rfl,wpAny_pure h⟩))))
  |exact wpAny_bind (exact_tup ht (by simp only [if_true];exact wpAny_bind (wpAny_rule (wpAny_bind (wpAny_pure (wpAny_pure ⟨_,rfl,wpAny_pure h⟩))))))
end
end HT
namespace L2
open PySem PySem.Spec PyProof.Rows
theorem Same.sqT {K:Frag} {H H':Hp} {a:Addr} {xs:List V} (e:Same H H') (h:SqT K H a xs):SqT K H' a xs:=by
 rcases h with (h | ⟨o,h⟩)|h
 ·exact .inl (.inl (e _ _ h))
 ·exact .inl (.inr ⟨o,e _ _ h⟩)
 ·exact .inr h
theorem Same.upd {H:Hp} {p:Addr} {o:HO} (hn:H p=none):Same H (upd H p o):=fun b u e=>by rw [upd_ne (ne_of_none e hn)];exact e
def NewT (K:Frag) (H:Hp) (ys:List V) (Q:VK):Prop:=∀a H',Same H H'->SqT K H' a ys->Q (.ref a) H'
theorem NewT.here {K:Frag} {H:Hp} {ys:List V} {Q:VK} {a:Addr} (h:NewT K H ys Q) (hs:SqT K H a ys):Q (.ref a) H:=h a H (Same.refl H) hs
theorem NewT.new {K:Frag} {H:Hp} {ys:List V} {Q:VK} {p:Addr} (h:NewT K H ys Q) (hn:H p=none):Q (.ref p) (L2.upd H p (.tup ys)):=h p _ (Same.upd hn) (SqT.of upd_same)
section
variable {X:Cx} {e:Expr} {te:TE} {pos p2 p3 p4:Pos}
theorem drop_all {xs:List V} {lo hi:Option Int} (h:HT.sIx xs.length 0 lo=0/\HT.sIx xs.length xs.length hi=xs.length):cutV xs lo hi=xs:=by
 unfold cutV
 rw [h.1,h.2]
 simp
noncomputable def rSlG (K:Frag):V->Option Int->Option Int->Hp->VK->Prop:=fun x lo hi H Q=>∃a xs,x=.ref a/\SqT K H a xs/\NewT K H (cutV xs lo hi) Q
theorem sl_tupG:SlR X (rSlG X.K):=by
 intro pins s σ H x v vl vu lo hi sl Q I rx hs pl pu h
 obtain ⟨a,xs,rfl,hx,q⟩:=h
 by_cases hw:HT.sIx xs.length 0 lo=0/\HT.sIx xs.length xs.length hi=xs.length
 ·cases rx
  obtain ⟨its,r,ht,hz⟩:=I.tuple hx
  have hlen:its.toArray.size=xs.length:=by rw [List.size_toArray];exact r.length.symm
  rw [drop_all hw] at q
  exact ⟨"tuple",_,PyProof.Rows.slot_tuple_getitem.lookup,ht.typeIs,HT.item_tuple_all ht hs pl pu (by rw [hlen];exact hw) ⟨.ref a,H,I,rfl,q.here hx⟩⟩
 ·exact sl_tup pins s σ H _ v vl vu lo hi sl Q I rx hs pl pu ⟨a,xs,rfl,hx,hw,fun p hp=>q.new hp⟩
noncomputable def rCatG (K:Frag):R2:=fun x y H Q=>∃a b xs ys,x=.ref a/\y=.ref b/\SqT K H a xs/\SqT K H b ys/\xs.length+ys.length<=sizeLine/\NewT K H (xs++ys) Q
theorem op_catG:OpR X (binaryOp .Add) (rCatG X.K):=by
 intro pins s σ H x y v u Q I rx ry h
 obtain ⟨a,b,xs,ys,rfl,rfl,ha,hb,hz,q⟩:=h
 by_cases hx:xs=[]
 ·subst hx
  cases rx
  cases ry
  obtain ⟨its,r1,p1,_⟩:=I.tuple ha
  obtain ⟨its2,r2,p2,_⟩:=I.tuple hb
  cases r1
  obtain ⟨⟨cls,dd,data,sl⟩,ho,hc,n,hd⟩:=id p1
  obtain ⟨⟨cls2,dd2,data2,sl2⟩,ho2,hc2,n2,hd2⟩:=id p2
  simp only at hc hd hc2 hd2
  subst hc hd hc2 hd2
  exact concat_meets ⟨_,ho,rfl⟩ ⟨_,ho2,rfl⟩ noFill_tuple_add seq_tuple_add PySem.F.slot_tuple_add PySem.F.entry_tuple_add (PySem.F.args_tuple_add_2 _ _)
   (tuple_addW0 a b _ its2.toArray n n2 dd dd2 sl sl2 (by simp)) ⟨ho,ho2,⟨.ref b,H,I,rfl,q.here hb⟩⟩
 ·refine op_catT pins s σ H _ _ v u Q I rx ry ⟨a,b,xs,ys,rfl,rfl,ha,hb,hx,hz,fun e=>?_,fun _ p hp=>q.new hp⟩
  subst e
  rw [List.append_nil] at q
  exact q.here ha
end
end L2
namespace HZ
open PySem PySem.Spec PyProof.Rows
structure Stp (P:Program) (w:World) (A:Around) (i l:Addr) (tn:Nat->Heap->Prop) (val:Nat->Option Value):Prop where
 keep:∀k h h',tn k h->(∀o,h.get? i=some o->h'.get? i=some o)->(∀o,h.get? l=some o->h'.get? l=some o)->tn k h'
 item:∀k (s:Shared) (Q:Value->Shared->Prop) (E:Value->Shared->Prop) x,tn k s.heap->val k=some x->(∀h',tn (k+1) h'->Heap.SameBut i s.heap h'->Q x { s with heap:=h' })->wpAny (model P w) A (Builtin.SmallTypes.nextOf (.ref i)) Q E s
 stop:∀k (s:Shared) (Q:Value->Shared->Prop) (E:Value->Shared->Prop),tn k s.heap->val k=none->(∀h' e,Heap.ExtBut i s.heap h'->(∃o,h'.get? e=some o/\o.cls=.type "StopIteration")->E (.ref e) { s with heap:=h' })->wpAny (model P w) A (Builtin.SmallTypes.nextOf (.ref i)) Q E s
 obj:∀k h,tn k h->∃o,h.get? i=some o/\∀v,o.data≠.cell v
section
variable {P:Program} {w:World} {A:Around} {E:Value->Shared->Prop} {s:Shared}
theorem nextOf_tup {it t:Addr} {k:Nat} {its:Array Value} {x:Value} {Q:Value->Shared->Prop} (g:s.heap.IsTupleIter it t k) (gt:s.heap.IsTuple t its) (gx:its[k]?=some x)
  (q:∀h',h'.IsTupleIter it t (k+1)->Heap.SameBut it s.heap h'->Q x { s with heap:=h' }):wpAny (model P w) A (Builtin.SmallTypes.nextOf (.ref it)) Q E s:=by
 obtain ⟨o,go,gc,gd⟩:=id g
 obtain ⟨ol,gol,_,nl,gdl⟩:=gt
 unfold Builtin.SmallTypes.nextOf
 refine wpAny_bind (wpAny_callSpecial?_slot (name:=Str.ofString "__next__") g.typeIs F.slot_tuple_iterator_next
  (wpAny_call_entry F.slot_tuple_iterator_next g.typeIs F.entry_tuple_iterator_next ?_ (F.args_tuple_iterator_next_1 _)))
 show wpAny _ _ (field (.ref it) 0 >>= _) _ _ _
 refine wpAny_bind (wpAny_field go gd (x:=.ref t) rfl ?_)
 show wpAny _ _ (if (Value.ref t==Value.none)=true then _ else _) _ _ _
 rw [if_neg (fun z:(Value.ref t==Value.none)=true=>Bool.false_ne_true z)]
 show wpAny _ _ (field (.ref it) 1 >>= _) _ _ _
 refine wpAny_bind (wpAny_field go gd (x:=.int k 0) rfl ?_)
 show wpAny _ _ (seqItems? (.ref t) >>= _) _ _ _
 refine wpAny_bind (wpAny_seqItems gol gdl ?_)
 simp only [Int.toNat_natCast,gx]
 refine wpAny_bind (wpAny_setField go gd (by simp) (wpAny_pure ⟨x,rfl,wpAny_pure (q _ ?_ (Heap.SameBut.update ..))⟩))
 exact ⟨_,Heap.get?_update_self _ go (Obj.isFreed_of_fields (Obj.data_mapFields gd _)),(Obj.cls_mapFields ..).trans gc,by rw [Obj.data_mapFields gd];simp [rawInt]⟩
theorem nextOf_tup_end {it t:Addr} {k:Nat} {its:Array Value} {Q:Value->Shared->Prop} (gh:A.handled=none) (g:s.heap.IsTupleIter it t k) (gt:s.heap.IsTuple t its) (gx:its[k]?=none)
  (q:∀h' e,Heap.ExtBut it s.heap h'->(∃o,h'.get? e=some o/\o.cls=.type "StopIteration")->E (.ref e) { s with heap:=h' }):wpAny (model P w) A (Builtin.SmallTypes.nextOf (.ref it)) Q E s:=by
 obtain ⟨o,go,gc,gd⟩:=id g
 obtain ⟨ol,gol,_,nl,gdl⟩:=gt
 unfold Builtin.SmallTypes.nextOf
 refine wpAny_bind (wpAny_callSpecial?_slot (name:=Str.ofString "__next__") g.typeIs F.slot_tuple_iterator_next
  (wpAny_call_entry F.slot_tuple_iterator_next g.typeIs F.entry_tuple_iterator_next ?_ (F.args_tuple_iterator_next_1 _)))
 show wpAny _ _ (field (.ref it) 0 >>= _) _ _ _
 refine wpAny_bind (wpAny_field go gd (x:=.ref t) rfl ?_)
 show wpAny _ _ (if (Value.ref t==Value.none)=true then _ else _) _ _ _
 rw [if_neg (fun z:(Value.ref t==Value.none)=true=>Bool.false_ne_true z)]
 show wpAny _ _ (field (.ref it) 1 >>= _) _ _ _
 refine wpAny_bind (wpAny_field go gd (x:=.int k 0) rfl ?_)
 show wpAny _ _ (seqItems? (.ref t) >>= _) _ _ _
 refine wpAny_bind (wpAny_seqItems gol gdl ?_)
 simp only [Int.toNat_natCast,gx]
 refine wpAny_bind (wpAny_rule (wpAny_bind (wpAny_setField go gd (by simp) ?_)))
 show wpAny _ _ (newExc (.type "StopIteration") [] >>= _) _ _ (_:Shared)
 refine wpAny_bind ?_
 simp only [newExc,newTuple]
 refine wpAny_bind (wpAny_newObj_type ?_ (by size_fits))
 refine wpAny_bind (m:=firstArgMember _ _) (wpAny_of_eq (a:=Value.none) (by first|rfl | (unfold firstArgMember;rfl)) ?_)
 refine wpAny_newObj_type ?_ (by size_fits)
 simp only [raiseNew]
 refine wpAny_bind (wpAny_handled ?_)
 first|rw [gh]|rw [show A.in1.handled=none from gh]
 refine wpAny_bind (wpAny_pure (wpAny_throw ?_))
 exact q _ _ (((Heap.SameBut.update ..).extBut.push _).push _) ⟨_,Heap.get?_push_size _ rfl,rfl⟩
theorem stp_tup (gh:A.handled=none) (i l:Addr) (its:Array Value):Stp P w A i l (fun k h=>h.IsTupleIter i l k/\h.IsTuple l its) (fun k=>its[k]?) where
 keep:=fun k h h' st k1 k2=>⟨st.1.at k1,by obtain ⟨o,e,r⟩:=st.2;exact ⟨o,k2 o e,r⟩⟩
 item:=fun k s Q E x st e q=>nextOf_tup st.1 st.2 e fun h' g sb=>by
  by_cases hl:l=i
  ·exfalso
   subst hl
   obtain ⟨o,e1,c1,_⟩:=st.1
   obtain ⟨o',e2,c2,_⟩:=st.2
   rw [e1] at e2;cases e2;rw [c1] at c2;simp at c2
  ·obtain ⟨o,e2,r⟩:=st.2
   exact q h' ⟨g,o,(sb.2 l hl).trans e2,r⟩ sb
 stop:=fun k s Q E st e q=>nextOf_tup_end gh st.1 st.2 e q
 obj:=fun k h st=>by
  obtain ⟨o,e,_,d⟩:=st.1
  exact ⟨o,e,fun v z=>by rw [d] at z;cases z⟩
structure Apart (z ti to j1 j2 m1 m2:Addr):Prop where
 a1:ti≠z
 a2:to≠z
 a3:j1≠z
 a4:j2≠z
 a5:ti≠to
 a6:ti≠j1
 a7:ti≠j2
 a8:to≠j1
 a9:to≠j2
 b0:j1≠j2
 b1:m1≠z
 b2:m1≠to
 b3:m1≠j1
 b4:m1≠j2
 b5:m2≠z
 b6:m2≠to
 b7:m2≠j1
 b8:m2≠j2
theorem zip_item {z ti to j1 j2 m1 m2:Addr} {t1 t2:Nat->Heap->Prop} {v1 v2:Nat->Option Value} {k:Nat} {x y a b:Value} {Q:Value->Shared->Prop} (D:Apart z ti to j1 j2 m1 m2) (S1:Stp P w A j1 m1 t1 v1) (S2:Stp P w A j2 m2 t2 v2)
  (gz:IsZip s.heap z ti to .none) (gi:IsPair s.heap ti (.ref j1) (.ref j2)) (go:IsPair s.heap to a b) (h1:t1 k s.heap) (h2:t2 k s.heap) (hx:v1 k=some x) (hy:v2 k=some y)
  (q:∀h',IsZip h' z ti to (rawInt s.heap.objs.size)->IsPair h' to x y->t1 (k+1) h'->t2 (k+1) h'->IsPair h' s.heap.objs.size x y->h'.objs.size=s.heap.objs.size+1 ->
   (∀c o,c≠z->c≠to->c≠j1->c≠j2->s.heap.get? c=some o->h'.get? c=some o)->Q (.ref s.heap.objs.size) { s with heap:=h' }) :
  wpAny (model P w) A (Builtin.«zip.__next__» ⟨[.ref z],[]⟩) (fun fin s'=>∃v,fin=.done (.ret v)/\Q v s') E s:=by
 show wpAny _ _ (field (.ref z) 2 >>= _) _ _ (_:Shared)
 refine wpAny_bind (wpAny_field gz rfl (x:=.bool false) rfl ?_)
 show wpAny _ _ (field (.ref z) 3 >>= _) _ _ (_:Shared)
 refine wpAny_bind (wpAny_field gz rfl (x:=.ref ti) rfl ?_)
 refine wpAny_bind (wpAny_seqItems gi rfl ?_)
 show wpAny _ _ (Builtin.SmallTypes.ownedTupleIsFree (.ref z) >>= _) _ _ (_:Shared)
 refine wpAny_bind ?_
 unfold Builtin.SmallTypes.ownedTupleIsFree
 refine wpAny_bind (wpAny_field gz rfl (x:=.none) rfl (wpAny_pure ?_))
 simp only [if_true]
 refine wpAny_bind (wpAny_rule ?_)
 refine wpAny_bind (wpAny_field gz rfl (x:=.ref to) rfl ?_)
 refine wpAny_bind (wpAny_setField_rec gz (by simp) fun p1 z1 s1=>?_)
 replace z1:IsZip p1 z ti to .ellipsis:=z1
 refine wpAny_bind ?_
 simp only [List.zipIdx_cons,List.zipIdx_nil,List.forIn_cons,List.forIn_nil]
 refine wpAny_bind (wpAny_bind (wpAny_onRaise ?_))
 show wpAny _ _ (Builtin.SmallTypes.nextOf (.ref j1) >>= _) _ _ (_:Shared)
 refine wpAny_bind (S1.item k _ _ _ x (S1.keep k _ _ h1 (fun o e=>s1.extBut _ _ D.a3 e) (fun o e=>s1.extBut _ _ D.b1 e)) hx fun p2 h12 s2=>wpAny_pure ?_)
 have o2:IsPair p2 to a b:=s2.extBut _ _ D.a8 (s1.extBut _ _ D.a2 go)
 refine wpAny_bind (wpAny_seqItems o2 rfl ?_)
 refine wpAny_bind (wpAny_updateSeq_pair o2 fun p3 o3 s3=>?_)
 replace o3:IsPair p3 to x b:=o3
 refine wpAny_bind (wpAny_letGo (wpAny_pure ?_))
 refine wpAny_bind (wpAny_bind (wpAny_onRaise ?_))
 show wpAny _ _ (Builtin.SmallTypes.nextOf (.ref j2) >>= _) _ _ (_:Shared)
 refine wpAny_bind (S2.item k _ _ _ y (S2.keep k _ _ h2 (fun o e=>s3.extBut _ _ D.a9.symm (s2.extBut _ _ D.b0.symm (s1.extBut _ _ D.a4 e))) (fun o e=>s3.extBut _ _ D.b6 (s2.extBut _ _ D.b7 (s1.extBut _ _ D.b5 e)))) hy fun p4 h24 s4=>wpAny_pure ?_)
 have o4:IsPair p4 to x b:=s4.extBut _ _ D.a9 o3
 refine wpAny_bind (wpAny_seqItems o4 rfl ?_)
 refine wpAny_bind (wpAny_updateSeq_pair o4 fun p5 o5 s5=>?_)
 replace o5:IsPair p5 to x y:=o5
 refine wpAny_bind (wpAny_letGo (wpAny_pure (wpAny_pure ?_)))
 refine wpAny_bind (wpAny_seqItems o5 rfl ?_)
 refine wpAny_bind (wpAny_newTuple ?_)
 have gs:p5.objs.size=s.heap.objs.size:=by rw [s5.1,s4.1,s3.1,s2.1,s1.1]
 have z5:IsZip p5 z ti to .ellipsis:=s5.extBut _ _ D.a2.symm (s4.extBut _ _ D.a4.symm (s3.extBut _ _ D.a2.symm (s2.extBut _ _ D.a3.symm z1)))
 have k5:∀c o,c≠z->c≠to->c≠j1->c≠j2->s.heap.get? c=some o->p5.get? c=some o:=fun c o c1 c2 c3 c4 e=>s5.extBut _ _ c2 (s4.extBut _ _ c4 (s3.extBut _ _ c2 (s2.extBut _ _ c3 (s1.extBut _ _ c1 e))))
 have h15:t1 (k+1) p5:=S1.keep _ _ _ h12 (fun o e=>s5.extBut _ _ D.a8.symm (s4.extBut _ _ D.b0 (s3.extBut _ _ D.a8.symm e))) (fun o e=>s5.extBut _ _ D.b2 (s4.extBut _ _ D.b4 (s3.extBut _ _ D.b2 e)))
 have h25:t2 (k+1) p5:=S2.keep _ _ _ h24 (fun o e=>s5.extBut _ _ D.a9.symm e) (fun o e=>s5.extBut _ _ D.b6 e)
 have lz:z<p5.objs.size:=Heap.lt_size z5
 show wpAny _ _ (Builtin.SmallTypes.ownedTupleHandOut (.ref z) (.ref p5.objs.size) >>= _) _ _ (_:Shared)
 refine wpAny_bind ?_
 unfold Builtin.SmallTypes.ownedTupleHandOut
 have z6:IsZip (p5.push { cls:=.type "tuple",data:=.seq #[x,y] }) z ti to .ellipsis:=Heap.get?_push_of_some _ z5
 refine wpAny_bind (wpAny_setField_rec z6 (by simp) fun p7 z7 s7=>?_)
 replace z7:IsZip p7 z ti to (rawInt p5.objs.size):=z7
 refine wpAny_setField_rec z7 (by simp) fun p8 z8 s8=>?_
 replace z8:IsZip p8 z ti to (rawInt p5.objs.size):=z8
 have up:∀c o,c≠z->p5.get? c=some o->p8.get? c=some o:=fun c o c1 e=>s8.extBut _ _ c1 (s7.extBut _ _ c1 (Heap.get?_push_of_some _ e))
 have w8:IsPair p8 p5.objs.size x y:=s8.extBut _ _ (Nat.ne_of_gt lz) (s7.extBut _ _ (Nat.ne_of_gt lz) (Heap.get?_push_size _ rfl))
 have n8:p8.objs.size=p5.objs.size+1:=by rw [s8.1,s7.1,Heap.size_push]
 rw [gs] at z8 w8 n8
 refine wpAny_pure ⟨_,rfl,?_⟩
 show Q (.ref p5.objs.size) _
 rw [gs]
 exact q p8 z8 (up _ _ D.a2 o5) (S1.keep _ _ _ h15 (fun o e=>up _ o D.a3 e) (fun o e=>up _ o D.b1 e)) (S2.keep _ _ _ h25 (fun o e=>up _ o D.a4 e) (fun o e=>up _ o D.b5 e)) w8 n8 fun c o c1 c2 c3 c4 e=>up c o c1 (k5 c o c1 c2 c3 c4 e)
theorem zip_end {z ti to j1 j2 m1 m2:Addr} {t1 t2:Nat->Heap->Prop} {v1 v2:Nat->Option Value} {k:Nat} {a b:Value} {Q:Fin->Shared->Prop} (D:Apart z ti to j1 j2 m1 m2) (S1:Stp P w A j1 m1 t1 v1) (S2:Stp P w A j2 m2 t2 v2)
  (gz:IsZip s.heap z ti to .none) (gi:IsPair s.heap ti (.ref j1) (.ref j2)) (go:IsPair s.heap to a b) (h1:t1 k s.heap) (h2:t2 k s.heap) (hend:v1 k=none\/v2 k=none)
  (q:∀h' e,(∀c o,c≠z->c≠to->c≠j1->c≠j2->s.heap.get? c=some o->h'.get? c=some o)->(∃o,h'.get? e=some o/\o.cls=.type "StopIteration")->E (.ref e) { s with heap:=h' }) :
  wpAny (model P w) A (Builtin.«zip.__next__» ⟨[.ref z],[]⟩) Q E s:=by
 show wpAny _ _ (field (.ref z) 2 >>= _) _ _ (_:Shared)
 refine wpAny_bind (wpAny_field gz rfl (x:=.bool false) rfl ?_)
 show wpAny _ _ (field (.ref z) 3 >>= _) _ _ (_:Shared)
 refine wpAny_bind (wpAny_field gz rfl (x:=.ref ti) rfl ?_)
 refine wpAny_bind (wpAny_seqItems gi rfl ?_)
 show wpAny _ _ (Builtin.SmallTypes.ownedTupleIsFree (.ref z) >>= _) _ _ (_:Shared)
 refine wpAny_bind ?_
 unfold Builtin.SmallTypes.ownedTupleIsFree
 refine wpAny_bind (wpAny_field gz rfl (x:=.none) rfl (wpAny_pure ?_))
 simp only [if_true]
 refine wpAny_bind (wpAny_rule ?_)
 refine wpAny_bind (wpAny_field gz rfl (x:=.ref to) rfl ?_)
 refine wpAny_bind (wpAny_setField_rec gz (by simp) fun p1 z1 s1=>?_)
 replace z1:IsZip p1 z ti to .ellipsis:=z1
 refine wpAny_bind ?_
 simp only [List.zipIdx_cons,List.zipIdx_nil,List.forIn_cons,List.forIn_nil]
 refine wpAny_bind (wpAny_bind (wpAny_onRaise ?_))
 show wpAny _ _ (Builtin.SmallTypes.nextOf (.ref j1) >>= _) _ _ (_:Shared)
 have h11:t1 k p1:=S1.keep k _ _ h1 (fun o e=>s1.extBut _ _ D.a3 e) (fun o e=>s1.extBut _ _ D.b1 e)
 cases hx:v1 k with
 |none =>
  refine wpAny_bind (S1.stop k _ _ _ h11 hx fun p2 e s2 he=>?_)
  obtain ⟨oe,g1,g2⟩:=he
  have z2:IsZip p2 z ti to .ellipsis:=s2 _ _ D.a3.symm z1
  have ne:e≠z:=fun u=>by subst u;rw [z2] at g1;cases g1;simp at g2
  refine wpAny_setField_rec z2 (by simp) fun p3 _ s3=>q p3 e (fun c o c1 _ c3 _ u=>s3.extBut _ _ c1 (s2 _ _ c3 (s1.extBut _ _ c1 u))) ⟨oe,s3.extBut _ _ ne g1,g2⟩
 |some x =>
  have hy:v2 k=none:=by
   rcases hend with h|h
   ·rw [hx] at h;cases h
   ·exact h
  refine wpAny_bind (S1.item k _ _ _ x h11 hx fun p2 h12 s2=>wpAny_pure ?_)
  have o2:IsPair p2 to a b:=s2.extBut _ _ D.a8 (s1.extBut _ _ D.a2 go)
  refine wpAny_bind (wpAny_seqItems o2 rfl ?_)
  refine wpAny_bind (wpAny_updateSeq_pair o2 fun p3 o3 s3=>?_)
  refine wpAny_bind (wpAny_letGo (wpAny_pure ?_))
  refine wpAny_bind (wpAny_bind (wpAny_onRaise ?_))
  show wpAny _ _ (Builtin.SmallTypes.nextOf (.ref j2) >>= _) _ _ (_:Shared)
  refine wpAny_bind (S2.stop k _ _ _ (S2.keep k _ _ h2 (fun o e=>s3.extBut _ _ D.a9.symm (s2.extBut _ _ D.b0.symm (s1.extBut _ _ D.a4 e))) (fun o e=>s3.extBut _ _ D.b6 (s2.extBut _ _ D.b7 (s1.extBut _ _ D.b5 e)))) hy fun p4 e s4 he=>?_)
  obtain ⟨oe,g1,g2⟩:=he
  have z4:IsZip p4 z ti to .ellipsis:=s4 _ _ D.a4.symm (s3.extBut _ _ D.a2.symm (s2.extBut _ _ D.a3.symm z1))
  have ne:e≠z:=fun u=>by subst u;rw [z4] at g1;cases g1;simp at g2
  refine wpAny_setField_rec z4 (by simp) fun p5 _ s5=>q p5 e (fun c o c1 c2 c3 c4 u=>s5.extBut _ _ c1 (s4 _ _ c4 (s3.extBut _ _ c2 (s2.extBut _ _ c3 (s1.extBut _ _ c1 u))))) ⟨oe,s5.extBut _ _ ne g1,g2⟩
theorem next_item {z ti to j1 j2 m1 m2:Addr} {t1 t2:Nat->Heap->Prop} {v1 v2:Nat->Option Value} {k:Nat} {x y a b:Value} {Q:Option Value->Shared->Prop} (D:Apart z ti to j1 j2 m1 m2) (S1:Stp P w A.in1 j1 m1 t1 v1) (S2:Stp P w A.in1 j2 m2 t2 v2)
  (gz:IsZip s.heap z ti to .none) (gi:IsPair s.heap ti (.ref j1) (.ref j2)) (go:IsPair s.heap to a b) (h1:t1 k s.heap) (h2:t2 k s.heap) (hx:v1 k=some x) (hy:v2 k=some y)
  (q:∀h',IsZip h' z ti to (rawInt s.heap.objs.size)->IsPair h' to x y->t1 (k+1) h'->t2 (k+1) h'->IsPair h' s.heap.objs.size x y->h'.objs.size=s.heap.objs.size+1 ->
   (∀c o,c≠z->c≠to->c≠j1->c≠j2->s.heap.get? c=some o->h'.get? c=some o)->Q (some (.ref s.heap.objs.size)) { s with heap:=h' }):wpAny (model P w) A (pyNext (.ref z)) Q E s:=by
 have hT:s.TypeIs (.ref z) "zip":=⟨_,gz,rfl⟩
 unfold pyNext
 exact wpAny_bind (wpAny_attempt (wpAny_callSpecial?_slot (name:=Str.ofString "__next__") hT F.slot_zip_next
  (wpAny_call_entry F.slot_zip_next hT F.entry_zip_next (zip_item D S1 S2 gz gi go h1 h2 hx hy fun h' a1 a2 a3 a4 a5 a6 a7=>wpAny_pure (q h' a1 a2 a3 a4 a5 a6 a7)) (F.args_zip_next_1 _))))
theorem next_end {z ti to j1 j2 m1 m2:Addr} {t1 t2:Nat->Heap->Prop} {v1 v2:Nat->Option Value} {k:Nat} {a b:Value} {Q:Option Value->Shared->Prop} (D:Apart z ti to j1 j2 m1 m2) (S1:Stp P w A.in1 j1 m1 t1 v1) (S2:Stp P w A.in1 j2 m2 t2 v2)
  (gz:IsZip s.heap z ti to .none) (gi:IsPair s.heap ti (.ref j1) (.ref j2)) (go:IsPair s.heap to a b) (h1:t1 k s.heap) (h2:t2 k s.heap) (hend:v1 k=none\/v2 k=none)
  (q:∀h',(∀c o,c≠z->c≠to->c≠j1->c≠j2->s.heap.get? c=some o->h'.get? c=some o)->Q none { s with heap:=h' }):wpAny (model P w) A (pyNext (.ref z)) Q E s:=by
 have hT:s.TypeIs (.ref z) "zip":=⟨_,gz,rfl⟩
 unfold pyNext
 refine wpAny_bind (wpAny_attempt (wpAny_callSpecial?_slot (name:=Str.ofString "__next__") hT F.slot_zip_next
  (wpAny_call_entry F.slot_zip_next hT F.entry_zip_next (zip_end D S1 S2 gz gi go h1 h2 hend fun h' e hk he=>?_) (F.args_zip_next_1 _))))
 obtain ⟨o,ho,hc⟩:=he
 exact wpAny_bind (wpAny_isInstance (T:="StopIteration") (b:=true) ⟨o,ho,hc⟩ isSubtype_stop (wpAny_pure (q _ hk)))
end
end HZ
namespace L2
open PySem PySem.Spec PyProof.Rows
theorem sqT_ne {X:Cx} {pins:List (Addr×Obj)} {σ:St} {H:Hp} {s:Shared} {a b:Addr} {xs:List V} (I:Inv X pins σ H s) (h:SqT X.K H a xs) (f:FpOk X pins H b):a≠b:=by
 rintro rfl
 obtain ⟨f0,_,_,f3,_⟩:=f
 rcases h with (h | ⟨o,h⟩) | ⟨o,its,n,hk,_⟩
 ·rw [f0] at h;cases h
 ·rw [f0] at h;cases h
 ·have hb:=I.mod.kin a o hk
  rcases f3 with z|z
  ·exact I.ok.noex a o hb z
  ·exact absurd (Nat.lt_of_lt_of_le (Heap.lt_size hb) (Nat.le_trans I.ok.bsz z)) (Nat.lt_irrefl _)
theorem Inv.turnedAll {X:Cx} {pins:List (Addr×Obj)} {σ:St} {H:Hp} {s:Shared} {h':Heap} {t':Nat} {ch:List Addr} (I:Inv X pins σ H s) (k:∀b o,b∉ch->s.heap.get? b=some o->h'.get? b=some o) (hf:∀b∈ch,FpOk X pins H b) :
  Inv X pins σ H { s with heap:=h',toks:=t' }:=by
 have nin:∀b u,H b=some u->b∉ch:=fun b u e z=>by rw [(hf b z).1] at e;cases e
 refine I.step (g':=s.gens) (d':=s.drawn) (ch:=ch) (fun b hb=>?_) (fun b o _ _ hc e _=>k b o hc e) (fun b o _ _ hc e _=>⟨o.slots,k b o hc e⟩) (fun _ _ _ _ n=>n) (fun b o hc e=>⟨o,k b o hc e⟩) (fun _ _ e=>e) (fun _ _ _ e=>e)
  (fun b ps e=>⟨#[],by rw [e];simp⟩) (fun m hm=>?_) (fun b u e=>?_) I.bare
 ·obtain ⟨_,f1,_,f3,f4,f5⟩:=hf b hb
  exact ⟨f3,f1,f4,f5⟩
 ·obtain ⟨o,es,ep,ho,r⟩:=hm
  exact ⟨o,es,ep,k _ o (fun z=>(hf _ z).2.1 rfl) ho,r⟩
 ·refine (I.hok b u e).stay (fun c v hc q=>k c v ?_ q) (fun _ q=>q) fun _ _ q=>q
  rcases hc with z|z
  ·rw [z];exact nin b u e
  ·exact nin c _ z
theorem Inv.turnedLay {X:Cx} {pins:List (Addr×Obj)} {σ:St} {H:Hp} {s:Shared} {h':Heap} {t':Nat} {ch:List Addr} {p:Addr} {u:HO} (I:Inv X pins σ H s) (k:∀b o,b∉ch->s.heap.get? b=some o->h'.get? b=some o) (hf:∀b∈ch,FpOk X pins H b)
  (hp:s.heap.objs.size<=p) (new:ObjOk X.prog X.w (upd H p u) h' p u):Inv X pins σ (upd H p u) { s with heap:=h',toks:=t' }:=by
 have hn:H p=none:=I.hok.fresh hp
 have hok:HOk X.prog X.w (upd H p u) h':=(I.turnedAll (t':=t') k hf).hok.adopt hn new
 refine I.step (g':=s.gens) (d':=s.drawn) (ch:=ch) (fun b hb=>?_) (fun b o _ _ hc e _=>k b o hc e) (fun b o _ _ hc e _=>⟨o.slots,k b o hc e⟩) (fun b o _ e n=>?_) (fun b o hc e=>⟨o,k b o hc e⟩) (fun c xs e=>by rw [upd_ne (ne_of_none e hn)];exact e) (fun c o v e=>by rw [upd_ne (ne_of_none e hn)];exact e)
  (fun c ps e=>⟨#[],by rw [upd_ne (ne_of_none e hn),e];simp⟩) (fun m hm=>?_) hok I.bare
 ·obtain ⟨_,f1,_,f3,f4,f5⟩:=hf b hb
  exact ⟨f3,f1,f4,f5⟩
 ·rw [upd_ne (Nat.ne_of_lt (Nat.lt_of_lt_of_le (Heap.lt_size e) hp))]
  exact n
 ·obtain ⟨o,es,ep,ho,r⟩:=hm
  exact ⟨o,es,ep,k _ o (fun z=>(hf _ z).2.1 rfl) ho,r⟩
noncomputable def ItzT (K:Frag) (a b:Addr):It :=
 ⟨fun i H=>∃xs ys x y,SqT K H a xs/\SqT K H b ys/\xs[i]?=some x/\ys[i]?=some y,fun i H v H'=>∃p x y,H p=none/\v=.ref p/\H'=upd H p (.tup [x,y])/\∀xs ys,SqT K H a xs->SqT K H b ys->xs[i]?=some x/\ys[i]?=some y,
  fun i H=>∃xs ys,SqT K H a xs/\SqT K H b ys/\(xs.length<=i\/ys.length<=i)⟩
structure ZipSt (it:Nat->Heap->Prop) (it2:Nat->Heap->Prop) (z ti to j1 j2:Addr) (i:Nat) (h:Heap):Prop where
 z:IsZip h z ti to .none
 ti:IsPair h ti (.ref j1) (.ref j2)
 to:∃u v,IsPair h to u v
 h1:it i h
 h2:it2 i h
structure Five (z ti to j1 j2:Addr):Prop where
 a1:ti≠z
 a2:to≠z
 a3:j1≠z
 a4:j2≠z
 a5:ti≠to
 a6:ti≠j1
 a7:ti≠j2
 a8:to≠j1
 a9:to≠j2
 b0:j1≠j2
theorem turn_zipT {P:Program} {w:World} {K:Frag} {elts:List Expr} {kk:Nat} {pos:Pos} (a b z ti to j1 j2:Addr) (F:Five z ti to j1 j2) :
  Turn P w K (.Tuple elts kk pos) (ItzT K a b) [z,ti,to,j1,j2] z (ZipSt (fun i h=>h.IsTupleIter j1 a i) (fun i h=>h.IsTupleIter j2 b i) z ti to j1 j2) where
 mem:=by simp
 obj:=fun i h st c hc=>by
  have hc':c=z\/c=ti\/c=to\/c=j1\/c=j2:=by simpa using hc
  rcases hc' with rfl|rfl|rfl|rfl|rfl
  ·exact ⟨_,st.z,fun v q=>nomatch q⟩
  ·exact ⟨_,st.ti,fun v q=>nomatch q⟩
  ·obtain ⟨u,v,q⟩:=st.to;exact ⟨_,q,fun v q=>nomatch q⟩
  ·obtain ⟨o,e,_,d⟩:=st.h1;exact ⟨o,e,fun v q=>by rw [d] at q;cases q⟩
  ·obtain ⟨o,e,_,d⟩:=st.h2;exact ⟨o,e,fun v q=>by rw [d] at q;cases q⟩
 keep:=fun i h h' st k=>⟨k z (by simp) _ st.z,k ti (by simp) _ st.ti,by obtain ⟨u,v,q⟩:=st.to;exact ⟨u,v,k to (by simp) _ q⟩,st.h1.at fun o e=>k j1 (by simp) o e,st.h2.at fun o e=>k j2 (by simp) o e⟩
 item:=by
  intro X hP hw hK hc i pins s σ H E I hf st hg
  subst hP hw hK
  obtain ⟨xs,ys,x,y,hx,hy,ex,ey⟩:=hg
  obtain ⟨i1,r1,p1,z1⟩:=I.tuple hx
  obtain ⟨i2,r2,p2,z2⟩:=I.tuple hy
  obtain ⟨u,eu,ru⟩:=r1.get ex
  obtain ⟨v,ev,rv⟩:=r2.get ey
  have ne:∀c∈[z,ti,to,j1,j2],a≠c/\b≠c:=fun c hcm=>⟨sqT_ne I hx (hf c hcm),sqT_ne I hy (hf c hcm)⟩
  have D:HZ.Apart z ti to j1 j2 a b:=⟨F.a1,F.a2,F.a3,F.a4,F.a5,F.a6,F.a7,F.a8,F.a9,F.b0,(ne z (by simp)).1,(ne to (by simp)).1,(ne j1 (by simp)).1,(ne j2 (by simp)).1,(ne z (by simp)).2,(ne to (by simp)).2,(ne j1 (by simp)).2,(ne j2 (by simp)).2⟩
  obtain ⟨w1,w2,hto⟩:=st.to
  have hh:X.A.in1.handled=none:=I.ok.hd hc
  refine HZ.next_item D (HZ.stp_tup hh j1 a i1.toArray) (HZ.stp_tup hh j2 b i2.toArray) st.z st.ti hto ⟨st.h1,p1⟩ ⟨st.h2,p2⟩ (by simpa using eu) (by simpa using ev) fun h' c1 c2 c3 c4 c5 c6 c7=>⟨_,rfl,?_⟩
  refine wpAny_letOwnedTupleGo_zip c1 fun h2 d1 d2=>?_
  have hn:H s.heap.objs.size=none:=I.hok.fresh (Nat.le_refl _)
  have zlt:z<s.heap.objs.size:=Heap.lt_size st.z
  have newT:IsTup h2 s.heap.objs.size #[u,v]:=⟨_,d2.extBut _ _ (Nat.ne_of_gt zlt) c5,rfl,_,rfl⟩
  have I2:Inv X pins σ (upd H s.heap.objs.size (.tup [x,y])) { s with heap:=h2,toks:=s.toks }:=I.turnedLay (ch:=[z,ti,to,j1,j2]) (fun c o hcn e=>by
   have q:c≠z/\c≠ti/\c≠to/\c≠j1/\c≠j2:=by simpa using hcn
   exact d2.extBut c o q.1 (c7 c o q.1 q.2.2.1 q.2.2.2.1 q.2.2.2.2 e)) hf (Nat.le_refl _) ⟨by show 2<=sizeLine;decide,[u,v],.cons ru (.cons rv .nil),newT⟩
  refine ⟨.ref s.heap.objs.size,_,I2,rfl,⟨_,x,y,hn,rfl,rfl,fun xs' ys' q1 q2=>?_⟩,?_,fun c hcm=>?_⟩
  ·rw [I.tuple_inj q1 hx,I.tuple_inj q2 hy];exact ⟨ex,ey⟩
  ·refine ⟨d1,d2.extBut _ _ F.a1 (c7 _ _ F.a1 F.a5 F.a6 F.a7 st.ti),⟨_,_,d2.extBut _ _ F.a2 c2⟩,c3.1.extBut d2.extBut F.a3,c4.1.extBut d2.extBut F.a4⟩
  ·rw [upd_ne]
   ·exact (hf c hcm).1
   ·intro e
    obtain ⟨o,eo⟩:∃o,s.heap.get? c=some o:=by
     have hc':c=z\/c=ti\/c=to\/c=j1\/c=j2:=by simpa using hcm
     rcases hc' with q|q|q|q|q
     ·rw [q];exact ⟨_,st.z⟩
     ·rw [q];exact ⟨_,st.ti⟩
     ·rw [q];exact ⟨_,hto⟩
     ·rw [q];obtain ⟨o,e,_⟩:=st.h1;exact ⟨o,e⟩
     ·rw [q];obtain ⟨o,e,_⟩:=st.h2;exact ⟨o,e⟩
    exact absurd (Heap.lt_size eo) (by rw [e];exact Nat.lt_irrefl _)
 done:=by
  intro X hP hw hK hc i pins s σ H E I hf st hg
  subst hP hw hK
  obtain ⟨xs,ys,hx,hy,hle⟩:=hg
  obtain ⟨i1,r1,p1,z1⟩:=I.tuple hx
  obtain ⟨i2,r2,p2,z2⟩:=I.tuple hy
  have ne:∀c∈[z,ti,to,j1,j2],a≠c/\b≠c:=fun c hcm=>⟨sqT_ne I hx (hf c hcm),sqT_ne I hy (hf c hcm)⟩
  have D:HZ.Apart z ti to j1 j2 a b:=⟨F.a1,F.a2,F.a3,F.a4,F.a5,F.a6,F.a7,F.a8,F.a9,F.b0,(ne z (by simp)).1,(ne to (by simp)).1,(ne j1 (by simp)).1,(ne j2 (by simp)).1,(ne z (by simp)).2,(ne to (by simp)).2,(ne j1 (by simp)).2,(ne j2 (by simp)).2⟩
  obtain ⟨w1,w2,hto⟩:=st.to
  have hh:X.A.in1.handled=none:=I.ok.hd hc
  have l1:=r1.length
  have l2:=r2.length
  refine HZ.next_end D (HZ.stp_tup hh j1 a i1.toArray) (HZ.stp_tup hh j2 b i2.toArray) st.z st.ti hto ⟨st.h1,p1⟩ ⟨st.h2,p2⟩ ?_ fun h' c7=>⟨rfl,I.turnedAll (t':=s.toks) (ch:=[z,ti,to,j1,j2]) (fun c o hcn e=>by
   have q:c≠z/\c≠ti/\c≠to/\c≠j1/\c≠j2:=by simpa using hcn
   exact c7 c o q.1 q.2.2.1 q.2.2.2.1 q.2.2.2.2 e) hf⟩
  rcases hle with q|q
  ·left;simp;omega
  ·right;simp;omega
 self:=fun A i s Q E st h=>wpAny_pyIter_zip st.z h
end L2
namespace HZ
open PySem PySem.Spec PyProof.Rows
noncomputable abbrev y1 (h:Heap) (m1:Addr):Heap:=h.push { cls:=.type "tuple_iterator",data:=.fields #[.ref m1,.int 0 0] }
noncomputable abbrev y2 (h:Heap) (m1 m2:Addr):Heap:=(y1 h m1).push { cls:=.type "tuple_iterator",data:=.fields #[.ref m2,.int 0 0] }
noncomputable abbrev y3 (h:Heap) (m1 m2:Addr):Heap:=(y2 h m1 m2).push { cls:=.type "tuple",data:=.seq #[.ref h.objs.size,.ref (y1 h m1).objs.size] }
noncomputable abbrev y4 (h:Heap) (m1 m2:Addr):Heap:=(y3 h m1 m2).push { cls:=.type "tuple",data:=.seq #[.none,.none] }
noncomputable abbrev y5 (h:Heap) (m1 m2:Addr):Heap:=(y4 h m1 m2).push { cls:=.type "zip",data:=.fields #[.none,.bool false,.bool false,.ref (y2 h m1 m2).objs.size,.ref (y3 h m1 m2).objs.size] }
theorem meets_tups (m1 m2:Addr) (xs ys:Array Value) :
  Meets (Builtin.«zip.__new__» ⟨[.type "zip",.ref m1,.ref m2],[]⟩) (fun _ R s=>s.heap.IsTuple m1 xs/\s.heap.IsTuple m2 ys/\R (.ok (.ret (.ref (y4 s.heap m1 m2).objs.size))) { s with heap:=y5 s.heap m1 m2 }) :=
 .of_wp fun prog w A R s h=>by
  obtain ⟨hp,g,d,tk,os⟩:=s;obtain ⟨h1,h2,h⟩:=h
  have hsub:=sub_zip
  have L1:Heap.IsTuple (Shared.heap ⟨hp,g,d,tk,os⟩) m1 xs:=h1
  have L2:Heap.IsTuple (Shared.heap ⟨hp.push { cls:=.type "tuple_iterator",data:=.fields #[.ref m1,.int 0 0] },g,d,tk,os⟩) m2 ys:=Heap.IsTuple.push h2 _
  wp_walk using wpAny_pyIter_tuple L1,wpAny_pyIter_tuple L2
  exact ⟨_,rfl,h⟩
section
variable {P:Program} {w:World} {A:Around} {E:Value->Shared->Prop} {s:Shared}
theorem call_zip_tups {m1 m2:Addr} {xs ys:Array Value} {Q:Value->Shared->Prop} (h1:s.heap.IsTuple m1 xs) (h2:s.heap.IsTuple m2 ys)
  (h:∀h',IsZip h' (s.heap.objs.size+4) (s.heap.objs.size+2) (s.heap.objs.size+3) .none->IsPair h' (s.heap.objs.size+2) (.ref s.heap.objs.size) (.ref (s.heap.objs.size+1)) ->
   IsPair h' (s.heap.objs.size+3) .none .none->h'.IsTupleIter s.heap.objs.size m1 0->h'.IsTupleIter (s.heap.objs.size+1) m2 0->h'.objs.size=s.heap.objs.size+5 ->
   (∀c o,s.heap.get? c=some o->h'.get? c=some o)->Q (.ref (s.heap.objs.size+4)) { s with heap:=h' }):wpAny (model P w) A (call (.type "zip") [.ref m1,.ref m2]) Q E s:=by
 refine callType_new F.called_zip (by decide) (F.typeCall_zip_2 _ _) (F.newCall_zip_2 _ _) (fun obj=>F.args_object_init_3 obj _ _) F.entry_zip_new (meets_tups m1 m2 xs ys) ⟨h1,h2,?_⟩
 have e1:(y1 s.heap m1).objs.size=s.heap.objs.size+1:=Heap.size_push ..
 have e2:(y2 s.heap m1 m2).objs.size=s.heap.objs.size+2:=by rw [Heap.size_push,e1]
 have e3:(y3 s.heap m1 m2).objs.size=s.heap.objs.size+3:=by rw [Heap.size_push,e2]
 have e4:(y4 s.heap m1 m2).objs.size=s.heap.objs.size+4:=by rw [Heap.size_push,e3]
 have e5:(y5 s.heap m1 m2).objs.size=s.heap.objs.size+5:=by rw [Heap.size_push,e4]
 have g5:(y5 s.heap m1 m2).get? (y4 s.heap m1 m2).objs.size=some _:=Heap.get?_push_size _ rfl
 have g4:(y5 s.heap m1 m2).get? (y3 s.heap m1 m2).objs.size=some _:=Heap.get?_push_of_some _ (Heap.get?_push_size _ rfl)
 have g3:(y5 s.heap m1 m2).get? (y2 s.heap m1 m2).objs.size=some _:=Heap.get?_push_of_some _ (Heap.get?_push_of_some _ (Heap.get?_push_size _ rfl))
 have g2:(y5 s.heap m1 m2).get? (y1 s.heap m1).objs.size=some _:=Heap.get?_push_of_some _ (Heap.get?_push_of_some _ (Heap.get?_push_of_some _ (Heap.get?_push_size _ rfl)))
 have g1:(y5 s.heap m1 m2).get? s.heap.objs.size=some _:=Heap.get?_push_of_some _ (Heap.get?_push_of_some _ (Heap.get?_push_of_some _ (Heap.get?_push_of_some _ (Heap.get?_push_size _ rfl))))
 show _/\_
 rw [e2,e3,e4] at g5
 rw [e1,e2] at g3
 rw [e3] at g4
 rw [e1] at g2
 rw [e4]
 exact ⟨⟨_,g5,rfl⟩,h _ g5 g3 g4 ⟨_,g1,rfl,rfl⟩ ⟨_,g2,rfl,rfl⟩ e5 fun c o q=>Heap.get?_push_of_some _ (Heap.get?_push_of_some _ (Heap.get?_push_of_some _ (Heap.get?_push_of_some _ (Heap.get?_push_of_some _ q))))⟩
end
end HZ
namespace L2
open PySem PySem.Spec PyProof.Rows
theorem five_new (n:Nat):Five (n+4) (n+2) (n+3) n (n+1):=by constructor<;>(show (_:Nat)≠_)<;>omega
section
variable {X:Cx} {elts:List Expr} {kk:Nat} {tp:Pos}
noncomputable def iZipT (K:Frag) (ta:TA):TI:=fun σ H R=>ta σ H fun vs H1=>∃a b xs ys,vs=[.ref a,.ref b]/\SqT K H1 a xs/\SqT K H1 b ys/\R (ItzT K a b) H1
theorem boot_zip':bootBuiltins "zip"=some (.type "zip"):=by decide +kernel
theorem fp_new {pins:List (Addr×Obj)} {σ:St} {H:Hp} {s:Shared} (I:Inv X pins σ H s):∀b∈[s.heap.objs.size+4,s.heap.objs.size+2,s.heap.objs.size+3,s.heap.objs.size,s.heap.objs.size+1],FpOk X pins H b:=fun b hb=>by
 have hb':s.heap.objs.size<=b:=by
  have q:b=s.heap.objs.size+4\/b=s.heap.objs.size+2\/b=s.heap.objs.size+3\/b=s.heap.objs.size\/b=s.heap.objs.size+1:=by simpa using hb
  omega
 exact I.fpOk hb' (I.hok.fresh hb')
theorem pi_zipT {a b:Expr} {ta:TA} {p pos:Pos} (hg:Gl X "zip") (hm:X.mg "zip"=none) (ha:PA X [a,b] ta) (hs:starEach [a,b] X.env=[(false,eval a X.env),(false,eval b X.env)]:=by rfl) (hs2:starEach [b] X.env=[(false,eval b X.env)]:=by rfl) :
  PI X (.Tuple elts kk tp) (.Call (.Name "zip" p) [a,b] [] pos) (iZipT X.K ta):=by
 intro pins s σ H R I h
 refine Call_ (ld_blt I hg hm boot_zip' (PyProof.Rows.callWith_type1 (thn (ha pos pins s σ H _ I h) fun us s1 ⟨vs,H1,I1,r1,q1⟩=>?_) (by rw [hs,hs2]) (by rw [hs2];rfl)))
 obtain ⟨a,b,xs,ys,e,hx,hy,q⟩:=q1
 subst e
 obtain ⟨u,v,rfl,ru,rv⟩:=vals2 r1
 cases ru
 cases rv
 obtain ⟨i1,_,p1,_⟩:=I1.tuple hx
 obtain ⟨i2,_,p2,_⟩:=I1.tuple hy
 refine HZ.call_zip_tups (xs:=i1.toArray) (ys:=i2.toArray) p1 p2 fun h' c1 c2 c3 c4 c5 c6 c7=>?_
 refine wpAny_pyIter_zip (s:={ s1 with heap:=h' }) c1 ?_
 exact ⟨_,[s1.heap.objs.size+4,s1.heap.objs.size+2,s1.heap.objs.size+3,s1.heap.objs.size,s1.heap.objs.size+1],_,_,H1,rfl,I1.kept (t':=s1.toks) c7,turn_zipT a b _ _ _ _ _ (five_new _),⟨c1,c2,⟨_,_,c3⟩,c4,c5⟩,fp_new I1,q⟩
end
end L2
namespace PySem
section
variable {P:Program} {w:World} {A:Around} {E:Value->Shared->Prop} {s:Shared}
end
end PySem
namespace L2
open PySem PySem.Spec PyProof.Rows
theorem map_getD (ns:List Int):(List.range ns.length).map (fun i=>ns.getD i 0)=ns:=by
 apply List.ext_getElem?
 intro i
 rw [List.getElem?_map]
 by_cases h:i<ns.length
 ·rw [List.getElem?_range h,List.getElem?_eq_getElem h]
  simp [List.getD,List.getElem?_eq_getElem h]
 ·rw [List.getElem?_eq_none (by simpa using h),List.getElem?_eq_none (by omega)]
  rfl
section
variable {X:Cx}
end
end L2
namespace L2
open PySem PySem.Spec PyProof.Rows
section
variable {κ:Type} [DecidableEq κ]
noncomputable def valV (kvs:List (κ×V)) (k:κ):Option V:=(kvs.find? fun kv=>decide (kv.1=k)).map (·.2)
noncomputable def putK (kvs:List (κ×V)) (k:κ) (v:V):List (κ×V) :=
 if (kvs.any fun kv=>decide (kv.1=k))=true then kvs.map (fun kv=>if kv.1=k then (kv.1,v) else kv) else kvs++[(k,v)]
theorem valV_pos {p:κ×V} {r:List (κ×V)} {k:κ} (e:p.1=k):valV (p::r) k=some p.2:=by simp [valV,List.find?_cons,e]
theorem valV_neg {p:κ×V} {r:List (κ×V)} {k:κ} (e:¬ p.1=k):valV (p::r) k=valV r k:=by simp [valV,List.find?_cons,e]
theorem valV_any (k:κ):∀kvs:List (κ×V),(kvs.any fun kv=>decide (kv.1=k))=(valV kvs k).isSome
 | []=>rfl
 |p::r=>by
  rw [List.any_cons]
  by_cases e:p.1=k
  ·simp only [valV_pos e,decide_eq_true e,Bool.true_or,Option.isSome_some]
  ·rw [valV_neg e,decide_eq_false e,Bool.false_or];exact valV_any k r
theorem length_putK (kvs:List (κ×V)) (k:κ) (v:V):(putK kvs k v).length<=kvs.length+1:=by
 unfold putK
 split
 ·rw [List.length_map];omega
 ·rw [List.length_append,List.length_cons,List.length_nil];omega
theorem RelO.isSome_eq {o:Option V} {u:Option Value} (r:RelO o u):o.isSome=u.isSome:=by
 cases o with
 |none=>cases u with
  |none=>rfl
  |some _=>exact (show False from r).elim
 |some _=>cases u with
  |none=>exact (show False from r).elim
  |some _=>rfl
theorem KV.val {kvs:List (κ×V)} {vs:List (κ×Value)} (r:KV kvs vs) (k:κ):RelO (valV kvs k) (valueAt vs k):=by
 unfold KV at r
 induction r with
 |nil=>exact True.intro
 | @cons p q ps qs h t ih =>
  obtain ⟨h1,h2⟩:=h
  by_cases e:p.1=k
  ·have e':q.1=k:=h1.symm.trans e
   have b:valueAt (q::qs) k=some q.2:=by simp [valueAt,List.find?_cons,e']
   rw [valV_pos e,b];exact h2
  ·have e':¬ q.1=k:=fun z=>e (h1.trans z)
   have b:valueAt (q::qs) k=valueAt qs k:=by simp [valueAt,List.find?_cons,e']
   rw [valV_neg e,b];exact ih
theorem KV.any {kvs:List (κ×V)} {vs:List (κ×Value)} (r:KV kvs vs) (k:κ):(kvs.any fun kv=>decide (kv.1=k))=vs.any fun kv=>decide (kv.1=k):=by
 unfold KV at r
 induction r with
 |nil=>rfl
 |cons h t ih=>rw [List.any_cons,List.any_cons,ih,h.1]
theorem KV.repl {kvs:List (κ×V)} {vs:List (κ×Value)} (r:KV kvs vs) (k:κ) {y:V} {u:Value} (ry:RelV y u) :
  KV (kvs.map fun kv=>if kv.1=k then (kv.1,y) else kv) (vs.map fun kv=>if kv.1=k then (kv.1,u) else kv):=by
 unfold KV at r |-
 induction r with
 |nil=>exact .nil
 | @cons p q ps qs h t ih =>
  rw [List.map_cons,List.map_cons]
  refine .cons ?_ ih
  obtain ⟨h1,h2⟩:=h
  by_cases e:p.1=k
  ·rw [if_pos e,if_pos (h1.symm.trans e)];exact ⟨h1,ry⟩
  ·rw [if_neg e,if_neg (fun z=>e (h1.trans z))];exact ⟨h1,h2⟩
theorem KV.put {kvs:List (κ×V)} {vs:List (κ×Value)} (r:KV kvs vs) (k:κ) {y:V} {u:Value} (ry:RelV y u):KV (putK kvs k y) (stored vs k u):=by
 unfold putK stored
 rw [r.any k]
 by_cases e:(vs.any fun kv=>decide (kv.1=k))=true
 ·rw [if_pos e,if_pos e];exact r.repl k ry
 ·rw [if_neg e,if_neg e];exact Paired.snoc r ⟨rfl,ry⟩
theorem KV.keys {kvs:List (κ×V)} {vs:List (κ×Value)} (r:KV kvs vs):kvs.map (·.1)=vs.map (·.1):=by
 unfold KV at r
 induction r with
 |nil=>rfl
 |cons h t ih=>rw [List.map_cons,List.map_cons,ih,h.1]
theorem KV.length {kvs:List (κ×V)} {vs:List (κ×Value)} (r:KV kvs vs):kvs.length=vs.length:=Paired.length r
end
theorem kV_is {P:Program} {w:World} {k:Key} {u:Value} (r:RelV (kV k) u):(mixKind P w).is k u=true:=by
 cases k with
 |inl i=>obtain ⟨t,e⟩:=(show ∃t,u=Value.int i t from r);subst e;exact mixKind_int P w i t
 |inr x=>obtain ⟨t,e⟩:=(show ∃t,u=Value.str x t from r);subst e;exact mixKind_str P w x t
theorem items_are {P:Program} {w:World}:∀{ks:List Key} {us:List Value},Vals (ks.map kV) us->ItemsAre (mixKind P w) ks us
 | [],_,r=>by rw [List.map_nil] at r;cases r;exact .nil
 |k::ks,_,r=>by
  rw [List.map_cons] at r
  cases r with
  |cons h t=>exact .cons (kV_is h) (items_are t)
noncomputable abbrev KT (H:Hp):List (List Key×V)->List (List Key×Addr×Value)->Prop:=Paired fun p q=>p.1=q.1/\H q.2.1=some (.tup (p.1.map kV))/\RelV p.2 q.2.2
theorem KT.val {H:Hp} {kvs:List (List Key×V)} {xs:List (List Key×Addr×Value)} (r:KT H kvs xs) (k:List Key):RelO (valV kvs k) ((atKey xs k).map (·.2)):=by
 induction r with
 |nil=>exact True.intro
 | @cons p q ps qs h t ih =>
  obtain ⟨h1,_,h2⟩:=h
  by_cases e:p.1=k
  ·have e':q.1=k:=h1.symm.trans e
   have b:atKey (q::qs) k=some q.2:=by simp [atKey,List.find?_cons,e']
   rw [valV_pos e,b];exact h2
  ·have e':¬ q.1=k:=fun z=>e (h1.trans z)
   have b:atKey (q::qs) k=atKey qs k:=by simp [atKey,List.find?_cons,e']
   rw [valV_neg e,b];exact ih
theorem KT.repl {H:Hp} {kvs:List (List Key×V)} {xs:List (List Key×Addr×Value)} (r:KT H kvs xs) (k:List Key) {y:V} {u:Value} (ry:RelV y u) :
  KT H (kvs.map fun kv=>if kv.1=k then (kv.1,y) else kv) (xs.map (putAt k u)):=by
 induction r with
 |nil=>exact .nil
 | @cons p q ps qs h t ih =>
  rw [List.map_cons,List.map_cons]
  refine .cons ?_ ih
  obtain ⟨h1,h2,h3⟩:=h
  unfold putAt
  by_cases e:p.1=k
  ·rw [if_pos e,if_pos (h1.symm.trans e)];exact ⟨h1,h2,ry⟩
  ·rw [if_neg e,if_neg (fun z=>e (h1.trans z))];exact ⟨h1,h2,h3⟩
theorem KT.put {H:Hp} {kvs:List (List Key×V)} {xs:List (List Key×Addr×Value)} (r:KT H kvs xs) (k:List Key) {b:Addr} {y:V} {u:Value} (hb:H b=some (.tup (k.map kV))) (ry:RelV y u) :
  KT H (putK kvs k y) (storedH xs k b u):=by
 have e:(kvs.any fun kv=>decide (kv.1=k))=(atKey xs k).isSome:=by
  rw [valV_any,(r.val k).isSome_eq,Option.isSome_map]
 unfold putK storedH
 rw [e]
 by_cases q:(atKey xs k).isSome=true
 ·rw [if_pos q,if_pos q];exact r.repl k ry
 ·rw [if_neg q,if_neg q];exact Paired.snoc r ⟨rfl,hb,ry⟩
theorem KT.keeps {H H':Hp} {kvs:List (List Key×V)} {xs:List (List Key×Addr×Value)} (r:KT H kvs xs) (ht:∀b ys,H b=some (.tup ys)->H' b=some (.tup ys)):KT H' kvs xs :=
 Paired.mapP r fun _ _ z=>⟨z.1,ht _ _ z.2.1,z.2.2⟩
section
variable {P:Program} {w:World} {H:Hp} {h:Heap} {a:Addr}
theorem rd_of {u:HO} (ok:HOk P w H h) (e:Rd H a u):ObjOk P w H h a u:=e.ok ok
theorem dk_rd {kvs:List (Key×V)} (ok:HOk P w H h) (e:Rd H a (.dK kvs)):kvs.length<=sizeLine/\(a==sysModules)=false/\∃vs,KV kvs vs/\h.DictOf (mixKind P w) a vs :=
 show ObjOk P w H h a (.dK kvs) from rd_of ok e
theorem dk_of {kvs:List (Key×V)} (ok:HOk P w H h) (e:H a=some (.dK kvs)):kvs.length<=sizeLine/\(a==sysModules)=false/\∃vs,KV kvs vs/\h.DictOf (mixKind P w) a vs:=dk_rd ok (.inl e)
theorem key_of {ks:List Key} (ok:HOk P w H h) (e:H a=some (.tup (ks.map kV))):(tupleKind (mixKind P w)).is h ks a:=by
 obtain ⟨_,its,r,o,h1,h2,n,h3⟩:=(show ObjOk P w H h a (.tup (ks.map kV)) from ok a _ e)
 exact ⟨o,its.toArray,n,h1,h2,h3,by simpa using items_are r⟩
theorem dt_rd {kvs:List (List Key×V)} (ok:HOk P w H h) (e:Rd H a (.dT kvs)):kvs.length<=sizeLine/\(a==sysModules)=false /\
  ∃xs,KT H kvs xs/\h.DictOfH (tupleKind (mixKind P w)) a xs:=by
 obtain ⟨z,y,xs,r,o,es,ep,h1,h2,h3,h4,h5⟩:=(show ObjOk P w H h a (.dT kvs) from rd_of ok e)
 refine ⟨z,y,xs,r,o,es,ep,h1,h2,h3,h4,fun x hx=>?_,h5⟩
 have all:∀{l:List (List Key×V)} {m:List (List Key×Addr×Value)},KT H l m->∀x∈m,(tupleKind (mixKind P w)).is h x.1 x.2.1:=by
  intro l m q
  induction q with
  |nil=>intro x hx;exact nomatch hx
  | @cons p q ps qs hq t ih =>
   intro x hx
   rcases List.mem_cons.mp hx with e|hx
   ·subst e
    exact key_of ok (by rw [<- hq.1];exact hq.2.1)
   ·exact ih x hx
 exact all r x hx
theorem dt_of {kvs:List (List Key×V)} (ok:HOk P w H h) (e:H a=some (.dT kvs)):kvs.length<=sizeLine/\(a==sysModules)=false /\
  ∃xs,KT H kvs xs/\h.DictOfH (tupleKind (mixKind P w)) a xs:=dt_rd ok (.inl e)
end
def DGet (H:Hp) (a:Addr) (y:V) (r:Option V):Prop :=
 (∃kvs k,Rd H a (.dK kvs)/\y=kV k/\r=valV kvs k)\/∃kvs k b,Rd H a (.dT kvs)/\y=.ref b/\H b=some (.tup (k.map kV))/\r=valV kvs k
def DPut (H:Hp) (a:Addr) (y v:V) (H':Hp):Prop :=
 (∃kvs k,H a=some (.dK kvs)/\y=kV k/\kvs.length<sizeLine/\H'=upd H a (.dK (putK kvs k v))) \/
 ∃kvs k b,H a=some (.dT kvs)/\y=.ref b/\H b=some (.tup (k.map kV))/\kvs.length<sizeLine/\H'=upd H a (.dT (putK kvs k v))
theorem DGet.k {H:Hp} {a:Addr} {kvs:List (Key×V)} {k:Key} (e:H a=some (.dK kvs)):DGet H a (kV k) (valV kvs k):=.inl ⟨kvs,k,.inl e,rfl,rfl⟩
theorem DPut.k {H:Hp} {a:Addr} {kvs:List (Key×V)} {k:Key} {v:V} (e:H a=some (.dK kvs)) (hl:kvs.length<sizeLine):DPut H a (kV k) v (upd H a (.dK (putK kvs k v))):=.inl ⟨kvs,k,e,rfl,hl,rfl⟩
section
variable {X:Cx} {pins:List (Addr×Obj)} {σ:St} {H:Hp} {s:Shared} {a:Addr} {y v:V} {u r:Value} {o:Option V} {A:Around} {E:Value->Shared->Prop}
theorem Inv.big (I:Inv X pins σ H s):sysModules<s.heap.objs.size:=by
 have h:mainGlobals<s.heap.objs.size:=(I.mod.glob.keeps I.bk).lt
 exact Nat.lt_trans (by decide) h
theorem d_getItem {Q:Value->Shared->Prop} (hu:A.units+1<cLine) (I:Inv X pins σ H s) (g:DGet H a y (some v)) (ry:RelV y u) (h:∀w' s',Inv X pins σ H s'->RelV v w'->Q w' s') :
  wpAny (model X.prog X.w) A (getItem (.ref a) u) Q E s:=by
 rcases g with ⟨kvs,k,e,ey,l⟩ | ⟨kvs,k,b,e,ey,eb,l⟩
 ·subst ey
  obtain ⟨z,hd,vs,rel,dd⟩:=dk_rd I.hok e
  obtain ⟨w',hw,rw'⟩:=RelO.some_of (v:=v) (o:=valueAt vs k) (by rw [l];exact rel.val k)
  exact wpAny_getItem_of (kV_is ry) dd.mapOf hw (h w' _ (I.tok _) rw')
 ·subst ey
  cases (show u=Value.ref b from ry)
  obtain ⟨z,hd,xs,rel,dd⟩:=dt_rd I.hok e
  obtain ⟨w',hw,rw'⟩:=RelO.some_of (v:=v) (o:=(atKey xs k).map (·.2)) (by rw [l];exact rel.val k)
  obtain ⟨p,hp,hp2⟩:=Option.map_eq_some_iff.mp hw
  refine wpAny_getItem_heap (tupleKind_room_in1 hu) (key_of I.hok eb) dd hp ?_
  rw [hp2]
  exact h w' _ (I.tok _) rw'
theorem d_in {Q:Value->Shared->Prop} (hu:A.units+1<cLine) (I:Inv X pins σ H s) (g:DGet H a y o) (ry:RelV y u) (h:∀s',Inv X pins σ H s'->Q (.bool o.isSome) s') :
  wpAny (model X.prog X.w) A (compareOp .In u (.ref a)) Q E s:=by
 rcases g with ⟨kvs,k,e,ey,l⟩ | ⟨kvs,k,b,e,ey,eb,l⟩
 ·subst ey
  obtain ⟨z,hd,vs,rel,dd⟩:=dk_rd I.hok e
  refine wpAny_in_of (kV_is ry) hd dd.mapOf ?_
  rw [<- (rel.val k).isSome_eq,<- l]
  exact h _ (I.tok _)
 ·subst ey
  cases (show u=Value.ref b from ry)
  obtain ⟨z,hd,xs,rel,dd⟩:=dt_rd I.hok e
  refine wpAny_in_heap (tupleKind_room_in1 hu) (key_of I.hok eb) hd dd ?_
  have q:=(rel.val k).isSome_eq
  rw [Option.isSome_map] at q
  rw [<- q,<- l]
  exact h _ (I.tok _)
theorem d_notIn {Q:Value->Shared->Prop} (hu:A.units+1<cLine) (I:Inv X pins σ H s) (g:DGet H a y o) (ry:RelV y u) (h:∀s',Inv X pins σ H s'->Q (.bool (!o.isSome)) s') :
  wpAny (model X.prog X.w) A (compareOp .NotIn u (.ref a)) Q E s:=by
 rcases g with ⟨kvs,k,e,ey,l⟩ | ⟨kvs,k,b,e,ey,eb,l⟩
 ·subst ey
  obtain ⟨z,hd,vs,rel,dd⟩:=dk_rd I.hok e
  refine wpAny_notIn_of (kV_is ry) hd dd.mapOf ?_
  rw [<- (rel.val k).isSome_eq,<- l]
  exact h _ (I.tok _)
 ·subst ey
  cases (show u=Value.ref b from ry)
  obtain ⟨z,hd,xs,rel,dd⟩:=dt_rd I.hok e
  refine wpAny_notIn_heap (tupleKind_room_in1 hu) (key_of I.hok eb) hd dd ?_
  have q:=(rel.val k).isSome_eq
  rw [Option.isSome_map] at q
  rw [<- q,<- l]
  exact h _ (I.tok _)
theorem d_write {h':Heap} {t':Nat} {ob:HO} (I:Inv X pins σ H s) (mu:Mut (H a)) (hs:Heap.SameBut a s.heap h') (he:∃q,h'.get? a=some q) (new:ObjOk X.prog X.w (upd H a ob) h' a ob) :
  Inv X pins σ (upd H a ob) { s with heap:=h',toks:=t' } :=
 I.write (x:=a) (e:=a) mu (.inl rfl) (fun b q hb z=>(hs.2 b hb).trans z) he new
theorem dk_new {P:Program} {w:World} {H':Hp} {h':Heap} {kvs:List (Key×V)} {vs:List (Key×Value)} (z:kvs.length<=sizeLine) (hd:(a==sysModules)=false) (rel:KV kvs vs) (dd:h'.DictOf (mixKind P w) a vs) :
  ObjOk P w H' h' a (.dK kvs):=⟨z,hd,vs,rel,dd⟩
theorem d_setItem {H':Hp} {Q:Unit->Shared->Prop} (hu:A.units+1<cLine) (I:Inv X pins σ H s) (g:DPut H a y v H') (ry:RelV y u) (rv:RelV v r) (h:∀s',Inv X pins σ H' s'->Q () s') :
  wpAny (model X.prog X.w) A (setItem (.ref a) u r) Q E s:=by
 rcases g with ⟨kvs,k,e,ey,l,eH⟩ | ⟨kvs,k,b,e,ey,eb,l,eH⟩
 ·subst ey eH
  obtain ⟨z,hd,vs,rel,dd⟩:=dk_of I.hok e
  have hz:vs.length<=sizeLine:=by rw [<- rel.length];exact z
  have hl:(putK kvs k v).length<=sizeLine:=by have:=length_putK kvs k v;omega
  refine wpAny_setItem_pairs (hsz:=hz) (kV_is ry) dd fun h' dd' hs=>h _ ?_
  have he:∃q,h'.get? a=some q:=let ⟨q,_,_,hq,_⟩:=dd';⟨q,hq⟩
  exact d_write I (by rw [e];exact True.intro) hs he (dk_new hl hd (rel.put k rv) dd')
 ·subst ey eH
  cases (show u=Value.ref b from ry)
  obtain ⟨z,hd,xs,rel,dd⟩:=dt_of I.hok e
  have hz:xs.length<=sizeLine:=by rw [<- Paired.length rel];exact z
  have hl:(putK kvs k v).length<=sizeLine:=by have:=length_putK kvs k v;omega
  refine wpAny_setItem_heap (hsz:=hz) (tupleKind_room_in1 hu) (key_of I.hok eb) dd fun h' dd' hs=>h _ ?_
  obtain ⟨q,es,ep,hq,h2,h3,h4,_,h5⟩:=dd'
  refine d_write I (by rw [e];exact True.intro) hs ⟨q,hq⟩ ⟨hl,hd,_,(rel.put k eb rv).keeps fun c ys ec=>?_,q,es,ep,hq,h2,h3,h4,h5⟩
  rw [upd_ne (ne_of ec e (fun z=>nomatch z))]
  exact ec
end
section
variable {X:Cx} {pins:List (Addr×Obj)} {σ:St} {H:Hp} {s:Shared} {a:Addr} {kvs:List (Key×V)} {k:Key} {u:Value} {A:Around} {E:Value->Shared->Prop}
end
def NoSl (i:Expr):Prop:=∀ov iv,subscripted i false ov iv=operate [ov,iv] (getItem ov iv)
theorem subD_of {prog:Program} {w:World} {A:Around} {E:Value->Shared->Prop} {s:Shared} {env:Env} {value slice:Expr} {pos:Pos} {T id:String} {Q:Value->Shared->Prop}
  (hl:typeLookup (.type T) "__getitem__"=pure (some (.builtin id))) (hs:NoSl slice)
  (h:wpAny (model prog w) A (eval value env) (fun o s₁=>wpAny (model prog w) A (eval slice env) (fun i s₂=>s₂.TypeIs o T/\wpAny (model prog w) A (getItem o i) Q E s₂) E s₁) E s) :
  wpAny (model prog w) A (eval (.Subscript value slice pos) env) Q E s:=by
 refine Subscript_ (wpAny_mono h (fun o s₁ h₁=>wpAny_mono h₁ (fun i s₂ h₂=>?_) fun _ _ x=>x) fun _ _ x=>x)
 obtain ⟨hT,h₂⟩:=h₂
 unfold subscriptTail
 refine wpAny_bind ?_
 rw [getitemInPython_of_ne hT.not_modules]
 refine wpAny_bind (wpAny_specialOf hT hl ?_)
 have fin:wpAny (model prog w) A (subscripted slice false o i) (fun r s₃=>wpAny (model prog w) A (letTemporaryGo value o r >>= fun _=>pure r) Q E s₃) E s₂:=by
  rw [hs o i]
  exact wpAny_operating (wpAny_mono h₂ (fun r s₃ h₃=>wpAny_bind (wpAny_letTemporaryGo (wpAny_pure h₃))) fun _ _ x=>x)
 first
  |exact wpAny_pure (wpAny_bind fin)
  |exact wpAny_bind (wpAny_pure (wpAny_bind fin))
  |exact wpAny_bind fin
theorem dict_typeIs {X:Cx} {pins:List (Addr×Obj)} {σ:St} {H:Hp} {s:Shared} {a:Addr} {y:V} {o:Option V} (I:Inv X pins σ H s) (g:DGet H a y o):s.TypeIs (.ref a) "dict":=by
 rcases g with ⟨kvs,k,e,_,_⟩ | ⟨kvs,k,b,e,_,_,_⟩
 ·obtain ⟨_,_,vs,_,dd⟩:=dk_rd I.hok e
  exact dd.typeIs
 ·obtain ⟨_,_,xs,_,dd⟩:=dt_rd I.hok e
  exact dd.typeIs
noncomputable def tDGet (td ty:TE):TE:=fun σ H Q=>td σ H fun x H1=>ty σ H1 fun y H2=>∃a v,x=.ref a/\DGet H2 a y (some v)/\Q v H2
noncomputable def sDPut (td ty tv:TE):TS:=fun D σ H=>tv σ H fun v H1=>td σ H1 fun x H2=>ty σ H2 fun y H3=>∃a H4,x=.ref a/\DPut H3 a y v H4/\D.nx σ H4
section
variable {X:Cx} {o i e value:Expr} {pos pos' tpos:Pos} {td ty tv:TE}
theorem pe_dget (hu:X.A.units+1<cLine) (ho:PE X o td) (hi:PE X i ty) (hs:NoSl i):PE X (.Subscript o i pos) (tDGet td ty):=by
 intro pins s σ H Q I h
 refine subD_of PySem.F.slot_dict_getitem.lookup hs (thn (ho pins s σ H _ I h) fun u s1 ⟨x,H1,I1,rx,q1⟩=>thn (hi pins s1 σ H1 _ I1 q1) fun iv s2 ⟨y,H2,I2,ry,a,v,ex,g,q2⟩=>?_)
 subst ex
 obtain rfl:u=Value.ref a:=rx
 exact ⟨dict_typeIs I2 g,d_getItem hu I2 g ry fun w' s3 I3 rw'=>⟨v,H2,I3,rw',q2⟩⟩
theorem ps_dput (hu:X.A.units+1<cLine) (ho:PE X o td) (hi:PE X i ty) (hv:PE X value tv) (hs:swapsWith value (some (.Subscript o i pos')) pos.line X.env=pure false) :
  PS X (.Assign [.Subscript o i pos'] value pos) (sDPut td ty tv):=by
 intro pins s σ H D I h
 refine wpAny_Assign_Subscript (thn (hv pins s σ H _ I h) fun r s1 ⟨v,H1,I1,rv,q1⟩=>thn (ho pins s1 σ H1 _ I1 q1) fun u s2 ⟨x,H2,I2,rx,q2⟩=>thn (hi pins s2 σ H2 _ I2 q2) fun iv s3 ⟨y,H3,I3,ry,a,H4,ex,g,q3⟩=>?_) hs
 subst ex
 obtain rfl:u=Value.ref a:=rx
 exact d_setItem hu I3 g ry rv fun s4 I4=>⟨σ,H4,I4,q3⟩
end
theorem dk_empty {P:Program} {w:World} {H:Hp} (h:Heap) (hb:sysModules<h.objs.size):ObjOk P w H (h.push { cls:=.type "dict",data:=.dict #[] }) h.objs.size (.dK []) :=
 ⟨Nat.zero_le _,beq_eq_false_iff_ne.mpr (Ne.symm (Nat.ne_of_lt hb)),[],.nil,Heap.DictOf.new h⟩
noncomputable def tDNewK:TE:=fun _ H Q=>∀p,H p=none->Q (.ref p) (upd H p (.dK []))
section
variable {X:Cx} {pos:Pos}
theorem pe_dnewK:PE X (.Dict [] [] pos) tDNewK:=fun pins s σ H Q I h =>
 wpAny_Dict_empty ⟨.ref s.heap.objs.size,_,I.laid (a:=s.heap.objs.size) (o:=.dK []) (t':=s.toks) (fun _ _ q=>Heap.get?_push_of_some _ q) (Nat.le_refl _) (dk_empty s.heap I.big),rfl,h _ (I.hok.fresh (Nat.le_refl _))⟩
end
structure M1 (X:Cx) (o:Expr) (m:Str) (apos:Pos) (e:Expr) (cpos:Pos):Prop where
 base:attributeBase o m X.env (eval o X.env)=eval o X.env
 few:((backTo cpos (starEach [e] X.env)).all (fun x=>!x.1)&&(backToKw cpos (keywordEach [] X.env)).all (fun x=>x.1.isSome)
  && decide (([e]:List Expr).length+([]:List Keyword).length+(if ([]:List Keyword).isEmpty then 0 else 1)<30))=true
 line:(apos.endLine==cpos.line)=true
 trees:backTo cpos (starEach [e] X.env)=[(false,eval e X.env)]
structure M2 (X:Cx) (o:Expr) (m:Str) (apos:Pos) (e f:Expr) (cpos:Pos):Prop where
 base:attributeBase o m X.env (eval o X.env)=eval o X.env
 few:((backTo cpos (starEach [e,f] X.env)).all (fun x=>!x.1)&&(backToKw cpos (keywordEach [] X.env)).all (fun x=>x.1.isSome)
  && decide (([e,f]:List Expr).length+([]:List Keyword).length+(if ([]:List Keyword).isEmpty then 0 else 1)<30))=true
 line:(apos.endLine==cpos.line)=true
 trees:backTo cpos (starEach [e,f] X.env)=[(false,eval e X.env),(false,eval f X.env)]
section
variable {X:Cx} {pins:List (Addr×Obj)} {σ:St} {H:Hp} {s:Shared} {a:Addr} {y d:V} {u r:Value} {o:Option V} {A:Around} {E:Value->Shared->Prop}
end
section
variable {X:Cx} {o e f:Expr} {apos cpos:Pos} {td ty tx:TE}
end
section
variable {X:Cx} {pins:List (Addr×Obj)} {σ:St} {H:Hp} {s:Shared} {a:Addr} {kvs:List (Key×V)} {A:Around} {E:Value->Shared->Prop}
end
section
variable {X:Cx} {pins:List (Addr×Obj)} {σ:St} {H:Hp} {s:Shared} {a:Addr} {y:V} {u:Value} {A:Around} {E:Value->Shared->Prop}
end
end L2
namespace L2
open PySem PySem.Spec PyProof.Rows
section
variable {K:Frag} {caps:St} {H:Hp} {tf:TT} {te:TE} {Q:VK}
end
noncomputable def checkC (sc:Scope) (on:List (Str×NameKind)) (oN N:List Str) (nt:Nat) (cap:List Nat):Bool :=
 decide (sc.kind=.function)&&sc.names.all (fun x=>decide (x.2≠.cell))&&sc.names.all (fun x=>decide (x.2=.local->sc.names.lookup x.1=some .local)) &&
 sc.names.all (fun x=>decide (x.2=.free->sc.names.lookup x.1=some .free/\(on.lookup x.1=some .cell\/on.lookup x.1=some .free)))&&decide (N.length=nt+cap.length) &&
 (List.range cap.length).all (fun k=>match cap[k]? with
  |some j=>match oN[j]? with
   |some x=>decide (N[nt+k]?=some x)&&decide ((x,NameKind.free)∈sc.names)
   |none=>false
  |none=>true)
theorem cs_of {X:Cx} {sc:Scope} {N:List Str} {nt:Nat} {cap:List Nat} (h:checkC sc X.env.scope.names X.N N nt cap=true):CScope X sc N nt cap:=by
 unfold checkC at h
 simp only [Bool.and_eq_true,List.all_eq_true,decide_eq_true_eq] at h
 obtain ⟨⟨⟨⟨⟨h1,h2⟩,h3⟩,h4⟩,h5⟩,h6⟩:=h
 refine ⟨h1,h2,h3,fun x hx e=>h4 x hx e,h5,fun k j e=>?_⟩
 have hk:k<cap.length:=(List.getElem?_eq_some_iff.mp e).1
 have:=h6 k (List.mem_range.mpr hk)
 rw [e] at this
 dsimp only at this
 cases ex:X.N[j]? with
 |none=>rw [ex] at this;cases this
 |some x =>
  rw [ex] at this
  simp only [Bool.and_eq_true,decide_eq_true_eq] at this
  exact ⟨x,rfl,this.1,this.2⟩
end L2
namespace TS
open PySem
abbrev Rise (l:List Nat):Prop:=l.Pairwise (· < ·)
theorem getD_arr (xs:Array Nat) (k d:Nat):xs.getD k d=xs.toList.getD k d:=by
 cases xs with
 |mk l =>
  by_cases h:k<l.length
  ·simp [Array.getD,List.getD,h]
  ·simp [Array.getD,List.getD,h]
theorem rise_lt {l:List Nat} (h:Rise l) {a b:Nat} (hab:a<b) (hb:b<l.length):l.getD a 0<l.getD b 0:=by
 have:=List.pairwise_iff_getElem.mp h a b (by omega) hb hab
 simpa [List.getD,List.getElem?_eq_getElem hb,List.getElem?_eq_getElem (show a<l.length by omega)] using this
theorem getD_any (l:List Nat) {k:Nat} (hk:k<l.length) (d e:Nat):l.getD k d=l.getD k e:=by
 simp [List.getD,List.getElem?_eq_getElem hk]
theorem go_spec (xs:Array Nat) (j:Nat) (hr:Rise xs.toList):∀(fuel lo hi:Nat),hi-lo<=fuel->lo<=hi->hi<=xs.toList.length->(∀k,k<lo->xs.toList.getD k 0<j)->(∀k,hi<=k->k<xs.toList.length->j<=xs.toList.getD k 0) ->
  SetTable.below.go xs j fuel lo hi<=xs.toList.length/\(∀k,k<SetTable.below.go xs j fuel lo hi->xs.toList.getD k 0<j)/\(∀k,SetTable.below.go xs j fuel lo hi<=k->k<xs.toList.length->j<=xs.toList.getD k 0)
 |0,lo,hi,hf,hl,hh,h1,h2=>by
  have e:lo=hi:=by omega
  subst e
  exact ⟨hh,h1,h2⟩
 |fuel+1,lo,hi,hf,hl,hh,h1,h2=>by
  unfold SetTable.below.go
  by_cases hlt:lo<hi
  ·rw [if_pos hlt]
   dsimp only
   have hm:(lo+hi) / 2<xs.toList.length:=by omega
   rw [getD_arr,getD_any _ hm j 0]
   by_cases hc:xs.toList.getD ((lo+hi) / 2) 0<j
   ·rw [if_pos hc]
    refine go_spec xs j hr fuel _ _ (by omega) (by omega) hh (fun k hk=>?_) h2
    by_cases hk2:k=(lo+hi) / 2
    ·rw [hk2];exact hc
    ·exact Nat.lt_trans (rise_lt hr (by omega) hm) hc
   ·rw [if_neg hc]
    refine go_spec xs j hr fuel _ _ (by omega) (by omega) (by omega) h1 (fun k hk hk2=>?_)
    by_cases hk3:k=(lo+hi) / 2
    ·rw [hk3];omega
    ·have:=rise_lt hr (show (lo+hi) / 2<k by omega) hk2
     omega
  ·rw [if_neg hlt]
   have e:lo=hi:=by omega
   subst e
   exact ⟨hh,h1,h2⟩
theorem below_spec (xs:Array Nat) (j:Nat) (hr:Rise xs.toList):SetTable.below xs j<=xs.toList.length/\(∀k,k<SetTable.below xs j->xs.toList.getD k 0<j)/\(∀k,SetTable.below xs j<=k->k<xs.toList.length->j<=xs.toList.getD k 0):=by
 unfold SetTable.below
 exact go_spec xs j hr xs.size 0 xs.size (by omega) (Nat.zero_le _) (by simp) (fun k hk=>by omega) (fun k hk hk2=>by simp at hk2;omega)
theorem mem_take_lt {l:List Nat} {p j:Nat} (h:∀k,k<p->l.getD k 0<j):∀x∈l.take p,x<j:=by
 intro x hx
 obtain ⟨k,hk,e⟩:=List.getElem_of_mem hx
 have hk':k<p/\k<l.length:=by rw [List.length_take] at hk;omega
 have:=h k hk'.1
 rw [List.getElem_take] at e
 rw [<- e]
 simpa [List.getD,List.getElem?_eq_getElem hk'.2] using this
theorem mem_drop_ge {l:List Nat} {p j:Nat} (h:∀k,p<=k->k<l.length->j<=l.getD k 0):∀x∈l.drop p,j<=x:=by
 intro x hx
 obtain ⟨k,hk,e⟩:=List.getElem_of_mem hx
 have hk':p+k<l.length:=by rw [List.length_drop] at hk;omega
 have:=h (p+k) (by omega) hk'
 rw [List.getElem_drop] at e
 rw [<- e]
 simpa [List.getD,List.getElem?_eq_getElem hk'] using this
theorem put_rise {xs:Array Nat} {j:Nat} (hr:Rise xs.toList) (hn:xs[SetTable.below xs j]?≠some j):Rise (SetTable.insertAt xs (SetTable.below xs j) j).toList:=by
 obtain ⟨h0,h1,h2⟩:=below_spec xs j hr
 rw [SetTable.toList_insertAt]
 have a1:=mem_take_lt h1
 have a2:∀x∈xs.toList.drop (SetTable.below xs j),j<x:=by
  intro x hx
  have hge:=mem_drop_ge h2
  have hd:Rise (xs.toList.drop (SetTable.below xs j)):=List.Pairwise.sublist (List.drop_sublist _ _) hr
  cases hc:xs.toList.drop (SetTable.below xs j) with
  |nil=>rw [hc] at hx;cases hx
  |cons y r =>
   rw [hc] at hd hx hge
   have hy:j≠y:=by
    intro e
    apply hn
    have:(xs.toList.drop (SetTable.below xs j))[0]?=some y:=by rw [hc];rfl
    rw [List.getElem?_drop] at this
    have e2:xs.toList[SetTable.below xs j]?=some y:=by simpa using this
    rw [<- Array.getElem?_toList,e2,e]
   have hjy:j<y:=Nat.lt_of_le_of_ne (hge y List.mem_cons_self) hy
   rcases List.mem_cons.mp hx with e|hx
   ·rw [e];exact hjy
   ·exact Nat.lt_trans hjy ((List.pairwise_cons.mp hd).1 x hx)
 first
  |(refine List.pairwise_append.mpr ⟨List.Pairwise.sublist (List.take_sublist _ _) hr,List.pairwise_cons.mpr ⟨a2,List.Pairwise.sublist (List.drop_sublist _ _) hr⟩,fun x hx y hy=>?_⟩
    rcases List.mem_cons.mp hy with e|hy
    ·rw [e];exact a1 x hx
    ·exact Nat.lt_trans (a1 x hx) (a2 y hy))
  |trace_state
theorem go_free (t:SetTable) (h:Int):∀(fuel:Nat) (p:SetTable.Probe) (j:Nat) (dm:Option Nat),(∀d,p.dummy=some d->t.slot d=.dummy)->SetTable.probe.go t (fun _=>h+1) h fuel p=some (.empty j dm)->t.slot j=.empty/\∀d,dm=some d->t.slot d=.dummy
 |0,p,j,dm,hp,e=>by simp [SetTable.probe.go] at e
 |fuel+1,p,j,dm,hp,e=>by
  unfold SetTable.probe.go at e
  cases hs:t.slot p.j with
  |empty =>
   rw [hs] at e
   simp at e
   rw [<- e.1,<- e.2]
   exact ⟨hs,hp⟩
  |dummy =>
   rw [hs] at e
   refine go_free t h fuel _ j dm (fun d hd=>?_) e
   unfold SetTable.advance at hd
   split at hd
   ·simp at hd;rw [<- hd];exact hs
   ·simp at hd;rw [<- hd];exact hs
  |live i =>
   rw [hs] at e
   have hne:(h+1==h)=false:=by simp;omega
   simp only [hne,Bool.false_eq_true,if_false] at e
   refine go_free t h fuel _ j dm (fun d hd=>?_) e
   unfold SetTable.advance at hd
   split at hd
   ·exact hp d hd
   ·exact hp d hd
theorem slot_free {t:SetTable} {j:Nat} (h:t.slot j=.empty\/t.slot j=.dummy):t.place[SetTable.below t.place j]?≠some j:=by
 intro e
 have:t.slot j=.live (SetTable.below t.place j):=by
  unfold SetTable.slot
  simp [e]
 rw [this] at h
 rcases h with h|h<;>cases h
theorem free_slot {t:SetTable} {h:Int} {j:Nat} {b:Bool} (e:t.freeSlot h=some (j,b)):t.place[SetTable.below t.place j]?≠some j:=by
 unfold SetTable.freeSlot SetTable.probe at e
 split at e
 ·rename_i j' dm hg
  have k:=go_free t h _ _ j' dm (fun d hd=>by simp [SetTable.probeStart] at hd) hg
  simp at e
  rw [<- e.1]
  cases dm with
  |none=>exact slot_free (.inl k.1)
  |some d=>exact slot_free (.inr (k.2 d rfl))
 ·cases e
structure TabOk (led:Bool) (t:SetTable):Prop where
 led:t.led=led
 rise:t.plain=true->Rise t.place.toList
theorem tab_standIn {led:Bool} {t:SetTable} (h:TabOk led t) (n:Nat):TabOk led (t.standIn n):=⟨h.led,fun z=>by simp [SetTable.standIn] at z⟩
theorem tab_layNew {led:Bool} {t:SetTable} (h:TabOk led t) (es:Array (Int×Value)) (hs:Int) (x:Value):TabOk led (layNew t es hs x).2.1:=by
 unfold layNew
 split
 ·rename_i slot wd e
  dsimp only
  unfold SetTable.orStandIn
  have hp:TabOk led (t.put slot).1:=⟨h.led,fun z=>put_rise (h.rise z) (free_slot e)⟩
  split
  ·exact hp
  ·exact tab_standIn hp _
 ·exact tab_standIn h _
theorem tab_laid {mask finger moves:Nat} {led plain:Bool} {hs:Array Int} {t:SetTable} {o:Array Nat} (e:SetTable.laid mask finger moves led plain hs=some (t,o)):TabOk led t/\t.plain=plain:=by
 unfold SetTable.laid at e
 cases hl:SetTable.layClean mask hs with
 |none=>rw [hl] at e;simp at e
 |some owner =>
  rw [hl] at e
  simp at e
  obtain ⟨e1,e2⟩:=e
  subst e1
  refine ⟨⟨rfl,fun _=>?_⟩,rfl⟩
  show Rise (List.toArray _).toList
  simp only [List.map_filterMap]
  refine List.pairwise_filterMap.mpr ?_
  refine List.Pairwise.imp (R:=(· < ·)) ?_ (List.pairwise_lt_range)
  intro a b hab x hx y hy
  cases ha:(owner[a]?.getD none) with
  |none=>rw [ha] at hx;simp at hx
  |some q =>
   cases hb:(owner[b]?.getD none) with
   |none=>rw [hb] at hy;simp at hy
   |some r =>
    rw [ha] at hx;rw [hb] at hy
    simp at hx hy
    omega
theorem tab_relay {led:Bool} {t:SetTable} (h:TabOk led t) (es:Array (Int×Value)) (n:Nat):TabOk led (relayAll t es n).2.1:=by
 unfold relayAll
 split
 ·rename_i t' o e
  dsimp only
  split
  ·unfold SetTable.relaid at e
   have k:=tab_laid e
   exact ⟨k.1.led.trans h.led,k.1.rise⟩
  ·exact tab_standIn h _
 ·exact tab_standIn h _
theorem tab_fresh (led:Bool):TabOk led (.fresh 0 0 led):=⟨rfl,fun _=>List.Pairwise.nil⟩
end TS
namespace TS
open PySem PySem.Spec PyProof.Rows
section
variable {P:Program} {w:World} {A:Around} {E:Value->Shared->Prop} {s:Shared} {led:Bool}
def SetT (P:Program) (w:World) (led:Bool) (h:Heap) (a:Addr) (S:Int->Bool) (n:Nat):Prop :=
 ∃o es ep t,h.get? a=some o/\o.ExactSet/\o.data=.set es ep t/\ElemsOf (intKind P w) es.toList/\(∀k,S k=true↔∃e∈es.toList,(intKind P w).is k e.2=true)/\es.size<scanBound/\t.fits es.size=true/\es.size=n/\TabOk led t
theorem SetT.at {h h':Heap} {a:Addr} {S:Int->Bool} {n:Nat} (x:SetT P w led h a S n) (k:∀o,h.get? a=some o->h'.get? a=some o):SetT P w led h' a S n:=by
 obtain ⟨o,es,ep,t,ho,r⟩:=x
 exact ⟨o,es,ep,t,k o ho,r⟩
theorem SetT.congr {h:Heap} {a:Addr} {S S':Int->Bool} {n n':Nat} (x:SetT P w led h a S n) (e:∀k,S k=S' k) (en:n=n'):SetT P w led h a S' n':=by
 obtain rfl:S=S':=funext e
 subst en;exact x
theorem put_set {a:Addr} {u:Obj} {es es':Array (Int×Value)} {ep:Nat} {t t':SetTable} {h:Heap} (hu:h.get? a=some u) (hx:u.ExactSet) (hd:u.data=.set es ep t) {S:Int->Bool}
  (c1:ElemsOf (intKind P w) es'.toList) (c2:∀k,S k=true↔∃e∈es'.toList,(intKind P w).is k e.2=true) (c3:es'.size<scanBound) (c4:t'.fits es'.size=true) (c5:TabOk led t') :
  (h.update a (Obj.putSet es' t')).get? a=some { u with data:=.set es' (ep+1) t' }/\SetT P w led (h.update a (Obj.putSet es' t')) a S es'.size:=by
 have g:=(SetOf_store (knd:=intKind P w) hu hx hd c1 c2 c3 c4).1
 exact ⟨g,_,es',ep+1,t',g,hx,rfl,c1,c2,c3,c4,rfl,c5⟩
theorem set_add {a:Addr} {S:Int->Bool} {n:Nat} {k:Int} {tk:Tok} {Q:Bool->Shared->Prop} (hS:SetT P w led s.heap a S n) (hroom:n+1<scanBound)
  (h:∀h',Heap.SameBut a s.heap h'->SetT P w led h' a (fun j=>S j||decide (j=k)) (if S k then n else n+1)->Q (!S k) { s with heap:=h' }) :
  wpAny (model P w) A (setAddHashed a (.int k tk) ((intKind P w).hash k)) Q E s:=by
 obtain ⟨u,es,ep,t,hu,hx,hd,c1,c2,c3,c4,hn,c5⟩:=hS
 have ky:(intKind P w).is k (.int k tk)=true:=intKind_is _ _ _ _
 have sc:(Value.int k tk).scannable=true:=rfl
 have hb1:es.size+1<scanBound:=by rw [hn];exact hroom
 unfold setAddHashed setAddHashedIn
 refine wpAny_holding ?_
 refine wpAny_bind (wpAny_setState_of hu hd c4 ?_)
 dsimp only
 rw [byScan_of sc c3 c1,if_pos rfl]
 unfold setAddByScan
 refine wpAny_bind (wpAny_bind (wpAny_rule ?_))
 refine wpAny_bind (wpAny_setScan_of ky hu hd c4 c1 ?_)
 cases fnd:es.toList.findIdx? (fun e=>(intKind P w).is k e.2) with
 |some j =>
  dsimp only
  obtain ⟨hj,pj,_⟩:=List.findIdx?_eq_some_iff_getElem.mp fnd
  have Sk:S k=true:=(c2 k).mpr ⟨es.toList[j],List.getElem_mem hj,pj⟩
  have q:=h s.heap (Heap.SameBut.refl a s.heap) ⟨u,es,ep,t,hu,hx,hd,c1,fun j'=>by
   rw [Bool.or_eq_true,decide_eq_true_eq,<- c2 j']
   exact ⟨fun z=>z.elim id fun e=>by rw [e];exact Sk,Or.inl⟩,c3,c4,by rw [Sk];exact hn,c5⟩
  rw [Sk] at q
  exact wpAny_pure (wpAny_pure q)
 |none =>
  dsimp only
  have Sk:S k=false:=by
   rw [<- Bool.not_eq_true,c2 k]
   rintro ⟨e,he,pe⟩
   have z:=List.findIdx?_eq_none_iff.mp fnd e he
   rw [pe] at z;cases z
  have way:∀(b:Bool) {s1:Shared} {Q1:Unit->Shared->Prop},Q1 () s1->wpAny (model P w) A (match b with|true=>rule "set.scan.the-table-gave-way"|false=>pure ()) Q1 E s1 :=
   fun b s1 Q1 q=>by cases b<;>first|exact wpAny_pure q|exact wpAny_rule q
  have pm:=layNew_perm t es ((intKind P w).hash k) (.int k tk)
  have ft:=layNew_fits t es ((intKind P w).hash k) (.int k tk)
  have tb:=tab_layNew c5 es ((intKind P w).hash k) (.int k tk)
  generalize layNew t es ((intKind P w).hash k) (.int k tk)=L at pm ft tb |-
  obtain ⟨es1,t1,wasDummy,gave⟩:=L
  dsimp only at pm ft tb |-
  rw [Array.toList_push] at pm
  have d1:ElemsOf (intKind P w) es1.toList:=(c1.push ky sc).perm pm
  have d2:∀j,(S j||decide (j=k))=true↔∃e∈es1.toList,(intKind P w).is j e.2=true:=mem_push_iff ky c2 pm
  have z1:es1.size=n+1:=by
   have l:=pm.length_eq
   rw [List.length_append,Array.length_toList,Array.length_toList,hn] at l
   exact l
  have d3:es1.size<scanBound:=by omega
  refine wpAny_bind (way _ ?_)
  obtain ⟨g1,T1⟩:=put_set (S:=fun j=>S j||decide (j=k)) hu hx hd d1 d2 d3 ft tb
  have sb1:=Heap.SameBut.update s.heap a (Obj.putSet es1 t1)
  have fin:∀h',Heap.SameBut a s.heap h'->SetT P w led h' a (fun j=>S j||decide (j=k)) es1.size->Q true { s with heap:=h' }:=fun h' sb T=>by
   have q:=h h' sb
   rw [Sk] at q
   rw [z1] at T
   exact q T
  have pm2:=relayAll_perm t1 es1 (SetTable.grown es1.size)
  have ft2:=relayAll_fits t1 es1 (SetTable.grown es1.size)
  have tb2:=tab_relay tb es1 (SetTable.grown es1.size)
  have hv:hashByValue 8 (Value.int k tk)=pure true:=rfl
  split
  ·refine wpAny_bind ?_
   rw [hv]
   refine wpAny_pure ?_
   simp only [if_true]
   refine wpAny_bind (wpAny_storeSet_of hu hd ?_ (fits_of_scanBound d3))
   split
   ·generalize relayAll t1 es1 (SetTable.grown es1.size)=L2 at pm2 ft2 tb2 |-
    obtain ⟨es2,t2,gave2⟩:=L2
    dsimp only at pm2 ft2 tb2 |-
    have z2:es2.size=es1.size:=by
     have l:=pm2.length_eq
     rwa [Array.length_toList,Array.length_toList] at l
    have f2:∀j,(S j||decide (j=k))=true↔∃e∈es2.toList,(intKind P w).is j e.2=true:=fun j=>(d2 j).trans ⟨fun ⟨e,he,q⟩=>⟨e,pm2.mem_iff.mpr he,q⟩,fun ⟨e,he,q⟩=>⟨e,pm2.mem_iff.mp he,q⟩⟩
    refine wpAny_bind (way _ ?_)
    refine wpAny_bind (wpAny_storeSet_of g1 rfl ?_ (fits_of_scanBound (by rw [z2];exact d3)))
    obtain ⟨g2,T2⟩:=put_set (S:=fun j=>S j||decide (j=k)) (led:=led) g1 hx rfl (d1.perm pm2) f2 (by rw [z2];exact d3) ft2 tb2
    rw [z2] at T2
    exact wpAny_pure (wpAny_pure (fin _ (sb1.trans (Heap.SameBut.update _ a _)) T2))
   ·exact wpAny_pure (wpAny_pure (fin _ sb1 T1))
  ·refine wpAny_bind (wpAny_pure ?_)
   simp only [if_true]
   refine wpAny_bind (wpAny_storeSet_of hu hd ?_ (fits_of_scanBound d3))
   split
   ·generalize relayAll t1 es1 (SetTable.grown es1.size)=L2 at pm2 ft2 tb2 |-
    obtain ⟨es2,t2,gave2⟩:=L2
    dsimp only at pm2 ft2 tb2 |-
    have z2:es2.size=es1.size:=by
     have l:=pm2.length_eq
     rwa [Array.length_toList,Array.length_toList] at l
    have f2:∀j,(S j||decide (j=k))=true↔∃e∈es2.toList,(intKind P w).is j e.2=true:=fun j=>(d2 j).trans ⟨fun ⟨e,he,q⟩=>⟨e,pm2.mem_iff.mpr he,q⟩,fun ⟨e,he,q⟩=>⟨e,pm2.mem_iff.mp he,q⟩⟩
    refine wpAny_bind (way _ ?_)
    refine wpAny_bind (wpAny_storeSet_of g1 rfl ?_ (fits_of_scanBound (by rw [z2];exact d3)))
    obtain ⟨g2,T2⟩:=put_set (S:=fun j=>S j||decide (j=k)) (led:=led) g1 hx rfl (d1.perm pm2) f2 (by rw [z2];exact d3) ft2 tb2
    rw [z2] at T2
    exact wpAny_pure (wpAny_pure (fin _ (sb1.trans (Heap.SameBut.update _ a _)) T2))
   ·exact wpAny_pure (wpAny_pure (fin _ sb1 T1))
end
end TS
namespace TS
open PySem PySem.Spec PyProof.Rows
theorem entry_set_iter:entryFor table "set.__iter__"=some Builtin.«frozenset.__iter__»:=entryFor_alias (id':="frozenset.__iter__") (by kernel_rfl) rfl (by decide +kernel) (by kernel_rfl)
theorem slot_si_next:Slot "set_iterator" "__next__" "set_iterator.__next__" :=
 .of (owner:="set_iterator") (n:="__next__") (by rw [typeLookup_type,builtinLookup_eq_fast];kernel_rfl) (by decide +kernel) (by decide +kernel) (by decide +kernel)
  (by first|exact .inl (by decide +kernel)|exact .inr (by decide +kernel)) (by rw [isSubtype_type];kernel_rfl)
theorem entry_si_next:entryFor table "set_iterator.__next__"=some Builtin.«set_iterator.__next__»:=entryFor_of_tree (by kernel_rfl)
theorem args_si_next (a:Value):argsOk "set_iterator.__next__" ⟨[a],[]⟩:=by unfold argsOk;kernel_rfl
theorem slot_si_iter:Slot "set_iterator" "__iter__" "set_iterator.__iter__" :=
 .of (owner:="set_iterator") (n:="__iter__") (by rw [typeLookup_type,builtinLookup_eq_fast];kernel_rfl) (by decide +kernel) (by decide +kernel) (by decide +kernel)
  (by first|exact .inl (by decide +kernel)|exact .inr (by decide +kernel)) (by rw [isSubtype_type];kernel_rfl)
def IsSI (h:Heap) (I a:Addr) (first:Value) (i n ep:Nat):Prop:=∃o,h.get? I=some o/\o.cls=.type "set_iterator"/\o.data=.fields #[first,.int i 0,.ref a,.int n 0,.int ep 0]
section
variable {P:Program} {w:World} {A:Around} {E:Value->Shared->Prop} {s:Shared}
theorem si_next {I a:Addr} {slot i n ep nx:Nat} {u:Obj} {es:Array (Int×Value)} {t:SetTable} {x:Value} {Q:Option Value->Shared->Prop} (hit:IsSI s.heap I a (.int slot 0) i n ep)
  (hu:s.heap.get? a=some u) (hd:u.data=.set es ep t) (hf:t.fits es.size=true) (hn:es.size=n)
  (hs:∀(A':Around) (Q':Option (Value×Nat)->Shared->Prop) (E':Value->Shared->Prop),Q' (some (x,nx)) s->wpAny (model P w) A' (setNext a slot i ep) Q' E' s)
  (hQ:∀h',IsSI h' I a (.int nx 0) (i+1) n ep->Heap.SameBut I s.heap h'->Q (some x) { s with heap:=h' }):wpAny (model P w) A (pyNext (.ref I)) Q E s:=by
 obtain ⟨o,ho,hc,hdo⟩:=id hit
 have hT:s.TypeIs (.ref I) "set_iterator":=⟨o,ho,hc⟩
 unfold pyNext
 refine wpAny_bind (wpAny_attempt (wpAny_callSpecial?_slot (name:=Str.ofString "__next__") hT slot_si_next
  (wpAny_call_entry slot_si_next hT entry_si_next ?_ (args_si_next _))))
 unfold Builtin.«set_iterator.__next__» slotArgs
 simp only [List.isEmpty_nil,Bool.not_true,Bool.false_eq_true,↓reduceIte,bind_assoc,List.length_nil,bne_self_eq_false]
 refine wpAny_bind (wpAny_pure ?_)
 refine wpAny_bind (wpAny_fieldsOf ho hdo ?_)
 dsimp only
 refine wpAny_bind (wpAny_setEntries_of hu hd hf ?_)
 rw [hn]
 simp only [bne_self_eq_false,Bool.false_eq_true,↓reduceIte,Int.toNat_natCast]
 refine wpAny_bind (hs _ _ _ ?_)
 dsimp only
 refine wpAny_bind (wpAny_setField ho hdo (by simp) ?_)
 refine wpAny_bind (wpAny_setField (Heap.get?_update_self _ ho (Obj.isFreed_of_fields (Obj.data_mapFields hdo _))) (Obj.data_mapFields hdo _) (by simp) ?_)
 refine wpAny_pure ⟨x,rfl,wpAny_pure (hQ _ ⟨_,Heap.get?_update_self _ (Heap.get?_update_self _ ho (Obj.isFreed_of_fields (Obj.data_mapFields hdo _))) (Obj.isFreed_of_fields (Obj.data_mapFields (Obj.data_mapFields hdo _) _)),(Obj.cls_mapFields ..).trans ((Obj.cls_mapFields ..).trans hc),?_⟩ ((Heap.SameBut.update ..).trans (Heap.SameBut.update ..)))⟩
 rw [Obj.data_mapFields (Obj.data_mapFields hdo _)]
 simp [rawInt]
theorem wpAny_pick {src:Source} {m:Nat} {Q:Nat->Shared->Prop} (hm:m≠0) (h:Q (w.draws src (s.drawn.get src) % m) { s with drawn:=s.drawn.bump src }):wpAny (model P w) A (choose src m) Q E s:=fun Γ p hΓ=>by
 unfold choose
 rw [Sem.wp_choose]
 exact ⟨hm,h⟩
theorem stop_here {I:Addr} {o:Obj} {vs:Array Value} {Q:Option Value->Shared->Prop} (hh:A.handled=none) (ho:s.heap.get? I=some o) (hdo:o.data=.fields vs) (h2:2<vs.size)
  (hQ:∀h',Heap.ExtBut I s.heap h'->Q none { s with heap:=h' }) :
  wpAny (model P w) A.in1 (setField (.ref I) 2 .none >>= fun _=>newExc (.type "StopIteration") [] >>= fun e=>(raiseNew e:Sem Fin)) (fun fin s'=>∃v,fin=Fin.done (Flow.ret v)/\wpAny (model P w) A (pure (some v)) Q E s')
   (fun e s'=>wpAny (model P w) A (isInstance e (Value.type "StopIteration") >>= fun b=>if b=true then pure none else throw e) Q E s') s:=by
 refine wpAny_bind (wpAny_setField ho hdo h2 ?_)
 refine wpAny_bind ?_
 simp only [newExc,newTuple]
 refine wpAny_bind (wpAny_newObj_type ?_ (by size_fits))
 refine wpAny_bind (m:=firstArgMember _ _) (wpAny_of_eq (a:=Value.none) (by first|rfl | (simp only [firstArgMember];rfl)) ?_)
 refine wpAny_newObj_type ?_ (by size_fits)
 simp only [raiseNew]
 refine wpAny_bind (wpAny_handled ?_)
 first|rw [show A.in1.handled=none from hh]|rw [hh]
 refine wpAny_bind (wpAny_pure (wpAny_throw ?_))
 refine wpAny_bind (wpAny_isInstance (T:="StopIteration") (b:=true) ⟨_,Heap.get?_push_size _ rfl,rfl⟩ isSubtype_stop ?_)
 exact wpAny_pure (hQ _ (((Heap.SameBut.update ..).extBut.push _).push _))
theorem si_end {I a:Addr} {slot i n ep:Nat} {u:Obj} {es:Array (Int×Value)} {t:SetTable} {Q:Option Value->Shared->Prop} (hh:A.handled=none) (hit:IsSI s.heap I a (.int slot 0) i n ep)
  (hu:s.heap.get? a=some u) (hd:u.data=.set es ep t) (hf:t.fits es.size=true) (hn:es.size=n)
  (hs:∀(A':Around) (Q':Option (Value×Nat)->Shared->Prop) (E':Value->Shared->Prop),Q' none s->wpAny (model P w) A' (setNext a slot i ep) Q' E' s)
  (hQ:∀h',Heap.ExtBut I s.heap h'->Q none { s with heap:=h' }):wpAny (model P w) A (pyNext (.ref I)) Q E s:=by
 obtain ⟨o,ho,hc,hdo⟩:=id hit
 have hT:s.TypeIs (.ref I) "set_iterator":=⟨o,ho,hc⟩
 unfold pyNext
 refine wpAny_bind (wpAny_attempt (wpAny_callSpecial?_slot (name:=Str.ofString "__next__") hT slot_si_next
  (wpAny_call_entry slot_si_next hT entry_si_next ?_ (args_si_next _))))
 unfold Builtin.«set_iterator.__next__» slotArgs
 simp only [List.isEmpty_nil,Bool.not_true,Bool.false_eq_true,↓reduceIte,bind_assoc,List.length_nil,bne_self_eq_false]
 refine wpAny_bind (wpAny_pure ?_)
 refine wpAny_bind (wpAny_fieldsOf ho hdo ?_)
 dsimp only
 refine wpAny_bind (wpAny_setEntries_of hu hd hf ?_)
 rw [hn]
 simp only [bne_self_eq_false,Bool.false_eq_true,↓reduceIte,Int.toNat_natCast]
 refine wpAny_bind (hs _ _ _ ?_)
 dsimp only
 exact stop_here hh ho hdo (by simp) hQ
theorem si_nextD {I a tp:Addr} {i n ep pl:Nat} {u:Obj} {es:Array (Int×Value)} {t:SetTable} {x:Int×Value} {places:Array Value} {tk:Tok} {Q:Option Value->Shared->Prop} (hit:IsSI s.heap I a (.ref tp) i n ep)
  (hu:s.heap.get? a=some u) (hd:u.data=.set es ep t) (hf:t.fits es.size=true) (hn:es.size=n) (htp:s.heap.IsTuple tp places) (hpl:places[i]?=some (.int pl tk)) (hx:es[pl]?=some x)
  (hQ:∀h',IsSI h' I a (.ref tp) (i+1) n ep->Heap.SameBut I s.heap h'->Q (some x.2) { s with heap:=h' }):wpAny (model P w) A (pyNext (.ref I)) Q E s:=by
 obtain ⟨o,ho,hc,hdo⟩:=id hit
 obtain ⟨op,hop,hcp,np,hdp⟩:=htp
 have hT:s.TypeIs (.ref I) "set_iterator":=⟨o,ho,hc⟩
 unfold pyNext
 refine wpAny_bind (wpAny_attempt (wpAny_callSpecial?_slot (name:=Str.ofString "__next__") hT slot_si_next
  (wpAny_call_entry slot_si_next hT entry_si_next ?_ (args_si_next _))))
 unfold Builtin.«set_iterator.__next__» slotArgs
 simp only [List.isEmpty_nil,Bool.not_true,Bool.false_eq_true,↓reduceIte,bind_assoc,List.length_nil,bne_self_eq_false]
 refine wpAny_bind (wpAny_pure ?_)
 refine wpAny_bind (wpAny_fieldsOf ho hdo ?_)
 dsimp only
 refine wpAny_bind (wpAny_setEntries_of hu hd hf ?_)
 rw [hn]
 simp only [bne_self_eq_false,Bool.false_eq_true,↓reduceIte,Int.toNat_natCast]
 refine wpAny_bind (wpAny_seqItems hop hdp ?_)
 dsimp only
 rw [hpl]
 dsimp only
 unfold setNextDrawn
 refine wpAny_bind (wpAny_bind (wpAny_setState_of hu hd hf ?_))
 dsimp only
 simp only [bne_self_eq_false,Bool.false_eq_true,↓reduceIte,Int.toNat_natCast]
 rw [hx]
 dsimp only
 refine wpAny_pure ?_
 refine wpAny_bind (wpAny_setField ho hdo (by simp) ?_)
 refine wpAny_pure ⟨x.2,rfl,wpAny_pure (hQ _ ⟨_,Heap.get?_update_self _ ho (Obj.isFreed_of_fields (Obj.data_mapFields hdo _)),(Obj.cls_mapFields ..).trans hc,?_⟩ (Heap.SameBut.update ..))⟩
 rw [Obj.data_mapFields hdo]
 simp [rawInt]
theorem si_endD {I a tp:Addr} {i n ep:Nat} {u:Obj} {es:Array (Int×Value)} {t:SetTable} {places:Array Value} {Q:Option Value->Shared->Prop} (hh:A.handled=none) (hit:IsSI s.heap I a (.ref tp) i n ep)
  (hu:s.heap.get? a=some u) (hd:u.data=.set es ep t) (hf:t.fits es.size=true) (hn:es.size=n) (htp:s.heap.IsTuple tp places) (hpl:places[i]?=none)
  (hQ:∀h',Heap.ExtBut I s.heap h'->Q none { s with heap:=h' }):wpAny (model P w) A (pyNext (.ref I)) Q E s:=by
 obtain ⟨o,ho,hc,hdo⟩:=id hit
 obtain ⟨op,hop,hcp,np,hdp⟩:=htp
 have hT:s.TypeIs (.ref I) "set_iterator":=⟨o,ho,hc⟩
 unfold pyNext
 refine wpAny_bind (wpAny_attempt (wpAny_callSpecial?_slot (name:=Str.ofString "__next__") hT slot_si_next
  (wpAny_call_entry slot_si_next hT entry_si_next ?_ (args_si_next _))))
 unfold Builtin.«set_iterator.__next__» slotArgs
 simp only [List.isEmpty_nil,Bool.not_true,Bool.false_eq_true,↓reduceIte,bind_assoc,List.length_nil,bne_self_eq_false]
 refine wpAny_bind (wpAny_pure ?_)
 refine wpAny_bind (wpAny_fieldsOf ho hdo ?_)
 dsimp only
 refine wpAny_bind (wpAny_setEntries_of hu hd hf ?_)
 rw [hn]
 simp only [bne_self_eq_false,Bool.false_eq_true,↓reduceIte,Int.toNat_natCast]
 refine wpAny_bind (wpAny_seqItems hop hdp ?_)
 dsimp only
 rw [hpl]
 dsimp only
 refine wpAny_bind (wpAny_setField ho hdo (by simp) ?_)
 exact stop_here (s:={ s with heap:=_ }) hh (Heap.get?_update_self _ ho (Obj.isFreed_of_fields (Obj.data_mapFields hdo _))) (Obj.data_mapFields hdo _) (by simp) fun h' e=>hQ h' (Heap.ExtBut.trans (Heap.SameBut.update ..).extBut e)
end
end TS
namespace TS
open PySem PySem.Spec PyProof.Rows
theorem entry_si_iter:entryFor table "set_iterator.__iter__"=some Builtin.«dict_keyiterator.__iter__»:=entryFor_alias (id':="dict_keyiterator.__iter__") (by kernel_rfl) rfl (by decide +kernel) (by kernel_rfl)
theorem args_si_iter (a:Value):argsOk "set_iterator.__iter__" ⟨[a],[]⟩:=by unfold argsOk;kernel_rfl
section
variable {P:Program} {w:World} {A:Around} {E:Value->Shared->Prop} {s:Shared}
theorem si_self {I a:Addr} {f:Value} {i n ep:Nat} {Q:Value->Shared->Prop} (hit:IsSI s.heap I a f i n ep) (h:Q (.ref I) s):wpAny (model P w) A (pyIter (.ref I)) Q E s:=by
 obtain ⟨o,ho,hc,hdo⟩:=id hit
 have hT:s.TypeIs (.ref I) "set_iterator":=⟨o,ho,hc⟩
 refine wpAny_pyIter_slot hT slot_si_iter (wpAny_call_entry slot_si_iter hT entry_si_iter ?_ (args_si_iter _))
 show wpAny _ _ (ret (.ref I)) _ _ s
 exact wpAny_pure ⟨_,rfl,"set_iterator",_,hT,slot_si_next.lookup,h⟩
theorem IsSI.at {h h':Heap} {I a:Addr} {f:Value} {i n ep:Nat} (x:IsSI h I a f i n ep) (k:∀o,h.get? I=some o->h'.get? I=some o):IsSI h' I a f i n ep:=by
 obtain ⟨o,ho,r⟩:=x
 exact ⟨o,k o ho,r⟩
theorem next_text {a:Addr} {slot i ep:Nat} {u:Obj} {es:Array (Int×Value)} {t:SetTable} (hbt:w.params.followText "set-order"=true) (hu:s.heap.get? a=some u) (hd:u.data=.set es ep t) (hf:t.fits es.size=true)
  {Q':Option (Value×Nat)->Shared->Prop} (h:Q' (((pickOrder (w.params.setOrder a ep) es)[i]?).map fun e=>(e.2,slot)) s):wpAny (model P w) A (setNext a slot i ep) Q' E s:=by
 unfold setNext
 refine wpAny_bind (wpAny_setState_of hu hd hf ?_)
 dsimp only
 unfold setsByText
 refine wpAny_bind (wpAny_bind (wpAny_askSetting (wpAny_pure ?_)))
 show wpAny _ _ (if w.params.followText "set-order"=true then _ else _) _ _ _
 rw [if_pos hbt]
 simp only [bne_self_eq_false,Bool.false_eq_true,↓reduceIte]
 unfold setWalk
 refine wpAny_bind (wpAny_bind (wpAny_setState_of hu hd hf ?_))
 dsimp only
 unfold setsByText
 refine wpAny_bind (wpAny_bind (wpAny_askSetting (wpAny_pure ?_)))
 show wpAny _ _ (if w.params.followText "set-order"=true then _ else _) _ _ _
 rw [if_pos hbt]
 refine wpAny_bind (wpAny_askSetting (wpAny_pure ?_))
 exact wpAny_pure h
theorem below_eq {xs:Array Nat} {slot i:Nat} (hr:Rise xs.toList) (hi:i<=xs.toList.length) (h1:∀k,k<i->xs.toList.getD k 0<slot) (h2:∀k,i<=k->k<xs.toList.length->slot<=xs.toList.getD k 0):SetTable.below xs slot=i:=by
 obtain ⟨a0,a1,a2⟩:=below_spec xs slot hr
 by_cases hlt:SetTable.below xs slot<i
 ·have b1:=a2 _ (Nat.le_refl _) (by omega)
  have b2:=h1 _ hlt
  omega
 ·by_cases hgt:i<SetTable.below xs slot
  ·have b1:=a1 i hgt
   have b2:=h2 i (Nat.le_refl _) (by omega)
   omega
  ·omega
theorem next_plain {a:Addr} {slot i ep:Nat} {u:Obj} {es:Array (Int×Value)} {t:SetTable} (hbt:w.params.followText "set-order"=false) (hu:s.heap.get? a=some u) (hd:u.data=.set es ep t) (hf:t.fits es.size=true)
  (hl:t.led=true) (hp:t.plain=true\/es.size<=1) (hb:SetTable.below t.place slot=i)
  {Q':Option (Value×Nat)->Shared->Prop} (h:Q' (match es[i]?,t.place[i]? with|some (_,x),some j=>some (x,j+1) | _,_=>none) s):wpAny (model P w) A (setNext a slot i ep) Q' E s:=by
 unfold setNext
 refine wpAny_bind (wpAny_setState_of hu hd hf ?_)
 dsimp only
 unfold setsByText
 refine wpAny_bind (wpAny_bind (wpAny_askSetting (wpAny_pure ?_)))
 show wpAny _ _ (if w.params.followText "set-order"=true then _ else _) _ _ _
 rw [if_neg (by rw [hbt];decide)]
 split
 ·rename_i hdr
  have hdr':(!t.plain&&decide (es.size > 1))=true:=hdr
  rcases hp with hp|hp
  ·rw [hp] at hdr';cases hdr'
  ·simp at hdr';omega
 ·refine wpAny_bind ?_
  show wpAny _ _ (if (!t.led&&!es.isEmpty)=true then _ else _) _ _ _
  rw [hl]
  simp only [Bool.not_true,Bool.false_and,Bool.false_eq_true,↓reduceIte]
  refine wpAny_pure ?_
  rw [hb]
  exact wpAny_pure h
theorem moved_next {I:Addr} {h':Heap} (sb:Heap.SameBut I s.heap h'):Moved [I] (fun a b=>b=a) s { s with heap:=h' }:=⟨fun b o hb e=>by rw [sb.2 b (fun z=>hb (by simp [z]))];exact e,rfl,rfl,rfl,Nat.le_refl _⟩
theorem moved_end {I:Addr} {h':Heap} (sb:Heap.ExtBut I s.heap h'):Moved [I] (fun a b=>b=a) s { s with heap:=h' }:=⟨fun b o hb e=>sb b o (fun z=>hb (by simp [z])) e,rfl,rfl,rfl,Nat.le_refl _⟩
end
theorem walks_text {P:Program} {w:World} {A:Around} (hh:A.handled=none) {I a:Addr} (hne:a≠I) {u:Obj} {es:Array (Int×Value)} {ep:Nat} {t:SetTable} (hbt:w.params.followText "set-order"=true) (hd:u.data=.set es ep t) (hf:t.fits es.size=true) (hsz:(pickOrder (w.params.setOrder a ep) es).size=es.size) :
  WalksS P w A I [I,a] [I] (fun a b=>b=a) es.size (fun i v=>((pickOrder (w.params.setOrder a ep) es).map (·.2))[i]?=some v) (fun i s=>IsSI s.heap I a (.int 0 0) i es.size ep/\s.heap.get? a=some u) where
 sub:=fun b hb=>by simp at hb;simp [hb]
 grefl:=fun _=>rfl
 gtrans:=fun _ _ _ h1 h2=>h2.trans h1
 frame:=fun i s h' tk st _ hk=>⟨st.1.at fun o e=>hk I (by simp) o e,hk a (by simp) _ st.2⟩
 item:=fun i s Q E hi st hQ=>by
  have hx:i<(pickOrder (w.params.setOrder a ep) es).size:=by rw [hsz];exact hi
  have ex:(pickOrder (w.params.setOrder a ep) es)[i]?=some (pickOrder (w.params.setOrder a ep) es)[i]:=by simp [hx]
  refine si_next (nx:=0) (x:=(pickOrder (w.params.setOrder a ep) es)[i].2) (slot:=0) st.1 st.2 hd hf rfl (fun A' Q' E' q=>next_text hbt st.2 hd hf (by rw [ex];exact q)) fun h' it sb=>?_
  exact hQ _ _ (by simp [ex]) ⟨it,by rw [sb.2 a hne];exact st.2⟩ (moved_next sb)
 done:=fun s Q E st hQ=>by
  refine si_end (slot:=0) hh st.1 st.2 hd hf rfl (fun A' Q' E' q=>next_text hbt st.2 hd hf (by
   rw [show (pickOrder (w.params.setOrder a ep) es)[es.size]?=none by simp [hsz]];exact q)) fun h' sb=>hQ _ (moved_end sb)
 self:=fun i s Q E st hQ=>si_self st.1 hQ
theorem walks_plain {P:Program} {w:World} {A:Around} (hh:A.handled=none) {I a:Addr} (hne:a≠I) {u:Obj} {es:Array (Int×Value)} {ep:Nat} {t:SetTable} (hbt:w.params.followText "set-order"=false) (hd:u.data=.set es ep t) (hf:t.fits es.size=true) (hl:t.led=true) (hp:t.plain=true\/es.size<=1) (hr:Rise t.place.toList) :
  WalksS P w A I [I,a] [I] (fun a b=>b=a) es.size (fun i v=>(es.map (·.2))[i]?=some v) (fun i s=>∃slot:Nat,IsSI s.heap I a (.int slot 0) i es.size ep/\s.heap.get? a=some u/\i<=es.size/\(∀k,k<i->t.place.toList.getD k 0<slot)/\∀k,i<=k->k<t.place.toList.length->slot<=t.place.toList.getD k 0) where
 sub:=fun b hb=>by simp at hb;simp [hb]
 grefl:=fun _=>rfl
 gtrans:=fun _ _ _ h1 h2=>h2.trans h1
 frame:=fun i s h' tk st _ hk=>by
  obtain ⟨slot,x1,x2,x3⟩:=st
  exact ⟨slot,x1.at fun o e=>hk I (by simp) o e,hk a (by simp) _ x2,x3⟩
 item:=fun i s Q E hi st hQ=>by
  obtain ⟨slot,x1,x2,x3,x4,x5⟩:=st
  have hpl:t.place.toList.length=es.size:=by
   simp only [SetTable.fits,Bool.and_eq_true,beq_iff_eq,decide_eq_true_eq] at hf
   simpa using hf.1
  have hil:i<t.place.toList.length:=by omega
  have e1:es[i]?=some es[i]:=by simp [hi]
  have e2:t.place[i]?=some (t.place.toList.getD i 0):=by
   rw [<- Array.getElem?_toList,List.getElem?_eq_getElem hil]
   simp [List.getD,List.getElem?_eq_getElem hil]
  refine si_next (nx:=t.place.toList.getD i 0+1) (x:=es[i].2) (slot:=slot) x1 x2 hd hf rfl (fun A' Q' E' q=>next_plain hbt x2 hd hf hl hp (below_eq hr (by omega) x4 x5) (by rw [e1,e2];exact q)) fun h' it sb=>?_
  refine hQ _ _ (by simp [e1]) ⟨_,it,by rw [sb.2 a hne];exact x2,hi,fun k hk=>?_,fun k hk hk2=>?_⟩ (moved_next sb)
  ·by_cases hki:k=i
   ·rw [hki];omega
   ·have:=rise_lt hr (show k<i by omega) hil
    omega
  ·have:=rise_lt hr (show i<k by omega) hk2
   omega
 done:=fun s Q E st hQ=>by
  obtain ⟨slot,x1,x2,x3,x4,x5⟩:=st
  have hpl:t.place.toList.length=es.size:=by
   simp only [SetTable.fits,Bool.and_eq_true,beq_iff_eq,decide_eq_true_eq] at hf
   simpa using hf.1
  refine si_end (slot:=slot) hh x1 x2 hd hf rfl (fun A' Q' E' q=>next_plain hbt x2 hd hf hl hp (below_eq hr (by omega) x4 x5) (by
   rw [show es[es.size]?=none by simp];exact q)) fun h' sb=>hQ _ (moved_end sb)
 self:=fun i s Q E st hQ=>by
  obtain ⟨slot,x1,_⟩:=st
  exact si_self x1 hQ
theorem walks_drawn {P:Program} {w:World} {A:Around} (hh:A.handled=none) {I a tp:Addr} (hne:a≠I) (hnt:tp≠I) {u:Obj} {es:Array (Int×Value)} {ep:Nat} {t:SetTable} (hd:u.data=.set es ep t) (hf:t.fits es.size=true) (pl:List Nat) (hpl:pl.length=es.size) (hin:∀x∈pl,x<es.size) :
  WalksS P w A I [I,a,tp] [I] (fun a b=>b=a) es.size (fun i v=>(pl.map fun k=>(es.getD k (0,Value.none)).2)[i]?=some v) (fun i s=>IsSI s.heap I a (.ref tp) i es.size ep/\s.heap.get? a=some u/\s.heap.IsTuple tp (pl.map fun (k:Nat)=>rawInt k).toArray) where
 sub:=fun b hb=>by simp at hb;simp [hb]
 grefl:=fun _=>rfl
 gtrans:=fun _ _ _ h1 h2=>h2.trans h1
 frame:=fun i s h' tk st _ hk=>⟨st.1.at fun o e=>hk I (by simp) o e,hk a (by simp) _ st.2.1,let ⟨o,ho,r⟩:=st.2.2;⟨o,hk tp (by simp) o ho,r⟩⟩
 item:=fun i s Q E hi st hQ=>by
  have hil:i<pl.length:=by omega
  have e1:pl[i]?=some pl[i]:=List.getElem?_eq_getElem hil
  have hk:=hin _ (List.getElem_mem hil)
  refine si_nextD (pl:=pl[i]) (x:=es.getD pl[i] (0,Value.none)) (tk:=0) st.1 st.2.1 hd hf rfl st.2.2 (by simp [e1,rawInt]) (by simp [hk,Array.getD]) fun h' it sb=>?_
  refine hQ _ _ (by simp [e1]) ⟨it,by rw [sb.2 a hne];exact st.2.1,let ⟨o,ho,r⟩:=st.2.2;⟨o,by rw [sb.2 tp hnt];exact ho,r⟩⟩ (moved_next sb)
 done:=fun s Q E st hQ=>si_endD hh st.1 st.2.1 hd hf rfl st.2.2 (by simp [hpl]) fun h' sb=>hQ _ (moved_end sb)
 self:=fun i s Q E st hQ=>si_self st.1 hQ
end TS
namespace TS
open PySem PySem.Spec PyProof.Rows
noncomputable def led0 (w:World):Bool:=!(w.params.followText "set-order")
section
variable {P:Program} {w:World} {A:Around} {E:Value->Shared->Prop} {s:Shared}
theorem new_set1 (a:Value) {Q₁:Value->Shared->Prop}
  (hq:Q₁ (.ref s.heap.objs.size) { s with heap:=s.heap.push { cls:=.type "set",dict:=none,data:=.set #[] 0 (.fresh 0 0 (led0 w)) } }) :
  codeAny (model P w) A (.call (.builtin "set.__new__") ⟨[.type "set",a],[]⟩) (wants Q₁ E) s:=by
 refine codeAny_of_tree ?_
 show wpAny _ A.in1 (checkBuiltinCall "set.__new__" ⟨[.type "set",a],[]⟩ >>= fun _=>again (.builtin "set.__new__" ⟨[.type "set",a],[]⟩)) _ _ s
 refine wpAny_bind ?_
 refine wpAny_of_eq (F.newCall_set_1 a) ?_
 refine wpAny_pure ⟨plainId_quiet F.plain_set_new _,codeAny_builtin F.entry_set_new ?_⟩
 rw [Around.under_plainId F.plain_set_new _]
 unfold Builtin.«set.__new__» Builtin.Frozenset.newClass
 have ss:=sub_set_self
 obtain ⟨h1,h2,h3,h4,h5⟩:=s
 dsimp only
 wp_walk
 refine wpAny_askSetting (wpAny_pure ?_)
 dsimp only
 simp only [newObj]
 refine wpAny_bind (wpAny_alloc ?_)
 exact wpAny_pure (wpAny_pure hq)
end
section
variable {P:Program} {w:World} {A:Around} {R:Result->Shared->Prop} {I:Addr} {fp wr:List Addr} {G:Array GenState->Array GenState->Prop} {n:Nat} {Pv:Nat->Value->Prop} {St:Nat->Shared->Prop} {led:Bool}
theorem set_loop (W:WalksS P w A.in1 I fp wr G n Pv St) (S:Addr) (hSf:S∉fp)
  (val:Nat->Int) (hval:∀i v,Pv i v->∃t,v=.int (val i) t) (hb:n+1<scanBound) :
  ∀(k i:Nat) (s:Shared),n-i=k->i<=n->St i s ->
   SetT P w led s.heap S (fun j=>(firstMet val i).any (·==j)) (firstMet val i).length ->
   (∀s',Moved (S::wr) G s s'->SetT P w led s'.heap S (fun j=>(firstMet val n).any (·==j)) (firstMet val n).length->R (.ok (.ret .none)) s') ->
   codeAny (model P w) A (.builtin "set.update.loop" ⟨[.ref S,.ref I],[]⟩) R s:=by
 have nw:S∉wr:=fun z=>hSf (W.sub _ z)
 have sw:∀b∈wr,b∈S::wr:=fun b z=>List.mem_cons_of_mem _ z
 intro k
 induction k with
 |zero =>
  intro i s hk hi st T hR
  obtain rfl:i=n:=by omega
  refine codeAny_builtin F.entry_set_update_loop ?_
  rw [Around.under_plainId F.plain_set_update_loop _]
  show wpAny _ A.in1 (pyNext (.ref I) >>= _) _ _ s
  refine wpAny_bind (W.done s _ _ st fun s' m=>?_)
  show wpAny _ A.in1 (ret Value.none) _ _ s'
  exact wpAny_pure (hR s' (m.mono sw) (T.at fun o e=>m.heap S o nw e))
 |succ k ih =>
  intro i s hk hi st T hR
  have lt:i<n:=by omega
  refine codeAny_builtin F.entry_set_update_loop ?_
  rw [Around.under_plainId F.plain_set_update_loop _]
  show wpAny _ A.in1 (pyNext (.ref I) >>= _) _ _ s
  refine wpAny_bind (W.item i s _ _ lt st fun v s' pv st' m=>?_)
  obtain ⟨t,rfl⟩:=hval i v pv
  have T':=T.at (h':=s'.heap) fun o e=>m.heap S o nw e
  show wpAny _ A.in1 (holding [Value.int (val i) t] (setAdd S (.int (val i) t)) >>= _) _ _ s'
  refine wpAny_bind (wpAny_holding ?_)
  unfold setAdd
  refine wpAny_holding ?_
  refine wpAny_bind ((intKind P w).pyHash (k:=val i) (intKind_is _ _ _ _) ?_)
  have room:(firstMet val i).length+1<scanBound:=by have:=firstMet_length_le val i;omega
  refine set_add (s:={ s' with toks:=s'.toks+1 }) T' room fun h' sb T2=>?_
  have T3:SetT P w led h' S (fun j=>(firstMet val (i+1)).any (·==j)) (firstMet val (i+1)).length:=T2.congr (fun j=>by rw [firstMet_succ,step_any]) (by rw [firstMet_succ,step_length])
  refine wpAny_pure ⟨plainId_quiet F.plain_set_update_loop _,ih (i+1) _ (by omega) lt (W.frame _ s' _ _ st' (Nat.le_succ _) fun b hb' o e=>?_) T3 fun s'' m'' T''=>?_⟩
  ·rw [sb.2 b fun z:b=S=>hSf (z ▸ hb')];exact e
  ·refine hR s'' (Moved.trans W.gtrans ((m.mono sw).then_heap (Nat.le_succ _) fun b o hb' e=>?_) m'') T''
   rw [sb.2 b fun z:b=S=>hb' (by rw [z];exact List.mem_cons_self)];exact e
end
section
variable {P:Program} {w:World} {A:Around} {E:Value->Shared->Prop} {s:Shared}
theorem set_of_tup {l:Addr} {its:Array Value} {ns:List Int} {Q:Value->Shared->Prop}
  (hh:A.handled=none) (hl:s.heap.IsTuple l its) (hi:IntsAre its.toList ns) (hb:its.size+1<scanBound)
  (h:∀(h':Heap) (tk:Nat),SetT P w (led0 w) h' s.heap.objs.size (fun k'=>(firstMet (fun i=>ns.getD i 0) its.size).any (·==k')) (firstMet (fun i=>ns.getD i 0) its.size).length ->
   (∀b o,b<s.heap.objs.size->s.heap.get? b=some o->h'.get? b=some o)->Q (.ref s.heap.objs.size) { s with heap:=h',toks:=tk }) :
  wpAny (model P w) A (call (.type "set") [.ref l]) Q E s:=by
 obtain ⟨c,tl,ur⟩:=F.called_set.mro
 have um:=F.called_set.made
 have ub:=F.called_set.sub
 refine wpAny_call (codeAny_of_tree ?_)
 show wpAny _ _ (callAny (.type "set") _) _ _ _
 refine wpAny_pure ⟨Code.quiet_builtin _ (by decide +kernel),codeAny_builtin F.entry_type_call ?_⟩
 rw [Around.under_plain (weight_type_call_type "set" [.ref l] []) rfl]
 have h1:=F.called_set.notType
 have h2:=F.called_set.canCreate
 have uct:=F.typeCall_set_1 (.ref l)
 repeat (any_goals (first|assumption|wp_step))
 refine codeAny_mono (new_set1 (.ref l) (E:=E) (Q₁:=fun obj s₁=>obj=.ref s.heap.objs.size/\s₁={ s with heap:=s.heap.push { cls:=.type "set",dict:=none,data:=.set #[] 0 (.fresh 0 0 (led0 w)) } }) ⟨rfl,rfl⟩) fun r s₁ hr=>?_
 cases r with
 |error e=>exact hr
 |ok fl =>
  cases fl with
  |ret obj =>
   obtain ⟨rfl,rfl⟩:=hr
   have v:(s.heap.push { cls:=.type "set",dict:=none,data:=.set #[] 0 (.fresh 0 0 (led0 w)) }).get? s.heap.objs.size=some { cls:=.type "set",dict:=none,data:=.set #[] 0 (.fresh 0 0 (led0 w)) }:=Heap.get?_push_size _ rfl
   have vT:Shared.TypeIs { s with heap:=s.heap.push { cls:=.type "set",dict:=none,data:=.set #[] 0 (.fresh 0 0 (led0 w)) } } (.ref s.heap.objs.size) "set":=⟨_,v,rfl⟩
   have vl:=F.called_set.init.lookup
   have vb:=F.called_set.init.bind (.ref s.heap.objs.size)
   repeat (any_goals (first|assumption|wp_step))
   refine codeAny_mono (codeAny_call_builtin (R:=wants (fun r s₂=>r=.none/\∃h' tk,s₂={ s with heap:=h',toks:=tk } /\
     SetT P w (led0 w) h' s.heap.objs.size (fun k'=>(firstMet (fun i=>ns.getD i 0) its.size).any (·==k')) (firstMet (fun i=>ns.getD i 0) its.size).length /\
     (∀b o,b<s.heap.objs.size->s.heap.get? b=some o->h'.get? b=some o)) E) F.called_set.init.plain F.entry_set_init (check_set_init_1 vT ?_)) fun r₂ s₂ vr=>?_
   ·obtain ⟨ol,uo,uc,nn,ud⟩:=hl
    obtain ⟨oc,od,oa,os1⟩:=ol
    simp only at uc ud
    subst uc;subst ud
    have uo':(s.heap.push { cls:=.type "set",dict:=none,data:=.set #[] 0 (.fresh 0 0 (led0 w)) }).get? l=some { cls:=.type "tuple",dict:=od,data:=.seq its nn,slots:=os1 }:=Heap.get?_push_of_some _ uo
    have u1:=F.sub_tuple_set
    have u2:=F.sub_tuple_frozenset
    have hne:(Value.type "tuple"==Value.type "dict")=false:=by decide
    have ul:(s.heap.push { cls:=.type "set",dict:=none,data:=.set #[] 0 (.fresh 0 0 (led0 w)) }).IsTuple l its:=⟨_,uo',rfl,nn,rfl⟩
    unfold Builtin.«set.__init__» noKeywords Builtin.Frozenset.updateFrom
    generalize vP:pyIter=PI
    wp_walk
    subst vP
    refine wpAny_pyIter_tuple ul ?_
    refine wpAny_bind (wpAny_runValue ?_)
    have uS:l<s.heap.objs.size:=Heap.lt_size uo
    have v3:A.in1.in1.in1.handled=none:=by simp [hh]
    have uI:l≠(s.heap.push { cls:=.type "set",dict:=none,data:=.set #[] 0 (.fresh 0 0 (led0 w)) }).objs.size:=by
     rw [Heap.size_push];exact Nat.ne_of_lt (Nat.lt_succ_of_lt uS)
    have uf:s.heap.objs.size∉[(s.heap.push { cls:=.type "set",dict:=none,data:=.set #[] 0 (.fresh 0 0 (led0 w)) }).objs.size,l]:=by
     rw [Heap.size_push];simp only [List.mem_cons,List.mem_singleton,List.not_mem_nil,or_false,not_or]
     exact ⟨Nat.ne_of_lt (Nat.lt_succ_self _),Nat.ne_of_gt uS⟩
    have uv:∀(i:Nat) (v:Value),its[i]?=some v->∃t,v=.int ((fun i=>ns.getD i 0) i) t:=fun i v hv =>
     IntsAre.int_at hi i v (by rw [Array.getElem?_toList];exact hv)
    refine set_loop (led:=led0 w) ((Walks.tuple v3 _ l uI its).toS) s.heap.objs.size
     uf (fun i=>ns.getD i 0) uv hb (its.size-0) 0 _ (by omega) (Nat.zero_le _)
     ⟨⟨_,Heap.get?_push_size _ rfl,rfl,rfl⟩,(ul.push _)⟩ ?v0 ?vR
    case v0 =>
     have vg:((s.heap.push { cls:=.type "set",dict:=none,data:=.set #[] 0 (.fresh 0 0 (led0 w)) }).push { cls:=.type "tuple_iterator",data:=.fields #[.ref l,.int 0 0] }).get? s.heap.objs.size
       = some { cls:=.type "set",dict:=none,data:=.set #[] 0 (.fresh 0 0 (led0 w)) }:=Heap.get?_push_of_some _ v
     exact ⟨_,#[],0,_,vg,⟨rfl,rfl,rfl⟩,rfl,fun e he=>by simp at he,fun k=>by simp [firstMet_zero],by unfold scanBound;simp,by rfl,rfl,tab_fresh _⟩
    case vR =>
     intro s' hm vS
     obtain ⟨h',g',d',tq,os'⟩:=s'
     have eg:g'=s.gens:=hm.gens
     have ed:d'=s.drawn:=hm.drawn
     have eo:os'=s.os:=hm.os
     subst eg;subst ed;subst eo
     show wpAny _ _ _ _ _ _
     refine wpAny_pure ?_
     show wpAny _ _ (ret Value.none) _ _ _
     refine wpAny_pure ⟨rfl,h',tq,rfl,vS,fun b o hb e=>?_⟩
     have v1:b≠s.heap.objs.size:=Nat.ne_of_lt hb
     have v2:b≠(s.heap.push { cls:=.type "set",dict:=none,data:=.set #[] 0 (.fresh 0 0 (led0 w)) }).objs.size:=by
      rw [Heap.size_push];exact Nat.ne_of_lt (Nat.lt_succ_of_lt hb)
     exact hm.heap b o (by simp only [List.mem_cons,List.mem_singleton,List.not_mem_nil,or_false,not_or];exact ⟨v1,v2⟩) (Heap.get?_push_of_some _ (Heap.get?_push_of_some _ e))
   ·cases r₂ with
    |error e=>exact vr
    |ok fl₂ =>
     cases fl₂ with
     |ret r =>
      obtain ⟨rfl,h',tk,rfl,vS,vk⟩:=vr
      repeat (any_goals (first|assumption|wp_step))
      exact h _ _ vS vk
     |_=>exact vr.elim
  |_=>exact hr.elim
end
end TS
namespace TS
open PySem PySem.Spec PyProof.Rows
theorem erase_perm {α:Type}:∀{l:List α} {i:Nat} {x:α},l[i]?=some x->(x::l.eraseIdx i).Perm l
 | [],i,x,h=>by simp at h
 |y::l,0,x,h=>by
  have:y=x:=by simpa using h
  subst this
  exact List.Perm.refl _
 |y::l,i+1,x,h=>by
  have ih:=erase_perm (l:=l) (i:=i) (x:=x) (by simpa using h)
  rw [List.eraseIdx_cons_succ]
  exact (List.Perm.swap y x _).trans (List.Perm.cons y ih)
theorem pick_go {α:Type} (next:Nat->Nat):∀(fuel k:Nat) (left:List α) (out:Array α),left.length=fuel->(pickOrder.go next fuel k left out).toList.Perm (out.toList++left)
 |0,k,left,out,h=>by
  have:left=[]:=List.length_eq_zero_iff.mp h
  subst this
  unfold pickOrder.go
  simp
 |fuel+1,k,left,out,h=>by
  unfold pickOrder.go
  have hm:next k % left.length<left.length:=Nat.mod_lt _ (by omega)
  rw [List.getElem?_eq_getElem hm]
  dsimp only
  have he:=erase_perm (List.getElem?_eq_getElem hm)
  have ih:=pick_go next fuel (k+1) (left.eraseIdx (next k % left.length)) (out.push left[next k % left.length]) (by rw [List.length_eraseIdx_of_lt hm];omega)
  refine ih.trans ?_
  rw [Array.toList_push,List.append_assoc]
  exact List.Perm.append_left _ he
theorem pick_perm {α:Type} (next:Nat->Nat) (xs:Array α):(pickOrder next xs).toList.Perm xs.toList:=by
 unfold pickOrder
 have:=pick_go next xs.size 0 xs.toList #[] (by simp)
 simpa using this
section
variable {P:Program} {w:World} {A:Around} {E:Value->Shared->Prop}
theorem draw_order {α:Type} (n:Nat):∀(xs:List α) (s:Shared) (Q:List α->Shared->Prop),xs.length=n->(∀ys d,ys.Perm xs->Q ys { s with drawn:=d })->wpAny (model P w) A (drawOrder n xs) Q E s:=by
 induction n with
 |zero =>
  intro xs s Q h hQ
  have:xs=[]:=List.length_eq_zero_iff.mp h
  subst this
  unfold drawOrder
  exact wpAny_pure (hQ [] s.drawn (List.Perm.refl _))
 |succ n ih =>
  intro xs s Q h hQ
  cases xs with
  |nil=>simp at h
  |cons x xs =>
   unfold drawOrder
   refine wpAny_bind (wpAny_pick (by simp) ?_)
   have hm:w.draws .order (s.drawn.get .order) % (x::xs).length<(x::xs).length:=Nat.mod_lt _ (by simp)
   rw [List.getElem?_eq_getElem hm]
   dsimp only
   refine wpAny_bind (ih _ _ _ (by rw [List.length_eraseIdx_of_lt hm];omega) fun ys d hp=>?_)
   refine wpAny_pure (hQ _ d ?_)
   exact (List.Perm.cons _ hp).trans (erase_perm (List.getElem?_eq_getElem hm))
theorem iter_set {s:Shared} {a:Addr} {u:Obj} {es:Array (Int×Value)} {ep:Nat} {t:SetTable} {Q:Value->Shared->Prop} (hu:s.heap.get? a=some u) (hx:u.ExactSet) (hd:u.data=.set es ep t) (hf:t.fits es.size=true) (ht:TabOk (led0 w) t)
  (hsz:es.size<=sizeLine)
  (hQ:∀(h':Heap) (d':Drawn) (I:Addr) (fp:List Addr) (St:Nat->Shared->Prop) (order:List Value),(∀b o,s.heap.get? b=some o->h'.get? b=some o)->(∀b∈fp,b<h'.objs.size)->(∀b∈fp,b=a\/s.heap.objs.size<=b)->I∈fp->s.heap.objs.size<=I->order.Perm (es.toList.map (·.2)) ->
   (∀A':Around,A'.handled=none->WalksS P w A' I fp [I] (fun a b=>b=a) es.size (fun i v=>order[i]?=some v) St)->St 0 { s with heap:=h',drawn:=d' }->Q (.ref I) { s with heap:=h',drawn:=d' }) :
  wpAny (model P w) A (pyIter (.ref a)) Q E s:=by
 have hT:s.TypeIs (.ref a) "set":=⟨u,hu,hx.1⟩
 have hlt:a<s.heap.objs.size:=Heap.lt_size hu
 refine wpAny_pyIter_slot hT F.slot_set_iter (wpAny_call_entry F.slot_set_iter hT entry_set_iter ?_ (F.args_set_iter_1 _))
 unfold Builtin.«frozenset.__iter__» Builtin.Frozenset.slot0 slotArgs
 simp only [List.isEmpty_nil,Bool.not_true,Bool.false_eq_true,↓reduceIte,bind_assoc,List.length_nil,bne_self_eq_false]
 unfold Builtin.Frozenset.addrOf Builtin.Frozenset.sizeOf
 refine wpAny_bind (wpAny_pure ?_)
 try dsimp only
 refine wpAny_bind (wpAny_pure ?_)
 refine wpAny_bind (wpAny_bind (wpAny_setEntries_of hu hd hf (wpAny_pure ?_)))
 unfold setDrawn
 refine wpAny_bind (wpAny_bind (wpAny_setState_of hu hd hf ?_))
 dsimp only
 unfold setsByText
 refine wpAny_bind (wpAny_bind (wpAny_askSetting (wpAny_pure ?_)))
 refine wpAny_pure ?_
 show wpAny _ _ (if (!(w.params.followText "set-order")&&(!t.plain&&decide (es.size > 1)))=true then _ else _) _ _ _
 have oth:∀(o1:Obj) b o,s.heap.get? b=some o->(s.heap.push o1).get? b=some o:=fun o1 b o e=>Heap.get?_push_of_some _ e
 by_cases hc:(!w.params.followText "set-order"&&(!t.plain&&decide (es.size > 1)))=true
 ·rw [if_pos hc]
  refine wpAny_bind (draw_order _ _ _ _ (by simp) fun ys d hp=>?_)
  refine wpAny_bind ?_
  simp only [newTuple]
  refine wpAny_newObj_type ?_ (by have:=hp.length_eq;rw [List.length_range] at this;show (List.toArray _).size<=sizeLine;rw [List.size_toArray,List.length_map,this];exact hsz)
  have hin:∀x∈ys,x<es.size:=fun x hx=>by simpa using hp.mem_iff.mp hx
  have hl:ys.length=es.size:=by simpa using hp.length_eq
  refine wpAny_bind (wpAny_setEpoch_of (Heap.get?_push_of_some _ hu) hd hf ?_)
  refine wpAny_bind (wpAny_newObj_type ?_)
  refine wpAny_pure ⟨_,rfl,"set_iterator",_,⟨_,Heap.get?_push_size _ rfl,rfl⟩,slot_si_next.lookup,?_⟩
  have sz1:(s.heap.push { cls:=.type "tuple",data:=.seq (ys.map fun (i:Nat)=>rawInt i).toArray }).objs.size=s.heap.objs.size+1:=by simp [Heap.size_push]
  refine hQ _ d _ [_,a,s.heap.objs.size] _ (ys.map fun k=>(es.getD k (0,Value.none)).2) (fun b o e=>Heap.get?_push_of_some _ (Heap.get?_push_of_some _ e)) ?_ ?_ (by simp) (by rw [sz1];exact Nat.le_succ _) ?_ (fun A' ha=>walks_drawn (u:=u) (t:=t) (ep:=ep) ha (I:=_) (a:=a) (tp:=s.heap.objs.size) (by rw [sz1];exact Nat.ne_of_lt (Nat.lt_succ_of_lt hlt)) (by rw [sz1];exact Nat.ne_of_lt (Nat.lt_succ_self _)) hd hf ys hl hin) ⟨⟨_,Heap.get?_push_size _ rfl,rfl,rfl⟩,Heap.get?_push_of_some _ (Heap.get?_push_of_some _ hu),⟨_,Heap.get?_push_of_some _ (Heap.get?_push_size _ rfl),rfl,_,rfl⟩⟩
  ·intro b hb
   simp only [List.mem_cons,List.not_mem_nil,or_false] at hb
   rw [Heap.size_push]
   rcases hb with e|e|e
   ·rw [e];exact Nat.lt_succ_self _
   ·rw [e,sz1];exact Nat.lt_succ_of_lt (Nat.lt_succ_of_lt hlt)
   ·rw [e,sz1];exact Nat.lt_succ_of_lt (Nat.lt_succ_self _)
  ·intro b hb
   simp only [List.mem_cons,List.not_mem_nil,or_false] at hb
   rcases hb with e|e|e
   ·right;rw [e,sz1];exact Nat.le_succ _
   ·exact .inl e
   ·right;rw [e];exact Nat.le_refl _
  ·refine (List.Perm.map _ hp).trans ?_
   have:(List.range es.size).map (fun k=>(es.getD k (0,Value.none)).2)=es.toList.map (·.2):=by
    apply List.ext_getElem?
    intro i
    rw [List.getElem?_map,List.getElem?_map]
    by_cases hi:i<es.size
    ·rw [List.getElem?_range hi,Array.getElem?_toList]
     simp [Array.getD,hi]
    ·rw [List.getElem?_eq_none (by simpa using hi),List.getElem?_eq_none (by simpa using hi)]
     rfl
   rw [this]
 ·rw [if_neg hc]
  refine wpAny_bind (wpAny_pure ?_)
  refine wpAny_bind (wpAny_setEpoch_of hu hd hf ?_)
  refine wpAny_bind (wpAny_newObj_type ?_)
  refine wpAny_pure ⟨_,rfl,"set_iterator",_,⟨_,Heap.get?_push_size _ rfl,rfl⟩,slot_si_next.lookup,?_⟩
  have bnd:∀(o1:Obj),∀b∈[s.heap.objs.size,a],b<(s.heap.push o1).objs.size:=fun o1 b hb=>by
   simp only [List.mem_cons,List.not_mem_nil,or_false] at hb
   rw [Heap.size_push]
   rcases hb with e|e
   ·rw [e];exact Nat.lt_succ_self _
   ·rw [e];exact Nat.lt_succ_of_lt hlt
  have bnd2:∀b∈[s.heap.objs.size,a],b=a\/s.heap.objs.size<=b:=fun b hb=>by
   simp only [List.mem_cons,List.not_mem_nil,or_false] at hb
   rcases hb with e|e
   ·right;rw [e];exact Nat.le_refl _
   ·exact .inl e
  cases hbt:w.params.followText "set-order" with
  |true =>
   have hps:(pickOrder (w.params.setOrder a ep) es).size=es.size:=by
    have:=(pick_perm (w.params.setOrder a ep) es).length_eq
    simpa using this
   have hw:∀A':Around,A'.handled=none->WalksS P w A' s.heap.objs.size [s.heap.objs.size,a] [s.heap.objs.size] (fun a b=>b=a) es.size (fun i v=>((pickOrder (w.params.setOrder a ep) es).toList.map (·.2))[i]?=some v) _:=fun A' ha=>by
    have:=walks_text (P:=P) (u:=u) (t:=t) ha (I:=s.heap.objs.size) (a:=a) (Nat.ne_of_lt hlt) hbt hd hf hps
    simpa using this
   exact hQ _ s.drawn _ [_,a] _ ((pickOrder (w.params.setOrder a ep) es).toList.map (·.2)) (fun b o e=>Heap.get?_push_of_some _ e) (bnd _) bnd2 (by simp) (Nat.le_refl _) (List.Perm.map _ (pick_perm _ _)) hw ⟨⟨_,Heap.get?_push_size _ rfl,rfl,rfl⟩,Heap.get?_push_of_some _ hu⟩
  |false =>
   have hp:t.plain=true\/es.size<=1:=by
    rw [hbt] at hc
    simp at hc
    cases hpl:t.plain with
    |true=>exact .inl rfl
    |false=>exact .inr (hc hpl)
   have hl:t.led=true:=by rw [ht.led];unfold led0;rw [hbt];rfl
   have hr:Rise t.place.toList:=by
    rcases hp with hp|hp
    ·exact ht.rise hp
    ·simp only [SetTable.fits,Bool.and_eq_true,beq_iff_eq,decide_eq_true_eq] at hf
     have hle:t.place.toList.length<=1:=by simp [hf.1];exact hp
     match t.place.toList,hle with
     | [],_=>exact List.Pairwise.nil
     | [x],_=>exact List.pairwise_singleton _ _
   have hw:∀A':Around,A'.handled=none->WalksS P w A' s.heap.objs.size [s.heap.objs.size,a] [s.heap.objs.size] (fun a b=>b=a) es.size (fun i v=>(es.toList.map (·.2))[i]?=some v) _:=fun A' ha=>by
    have:=walks_plain (P:=P) (u:=u) (t:=t) (ep:=ep) ha (I:=s.heap.objs.size) (a:=a) (Nat.ne_of_lt hlt) hbt hd hf hl hp hr
    simpa using this
   exact hQ _ s.drawn _ [_,a] _ (es.toList.map (·.2)) (fun b o e=>Heap.get?_push_of_some _ e) (bnd _) bnd2 (by simp) (Nat.le_refl _) (List.Perm.refl _) hw ⟨0,⟨_,Heap.get?_push_size _ rfl,rfl,rfl⟩,Heap.get?_push_of_some _ hu,Nat.zero_le _,fun k hk=>by omega,fun k _ _=>Nat.zero_le _⟩
end
end TS
namespace TS
open PySem PySem.Spec PyProof.Rows
section
variable {P:Program} {w:World} {A:Around} {E:Value->Shared->Prop} {s:Shared}
theorem split_len:splitId "set.__len__"=some ("set","__len__"):=by decide +kernel
theorem ints_of {es:List (Int×Value)} (h:ElemsOf (intKind P w) es) {vs:List Value} (hp:vs.Perm (es.map (·.2))):∃ns,IntsAre vs ns:=by
 have hv:∀v∈vs,∃k t,v=.int k t:=fun v hv=>by
  obtain ⟨e,he,rfl⟩:=List.mem_map.mp (hp.mem_iff.mp hv)
  obtain ⟨⟨k,hk,_⟩,_⟩:=h e he
  cases hx:e.2 with
  |int i t=>exact ⟨i,t,rfl⟩
  |_=>rw [hx] at hk;simp [intKind,Value.isInt] at hk
 clear hp
 induction vs with
 |nil=>exact ⟨[],.nil⟩
 |cons v vs ih =>
  obtain ⟨k,t,rfl⟩:=hv v List.mem_cons_self
  obtain ⟨ns,h2⟩:=ih fun x hx=>hv x (List.mem_cons_of_mem _ hx)
  exact ⟨k::ns,.cons k t h2⟩
theorem ite_wp {α:Type} {c:Bool} {x y:Sem α} {Q:α->Shared->Prop} (hc:c=true) (h:wpAny (model P w) A x Q E s):wpAny (model P w) A (if c=true then x else y) Q E s:=by
 rw [if_pos hc];exact h
theorem collect_set {a:Addr} {u:Obj} {es:Array (Int×Value)} {ep:Nat} {t:SetTable} {Q:List Value->Shared->Prop} (hh:A.handled=none) (hu:s.heap.get? a=some u) (hx:u.ExactSet) (hd:u.data=.set es ep t) (hf:t.fits es.size=true) (ht:TabOk (led0 w) t) (hsz:es.size<scanBound)
  (hQ:∀(h':Heap) (d':Drawn) (tk:Nat) (vs:List Value),s.heap.objs.size<=h'.objs.size->(∀b o,s.heap.get? b=some o->h'.get? b=some o)->vs.Perm (es.toList.map (·.2))->Q vs { s with heap:=h',drawn:=d',toks:=tk }):wpAny (model P w) A (collect (.ref a)) Q E s:=by
 have hz:es.size<=sizeLine:=fits_of_scanBound hsz
 have hlt:a<s.heap.objs.size:=Heap.lt_size hu
 unfold collect
 refine wpAny_bind (wpAny_runValue (codeAny_builtin F.entry_proto_collect ?_))
 rw [Around.under_plainId F.plain_proto_collect _]
 show wpAny _ A.in1 (newList [] >>= fun l=>again (.builtin "list.__iadd__" ⟨[l,.ref a],[]⟩)) _ _ s
 refine wpAny_bind (wpAny_newObj_type ?_)
 refine wpAny_pure ⟨plainId_quiet F.plain_list_iadd _,codeAny_builtin F.entry_list_iadd ?_⟩
 rw [Around.under_plainId F.plain_list_iadd _]
 show wpAny _ A.in1 (Builtin.List.listExtendWith (.ref s.heap.objs.size) (.ref a) (.ref s.heap.objs.size)) _ _ _
 generalize hs1:({ s with heap:=s.heap.push { cls:=.type "list",data:=.seq ([]:List Value).toArray } }:Shared)=s1
 have hz1:s1.heap.objs.size=s.heap.objs.size+1:=by rw [<- hs1];simp [Heap.size_push]
 have old1:∀b o,s.heap.get? b=some o->s1.heap.get? b=some o:=fun b o e=>by rw [<- hs1];exact Heap.get?_push_of_some _ e
 have hu1:s1.heap.get? a=some u:=by rw [<- hs1];exact Heap.get?_push_of_some _ hu
 have hT:s1.TypeIs (.ref a) "set":=⟨u,hu1,hx.1⟩
 have hL1:s1.heap.get? s.heap.objs.size=some { cls:=.type "list",data:=.seq ([]:List Value).toArray }:=by rw [<- hs1];exact Heap.get?_push_size _ rfl
 unfold Builtin.List.listExtendWith
 refine wpAny_bind (wpAny_typeOf hT ?_)
 have n1:Builtin.List.listSameRef (.ref s.heap.objs.size) (.ref a)=false:=by
  simp [Builtin.List.listSameRef]
  exact Nat.ne_of_gt hlt
 have n2:(Value.type "set"==Value.type "list")=false:=by decide
 have n3:(Value.type "set"==Value.type "tuple")=false:=by decide
 simp only [n1,n2,n3,Bool.or_false,Bool.false_eq_true,if_false]
 refine wpAny_bind (iter_set hu1 hx hd hf ht hz fun h' d' I fp St order k1 k2 k6 k3 k4 k5 W st=>?_)
 have hT2:Shared.TypeIs { s1 with heap:=h',drawn:=d' } (.ref a) "set":=⟨u,k1 _ _ hu1,hx.1⟩
 have hL2:=k1 _ _ hL1
 refine wpAny_bind (wpAny_holding ?_)
 unfold Builtin.List.listLengthHint
 refine wpAny_bind (wpAny_specialOf hT2 F.slot_set_len.lookup ?_)
 dsimp only
 rw [split_len]
 dsimp only
 refine wpAny_bind (wpAny_isInstance hT2 sub_set_self ?_)
 rw [if_neg (by decide)]
 refine ite_wp (by decide +kernel) ?_
 refine wpAny_bind (wpAny_typeOf hT2 ?_)
 dsimp only
 refine wpAny_pure ?_
 refine ite_wp (by decide +kernel) ?_
 ··refine wpAny_bind (wpAny_rule ?_)
   refine wpAny_bind ?_
   show wpAny _ A.in1 (updateSeq s.heap.objs.size (·.push .none) >>= fun _=>updateSeq s.heap.objs.size (·.pop)) _ _ _
   refine wpAny_bind (wpAny_updateSeq hL2 rfl ?_)
   have hL3:=Heap.get?_update_self (Obj.mapSeq (·.push Value.none)) hL2 rfl
   refine wpAny_updateSeq hL3 rfl ?_
   have hL4:=Heap.get?_update_self (Obj.mapSeq (·.pop)) hL3 rfl
   have hSf:s.heap.objs.size∉fp:=fun hm=>by
    rcases k6 _ hm with e|e
    ·exact Nat.ne_of_gt hlt e
    ·rw [hz1] at e;exact Nat.not_succ_le_self _ e
   have oth:∀b o,b≠s.heap.objs.size->h'.get? b=some o->((h'.update s.heap.objs.size (Obj.mapSeq (·.push Value.none))).update s.heap.objs.size (Obj.mapSeq (·.pop))).get? b=some o :=
    fun b o hb e=>(Heap.get?_update_other _ _ (Ne.symm hb)).trans ((Heap.get?_update_other _ _ (Ne.symm hb)).trans e)
   refine wpAny_pure ⟨plainId_quiet F.plain_extend_loop _,codeAny_extend_loopS (W A.in1 (by simp [hh])) hz _ hSf _ es.size 0 _ _ _ rfl (Nat.zero_le _) ((W A.in1 (by simp [hh])).frame 0 ({ s1 with heap:=h',drawn:=d' }:Shared) _ s1.toks st (Nat.le_refl _) fun b hb o e=>oth b o (fun z=>hSf (z ▸ hb)) e) hL4 (ItemsOf.nil _) fun s' acc c m hS' hacc=>?_⟩
   show wpAny _ A (load s.heap.objs.size >>= _) _ _ s'
   refine wpAny_bind (wpAny_load hS' ?_)
   refine wpAny_pure ?_
   have hol:order.length=es.size:=by simpa using k5.length_eq
   have eacc:acc.toList=order:=by
    apply List.ext_getElem?
    intro j
    by_cases hj:j<acc.size
    ·have e1:acc[j]?=some acc[j]:=by simp [hj]
     rw [Array.getElem?_toList,e1,hacc.2 j _ e1]
    ·rw [List.getElem?_eq_none (by simpa using hj),List.getElem?_eq_none (by rw [hol,<- hacc.1];omega)]
   obtain ⟨h2,g2,d2,t2,o2⟩:=s'
   have eg:g2=s1.gens:=m.gens
   have ed:d2=d':=m.drawn
   have eo:o2=s1.os:=m.os
   subst eg ed eo
   have q:=hQ h2 d2 t2 acc.toList (Nat.le_of_lt (Heap.lt_size hS')) (fun b o e=>m.heap b o (fun hb=>by
    simp only [List.mem_cons,List.not_mem_nil,or_false] at hb
    have hb0:=Heap.lt_size e
    rcases hb with z|z
    ·rw [z] at hb0;exact Nat.lt_irrefl _ hb0
    ·rw [hz1] at k4;rw [z] at hb0;exact Nat.lt_irrefl _ (Nat.lt_of_lt_of_le hb0 (Nat.le_of_succ_le k4))) (oth b o (fun z=>by
     have hb0:=Heap.lt_size e
     rw [z] at hb0;exact Nat.lt_irrefl _ hb0) (k1 b o (old1 b o e)))) (by rw [eacc];exact k5)
   rw [<- hs1]
   exact q
end
end TS
namespace TS
open PySem PySem.Spec PyProof.Rows
section
variable {P:Program} {w:World} {A:Around} {E:Value->Shared->Prop} {s:Shared}
theorem sorted_set {a:Addr} {u:Obj} {es:Array (Int×Value)} {ep:Nat} {t:SetTable} {Q:Value->Shared->Prop} (hh:A.handled=none) (hu:s.heap.get? a=some u) (hx:u.ExactSet) (hd:u.data=.set es ep t) (hf:t.fits es.size=true) (ht:TabOk (led0 w) t) (hel:ElemsOf (intKind P w) es.toList) (h64:es.size<64)
  (h:∀(h':Heap) (d':Drawn) (tk:Nat) (p:Addr) (vs:List Value) (ns:List Int) (out:List Value) (ms:List Int) (e:Nat),(∀b o,s.heap.get? b=some o->h'.get? b=some o)->s.heap.objs.size<=p->vs.Perm (es.toList.map (·.2))->IntsAre vs ns->h'.get? p=some { cls:=.type "list",data:=.seq out.toArray e }->IntsAre out ms->ms.Perm ns->ms.Pairwise (·<=·)->Q (.ref p) { s with heap:=h',drawn:=d',toks:=tk }) :
  wpAny (model P w) A (call (.builtin "sorted") [.ref a]) Q E s:=by
 refine Calls.call_function_entry kind_sorted plain_sorted entry_sorted (args_sorted1 _) ?_
 unfold Builtin.«sorted»
 refine wpAny_bind (m:=checkCount "sorted" 1 1 _) (wpAny_pure ?_)
 refine wpAny_bind (collect_set (by simp [hh]) hu hx hd hf ht (by unfold scanBound;omega) fun h' d' tk vs k0 k1 k2=>?_)
 obtain ⟨ns,hI⟩:=ints_of hel k2
 have hl:vs.length<64:=by have:=k2.length_eq;simp at this;omega
 refine wpAny_bind (wpAny_newList ?_)
 have hoL:(h'.push (seqObj "list" vs.toArray 0)).get? h'.objs.size=some (seqObj "list" vs.toArray 0):=Heap.get?_push_size _ rfl
 refine wpAny_bind (wpAny_holding (wpAny_call_entry slot_list_sort ⟨_,hoL,rfl⟩ entry_list_sort (list_sort_tree hoL hI hl fun out ms a1 a2 a3=>⟨_,rfl,?_⟩) (args_list_sort _)))
 obtain ⟨e,he⟩:=sortedHeap_at (out:=out) hoL
 refine wpAny_pure ⟨_,rfl,h _ d' tk h'.objs.size vs ns out.toList ms e (fun b o hb=>?_) ?_ k2 hI (by simpa [seqObj] using he) a1 a2 a3⟩
 ·have hb':=k1 b o hb
  have hlt:=Heap.lt_size hb'
  rw [sortedHeap_old (Nat.ne_of_lt hlt) (by rw [size_push'];exact Nat.lt_succ_of_lt hlt)]
  exact Heap.get?_push_of_some _ hb'
 ·exact k0
end
end TS
namespace L2
open PySem PySem.Spec PyProof.Rows
noncomputable def SetX (P:Program) (w:World) (p:Addr) (ns:List Int):Heap->Prop:=fun h=>∃(S:Int->Bool) (n:Nat),TS.SetT P w (TS.led0 w) h p S n/\(∀k,S k=true↔k∈ns)/\n<=ns.length/\n=(ns.foldl step_dedup []).length
section
variable {X:Cx}
theorem any_mem (l:List Int) (k:Int):(l.any (·==k))=true↔k∈l:=by
 rw [List.any_eq_true]
 exact ⟨fun ⟨x,h1,h2⟩=>by rw [<- beq_iff_eq.mp h2];exact h1,fun h=>⟨k,h,by simp⟩⟩
theorem setX_of {h:Heap} {p:Addr} {ns:List Int} {m:Nat} (hm:m=ns.length) (hS:TS.SetT X.prog X.w (TS.led0 X.w) h p (fun k'=>(firstMet (fun i=>ns.getD i 0) m).any (·==k')) (firstMet (fun i=>ns.getD i 0) m).length):SetX X.prog X.w p ns h:=by
 subst hm
 refine ⟨_,_,hS,fun k=>?_,firstMet_length_le _ _,?_⟩
 ·rw [firstMet_any,map_getD]
  exact any_mem ns k
 ·unfold firstMet
  rw [map_getD]
theorem setX_ok {H:Hp} {h:Heap} {p:Addr} {ns:List Int} (hx:SetX X.prog X.w p ns h):ObjOk X.prog X.w (upd H p (.ext (SetX X.prog X.w p ns))) h p (.ext (SetX X.prog X.w p ns)):=by
 refine ⟨hx,?_,fun h1 h2 q k=>?_⟩
 ·obtain ⟨_,_,⟨o,_,_,_,ho,_⟩,_⟩:=hx
  exact ⟨o,ho⟩
 ·obtain ⟨S,n,T,r⟩:=q
  exact ⟨S,n,T.at k,r⟩
theorem call_setXT (hc:X.calm=true):CallR X (.type "set") (fun xs H Q=>∃(a:Addr) (ns:List Int),xs=[.ref a]/\SqT X.K H a (ns.map V.int)/\ns.length<4000/\∀p,H p=none->Q (.ref p) (upd H p (.ext (SetX X.prog X.w p ns)))):=by
 intro pins s σ H xs us Q I r h
 obtain ⟨a,ns,rfl,ha,hl,q⟩:=h
 obtain ⟨u,rfl,ru⟩:=vals1 r
 cases ru
 obtain ⟨its,rv,p,_⟩:=I.tuple ha
 have hn:its.toArray.size=ns.length:=by
  have e:=rv.length
  rw [List.length_map] at e
  simpa using e.symm
 refine TS.set_of_tup (its:=its.toArray) (ns:=ns) (I.ok.hd hc) p (by simpa using intsAre_of rv) (by rw [hn];show ns.length+1<4096;omega) fun h' tk hS hk=>?_
 exact ⟨.ref _,_,I.laid (t':=tk) (fun b o e=>hk b o (Heap.lt_size e) e) (Nat.le_refl _) (setX_ok (setX_of hn hS)),rfl,q _ (I.hok.fresh (Nat.le_refl _))⟩
theorem vals_of_ints:∀{out:List Value} {ms:List Int},IntsAre out ms->Vals (ms.map V.int) out
 |_,_,.nil=>.nil
 |_,_,.cons n t h=>.cons ⟨t,rfl⟩ (vals_of_ints h)
theorem dedup_nodup:∀(ns acc:List Int),acc.Nodup->(ns.foldl step_dedup acc).Nodup
 | [],acc,h=>h
 |n::ns,acc,h=>by
  refine dedup_nodup ns _ ?_
  unfold step_dedup
  split
  ·exact h
  ·rename_i hn
   rw [Bool.not_eq_true] at hn
   refine List.nodup_append.mpr ⟨h,by simp,fun a ha b hb=>?_⟩
   have:b=n:=by simpa using hb
   subst this
   intro e
   subst e
   rw [(any_mem acc a).mpr ha] at hn
   cases hn
theorem ints_mem:∀{vs:List Value} {ns:List Int},IntsAre vs ns->∀k,k∈ns↔∃t,Value.int k t∈vs
 |_,_,.nil,k=>by simp
 |_,_,.cons n t h,k=>by
  rw [List.mem_cons,ints_mem h k]
  constructor
  ·rintro (e | ⟨t',h'⟩)
   ·subst e;exact ⟨t,List.mem_cons_self⟩
   ·exact ⟨t',List.mem_cons_of_mem _ h'⟩
  ·rintro ⟨t',h'⟩
   rcases List.mem_cons.mp h' with e|h'
   ·injection e with e _;exact .inl e
   ·exact .inr ⟨t',h'⟩
theorem sub_len:∀{m l:List Int},m.Nodup->(∀k,k∈m->k∈l)->m.length<=l.length
 | [],l,_,_=>Nat.zero_le _
 |x::m,l,h,hk=>by
  obtain ⟨h1,h2⟩:=List.nodup_cons.mp h
  have hx:=hk x List.mem_cons_self
  have ih:=sub_len (m:=m) (l:=l.erase x) h2 fun k hm=>(List.mem_erase_of_ne (fun (e:k=x)=>h1 (by rw [<- e];exact hm))).mpr (hk k (List.mem_cons_of_mem _ hm))
  rw [List.length_erase_of_mem hx] at ih
  have:=List.length_pos_of_mem hx
  rw [List.length_cons]
  omega
theorem nodup_of_len:∀{l m:List Int},m.Nodup->(∀k,k∈m↔k∈l)->l.length<=m.length->l.Nodup
 | [],m,_,_,_=>List.nodup_nil
 |a::r,m,hm,hk,hl=>by
  have ha:a∉r:=fun h=>by
   have:=sub_len hm fun k h'=>(List.mem_cons.mp ((hk k).mp h')).elim (fun e=>e ▸ h) id
   rw [List.length_cons] at hl
   omega
  have ham:a∈m:=(hk a).mpr List.mem_cons_self
  refine List.nodup_cons.mpr ⟨ha,nodup_of_len (m:=m.erase a) (hm.erase a) (fun k=>?_) ?_⟩
  ·rw [hm.mem_erase_iff,hk k,List.mem_cons]
   constructor
   ·rintro ⟨h1,h2|h2⟩
    ·exact absurd h2 h1
    ·exact h2
   ·intro h
    exact ⟨fun e=>ha (e ▸ h),.inr h⟩
  ·rw [List.length_erase_of_mem ham]
   rw [List.length_cons] at hl
   omega
theorem call_sortedX (hc:X.calm=true):CallR X (.builtin "sorted") (fun xs H Q=>∃(p:Addr) (ns:List Int),xs=[.ref p]/\H p=some (.ext (SetX X.prog X.w p ns))/\ns.length<64 /\
  ∀(l:Addr) (ms:List Int),H l=none->ms.Pairwise (· < ·)->(∀k,k∈ms↔k∈ns)->Q (.ref l) (upd H l (.lst (ms.map V.int)))):=by
 intro pins s σ H xs us Q I r h
 obtain ⟨p,ns,rfl,hp,hl,q⟩:=h
 obtain ⟨v,rfl,rv⟩:=vals1 r
 cases rv
 obtain ⟨⟨S,n,⟨u,es,ep,t,hu,hx,hd,hel,hmem,hb,hf,hn,ht⟩,hS,hnl,hnd⟩,_⟩:=I.hok p _ hp
 refine TS.sorted_set (I.ok.hd hc) hu hx hd hf ht hel (by omega) fun h' d' tk l vs ks out ms e k1 k2 k3 k4 k5 k6 k7 k8=>?_
 have hmem':∀k,k∈ms↔k∈ns:=fun k=>by
  rw [k7.mem_iff,ints_mem k4 k,<- hS k,hmem k]
  constructor
  ·rintro ⟨t',ht'⟩
   obtain ⟨x,hx1,hx2⟩:=List.mem_map.mp (k3.mem_iff.mp ht')
   exact ⟨x,hx1,by rw [hx2];exact intKind_is _ _ _ _⟩
  ·rintro ⟨x,hx1,hx2⟩
   obtain ⟨i,t',e'⟩:∃i t',x.2=.int i t':=by
    cases hv:x.2 with
    |int i t'=>exact ⟨i,t',rfl⟩
    |_=>rw [hv] at hx2;simp [intKind,Value.isInt] at hx2
   have hik:k=i:=(intKind X.prog X.w).inj (.int i t') k i (by rw [<- e'];exact hx2) (intKind_is _ _ _ _)
   subst hik
   exact ⟨t',k3.mem_iff.mpr (List.mem_map.mpr ⟨x,hx1,e'⟩)⟩
 have hnod:ms.Nodup:=by
  have hdd:=dedup_nodup ns [] List.nodup_nil
  refine nodup_of_len hdd (fun k=>?_) ?_
  ·rw [hmem' k,<- any_mem,<- any_mem]
   have:=firstMet_any (fun i=>ns.getD i 0) ns.length k
   unfold firstMet at this
   rw [map_getD] at this
   rw [this]
  ·rw [<- hnd,<- hn]
   have e1:=k7.length_eq
   have e2:=k4.length
   have e3:=k3.length_eq
   simp at e3
   omega
 have hlt:ms.Pairwise (· < ·):=by
  have:=List.pairwise_and_iff.mpr ⟨k8,hnod⟩
  exact this.imp fun ⟨a,b⟩=>by omega
 have J:=I.laid (t':=tk) (a:=l) (o:=.lst (ms.map V.int)) k1 k2 ⟨by
  rw [List.length_map,sizeLine_eq]
  have e1:=k7.length_eq
  have e2:=k4.length
  have e3:=k3.length_eq
  simp at e3
  omega,out,e,vals_of_ints k6,k5⟩
 exact ⟨.ref l,_,J.call' (s':={ s with heap:=h',drawn:=d',toks:=tk }) (ch:=[]) rfl Un.refl J.hok J.bare (fun b hb=>by cases hb),rfl,q l ms (I.hok.fresh k2) hlt hmem'⟩
end
end L2
namespace L2
open PySem PySem.Spec PyProof.Rows
section
variable {X:Cx}
end
end L2
namespace L2
open PySem PySem.Spec PyProof.Rows
mutual
noncomputable def noL:PyData->Bool
 | .tuple ds=>noLs ds
 | .list _=>false
 |_=>true
noncomputable def noLs:List PyData->Bool
 | []=>true
 |d::ds=>noL d&&noLs ds
end
section
variable {X:Cx} {pins:List (Addr×Obj)} {σ:St} {H:Hp} {s:Shared} {Z:Addr->Prop}
mutual
theorem DV.readsN (I:Inv X pins σ H s):∀{d:PyData} {v:V} {u:Value},DV X.K Z H d v->RelV v u->noL d=true->∃as,Reads s.heap u d as/\sysModules∉as
 | .none,v,u,h,r,_=>by
  have e:v=.non:=h
  subst e;cases r
  exact ⟨[],.none,by simp⟩
 | .bool b,v,u,h,r,_=>by
  have e:v=.bl b:=h
  subst e;cases r
  exact ⟨[],.bool b,by simp⟩
 | .int i,v,u,h,r,_=>by
  have e:v=.int i:=h
  subst e;obtain ⟨t,rfl⟩:=r
  exact ⟨[],.int i t,by simp⟩
 | .str x,v,u,h,r,_=>by
  have e:v=.str x:=h
  subst e;obtain ⟨t,rfl⟩:=r
  exact ⟨[],.str x t,by simp⟩
 | .tuple ds,v,u,h,r,hn=>by
  simp only [DV] at h
  obtain ⟨a,xs,e,hq,hr⟩:=h
  subst e;cases r
  obtain ⟨its,rv,⟨o,e,c,n,hd⟩,_⟩:=I.tuple hq
  obtain ⟨as,rs,hs⟩:=DVs.readsN I hr rv (by simpa only [noL] using hn)
  exact ⟨as,.tuple e c hd (by simpa using rs),hs⟩
 | .list ds,v,u,h,r,hn=>by
  simp only [noL] at hn
  cases hn
 | .dict kvs,v,u,h,r,_=>by
  simp only [DV] at h
  obtain ⟨a,es,e,_,hq,l,e1,e2⟩:=h
  subst e e1 e2;cases r
  obtain ⟨_,hsys,vs,kv,o,es',ep,g1,g2,g3,_,g5,_⟩:=(show ObjOk X.prog X.w H s.heap a (.dK _) from I.hok a _ hq)
  obtain ⟨r1,r2⟩:=pairs_reads (h:=s.heap) kv g5
  refine ⟨a::[]++[],.dict g1 g2.1 g3 r1 r2,fun hm=>?_⟩
  have e:sysModules=a:=by simpa using hm
  subst e
  simp at hsys
theorem DVs.readsN (I:Inv X pins σ H s):∀{ds:List PyData} {vs:List V} {us:List Value},DVs X.K Z H ds vs->Vals vs us->noLs ds=true->∃as,ReadsAll s.heap us ds as/\sysModules∉as
 | [],vs,us,h,r,_=>by
  have e:vs=[]:=h
  subst e;cases r
  exact ⟨[],.nil,by simp⟩
 |d::ds,vs,us,h,r,hn=>by
  obtain ⟨v,rr,e,h1,h2⟩:=h
  subst e
  simp only [noLs,Bool.and_eq_true] at hn
  cases r with
  |cons ru rt =>
   obtain ⟨as,a1,n1⟩:=DV.readsN I h1 ru hn.1
   obtain ⟨bs,a2,n2⟩:=DVs.readsN I h2 rt hn.2
   refine ⟨as++bs,.cons a1 a2,fun hm=>?_⟩
   rcases List.mem_append.mp hm with z|z
   ·exact n1 z
   ·exact n2 z
end
end
section
variable {X:Cx}
theorem call_reprT {k:Nat} (hr:Room k X.A):CallR X (.builtin "repr") (fun xs H Q=>∃(x:V) (ds:List PyData) (Z:Addr->Prop),xs=[x]/\DV X.K Z H (.tuple ds) x/\(PyData.tuple ds).showable=true/\((PyData.tuple ds).hasDict=false\/noLs ds=true)/\(PyData.tuple ds).depth<=100/\(PyData.tuple ds).shown.length<=sizeLine/\Q (.str (PyData.tuple ds).shown) H):=by
 intro pins s σ H xs us Q I r h
 obtain ⟨x,ds,Z,rfl,hd,hs,hnd,hdp,hz,q⟩:=h
 obtain ⟨u,rfl,ru⟩:=vals1 r
 have hun:X.A.units+((PyData.tuple ds).depth+1)<cLine:=by have:=hr.un;omega
 have go:∀as,Reads s.heap u (.tuple ds) as->((PyData.tuple ds).hasDict=true->sysModules∉as)->wpAny (model X.prog X.w) X.A (call (.builtin "repr") [u]) (EP X pins σ Q) X.xe s:=fun as rd hsm=>by
  obtain ⟨a,e⟩:∃a,u=.ref a:=by cases rd;exact ⟨_,rfl⟩
  subst e
  exact repr_of_reads' rd hs hsm hr.gd hun (fun _ _ e=>e) (fun h' t tk hk=>⟨.str _,H,I.kept (t':=tk) hk,⟨t,rfl⟩,q⟩) hz
 rcases hnd with e|e
 ·obtain ⟨as,rd⟩:=hd.reads I ru
  exact go as rd fun z=>by rw [e] at z;cases z
 ·obtain ⟨as,rd,hn⟩:=hd.readsN I ru (by simpa only [noL] using e)
  exact go as rd fun _=>hn
end
end L2
namespace HZ
open PySem PySem.Spec PyProof.Rows
open AutoSeq1 (wpAny_loadPart')
section
variable {P:Program} {w:World} {A:Around} {E:Value->Shared->Prop} {s:Shared}
theorem enum_step {e it l:Addr} {tn:Nat->Heap->Prop} {val:Nat->Option Value} {k:Nat} {x old:Value} {Q:Value->Shared->Prop} (S1:Stp P w A it l tn val) (ge:IsEnum s.heap e it k old) (h1:tn k s.heap) (hx:val k=some x) (hne:it≠e) (hle:l≠e)
  (q:∀h',IsEnumOut h' e it ((k:Int)+1) x s.heap.objs.size->tn (k+1) h'->h'.get? s.heap.objs.size=some { cls:=.type "tuple",data:=.seq #[.int k s.toks,x] }->h'.objs.size=s.heap.objs.size+1 ->
   (∀c o,c≠e->c≠it->s.heap.get? c=some o->h'.get? c=some o)->Q (.ref s.heap.objs.size) { s with heap:=h',toks:=s.toks+1 }) :
  wpAny (model P w) A (Builtin.«enumerate.__next__» ⟨[.ref e],[]⟩) (fun fin s'=>∃v,fin=.done (.ret v)/\Q v s') E s:=by
 obtain ⟨hp,gn,dr,tk,os⟩:=s
 show wpAny _ _ (field (.ref e) 2 >>= _) _ _ (_:Shared)
 refine wpAny_bind (wpAny_field ge rfl (x:=.ref it) rfl ?_)
 refine wpAny_bind (S1.item k _ _ _ x h1 hx fun p1 t1 s1=>?_)
 have e1:IsEnum p1 e it k old:=s1.extBut _ _ hne.symm ge
 show wpAny _ _ (field (.ref e) 3 >>= _) _ _ (_:Shared)
 refine wpAny_bind (wpAny_field e1 rfl (x:=rawInt k) rfl ?_)
 show wpAny _ _ (field (.ref e) 4 >>= _) _ _ (_:Shared)
 refine wpAny_bind (wpAny_field e1 rfl (x:=.none) rfl ?_)
 show wpAny _ _ (mkInt k >>= _) _ _ (_:Shared)
 refine wpAny_bind (wpAny_mkInt ?_)
 show wpAny _ _ (setField (.ref e) 3 (rawInt ((k:Int)+1)) >>= _) _ _ (_:Shared)
 refine wpAny_bind (wpAny_setField_rec e1 (by simp) fun p2 e2 s2=>?_)
 replace e2:IsEnum p2 e it ((k:Int)+1) old:=e2
 show wpAny _ _ (setField (.ref e) 4 .none >>= _) _ _ (_:Shared)
 refine wpAny_bind (wpAny_setField_rec e2 (by simp) fun p3 e3 s3=>?_)
 replace e3:IsEnum p3 e it ((k:Int)+1) old:=e3
 show wpAny _ _ (newTuple [.int k tk,x] >>= _) _ _ (_:Shared)
 refine wpAny_bind (wpAny_newTuple ?_)
 have e4:IsEnum (p3.push { cls:=.type "tuple",data:=.seq #[.int k tk,x] }) e it ((k:Int)+1) old:=Heap.get?_push_of_some _ e3
 have gs:p3.objs.size=hp.objs.size:=by rw [s3.1,s2.1,s1.1]
 have lz:e<p3.objs.size:=Heap.lt_size e3
 show wpAny _ _ (Builtin.SmallTypes.ownedTupleIsFree (.ref e) >>= _) _ _ (_:Shared)
 refine wpAny_bind ?_
 unfold Builtin.SmallTypes.ownedTupleIsFree
 refine wpAny_bind (wpAny_field e4 rfl (x:=.none) rfl (wpAny_pure ?_))
 simp only [if_true]
 refine wpAny_bind (wpAny_rule ?_)
 refine wpAny_bind (wpAny_field e4 rfl (x:=old) rfl ?_)
 refine wpAny_bind (wpAny_setField_rec e4 (by simp) fun p5 e5 s5=>?_)
 replace e5:IsEnum p5 e it ((k:Int)+1) x:=e5
 show wpAny _ _ (Builtin.SmallTypes.ownedTupleHandOut (.ref e) (.ref p3.objs.size) >>= _) _ _ (_:Shared)
 refine wpAny_bind ?_
 unfold Builtin.SmallTypes.ownedTupleHandOut
 refine wpAny_bind (wpAny_setField_rec e5 (by simp) fun p6 e6 s6=>?_)
 replace e6:IsEnumOut p6 e it ((k:Int)+1) x p3.objs.size:=e6
 refine wpAny_setField_rec e6 (by simp) fun p7 e7 s7=>?_
 replace e7:IsEnumOut p7 e it ((k:Int)+1) x p3.objs.size:=e7
 have up:∀c o,c≠e->p3.get? c=some o->p7.get? c=some o:=fun c o c1 h=>s7.extBut _ _ c1 (s6.extBut _ _ c1 (s5.extBut _ _ c1 (Heap.get?_push_of_some _ h)))
 have t7:p7.get? p3.objs.size=some { cls:=.type "tuple",data:=.seq #[.int k tk,x] }:=s7.extBut _ _ (Nat.ne_of_gt lz) (s6.extBut _ _ (Nat.ne_of_gt lz) (s5.extBut _ _ (Nat.ne_of_gt lz) (Heap.get?_push_size _ rfl)))
 have n7:p7.objs.size=p3.objs.size+1:=by rw [s7.1,s6.1,s5.1,Heap.size_push]
 have k1:∀c o,c≠e->p1.get? c=some o->p3.get? c=some o:=fun c o c1 h=>s3.extBut _ _ c1 (s2.extBut _ _ c1 h)
 rw [gs] at e7 t7 n7
 refine wpAny_bind (wpAny_letGo (wpAny_pure ⟨_,rfl,?_⟩))
 show Q (.ref p3.objs.size) _
 rw [gs]
 exact q p7 e7 (S1.keep _ _ _ t1 (fun o h=>up _ o hne (k1 _ o hne h)) (fun o h=>up _ o hle (k1 _ o hle h))) t7 n7 fun c o c1 c2 h=>up c o c1 (k1 c o c1 (s1.extBut _ _ c2 h))
theorem enum_next {e it l:Addr} {tn:Nat->Heap->Prop} {val:Nat->Option Value} {k:Nat} {x old:Value} {Q:Option Value->Shared->Prop} (S1:Stp P w A.in1 it l tn val) (ge:IsEnum s.heap e it k old) (h1:tn k s.heap) (hx:val k=some x) (hne:it≠e) (hle:l≠e)
  (q:∀h',IsEnumOut h' e it ((k:Int)+1) x s.heap.objs.size->tn (k+1) h'->h'.get? s.heap.objs.size=some { cls:=.type "tuple",data:=.seq #[.int k s.toks,x] }->h'.objs.size=s.heap.objs.size+1 ->
   (∀c o,c≠e->c≠it->s.heap.get? c=some o->h'.get? c=some o)->Q (some (.ref s.heap.objs.size)) { s with heap:=h',toks:=s.toks+1 }):wpAny (model P w) A (pyNext (.ref e)) Q E s:=by
 have hT:s.TypeIs (.ref e) "enumerate":=⟨_,ge,rfl⟩
 unfold pyNext
 exact wpAny_bind (wpAny_attempt (wpAny_callSpecial?_slot (name:=Str.ofString "__next__") hT F.slot_enumerate_next
  (wpAny_call_entry F.slot_enumerate_next hT F.entry_enumerate_next (enum_step S1 ge h1 hx hne hle fun h' a1 a2 a3 a4 a5=>wpAny_pure (q h' a1 a2 a3 a4 a5)) (F.args_enumerate_next_1 _))))
theorem enum_end {e it l:Addr} {tn:Nat->Heap->Prop} {val:Nat->Option Value} {k:Nat} {old:Value} {Q:Option Value->Shared->Prop} (S1:Stp P w A.in1 it l tn val) (ge:IsEnum s.heap e it k old) (h1:tn k s.heap) (hx:val k=none)
  (q:∀h',Heap.ExtBut it s.heap h'->Q none { s with heap:=h' }):wpAny (model P w) A (pyNext (.ref e)) Q E s:=by
 have hT:s.TypeIs (.ref e) "enumerate":=⟨_,ge,rfl⟩
 unfold pyNext
 refine wpAny_bind (wpAny_attempt (wpAny_callSpecial?_slot (name:=Str.ofString "__next__") hT F.slot_enumerate_next
  (wpAny_call_entry F.slot_enumerate_next hT F.entry_enumerate_next ?_ (F.args_enumerate_next_1 _))))
 show wpAny _ _ (field (.ref e) 2 >>= _) _ _ (_:Shared)
 refine wpAny_bind (wpAny_field ge rfl (x:=.ref it) rfl ?_)
 refine wpAny_bind (S1.stop k _ _ _ h1 hx fun h' x he hx'=>?_)
 obtain ⟨o,ho,hc⟩:=hx'
 exact wpAny_bind (wpAny_isInstance (T:="StopIteration") (b:=true) ⟨o,ho,hc⟩ isSubtype_stop (wpAny_pure (q _ he)))
theorem new_enum (l:Addr) (items:Array Value) (n:Nat) (dct:Option Addr) (sl:Array (Option Value)) :
  Meets (Builtin.«enumerate.__new__» ⟨[.type "enumerate",.ref l],[]⟩) (fun _ R s=>s.heap.get? l=some { cls:=.type "tuple",dict:=dct,data:=.seq items n,slots:=sl } /\
   R (.ok (.ret (.ref (s.heap.push { cls:=.type "tuple_iterator",data:=.fields #[.ref l,.int 0 0] }).objs.size)))
    { s with heap:=(s.heap.push { cls:=.type "tuple_iterator",data:=.fields #[.ref l,.int 0 0] }).push { cls:=.type "enumerate",data:=.fields #[.none,.bool false,.ref s.heap.objs.size,rawInt 0,.none,.none] } }) :=
 .of_wp fun prog w A R s h=>by
  obtain ⟨h1,h2,h3,h4,h5⟩:=s;obtain ⟨hl,h⟩:=h
  have ss:=sub_enumerate
  have hL:Heap.IsTuple (Shared.heap ⟨h1,h2,h3,h4,h5⟩) l items:=⟨_,hl,rfl,n,rfl⟩
  wp_walk using wpAny_loadPart' hl
  refine wpAny_stack_any fun st=>wpAny_pure ?_
  split
  ·rename_i c _ _ _ _ _
   cases (c==Value.type "enumerate")
   ·wp_walk using wpAny_loadPart' hl,wpAny_pyIter_tuple hL
    exact ⟨_,rfl,h⟩
   ·wp_walk using wpAny_loadPart' hl,wpAny_pyIter_tuple hL
    exact ⟨_,rfl,h⟩
  ·wp_walk using wpAny_loadPart' hl,wpAny_pyIter_tuple hL
   exact ⟨_,rfl,h⟩
theorem call_enum_tup {l:Addr} {items:Array Value} {Q:Value->Shared->Prop} (hL:s.heap.IsTuple l items)
  (h:∀h',IsEnum h' (s.heap.objs.size+1) s.heap.objs.size 0 .none->h'.IsTupleIter s.heap.objs.size l 0->h'.objs.size=s.heap.objs.size+2 ->
   (∀b o,s.heap.get? b=some o->h'.get? b=some o)->Q (.ref (s.heap.objs.size+1)) { s with heap:=h' }) :
  wpAny (model P w) A (call (.type "enumerate") [.ref l]) Q E s:=by
 obtain ⟨⟨c,dct,dt,sl⟩,hl,hc,n,hd⟩:=hL
 replace hc:c=.type "tuple":=hc
 replace hd:dt=.seq items n:=hd
 subst hc hd
 refine callType_new F.called_enumerate (by decide) (F.typeCall_enumerate_1 _) (F.newCall_enumerate_1 _) (fun obj=>F.args_object_init_2 obj _) F.entry_enumerate_new
  (new_enum l items n dct sl) ⟨hl,?_⟩
 have hz:(s.heap.push { cls:=.type "tuple_iterator",data:=.fields #[.ref l,.int 0 0] }).objs.size=s.heap.objs.size+1:=Heap.size_push ..
 have he:=Heap.get?_push_size (s.heap.push { cls:=.type "tuple_iterator",data:=.fields #[.ref l,.int 0 0] })
   (o:={ cls:=.type "enumerate",data:=.fields #[.none,.bool false,.ref s.heap.objs.size,rawInt 0,.none,.none] }) rfl
 show _/\_
 rw [hz] at he |-
 exact ⟨⟨_,he,rfl⟩,h _ he ⟨_,Heap.get?_push_of_some _ (Heap.get?_push_size _ rfl),rfl,rfl⟩ (by rw [Heap.size_push,hz]) fun b o x=>Heap.get?_push_of_some _ (Heap.get?_push_of_some _ x)⟩
end
end HZ
namespace L2
open PySem PySem.Spec PyProof.Rows
noncomputable def IteT (K:Frag) (a:Addr):It :=
 ⟨fun i H=>∃xs x,SqT K H a xs/\xs[i]?=some x,fun i H v H'=>∃p x,H p=none/\v=.ref p/\H'=upd H p (.tup [.int i,x])/\∀xs,SqT K H a xs->xs[i]?=some x,fun i H=>∃xs,SqT K H a xs/\xs.length<=i⟩
theorem turn_enumT {P:Program} {w:World} {K:Frag} {elts:List Expr} {kk:Nat} {pos:Pos} (a e it:Addr) (hne:it≠e) :
  Turn P w K (.Tuple elts kk pos) (IteT K a) [e,it] e (fun i h=>(∃old,IsEnum h e it i old)/\h.IsTupleIter it a i) where
 mem:=by simp
 obj:=fun i h st c hc=>by
  have hc':c=e\/c=it:=by simpa using hc
  rcases hc' with rfl|rfl
  ·obtain ⟨old,q⟩:=st.1;exact ⟨_,q,fun v q=>nomatch q⟩
  ·obtain ⟨o,e,_,d⟩:=st.2;exact ⟨o,e,fun v q=>by rw [d] at q;cases q⟩
 keep:=fun i h h' st k=>⟨by obtain ⟨old,q⟩:=st.1;exact ⟨old,k e (by simp) _ q⟩,st.2.at fun o q=>k it (by simp) o q⟩
 item:=by
  intro X hP hw hK hc i pins s σ H E I hf st hg
  subst hP hw hK
  obtain ⟨xs,x,hx,ex⟩:=hg
  obtain ⟨i1,r1,p1,z1⟩:=I.tuple hx
  obtain ⟨u,eu,ru⟩:=r1.get ex
  have hh:X.A.in1.handled=none:=I.ok.hd hc
  obtain ⟨old,he⟩:=st.1
  refine HZ.enum_next (HZ.stp_tup hh it a i1.toArray) he ⟨st.2,p1⟩ (by simpa using eu) hne (sqT_ne I hx (hf e (by simp))) fun h' c1 c2 c3 c4 c5=>⟨_,rfl,?_⟩
  refine wpAny_letOwnedTupleGo_enum c1 fun h2 d1 d2=>?_
  have hn:H s.heap.objs.size=none:=I.hok.fresh (Nat.le_refl _)
  have zlt:e<s.heap.objs.size:=Heap.lt_size he
  have newT:IsTup h2 s.heap.objs.size #[.int i s.toks,u]:=⟨_,d2.extBut _ _ (Nat.ne_of_gt zlt) c3,rfl,_,rfl⟩
  have I2:Inv X pins σ (upd H s.heap.objs.size (.tup [.int i,x])) { s with heap:=h2,toks:=s.toks+1 }:=I.turnedLay (ch:=[e,it]) (fun c o hcn q=>by
   have z:c≠e/\c≠it:=by simpa using hcn
   exact d2.extBut c o z.1 (c5 c o z.1 z.2 q)) hf (Nat.le_refl _) ⟨by show 2<=sizeLine;decide,[.int i s.toks,u],.cons ⟨_,rfl⟩ (.cons ru .nil),newT⟩
  refine ⟨.ref s.heap.objs.size,_,I2,rfl,⟨_,x,hn,rfl,rfl,fun xs' q1=>?_⟩,?_,fun c hcm=>?_⟩
  ·rw [I.tuple_inj q1 hx];exact ex
  ·exact ⟨⟨_,d1⟩,c2.1.extBut d2.extBut hne⟩
  ·rw [upd_ne]
   ·exact (hf c hcm).1
   ·intro z
    have hc':c=e\/c=it:=by simpa using hcm
    have:c<s.heap.objs.size:=by
     rcases hc' with q|q
     ·rw [q];exact zlt
     ·rw [q];obtain ⟨o,g,_⟩:=st.2;exact Heap.lt_size g
    rw [z] at this
    exact Nat.lt_irrefl _ this
 done:=by
  intro X hP hw hK hc i pins s σ H E I hf st hg
  subst hP hw hK
  obtain ⟨xs,hx,hle⟩:=hg
  obtain ⟨i1,r1,p1,z1⟩:=I.tuple hx
  have hh:X.A.in1.handled=none:=I.ok.hd hc
  have l1:=r1.length
  obtain ⟨old,he⟩:=st.1
  refine HZ.enum_end (HZ.stp_tup hh it a i1.toArray) he ⟨st.2,p1⟩ (by simp;omega) fun h' c7=>⟨rfl,I.turnedAll (t':=s.toks) (ch:=[e,it]) (fun c o hcn q=>by
   have z:c≠e/\c≠it:=by simpa using hcn
   exact c7 c o z.2 q) hf⟩
 self:=fun A i s Q E st h=>by
  obtain ⟨old,he⟩:=st.1
  exact wpAny_pyIter_enum he h
section
variable {X:Cx} {elts:List Expr} {kk:Nat} {tp:Pos}
noncomputable def iEnT (K:Frag) (ta:TA):TI:=fun σ H R=>ta σ H fun vs H1=>∃a xs,vs=[.ref a]/\SqT K H1 a xs/\R (IteT K a) H1
theorem boot_enum:bootBuiltins "enumerate"=some (.type "enumerate"):=by decide +kernel
theorem pi_enumT {a:Expr} {ta:TA} {p pos:Pos} (hg:Gl X "enumerate") (hm:X.mg "enumerate"=none) (ha:PA X [a] ta) (hs:starEach [a] X.env=[(false,eval a X.env)]:=by rfl) :
  PI X (.Tuple elts kk tp) (.Call (.Name "enumerate" p) [a] [] pos) (iEnT X.K ta):=by
 intro pins s σ H R I h
 refine Call_ (ld_blt I hg hm boot_enum (PyProof.Rows.callWith_type1 (thn (ha pos pins s σ H _ I h) fun us s1 ⟨vs,H1,I1,r1,q1⟩=>?_) hs rfl))
 obtain ⟨a,xs,e,hx,q⟩:=q1
 subst e
 obtain ⟨u,rfl,ru⟩:=vals1 r1
 cases ru
 obtain ⟨i1,_,p1,_⟩:=I1.tuple hx
 refine HZ.call_enum_tup (items:=i1.toArray) p1 fun h' c1 c2 c3 c4=>?_
 refine wpAny_pyIter_enum (s:={ s1 with heap:=h' }) c1 ?_
 refine ⟨_,[s1.heap.objs.size+1,s1.heap.objs.size],_,_,H1,rfl,I1.kept (t':=s1.toks) c4,turn_enumT a _ _ (Nat.ne_of_lt (Nat.lt_succ_self _)),⟨⟨_,c1⟩,c2⟩,fun b hb=>?_,q⟩
 have hb':s1.heap.objs.size<=b:=by
  have z:b=s1.heap.objs.size+1\/b=s1.heap.objs.size:=by simpa using hb
  rcases z with z|z
  ·rw [z];exact Nat.le_succ _
  ·rw [z];exact Nat.le_refl _
 exact I1.fpOk hb' (I1.hok.fresh hb')
end
end L2
namespace L2
open PySem PySem.Spec PyProof.Rows
section
variable {K:Frag} {caps:St} {H:Hp} {tf:TT} {te:TE} {Q:VK}
end
end L2
namespace HZ
open PySem PySem.Spec PyProof.Rows
theorem noFill_tuple_mul:fillsNumberSlot (.type "tuple") "mul"=pure false:=by
 first|rfl | (unfold fillsNumberSlot;kernel_rfl)|kernel_rfl
theorem repeat_tuple:seqRepeat? (.type "tuple")=pure (some (.builtin "tuple.__mul__")):=by
 first|rfl|kernel_rfl
theorem rmul_tuple (a:Int) (t:Tok) (l:Addr) (items:Array Value) (n:Nat) (d:Option Addr) (sl:Array (Option Value)) :
  Meets (Builtin.«int.__rmul__» ⟨[.int a t,.ref l],[]⟩) (fun _ R s=>s.heap.get? l=some { cls:=.type "tuple",dict:=d,data:=.seq items n,slots:=sl }/\R (.ok (.ret Value.notImplemented)) s) :=
 .of_wp fun prog w A R s h=>by
  obtain ⟨h1,h2,h3,h4,h5⟩:=s;obtain ⟨hl,h⟩:=h;wp_walk;exact ⟨_,rfl,h⟩
section
variable {P:Program} {w:World} {A:Around} {E:Value->Shared->Prop} {s:Shared}
theorem mul_tup {t:Addr} {vs:List Value} {k:Int} {tk:Tok} {Q:Value->Shared->Prop} (ht:IsTup s.heap t vs.toArray) (hv:vs≠[]) (hk:1<=k) (hz:vs.length*k.toNat<=sizeLine)
  (h1:k=1->Q (.ref t) s) (h2:k≠1->Q (.ref s.heap.objs.size) { s with heap:=s.heap.push { cls:=.type "tuple",data:=.seq (List.replicate k.toNat vs).flatten.toArray } }) :
  wpAny (model P w) A (binaryOp .Mult (.ref t) (.int k tk)) Q E s:=by
 obtain ⟨⟨cls,dd,data,sl⟩,ho,hc,n,hd⟩:=id ht
 simp only at hc hd
 subst hc hd
 have hk2:k<=16777216:=by
  have hl:1<=vs.length:=by
   cases vs with
   |nil=>exact absurd rfl hv
   |cons a r=>simp
  have hz':vs.length*k.toNat<=16777216:=by rw [<- sizeLine_eq];exact hz
  have:1*k.toNat<=vs.length*k.toNat:=Nat.mul_le_mul_right _ hl
  omega
 refine wpAny_binaryOp_repeat_ref (T:="tuple") (U:="int") (by decide) ⟨_,ho,rfl⟩ (fun s'=>typeIs_int s' k tk) noFill_tuple_mul F.fills_int_mul F.slot_int_rmul repeat_tuple F.slot_int_index.lookup
  (call_meets F.slot_int_rmul (typeIs_int s k tk) F.entry_int_rmul (F.args_int_rmul_2 _ _) (rmul_tuple k tk t vs.toArray n dd sl) ⟨ho,rfl,⟨_,ho,rfl⟩,?_⟩)
 refine wpAny_call_entry F.slot_tuple_mul ⟨_,ho,rfl⟩ F.entry_tuple_mul ?_ (F.args_tuple_mul_2 _ _)
 show wpAny _ _ (asIndex (.int k tk) >>= _) _ _ _
 refine wpAny_bind ?_
 refine wpAny_of_eq (a:=k) (by first|rfl | (unfold asIndex;rfl)) ?_
 dsimp only
 rw [if_neg (by simp;omega)]
 unfold Builtin.Tuple.tupleItemsOf
 refine wpAny_bind (wpAny_bind (wpAny_seqItems ho rfl ?_))
 refine wpAny_pure ?_
 have ne:vs.toArray.isEmpty=false:=by
  cases vs with
  |nil=>exact absurd rfl hv
  |cons a r=>simp
 by_cases h:k=1
 ·rw [if_pos (by rw [h];simp)]
  unfold Builtin.Tuple.tupleIsExact
  refine wpAny_bind (wpAny_bind (wpAny_typeOf (T:="tuple") ⟨_,ho,rfl⟩ (wpAny_pure ?_)))
  rw [if_pos (by decide)]
  exact wpAny_bind (wpAny_rule (wpAny_pure ⟨_,rfl,h1 h⟩))
 ·rw [if_neg (by rw [ne];simp [h])]
  rw [if_neg (by rw [ne];simp;omega)]
  have hm:(vs.toArray.size:Int)*k=((vs.length*k.toNat:Nat):Int):=by
   rw [List.size_toArray,Int.natCast_mul]
   congr 1
   omega
  have hz2:vs.length*k.toNat<=16777216:=by rw [<- sizeLine_eq];exact hz
  rw [if_neg (by rw [hm];omega)]
  rw [if_neg (by
   unfold Builtin.Tuple.tupleTooMany
   rw [hm,sizeLine_eq,decide_eq_true_eq]
   generalize vs.length*k.toNat=q at hz2
   omega)]
  unfold Builtin.Tuple.tupleExact
  have e:List.foldl (fun x1 x2=>x1++x2) #[] (List.replicate k.toNat vs.toArray)=(List.replicate k.toNat vs).flatten.toArray:=by
   have:=L2.foldl_rep vs k.toNat []
   rw [List.nil_append] at this
   exact this
  rw [e]
  refine wpAny_bind (wpAny_newObj_type ?_ (by
   show (List.toArray _).size<=sizeLine
   rw [List.size_toArray,L2.len_rep,Nat.mul_comm]
   exact hz))
  exact wpAny_pure ⟨_,rfl,h2 h⟩
end
end HZ
namespace L2
open PySem PySem.Spec PyProof.Rows
section
variable {X:Cx}
noncomputable def rRepT (K:Frag):R2:=fun x y H Q=>∃a xs k,x=.ref a/\y=.int k/\SqT K H a xs/\xs≠[]/\1<=k/\xs.length*k.toNat<=sizeLine/\NewT K H (List.replicate k.toNat xs).flatten Q
theorem op_repT:OpR X (binaryOp .Mult) (rRepT X.K):=by
 intro pins s σ H x y v u Q I rx ry h
 obtain ⟨a,xs,k,rfl,rfl,hs,hx,hk,hz,q⟩:=h
 cases rx
 obtain ⟨t,rfl⟩:=ry
 obtain ⟨its,r,p,z⟩:=I.tuple hs
 have hl:=r.length
 refine HZ.mul_tup p (fun e=>hx (by rw [e] at hl;exact List.length_eq_zero_iff.mp hl)) hk (by rw [<- hl];exact hz) (fun e=>?_) (fun _=>?_)
 ·have e1:(List.replicate k.toNat xs).flatten=xs:=by rw [e];simp
  rw [e1] at q
  exact ⟨.ref a,H,I,rfl,q.here hs⟩
 ·have hz':(List.replicate k.toNat xs).flatten.length<=sizeLine:=by rw [len_rep,Nat.mul_comm];exact hz
  exact ⟨.ref _,_,I.laid (t':=s.toks) (o:=.tup (List.replicate k.toNat xs).flatten) (fun b o e=>Heap.get?_push_of_some _ e) (Nat.le_refl _) ⟨hz',_,r.rep k.toNat,⟨_,Heap.get?_push_size _ rfl,rfl,_,rfl⟩⟩,rfl,q.new (I.hok.fresh (Nat.le_refl _))⟩
end
end L2
namespace HZ
open PySem PySem.Spec PyProof.Rows
section
variable {P:Program} {w:World} {A:Around} {E:Value->Shared->Prop} {s:Shared}
end
end HZ
namespace L2
open PySem PySem.Spec PyProof.Rows
section
variable {X:Cx} {tg:Expr}
theorem call_rangeV:CallR X (.type "range") (fun xs H Q=>∃j:Int,xs=[.int j]/\∀p,H p=none->Q (.ref p) (upd H p (.rng 0 j))):=by
 intro pins s σ H xs us Q I r h
 obtain ⟨j,rfl,q⟩:=h
 obtain ⟨u,rfl,ru⟩:=vals1 r
 obtain ⟨t,rfl⟩:=ru
 exact call_range_1 ⟨.ref _,_,I.laid (o:=.rng 0 j) (t':=s.toks+1+1) (fun b o e=>Heap.get?_push_of_some _ e) (Nat.le_refl _) ⟨_,_,_,Heap.get?_push_size _ rfl⟩,rfl,q _ (I.hok.fresh (Nat.le_refl _))⟩
end
end L2
namespace HZ
open PySem PySem.Spec PyProof.Rows
section
variable {P:Program} {w:World} {A:Around} {R:Result->Shared->Prop} {I:Addr} {fp wr:List Addr} {n:Nat} {Pv:Nat->Value->Prop} {St:Nat->Heap->Prop} {kw:List (Str×Value)}
end
end HZ
namespace HZ
open PySem PySem.Spec PyProof.Rows
section
variable {P:Program} {w:World} {A:Around} {E:Value->Shared->Prop} {s:Shared}
end
end HZ
namespace L2
open PySem PySem.Spec PyProof.Rows
section
variable {X:Cx} {p pos kp:Pos} {e d:Expr} {ta tk:TA}
end
end L2
namespace DI
open PySem L2
set_option genInjectivity true in
inductive D where
 |non|bl (b:Bool)|int (i:Int)|str (x:Str)|tup (ds:List D)|lst (ds:List D)|dct (kvs:List (Key×Int))|han (k:Nat)|ty (n:String)|scr (ns:List Int)
set_option genInjectivity true in
inductive Cell where
 |dead|lst (ds:List D)|dK (kvs:List (Key×D))
noncomputable abbrev Sto:=List Cell
noncomputable abbrev Env:=List (Option D)
structure Exn where
 c:Str
 many:Option D
noncomputable abbrev Res (α:Type):=Option (Except Exn α×Sto)
noncomputable abbrev ok {α:Type} (a:α) (s:Sto):Res α:=some (.ok a,s)
noncomputable def bnd {α β:Type} (r:Res α) (k:α->Sto->Res β):Res β:=match r with
 |some (.ok a,s)=>k a s
 |some (.error x,s)=>some (.error x,s)
 |none=>none
@[simp] theorem bnd_ok {α β:Type} {a:α} {s:Sto} {k:α->Sto->Res β}:bnd (some (.ok a,s)) k=k a s:=rfl
structure Wd where
 ρ:List Addr
 sto:Sto
 H:Hp
def Wd.Z (w:Wd) (a:Addr):Prop:=∃(k:Nat) (c:Cell),w.ρ[k]?=some a/\w.sto[k]?=some c/\c≠.dead
def LstAt (w:Wd) (a:Addr) (xs:List V):Prop:=¬ w.Z a/\w.H a=some (.lst xs)
theorem LstAt.sq {K:Frag} {w:Wd} {a:Addr} {xs:List V} (h:LstAt w a xs):SqL K w.H a xs:=SqL.of h.2
def ScrAt (K:Frag) (w:Wd) (a:Addr) (xs:List V):Prop:=(¬ w.Z a/\Rd w.H a (.lst xs)) \/
 ∃(o:Obj) (its:Array Value) (n:Nat),K.lookup a=some o/\o.cls=.type "list"/\o.dict=none/\o.data=.seq its n/\its.size<=sizeLine/\Vals xs its.toList
theorem ScrAt.sq {K:Frag} {w:Wd} {a:Addr} {xs:List V} (h:ScrAt K w a xs):SqL K w.H a xs:=by
 rcases h with ⟨_,h⟩|h
 ·exact .inl h
 ·exact .inr h
mutual
noncomputable def DV (K:Frag) (w:Wd):D->V->Prop
 | .non,v=>v=.non
 | .bl b,v=>v=.bl b
 | .int i,v=>v=.int i
 | .str x,v=>v=.str x
 | .tup ds,v=>∃a xs,v=.ref a/\SqT K w.H a xs/\DVs K w ds xs
 | .lst ds,v=>∃a xs,v=.ref a/\LstAt w a xs/\DVs K w ds xs
 | .dct kvs,v=>∃a,v=.ref a/\¬ w.Z a/\w.H a=some (.dK (kvs.map fun p=>(p.1,V.int p.2)))
 | .han k,v=>∃a,w.ρ[k]?=some a/\v=.ref a
 | .ty n,v=>v=.ty n
 | .scr ns,v=>∃a,v=.ref a/\ScrAt K w a (ns.map V.int)
noncomputable def DVs (K:Frag) (w:Wd):List D->List V->Prop
 | [],vs=>vs=[]
 |d::ds,vs=>∃v r,vs=v::r/\DV K w d v/\DVs K w ds r
end
structure Fw (K:Frag) (w w':Wd):Prop where
 rho:∀(k:Nat) a,w.ρ[k]?=some a->w'.ρ[k]?=some a
 tup:∀a xs,SqT K w.H a xs->SqT K w'.H a xs
 lst:∀a xs,¬ w.Z a->w.H a=some (.lst xs)->¬ w'.Z a/\w'.H a=some (.lst xs)
 frz:∀a o xs,¬ w.Z a->w.H a=some (.frz o (.lst xs))->¬ w'.Z a/\w'.H a=some (.frz o (.lst xs))
 dct:∀a es,¬ w.Z a->w.H a=some (.dK es)->¬ w'.Z a/\w'.H a=some (.dK es)
theorem Fw.lstAt {K:Frag} {w w':Wd} (S:Fw K w w') {a:Addr} {xs:List V} (h:LstAt w a xs):LstAt w' a xs:=S.lst a xs h.1 h.2
theorem Fw.scrAt {K:Frag} {w w':Wd} (S:Fw K w w') {a:Addr} {xs:List V} (h:ScrAt K w a xs):ScrAt K w' a xs:=by
 rcases h with ⟨h1,h2 | ⟨o,h2⟩⟩|h
 ·have q:=S.lst a xs h1 h2
  exact .inl ⟨q.1,.inl q.2⟩
 ·have q:=S.frz a o xs h1 h2
  exact .inl ⟨q.1,.inr ⟨o,q.2⟩⟩
 ·exact .inr h
mutual
theorem DV.fw {K:Frag} {w w':Wd} (S:Fw K w w'):∀{d:D} {v:V},DV K w d v->DV K w' d v
 | .non,_,h=>h
 | .bl _,_,h=>h
 | .int _,_,h=>h
 | .str _,_,h=>h
 | .tup ds,v,h=>by
  simp only [DV] at h |-
  obtain ⟨a,xs,e,hq,r⟩:=h
  exact ⟨a,xs,e,S.tup a xs hq,DVs.fw S r⟩
 | .lst ds,v,h=>by
  simp only [DV] at h |-
  obtain ⟨a,xs,e,hq,r⟩:=h
  exact ⟨a,xs,e,S.lstAt hq,DVs.fw S r⟩
 | .dct kvs,v,h=>by
  simp only [DV] at h |-
  obtain ⟨a,e,hz,hq⟩:=h
  obtain ⟨h1,h2⟩:=S.dct a _ hz hq
  exact ⟨a,e,h1,h2⟩
 | .han k,v,h=>by
  simp only [DV] at h |-
  obtain ⟨a,e,e2⟩:=h
  exact ⟨a,S.rho k a e,e2⟩
 | .ty _,_,h=>h
 | .scr ns,v,h=>by
  simp only [DV] at h |-
  obtain ⟨a,e,hq⟩:=h
  exact ⟨a,e,S.scrAt hq⟩
theorem DVs.fw {K:Frag} {w w':Wd} (S:Fw K w w'):∀{ds:List D} {vs:List V},DVs K w ds vs->DVs K w' ds vs
 | [],_,h=>h
 |d::ds,vs,h=>by
  simp only [DVs] at h |-
  obtain ⟨v,r,e,h1,h2⟩:=h
  exact ⟨v,r,e,DV.fw S h1,DVs.fw S h2⟩
end
structure Le (K:Frag) (w w':Wd):Prop where
 dv:∀d v,DV K w d v->DV K w' d v
 lst:∀a xs,LstAt w a xs->LstAt w' a xs
 tup:∀a xs,SqT K w.H a xs->SqT K w'.H a xs
noncomputable instance {K:Frag} {w w':Wd}:CoeFun (Le K w w') (fun _=>∀d v,DV K w d v->DV K w' d v):=⟨Le.dv⟩
theorem Le.refl {K:Frag} (w:Wd):Le K w w:=⟨fun _ _ h=>h,fun _ _ h=>h,fun _ _ h=>h⟩
theorem Le.trans {K:Frag} {a b c:Wd} (h:Le K a b) (g:Le K b c):Le K a c:=⟨fun d v x=>g.dv d v (h.dv d v x),fun p xs x=>g.lst p xs (h.lst p xs x),fun p xs x=>g.tup p xs (h.tup p xs x)⟩
theorem Fw.le {K:Frag} {w w':Wd} (S:Fw K w w'):Le K w w':=⟨fun _ _ h=>h.fw S,fun _ _ h=>S.lstAt h,S.tup⟩
theorem Le.all {K:Frag} {w w':Wd} (h:Le K w w'):∀{ds:List D} {vs:List V},DVs K w ds vs->DVs K w' ds vs
 | [],_,x=>x
 |d::ds,vs,x=>by
  simp only [DVs] at x |-
  obtain ⟨v,r,e,h1,h2⟩:=x
  exact ⟨v,r,e,h d v h1,Le.all h h2⟩
theorem DVs.length {K:Frag} {w:Wd}:∀{ds:List D} {vs:List V},DVs K w ds vs->ds.length=vs.length
 | [],vs,h=>by
  have e:vs=[]:=h
  subst e
  rfl
 |d::ds,vs,h=>by
  obtain ⟨v,r,e,_,h2⟩:=h
  subst e
  simp [DVs.length h2]
theorem DVs.get {K:Frag} {w:Wd}:∀{ds:List D} {vs:List V},DVs K w ds vs->∀(i:Nat) v,vs[i]?=some v->∃d,ds[i]?=some d/\DV K w d v
 | [],vs,h,i,v,e=>by
  have e':vs=[]:=h
  subst e'
  simp at e
 |d::ds,vs,h,i,v,e=>by
  obtain ⟨u,r,e',h1,h2⟩:=h
  subst e'
  cases i with
  |zero =>
   have:u=v:=by simpa using e
   subst this
   exact ⟨d,rfl,h1⟩
  |succ i=>exact DVs.get h2 i v (by simpa using e)
theorem DVs.get' {K:Frag} {w:Wd}:∀{ds:List D} {vs:List V},DVs K w ds vs->∀(i:Nat) d,ds[i]?=some d->∃v,vs[i]?=some v/\DV K w d v
 | [],vs,h,i,d,e=>by simp at e
 |d::ds,vs,h,i,d',e=>by
  obtain ⟨u,r,e',h1,h2⟩:=h
  subst e'
  cases i with
  |zero =>
   have:d=d':=by simpa using e
   subst this
   exact ⟨u,rfl,h1⟩
  |succ i=>exact DVs.get' h2 i d' (by simpa using e)
theorem DVs.append {K:Frag} {w:Wd}:∀{ds es:List D} {vs ws:List V},DVs K w ds vs->DVs K w es ws->DVs K w (ds++es) (vs++ws)
 | [],es,vs,ws,h,h'=>by
  have e:vs=[]:=h
  subst e
  exact h'
 |d::ds,es,vs,ws,h,h'=>by
  obtain ⟨v,r,e,h1,h2⟩:=h
  subst e
  exact ⟨v,r++ws,rfl,h1,DVs.append h2 h'⟩
theorem DVs.take {K:Frag} {w:Wd}:∀{ds:List D} {vs:List V} (n:Nat),DVs K w ds vs->DVs K w (ds.take n) (vs.take n)
 | [],vs,n,h=>by
  have e:vs=[]:=h
  subst e
  simp [DVs]
 |d::ds,vs,0,h=>by simp [DVs]
 |d::ds,vs,n+1,h=>by
  obtain ⟨v,r,e,h1,h2⟩:=h
  subst e
  exact ⟨v,r.take n,rfl,h1,DVs.take n h2⟩
theorem DVs.drop {K:Frag} {w:Wd}:∀{ds:List D} {vs:List V} (n:Nat),DVs K w ds vs->DVs K w (ds.drop n) (vs.drop n)
 | [],vs,n,h=>by
  have e:vs=[]:=h
  subst e
  simp [DVs]
 |d::ds,vs,0,h=>h
 |d::ds,vs,n+1,h=>by
  obtain ⟨v,r,e,h1,h2⟩:=h
  subst e
  exact DVs.drop n h2
theorem DVs.reverse {K:Frag} {w:Wd}:∀{ds:List D} {vs:List V},DVs K w ds vs->DVs K w ds.reverse vs.reverse
 | [],vs,h=>by
  have e:vs=[]:=h
  subst e
  simp [DVs]
 |d::ds,vs,h=>by
  obtain ⟨v,r,e,h1,h2⟩:=h
  subst e
  rw [List.reverse_cons,List.reverse_cons]
  exact DVs.append (DVs.reverse h2) ⟨v,[],rfl,h1,rfl⟩
theorem DVs.set {K:Frag} {w:Wd} {d:D} {v:V} (hd:DV K w d v):∀{ds:List D} {vs:List V} (i:Nat),DVs K w ds vs->DVs K w (ds.set i d) (vs.set i v)
 | [],vs,i,h=>by
  have e:vs=[]:=h
  subst e
  simp [DVs]
 |d'::ds,vs,0,h=>by
  obtain ⟨u,r,e,h1,h2⟩:=h
  subst e
  exact ⟨v,r,rfl,hd,h2⟩
 |d'::ds,vs,i+1,h=>by
  obtain ⟨u,r,e,h1,h2⟩:=h
  subst e
  exact ⟨u,r.set i v,rfl,h1,DVs.set hd i h2⟩
theorem DVs.one {K:Frag} {w:Wd} {d:D} {v:V} (h:DV K w d v):DVs K w [d] [v]:=⟨v,[],rfl,h,rfl⟩
theorem DVs.two {K:Frag} {w:Wd} {d d':D} {v v':V} (h:DV K w d v) (h':DV K w d' v'):DVs K w [d,d'] [v,v']:=⟨v,_,rfl,h,DVs.one h'⟩
theorem DVs.ints {K:Frag} {w:Wd}:∀(ns:List Int),DVs K w (ns.map D.int) (ns.map V.int)
 | []=>rfl
 |n::ns=>⟨.int n,_,rfl,rfl,DVs.ints ns⟩
theorem DVs.ints_inv {K:Frag} {w:Wd}:∀{ns:List Int} {vs:List V},DVs K w (ns.map D.int) vs->vs=ns.map V.int
 | [],_,h=>h
 |n::ns,vs,h=>by
  obtain ⟨v,r,e,h1,h2⟩:=h
  have e1:v=.int n:=h1
  rw [e,e1,DVs.ints_inv h2]
  rfl
theorem DVs.bls_inv {K:Frag} {w:Wd}:∀{bs:List Bool} {vs:List V},DVs K w (bs.map D.bl) vs->vs=bs.map V.bl
 | [],_,h=>h
 |n::ns,vs,h=>by
  obtain ⟨v,r,e,h1,h2⟩:=h
  have e1:v=.bl n:=h1
  rw [e,e1,DVs.bls_inv h2]
  rfl
noncomputable def CellOk (K:Frag) (w:Wd) (a:Addr):Cell->Prop
 | .dead=>True
 | .lst ds=>∃xs,w.H a=some (.lst xs)/\DVs K w ds xs
 | .dK kvs=>∃es:List (Key×V),w.H a=some (.dK es)/\es.map (·.1)=kvs.map (·.1)/\DVs K w (kvs.map (·.2)) (es.map (·.2))
structure StoOk (K:Frag) (w:Wd):Prop where
 len:w.ρ.length=w.sto.length
 nd:w.ρ.Nodup
 there:∀(k:Nat) a,w.ρ[k]?=some a->w.H a≠none
 cell:∀(k:Nat) a c,w.ρ[k]?=some a->w.sto[k]?=some c->CellOk K w a c
theorem CellOk.le {K:Frag} {w w':Wd} {a:Addr} {c:Cell} (h:CellOk K w a c) (le:Le K w w') (e:c≠.dead->w'.H a=w.H a):CellOk K w' a c:=by
 cases c with
 |dead=>trivial
 |lst ds =>
  obtain ⟨xs,h1,h2⟩:=h
  exact ⟨xs,(e (by intro z;cases z)).trans h1,le.all h2⟩
 |dK kvs =>
  obtain ⟨es,h1,h2,h3⟩:=h
  exact ⟨es,(e (by intro z;cases z)).trans h1,h2,le.all h3⟩
section
variable {K:Frag} {w:Wd}
noncomputable def Wd.grow (w:Wd) (p:Addr) (o:HO):Wd:={ w with H:=upd w.H p o }
theorem Rd.grow {H:Hp} {p a:Addr} {o u:HO} (hp:H p=none) (h:Rd H a u):Rd (upd H p o) a u:=by
 rcases h with h | ⟨ob,h⟩
 ·exact .inl (by rw [upd_ne (ne_of_none h hp)];exact h)
 ·exact .inr ⟨ob,by rw [upd_ne (ne_of_none h hp)];exact h⟩
theorem SqT.grow {H:Hp} {p a:Addr} {o:HO} {xs:List V} (hp:H p=none) (h:SqT K H a xs):SqT K (upd H p o) a xs:=by
 rcases h with h|h
 ·exact .inl (Rd.grow hp h)
 ·exact .inr h
theorem Fw.grow {p:Addr} {o:HO} (hp:w.H p=none):Fw K w (w.grow p o) where
 rho:=fun _ _ e=>e
 tup:=fun a xs h=>SqT.grow hp h
 lst:=fun a xs hz h=>⟨hz,by show upd w.H p o a=_;rw [upd_ne (ne_of_none h hp)];exact h⟩
 frz:=fun a ob xs hz h=>⟨hz,by show upd w.H p o a=_;rw [upd_ne (ne_of_none h hp)];exact h⟩
 dct:=fun a es hz h=>⟨hz,by show upd w.H p o a=_;rw [upd_ne (ne_of_none h hp)];exact h⟩
theorem StoOk.grow {p:Addr} {o:HO} (S:StoOk K w) (hp:w.H p=none):StoOk K (w.grow p o) where
 len:=S.len
 nd:=S.nd
 there:=fun k a e=>by
  have h:=S.there k a e
  show upd w.H p o a≠none
  unfold upd
  split
  ·intro z;cases z
  ·exact h
 cell:=fun k a c e1 e2=>(S.cell k a c e1 e2).le (Fw.grow hp).le fun _=>by
  have h:=S.there k a e1
  show upd w.H p o a=w.H a
  rw [upd_ne]
  intro z;rw [z] at h;exact h hp
noncomputable def Wd.cell (w:Wd) (p:Addr) (o:HO) (c:Cell):Wd:=⟨w.ρ++[p],w.sto++[c],upd w.H p o⟩
theorem Wd.Z_cell {p:Addr} {o:HO} {c:Cell} (S:StoOk K w) {a:Addr} (h:(w.cell p o c).Z a):w.Z a\/a=p:=by
 obtain ⟨k,c',e1,e2,e3⟩:=h
 have e1:(w.ρ++[p])[k]?=some a:=e1
 have e2:(w.sto++[c])[k]?=some c':=e2
 by_cases hk:k<w.ρ.length
 ·rw [List.getElem?_append_left hk] at e1
  rw [List.getElem?_append_left (by rw [<- S.len];exact hk)] at e2
  exact .inl ⟨k,c',e1,e2,e3⟩
 ·rw [List.getElem?_append_right (by omega)] at e1
  right
  cases hj:k-w.ρ.length with
  |zero=>rw [hj] at e1;exact (Option.some.inj e1).symm
  |succ j=>rw [hj] at e1;cases e1
theorem Fw.cell {p:Addr} {o:HO} {c:Cell} (S:StoOk K w) (hp:w.H p=none):Fw K w (w.cell p o c) where
 rho:=fun k a e=>by
  show (w.ρ++[p])[k]?=some a
  rw [List.getElem?_append_left (List.getElem?_eq_some_iff.mp e).1];exact e
 tup:=fun a xs h=>SqT.grow hp h
 lst:=fun a xs hz h=>⟨fun z=>(Wd.Z_cell S z).elim hz (fun e=>by (subst e;rw [hp] at h;cases h)),by show upd w.H p o a=_;rw [upd_ne (ne_of_none h hp)];exact h⟩
 frz:=fun a ob xs hz h=>⟨fun z=>(Wd.Z_cell S z).elim hz (fun e=>by (subst e;rw [hp] at h;cases h)),by show upd w.H p o a=_;rw [upd_ne (ne_of_none h hp)];exact h⟩
 dct:=fun a es hz h=>⟨fun z=>(Wd.Z_cell S z).elim hz (fun e=>by (subst e;rw [hp] at h;cases h)),by show upd w.H p o a=_;rw [upd_ne (ne_of_none h hp)];exact h⟩
theorem StoOk.cellw {p:Addr} {o:HO} {c:Cell} (S:StoOk K w) (hp:w.H p=none) (hc:CellOk K (w.cell p o c) p c):StoOk K (w.cell p o c) where
 len:=by show (w.ρ++[p]).length=(w.sto++[c]).length;simp [S.len]
 nd:=by
  show (w.ρ++[p]).Nodup
  rw [List.nodup_append]
  refine ⟨S.nd,by simp,fun a ha b hb=>?_⟩
  obtain ⟨k,e⟩:=List.getElem?_of_mem ha
  have h:=S.there k a e
  have e':b=p:=by simpa using hb
  rw [e']
  intro z;rw [z] at h;exact h hp
 there:=fun k a e=>by
  have e:(w.ρ++[p])[k]?=some a:=e
  show upd w.H p o a≠none
  unfold upd
  split
  ·intro z;cases z
  ·rename_i hne
   by_cases hk:k<w.ρ.length
   ·rw [List.getElem?_append_left hk] at e
    exact S.there k a e
   ·rw [List.getElem?_append_right (by omega)] at e
    cases hj:k-w.ρ.length with
    |zero=>rw [hj] at e;exact absurd (Option.some.inj e).symm hne
    |succ j=>rw [hj] at e;cases e
 cell:=fun k a c' e1 e2=>by
  have e1:(w.ρ++[p])[k]?=some a:=e1
  have e2:(w.sto++[c])[k]?=some c':=e2
  by_cases hk:k<w.ρ.length
  ·rw [List.getElem?_append_left hk] at e1
   rw [List.getElem?_append_left (by rw [<- S.len];exact hk)] at e2
   refine (S.cell k a c' e1 e2).le (Fw.cell S hp).le fun _=>?_
   have h:=S.there k a e1
   show upd w.H p o a=w.H a
   rw [upd_ne]
   intro z;rw [z] at h;exact h hp
  ·rw [List.getElem?_append_right (by omega)] at e1
   rw [List.getElem?_append_right (by rw [<- S.len];omega)] at e2
   rw [<- S.len] at e2
   cases hj:k-w.ρ.length with
   |zero =>
    rw [hj] at e1 e2
    have e1:p=a:=Option.some.inj e1
    have e2:c=c':=Option.some.inj e2
    subst e1 e2
    exact hc
   |succ j=>rw [hj] at e1;cases e1
noncomputable def Wd.same (w:Wd) (H':Hp):Wd:={ w with H:=H' }
theorem Fw.same {H':Hp} (e:Same w.H H'):Fw K w (w.same H') :=
 ⟨fun _ _ e=>e,fun a xs h=>e.sqT h,fun a xs hz h=>⟨hz,e _ _ h⟩,fun a o xs hz h=>⟨hz,e _ _ h⟩,fun a es hz h=>⟨hz,e _ _ h⟩⟩
theorem StoOk.same {H':Hp} (S:StoOk K w) (e:Same w.H H'):StoOk K (w.same H') where
 len:=S.len
 nd:=S.nd
 there:=fun k a q=>by
  have h:=S.there k a q
  show H' a≠none
  cases hq:w.H a with
  |none=>exact absurd hq h
  |some o=>rw [e _ _ hq];intro z;cases z
 cell:=fun k a c e1 e2=>(S.cell k a c e1 e2).le (Fw.same e).le fun _=>by
  have h:=S.there k a e1
  show H' a=w.H a
  cases hq:w.H a with
  |none=>exact absurd hq h
  |some o=>exact e _ _ hq
noncomputable def Wd.put (w:Wd) (k:Nat) (a:Addr) (o:HO) (c:Cell):Wd:=⟨w.ρ,w.sto.set k c,upd w.H a o⟩
theorem inj_of_nodup {α:Type} {l:List α} (nd:l.Nodup) {i j:Nat} {a:α} (h1:l[i]?=some a) (h2:l[j]?=some a):i=j:=by
 exact (List.getElem?_inj (List.getElem?_eq_some_iff.mp h1).1 nd).mp (h1.trans h2.symm)
theorem Wd.Z_put {k:Nat} {a b:Addr} {o:HO} {c c0:Cell} (h0:w.ρ[k]?=some a) (h1:w.sto[k]?=some c0) (h2:c0≠.dead) (h:(w.put k a o c).Z b):w.Z b:=by
 obtain ⟨j,c',e1,e2,e3⟩:=h
 have e1:w.ρ[j]?=some b:=e1
 have e2:(w.sto.set k c)[j]?=some c':=e2
 by_cases hj:k=j
 ·subst hj
  exact ⟨k,c0,e1,h1,h2⟩
 ·rw [List.getElem?_set_ne hj] at e2
  exact ⟨j,c',e1,e2,e3⟩
theorem Fw.put {k:Nat} {a:Addr} {o:HO} {c c0:Cell} (S:StoOk K w) (h0:w.ρ[k]?=some a) (h1:w.sto[k]?=some c0) (h2:c0≠.dead):Fw K w (w.put k a o c):=by
 have hz:w.Z a:=⟨k,c0,h0,h1,h2⟩
 have nt:∀xs,¬ Rd w.H a (.tup xs):=fun xs h=>by
  have q:=S.cell k a c0 h0 h1
  cases c0 with
  |dead=>exact h2 rfl
  |lst ds=>obtain ⟨ys,e,_⟩:=q;rcases h with h | ⟨_,h⟩<;>(rw [e] at h;cases h)
  |dK kvs=>obtain ⟨ys,e,_⟩:=q;rcases h with h | ⟨_,h⟩<;>(rw [e] at h;cases h)
 refine ⟨fun _ _ e=>e,fun b xs h=>?_,fun b xs hb h=>⟨fun z=>hb (Wd.Z_put h0 h1 h2 z),?_⟩,fun b ob xs hb h=>⟨fun z=>hb (Wd.Z_put h0 h1 h2 z),?_⟩,fun b es hb h=>⟨fun z=>hb (Wd.Z_put h0 h1 h2 z),?_⟩⟩
 ·rcases h with h|h
  ·have ne:b≠a:=fun e=>by subst e;exact nt xs h
   refine .inl ?_
   rcases h with h | ⟨ob,h⟩
   ·exact .inl (by show upd w.H a o b=_;rw [upd_ne ne];exact h)
   ·exact .inr ⟨ob,by show upd w.H a o b=_;rw [upd_ne ne];exact h⟩
  ·exact .inr h
 ·have ne:b≠a:=fun e=>by subst e;exact hb hz
  show upd w.H a o b=_
  rw [upd_ne ne];exact h
 ·have ne:b≠a:=fun e=>by subst e;exact hb hz
  show upd w.H a o b=_
  rw [upd_ne ne];exact h
 ·have ne:b≠a:=fun e=>by subst e;exact hb hz
  show upd w.H a o b=_
  rw [upd_ne ne];exact h
theorem StoOk.putw {k:Nat} {a:Addr} {o:HO} {c c0:Cell} (S:StoOk K w) (h0:w.ρ[k]?=some a) (h1:w.sto[k]?=some c0) (h2:c0≠.dead) (hc:CellOk K (w.put k a o c) a c):StoOk K (w.put k a o c) where
 len:=by show w.ρ.length=(w.sto.set k c).length;rw [List.length_set];exact S.len
 nd:=S.nd
 there:=fun j b e=>by
  show upd w.H a o b≠none
  unfold upd
  split
  ·intro z;cases z
  ·exact S.there j b e
 cell:=fun j b c' e1 e2=>by
  have e1:w.ρ[j]?=some b:=e1
  have e2:(w.sto.set k c)[j]?=some c':=e2
  by_cases hj:k=j
  ·subst hj
   rw [h0] at e1
   have e1:a=b:=Option.some.inj e1
   rw [List.getElem?_set_self (List.getElem?_eq_some_iff.mp h1).1] at e2
   have e2:c=c':=Option.some.inj e2
   subst e1 e2
   exact hc
  ·rw [List.getElem?_set_ne hj] at e2
   refine (S.cell j b c' e1 e2).le (Fw.put S h0 h1 h2).le fun _=>?_
   show upd w.H a o b=w.H b
   rw [upd_ne]
   intro z
   subst z
   exact hj (inj_of_nodup S.nd h0 e1)
noncomputable def Wd.freeze (w:Wd) (k:Nat):Wd:={ w with sto:=w.sto.set k .dead }
theorem Wd.Z_freeze {k:Nat} {b:Addr} (h:(w.freeze k).Z b):w.Z b:=by
 obtain ⟨j,c',e1,e2,e3⟩:=h
 have e2:(w.sto.set k .dead)[j]?=some c':=e2
 by_cases hj:k=j
 ·subst hj
  have hl:=(List.getElem?_eq_some_iff.mp e2).1
  rw [List.length_set] at hl
  rw [List.getElem?_set_self hl] at e2
  exact absurd (Option.some.inj e2).symm e3
 ·rw [List.getElem?_set_ne hj] at e2
  exact ⟨j,c',e1,e2,e3⟩
theorem Fw.freeze {k:Nat}:Fw K w (w.freeze k) :=
 ⟨fun _ _ e=>e,fun _ _ h=>h,fun _ _ hz h=>⟨fun z=>hz (Wd.Z_freeze z),h⟩,fun _ _ _ hz h=>⟨fun z=>hz (Wd.Z_freeze z),h⟩,fun _ _ hz h=>⟨fun z=>hz (Wd.Z_freeze z),h⟩⟩
theorem StoOk.freeze {k:Nat} (S:StoOk K w):StoOk K (w.freeze k) where
 len:=by show w.ρ.length=(w.sto.set k .dead).length;rw [List.length_set];exact S.len
 nd:=S.nd
 there:=S.there
 cell:=fun j b c' e1 e2=>by
  have e2:(w.sto.set k .dead)[j]?=some c':=e2
  by_cases hj:k=j
  ·subst hj
   have hl:=(List.getElem?_eq_some_iff.mp e2).1
   rw [List.length_set] at hl
   rw [List.getElem?_set_self hl] at e2
   rw [<- Option.some.inj e2]
   trivial
  ·rw [List.getElem?_set_ne hj] at e2
   exact (S.cell j b c' e1 e2).le Fw.freeze.le fun _=>rfl
theorem Wd.nZ_freeze {k:Nat} {a:Addr} (S:StoOk K w) (h:w.ρ[k]?=some a):¬ (w.freeze k).Z a:=by
 rintro ⟨j,c',e1,e2,e3⟩
 have e1:w.ρ[j]?=some a:=e1
 have e2:(w.sto.set k .dead)[j]?=some c':=e2
 have hj:=inj_of_nodup S.nd h e1
 subst hj
 have hl:=(List.getElem?_eq_some_iff.mp e2).1
 rw [List.length_set] at hl
 rw [List.getElem?_set_self hl] at e2
 exact e3 (Option.some.inj e2).symm
end
structure EnvOk (K:Frag) (w:Wd) (env:Env) (σ:St):Prop where
 len:env.length=σ.length
 val:∀(i:Nat) d,env[i]?=some (some d)->∃v,σ[i]?=some (some v)/\DV K w d v
theorem EnvOk.le {K:Frag} {w w':Wd} {env:Env} {σ:St} (h:EnvOk K w env σ) (le:Le K w w'):EnvOk K w' env σ :=
 ⟨h.len,fun i d e=>by obtain ⟨v,e1,e2⟩:=h.val i d e;exact ⟨v,e1,le d v e2⟩⟩
theorem EnvOk.set {K:Frag} {w:Wd} {env:Env} {σ:St} {d:D} {v:V} (h:EnvOk K w env σ) (hd:DV K w d v) (i:Nat):EnvOk K w (env.set i (some d)) (σ.set i (some v)):=by
 refine ⟨by rw [List.length_set,List.length_set];exact h.len,fun j d' e=>?_⟩
 by_cases hj:i=j
 ·subst hj
  have hl:=(List.getElem?_eq_some_iff.mp e).1
  rw [List.length_set] at hl
  rw [List.getElem?_set_self hl] at e
  have e:d=d':=Option.some.inj (Option.some.inj e)
  subst e
  exact ⟨v,by rw [List.getElem?_set_self (by rw [<- h.len];exact hl)],hd⟩
 ·rw [List.getElem?_set_ne hj] at e
  rw [List.getElem?_set_ne hj]
  exact h.val j d' e
def Out (K:Frag) (Ξ:Wd->Exn->Prop) (w:Wd) {α:Type} (r:Res α) (k:Wd->α->Prop):Prop:=match r with
 |none=>False
 |some (.ok a,s)=>∀w',Le K w w'->StoOk K w'->w'.sto=s->k w' a
 |some (.error x,s)=>∀w',Le K w w'->StoOk K w'->w'.sto=s->Ξ w' x
section
variable {K:Frag} {Ξ:Wd->Exn->Prop} {w w':Wd} {α β:Type} {r:Res α} {k k':Wd->α->Prop}
theorem Out.from (h:Out K Ξ w r k) (le:Le K w w'):Out K Ξ w' r k:=by
 unfold Out at h |-
 split<;>simp only at h
 ·exact fun w2 l2 o2 e2=>h w2 (le.trans l2) o2 e2
 ·exact fun w2 l2 o2 e2=>h w2 (le.trans l2) o2 e2
theorem Out.mono (h:Out K Ξ w r k) (hk:∀w2 a,Le K w w2->StoOk K w2->k w2 a->k' w2 a):Out K Ξ w r k':=by
 unfold Out at h |-
 split<;>simp only at h
 ·exact fun w2 l2 o2 e2=>hk w2 _ l2 o2 (h w2 l2 o2 e2)
 ·exact h
theorem Out.bnd {g:α->Sto->Res β} {q:Wd->β->Prop} (h:Out K Ξ w (DI.bnd r g) q):Out K Ξ w r (fun w2 a=>Out K Ξ w2 (g a w2.sto) q):=by
 match r,h with
 |some (.ok a,s),h =>
  intro w2 l2 o2 e2
  rw [e2]
  exact Out.from h l2
 |some (.error x,s),h=>exact h
theorem Out.done {a:α} (h:Out K Ξ w (some (.ok a,w.sto)) k) (S:StoOk K w):k w a:=h w (Le.refl w) S rfl
end
end DI
namespace DI
open PySem L2
noncomputable def tE (K:Frag) (Ξ:Wd->Exn->Prop) (f:Env->Sto->Res D):TE:=fun σ H Q=>∃w env,w.H=H/\StoOk K w/\EnvOk K w env σ/\Out K Ξ w (f env w.sto) fun w' d=>∀v,DV K w' d v->Q v w'.H
noncomputable def tT (K:Frag) (Ξ:Wd->Exn->Prop) (f:Env->Sto->Res Bool):TT:=fun σ H Q=>∃w env,w.H=H/\StoOk K w/\EnvOk K w env σ/\Out K Ξ w (f env w.sto) fun w' b=>Q b w'.H
noncomputable def tA (K:Frag) (Ξ:Wd->Exn->Prop) (f:Env->Sto->Res (List D)):TA:=fun σ H Q=>∃w env,w.H=H/\StoOk K w/\EnvOk K w env σ/\Out K Ξ w (f env w.sto) fun w' ds=>∀vs,DVs K w' ds vs->Q vs w'.H
noncomputable def rO (K:Frag) (Ξ:Wd->Exn->Prop) (o:D->D->Sto->Res D):R2:=fun x y H Q=>∃w dx dy,w.H=H/\StoOk K w/\DV K w dx x/\DV K w dy y/\Out K Ξ w (o dx dy w.sto) fun w' d=>∀v,DV K w' d v->Q v w'.H
noncomputable def rU (K:Frag) (Ξ:Wd->Exn->Prop) (o:D->Sto->Res D):V->Hp->VK->Prop:=fun x H Q=>∃w dx,w.H=H/\StoOk K w/\DV K w dx x/\Out K Ξ w (o dx w.sto) fun w' d=>∀v,DV K w' d v->Q v w'.H
noncomputable def rC (K:Frag) (Ξ:Wd->Exn->Prop) (o:List D->Sto->Res D):List V->Hp->VK->Prop:=fun xs H Q=>∃w ds,w.H=H/\StoOk K w/\DVs K w ds xs/\Out K Ξ w (o ds w.sto) fun w' d=>∀v,DV K w' d v->Q v w'.H
noncomputable def eLoc (i:Nat):Env->Sto->Res D:=fun env s=>match env[i]? with
 |some (some d)=>ok d s
 |_=>none
noncomputable def eC (d:D):Env->Sto->Res D:=fun _ s=>ok d s
noncomputable def e1 (o:D->Sto->Res D) (f:Env->Sto->Res D):Env->Sto->Res D:=fun env s=>bnd (f env s) fun x s=>o x s
noncomputable def e2 (o:D->D->Sto->Res D) (f g:Env->Sto->Res D):Env->Sto->Res D:=fun env s=>bnd (f env s) fun x s=>bnd (g env s) fun y s=>o x y s
noncomputable def aNil:Env->Sto->Res (List D):=fun _ s=>ok [] s
noncomputable def aCons (f:Env->Sto->Res D) (g:Env->Sto->Res (List D)):Env->Sto->Res (List D):=fun env s=>bnd (f env s) fun x s=>bnd (g env s) fun xs s=>ok (x::xs) s
noncomputable def eB (o:List D->Sto->Res D) (f:Env->Sto->Res (List D)):Env->Sto->Res D:=fun env s=>bnd (f env s) fun ds s=>o ds s
noncomputable def lenOk {α:Type} (ds:List D) (r:Res α):Res α:=if ds.length<=sizeLine then r else none
noncomputable def eTup (f:Env->Sto->Res (List D)):Env->Sto->Res D:=fun env s=>bnd (f env s) fun ds s=>lenOk ds (ok (.tup ds) s)
noncomputable def eLst (f:Env->Sto->Res (List D)):Env->Sto->Res D:=fun env s=>bnd (f env s) fun ds s=>lenOk ds (ok (.lst ds) s)
noncomputable def eNew (f:Env->Sto->Res (List D)):Env->Sto->Res D:=fun env s=>bnd (f env s) fun ds s=>lenOk ds (ok (.han s.length) (s++[.lst ds]))
noncomputable def frz:D->Sto->Res D:=fun d s=>match d with
 | .han k=>match s[k]? with
  |some (.lst ds)=>ok (.lst ds) (s.set k .dead)
  |_=>none
 |_=>none
noncomputable def eFrz (f:Env->Sto->Res D):Env->Sto->Res D:=fun env s=>bnd (f env s) frz
noncomputable def isBl (d:D) (s:Sto):Res Bool:=match d with
 | .bl b=>ok b s
 |_=>none
noncomputable def tBl (f:Env->Sto->Res D):Env->Sto->Res Bool:=fun env s=>bnd (f env s) isBl
noncomputable def truth (d:D) (s:Sto):Res Bool:=match d with
 | .non=>ok false s
 | .bl b=>ok b s
 | .int i=>ok (i != 0) s
 | .str x=>if x.length<=sizeLine then ok ((x.length:Int) != 0) s else none
 | .tup ds=>ok (!ds.isEmpty) s
 | .lst ds=>ok (!ds.isEmpty) s
 | .dct kvs=>ok (!kvs.isEmpty) s
 | .han k=>match s[k]? with
  |some (.lst ds)=>ok (!ds.isEmpty) s
  |some (.dK kvs)=>ok (!kvs.isEmpty) s
  |_=>none
 | .ty _=>none
 | .scr _=>none
noncomputable def tTru (f:Env->Sto->Res D):Env->Sto->Res Bool:=fun env s=>bnd (f env s) truth
noncomputable def tAnd (f g:Env->Sto->Res Bool):Env->Sto->Res Bool:=fun env s=>bnd (f env s) fun b s=>if b=true then g env s else ok false s
noncomputable def tOr (f g:Env->Sto->Res Bool):Env->Sto->Res Bool:=fun env s=>bnd (f env s) fun b s=>if b=true then ok true s else g env s
noncomputable def tNot (f:Env->Sto->Res Bool):Env->Sto->Res Bool:=fun env s=>bnd (f env s) fun b s=>ok (!b) s
noncomputable def eAnd (f g:Env->Sto->Res D):Env->Sto->Res D:=fun env s=>bnd (f env s) fun x s=>bnd (isBl x s) fun b s=>if b=true then g env s else ok (.bl false) s
noncomputable def eOr (f g:Env->Sto->Res D):Env->Sto->Res D:=fun env s=>bnd (f env s) fun x s=>bnd (isBl x s) fun b s=>if b=true then ok (.bl true) s else g env s
noncomputable def eNot (f:Env->Sto->Res D):Env->Sto->Res D:=fun env s=>bnd (f env s) fun x s=>bnd (isBl x s) fun b s=>ok (.bl (!b)) s
noncomputable def eIf (c:Env->Sto->Res Bool) (f g:Env->Sto->Res D):Env->Sto->Res D:=fun env s=>bnd (c env s) fun b s=>if b=true then f env s else g env s
noncomputable def eCh (o o':D->D->Sto->Res D) (f g h:Env->Sto->Res D):Env->Sto->Res D:=fun env s=>bnd (f env s) fun x s=>bnd (g env s) fun y s=>bnd (o x y s) fun z s=>bnd (isBl z s) fun b s =>
 if b=true then bnd (h env s) fun u s=>o' y u s else ok (.bl false) s
section
variable {X:Cx} {Ξ:Wd->Exn->Prop} {e a b c:Expr} {es rest:List Expr} {pos:Pos} {f g h:Env->Sto->Res D} {fa:Env->Sto->Res (List D)} {ft gt:Env->Sto->Res Bool}
theorem pe_imp {t t':TE} (h:PE X e t) (i:∀ σ H Q,t' σ H Q->t σ H Q):PE X e t':=fun pins s σ H Q I hq=>h pins s σ H Q I (i σ H Q hq)
theorem pt_imp {t t':TT} (h:PT X e t) (i:∀ σ H Q,t' σ H Q->t σ H Q):PT X e t':=fun pins s σ H Q I hq=>h pins s σ H Q I (i σ H Q hq)
theorem pw_imp {t t':TT} (h:PW X e t) (i:∀ σ H Q,t' σ H Q->t σ H Q):PW X e t':=fun wh pins s σ H Q I hq=>h wh pins s σ H Q I (i σ H Q hq)
theorem pa_imp {t t':TA} (h:PA X es t) (i:∀ σ H Q,t' σ H Q->t σ H Q):PA X es t':=fun p pins s σ H Q I hq=>h p pins s σ H Q I (i σ H Q hq)
theorem ps_imp {st:Stmt} {t t':TS} (h:PS X st t) (i:∀D σ H,t' D σ H->t D σ H):PS X st t':=fun pins s σ H D I hq=>h pins s σ H D I (i D σ H hq)
theorem pss_imp {st:List Stmt} {t t':TS} (h:PSs X st t) (i:∀D σ H,t' D σ H->t D σ H):PSs X st t':=fun pins s σ H D I hq=>h pins s σ H D I (i D σ H hq)
theorem out_of {α:Type} {K:Frag} {w:Wd} {a:α} {k:Wd->α->Prop} (S:StoOk K w) (h:Out K Ξ w (ok a w.sto) k):k w a:=h w (Le.refl w) S rfl
theorem e_loc (i:Nat) {x:Str} (hN:X.N[i]?=some x:=by rfl) (hv:Vis X.env.scope x:=by first|exact Or.inl rfl|exact Or.inr (Or.inl rfl)|exact Or.inr (Or.inr rfl)) (hd:(x==("__debug__":Str))=false:=by decide)
  (hcd:(x==("__classdict__":Str))=false:=by decide):PE X (.Name x pos) (tE X.K Ξ (eLoc i)):=pe_imp (pe_var hN hv hd hcd) fun σ H Q hh_=>by
 obtain ⟨w,env,eH,S,eo,h⟩:=hh_
 unfold eLoc at h
 split at h
 ·rename_i d he
  obtain ⟨v,e1,e2⟩:=eo.val i d he
  subst eH
  exact ⟨v,e1,out_of S h v e2⟩
 ·exact h.elim
theorem e_con {d:D} {v:V} (h:PE X e (tC v)) (hd:∀w,DV X.K w d v):PE X e (tE X.K Ξ (eC d)):=pe_imp h fun σ H Q hh_=>by
 obtain ⟨w,env,eH,S,eo,h⟩:=hh_
 subst eH
 exact out_of S h v (hd w)
theorem e_int {i j}:PE X (.Constant (.int i) j pos) (tE X.K Ξ (eC (.int i))):=e_con pe_int fun _=>rfl
theorem e_bl {b j}:PE X (.Constant (.bool b) j pos) (tE X.K Ξ (eC (.bl b))):=e_con pe_bl fun _=>rfl
theorem two_imp {K:Frag} {o:D->D->Sto->Res D} (σ:St) (H:Hp) (Q:VK):tE K Ξ (e2 o f g) σ H Q->tOp (rO K Ξ o) (tE K Ξ f) (tE K Ξ g) σ H Q:=by
 rintro ⟨w,env,rfl,S,eo,h⟩
 exact ⟨w,env,rfl,S,eo,(Out.bnd h).mono fun w1 x l1 S1 h1 v1 dv1=>⟨w1,env,rfl,S1,eo.le l1,(Out.bnd h1).mono fun w2 y l2 S2 h2 v2 dv2=>⟨w2,x,y,rfl,S2,l2 _ _ dv1,dv2,h2⟩⟩⟩
theorem e_bin {op:Operator} {o:D->D->Sto->Res D} (ho:OpR X (binaryOp op) (rO X.K Ξ o)) (ha:PE X a (tE X.K Ξ f)) (hb:PE X b (tE X.K Ξ g)):PE X (.BinOp a op b pos) (tE X.K Ξ (e2 o f g)):=pe_imp (pe_op ho ha hb) two_imp
theorem e_cmp {op:CmpOp} {o:D->D->Sto->Res D} (ho:OpR X (compareOp op) (rO X.K Ξ o)) (ha:PE X a (tE X.K Ξ f)) (hb:PE X b (tE X.K Ξ g)) (hm:behindInMarks op b=false):PE X (.Compare a [op] [b] pos) (tE X.K Ξ (e2 o f g)):=pe_imp (pe_cmpR ho ha hb hm) two_imp
theorem bl_imp {K:Frag} (σ:St) (H:Hp) (Q:Bool->Hp->Prop):tT K Ξ (tBl f) σ H Q->tTest (tE K Ξ f) σ H Q:=by
 rintro ⟨w,env,rfl,S,eo,h⟩
 refine ⟨w,env,rfl,S,eo,(Out.bnd h).mono fun w1 x l1 S1 h1 v1 dv1=>?_⟩
 cases x with
 |bl b =>
  have e:v1=.bl b:=dv1
  exact ⟨b,e,out_of S1 h1⟩
 |_=>exact h1.elim
theorem tTest_mono {t t':TE} (i:∀ σ H Q,t' σ H Q->t σ H Q) (σ:St) (H:Hp) (Q:Bool->Hp->Prop):tTest t' σ H Q->tTest t σ H Q:=fun h=>i _ _ _ h
theorem t_cmp {op:CmpOp} {o:D->D->Sto->Res D} (ho:OpR X (compareOp op) (rO X.K Ξ o)) (ha:PE X a (tE X.K Ξ f)) (hb:PE X b (tE X.K Ξ g)) (hm:behindInMarks op b=false):PT X (.Compare a [op] [b] pos) (tT X.K Ξ (tBl (e2 o f g))) :=
 pt_imp (pt_cmpR ho ha hb hm) fun σ H Q h=>tTest_mono two_imp σ H Q (bl_imp σ H Q h)
theorem ch_imp {K:Frag} {o o':D->D->Sto->Res D} (σ:St) (H:Hp) (Q:VK):tE K Ξ (eCh o o' f g h) σ H Q->tChain (rO K Ξ o) (rO K Ξ o') (tE K Ξ f) (tE K Ξ g) (tE K Ξ h) σ H Q:=by
 rintro ⟨w,env,rfl,S,eo,h⟩
 refine ⟨w,env,rfl,S,eo,(Out.bnd h).mono fun w1 x l1 S1 h1 v1 dv1=>⟨w1,env,rfl,S1,eo.le l1,(Out.bnd h1).mono fun w2 y l2 S2 h2 v2 dv2=>⟨w2,x,y,rfl,S2,l2 _ _ dv1,dv2,(Out.bnd h2).mono fun w3 z l3 S3 h3 v3 dv3=>?_⟩⟩⟩
 have h4:=Out.bnd h3
 cases z with
 |bl b =>
  have e:v3=.bl b:=dv3
  have h5:=out_of S3 h4
  refine ⟨b,e,?_⟩
  cases b with
  |true =>
   rw [if_pos rfl] at h5 |-
   exact ⟨w3,env,rfl,S3,eo.le (l1.trans (l2.trans l3)),(Out.bnd h5).mono fun w4 u l4 S4 h6 v4 dv4=>⟨w4,y,u,rfl,S4,(l3.trans l4) _ _ dv2,dv4,h6⟩⟩
  |false =>
   rw [if_neg Bool.false_ne_true] at h5 |-
   exact out_of S3 h5 _ rfl
 |_=>exact h4.elim
theorem e_chain {op op':CmpOp} {o o':D->D->Sto->Res D} (ho:OpR X (compareOp op) (rO X.K Ξ o)) (ho':OpR X (compareOp op') (rO X.K Ξ o')) (ha:PE X a (tE X.K Ξ f)) (hb:PE X b (tE X.K Ξ g)) (hc:PE X c (tE X.K Ξ h))
  (hm:lastMarks [op,op'] [b,c]=false:=by with_unfolding_all rfl):PE X (.Compare a [op,op'] [b,c] pos) (tE X.K Ξ (eCh o o' f g h)):=pe_imp (pe_chain ho ho' ha hb hc hm) ch_imp
theorem t_chain {op op':CmpOp} {o o':D->D->Sto->Res D} (ho:OpR X (compareOp op) (rO X.K Ξ o)) (ho':OpR X (compareOp op') (rO X.K Ξ o')) (ha:PE X a (tE X.K Ξ f)) (hb:PE X b (tE X.K Ξ g)) (hc:PE X c (tE X.K Ξ h))
  (hm:lastMarks [op,op'] [b,c]=false:=by with_unfolding_all rfl):PT X (.Compare a [op,op'] [b,c] pos) (tT X.K Ξ (tBl (eCh o o' f g h))):=pt_imp (pt_chain ho ho' ha hb hc hm) fun σ H Q h=>tTest_mono ch_imp σ H Q (bl_imp σ H Q h)
theorem e_un {op:UnaryOp} {o:D->Sto->Res D} (ho:UnR X (unaryOp op) (rU X.K Ξ o)) (ha:PE X a (tE X.K Ξ f)):PE X (.UnaryOp op a pos) (tE X.K Ξ (e1 o f)):=pe_imp (pe_un ho ha) fun σ H Q hh_=>by
 obtain ⟨w,env,eH,S,eo,h⟩:=hh_
 subst eH
 exact ⟨w,env,rfl,S,eo,(Out.bnd h).mono fun w1 x l1 S1 h1 v1 dv1=>⟨w1,x,rfl,S1,dv1,h1⟩⟩
theorem a_nil:PA X [] (tA X.K Ξ aNil):=pa_imp pa_nil fun σ H Q hh_=>by
 obtain ⟨w,env,eH,S,eo,h⟩:=hh_
 subst eH
 exact out_of S h _ rfl
theorem a_cons (ha:PE X e (tE X.K Ξ f)) (hr:PA X es (tA X.K Ξ fa)) (hs:starEach (e::es) X.env=(false,eval e X.env)::starEach es X.env:=by rfl):PA X (e::es) (tA X.K Ξ (aCons f fa)):=pa_imp (pa_cons ha hr hs) fun σ H Q hh_=>by
 obtain ⟨w,env,eH,S,eo,h⟩:=hh_
 subst eH
 exact ⟨w,env,rfl,S,eo,(Out.bnd h).mono fun w1 x l1 S1 h1 v1 dv1=>⟨w1,env,rfl,S1,eo.le l1,(Out.bnd h1).mono fun w2 xs l2 S2 h2 vs dvs=>out_of S2 h2 _ ⟨v1,vs,rfl,l2 _ _ dv1,dvs⟩⟩⟩
theorem lenOk_of {α:Type} {K:Frag} {w:Wd} {ds:List D} {r:Res α} {k:Wd->α->Prop} (h:Out K Ξ w (lenOk ds r) k):ds.length<=sizeLine/\Out K Ξ w r k:=by
 unfold lenOk at h
 split at h
 ·exact ⟨by assumption,h⟩
 ·exact h.elim
theorem e_tup {x1} (ha:PA X es (tA X.K Ξ fa)):PE X (.Tuple es x1 pos) (tE X.K Ξ (eTup fa)):=pe_imp (pe_tup ha) fun σ H Q hh_=>by
 obtain ⟨w,env,eH,S,eo,h⟩:=hh_
 subst eH
 refine ⟨w,env,rfl,S,eo,(Out.bnd h).mono fun w1 ds l1 S1 h1 vs dvs=>?_⟩
 obtain ⟨hl,h2⟩:=lenOk_of h1
 refine ⟨by rw [<- dvs.length];exact hl,fun p hp=>?_⟩
 exact h2 (w1.grow p (.tup vs)) (Fw.grow hp).le (S1.grow hp) rfl (.ref p) ⟨p,vs,rfl,SqT.of upd_same,(Fw.grow hp).le.all dvs⟩
theorem nZ_new {K:Frag} {w:Wd} {p:Addr} (S:StoOk K w) (hp:w.H p=none):¬ w.Z p:=fun ⟨k,c,e1,_,_⟩=>S.there k p e1 hp
theorem e_lst (ha:PA X es (tA X.K Ξ fa)):PE X (.List es pos) (tE X.K Ξ (eLst fa)):=pe_imp (pe_lst ha) fun σ H Q hh_=>by
 obtain ⟨w,env,eH,S,eo,h⟩:=hh_
 subst eH
 refine ⟨w,env,rfl,S,eo,(Out.bnd h).mono fun w1 ds l1 S1 h1 vs dvs=>?_⟩
 obtain ⟨hl,h2⟩:=lenOk_of h1
 refine ⟨by rw [<- dvs.length];exact hl,fun p hp=>?_⟩
 exact h2 (w1.grow p (.lst vs)) (Fw.grow hp).le (S1.grow hp) rfl (.ref p) ⟨p,vs,rfl,⟨(show ¬ w1.Z p from nZ_new S1 hp),upd_same⟩,(Fw.grow hp).le.all dvs⟩
theorem e_new (ha:PA X es (tA X.K Ξ fa)):PE X (.List es pos) (tE X.K Ξ (eNew fa)):=pe_imp (pe_lst ha) fun σ H Q hh_=>by
 obtain ⟨w,env,eH,S,eo,h⟩:=hh_
 subst eH
 refine ⟨w,env,rfl,S,eo,(Out.bnd h).mono fun w1 ds l1 S1 h1 vs dvs=>?_⟩
 obtain ⟨hl,h2⟩:=lenOk_of h1
 refine ⟨by rw [<- dvs.length];exact hl,fun p hp=>?_⟩
 have le:=(Fw.cell (o:=.lst vs) (c:=.lst ds) S1 hp).le
 refine h2 (w1.cell p (.lst vs) (.lst ds)) le (S1.cellw hp ⟨vs,upd_same,le.all dvs⟩) rfl (.ref p) ⟨p,?_,rfl⟩
 show (w1.ρ++[p])[w1.sto.length]?=some p
 rw [<- S1.len]
 simp
theorem e_frz (ha:PE X a (tE X.K Ξ f)):PE X a (tE X.K Ξ (eFrz f)):=pe_imp ha fun σ H Q hh_=>by
 obtain ⟨w,env,eH,S,eo,h⟩:=hh_
 subst eH
 refine ⟨w,env,rfl,S,eo,(Out.bnd h).mono fun w1 x l1 S1 h1 v1 dv1=>?_⟩
 unfold frz at h1
 split at h1
 ·rename_i k
  split at h1
  ·rename_i ds hk
   obtain ⟨p,e1,e2⟩:=dv1
   obtain ⟨xs,q1,q2⟩:=S1.cell k p _ e1 hk
   exact h1 (w1.freeze k) Fw.freeze.le S1.freeze rfl v1 ⟨p,xs,e2,⟨Wd.nZ_freeze S1 e1,q1⟩,Fw.freeze.le.all q2⟩
  ·exact h1.elim
 ·exact h1.elim
theorem TruV.of {K:Frag} {w:Wd} {d:D} {v:V} {k:Wd->Bool->Prop} (S:StoOk K w) (hd:DV K w d v) (h:Out K Ξ w (truth d w.sto) k):∃b,TruV K v w.H b/\k w b:=by
 cases d with
 |non=>have e:v=.non:=hd;subst e;exact ⟨_,rfl,out_of S h⟩
 |bl b=>have e:v=.bl b:=hd;subst e;exact ⟨_,rfl,out_of S h⟩
 |int i=>have e:v=.int i:=hd;subst e;exact ⟨_,rfl,out_of S h⟩
 |str x =>
  have e:v=.str x:=hd
  subst e
  unfold truth at h
  split at h<;>first|contradiction|skip
  all_goals (rename_i e;cases e)
  split at h
  ·exact ⟨_,⟨by assumption,rfl⟩,out_of S h⟩
  ·exact h.elim
 |tup ds =>
  simp only [DV] at hd
  obtain ⟨a,xs,rfl,hq,r⟩:=hd
  refine ⟨_,.inr (.inl ⟨xs,hq,?_⟩),out_of S h⟩
  have e:=r.length
  cases ds<;>cases xs<;>first|rfl|cases e
 |lst ds =>
  simp only [DV] at hd
  obtain ⟨a,xs,rfl,hq,r⟩:=hd
  refine ⟨_,.inl ⟨xs,hq.sq,?_⟩,out_of S h⟩
  have e:=r.length
  cases ds<;>cases xs<;>first|rfl|cases e
 |dct kvs =>
  simp only [DV] at hd
  obtain ⟨a,rfl,_,hq⟩:=hd
  refine ⟨_,.inr (.inr ⟨_,hq,?_⟩),out_of S h⟩
  cases kvs<;>rfl
 |han j =>
  simp only [DV] at hd
  obtain ⟨a,e1,rfl⟩:=hd
  simp only [truth] at h
  split at h
  ·rename_i ds hk
   obtain ⟨xs,q1,q2⟩:=S.cell j a _ e1 hk
   refine ⟨_,.inl ⟨xs,SqL.of q1,?_⟩,out_of S h⟩
   have e:=q2.length
   cases ds<;>cases xs<;>first|rfl|cases e
  ·rename_i kvs hk
   obtain ⟨es,q1,q2,q3⟩:=S.cell j a _ e1 hk
   refine ⟨_,.inr (.inr ⟨es,q1,?_⟩),out_of S h⟩
   have e:=congrArg List.length q2
   cases kvs<;>cases es<;>first|rfl|simp at e
  ·exact h.elim
 |ty n=>exact h.elim
 |scr ns=>exact h.elim
theorem t_tru (ha:PE X a (tE X.K Ξ f)) (he:∀whole,isTrue a X.env whole=(do let v <- whole;standAt a.pos;holding [v] (truthy v)):=by intro _;rfl):PT X a (tT X.K Ξ (tTru f)):=pt_imp (pt_truth ha he) fun σ H Q hh_=>by
 obtain ⟨w,env,eH,S,eo,h⟩:=hh_
 subst eH
 exact ⟨w,env,rfl,S,eo,(Out.bnd h).mono fun w1 x l1 S1 h1 v1 dv1=>TruV.of S1 dv1 h1⟩
theorem t_not (ha:PT X a (tT X.K Ξ ft)):PT X (.UnaryOp .Not a pos) (tT X.K Ξ (tNot ft)):=pt_imp (pt_not ha) fun σ H Q hh_=>by
 obtain ⟨w,env,eH,S,eo,h⟩:=hh_
 subst eH
 exact ⟨w,env,rfl,S,eo,(Out.bnd h).mono fun w1 b l1 S1 h1=>out_of S1 h1⟩
theorem w_and1 (ha:PT X a (tT X.K Ξ ft)):PW X (.BoolOp .And [a] pos) (tT X.K Ξ ft):=pw_and1 ha
theorem w_or1 (ha:PT X a (tT X.K Ξ ft)):PW X (.BoolOp .Or [a] pos) (tT X.K Ξ ft):=pw_or1 ha
theorem w_and (ha:PT X a (tT X.K Ξ ft)) (hb:PW X (.BoolOp .And (b::rest) pos) (tT X.K Ξ gt)):PW X (.BoolOp .And (a::b::rest) pos) (tT X.K Ξ (tAnd ft gt)):=pw_imp (pw_and ha hb) fun σ H Q hh_=>by
 obtain ⟨w,env,eH,S,eo,h⟩:=hh_
 subst eH
 refine ⟨w,env,rfl,S,eo,(Out.bnd h).mono fun w1 b l1 S1 h1=>?_⟩
 cases b with
 |true=>exact ⟨w1,env,rfl,S1,eo.le l1,h1⟩
 |false=>exact out_of S1 h1
theorem w_or (ha:PT X a (tT X.K Ξ ft)) (hb:PW X (.BoolOp .Or (b::rest) pos) (tT X.K Ξ gt)):PW X (.BoolOp .Or (a::b::rest) pos) (tT X.K Ξ (tOr ft gt)):=pw_imp (pw_or ha hb) fun σ H Q hh_=>by
 obtain ⟨w,env,eH,S,eo,h⟩:=hh_
 subst eH
 refine ⟨w,env,rfl,S,eo,(Out.bnd h).mono fun w1 b l1 S1 h1=>?_⟩
 cases b with
 |false=>exact ⟨w1,env,rfl,S1,eo.le l1,h1⟩
 |true=>exact out_of S1 h1
theorem e_one {op} (ha:PE X a (tE X.K Ξ f)):PE X (.BoolOp op [a] pos) (tE X.K Ξ f):=pe_one ha
theorem isBl_of {K:Frag} {w:Wd} {d:D} {v:V} {k:Wd->Bool->Prop} (S:StoOk K w) (hd:DV K w d v) (h:Out K Ξ w (isBl d w.sto) k):∃b,v=.bl b/\k w b:=by
 cases d with
 |bl b=>exact ⟨b,hd,out_of S h⟩
 |_=>exact h.elim
theorem e_and (ha:PE X a (tE X.K Ξ f)) (hb:PE X (.BoolOp .And (b::rest) pos) (tE X.K Ξ g)):PE X (.BoolOp .And (a::b::rest) pos) (tE X.K Ξ (eAnd f g)):=pe_imp (pe_and ha hb) fun σ H Q hh_=>by
 obtain ⟨w,env,eH,S,eo,h⟩:=hh_
 subst eH
 refine ⟨w,env,rfl,S,eo,(Out.bnd h).mono fun w1 x l1 S1 h1 v1 dv1=>?_⟩
 obtain ⟨b,e,h2⟩:=isBl_of S1 dv1 (Out.bnd h1)
 refine ⟨b,e,?_⟩
 cases b with
 |true=>exact ⟨w1,env,rfl,S1,eo.le l1,h2⟩
 |false=>exact out_of S1 h2 _ rfl
theorem e_or (ha:PE X a (tE X.K Ξ f)) (hb:PE X (.BoolOp .Or (b::rest) pos) (tE X.K Ξ g)):PE X (.BoolOp .Or (a::b::rest) pos) (tE X.K Ξ (eOr f g)):=pe_imp (pe_or ha hb) fun σ H Q hh_=>by
 obtain ⟨w,env,eH,S,eo,h⟩:=hh_
 subst eH
 refine ⟨w,env,rfl,S,eo,(Out.bnd h).mono fun w1 x l1 S1 h1 v1 dv1=>?_⟩
 obtain ⟨b,e,h2⟩:=isBl_of S1 dv1 (Out.bnd h1)
 refine ⟨b,e,?_⟩
 cases b with
 |false=>exact ⟨w1,env,rfl,S1,eo.le l1,h2⟩
 |true=>exact out_of S1 h2 _ rfl
theorem e_not (ha:PE X a (tE X.K Ξ f)):PE X (.UnaryOp .Not a pos) (tE X.K Ξ (eNot f)):=pe_imp (pe_not ha) fun σ H Q hh_=>by
 obtain ⟨w,env,eH,S,eo,h⟩:=hh_
 subst eH
 refine ⟨w,env,rfl,S,eo,(Out.bnd h).mono fun w1 x l1 S1 h1 v1 dv1=>?_⟩
 obtain ⟨b,e,h2⟩:=isBl_of S1 dv1 (Out.bnd h1)
 exact ⟨b,e,out_of S1 h2 _ rfl⟩
theorem e_if (hc:PT X c (tT X.K Ξ ft)) (ha:PE X a (tE X.K Ξ f)) (hb:PE X b (tE X.K Ξ g)):PE X (.IfExp c a b pos) (tE X.K Ξ (eIf ft f g)):=pe_imp (pe_ifExp hc ha hb) fun σ H Q hh_=>by
 obtain ⟨w,env,eH,S,eo,h⟩:=hh_
 subst eH
 refine ⟨w,env,rfl,S,eo,(Out.bnd h).mono fun w1 b l1 S1 h1=>?_⟩
 cases b with
 |true=>exact ⟨w1,env,rfl,S1,eo.le l1,h1⟩
 |false=>exact ⟨w1,env,rfl,S1,eo.le l1,h1⟩
theorem cb_imp {K:Frag} {o:List D->Sto->Res D} (σ:St) (H:Hp) (Q:VK):tE K Ξ (eB o fa) σ H Q->tCB (rC K Ξ o) (tA K Ξ fa) σ H Q:=by
 rintro ⟨w,env,rfl,S,eo,h⟩
 exact ⟨w,env,rfl,S,eo,(Out.bnd h).mono fun w1 ds l1 S1 h1 vs dvs=>⟨w1,ds,rfl,S1,dvs,h1⟩⟩
theorem e_callB {x:Str} {p:Pos} {id:String} {o:List D->Sto->Res D} (hc:CallR X (.builtin id) (rC X.K Ξ o)) (hg:Gl X x) (hm:X.mg x=none) (hv:bootBuiltins x=some (.builtin id)) (ha:PA X (e::es) (tA X.K Ξ fa)) (hn:x≠"__name__":=by decide) (hdb:(x==("__debug__":Str))=false:=by decide)
  (he:starEach (e::es) X.env=(false,eval e X.env)::starEach es X.env:=by rfl) (hpl:(backTo pos (starEach es X.env)).any (·.1)=false:=by rfl):PE X (.Call (.Name x p) (e::es) [] pos) (tE X.K Ξ (eB o fa)):=pe_imp (pe_callB hc hg hm hv ha hn hdb he hpl) cb_imp
theorem e_callTy {x:Str} {p:Pos} {T:String} {o:List D->Sto->Res D} (hc:CallR X (.type T) (rC X.K Ξ o)) (hg:Gl X x) (hm:X.mg x=none) (hv:bootBuiltins x=some (.type T)) (ha:PA X (e::es) (tA X.K Ξ fa)) (hn:x≠"__name__":=by decide) (hdb:(x==("__debug__":Str))=false:=by decide)
  (he:starEach (e::es) X.env=(false,eval e X.env)::starEach es X.env:=by rfl) (hpl:(backTo pos (starEach es X.env)).any (·.1)=false:=by rfl):PE X (.Call (.Name x p) (e::es) [] pos) (tE X.K Ξ (eB o fa)):=pe_imp (pe_callTy hc hg hm hv ha hn hdb he hpl) cb_imp
end
end DI
namespace DI
open PySem L2
set_option genInjectivity true in
inductive Fl where
 |nx (env:Env)|rt (d:D)|bk (env:Env)|ct (env:Env)
noncomputable def fEnd (K:Frag) (D:Ends) (w:Wd):Fl->Prop
 | .nx env=>∀ σ,EnvOk K w env σ->D.nx σ w.H
 | .rt d=>∀v,DV K w d v->D.rt v w.H
 | .bk env=>∀ σ,EnvOk K w env σ->D.bk σ w.H
 | .ct env=>∀ σ,EnvOk K w env σ->D.ct σ w.H
noncomputable def tS (K:Frag) (Ξ:Wd->Exn->Prop) (f:Env->Sto->Res Fl):TS:=fun D σ H=>∃w env,w.H=H/\StoOk K w/\EnvOk K w env σ/\Out K Ξ w (f env w.sto) (fEnd K D)
noncomputable def sNil:Env->Sto->Res Fl:=fun env s=>ok (.nx env) s
noncomputable def sSeq (f g:Env->Sto->Res Fl):Env->Sto->Res Fl:=fun env s=>bnd (f env s) fun fl s=>match fl with
 | .nx env=>g env s
 |fl=>ok fl s
noncomputable def sRet (f:Env->Sto->Res D):Env->Sto->Res Fl:=fun env s=>bnd (f env s) fun d s=>ok (.rt d) s
noncomputable def sExpr (f:Env->Sto->Res D):Env->Sto->Res Fl:=fun env s=>bnd (f env s) fun _ s=>ok (.nx env) s
noncomputable def sIf (c:Env->Sto->Res Bool) (f g:Env->Sto->Res Fl):Env->Sto->Res Fl:=fun env s=>bnd (c env s) fun b s=>if b=true then f env s else g env s
noncomputable def sCont:Env->Sto->Res Fl:=fun env s=>ok (.ct env) s
noncomputable def sAsg (f:Env->Sto->Res D) (g:D->Env->Option Env):Env->Sto->Res Fl:=fun env s=>bnd (f env s) fun d s=>match g d env with
 |some env'=>ok (.nx env') s
 |none=>none
noncomputable def gN (i:Nat):D->Env->Option Env:=fun d env=>some (env.set i (some d))
noncomputable def gAll:List (D->Env->Option Env)->List D->Env->Option Env
 | [],[],env=>some env
 |g::gs,d::ds,env=>match g d env with
  |some env'=>gAll gs ds env'
  |none=>none
 |_,_,_=>none
noncomputable def gT (gs:List (D->Env->Option Env)):D->Env->Option Env:=fun d env=>match d with
 | .tup ds=>gAll gs ds env
 |_=>none
noncomputable def forGo (g:D->Env->Option Env) (b:Env->Sto->Res Fl):List D->Env->Sto->Res Fl
 | [],env,s=>ok (.nx env) s
 |d::ds,env,s=>match g d env with
  |none=>none
  |some env'=>bnd (b env' s) fun fl s=>match fl with
   | .nx e=>forGo g b ds e s
   | .ct e=>forGo g b ds e s
   | .bk e=>ok (.nx e) s
   | .rt d=>ok (.rt d) s
noncomputable def sFor (it:Env->Sto->Res (List D)) (g:D->Env->Option Env) (b:Env->Sto->Res Fl):Env->Sto->Res Fl:=fun env s=>bnd (it env s) fun ds s=>forGo g b ds env s
noncomputable def whlGo (c:Env->Sto->Res Bool) (b:Env->Sto->Res Fl):Nat->Env->Sto->Res Fl
 |0,_,_=>none
 |n+1,env,s=>bnd (c env s) fun t s=>if t=true then bnd (b env s) fun fl s=>match fl with
   | .nx e=>whlGo c b n e s
   | .ct e=>whlGo c b n e s
   | .bk e=>ok (.nx e) s
   | .rt d=>ok (.rt d) s
  else ok (.nx env) s
noncomputable def sWhl (n:Nat) (c:Env->Sto->Res Bool) (b:Env->Sto->Res Fl):Env->Sto->Res Fl:=whlGo c b n
noncomputable def ne {α:Type} (r:Res α):Res α:=match r with
 |some (.ok a,s)=>some (.ok a,s)
 |_=>none
@[simp] theorem ne_ok {α:Type} {a:α} {s:Sto}:ne (some (.ok a,s))=some (.ok a,s):=rfl
noncomputable def capsE (cap:List Nat) (env:Env):Env:=cap.map fun j=>(env[j]?).getD none
noncomputable def compGo (nt:Nat) (caps:Env) (g:D->Env->Option Env) (t:Env->Sto->Res Bool) (f:Env->Sto->Res D):List D->Sto->Res (List D)
 | [],s=>ok [] s
 |d::ds,s=>match g d (List.replicate nt none++caps) with
  |none=>none
  |some env=>bnd (ne (t env s)) fun b s=>if b=true then bnd (ne (f env s)) fun x s=>bnd (compGo nt caps g t f ds s) fun xs s=>ok (x::xs) s
   else compGo nt caps g t f ds s
noncomputable def eComp (nt:Nat) (cap:List Nat) (it:Env->Sto->Res (List D)) (g:D->Env->Option Env) (t:Env->Sto->Res Bool) (f:Env->Sto->Res D):Env->Sto->Res D:=fun env s =>
 bnd (it env s) fun ds s=>lenOk ds (bnd (compGo nt (capsE cap env) g t f ds s) fun xs s=>ok (.lst xs) s)
noncomputable def tTT:Env->Sto->Res Bool:=fun _ s=>ok true s
noncomputable def fnRun (np ns:Nat) (b:Env->Sto->Res Fl):List D->Sto->Res D:=fun ds s=>if ds.length=np then bnd (b (ds.map some++List.replicate (ns-np) none) s) fun fl s=>match fl with
 | .rt d=>ok d s
 | .nx _=>ok .non s
 |_=>none else none
noncomputable abbrev NoX:Wd->Exn->Prop:=fun _ _=>False
noncomputable def spI (K:Frag) (f:List D->Sto->Res D):Sp:=fun vs H Q _=>∃w ds,w.H=H/\StoOk K w/\DVs K w ds vs/\Out K NoX w (f ds w.sto) fun w' d=>∀v,DV K w' d v->Q v w'.H
section
variable {X:Cx} {Ξ:Wd->Exn->Prop} {e a b c tg:Expr} {es rest:List Expr} {pos:Pos} {f g h:Env->Sto->Res D} {fa:Env->Sto->Res (List D)} {ft gt:Env->Sto->Res Bool} {st:Stmt} {sts sts':List Stmt} {fs gs:Env->Sto->Res Fl}
theorem s_nil:PSs X [] (tS X.K Ξ sNil):=pss_imp pss_nil fun D σ H hh_=>by
 obtain ⟨w,env,eH,S,eo,h⟩:=hh_
 subst eH
 exact out_of S h σ eo
theorem s_cons (h1:PS X st (tS X.K Ξ fs)) (h2:PSs X sts (tS X.K Ξ gs)):PSs X (st::sts) (tS X.K Ξ (sSeq fs gs)):=pss_imp (pss_cons h1 h2) fun D σ H hh_=>by
 obtain ⟨w,env,eH,S,eo,h⟩:=hh_
 subst eH
 refine ⟨w,env,rfl,S,eo,(Out.bnd h).mono fun w1 fl l1 S1 h1=>?_⟩
 cases fl with
 |nx env'=>exact fun σ' eo'=>⟨w1,env',rfl,S1,eo',h1⟩
 |rt d=>have q:=out_of S1 h1;exact q
 |bk env'=>have q:=out_of S1 h1;exact q
 |ct env'=>have q:=out_of S1 h1;exact q
theorem s_one (h1:PS X st (tS X.K Ξ fs)):PSs X [st] (tS X.K Ξ fs):=pss_one h1
theorem s_ret (he:PE X e (tE X.K Ξ f)):PS X (.Return (some e) pos) (tS X.K Ξ (sRet f)):=ps_imp (ps_ret he) fun D σ H hh_=>by
 obtain ⟨w,env,eH,S,eo,h⟩:=hh_
 subst eH
 exact ⟨w,env,rfl,S,eo,(Out.bnd h).mono fun w1 d l1 S1 h1=>out_of S1 h1⟩
theorem s_expr (he:PE X e (tE X.K Ξ f)) (hs:swapsWith e none pos.line X.env=pure false:=by rfl):PS X (.Expr e pos) (tS X.K Ξ (sExpr f)):=ps_imp (ps_expr he hs) fun D σ H hh_=>by
 obtain ⟨w,env,eH,S,eo,h⟩:=hh_
 subst eH
 exact ⟨w,env,rfl,S,eo,(Out.bnd h).mono fun w1 d l1 S1 h1 _ _=>out_of S1 h1 σ (eo.le l1)⟩
theorem s_if (hc:PT X c (tT X.K Ξ ft)) (ha:PSs X sts (tS X.K Ξ fs)) (hb:PSs X sts' (tS X.K Ξ gs)):PS X (.If c sts sts' pos) (tS X.K Ξ (sIf ft fs gs)):=ps_imp (ps_if hc ha hb) fun D σ H hh_=>by
 obtain ⟨w,env,eH,S,eo,h⟩:=hh_
 subst eH
 refine ⟨w,env,rfl,S,eo,(Out.bnd h).mono fun w1 b l1 S1 h1=>?_⟩
 cases b with
 |true=>exact ⟨w1,env,rfl,S1,eo.le l1,h1⟩
 |false=>exact ⟨w1,env,rfl,S1,eo.le l1,h1⟩
noncomputable def sNo:Env->Sto->Res Fl:=fun _ _=>none
theorem ss_never:PSs X sts (tS X.K Ξ sNo):=fun _ _ _ _ _ _ h=>by obtain ⟨w,env,_,_,_,h⟩:=h;exact h.elim
noncomputable def gD (K:Frag) (g:D->Env->Option Env):TG:=fun v σ H Q=>∃w env d env',w.H=H/\StoOk K w/\EnvOk K w env σ/\DV K w d v/\g d env=some env'/\∀ σ',EnvOk K w env' σ'->Q σ' H
noncomputable def gDs (K:Frag) (g:List D->Env->Option Env):TGs:=fun vs σ H Q=>∃w env ds env',w.H=H/\StoOk K w/\EnvOk K w env σ/\DVs K w ds vs/\g ds env=some env'/\∀ σ',EnvOk K w env' σ'->Q σ' H
theorem pg_imp {t t':TG} (h:PG X e t) (i:∀v σ H Q,t' v σ H Q->t v σ H Q):PG X e t':=fun pins s σ H v u Q I r hq=>h pins s σ H v u Q I r (i v σ H Q hq)
theorem pgs_imp {t t':TGs} (h:PGs X es t) (i:∀v σ H Q,t' v σ H Q->t v σ H Q):PGs X es t':=fun pins s σ H v u Q I r hq=>h pins s σ H v u Q I r (i v σ H Q hq)
theorem g_name (i:Nat) {x:Str} (hN:X.N.Nodup) (hi:X.N[i]?=some x:=by rfl) (hx:Loc X.env.scope x:=by first|exact Or.inl rfl|exact Or.inr rfl) (hf:X.fn x=true\/X.env.scope.names.lookup x=some .local:=by first|exact .inl rfl|exact .inr rfl):PG X (.Name x pos) (gD X.K (gN i)) :=
 pg_imp (pg_name hN hi hx hf) fun v σ H Q hh_=>by
  obtain ⟨w,env,d,env',eH,S,eo,dv,eg,k⟩:=hh_
  have e:env.set i (some d)=env':=Option.some.inj eg
  subst e
  exact k _ (eo.set dv i)
theorem gs_nil:PGs X [] (gDs X.K (gAll [])):=pgs_imp pgs_nil fun vs σ H Q hh_=>by
 obtain ⟨w,env,ds,env',eH,S,eo,dvs,eg,k⟩:=hh_
 cases ds with
 |nil =>
  have e:env=env':=Option.some.inj eg
  subst e
  exact ⟨dvs,k _ eo⟩
 |cons d ds=>cases eg
theorem gs_cons {g:D->Env->Option Env} {gl:List (D->Env->Option Env)} (h1:PG X e (gD X.K g)) (h2:PGs X es (gDs X.K (gAll gl)))
  (hs:(assignEach (e::es) X.env).map (·.2)=assign e X.env::(assignEach es X.env).map (·.2):=by rfl):PGs X (e::es) (gDs X.K (gAll (g::gl))):=pgs_imp (pgs_cons h1 h2 hs) fun vs σ H Q hh_=>by
 obtain ⟨w,env,ds,env',eH,S,eo,dvs,eg,k⟩:=hh_
 cases ds with
 |nil=>cases eg
 |cons d ds =>
  obtain ⟨v,r,rfl,dv,dr⟩:=dvs
  simp only [gAll] at eg
  cases hgd:g d env with
  |none=>rw [hgd] at eg;cases eg
  |some env1 =>
   rw [hgd] at eg
   refine ⟨v,r,rfl,w,env,d,env1,eH,S,eo,dv,hgd,fun σ1 eo1=>⟨w,env1,ds,env',eH,S,eo1,dr,eg,k⟩⟩
theorem gAll_len:∀{gl:List (D->Env->Option Env)} {ds:List D} {env env':Env},gAll gl ds env=some env'->ds.length=gl.length
 | [],[],_,_,_=>rfl
 |g::gl,d::ds,env,env',h=>by
  simp only [gAll] at h
  cases hgd:g d env with
  |none=>rw [hgd] at h;cases h
  |some e1=>rw [hgd] at h;simp [gAll_len h]
 | [],_::_,_,_,h=>by cases h
 |_::_,[],_,_,h=>by cases h
theorem g_tup {gl:List (D->Env->Option Env)} {k:Nat} (hc:X.calm=true) (h:PGs X es (gDs X.K (gAll gl))) (hn:(assignEach es X.env).length=gl.length:=by rfl) (hst:(assignEach es X.env).findIdx? (·.1)=none:=by rfl):PG X (.Tuple es k pos) (gD X.K (gT gl)) :=
 pg_imp (pg_tup hc h hn hst) fun v σ H Q hh_=>by
  obtain ⟨w,env,d,env',eH,S,eo,dv,eg,k⟩:=hh_
  cases d with
  |tup ds =>
   simp only [DV] at dv
   obtain ⟨p,xs,e1,hq,dvs⟩:=dv
   subst eH
   exact ⟨p,xs,e1,hq,by rw [<- dvs.length];exact gAll_len eg,w,env,ds,env',rfl,S,eo,dvs,eg,k⟩
  |_=>cases eg
theorem asg_imp {K:Frag} {g:D->Env->Option Env} (D:Ends) (σ:St) (H:Hp):tS K Ξ (sAsg f g) D σ H->tAsg (tE K Ξ f) (gD K g) D σ H:=by
 rintro ⟨w,env,rfl,S,eo,h⟩
 refine ⟨w,env,rfl,S,eo,(Out.bnd h).mono fun w1 d l1 S1 h1 v dv=>?_⟩
 cases hg:g d env with
 |none=>rw [hg] at h1;exact h1.elim
 |some env' =>
  rw [hg] at h1
  exact ⟨w1,env,d,env',rfl,S1,eo.le l1,dv,hg,out_of S1 h1⟩
theorem gName_imp {K:Frag} {te:TE} {i:Nat} (D:Ends) (σ:St) (H:Hp):tAsg (tE K Ξ f) (gD K (gN i)) D σ H->tAsg (tE K Ξ f) (gName i) D σ H:=by
 rintro ⟨w,env,rfl,S,eo,h⟩
 refine ⟨w,env,rfl,S,eo,h.mono fun w1 d l1 S1 h1 v dv=>?_⟩
 obtain ⟨w',env1,d',env',e',S',eo',dv',eg,k⟩:=h1 v dv
 have e:env1.set i (some d')=env':=Option.some.inj eg
 subst e
 exact k _ (eo'.set dv' i)
theorem s_set (i:Nat) {x:Str} {pos':Pos} (hN:X.N.Nodup) (he:PE X e (tE X.K Ξ f)) (hi:X.N[i]?=some x:=by rfl) (hx:Loc X.env.scope x:=by first|exact Or.inl rfl|exact Or.inr rfl) (hs:swapsWith e (some (.Name x pos')) pos.line X.env=pure false:=by rfl) (hf:X.fn x=true\/X.env.scope.names.lookup x=some .local:=by first|exact .inl rfl|exact .inr rfl) :
  PS X (.Assign [.Name x pos'] e pos) (tS X.K Ξ (sAsg f (gN i))):=ps_imp (ps_set hN hi hx he hs hf) fun D σ H h=>gName_imp (te:=tE X.K Ξ f) D σ H (asg_imp D σ H h)
def ItD (K:Frag) (w:Wd) (J:It) (ds:List D):Prop:=∀w',Le K w w'->StoOk K w'->∀i,
 (∀d,ds[i]?=some d->J.go i w'.H/\∀x H',J.yld i w'.H x H'->∃w2,w2.H=H'/\Le K w' w2/\StoOk K w2/\w2.sto=w'.sto/\DV K w2 d x)/\(ds.length<=i->J.stop i w'.H)
noncomputable def tIt (K:Frag) (Ξ:Wd->Exn->Prop) (f:Env->Sto->Res (List D)):TI:=fun σ H R=>∃w env,w.H=H/\StoOk K w/\EnvOk K w env σ/\Out K Ξ w (f env w.sto) fun w' ds=>∀J,ItD K w' J ds->R J w'.H
theorem pi_imp {t t':TI} (h:PI X tg e t) (i:∀ σ H R,t' σ H R->t σ H R):PI X tg e t':=fun pins s σ H R I hq=>h pins s σ H R I (i σ H R hq)
theorem for_imp {K:Frag} {it:Env->Sto->Res (List D)} {g:D->Env->Option Env} (D0:Ends) (σ:St) (H:Hp):tS K Ξ (sFor it g fs) D0 σ H->tFor (tIt K Ξ it) (gD K g) (tS K Ξ fs) D0 σ H:=by
 rintro ⟨w,env,rfl,S,eo,h⟩
 refine ⟨w,env,rfl,S,eo,(Out.bnd h).mono fun w1 ds l1 S1 h1 J hJ=>?_⟩
 refine ⟨fun i m σ' H'=>m=ds.length-i/\i<=ds.length/\∃w' env',w'.H=H'/\Le K w1 w'/\StoOk K w'/\EnvOk K w' env' σ'/\Out K Ξ w' (forGo g fs (ds.drop i) env' w'.sto) (fEnd K D0),
  ⟨ds.length,rfl,Nat.zero_le _,w1,env,rfl,Le.refl _,S1,eo.le l1,h1⟩,?_⟩
 rintro i m σ' H' ⟨rfl,hi,w',env',rfl,l',S',eo',h'⟩
 by_cases hlt:i<ds.length
 ·right
  obtain ⟨hgo,hy⟩:=(hJ w' l' S' i).1 _ (List.getElem?_eq_getElem hlt)
  rw [List.drop_eq_getElem_cons hlt] at h'
  simp only [forGo] at h'
  cases hg:g ds[i] env' with
  |none=>rw [hg] at h';exact h'.elim
  |some env2 =>
   rw [hg] at h'
   refine ⟨hgo,fun σ2 H2=>∃w2 env3,w2.H=H2/\Le K w1 w2/\StoOk K w2/\EnvOk K w2 env3 σ2/\Out K Ξ w2 (forGo g fs (ds.drop (i+1)) env3 w2.sto) (fEnd K D0),fun σ2 H2 ⟨w2,env3,q⟩=>⟨ds.length-(i+1),by omega,rfl,hlt,w2,env3,q⟩,fun x H2 y=>?_⟩
   obtain ⟨w2,rfl,l2,S2,es,dv⟩:=hy x H2 y
   refine ⟨w2,env',ds[i],env2,rfl,S2,eo'.le l2,dv,hg,fun σ2 eo2=>⟨w2,env2,rfl,S2,eo2,?_⟩⟩
   rw [<- es] at h'
   refine (Out.bnd (h'.from l2)).mono fun w3 fl l3 S3 h3=>?_
   cases fl with
   |nx e3=>exact fun σ3 eo3=>⟨w3,e3,rfl,l'.trans (l2.trans l3),S3,eo3,h3⟩
   |ct e3=>exact fun σ3 eo3=>⟨w3,e3,rfl,l'.trans (l2.trans l3),S3,eo3,h3⟩
   |bk e3=>have q:=out_of S3 h3;exact q
   |rt d=>have q:=out_of S3 h3;exact q
 ·left
  have e:i=ds.length:=by omega
  subst e
  rw [List.drop_length] at h'
  exact ⟨(hJ w' l' S' _).2 (Nat.le_refl _),out_of S' h' σ' eo'⟩
theorem s_for {iter:Expr} {it:Env->Sto->Res (List D)} {g:D->Env->Option Env} (hp:PassesOwn (model X.prog X.w) X.A X.env X.xe) (hc:X.calm=true) (hi:PI X tg iter (tIt X.K Ξ it)) (hg:PG X tg (gD X.K g)) (hb:PSs X sts (tS X.K Ξ fs))
  (hs:∀x,foldedSetIterable iter X.env x=pure x:=by intro _;rfl):PS X (.For tg iter sts [] pos) (tS X.K Ξ (sFor it g fs)):=ps_imp (ps_for hp hc hi hg hb hs) for_imp
theorem whl_imp {K:Frag} {n:Nat} (D0:Ends) (σ:St) (H:Hp):tS K Ξ (sWhl n ft fs) D0 σ H->tWhile (tT K Ξ ft) (tS K Ξ fs) D0 σ H:=by
 rintro ⟨w,env,rfl,S,eo,h⟩
 refine ⟨fun m σ' H'=>∃w' env',w'.H=H'/\StoOk K w'/\EnvOk K w' env' σ'/\Out K Ξ w' (whlGo ft fs m env' w'.sto) (fEnd K D0),⟨n,w,env,rfl,S,eo,h⟩,?_⟩
 rintro m σ' H' ⟨w',env',rfl,S',eo',h'⟩
 cases m with
 |zero=>exact h'.elim
 |succ m =>
  simp only [whlGo] at h'
  refine ⟨w',env',rfl,S',eo',(Out.bnd h').mono fun w1 b l1 S1 h1=>?_⟩
  cases b with
  |true =>
   refine ⟨fun σ2 H2=>∃w2 env3,w2.H=H2/\StoOk K w2/\EnvOk K w2 env3 σ2/\Out K Ξ w2 (whlGo ft fs m env3 w2.sto) (fEnd K D0),fun σ2 H2 q=>⟨m,Nat.lt_succ_self m,q⟩,w1,env',rfl,S1,eo'.le l1,(Out.bnd h1).mono fun w3 fl l3 S3 h3=>?_⟩
   cases fl with
   |nx e3=>exact fun σ3 eo3=>⟨w3,e3,rfl,S3,eo3,h3⟩
   |ct e3=>exact fun σ3 eo3=>⟨w3,e3,rfl,S3,eo3,h3⟩
   |bk e3=>have q:=out_of S3 h3;exact q
   |rt d=>have q:=out_of S3 h3;exact q
  |false=>exact out_of S1 h1 σ' (eo'.le l1)
theorem s_whl (n:Nat) (hp:PassesOwn (model X.prog X.w) X.A X.env X.xe) (hc:PT X c (tT X.K Ξ ft)) (hb:PSs X sts (tS X.K Ξ fs)):PS X (.While c sts [] pos) (tS X.K Ξ (sWhl n ft fs)):=ps_imp (ps_while hp hc hb) whl_imp
theorem Out.ne {α:Type} {K:Frag} {w:Wd} {r:Res α} {k:Wd->α->Prop} (h:Out K Ξ w (DI.ne r) k):Out K NoX w r k:=by
 match r,h with
 |some (.ok a,s),h=>exact h
theorem EnvOk.block {K:Frag} {w:Wd} {env:Env} {σ:St} (h:EnvOk K w env σ) (nt:Nat) (cap:List Nat) (o:St) (ho:o.length=nt):EnvOk K w (List.replicate nt none++capsE cap env) (o++capsC cap σ):=by
 refine ⟨by simp [capsE,capsC,ho],fun i d e=>?_⟩
 by_cases hi:i<nt
 ·rw [List.getElem?_append_left (by simpa using hi),List.getElem?_replicate,if_pos hi] at e
  cases e
 ·rw [List.getElem?_append_right (by simpa using Nat.le_of_not_lt hi)] at e
  rw [List.getElem?_append_right (by omega),ho]
  simp only [List.length_replicate] at e
  unfold capsE at e
  unfold capsC
  rw [List.getElem?_map] at e |-
  cases ej:cap[i-nt]? with
  |none=>rw [ej] at e;cases e
  |some j =>
   rw [ej] at e
   have ev:(env[j]?).getD none=some d:=Option.some.inj e
   have ev':env[j]?=some (some d):=by
    cases q:env[j]? with
    |none=>rw [q] at ev;cases ev
    |some z=>rw [q] at ev;exact congrArg some ev
   obtain ⟨v,e1,e2⟩:=h.val j d ev'
   exact ⟨v,by rw [Option.map_some,e1];rfl,e2⟩
theorem comp_imp {K:Frag} {nt:Nat} {cap:List Nat} {it:Env->Sto->Res (List D)} {g:D->Env->Option Env} (σ:St) (H:Hp) (Q:VK) :
  tE K Ξ (eComp nt cap it g ft f) σ H Q->tComp (tIt K Ξ it) nt cap (gD K g) (tT K NoX ft) (tE K NoX f) σ H Q:=by
 rintro ⟨w,env,rfl,S,eo,h⟩
 refine ⟨w,env,rfl,S,eo,(Out.bnd h).mono fun w1 ds l1 S1 h1 J hJ=>?_⟩
 obtain ⟨hz,h1⟩:=lenOk_of h1
 refine ⟨fun i m acc H'=>m=ds.length-i/\i<=ds.length/\acc.length<=i/\∃w' accD,w'.H=H'/\Le K w1 w'/\StoOk K w'/\DVs K w' accD acc/\Out K Ξ w' (compGo nt (capsE cap env) g ft f (ds.drop i) w'.sto) fun w2 xs=>∀vs,DVs K w2 (accD++xs) vs->∀p,w2.H p=none->Q (.ref p) (upd w2.H p (.lst vs)),
  ⟨ds.length,rfl,Nat.zero_le _,Nat.zero_le _,w1,[],rfl,Le.refl _,S1,rfl,(Out.bnd h1).mono fun w2 xs l2 S2 h2 vs dvs p hp=>?_⟩,?_⟩
 ·exact h2 (w2.grow p (.lst vs)) (Fw.grow hp).le (S2.grow hp) rfl (.ref p) ⟨p,vs,rfl,⟨(show ¬ w2.Z p from nZ_new S2 hp),upd_same⟩,(Fw.grow hp).le.all dvs⟩
 rintro i m acc H' ⟨rfl,hi,ha,w',accD,rfl,l',S',da,h'⟩
 by_cases hlt:i<ds.length
 ·right
  obtain ⟨hgo,hy⟩:=(hJ w' l' S' i).1 _ (List.getElem?_eq_getElem hlt)
  rw [List.drop_eq_getElem_cons hlt] at h'
  simp only [compGo] at h'
  cases hg:g ds[i] (List.replicate nt none++capsE cap env) with
  |none=>rw [hg] at h';exact h'.elim
  |some env2 =>
   rw [hg] at h'
   refine ⟨hgo,by omega,fun acc2 H2=>acc2.length<=i+1/\∃w' accD,w'.H=H2/\Le K w1 w'/\StoOk K w'/\DVs K w' accD acc2/\Out K Ξ w' (compGo nt (capsE cap env) g ft f (ds.drop (i+1)) w'.sto) fun w2 xs=>∀vs,DVs K w2 (accD++xs) vs->∀p,w2.H p=none->Q (.ref p) (upd w2.H p (.lst vs)),
    fun acc2 H2 ⟨ha2,q⟩=>⟨ds.length-(i+1),by omega,rfl,hlt,ha2,q⟩,fun o x H3 ho y=>?_⟩
   obtain ⟨w2,rfl,l2,S2,es,dv⟩:=hy x H3 y
   refine ⟨w2,_,ds[i],env2,rfl,S2,(eo.le (l1.trans (l'.trans l2))).block nt cap o ho,dv,hg,fun σ2 eo2=>?_⟩
   rw [<- es] at h'
   refine ⟨w2,env2,rfl,S2,eo2,(Out.bnd (h'.from l2)).ne.mono fun w3 b l3 S3 h3=>?_⟩
   cases b with
   |true =>
    refine ⟨w3,env2,rfl,S3,eo2.le l3,(Out.bnd h3).ne.mono fun w4 d l4 S4 h4 v dv4=>⟨by rw [List.length_append];simp;omega,w4,accD++[d],rfl,l'.trans (l2.trans (l3.trans l4)),S4,DVs.append ((l2.trans (l3.trans l4)).all da) (DVs.one dv4),(Out.bnd h4).mono fun w5 xs l5 S5 h5 vs dvs p hp=>?_⟩⟩
    exact out_of S5 h5 vs (by rw [List.append_assoc] at dvs;exact dvs) p hp
   |false =>
    exact ⟨by omega,w3,accD,rfl,l'.trans (l2.trans l3),S3,(l2.trans l3).all da,h3⟩
 ·left
  have e:i=ds.length:=by omega
  subst e
  rw [List.drop_length] at h'
  refine ⟨(hJ w' l' S' _).2 (Nat.le_refl _),by omega,fun p hp=>out_of S' h' acc (by rw [List.append_nil];exact da) p hp⟩
end
end DI
namespace DI
open PySem L2
theorem sets_ok {o caps:St} {v:V} {i nt:Nat} (ho:o.length=nt) (hi:i<nt):(o++caps).set i (some v)=o.set i (some v)++caps:=by
 rw [List.set_append_left _ _ (by omega)]
theorem gok_nameI {i nt:Nat} (hi:i<nt):GOk (gName i) nt:=by
 intro x o caps H R ho h
 exact ⟨⟨o.set i (some x),by rw [List.length_set];exact ho,sets_ok ho hi⟩,h⟩
def GOks (g:TGs) (nt:Nat):Prop:=∀(xs:List V) (o caps:St) (H:Hp) (R:St->Hp->Prop),o.length=nt->g xs (o++caps) H R->g xs (o++caps) H fun τ H2=>(∃o2:St,o2.length=nt/\τ=o2++caps)/\R τ H2
theorem goks_nil {nt:Nat}:GOks gNil nt:=fun xs o caps H R ho h=>⟨h.1,⟨o,ho,rfl⟩,h.2⟩
theorem goks_cons {i nt:Nat} {g:TGs} (hi:i<nt) (hg:GOks g nt):GOks (gCons (gName i) g) nt:=by
 rintro xs o caps H R ho ⟨v,r,e,h⟩
 refine ⟨v,r,e,?_⟩
 have h:g r ((o++caps).set i (some v)) H R:=h
 show g r ((o++caps).set i (some v)) H _
 rw [sets_ok ho hi] at h |-
 exact hg r _ caps H R (by rw [List.length_set];exact ho) h
theorem gok_tupI {K:Frag} {n nt:Nat} {g:TGs} (hg:GOks g nt):GOk (gTup K n g) nt:=by
 rintro x o caps H R ho ⟨a,xs,e,hq,hl,h⟩
 exact ⟨a,xs,e,hq,hl,hg xs o caps H R ho h⟩
structure Tg (K:Frag) (g0:TG) (g:D->Env->Option Env) (nt:Nat):Prop where
 gok:GOk g0 nt
 imp:∀v σ H Q,gD K g v σ H Q->g0 v σ H Q
structure Tgs (K:Frag) (g0:TGs) (g:List (D->Env->Option Env)) (nt:Nat):Prop where
 gok:GOks g0 nt
 imp:∀v σ H Q,gDs K (gAll g) v σ H Q->g0 v σ H Q
theorem tg_name {K:Frag} (i:Nat) {nt:Nat} (hi:i<nt:=by decide):Tg K (gName i) (gN i) nt:=⟨gok_nameI hi,fun v σ H Q hh_=>by
 obtain ⟨w,env,d,env',eH,S,eo,dv,eg,k⟩:=hh_
 have e:env.set i (some d)=env':=Option.some.inj eg
 subst e
 exact k _ (eo.set dv i)⟩
theorem tgs_nil {K:Frag} {nt:Nat}:Tgs K gNil [] nt:=⟨goks_nil,fun vs σ H Q hh_=>by
 obtain ⟨w,env,ds,env',eH,S,eo,dvs,eg,k⟩:=hh_
 cases ds with
 |nil =>
  have e:env=env':=Option.some.inj eg
  subst e
  exact ⟨dvs,k _ eo⟩
 |cons d ds=>cases eg⟩
theorem tgs_cons {K:Frag} (i:Nat) {nt:Nat} {g0:TGs} {gl:List (D->Env->Option Env)} (h:Tgs K g0 gl nt) (hi:i<nt:=by decide):Tgs K (gCons (gName i) g0) (gN i::gl) nt:=⟨goks_cons hi h.gok,fun vs σ H Q hh_=>by
 obtain ⟨w,env,ds,env',eH,S,eo,dvs,eg,k⟩:=hh_
 cases ds with
 |nil=>cases eg
 |cons d ds =>
  obtain ⟨v,r,rfl,dv,dr⟩:=dvs
  exact ⟨v,r,rfl,h.imp _ _ _ _ ⟨w,_,ds,env',eH,S,eo.set dv i,dr,eg,k⟩⟩⟩
theorem tg_tup {K:Frag} {nt n:Nat} {g0:TGs} {gl:List (D->Env->Option Env)} (h:Tgs K g0 gl nt) (hn:gl.length=n:=by rfl):Tg K (gTup K n g0) (gT gl) nt:=⟨gok_tupI h.gok,fun v σ H Q hh_=>by
 obtain ⟨w,env,d,env',eH,S,eo,dv,eg,k⟩:=hh_
 cases d with
 |tup ds =>
  simp only [DV] at dv
  obtain ⟨p,xs,e1,hq,dvs⟩:=dv
  subst eH
  exact ⟨p,xs,e1,hq,by rw [<- dvs.length,gAll_len eg];exact hn,h.imp _ _ _ _ ⟨w,env,ds,env',rfl,S,eo,dvs,eg,k⟩⟩
 |_=>cases eg⟩
section
variable {X:Cx} {Ξ:Wd->Exn->Prop} {e a b c tg el src:Expr} {es rest tests:List Expr} {pos:Pos} {f g h:Env->Sto->Res D} {fa:Env->Sto->Res (List D)} {ft gt:Env->Sto->Res Bool} {st:Stmt} {sts sts':List Stmt} {fs gs:Env->Sto->Res Fl}
theorem pf_imp {t t':TT} (h:PF X tests t) (i:∀ σ H Q,t' σ H Q->t σ H Q):PF X tests t':=fun pins s σ H Q I hq=>h pins s σ H Q I (i σ H Q hq)
theorem f_nil {K:Frag}:PF X [] (tT K Ξ tTT):=pf_imp pf_nil fun σ H Q hh_=>by
 obtain ⟨w,env,eH,S,eo,h⟩:=hh_
 subst eH
 exact out_of S h
theorem f_one {K:Frag} (h:PT X c (tT K Ξ ft)):PF X [c] (tT K Ξ ft):=pf_one h
theorem tComp_mono {wi:TI} {nt:Nat} {cap:List Nat} {g0 g1:TG} {tf:TT} {te:TE} (i_:∀v σ H Q,g1 v σ H Q->g0 v σ H Q) {σ:St} {H:Hp} {Q:VK} (wm:∀R R':It->Hp->Prop,(∀J H',R J H'->R' J H')->wi σ H R->wi σ H R') (h:tComp wi nt cap g1 tf te σ H Q):tComp wi nt cap g0 tf te σ H Q:=by
 refine wm _ _ (fun J H' hc=>?_) h
 obtain ⟨W,w0,step⟩:=hc
 refine ⟨W,w0,fun i m acc H2 hw=>?_⟩
 rcases step i m acc H2 hw with q | ⟨q1,q2,N,q3,q4⟩
 ·exact .inl q
 ·exact .inr ⟨q1,q2,N,q3,fun o x H3 ho y=>i_ _ _ _ _ (q4 o x H3 ho y)⟩
theorem tIt_mono {K:Frag} {it:Env->Sto->Res (List D)} {σ:St} {H:Hp} (R R':It->Hp->Prop) (i:∀J H',R J H'->R' J H') (h:tIt K Ξ it σ H R):tIt K Ξ it σ H R':=by
 obtain ⟨w,env,eH,S,eo,h⟩:=h
 exact ⟨w,env,eH,S,eo,h.mono fun w1 ds _ _ h1 J hJ=>i J _ (h1 J hJ)⟩
noncomputable def iSeq (f:Env->Sto->Res D):Env->Sto->Res (List D):=fun env s=>bnd (f env s) fun d s=>match d with
 | .lst ds=>ok ds s
 | .tup ds=>ok ds s
 |_=>none
theorem itd_list {K:Frag} {w:Wd} {a:Addr} {ds:List D} (h:DV K w (.lst ds) (.ref a)):ItD K w (Itl K a) ds:=fun w' l' S' i=>by
 have h':=l' _ _ h
 simp only [DV] at h'
 obtain ⟨p,xs,e,hq,dvs⟩:=h'
 cases e
 refine ⟨fun d ed=>?_,fun hl=>⟨xs,hq.sq,by rw [<- dvs.length];exact hl⟩⟩
 obtain ⟨v,ev,dv⟩:=dvs.get' i d ed
 exact ⟨⟨xs,v,hq.sq,ev⟩,fun x H' ⟨e1,e2⟩=>⟨w',e1.symm,Le.refl _,S',rfl,by
  have q:=e2 xs hq.sq
  rw [ev] at q
  cases q
  exact dv⟩⟩
theorem itd_tup {K:Frag} {w:Wd} {a:Addr} {ds:List D} (h:DV K w (.tup ds) (.ref a)):ItD K w (Itt K a) ds:=fun w' l' S' i=>by
 have h':=l' _ _ h
 simp only [DV] at h'
 obtain ⟨p,xs,e,hq,dvs⟩:=h'
 cases e
 refine ⟨fun d ed=>?_,fun hl=>⟨xs,hq,by rw [<- dvs.length];exact hl⟩⟩
 obtain ⟨v,ev,dv⟩:=dvs.get' i d ed
 exact ⟨⟨xs,v,hq,ev⟩,fun x H' ⟨e1,e2⟩=>⟨w',e1.symm,Le.refl _,S',rfl,by
  have q:=e2 xs hq
  rw [ev] at q
  cases q
  exact dv⟩⟩
theorem i_seq (hl:PE X a (tE X.K Ξ f)):PI X tg a (tIt X.K Ξ (iSeq f)):=by
 have both:PI X tg a (fun σ H R=>iList X.K (tE X.K Ξ f) σ H R\/iTup X.K (tE X.K Ξ f) σ H R):=fun pins s σ H R I h=>h.elim (pi_list hl pins s σ H R I) (pi_tup hl pins s σ H R I)
 refine pi_imp both fun σ H R ⟨w,env,eH,S,eo,h⟩=>?_
 subst eH
 simp only [iSeq] at h
 cases hf:f env w.sto with
 |none=>rw [hf] at h;exact h.elim
 |some r =>
  obtain ⟨r,s⟩:=r
  rw [hf] at h
  cases r with
  |error x=>exact .inl ⟨w,env,rfl,S,eo,by rw [hf];exact h⟩
  |ok d =>
   rw [bnd_ok] at h
   cases d with
   |lst ds =>
    refine .inl ⟨w,env,rfl,S,eo,?_⟩
    rw [hf]
    intro w1 l1 S1 e1 v dv
    have dv':=dv
    simp only [DV] at dv
    obtain ⟨p,xs,rfl,hq,dvs⟩:=dv
    exact ⟨p,rfl,⟨xs,hq.sq⟩,h w1 l1 S1 e1 _ (itd_list dv')⟩
   |tup ds =>
    refine .inr ⟨w,env,rfl,S,eo,?_⟩
    rw [hf]
    intro w1 l1 S1 e1 v dv
    have dv':=dv
    simp only [DV] at dv
    obtain ⟨p,xs,rfl,hq,dvs⟩:=dv
    exact ⟨p,rfl,⟨xs,hq⟩,h w1 l1 S1 e1 _ (itd_tup dv')⟩
   |_=>exact h.elim
noncomputable def rng (lo:Int) (n:Nat):List D:=(List.range n).map fun (i:Nat)=>D.int (lo+(i:Int))
theorem rng_get {lo:Int} {n i:Nat}:(rng lo n)[i]?=if i<n then some (.int (lo+i)) else none:=by
 unfold rng
 rw [List.getElem?_map]
 by_cases h:i<n
 ·rw [List.getElem?_range h,if_pos h];rfl
 ·rw [List.getElem?_eq_none (by simp;omega),if_neg h];rfl
theorem rng_len {lo:Int} {n:Nat}:(rng lo n).length=n:=by simp [rng]
theorem itd_rng {K:Frag} {w:Wd} {lo:Int} {n:Nat}:ItD K w (Itr lo n) (rng lo n):=fun w' l' S' i=>by
 refine ⟨fun d ed=>?_,fun hl=>by rw [rng_len] at hl;exact hl⟩
 rw [rng_get] at ed
 split at ed
 ·cases ed
  exact ⟨by assumption,fun x H' ⟨e1,e2⟩=>⟨w',e1.symm,Le.refl _,S',rfl,e2⟩⟩
 ·cases ed
noncomputable def inRng (j:Int):Bool:=decide (-(2 ^ 62)<=j)&&decide (j<2 ^ 62)
noncomputable def iR1 (fa:Env->Sto->Res (List D)):Env->Sto->Res (List D):=fun env s=>bnd (fa env s) fun ds s=>match ds with
 | [.int j]=>if inRng j=true then ok (rng 0 j.toNat) s else none
 |_=>none
theorem i_rng1 {p:Pos} (hg:Gl X "range") (hm:X.mg "range"=none) (ha:PA X [a] (tA X.K Ξ fa)) (hs:starEach [a] X.env=[(false,eval a X.env)]:=by rfl):PI X tg (.Call (.Name "range" p) [a] [] pos) (tIt X.K Ξ (iR1 fa)) :=
 pi_imp (pi_range1 hg hm ha hs) fun σ H R hh_=>by
  obtain ⟨w,env,eH,S,eo,h⟩:=hh_
  subst eH
  refine ⟨w,env,rfl,S,eo,(Out.bnd h).mono fun w1 ds l1 S1 h1 vs dvs=>?_⟩
  split at h1
  ·rename_i j
   split at h1
   ·rename_i hj
    simp only [inRng,Bool.and_eq_true,decide_eq_true_eq] at hj
    obtain ⟨v,r,rfl,dv,dr⟩:=dvs
    have e1:v=.int j:=dv
    have e2:r=[]:=dr
    subst e1 e2
    exact ⟨j,rfl,hj.1,hj.2,out_of S1 h1 _ itd_rng⟩
   ·exact h1.elim
  ·exact h1.elim
noncomputable def zipD (xs ys:List D):List D:=(xs.zip ys).map fun p=>.tup [p.1,p.2]
theorem zipD_get {xs ys:List D} {i:Nat} {d:D} (h:(zipD xs ys)[i]?=some d):∃x y,xs[i]?=some x/\ys[i]?=some y/\d=.tup [x,y]:=by
 unfold zipD at h
 rw [List.getElem?_map] at h
 cases hz:(xs.zip ys)[i]? with
 |none=>rw [hz] at h;cases h
 |some p =>
  rw [hz] at h
  obtain ⟨q1,q2⟩:=List.getElem?_zip_eq_some.mp hz
  exact ⟨p.1,p.2,q1,q2,(Option.some.inj h).symm⟩
theorem zipD_len {xs ys:List D}:(zipD xs ys).length=min xs.length ys.length:=by simp [zipD]
theorem pair_grow {K:Frag} {w':Wd} {d d2:D} {x y:V} {p:Addr} (S':StoOk K w') (hp:w'.H p=none) (h1:DV K w' d x) (h2:DV K w' d2 y) :
  ∃w2,w2.H=upd w'.H p (.tup [x,y])/\Le K w' w2/\StoOk K w2/\w2.sto=w'.sto/\DV K w2 (.tup [d,d2]) (.ref p) :=
 ⟨w'.grow p (.tup [x,y]),rfl,(Fw.grow hp).le,S'.grow hp,rfl,p,[x,y],rfl,SqT.of upd_same,(Fw.grow hp).le.all (DVs.two h1 h2)⟩
theorem itd_zipT {K:Frag} {w:Wd} {a b:Addr} {ds es:List D} (h:DV K w (.tup ds) (.ref a)) (g:DV K w (.tup es) (.ref b)):ItD K w (ItzT K a b) (zipD ds es):=fun w' l' S' i=>by
 have h':=l' _ _ h
 have g':=l' _ _ g
 simp only [DV] at h' g'
 obtain ⟨p,xs,e,hq,dvs⟩:=h'
 obtain ⟨q,ys,e',gq,evs⟩:=g'
 cases e;cases e'
 refine ⟨fun d ed=>?_,fun hl=>⟨xs,ys,hq,gq,?_⟩⟩
 ·obtain ⟨x,y,e1,e2,rfl⟩:=zipD_get ed
  obtain ⟨v,ev,dv⟩:=dvs.get' i x e1
  obtain ⟨u,eu,du⟩:=evs.get' i y e2
  refine ⟨⟨xs,ys,v,u,hq,gq,ev,eu⟩,fun z H' ⟨r,x1,y1,hr,ez,eH,hxy⟩=>?_⟩
  obtain ⟨q1,q2⟩:=hxy xs ys hq gq
  rw [ev] at q1;rw [eu] at q2
  cases q1;cases q2
  subst ez eH
  exact pair_grow S' hr dv du
 ·rw [zipD_len] at hl
  have:=dvs.length
  have:=evs.length
  omega
noncomputable def iZip (fa:Env->Sto->Res (List D)):Env->Sto->Res (List D):=fun env s=>bnd (fa env s) fun ds s=>match ds with
 | [.tup xs,.tup ys]=>ok (zipD xs ys) s
 |_=>none
theorem i_zip {p:Pos} {elts:List Expr} {kk:Nat} {tpos:Pos} (hg:Gl X "zip") (hm:X.mg "zip"=none) (ha:PA X [a,b] (tA X.K Ξ fa)) (hs:starEach [a,b] X.env=[(false,eval a X.env),(false,eval b X.env)]:=by rfl) (hs2:starEach [b] X.env=[(false,eval b X.env)]:=by rfl) :
  PI X (.Tuple elts kk tpos) (.Call (.Name "zip" p) [a,b] [] pos) (tIt X.K Ξ (iZip fa)):=by
 refine pi_imp (pi_zipT hg hm ha hs hs2) fun σ H R hh_=>?_
 obtain ⟨w,env,eH,S,eo,h⟩:=hh_
 subst eH
 refine ⟨w,env,rfl,S,eo,(Out.bnd h).mono fun w1 ds l1 S1 h vs dvs=>?_⟩
 split at h
 ·obtain ⟨v,r,rfl,dv,v2,r2,rfl,dv2,dr⟩:=dvs
  have e3:r2=[]:=dr
  subst e3
  have q1:=dv
  have q2:=dv2
  simp only [DV] at q1 q2
  obtain ⟨p,xs,rfl,hq,_⟩:=q1
  obtain ⟨q,ys,rfl,gq,_⟩:=q2
  exact ⟨p,q,xs,ys,rfl,hq,gq,out_of S1 h _ (itd_zipT dv dv2)⟩
 ·exact h.elim
noncomputable def enumD (xs:List D):List D:=xs.zipIdx.map fun p=>.tup [.int p.2,p.1]
theorem itd_enumT {K:Frag} {w:Wd} {a:Addr} {ds:List D} (h:DV K w (.tup ds) (.ref a)):ItD K w (IteT K a) (enumD ds):=fun w' l' S' i=>by
 have h':=l' _ _ h
 simp only [DV] at h'
 obtain ⟨p,xs,e,hq,dvs⟩:=h'
 cases e
 refine ⟨fun d ed=>?_,fun hl=>⟨xs,hq,by rw [<- dvs.length];simpa [enumD] using hl⟩⟩
 unfold enumD at ed
 rw [List.getElem?_map,List.getElem?_zipIdx] at ed
 cases hx:ds[i]? with
 |none=>rw [hx] at ed;cases ed
 |some x =>
  rw [hx] at ed
  have ed:D.tup [.int ((0+i:Nat):Int),x]=d:=Option.some.inj ed
  rw [Nat.zero_add] at ed
  subst ed
  obtain ⟨v,ev,dv⟩:=dvs.get' i x hx
  refine ⟨⟨xs,v,hq,ev⟩,fun z H' ⟨r,x1,hr,ez,eH,hxy⟩=>?_⟩
  have q1:=hxy xs hq
  rw [ev] at q1
  cases q1
  subst ez eH
  exact pair_grow S' hr rfl dv
noncomputable def iEnum (fa:Env->Sto->Res (List D)):Env->Sto->Res (List D):=fun env s=>bnd (fa env s) fun ds s=>match ds with
 | [.tup xs]=>ok (enumD xs) s
 |_=>none
theorem i_enum {p:Pos} {elts:List Expr} {kk:Nat} {tpos:Pos} (hg:Gl X "enumerate") (hm:X.mg "enumerate"=none) (ha:PA X [a] (tA X.K Ξ fa)) (hs:starEach [a] X.env=[(false,eval a X.env)]:=by rfl) :
  PI X (.Tuple elts kk tpos) (.Call (.Name "enumerate" p) [a] [] pos) (tIt X.K Ξ (iEnum fa)) :=
 pi_imp (pi_enumT hg hm ha hs) fun σ H R hh_=>by
  obtain ⟨w,env,eH,S,eo,h⟩:=hh_
  subst eH
  refine ⟨w,env,rfl,S,eo,(Out.bnd h).mono fun w1 ds l1 S1 h1 vs dvs=>?_⟩
  split at h1
  ·obtain ⟨v,r,rfl,dv,dr⟩:=dvs
   have e3:r=[]:=dr
   subst e3
   have q1:=dv
   simp only [DV] at q1
   obtain ⟨p,xs,rfl,hq,_⟩:=q1
   exact ⟨p,xs,rfl,hq,out_of S1 h1 _ (itd_enumT dv)⟩
  ·exact h1.elim
noncomputable def eCall (fn:List D->Sto->Res D) (fa:Env->Sto->Res (List D)):Env->Sto->Res D:=fun env s=>bnd (fa env s) fun ds s=>ne (fn ds s)
theorem e_call {k:Nat} {fA:Addr} {fd:FuncData} {pms:List Str} {fn:List D->Sto->Res D} {x:Str} {p:Pos} (F:FnOk X.prog X.w X.K X.mg X.base CX0 k fA fd pms (spI X.K fn)) (hr:Room k X.A) (hg:Gl X x) (hm:X.mg x=some (.ref fA)) (hk:PySem.W.keepIn X.K (.ref fA)=true) (hb:Binds X.K fd pms [])
  (ha:PA X (e::es) (tA X.K Ξ fa)) (hdb:(x==("__debug__":Str))=false:=by decide) (he:starEach (e::es) X.env=(false,eval e X.env)::starEach es X.env:=by rfl) (hpl:(backTo pos (starEach es X.env)).any (·.1)=false:=by rfl) :
  PE X (.Call (.Name x p) (e::es) [] pos) (tE X.K Ξ (eCall fn fa)):=pe_imp (pe_call F hr hg hm hk hb .nil pass0 ha hdb he hpl) fun σ H Q hh_=>by
 obtain ⟨w,env,eH,S,eo,h⟩:=hh_
 subst eH
 refine ⟨w,env,rfl,S,eo,(Out.bnd h).mono fun w1 ds l1 S1 h1 vs dvs=>?_⟩
 show spI X.K fn (vs++[]) w1.H Q E0
 rw [List.append_nil]
 exact ⟨w1,ds,rfl,S1,dvs,h1.ne⟩
theorem DVs.env {K:Frag} {w:Wd} {ds:List D} {vs:List V} (h:DVs K w ds vs) (n:Nat):EnvOk K w (ds.map some++List.replicate (n-ds.length) none) (vs.map some++List.replicate (n-vs.length) none):=by
 have hl:=h.length
 refine ⟨by simp [hl],fun i d e=>?_⟩
 by_cases hi:i<ds.length
 ·rw [List.getElem?_append_left (by simpa using hi),List.getElem?_map] at e
  rw [List.getElem?_append_left (by simp;omega),List.getElem?_map]
  cases hd:ds[i]? with
  |none=>rw [hd] at e;cases e
  |some d' =>
   rw [hd] at e
   cases e
   obtain ⟨v,ev,dv⟩:=h.get' i d hd
   exact ⟨v,by rw [ev];rfl,dv⟩
 ·rw [List.getElem?_append_right (by simpa using Nat.le_of_not_lt hi),List.getElem?_replicate] at e
  split at e<;>cases e
end
theorem fn_ok {P:Program} {w:World} {K:Frag} {mg:Str->Option Value} {base:Heap} {x qual:Str} {st:Stmt} {f:Addr} {fd:FuncData} {N ps:List Str} {k:Nat} {b:Env->Sto->Res Fl} (F:Fun K x qual st f fd) (S:FnScope N ps (defScope st))
  (hb:∀(cdv:Value) (A:Around) (outer:List PySem.Env) (s:Shared) (H:Hp) (E:XK),Room k (A.deeper (PyProof.Rows.envOfC qual (defScope st) s.heap.objs.size f cdv))->PSs (cxOf CX0 P w K mg base N qual (defScope st) f cdv A outer s H E).nox (defBody st) (tS K NoX b)) :
  FnOk P w K mg base CX0 (k+1) f fd ps (spI K (fnRun ps.length N.length b)):=by
 refine F.ok S (fun vs H Q E h=>?_) (fun cdv A outer s H vs Q E hr h=>?_)
 ·obtain ⟨w,ds,rfl,S,dvs,h⟩:=h
  rw [<- dvs.length]
  unfold fnRun at h
  split at h
  ·assumption
  ·exact h.elim
 ·obtain ⟨w,ds,rfl,S,dvs,h⟩:=h
  refine ⟨_,hb cdv A outer s w.H E hr,?_⟩
  unfold fnRun at h
  split at h
  ·rename_i hl
   rw [<- hl] at h
   refine ⟨w,_,rfl,S,dvs.env N.length,(Out.bnd h).mono fun w1 fl l1 S1 h1=>?_⟩
   cases fl with
   |nx env=>intro σ' _;exact out_of S1 h1 _ rfl
   |rt d=>have q:=out_of S1 h1;exact q
   |bk env=>exact h1.elim
   |ct env=>exact h1.elim
  ·exact h.elim
end DI
namespace DI
open PySem L2
mutual
noncomputable def py:D->PyData
 | .non=>.none
 | .bl b=>.bool b
 | .int i=>.int i
 | .str x=>.str x
 | .tup ds=>.tuple (pys ds)
 | .lst ds=>.list (pys ds)
 | .dct kvs=>.dict (kvs.map fun p=>(keyD p.1,PyData.int p.2))
 | .han _=>.none
 | .ty _=>.none
 | .scr _=>.none
noncomputable def pys:List D->List PyData
 | []=>[]
 |d::ds=>py d::pys ds
end
mutual
noncomputable def plain:D->Bool
 | .non=>true
 | .bl _=>true
 | .int _=>true
 | .str _=>true
 | .tup ds=>plains ds
 | .lst ds=>plains ds
 | .dct _=>true
 | .han _=>false
 | .ty _=>false
 | .scr _=>false
noncomputable def plains:List D->Bool
 | []=>true
 |d::ds=>plain d&&plains ds
end
mutual
noncomputable def lay:D->Bool
 | .non=>true
 | .bl _=>true
 | .int _=>true
 | .str x=>PyData.strOk x
 | .tup ds=>lays ds
 | .lst ds=>lays ds
 | .dct _=>false
 | .han _=>false
 | .ty _=>false
 | .scr _=>false
noncomputable def lays:List D->Bool
 | []=>true
 |d::ds=>lay d&&lays ds
end
mutual
noncomputable def dep:D->Nat
 | .tup ds=>deps ds+1
 | .lst ds=>deps ds+1
 | .dct kvs=>1
 | .non=>0
 | .bl _=>0
 | .int _=>0
 | .str _=>0
 | .han _=>0
 | .ty _=>0
 | .scr _=>0
noncomputable def deps:List D->Nat
 | []=>0
 |d::ds=>max (dep d) (deps ds)
end
mutual
noncomputable def beq:D->D->Bool
 | .non,.non=>true
 | .bl a,.bl b=>a==b
 | .bl a,.int j=>(if a then 1 else 0)==j
 | .int i,.bl b=>i==(if b then 1 else 0)
 | .int i,.int j=>i==j
 | .str x,.str y=>x==y
 | .tup xs,.tup ys=>beqs xs ys
 | .lst xs,.lst ys=>beqs xs ys
 |_,_=>false
noncomputable def beqs:List D->List D->Bool
 | [],[]=>true
 |x::xs,y::ys=>beq x y&&beqs xs ys
 |_,_=>false
end
mutual
theorem lay_plain:∀(d:D),lay d=true->plain d=true
 | .non,_=>rfl
 | .bl _,_=>rfl
 | .int _,_=>rfl
 | .str _,_=>rfl
 | .tup ds,h=>by simp only [lay,plain] at h |-;exact lays_plains ds h
 | .lst ds,h=>by simp only [lay,plain] at h |-;exact lays_plains ds h
 | .dct _,h=>by simp [lay] at h
 | .han _,h=>by simp [lay] at h
 | .ty _,h=>by simp [lay] at h
 | .scr _,h=>by simp [lay] at h
theorem lays_plains:∀(ds:List D),lays ds=true->plains ds=true
 | [],_=>rfl
 |d::ds,h=>by
  simp only [lays,plains,Bool.and_eq_true] at h |-
  exact ⟨lay_plain d h.1,lays_plains ds h.2⟩
end
mutual
theorem lay_py:∀(d:D),lay d=true->(py d).canLay0=true/\(py d).depth=dep d
 | .non,_=>⟨rfl,by simp [py,dep,PyData.depth]⟩
 | .bl _,_=>⟨rfl,by simp [py,dep,PyData.depth]⟩
 | .int _,_=>⟨rfl,by simp [py,dep,PyData.depth]⟩
 | .str _,h=>⟨h,by simp [py,dep,PyData.depth]⟩
 | .tup ds,h=>by
  obtain ⟨h1,h2⟩:=lays_pys ds (by simpa [lay] using h)
  simp only [py,dep,PyData.depth,PyData.canLay0]
  exact ⟨h1,by rw [h2]⟩
 | .lst ds,h=>by
  obtain ⟨h1,h2⟩:=lays_pys ds (by simpa [lay] using h)
  simp only [py,dep,PyData.depth,PyData.canLay0]
  exact ⟨h1,by rw [h2]⟩
 | .dct _,h=>by simp [lay] at h
 | .han _,h=>by simp [lay] at h
 | .ty _,h=>by simp [lay] at h
 | .scr _,h=>by simp [lay] at h
theorem lays_pys:∀(ds:List D),lays ds=true->PyData.canLayAll0 (pys ds)=true/\PyData.depthAll (pys ds)=deps ds
 | [],_=>⟨rfl,rfl⟩
 |d::ds,h=>by
  simp only [lays,Bool.and_eq_true] at h
  obtain ⟨a1,a2⟩:=lay_py d h.1
  obtain ⟨b1,b2⟩:=lays_pys ds h.2
  simp only [pys,deps,PyData.canLayAll0,PyData.depthAll,a1,b1,a2,b2,Bool.and_self,and_self]
end
mutual
theorem beq_py:∀(d e:D),lay d=true->lay e=true->PyData.eqv (py d) (py e)=beq d e
 | .tup xs,.tup ys,h,g=>by
  simp only [py,beq,PyData.eqv]
  exact beqs_pys xs ys (by simpa [lay] using h) (by simpa [lay] using g)
 | .lst xs,.lst ys,h,g=>by
  simp only [py,beq,PyData.eqv]
  exact beqs_pys xs ys (by simpa [lay] using h) (by simpa [lay] using g)
 | .non,e,_,g=>by cases e<;>simp_all [py,beq,PyData.eqv,lay]
 | .bl _,e,_,g=>by cases e<;>simp_all [py,beq,PyData.eqv,lay]
 | .int _,e,_,g=>by cases e<;>simp_all [py,beq,PyData.eqv,lay]
 | .str _,e,_,g=>by cases e<;>simp_all [py,beq,PyData.eqv,lay]
 | .tup _,.non,_,_=>by simp [py,beq,PyData.eqv]
 | .tup _,.bl _,_,_=>by simp [py,beq,PyData.eqv]
 | .tup _,.int _,_,_=>by simp [py,beq,PyData.eqv]
 | .tup _,.str _,_,_=>by simp [py,beq,PyData.eqv]
 | .tup _,.lst _,_,_=>by simp [py,beq,PyData.eqv]
 | .lst _,.non,_,_=>by simp [py,beq,PyData.eqv]
 | .lst _,.bl _,_,_=>by simp [py,beq,PyData.eqv]
 | .lst _,.int _,_,_=>by simp [py,beq,PyData.eqv]
 | .lst _,.str _,_,_=>by simp [py,beq,PyData.eqv]
 | .lst _,.tup _,_,_=>by simp [py,beq,PyData.eqv]
 | .dct _,_,h,_=>by simp [lay] at h
 | .han _,_,h,_=>by simp [lay] at h
 | .ty _,_,h,_=>by simp [lay] at h
 | .scr _,_,h,_=>by simp [lay] at h
 |_,.dct _,_,h=>by simp [lay] at h
 |_,.han _,_,h=>by simp [lay] at h
 |_,.ty _,_,h=>by simp [lay] at h
 |_,.scr _,_,h=>by simp [lay] at h
theorem beqs_pys:∀(ds es:List D),lays ds=true->lays es=true->PyData.eqvAll (pys ds) (pys es)=beqs ds es
 | [],[],_,_=>rfl
 | [],_::_,_,_=>rfl
 |_::_,[],_,_=>rfl
 |d::ds,e::es,h,g=>by
  simp only [lays,Bool.and_eq_true] at h g
  simp only [pys,beqs,PyData.eqvAll,beq_py d e h.1 g.1,beqs_pys ds es h.2 g.2]
end
mutual
theorem DV.py {K:Frag} {w:Wd}:∀{d:D} {v:V},DV K w d v->plain d=true->L2.DV K (fun _=>False) w.H (DI.py d) v
 | .non,_,h,_=>h
 | .bl _,_,h,_=>h
 | .int _,_,h,_=>h
 | .str _,_,h,_=>h
 | .tup ds,v,h,p=>by
  simp only [DV] at h
  obtain ⟨a,xs,e,hq,r⟩:=h
  simp only [DI.py,L2.DV]
  exact ⟨a,xs,e,hq,DVs.py r (by simpa [plain] using p)⟩
 | .lst ds,v,h,p=>by
  simp only [DV] at h
  obtain ⟨a,xs,e,hq,r⟩:=h
  simp only [DI.py,L2.DV]
  exact ⟨a,xs,e,not_false,hq.2,DVs.py r (by simpa [plain] using p)⟩
 | .dct kvs,v,h,p=>by
  simp only [DV] at h
  obtain ⟨a,e,hz,hq⟩:=h
  simp only [DI.py,L2.DV]
  exact ⟨a,_,e,not_false,hq,kvs,rfl,rfl⟩
 | .han _,_,_,p=>by simp [plain] at p
 | .ty _,_,_,p=>by simp [plain] at p
 | .scr _,_,_,p=>by simp [plain] at p
theorem DVs.py {K:Frag} {w:Wd}:∀{ds:List D} {vs:List V},DVs K w ds vs->plains ds=true->L2.DVs K (fun _=>False) w.H (DI.pys ds) vs
 | [],_,h,_=>h
 |d::ds,vs,h,p=>by
  simp only [DVs] at h
  obtain ⟨v,r,e,h1,h2⟩:=h
  simp only [plains,Bool.and_eq_true] at p
  exact ⟨v,r,e,DV.py h1 p.1,DVs.py h2 p.2⟩
end
noncomputable def res (d:D) (s:Sto):D:=match d with
 | .han k=>match s[k]? with
  |some (.lst ds)=>.lst ds
  |_=>d
 |_=>d
theorem DV.res {K:Frag} {w:Wd} {d:D} {v:V} (S:StoOk K w) (h:DV K w d v) (p:plain (DI.res d w.sto)=true):L2.DV K (fun _=>False) w.H (DI.py (DI.res d w.sto)) v:=by
 cases d with
 |han k =>
  unfold DI.res at p |-
  simp only at p |-
  split at p<;>rename_i hk
  ·rename_i ds
   obtain ⟨a,e1,rfl⟩:=h
   obtain ⟨xs,q1,q2⟩:=S.cell k a _ e1 hk
   simp only [DI.py,L2.DV]
   exact ⟨a,xs,rfl,not_false,q1,q2.py (by simpa [plain] using p)⟩
  ·simp [plain] at p
 |_=>exact h.py p
noncomputable def isS:D->Bool
 | .str _=>true
 |_=>false
theorem isS_of {d:D} (h:isS d=true):∃x,d=.str x:=by cases d<;>first|exact ⟨_,rfl⟩|cases h
noncomputable def eqAns (x y:D):Option Bool:=if (isS x&&isS y)=true then some (beq x y) else if (lay x&&lay y&&decide (min (dep x) (dep y)<=100))=true then some (beq x y) else none
noncomputable def opEq (x y:D) (s:Sto):Res D:=match eqAns (res x s) (res y s) with
 |some b=>ok (.bl b) s
 |none=>none
noncomputable def opNe (x y:D) (s:Sto):Res D:=match eqAns (res x s) (res y s) with
 |some b=>ok (.bl (!b)) s
 |none=>none
theorem eq_core {K:Frag} {w:Wd} {x y:D} {v u:V} {b:Bool} (S:StoOk K w) (hx:DV K w x v) (hy:DV K w y u) (h:eqAns (res x w.sto) (res y w.sto)=some b) :
  (scal v u=true/\decide (v=u)=b)\/∃(d e:PyData),L2.DV K (fun _=>False) w.H d v/\L2.DV K (fun _=>False) w.H e u/\d.canLay0=true/\e.canLay0=true/\min d.depth e.depth<=100/\PyData.eqv d e=b:=by
 have str:∀{d:D} {v:V},isS (res d w.sto)=true->DV K w d v->∃x,res d w.sto=.str x/\v=.str x:=fun {d v} hs hd=>by
  obtain ⟨x,e⟩:=isS_of hs
  cases d with
  |str y=>cases e;exact ⟨x,rfl,hd⟩
  |han k =>
   unfold res at e
   simp only at e
   split at e<;>cases e
  |_=>cases e
 unfold eqAns at h
 split at h
 ·rename_i hs
  rw [Bool.and_eq_true] at hs
  obtain ⟨a,ea,rfl⟩:=str hs.1 hx
  obtain ⟨c,ec,rfl⟩:=str hs.2 hy
  rw [ea,ec] at h
  exact .inl ⟨rfl,by rw [<- Option.some.inj h];exact dec_str⟩
 split at h
 ·rename_i hl
  right
  simp only [Bool.and_eq_true,decide_eq_true_eq] at hl
  obtain ⟨⟨l1,l2⟩,l3⟩:=hl
  obtain ⟨p1,p2⟩:=lay_py _ l1
  obtain ⟨q1,q2⟩:=lay_py _ l2
  exact ⟨_,_,hx.res S (lay_plain _ l1),hy.res S (lay_plain _ l2),p1,q1,by rw [p2,q2];exact l3,by rw [beq_py _ _ l1 l2];exact Option.some.inj h⟩
 ·cases h
section
variable {X:Cx} {Ξ:Wd->Exn->Prop}
theorem o_eq {k:Nat} (hr:Room k X.A):OpR X (compareOp .Eq) (rO X.K Ξ opEq):=by
 rintro pins s σ H x y v u Q I rx ry ⟨w,dx,dy,rfl,S,hx,hy,h⟩
 unfold opEq at h
 split at h
 ·rename_i b hb
  rcases eq_core S hx hy hb with ⟨h1,h2⟩ | ⟨d,e,h1,h2,h3,h4,h5,h6⟩
  ·exact op_eq pins s σ w.H x y v u Q I rx ry ⟨h1,by rw [h2];exact out_of S h _ rfl⟩
  exact op_eqD hr pins s σ w.H x y v u Q I rx ry ⟨d,e,_,h1,h2,h3,h4,h5,by simp only [Bool.false_eq_true,if_false];rw [h6];exact out_of S h _ rfl⟩
 ·exact h.elim
theorem o_ne {k:Nat} (hr:Room k X.A):OpR X (compareOp .NotEq) (rO X.K Ξ opNe):=by
 rintro pins s σ H x y v u Q I rx ry ⟨w,dx,dy,rfl,S,hx,hy,h⟩
 unfold opNe at h
 split at h
 ·rename_i b hb
  rcases eq_core S hx hy hb with ⟨h1,h2⟩ | ⟨d,e,h1,h2,h3,h4,h5,h6⟩
  ·exact op_ne pins s σ w.H x y v u Q I rx ry ⟨h1,by rw [h2];exact out_of S h _ rfl⟩
  exact op_neD hr pins s σ w.H x y v u Q I rx ry ⟨d,e,_,h1,h2,h3,h4,h5,by simp only [if_true];rw [h6];exact out_of S h _ rfl⟩
 ·exact h.elim
end
end DI
namespace DI
open PySem L2
noncomputable def pur (r:Option D) (s:Sto):Res D:=match r with
 |some d=>ok d s
 |none=>none
theorem pur_out {K:Frag} {Ξ:Wd->Exn->Prop} {w:Wd} {r:Option D} {k:Wd->D->Prop} (h:Out K Ξ w (pur r w.sto) k):∃d,r=some d/\Out K Ξ w (ok d w.sto) k:=by
 unfold pur at h
 split at h
 ·exact ⟨_,rfl,h⟩
 ·exact h.elim
noncomputable def fewD (xs ys:List D):Bool:=decide (xs.length+ys.length<=sizeLine)
noncomputable def addD:D->D->Option D
 | .int i,.int j=>some (.int (i+j))
 | .tup xs,.tup ys=>if fewD xs ys=true then some (.tup (xs++ys)) else none
 | .lst xs,.lst ys=>if fewD xs ys=true then some (.lst (xs++ys)) else none
 | .str x,.str y=>if decide (x.length+y.length<=sizeLine)=true then some (.str (x++y)) else none
 |_,_=>none
noncomputable def opAdd (x y:D) (s:Sto):Res D:=pur (addD (res x s) (res y s)) s
noncomputable def subD:D->D->Option D
 | .int i,.int j=>some (.int (i-j))
 |_,_=>none
noncomputable def opSub (x y:D) (s:Sto):Res D:=pur (subD x y) s
noncomputable def mulOk (i j:Int):Bool:=(decide (-(2 ^ 64)<i)&&decide (i<2 ^ 64))||(decide (-(2 ^ 64)<j)&&decide (j<2 ^ 64))
noncomputable def mulD:D->D->Option D
 | .int i,.int j=>if mulOk i j=true then some (.int (i*j)) else none
 | .tup xs,.int k=>if (!xs.isEmpty&&decide (1<=k)&&decide (xs.length*k.toNat<=sizeLine))=true then some (.tup (List.replicate k.toNat xs).flatten) else none
 | .lst xs,.int k=>if (decide (-(2 ^ 63)<=k)&&decide (k<2 ^ 63)&&decide (xs.length*k.toNat<=sizeLine))=true then some (.lst (List.replicate k.toNat xs).flatten) else none
 |_,_=>none
noncomputable def opMul (x y:D) (s:Sto):Res D:=pur (mulD x y) s
noncomputable def modD:D->D->Option D
 | .int i,.int j=>if decide (0<j)=true then some (.int (i % j)) else none
 |_,_=>none
noncomputable def opMod (x y:D) (s:Sto):Res D:=pur (modD x y) s
noncomputable def divD:D->D->Option D
 | .int i,.int j=>if (decide (0<j)&&decide (j<1073741824))=true then some (.int (i / j)) else none
 |_,_=>none
noncomputable def opDiv (x y:D) (s:Sto):Res D:=pur (divD x y) s
noncomputable def powD:D->D->Option D
 | .int i,.int j=>if (decide (0<=j)&&decide (j<=1000000)&&decide (i.natAbs<2 ^ 64))=true then some (.int (i ^ j.toNat)) else none
 |_,_=>none
noncomputable def opPow (x y:D) (s:Sto):Res D:=pur (powD x y) s
noncomputable def negD:D->Option D
 | .int i=>some (.int (-i))
 |_=>none
noncomputable def opNeg (x:D) (s:Sto):Res D:=pur (negD x) s
theorem DVs.flat {K:Frag} {w:Wd} {ds:List D} {vs:List V} (h:DVs K w ds vs):∀n:Nat,DVs K w (List.replicate n ds).flatten (List.replicate n vs).flatten
 |0=>rfl
 |n+1=>by
  rw [List.replicate_succ,List.replicate_succ,List.flatten_cons,List.flatten_cons]
  exact DVs.append h (DVs.flat h n)
theorem res_lst {K:Frag} {w:Wd} {d:D} {v:V} {ds:List D} (S:StoOk K w) (h:DV K w d v) (e:res d w.sto=.lst ds):∃a xs,v=.ref a/\w.H a=some (.lst xs)/\DVs K w ds xs:=by
 unfold res at e
 split at e
 ·rename_i k
  split at e
  ·rename_i es hk
   cases e
   obtain ⟨a,e1,rfl⟩:=h
   obtain ⟨xs,q1,q2⟩:=S.cell k a _ e1 hk
   exact ⟨a,xs,rfl,q1,q2⟩
  ·cases e
 ·subst e
  simp only [DV] at h
  obtain ⟨a,xs,e,hq,r⟩:=h
  exact ⟨a,xs,e,hq.2,r⟩
theorem res_not {d e:D} {s:Sto} (h:res d s=e) (hl:∀ds,e≠.lst ds):d=e:=by
 unfold res at h
 split at h
 ·split at h
  ·exact absurd h.symm (hl _)
  ·exact h
 ·exact h
section
variable {X:Cx} {Ξ:Wd->Exn->Prop}
theorem newT {K:Frag} {w:Wd} {ds:List D} {vs:List V} {Q:VK} (S:StoOk K w) (dvs:DVs K w ds vs) (h:Out K Ξ w (ok (D.tup ds) w.sto) fun w' d=>∀v,DV K w' d v->Q v w'.H):NewT K w.H vs Q:=fun a H' e hq =>
 h (w.same H') (Fw.same e).le (S.same e) rfl (.ref a) ⟨a,vs,rfl,hq,(Fw.same e).le.all dvs⟩
theorem newL {K:Frag} {w:Wd} {ds:List D} {vs:List V} {Q:VK} (S:StoOk K w) (dvs:DVs K w ds vs) (h:Out K Ξ w (ok (D.lst ds) w.sto) fun w' d=>∀v,DV K w' d v->Q v w'.H):∀p,w.H p=none->Q (.ref p) (upd w.H p (.lst vs)):=fun p hp =>
 h (w.grow p (.lst vs)) (Fw.grow hp).le (S.grow hp) rfl (.ref p) ⟨p,vs,rfl,⟨(show ¬ w.Z p from nZ_new S hp),upd_same⟩,(Fw.grow hp).le.all dvs⟩
theorem newTup {K:Frag} {w:Wd} {ds:List D} {vs:List V} {Q:VK} (S:StoOk K w) (dvs:DVs K w ds vs) (h:Out K Ξ w (ok (D.tup ds) w.sto) fun w' d=>∀v,DV K w' d v->Q v w'.H):∀p,w.H p=none->Q (.ref p) (upd w.H p (.tup vs)):=fun p hp =>
 h (w.grow p (.tup vs)) (Fw.grow hp).le (S.grow hp) rfl (.ref p) ⟨p,vs,rfl,SqT.of upd_same,(Fw.grow hp).le.all dvs⟩
theorem o_add:OpR X (binaryOp .Add) (rO X.K Ξ opAdd):=by
 rintro pins s σ H x y v u Q I rx ry ⟨w,dx,dy,rfl,S,hx,hy,h⟩
 obtain ⟨d,e,h⟩:=pur_out h
 unfold addD at e
 split at e
 ·rename_i i j e1 e2
  rw [res_not e1 (by intro _ z;cases z)] at hx
  rw [res_not e2 (by intro _ z;cases z)] at hy
  cases e;cases hx;cases hy
  exact op_add pins s σ w.H _ _ v u Q I rx ry ⟨i,j,rfl,rfl,out_of S h _ rfl⟩
 ·rename_i xs ys e1 e2
  rw [res_not e1 (by intro _ z;cases z)] at hx
  rw [res_not e2 (by intro _ z;cases z)] at hy
  split at e
  ·rename_i hl
   cases e
   simp only [DV] at hx hy
   obtain ⟨a,as,rfl,ha,dva⟩:=hx
   obtain ⟨b,bs,rfl,hb,dvb⟩:=hy
   exact op_catG pins s σ w.H _ _ v u Q I rx ry ⟨a,b,as,bs,rfl,rfl,ha,hb,by rw [<- dva.length,<- dvb.length];exact of_decide_eq_true hl,newT S (dva.append dvb) h⟩
  ·cases e
 ·rename_i xs ys e1 e2
  split at e
  ·rename_i hl
   cases e
   obtain ⟨a,as,rfl,ha,dva⟩:=res_lst S hx e1
   obtain ⟨b,bs,rfl,hb,dvb⟩:=res_lst S hy e2
   exact op_cat pins s σ w.H _ _ v u Q I rx ry ⟨a,b,as,bs,rfl,rfl,ha,hb,by rw [<- dva.length,<- dvb.length];exact of_decide_eq_true hl,newL S (dva.append dvb) h⟩
  ·cases e
 ·rename_i i j e1 e2
  rw [res_not e1 (by intro _ z;cases z)] at hx
  rw [res_not e2 (by intro _ z;cases z)] at hy
  split at e
  ·rename_i hl
   cases e;cases hx;cases hy
   exact op_add_str pins s σ w.H _ _ v u Q I rx ry ⟨i,j,rfl,rfl,of_decide_eq_true hl,out_of S h _ rfl⟩
  ·cases e
 ·cases e
theorem o_sub:OpR X (binaryOp .Sub) (rO X.K Ξ opSub):=by
 rintro pins s σ H x y v u Q I rx ry ⟨w,dx,dy,rfl,S,hx,hy,h⟩
 obtain ⟨d,e,h⟩:=pur_out h
 unfold subD at e
 split at e
 ·rename_i i j
  cases e;cases hx;cases hy
  exact op_sub pins s σ w.H _ _ v u Q I rx ry ⟨i,j,rfl,rfl,out_of S h _ rfl⟩
 ·cases e
theorem o_mul:OpR X (binaryOp .Mult) (rO X.K Ξ opMul):=by
 rintro pins s σ H x y v u Q I rx ry ⟨w,dx,dy,rfl,S,hx,hy,h⟩
 obtain ⟨d,e,h⟩:=pur_out h
 unfold mulD at e
 split at e
 ·rename_i i j
  split at e
  ·rename_i hm
   cases e;cases hx;cases hy
   refine op_mul pins s σ w.H _ _ v u Q I rx ry ⟨i,j,rfl,rfl,?_,out_of S h _ rfl⟩
   unfold CMul
   simpa [mulOk] using hm
  ·cases e
 ·rename_i xs k
  split at e
  ·rename_i hm
   cases e;cases hy
   simp only [Bool.and_eq_true,decide_eq_true_eq] at hm
   simp only [DV] at hx
   obtain ⟨a,as,rfl,ha,dva⟩:=hx
   have hl:=dva.length
   refine op_repT pins s σ w.H _ _ v u Q I rx ry ⟨a,as,k,rfl,rfl,ha,?_,hm.1.2,by rw [<- hl];exact hm.2,newT S (dva.flat _) h⟩
   intro z
   subst z
   cases xs with
   |nil=>simp at hm
   |cons _ _=>cases hl
  ·cases e
 ·rename_i xs k
  split at e
  ·rename_i hm
   cases e;cases hy
   simp only [Bool.and_eq_true,decide_eq_true_eq] at hm
   simp only [DV] at hx
   obtain ⟨a,as,rfl,ha,dva⟩:=hx
   exact op_rep pins s σ w.H _ _ v u Q I rx ry ⟨a,k,as,rfl,rfl,ha.2,hm.1.1,hm.1.2,by rw [<- dva.length];exact hm.2,newL S (dva.flat _) h⟩
  ·cases e
 ·cases e
theorem o_mod:OpR X (binaryOp .Mod) (rO X.K Ξ opMod):=by
 rintro pins s σ H x y v u Q I rx ry ⟨w,dx,dy,rfl,S,hx,hy,h⟩
 obtain ⟨d,e,h⟩:=pur_out h
 unfold modD at e
 split at e
 ·rename_i i j
  split at e
  ·rename_i hm
   cases e;cases hx;cases hy
   exact op_mod pins s σ w.H _ _ v u Q I rx ry ⟨i,j,rfl,rfl,of_decide_eq_true hm,out_of S h _ rfl⟩
  ·cases e
 ·cases e
theorem o_div:OpR X (binaryOp .FloorDiv) (rO X.K Ξ opDiv):=by
 rintro pins s σ H x y v u Q I rx ry ⟨w,dx,dy,rfl,S,hx,hy,h⟩
 obtain ⟨d,e,h⟩:=pur_out h
 unfold divD at e
 split at e
 ·rename_i i j
  split at e
  ·rename_i hm
   simp only [Bool.and_eq_true,decide_eq_true_eq] at hm
   cases e;cases hx;cases hy
   exact op_fdiv pins s σ w.H _ _ v u Q I rx ry ⟨i,j,rfl,rfl,hm,out_of S h _ rfl⟩
  ·cases e
 ·cases e
theorem o_pow:OpR X (binaryOp .Pow) (rO X.K Ξ opPow):=by
 rintro pins s σ H x y v u Q I rx ry ⟨w,dx,dy,rfl,S,hx,hy,h⟩
 obtain ⟨d,e,h⟩:=pur_out h
 unfold powD at e
 split at e
 ·rename_i i j
  split at e
  ·rename_i hm
   simp only [Bool.and_eq_true,decide_eq_true_eq] at hm
   cases e;cases hx;cases hy
   exact op_pow pins s σ w.H _ _ v u Q I rx ry ⟨i,j,rfl,rfl,⟨hm.1.1,hm.1.2,hm.2⟩,out_of S h _ rfl⟩
  ·cases e
 ·cases e
theorem o_neg:UnR X (unaryOp .USub) (rU X.K Ξ opNeg):=by
 rintro pins s σ H x v Q I rx ⟨w,dx,rfl,S,hx,h⟩
 obtain ⟨d,e,h⟩:=pur_out h
 unfold negD at e
 split at e
 ·rename_i i
  cases e;cases hx
  exact un_neg pins s σ w.H _ v Q I rx ⟨i,rfl,out_of S h _ rfl⟩
 ·cases e
noncomputable def cmpI (p:Int->Int->Bool):D->D->Option D
 | .int i,.int j=>some (.bl (p i j))
 |_,_=>none
noncomputable def opLe (x y:D) (s:Sto):Res D:=pur (cmpI (fun i j=>decide (i<=j)) x y) s
noncomputable def opGt (x y:D) (s:Sto):Res D:=pur (cmpI (fun i j=>decide (j<i)) x y) s
noncomputable def opGe (x y:D) (s:Sto):Res D:=pur (cmpI (fun i j=>decide (j<=i)) x y) s
theorem o_le:OpR X (compareOp .LtE) (rO X.K Ξ opLe):=by
 rintro pins s σ H x y v u Q I rx ry ⟨w,dx,dy,rfl,S,hx,hy,h⟩
 obtain ⟨d,e,h⟩:=pur_out h
 unfold cmpI at e
 split at e
 ·rename_i i j
  cases e;cases hx;cases hy
  exact op_le pins s σ w.H _ _ v u Q I rx ry ⟨i,j,rfl,rfl,out_of S h _ rfl⟩
 ·cases e
theorem o_gt:OpR X (compareOp .Gt) (rO X.K Ξ opGt):=by
 rintro pins s σ H x y v u Q I rx ry ⟨w,dx,dy,rfl,S,hx,hy,h⟩
 obtain ⟨d,e,h⟩:=pur_out h
 unfold cmpI at e
 split at e
 ·rename_i i j
  cases e;cases hx;cases hy
  exact op_gt pins s σ w.H _ _ v u Q I rx ry ⟨i,j,rfl,rfl,out_of S h _ rfl⟩
 ·cases e
theorem o_ge:OpR X (compareOp .GtE) (rO X.K Ξ opGe):=by
 rintro pins s σ H x y v u Q I rx ry ⟨w,dx,dy,rfl,S,hx,hy,h⟩
 obtain ⟨d,e,h⟩:=pur_out h
 unfold cmpI at e
 split at e
 ·rename_i i j
  cases e;cases hx;cases hy
  exact op_ge pins s σ w.H _ _ v u Q I rx ry ⟨i,j,rfl,rfl,out_of S h _ rfl⟩
 ·cases e
noncomputable def ixD (d i:D) (s:Sto):Option D:=match res d s,i with
 | .lst ds,.int i=>atI ds i
 | .tup ds,.int i=>atI ds i
 | .scr ns,.int i=>(atI ns i).map D.int
 | .str x,.int i=>if decide (x.length<=sizeLine)=true then (atI x.cps.toList i).map fun c=>.str ⟨#[c]⟩ else none
 |_,_=>none
noncomputable def opIx (x y:D) (s:Sto):Res D:=pur (ixD x y s) s
theorem DVs.at {K:Frag} {w:Wd} {ds:List D} {vs:List V} {i:Int} {d:D} (h:DVs K w ds vs) (e:atI ds i=some d):∃v,atI vs i=some v/\DV K w d v:=by
 unfold atI at e |-
 rw [h.length] at e
 cases hi:ixN vs.length i with
 |none=>rw [hi] at e;cases e
 |some j =>
  rw [hi] at e
  exact h.get' j d e
theorem x_ix:IxR X (rO X.K Ξ opIx):=by
 rintro value slice pins s σ H x y v u Q I rx ry ⟨w,dx,dy,rfl,S,hx,hy,h⟩ hs
 obtain ⟨d,e,h2⟩:=pur_out h
 clear h
 unfold ixD at e
 split at e
 ·rename_i ds i e1
  cases hy
  obtain ⟨a,xs,rfl,ha,dvs⟩:=res_lst S hx e1
  obtain ⟨z,ez,dz⟩:=dvs.at e
  exact ix_list value slice pins s σ w.H _ _ v u Q I rx ry ⟨a,xs,i,z,rfl,rfl,SqL.of ha,ez,out_of S h2 _ dz⟩ hs
 ·rename_i ds i e1
  cases hy
  rw [res_not e1 (by intro _ z;cases z)] at hx
  simp only [DV] at hx
  obtain ⟨a,xs,rfl,ha,dvs⟩:=hx
  obtain ⟨z,ez,dz⟩:=dvs.at e
  exact ix_tup value slice pins s σ w.H _ _ v u Q I rx ry ⟨a,xs,i,z,rfl,rfl,ha,ez,out_of S h2 _ dz⟩ hs
 ·rename_i ns i e1
  cases hy
  rw [res_not e1 (by intro _ z;cases z)] at hx
  simp only [DV] at hx
  obtain ⟨a,rfl,ha⟩:=hx
  cases hn:atI ns i with
  |none=>rw [hn] at e;cases e
  |some n =>
   rw [hn] at e
   cases e
   refine ix_list value slice pins s σ w.H _ _ v u Q I rx ry ⟨a,ns.map V.int,i,.int n,rfl,rfl,ha.sq,?_,out_of S h2 _ rfl⟩ hs
   unfold atI at hn |-
   rw [List.length_map]
   cases hj:ixN ns.length i with
   |none=>rw [hj] at hn;cases hn
   |some j =>
    rw [hj] at hn
    show (ns.map V.int)[j]?=some (.int n)
    rw [List.getElem?_map,show ns[j]?=some n from hn]
    rfl
 ·rename_i z i e1
  cases hy
  rw [res_not e1 (by intro _ z;cases z)] at hx
  cases hx
  split at e
  ·rename_i hl
   cases hc:atI z.cps.toList i with
   |none=>rw [hc] at e;cases e
   |some c =>
    rw [hc] at e
    cases e
    exact ix_str value slice pins s σ w.H _ _ v u Q I rx ry ⟨z,i,c,rfl,rfl,of_decide_eq_true hl,hc,out_of S h2 _ rfl⟩ hs
  ·cases e
 ·cases e
theorem e_ix {a b:Expr} {pos:Pos} {f g:Env->Sto->Res D} (ha:PE X a (tE X.K Ξ f)) (hb:PE X b (tE X.K Ξ g)) (hs:PlainIx b:=by intro _ _;rfl):PE X (.Subscript a b pos) (tE X.K Ξ (e2 opIx f g)):=pe_imp (pe_ix x_ix ha hb hs) two_imp
noncomputable def lenD (d:D) (s:Sto):Option D:=match res d s with
 | .lst ds=>some (.int ds.length)
 | .tup ds=>some (.int ds.length)
 | .scr ns=>some (.int ns.length)
 | .str x=>if decide (x.length<=sizeLine)=true then some (.int x.length) else none
 |_=>none
noncomputable def bLen (ds:List D) (s:Sto):Res D:=match ds with
 | [d]=>pur (lenD d s) s
 |_=>none
theorem one_of {K:Frag} {w:Wd} {d:D} {vs:List V} (h:DVs K w [d] vs):∃v,vs=[v]/\DV K w d v:=by
 obtain ⟨v,r,rfl,dv,dr⟩:=h
 have e:r=[]:=dr
 subst e
 exact ⟨v,rfl,dv⟩
theorem two_of {K:Frag} {w:Wd} {d e:D} {vs:List V} (h:DVs K w [d,e] vs):∃v u,vs=[v,u]/\DV K w d v/\DV K w e u:=by
 obtain ⟨v,r,rfl,dv,h⟩:=h
 obtain ⟨u,rfl,du⟩:=one_of h
 exact ⟨v,u,rfl,dv,du⟩
theorem c_len:CallR X (.builtin "len") (rC X.K Ξ bLen):=by
 rintro pins s σ H xs us Q I r ⟨w,ds,rfl,S,dvs,h⟩
 unfold bLen at h
 split at h
 ·obtain ⟨v,rfl,dv⟩:=one_of dvs
  obtain ⟨d,e,h⟩:=pur_out h
  unfold lenD at e
  split at e
  ·rename_i ys e1
   cases e
   obtain ⟨a,xs,rfl,ha,dvs⟩:=res_lst S dv e1
   exact call_len_seq pins s σ w.H _ us Q I r ⟨a,xs,rfl,.inl (SqL.of ha),by rw [<- dvs.length];exact out_of S h _ rfl⟩
  ·rename_i ys e1
   cases e
   rw [res_not e1 (by intro _ z;cases z)] at dv
   simp only [DV] at dv
   obtain ⟨a,xs,rfl,ha,dvs⟩:=dv
   exact call_len_seq pins s σ w.H _ us Q I r ⟨a,xs,rfl,.inr ha,by rw [<- dvs.length];exact out_of S h _ rfl⟩
  ·rename_i ns e1
   cases e
   rw [res_not e1 (by intro _ z;cases z)] at dv
   simp only [DV] at dv
   obtain ⟨a,rfl,ha⟩:=dv
   exact call_len_seq pins s σ w.H _ us Q I r ⟨a,ns.map V.int,rfl,.inl ha.sq,by rw [List.length_map];exact out_of S h _ rfl⟩
  ·rename_i z e1
   rw [res_not e1 (by intro _ z;cases z)] at dv
   cases dv
   split at e
   ·rename_i hl
    cases e
    exact call_len_str pins s σ w.H _ us Q I r ⟨z,rfl,of_decide_eq_true hl,out_of S h _ rfl⟩
   ·cases e
  ·cases e
 ·exact h.elim
noncomputable def bls:List D->Option (List Bool)
 | []=>some []
 | .bl b::ds=>(bls ds).map fun r=>b::r
 |_::_=>none
theorem bls_of:∀{ds:List D} {bs:List Bool},bls ds=some bs->ds=bs.map D.bl
 | [],bs,h=>by cases h;rfl
 | .bl b::ds,bs,h=>by
  simp only [bls] at h
  cases hd:bls ds with
  |none=>rw [hd] at h;cases h
  |some r=>rw [hd] at h;cases h;rw [bls_of hd];rfl
 | .non::_,_,h=>by cases h
 | .int _::_,_,h=>by cases h
 | .str _::_,_,h=>by cases h
 | .tup _::_,_,h=>by cases h
 | .lst _::_,_,h=>by cases h
 | .dct _::_,_,h=>by cases h
 | .han _::_,_,h=>by cases h
 | .ty _::_,_,h=>by cases h
 | .scr _::_,_,h=>by cases h
theorem bls_map {bs:List Bool}:bls (bs.map D.bl)=some bs:=by
 induction bs with
 |nil=>rfl
 |cons b bs ih=>simp only [List.map_cons,bls,ih,Option.map_some]
noncomputable def bAll (ds:List D) (s:Sto):Res D:=match ds with
 | [d]=>match res d s with
  | .lst es=>pur ((bls es).map fun bs=>.bl (bs.all id)) s
  |_=>none
 |_=>none
noncomputable def bAny (ds:List D) (s:Sto):Res D:=match ds with
 | [d]=>match res d s with
  | .lst es=>pur ((bls es).map fun bs=>.bl (bs.any id)) s
  |_=>none
 |_=>none
theorem c_all (hc:X.calm=true):CallR X (.builtin "all") (rC X.K Ξ bAll):=by
 rintro pins s σ H xs us Q I r ⟨w,ds,rfl,S,dvs,h⟩
 unfold bAll at h
 split at h
 ·obtain ⟨v,rfl,dv⟩:=one_of dvs
  split at h
  ·rename_i es e1
   obtain ⟨d,e,h⟩:=pur_out h
   cases hb:bls es with
   |none=>rw [hb] at e;cases e
   |some bs =>
    rw [hb] at e
    cases e
    obtain ⟨a,xs,rfl,ha,dvs⟩:=res_lst S dv e1
    rw [bls_of hb] at dvs
    rw [dvs.bls_inv] at ha
    exact call_all hc pins s σ w.H _ us Q I r ⟨a,bs,rfl,SqL.of ha,out_of S h _ rfl⟩
  ·exact h.elim
 ·exact h.elim
theorem c_any (hc:X.calm=true):CallR X (.builtin "any") (rC X.K Ξ bAny):=by
 rintro pins s σ H xs us Q I r ⟨w,ds,rfl,S,dvs,h⟩
 unfold bAny at h
 split at h
 ·obtain ⟨v,rfl,dv⟩:=one_of dvs
  split at h
  ·rename_i es e1
   obtain ⟨d,e,h⟩:=pur_out h
   cases hb:bls es with
   |none=>rw [hb] at e;cases e
   |some bs =>
    rw [hb] at e
    cases e
    obtain ⟨a,xs,rfl,ha,dvs⟩:=res_lst S dv e1
    rw [bls_of hb] at dvs
    rw [dvs.bls_inv] at ha
    exact call_any hc pins s σ w.H _ us Q I r ⟨a,bs,rfl,SqL.of ha,out_of S h _ rfl⟩
  ·exact h.elim
 ·exact h.elim
noncomputable def bMax2 (ds:List D) (s:Sto):Res D:=match ds with
 | [.int i,.int j]=>ok (.int (if j > i then j else i)) s
 |_=>none
noncomputable def bMin2 (ds:List D) (s:Sto):Res D:=match ds with
 | [.int i,.int j]=>ok (.int (if j<i then j else i)) s
 |_=>none
theorem c_max2 (hc:X.calm=true):CallR X (.builtin "max") (rC X.K Ξ bMax2):=by
 rintro pins s σ H xs us Q I r ⟨w,ds,rfl,S,dvs,h⟩
 unfold bMax2 at h
 split at h
 ·rename_i i j
  obtain ⟨v,u,rfl,dv,du⟩:=two_of dvs
  cases dv;cases du
  exact call_max2 hc pins s σ w.H _ us Q I r ⟨i,j,rfl,out_of S h _ rfl⟩
 ·exact h.elim
theorem c_min2 (hc:X.calm=true):CallR X (.builtin "min") (rC X.K Ξ bMin2):=by
 rintro pins s σ H xs us Q I r ⟨w,ds,rfl,S,dvs,h⟩
 unfold bMin2 at h
 split at h
 ·rename_i i j
  obtain ⟨v,u,rfl,dv,du⟩:=two_of dvs
  cases dv;cases du
  exact call_min2 hc pins s σ w.H _ us Q I r ⟨i,j,rfl,out_of S h _ rfl⟩
 ·exact h.elim
noncomputable def bTuple (ds:List D) (s:Sto):Res D:=match ds with
 | [d]=>match res d s with
  | .lst es=>ok (.tup es) s
  | .tup es=>ok (.tup es) s
  |_=>none
 |_=>none
theorem c_tuple:CallR X (.type "tuple") (rC X.K Ξ bTuple):=by
 rintro pins s σ H xs us Q I r ⟨w,ds,rfl,S,dvs,h⟩
 unfold bTuple at h
 split at h
 ·obtain ⟨v,rfl,dv⟩:=one_of dvs
  split at h
  ·rename_i es e1
   obtain ⟨a,xs,rfl,ha,dvs⟩:=res_lst S dv e1
   exact call_tuple_of pins s σ w.H _ us Q I r ⟨a,xs,rfl,.inl ⟨SqL.of ha,newTup S dvs h⟩⟩
  ·rename_i es e1
   rw [res_not e1 (by intro _ z;cases z)] at dv
   have dv':=dv
   simp only [DV] at dv
   obtain ⟨a,xs,rfl,ha,dvs⟩:=dv
   exact call_tuple_of pins s σ w.H _ us Q I r ⟨a,xs,rfl,.inr ⟨ha,out_of S h _ dv'⟩⟩
  ·exact h.elim
 ·exact h.elim
noncomputable def bList (ds:List D) (s:Sto):Res D:=match ds with
 | [d]=>match res d s with
  | .lst es=>ok (.lst es) s
  | .tup es=>ok (.lst es) s
  |_=>none
 |_=>none
theorem c_list:CallR X (.type "list") (rC X.K Ξ bList):=by
 rintro pins s σ H xs us Q I r ⟨w,ds,rfl,S,dvs,h⟩
 unfold bList at h
 split at h
 ·obtain ⟨v,rfl,dv⟩:=one_of dvs
  split at h
  ·rename_i es e1
   obtain ⟨a,xs,rfl,ha,dvs⟩:=res_lst S dv e1
   exact call_list_of pins s σ w.H _ us Q I r ⟨a,xs,rfl,.inl (SqL.of ha),newL S dvs h⟩
  ·rename_i es e1
   rw [res_not e1 (by intro _ z;cases z)] at dv
   simp only [DV] at dv
   obtain ⟨a,xs,rfl,ha,dvs⟩:=dv
   exact call_list_of pins s σ w.H _ us Q I r ⟨a,xs,rfl,.inr ha,newL S dvs h⟩
  ·exact h.elim
 ·exact h.elim
end
end DI
namespace DI
open PySem L2
noncomputable def laysD (n:Nat) (x:D) (ds:List D):Bool:=lay x&&lays ds&&decide (dep x<=n)
noncomputable def inD (x:D) (ds:List D):Option Bool:=if laysD 100 x ds=true then some (ds.any fun y=>beq y x) else none
noncomputable def seqOf (d:D) (s:Sto):Option (List D):=match res d s with
 | .lst ds=>some ds
 | .tup ds=>some ds
 |_=>none
noncomputable def opIn (x y:D) (s:Sto):Res D:=match seqOf y s with
 |some ds=>pur ((inD x ds).map D.bl) s
 |none=>none
noncomputable def opNotIn (x y:D) (s:Sto):Res D:=match seqOf y s with
 |some ds=>pur ((inD x ds).map fun b=>D.bl (!b)) s
 |none=>none
theorem seqOf_of {K:Frag} {w:Wd} {d:D} {v:V} {ds:List D} (S:StoOk K w) (h:DV K w d v) (e:seqOf d w.sto=some ds):∃a xs,v=.ref a/\(w.H a=some (.lst xs)\/SqT K w.H a xs)/\DVs K w ds xs:=by
 unfold seqOf at e
 split at e
 ·rename_i es e1
  cases e
  obtain ⟨a,xs,rfl,ha,dvs⟩:=res_lst S h e1
  exact ⟨a,xs,rfl,.inl ha,dvs⟩
 ·rename_i es e1
  cases e
  rw [res_not e1 (by intro _ z;cases z)] at h
  simp only [DV] at h
  obtain ⟨a,xs,rfl,ha,dvs⟩:=h
  exact ⟨a,xs,rfl,.inr ha,dvs⟩
 ·cases e
section
variable {X:Cx} {Ξ:Wd->Exn->Prop} {pins:List (Addr×Obj)} {σ:St} {s:Shared}
theorem any_py {x:D} (lx:lay x=true):∀{ds:List D},lays ds=true->((pys ds).any fun y=>PyData.eqv y (py x))=ds.any fun y=>beq y x
 | [],_=>rfl
 |d::ds,h=>by
  simp only [lays,Bool.and_eq_true] at h
  simp only [pys,List.any_cons,beq_py d x h.1 lx,any_py lx h.2]
theorem inD_of {x:D} {ds:List D} {b:Bool} (h:inD x ds=some b):lay x=true/\lays ds=true/\dep x<=100/\(ds.any fun y=>beq y x)=b:=by
 unfold inD laysD at h
 split at h
 ·rename_i hl
  simp only [Bool.and_eq_true,decide_eq_true_eq] at hl
  exact ⟨hl.1.1,hl.1.2,hl.2,Option.some.inj h⟩
 ·cases h
theorem o_in {k:Nat} (hr:Room k X.A):OpR X (compareOp .In) (rO X.K Ξ opIn):=by
 rintro pins s σ H x y v u Q I rx ry ⟨w,dx,dy,rfl,S,hx,hy,h⟩
 unfold opIn at h
 split at h
 ·rename_i ds hd
  obtain ⟨d,e,h⟩:=pur_out h
  cases hb:inD dx ds with
  |none=>rw [hb] at e;cases e
  |some b =>
   rw [hb] at e
   cases e
   obtain ⟨l1,l2,l3,l4⟩:=inD_of hb
   obtain ⟨p1,p2⟩:=lay_py _ l1
   obtain ⟨q1,q2⟩:=lays_pys _ l2
   obtain ⟨bs,rd⟩:=(hx.py (lay_plain _ l1)).reads I rx
   have hu:X.A.units+1+min (PyData.depthAll (pys ds)) (py dx).depth<cLine:=by
    have:=hr.un
    rw [p2]
    omega
   obtain ⟨a,xs,rfl,ha,dvs⟩:=seqOf_of S hy hd
   have fin:EP X pins σ Q (.bool ((pys ds).any fun y=>PyData.eqv y (py dx))) s:=⟨.bl b,w.H,I,by rw [any_py l1 l2,l4];rfl,out_of S h _ rfl⟩
   rcases ha with ha|ha
   ·obtain ⟨cs,rc⟩:=(show L2.DV X.K (fun _=>False) w.H (.list (pys ds)) (.ref a) by simp only [L2.DV];exact ⟨a,xs,rfl,not_false,ha,dvs.py (lays_plains _ l2)⟩).reads I ry
    exact SeqAt.in_list_reads rc rd q1 p1 hu fin
   ·obtain ⟨cs,rc⟩:=(show L2.DV X.K (fun _=>False) w.H (.tuple (pys ds)) (.ref a) by simp only [L2.DV];exact ⟨a,xs,rfl,ha,dvs.py (lays_plains _ l2)⟩).reads I ry
    exact SeqAt.in_tuple_reads rc rd q1 p1 hu fin
 ·exact h.elim
theorem o_notIn {k:Nat} (hr:Room k X.A):OpR X (compareOp .NotIn) (rO X.K Ξ opNotIn):=by
 rintro pins s σ H x y v u Q I rx ry ⟨w,dx,dy,rfl,S,hx,hy,h⟩
 unfold opNotIn at h
 split at h
 ·rename_i ds hd
  obtain ⟨d,e,h⟩:=pur_out h
  cases hb:inD dx ds with
  |none=>rw [hb] at e;cases e
  |some b =>
   rw [hb] at e
   cases e
   obtain ⟨l1,l2,l3,l4⟩:=inD_of hb
   obtain ⟨p1,p2⟩:=lay_py _ l1
   obtain ⟨q1,q2⟩:=lays_pys _ l2
   obtain ⟨bs,rd⟩:=(hx.py (lay_plain _ l1)).reads I rx
   have hu:X.A.units+1+min (PyData.depthAll (pys ds)) (py dx).depth<cLine:=by
    have:=hr.un
    rw [p2]
    omega
   obtain ⟨a,xs,rfl,ha,dvs⟩:=seqOf_of S hy hd
   have fin:EP X pins σ Q (.bool (!(pys ds).any fun y=>PyData.eqv y (py dx))) s:=⟨.bl (!b),w.H,I,by rw [any_py l1 l2,l4];rfl,out_of S h _ rfl⟩
   rcases ha with ha|ha
   ·obtain ⟨cs,rc⟩:=(show L2.DV X.K (fun _=>False) w.H (.list (pys ds)) (.ref a) by simp only [L2.DV];exact ⟨a,xs,rfl,not_false,ha,dvs.py (lays_plains _ l2)⟩).reads I ry
    exact SeqAt.notIn_list_reads rc rd q1 p1 hu fin
   ·obtain ⟨cs,rc⟩:=(show L2.DV X.K (fun _=>False) w.H (.tuple (pys ds)) (.ref a) by simp only [L2.DV];exact ⟨a,xs,rfl,ha,dvs.py (lays_plains _ l2)⟩).reads I ry
    exact SeqAt.notIn_tuple_reads rc rd q1 p1 hu fin
 ·exact h.elim
noncomputable def tP (K:Frag) (Ξ:Wd->Exn->Prop) (f:Env->Sto->Res (Option Int)):TO:=fun σ H Q=>∃w env,w.H=H/\StoOk K w/\EnvOk K w env σ/\Out K Ξ w (f env w.sto) fun w' i=>Q i w'.H
noncomputable def pNo:Env->Sto->Res (Option Int):=fun _ s=>ok none s
noncomputable def pInt (f:Env->Sto->Res D):Env->Sto->Res (Option Int):=fun env s=>bnd (f env s) fun d s=>match d with
 | .int i=>ok (some i) s
 |_=>none
variable {e a b:Expr} {lo hi:Option Expr} {pos p2 p3 p4:Pos} {f g:Env->Sto->Res D}
theorem po_imp {lo:Option Expr} {t t':TO} (h:PO X lo t) (i:∀ σ H Q,t' σ H Q->t σ H Q):PO X lo t':=fun pins s σ H Q I hq=>h pins s σ H Q I (i σ H Q hq)
theorem p_no:PO X none (tP X.K Ξ pNo):=po_imp po_none fun σ H Q hh_=>by
 obtain ⟨w,env,eH,S,eo,h⟩:=hh_
 subst eH
 exact out_of S h
theorem p_int (he:PE X e (tE X.K Ξ f)):PO X (some e) (tP X.K Ξ (pInt f)):=po_imp (po_some he) fun σ H Q hh_=>by
 obtain ⟨w,env,eH,S,eo,h⟩:=hh_
 subst eH
 refine ⟨w,env,rfl,S,eo,(Out.bnd h).mono fun w1 d l1 S1 h1 v dv=>?_⟩
 cases d with
 |int i=>exact ⟨i,dv,out_of S1 h1⟩
 |_=>exact h1.elim
noncomputable def cutD (xs:List D) (lo hi:Option Int):List D:=(xs.drop (HT.sIx xs.length 0 lo)).take (HT.sIx xs.length xs.length hi-HT.sIx xs.length 0 lo)
noncomputable def sliceD (d:D) (lo hi:Option Int) (s:Sto):Res D:=match res d s with
 | .tup ds=>ok (.tup (cutD ds lo hi)) s
 | .lst ds=>ok (.lst (cutD ds lo hi)) s
 |_=>none
noncomputable def eSl (f:Env->Sto->Res D) (l h:Env->Sto->Res (Option Int)):Env->Sto->Res D:=fun env s=>bnd (f env s) fun d s=>bnd (l env s) fun lo s=>bnd (h env s) fun hi s=>sliceD d lo hi s
noncomputable def rSl (K:Frag) (Ξ:Wd->Exn->Prop):V->Option Int->Option Int->Hp->VK->Prop:=fun x lo hi H Q=>∃w dx,w.H=H/\StoOk K w/\DV K w dx x/\Out K Ξ w (sliceD dx lo hi w.sto) fun w' d=>∀v,DV K w' d v->Q v w'.H
theorem sl_seq:SlR X (rSl X.K Ξ):=by
 rintro pins s σ H x v vl vu lo hi sl Q I rx hs pl pu ⟨w,dx,rfl,S,hx,h⟩
 unfold sliceD at h
 split at h
 ·rename_i ds e1
  rw [res_not e1 (by intro _ z;cases z)] at hx
  simp only [DV] at hx
  obtain ⟨a,xs,rfl,ha,dvs⟩:=hx
  refine sl_tupG pins s σ w.H _ v vl vu lo hi sl Q I rx hs pl pu ⟨a,xs,rfl,ha,newT S ?_ h⟩
  unfold cutD cutV
  rw [dvs.length]
  exact (dvs.drop _).take _
 ·rename_i ds e1
  obtain ⟨a,xs,rfl,ha,dvs⟩:=res_lst S hx e1
  refine sl_list pins s σ w.H _ v vl vu lo hi sl Q I rx hs pl pu ⟨a,xs,rfl,SqL.of ha,newL S ?_ h⟩
  unfold cutD cutV
  rw [dvs.length]
  exact (dvs.drop _).take _
 ·exact h.elim
theorem e_sl {fl fh:Env->Sto->Res (Option Int)} (he:PE X e (tE X.K Ξ f)) (hl:PO X lo (tP X.K Ξ fl)) (hu:PO X hi (tP X.K Ξ fh)):PE X (.Subscript e (.Slice lo hi none p2) pos) (tE X.K Ξ (eSl f fl fh)) :=
 pe_imp (pe_slice sl_seq he hl hu) fun σ H Q hh_=>by
  obtain ⟨w,env,eH,S,eo,h⟩:=hh_
  subst eH
  exact ⟨w,env,rfl,S,eo,(Out.bnd h).mono fun w1 d l1 S1 h1 v dv=>⟨w1,env,rfl,S1,eo.le l1,(Out.bnd h1).mono fun w2 i l2 S2 h2=>⟨w2,env,rfl,S2,eo.le (l1.trans l2),(Out.bnd h2).mono fun w3 j l3 S3 h3=>⟨w3,d,rfl,S3,(l2.trans l3) _ _ dv,h3⟩⟩⟩⟩
noncomputable def appD (d x:D) (s:Sto):Res D:=match d with
 | .han k=>match s[k]? with
  |some (.lst ds)=>if decide (ds.length<sizeLine)=true then ok .non (s.set k (.lst (ds++[x]))) else none
  |_=>none
 |_=>none
noncomputable def lstH (d:D) (s:Sto):Bool:=match d with
 | .han k=>match s[k]? with
  |some (.lst _)=>true
  |_=>false
 |_=>false
noncomputable def eApp (f g:Env->Sto->Res D):Env->Sto->Res D:=fun env s=>bnd (f env s) fun d s=>if lstH d s=true then bnd (g env s) fun x s=>appD d x s else none
theorem lstH_of {K:Frag} {w:Wd} {d:D} {v:V} (S:StoOk K w) (dv:DV K w d v) (h:lstH d w.sto=true):∃k a ds xs,d=.han k/\v=.ref a/\w.ρ[k]?=some a/\w.sto[k]?=some (.lst ds)/\w.H a=some (.lst xs)/\DVs K w ds xs:=by
 unfold lstH at h
 split at h
 ·rename_i k
  split at h
  ·rename_i ds hk
   obtain ⟨a,e1,rfl⟩:=dv
   obtain ⟨xs,q1,q2⟩:=S.cell k a _ e1 hk
   exact ⟨k,a,ds,xs,rfl,rfl,e1,hk,q1,q2⟩
  ·cases h
 ·cases h
theorem app_of {K:Frag} {w:Wd} {d y:D} {v u:V} {q:Wd->D->Prop} (S:StoOk K w) (dv:DV K w d v) (du:DV K w y u) (h:Out K Ξ w (appD d y w.sto) q):∃a xs,v=.ref a/\w.H a=some (.lst xs)/\xs.length<sizeLine/\∃w',w'.H=upd w.H a (.lst (xs++[u]))/\q w' .non:=by
 unfold appD at h
 split at h
 ·rename_i k
  split at h
  ·rename_i ds hk
   split at h
   ·rename_i hl
    obtain ⟨a,e1,rfl⟩:=dv
    obtain ⟨xs,q1,q2⟩:=S.cell k a _ e1 hk
    have nd:(Cell.lst ds)≠.dead:=by intro z;cases z
    have le:=(Fw.put (K:=K) (o:=.lst (xs++[u])) (c:=.lst (ds++[y])) S e1 hk nd).le
    refine ⟨a,xs,rfl,q1,by rw [<- q2.length];exact of_decide_eq_true hl,w.put k a (.lst (xs++[u])) (.lst (ds++[y])),rfl,?_⟩
    exact h _ le (S.putw e1 hk nd ⟨_,upd_same,le.all (q2.append (DVs.one du))⟩) rfl
   ·exact h.elim
  ·exact h.elim
 ·exact h.elim
theorem e_app {o:Expr} {apos cpos:Pos} (ho:PE X o (tE X.K Ξ f)) (ha:PE X a (tE X.K Ξ g))
  (hbase:attributeBase o "append" X.env (eval o X.env)=eval o X.env:=by rfl)
  (hfew:((backTo cpos (starEach [a] X.env)).all (fun x=>!x.1)&&(backToKw cpos (keywordEach [] X.env)).all (fun x=>x.1.isSome)
   && decide (([a]:List Expr).length+([]:List Keyword).length+(if ([]:List Keyword).isEmpty then 0 else 1)<30))=true:=by rfl)
  (hline:(apos.endLine==cpos.line)=true:=by rfl) (hs:starEach [a] X.env=(false,eval a X.env)::starEach [] X.env:=by rfl) (hplain:(backTo cpos (starEach [] X.env)).any (·.1)=false:=by rfl) :
  PE X (.Call (.Attribute o "append" apos) [a] [] cpos) (tE X.K Ξ (eApp f g)) :=
 pe_imp (pe_bm PySem.F.plainAttrs_list PySem.F.slot_list_append PySem.F.type_list_append mt_append ho (pa_cons ha pa_nil hs) hbase hfew hline hs hplain) fun σ H Q hh_=>by
  obtain ⟨w,env,eH,S,eo,h⟩:=hh_
  subst eH
  refine ⟨w,env,rfl,S,eo,(Out.bnd h).mono fun w1 d l1 S1 h1 v dv=>?_⟩
  split at h1
  ·rename_i hl
   obtain ⟨k,p,ds,xs,rfl,rfl,e1,e2,e3,e4⟩:=lstH_of S1 dv hl
   refine ⟨.inl ⟨rfl,xs,SqL.of e3⟩,w1,env,rfl,S1,eo.le l1,(Out.bnd h1).mono fun w2 y l2 S2 h2 u du=>?_⟩
   obtain ⟨a',ys,ea,q1,q2,w3,eH,q3⟩:=app_of S2 (l2 _ _ dv) du h2
   refine ⟨a',ys,u,ea,rfl,q1,q2,?_⟩
   rw [<- eH]
   exact q3 _ rfl
  ·exact h1.elim
noncomputable def setD (d i x:D) (s:Sto):Option Sto:=match d,i with
 | .han k,.int n=>match s[k]? with
  |some (.lst ds)=>(ixN ds.length n).map fun j=>s.set k (.lst (ds.set j x))
  |_=>none
 |_,_=>none
noncomputable def sSub (f o i:Env->Sto->Res D):Env->Sto->Res Fl:=fun env s=>bnd (f env s) fun x s=>bnd (o env s) fun d s=>bnd (i env s) fun n s=>match setD d n x s with
 |some s'=>ok (.nx env) s'
 |none=>none
theorem set_of {K:Frag} {w:Wd} {d i x:D} {v n u:V} {s':Sto} (S:StoOk K w) (dv:DV K w d v) (dn:DV K w i n) (du:DV K w x u) (h:setD d i x w.sto=some s'):∃a xs k j,v=.ref a/\n=.int k/\w.H a=some (.lst xs)/\ixN xs.length k=some j/\∃w',w'.H=upd w.H a (.lst (xs.set j u))/\w'.sto=s'/\Le K w w'/\StoOk K w':=by
 unfold setD at h
 split at h
 ·rename_i k m
  split at h
  ·rename_i ds hk
   cases hj:ixN ds.length m with
   |none=>rw [hj] at h;cases h
   |some j =>
    rw [hj] at h
    cases h
    obtain ⟨a,e1,rfl⟩:=dv
    obtain ⟨xs,q1,q2⟩:=S.cell k a _ e1 hk
    have nd:(Cell.lst ds)≠.dead:=by intro z;cases z
    have le:=(Fw.put (K:=K) (o:=.lst (xs.set j u)) (c:=.lst (ds.set j x)) S e1 hk nd).le
    exact ⟨a,xs,m,j,rfl,dn,q1,by rw [<- q2.length];exact hj,w.put k a (.lst (xs.set j u)) (.lst (ds.set j x)),rfl,rfl,le,S.putw e1 hk nd ⟨_,upd_same,le.all (q2.set du j)⟩⟩
  ·cases h
 ·cases h
theorem s_sub {o i:Expr} {spos:Pos} {fo fi:Env->Sto->Res D} (he:PE X e (tE X.K Ξ f)) (ho:PE X o (tE X.K Ξ fo)) (hi:PE X i (tE X.K Ξ fi))
  (ha:∀v,assign (.Subscript o i spos) X.env v=(do
   let ov <- holding [v] (eval o X.env)
   let iv <- holding [v,ov] (eval i X.env)
   standAt spos
   holding [v,ov,iv] (setItem ov iv v)
   release [v,ov,iv] []):=by intro _;rfl)
  (hs:swapsWithSole [.Subscript o i spos] e pos.line X.env=pure false:=by rfl) (hw:swappedStores [.Subscript o i spos] e X.env=pure none:=by rfl)
  (h1:(assignEach [.Subscript o i spos] X.env).map (·.2)=[assign (.Subscript o i spos) X.env]:=by rfl):PS X (.Assign [.Subscript o i spos] e pos) (tS X.K Ξ (sSub f fo fi)) :=
 ps_imp (ps_asg he (pg_sub ho hi set_list ha) hs hw h1) fun D0 σ H hh_=>by
  obtain ⟨w,env,eH,S,eo,h⟩:=hh_
  subst eH
  refine ⟨w,env,rfl,S,eo,(Out.bnd h).mono fun w1 x l1 S1 h1 u du=>?_⟩
  refine ⟨w1,env,rfl,S1,eo.le l1,(Out.bnd h1).mono fun w2 d l2 S2 h2 v dv=>?_⟩
  refine ⟨w2,env,rfl,S2,eo.le (l1.trans l2),(Out.bnd h2).mono fun w3 n l3 S3 h3 m dm=>?_⟩
  cases hd:setD d n x w3.sto with
  |none=>rw [hd] at h3;exact h3.elim
  |some s' =>
   rw [hd] at h3
   obtain ⟨a,xs,k,j,e1,e2,q1,q2,w4,eH,es,le,S4⟩:=set_of S3 (l3 _ _ dv) dm ((l2.trans l3) _ _ du) hd
   refine ⟨a,xs,k,j,e1,e2,q1,q2,?_⟩
   rw [<- eH]
   exact h3 w4 le S4 es σ (eo.le (l1.trans (l2.trans (l3.trans le))))
end
end DI
namespace DI
open PySem L2
noncomputable def kd (d:D) (s:Sto):Option Kn:=match res d s with
 | .non=>some .non
 | .bl _=>some .bl
 | .int _=>some .int
 | .str _=>some .str
 | .tup _=>some .tup
 | .lst _=>some .lst
 | .dct _=>some .dct
 |_=>none
theorem kd_of {K:Frag} {w:Wd} {d:D} {v:V} {k:Kn} (S:StoOk K w) (h:DV K w d v) (e:kd d w.sto=some k):KdV K w.H v k:=by
 unfold kd at e
 split at e<;>rename_i e1<;>first | (cases e;done) | (try cases e)
 ·rw [res_not e1 (by intro _ z;cases z)] at h;cases h;trivial
 ·rw [res_not e1 (by intro _ z;cases z)] at h;cases h;trivial
 ·rw [res_not e1 (by intro _ z;cases z)] at h;cases h;trivial
 ·rw [res_not e1 (by intro _ z;cases z)] at h;cases h;trivial
 ·rw [res_not e1 (by intro _ z;cases z)] at h
  simp only [DV] at h
  obtain ⟨a,xs,rfl,ha,_⟩:=h
  exact ⟨xs,ha⟩
 ·obtain ⟨a,xs,rfl,ha,_⟩:=res_lst S h e1
  exact ⟨xs,SqL.of ha⟩
 ·rw [res_not e1 (by intro _ z;cases z)] at h
  simp only [DV] at h
  obtain ⟨a,rfl,_,ha⟩:=h
  exact ⟨_,ha⟩
noncomputable def isiOk (T:String):Bool:=T=="int"||T=="bool"||T=="str"||T=="tuple"||T=="list"
noncomputable def bIsi (ds:List D) (s:Sto):Res D:=match ds with
 | [d,.ty T]=>if isiOk T=true then pur ((kd d s).map fun k=>.bl (isiK k T)) s else none
 |_=>none
section
variable {X:Cx} {Ξ:Wd->Exn->Prop} {e a b:Expr} {es:List Expr} {pos:Pos} {f g:Env->Sto->Res D} {fa:Env->Sto->Res (List D)}
theorem c_isi:CallR X (.builtin "isinstance") (rC X.K Ξ bIsi):=by
 rintro pins s σ H xs us Q I r ⟨w,ds,rfl,S,dvs,h⟩
 unfold bIsi at h
 split at h
 ·rename_i d T
  obtain ⟨v,u,rfl,dv,du⟩:=two_of dvs
  have eu:u=.ty T:=du
  subst eu
  split at h
  ·rename_i hT
   obtain ⟨d',e,h⟩:=pur_out h
   cases hk:kd d w.sto with
   |none=>rw [hk] at e;cases e
   |some k =>
    rw [hk] at e
    cases e
    have hkv:=kd_of S dv hk
    simp only [isiOk,Bool.or_eq_true,beq_iff_eq] at hT
    rcases hT with (((rfl|rfl)|rfl)|rfl)|rfl
    ·exact call_isi_int pins s σ w.H _ us Q I r ⟨v,k,rfl,hkv,out_of S h _ rfl⟩
    ·exact call_isi_bool pins s σ w.H _ us Q I r ⟨v,k,rfl,hkv,out_of S h _ rfl⟩
    ·exact call_isi_str pins s σ w.H _ us Q I r ⟨v,k,rfl,hkv,out_of S h _ rfl⟩
    ·exact call_isi_tuple pins s σ w.H _ us Q I r ⟨v,k,rfl,hkv,out_of S h _ rfl⟩
    ·exact call_isi_list pins s σ w.H _ us Q I r ⟨v,k,rfl,hkv,out_of S h _ rfl⟩
  ·exact h.elim
 ·exact h.elim
theorem e_ty {x:Str} {T:String} (hv:bootBuiltins x=some (.type T)) (hg:Gl X x) (hm:X.mg x=none) (hn:x≠"__name__":=by decide) (hd:(x==("__debug__":Str))=false:=by decide):PE X (.Name x pos) (tE X.K Ξ (eC (.ty T))):=e_con (v:=.ty T) (pe_bltn hg hm hv rfl hn hd) fun _=>rfl
theorem e_gi {x:Str} {i:Int} (g:∃t,X.mg x=some (.int i t)) (hg:Gl X x) (hd:(x==("__debug__":Str))=false:=by decide):PE X (.Name x pos) (tE X.K Ξ (eC (.int i))):=by
 obtain ⟨t,e⟩:=g
 exact e_con (v:=.int i) (pe_glob hg e ⟨t,rfl⟩ hd) fun _=>rfl
noncomputable def isTL (d:D) (s:Sto):Res D:=pur ((kd d s).map fun k=>.bl (decide (k=.tup)||decide (k=.lst))) s
noncomputable def repOk (d:D):Bool:=plain d&&(py d).showable&&(!(py d).hasDict||(match py d with | .tuple ds=>noLs ds | .dict _=>true | _=>false))&&decide ((py d).depth<=100)&&decide ((py d).shown.length<=sizeLine)
noncomputable def bRepr (ds:List D) (s:Sto):Res D:=match ds with
 | [d]=>if repOk (res d s)=true then ok (.str (py (res d s)).shown) s else none
 |_=>none
theorem c_repr {k:Nat} (hr:Room k X.A):CallR X (.builtin "repr") (rC X.K Ξ bRepr):=by
 rintro pins s σ H xs us Q I r ⟨w,ds,rfl,S,dvs,h⟩
 unfold bRepr at h
 split at h
 ·rename_i d
  obtain ⟨v,rfl,dv⟩:=one_of dvs
  split at h
  ·rename_i hk
   simp only [repOk,Bool.and_eq_true,decide_eq_true_eq] at hk
   obtain ⟨⟨⟨⟨h1,h2⟩,h3⟩,h4⟩,h5⟩:=hk
   have dp:=dv.res S h1
   have fin:=out_of S h _ rfl
   generalize hp:py (res d w.sto)=P at *
   cases P with
   |tuple ps =>
    refine call_reprT hr pins s σ w.H _ us Q I r ⟨v,ps,_,rfl,dp,h2,?_,h4,h5,fin⟩
    simpa using h3
   |dict kvs=>exact call_repr hr pins s σ w.H _ us Q I r ⟨v,_,_,rfl,dp,h2,.inr rfl,h4,h5,fin⟩
   |_ =>
    refine call_repr hr pins s σ w.H _ us Q I r ⟨v,_,_,rfl,dp,h2,.inl ?_,h4,h5,fin⟩
    simpa using h3
  ·exact h.elim
 ·exact h.elim
noncomputable def ints?:List D->Option (List Int)
 | []=>some []
 | .int i::ds=>(ints? ds).map fun r=>i::r
 |_::_=>none
theorem ints?_of:∀{ds:List D} {ns:List Int},ints? ds=some ns->ds=ns.map D.int
 | [],ns,h=>by cases h;rfl
 | .int b::ds,ns,h=>by
  simp only [ints?] at h
  cases hd:ints? ds with
  |none=>rw [hd] at h;cases h
  |some r=>rw [hd] at h;cases h;rw [ints?_of hd];rfl
 | .non::_,_,h=>by cases h
 | .bl _::_,_,h=>by cases h
 | .str _::_,_,h=>by cases h
 | .tup _::_,_,h=>by cases h
 | .lst _::_,_,h=>by cases h
 | .dct _::_,_,h=>by cases h
 | .han _::_,_,h=>by cases h
 | .ty _::_,_,h=>by cases h
 | .scr _::_,_,h=>by cases h
theorem ints?_map {ns:List Int}:ints? (ns.map D.int)=some ns:=by
 induction ns with
 |nil=>rfl
 |cons b bs ih=>simp only [List.map_cons,ints?,ih,Option.map_some]
noncomputable def uput (i:Int):List Int->List Int
 | []=>[i]
 |j::r=>if i<j then i::j::r else if i=j then j::r else j::uput i r
noncomputable def usort:List Int->List Int
 | []=>[]
 |i::r=>uput i (usort r)
theorem uput_mem {i k:Int}:∀{l:List Int},k∈uput i l↔k=i\/k∈l
 | []=>by simp [uput]
 |j::r=>by
  unfold uput
  split
  ·simp
  ·split
   ·rename_i h;subst h;simp
   ·rw [List.mem_cons,uput_mem,List.mem_cons]
    constructor
    ·rintro (h|h|h)
     ·exact .inr (.inl h)
     ·exact .inl h
     ·exact .inr (.inr h)
    ·rintro (h|h|h)
     ·exact .inr (.inl h)
     ·exact .inl h
     ·exact .inr (.inr h)
theorem uput_sorted {i:Int}:∀{l:List Int},l.Pairwise (· < ·)->(uput i l).Pairwise (· < ·)
 | [],_=>by simp [uput]
 |j::r,h=>by
  obtain ⟨h1,h2⟩:=List.pairwise_cons.mp h
  unfold uput
  split
  ·rename_i hij
   refine List.pairwise_cons.mpr ⟨fun k hk=>?_,h⟩
   rcases List.mem_cons.mp hk with rfl|hk
   ·exact hij
   ·have:=h1 k hk;omega
  ·split
   ·exact h
   ·refine List.pairwise_cons.mpr ⟨fun k hk=>?_,uput_sorted h2⟩
    rcases uput_mem.mp hk with rfl|hk
    ·omega
    ·exact h1 k hk
theorem usort_mem {k:Int}:∀{l:List Int},k∈usort l↔k∈l
 | []=>by simp [usort]
 |i::r=>by simp [usort,uput_mem,usort_mem]
theorem usort_sorted:∀(l:List Int),(usort l).Pairwise (· < ·)
 | []=>List.Pairwise.nil
 |i::r=>uput_sorted (usort_sorted r)
theorem sorted_unique:∀{l m:List Int},l.Pairwise (· < ·)->m.Pairwise (· < ·)->(∀k,k∈l↔k∈m)->l=m
 | [],[],_,_,_=>rfl
 | [],j::m,_,_,h=>by have:=(h j).mpr List.mem_cons_self;cases this
 |i::l,[],_,_,h=>by have:=(h i).mp List.mem_cons_self;cases this
 |i::l,j::m,hl,hm,h=>by
  obtain ⟨l1,l2⟩:=List.pairwise_cons.mp hl
  obtain ⟨m1,m2⟩:=List.pairwise_cons.mp hm
  have e:i=j:=by
   rcases List.mem_cons.mp ((h i).mp List.mem_cons_self) with e|e
   ·exact e
   ·rcases List.mem_cons.mp ((h j).mpr List.mem_cons_self) with e'|e'
    ·exact e'.symm
    ·have:=m1 i e;have:=l1 j e';omega
  subst e
  congr 1
  refine sorted_unique l2 m2 fun k=>?_
  constructor
  ·intro hk
   rcases List.mem_cons.mp ((h k).mp (List.mem_cons_of_mem _ hk)) with e|e
   ·subst e;have:=l1 k hk;omega
   ·exact e
  ·intro hk
   rcases List.mem_cons.mp ((h k).mpr (List.mem_cons_of_mem _ hk)) with e|e
   ·subst e;have:=m1 k hk;omega
   ·exact e
noncomputable def sortSetT (d:D) (s:Sto):Res D:=match d with
 | .tup ds=>match ints? ds with
  |some ns=>if decide (ns.length<64)=true then ok (.lst ((usort ns).map D.int)) s else none
  |none=>none
 |_=>none
theorem e_sortSetT {p p2 pos2:Pos} (ha:PE X a (tE X.K Ξ f)) (hc:X.calm=true) (hg:Gl X "sorted") (hm:X.mg "sorted"=none) (hv:bootBuiltins "sorted"=some (.builtin "sorted")) (hg2:Gl X "set") (hm2:X.mg "set"=none) (hv2:bootBuiltins "set"=some (.type "set"))
  (he:starEach [a] X.env=(false,eval a X.env)::starEach [] X.env:=by rfl) (hpl:(backTo pos2 (starEach [] X.env)).any (·.1)=false:=by rfl)
  (he2:starEach [.Call (.Name "set" p2) [a] [] pos2] X.env=(false,eval (.Call (.Name "set" p2) [a] [] pos2) X.env)::starEach [] X.env:=by rfl) (hpl2:(backTo pos (starEach [] X.env)).any (·.1)=false:=by rfl) :
  PE X (.Call (.Name "sorted" p) [.Call (.Name "set" p2) [a] [] pos2] [] pos) (tE X.K Ξ (e1 sortSetT f)) :=
 pe_imp (pe_callB (call_sortedX hc) hg hm hv (pa_cons (pe_callTy (call_setXT hc) hg2 hm2 hv2 (pa_cons ha pa_nil he) (by decide) (by decide) he hpl) pa_nil he2) (by decide) (by decide) he2 hpl2) fun σ H Q hh_=>by
  obtain ⟨w,env,eH,S,eo,h⟩:=hh_
  subst eH
  refine ⟨w,env,rfl,S,eo,(Out.bnd h).mono fun w1 d l1 S1 h1 v dv=>?_⟩
  unfold sortSetT at h1
  split at h1
  ·rename_i ds
   split at h1
   ·rename_i ns hn
    split at h1
    ·rename_i hl
     have hl:=of_decide_eq_true hl
     simp only [DV] at dv
     obtain ⟨p,xs,rfl,hp,dvs⟩:=dv
     rw [ints?_of hn] at dvs
     rw [dvs.ints_inv] at hp
     refine ⟨p,ns,rfl,hp,by omega,fun q hq=>?_⟩
     refine ⟨q,ns,rfl,upd_same,hl,fun l ms hl2 hs hk=>?_⟩
     have e:=sorted_unique hs (usort_sorted ns) fun k=>(hk k).trans usort_mem.symm
     subst e
     have hp1:(w1.grow q (.ext (SetX X.prog X.w q ns))).H l=none:=hl2
     have S2:=S1.grow (o:=.ext (SetX X.prog X.w q ns)) hq
     exact h1 ((w1.grow q (.ext (SetX X.prog X.w q ns))).grow l (.lst ((usort ns).map V.int))) ((Fw.grow hq).le.trans (Fw.grow hp1).le) (S2.grow hp1) rfl (.ref l) ⟨l,_,rfl,⟨(show ¬ (w1.grow q (.ext (SetX X.prog X.w q ns))).Z l from nZ_new S2 hp1),upd_same⟩,DVs.ints _⟩
    ·exact h1.elim
   ·exact h1.elim
  ·exact h1.elim
noncomputable def par2 (i j:Nat) (fa:Env->Sto->Res (List D)):Env->Sto->Res Fl:=fun env s=>bnd (fa env s) fun ds s=>match ds with
 | [x,y]=>ok (.nx ((env.set i (some x)).set j (some y))) s
 |_=>none
theorem s_par2 (i j:Nat) {x y:Str} {px py pt:Pos} {kt k2 pt2} (hc:X.calm=true) (hN:X.N.Nodup) (ha:PA X [a,b] (tA X.K Ξ fa)) (hi:X.N[i]?=some x:=by rfl) (hj:X.N[j]?=some y:=by rfl) (hij:i≠j:=by decide)
  (hx:X.env.scope.names.lookup x=some .local:=by rfl) (hy:X.env.scope.names.lookup y=some .local:=by rfl)
  (hw:swappedStores [.Tuple [.Name x px,.Name y py] kt pt] (.Tuple [a,b] k2 pt2) X.env=pure (some [x,y]):=by rfl)
  (hs:swapsWithSole [.Tuple [.Name x px,.Name y py] kt pt] (.Tuple [a,b] k2 pt2) pos.line X.env=pure false:=by rfl) :
  PS X (.Assign [.Tuple [.Name x px,.Name y py] kt pt] (.Tuple [a,b] k2 pt2) pos) (tS X.K Ξ (par2 i j fa)):=ps_imp (ps_par hc hN hi hj hij hx hy ha hw hs) fun D0 σ H hh_=>by
 obtain ⟨w,env,eH,S,eo,h⟩:=hh_
 subst eH
 refine ⟨w,env,rfl,S,eo,(Out.bnd h).mono fun w1 ds l1 S1 h1 vs dvs=>?_⟩
 split at h1
 ·obtain ⟨v,u,rfl,dv,du⟩:=two_of dvs
  exact ⟨v,u,rfl,out_of S1 h1 _ (((eo.le l1).set dv i).set du j)⟩
 ·exact h1.elim
end
end DI
namespace L2
open PySem PySem.Spec PyProof.Rows
structure DS (Y:Cx) (D:Addr) (pins:List (Addr×Obj)):Prop where
 loc:D≠Y.env.locals
 fs:D∉Y.fs
 new:Y.s₀.heap.objs.size<=D
 cell:∀x c,Y.env.cells.lookup x=some c->c≠D
 pin:∀p∈Y.pn++pins,p.1≠D
structure BOk (Y:Cx) (D:Addr) (nt:Nat) (caps:St) (pins:List (Addr×Obj)) (o:St) (H:Hp) (s:Shared) (acc:List V):Prop where
 inv:Inv Y pins (o++caps) H s
 len:o.length=nt
 lst:∃ys,s.heap.PlainList D ys/\Vals acc ys.toList
 free:H D=none
 few:acc.length<=sizeLine
noncomputable abbrev TAct:=St->Hp->List V->(St->List V->Hp->Prop)->Prop
def PAct (Y:Cx) (D:Addr) (nt:Nat) (caps:St) (c:Code) (m:Sem PySem.Fin) (ta:TAct):Prop :=
 ∀(pins:List (Addr×Obj)) (o:St) (H:Hp) (s:Shared) (acc:List V) (Q:St->List V->Hp->Prop),DS Y D pins->BOk Y D nt caps pins o H s acc->ta (o++caps) H acc Q ->
  wpAny (model Y.prog Y.w) Y.A m (fun fn s'=>fn=.again c/\∃o' H' acc',BOk Y D nt caps pins o' H' s' acc'/\Q (o'++caps) acc' H') (fun _ _=>False) s
def CA (J:It) (g:TG) (tf:TT) (ta:TAct) (τ:St) (acc:List V) (H:Hp) (Q:St->List V->Hp->Prop):Prop:=∃W:Nat->Nat->St->List V->Hp->Prop,(∃m,W 0 m τ acc H) /\
 ∀i m τ acc H2,W i m τ acc H2->(J.stop i H2/\Q τ acc H2) \/
  (J.go i H2/\∃N:St->List V->Hp->Prop,(∀ τ' acc' H',N τ' acc' H'->∃m',m' < m/\W (i+1) m' τ' acc' H') /\
   ∀x H3,J.yld i H2 x H3->g x τ H3 fun τ2 H4=>tf τ2 H4 fun b H5=>if b=true then ta τ2 H5 acc N else N τ2 acc H5)
noncomputable def tEmit (te:TE):TAct:=fun τ H acc Q=>acc.length+1<=sizeLine/\te τ H fun v H'=>Q τ (acc++[v]) H'
noncomputable def tMore (wi:TI) (g:TG) (tf:TT) (ta:TAct):TAct:=fun τ H acc Q=>wi τ H fun J H1=>CA J g tf ta τ acc H1 Q
section
variable {Y:Cx} {D:Addr} {nt:Nat} {caps:St}
theorem DS.obj {pins:List (Addr×Obj)} {o:St} {H:Hp} {s:Shared} {acc:List V} (ds:DS Y D pins) (B:BOk Y D nt caps pins o H s acc):∃oD ys nn,s.heap.get? D=some oD/\oD={ cls:=.type "list",data:=.seq ys nn }/\Vals acc ys.toList/\Inv Y (pins++[(D,oD)]) (o++caps) H s:=by
 obtain ⟨ys,⟨nn,ho⟩,rv⟩:=B.lst
 refine ⟨_,ys,nn,ho,rfl,rv,B.inv.pins_of fun p hp=>?_⟩
 rcases List.mem_append.mp hp with z|z
 ·exact B.inv.pin p (List.mem_append_right _ z)
 ·have e:p=(D,{ cls:=.type "list",data:=.seq ys nn }):=by simpa using z
  subst e
  exact ⟨ho,B.free,ds.loc,ds.fs,fun v z=>by cases z⟩
theorem act_emit {el:Expr} {te:TE} {c:Code} (hx:Y.xe=fun _ _=>False) (hE:PE Y el te):PAct Y D nt caps c ((do let _ <- call (.builtin "list.append") [.ref D,<- eval el Y.env]:Sem Unit) >>= fun _=>again c) (tEmit te):=by
 intro pins o H s acc Q ds B h
 obtain ⟨hz,h⟩:=h
 obtain ⟨oD,ys,nn,ho,eo,rv,I⟩:=ds.obj B
 have q:=hE _ s _ H _ I h
 rw [hx] at q
 refine wpAny_bind (wpAny_bind (thn q fun y s8 h8=>?_))
 obtain ⟨v,H8,I8,r8,q9⟩:=h8
 have pD:=I8.pin (D,oD) (List.mem_append_right _ (List.mem_append_right _ (by simp)))
 have pl8:s8.heap.PlainList D ys:=⟨nn,by rw [<- eo];exact pD.1⟩
 have hys:ys.size<=sizeLine:=by
  have e:=rv.length
  simp only [Array.length_toList] at e
  omega
 refine wpAny_bind (wpAny_list_append_plain (hsz:=hys) pl8 fun h9 pl9 sb9=>wpAny_pure (wpAny_pure ⟨rfl,?_⟩))
 have I8':Inv Y pins (o++caps) H8 s8:=I8.unpinned
 have I9:Inv Y pins (o++caps) H8 { s8 with heap:=h9,toks:=s8.toks }:=I8'.turned (it:=D) (fun b o hb e=>(sb9.2 b hb).trans e) pD.2.1 ds.loc (.inr ds.new) ds.cell ds.pin
 refine ⟨o,H8,acc++[v],⟨I9,B.len,⟨ys.push y,pl9,?_⟩,pD.2.1,by rw [List.length_append];simpa using hz⟩,q9⟩
 rw [Array.toList_push]
 exact Vals.append rv (.cons r8 .nil)
theorem comp_loopA {e tg:Expr} {tests:List Expr} {d:Nat} {it:Addr} {J:It} {fp:List Addr} {tn:Nat->Heap->Prop} {g:TG} {tf:TT} {ta:TAct} {act:Sem PySem.Fin} {p0:Pos} {pins:List (Addr×Obj)} {o:St} {H:Hp} {s:Shared} {acc:List V} {Q:St->List V->Hp->Prop} (hx:Y.xe=fun _ _=>False) (hc:Y.calm=true)
  (T:Turn Y.prog Y.w Y.K tg J fp it tn) (st0:tn 0 s.heap) (hf:∀b∈fp,FpOk Y pins H b) (hDf:D∉fp) (hG:PG Y tg g) (hgo:GOk g nt) (hF:PF Y tests tf) (hA:PAct Y D nt caps (.compLoop e d (.ref it) (.ref D) Y.env) act ta) (ds:DS Y D pins) (B:BOk Y D nt caps pins o H s acc) (hq:(Code.compLoop e d (.ref it) (.ref D) Y.env).quiet=true)
  (hden:∀(M:Model) (A:Around) (Q':Fin->Shared->Prop) (E':Value->Shared->Prop) (s':Shared),wpAny (model Y.prog Y.w) A (compTurn e d (.ref it) (.ref D) Y.env) Q' (fun _ _=>False) s'->wpAny (model Y.prog Y.w) (A.under (.compLoop e d (.ref it) (.ref D) Y.env)) ((model Y.prog Y.w).den (.compLoop e d (.ref it) (.ref D) Y.env)) Q' E' s')
  (ht:compTurn e d (.ref it) (.ref D) Y.env=(do
   standAt p0
   match <- pyNext (.ref it) with
   |none=>pure (.done .next)
   |some v =>
    letOwnedTupleGo tg (.ref it) v
    assign tg Y.env v
    let mut ok:=true
    for c in tests do
     if ok then ok <- isTrue c Y.env (eval c Y.env)
    if ok then act else again (.compLoop e d (.ref it) (.ref D) Y.env)))
  (h:CA J g tf ta (o++caps) acc H Q) :
  codeAny (model Y.prog Y.w) Y.A (.compLoop e d (.ref it) (.ref D) Y.env) (fun r s'=>r=.ok .next/\∃o' H' acc',BOk Y D nt caps pins o' H' s' acc'/\Q (o'++caps) acc' H') s:=by
 obtain ⟨W,⟨m0,w0⟩,turn⟩:=h
 have fpY:∀{H':Hp} {pl:List (Addr×Obj)},(∀b∈fp,H' b=none)->(∀p∈pl,p.1∉fp)->∀b∈fp,FpOk Y (pins++pl) H' b:=fun {H' pl} hn hp b hb=>by
  obtain ⟨_,f1,f2',f3,f4,f5⟩:=hf b hb
  refine ⟨hn b hb,f1,f2',f3,f4,fun p hpp=>?_⟩
  rcases List.mem_append.mp hpp with z|z
  ·exact f5 p (List.mem_append_left _ z)
  ·rcases List.mem_append.mp z with z|z
   ·exact f5 p (List.mem_append_right _ z)
   ·exact fun e=>hp p z (e ▸ hb)
 refine codeAny_loop hq (fun n s'=>∃i acc o H',BOk Y D nt caps pins o H' s' acc/\tn i s'.heap/\(∀b∈fp,H' b=none)/\W i n (o++caps) acc H') (fun n s3 hJ=>?_) m0 ⟨0,acc,o,H,B,st0,fun b hb=>(hf b hb).1,w0⟩
 obtain ⟨i,acc,o3,H3,B3,st3,fr3,w3⟩:=hJ
 refine hden (model Y.prog Y.w) _ _ _ _ ?_
 rw [ht]
 obtain ⟨oD,ys,nn,ho,eo,rv3,I3'⟩:=ds.obj B3
 have nfp:∀p∈[(D,oD)],p.1∉fp:=fun p hp=>by
  have e:p=(D,oD):=by simpa using hp
  subst e
  exact hDf
 have atD:∀{pl:List (Addr×Obj)} {τ':St} {H':Hp} {s':Shared},Inv Y (pins++[(D,oD)]++pl) τ' H' s'->s'.heap.PlainList D ys/\H' D=none:=fun {pl τ' H' s'} I'=>by
  have q:=I'.pin (D,oD) (List.mem_append_right _ (List.mem_append_left _ (List.mem_append_right _ (by simp))))
  exact ⟨⟨nn,by rw [<- eo];exact q.1⟩,q.2.1⟩
 refine wpAny_bind (wpAny_standAt (wpAny_bind ?_))
 rcases turn i n _ acc H3 w3 with ⟨stop,q⟩ | ⟨go,N',hN,step⟩
 ·have hd:=T.done Y rfl rfl rfl hc i _ s3 _ H3 (fun _ _=>False) I3' (fpY fr3 nfp) st3 stop
  refine thn hd fun r s4 h4=>?_
  obtain ⟨hr,I4⟩:=h4
  subst hr
  obtain ⟨pl4,n4⟩:=atD (pl:=[]) (by simpa using I4)
  exact wpAny_pure ⟨rfl,o3,H3,acc,⟨I4.unpinned,B3.len,⟨ys,pl4,rv3⟩,n4,B3.few⟩,q⟩
 ·have hd:=T.item Y rfl rfl rfl hc i _ s3 _ H3 (fun _ _=>False) I3' (fpY fr3 nfp) st3 go
  refine thn hd fun r s4 h4=>?_
  obtain ⟨u,hr,h4⟩:=h4
  subst hr
  refine wpAny_bind (thn h4 fun _ s5 h5=>?_)
  obtain ⟨x,H5,I5,r5,y5,st5,fr5⟩:=h5
  have I5':=I5.pinned (fpY fr5 nfp) (T.obj _ _ st5)
  have q5:=hG _ s5 _ H5 x u _ I5' r5 (hgo x o3 _ H5 _ B3.len (step x H5 y5))
  rw [hx] at q5
  refine wpAny_bind (thn q5 fun _ s6 h6=>?_)
  obtain ⟨τ6,H6,I6,⟨o6,ho6,eτ6⟩,q6⟩:=h6
  have q7:=hF _ s6 τ6 H6 _ I6 q6
  rw [hx] at q7
  refine wpAny_bind (thn q7 fun b s7 h7=>?_)
  obtain ⟨H7,I7,q7⟩:=h7
  subst eτ6
  obtain ⟨pl7,n7⟩:=atD I7
  have I7':Inv Y (pins++pinsAt fp s5.heap) (o6++caps) H7 s7:=I7.pins_of fun p hp=>by
   rcases List.mem_append.mp hp with z|z
   ·exact I7.pin p (List.mem_append_right _ (List.mem_append_left _ (List.mem_append_left _ z)))
   ·exact I7.pin p (List.mem_append_right _ (List.mem_append_right _ z))
  have frAt:∀{τ':St} {H':Hp} {s':Shared},Inv Y (pins++pinsAt fp s5.heap) τ' H' s'->tn (i+1) s'.heap/\∀b∈fp,H' b=none:=fun {τ' H' s'} I'=>by
   refine ⟨T.keep _ _ _ st5 fun b hb o e=>(I'.pin (b,o) (List.mem_append_right _ (List.mem_append_right _ (mem_pinsAt hb e)))).1,fun b hb=>?_⟩
   obtain ⟨o,e,_⟩:=T.obj _ _ st5 b hb
   exact (I'.pin (b,o) (List.mem_append_right _ (List.mem_append_right _ (mem_pinsAt hb e)))).2.1
  cases b with
  |false =>
   rw [if_neg Bool.false_ne_true] at q7
   obtain ⟨m',hm,w7⟩:=hN _ _ _ q7
   obtain ⟨t7,f7⟩:=frAt I7'
   exact wpAny_pure ⟨rfl,m',hm,i+1,acc,o6,H7,⟨I7'.unpinned,ho6,⟨ys,pl7,rv3⟩,n7,B3.few⟩,t7,f7,w7⟩
  |true =>
   rw [if_pos rfl] at q7
   have ds':DS Y D (pins++pinsAt fp s5.heap):=⟨ds.loc,ds.fs,ds.new,ds.cell,fun p hp=>by
    rcases List.mem_append.mp hp with z|z
    ·exact ds.pin p (List.mem_append_left _ z)
    ·rcases List.mem_append.mp z with z|z
     ·exact ds.pin p (List.mem_append_right _ z)
     ·exact fun e=>hDf (e ▸ (of_pinsAt z).1)⟩
   refine thn (hA _ o6 H7 s7 acc N' ds' ⟨I7',ho6,⟨ys,pl7,rv3⟩,n7,B3.few⟩ q7) fun fn s8 h8=>?_
   obtain ⟨efn,o8,H8,acc8,B8,q8⟩:=h8
   subst efn
   obtain ⟨m',hm,w8⟩:=hN _ _ _ q8
   obtain ⟨t8,f8⟩:=frAt B8.inv
   exact ⟨rfl,m',hm,i+1,acc8,o8,H8,⟨B8.inv.unpinned,B8.len,B8.lst,B8.free,B8.few⟩,t8,f8,w8⟩
end
end L2
namespace L2
open PySem PySem.Spec PyProof.Rows
theorem den_of {P:Program} {w:World} {el:Expr} {gens:List Comprehension} {sc:Scope} {ps:Pos} {d:Nat} {itv av:Value} {ce:Env} (A:Around) (Q':Fin->Shared->Prop) (E':Value->Shared->Prop) (s':Shared)
  (h:wpAny (model P w) A (compTurn (.ListComp el gens sc ps) d itv av ce) Q' (fun _ _=>False) s'):wpAny (model P w) (A.under (.compLoop (.ListComp el gens sc ps) d itv av ce)) ((model P w).den (.compLoop (.ListComp el gens sc ps) d itv av ce)) Q' E' s':=by
 show wpAny _ A ((compTurn (.ListComp el gens sc ps) d itv av ce).onRaise (fun x=>do noteFrame x ce;theTreesLotGoes x)) _ _ s'
 exact wpAny_noted (wpAny_mono h (fun _ _ q=>q) fun _ _ z=>z.elim)
theorem start_of {P:Program} {w:World} {A:Around} {R:Result->Shared->Prop} {s:Shared} {el target iter:Expr} {ifs:List Expr} {gens:List Comprehension} {sc:Scope} {ps:Pos} {d:Nat} {it acc:Value} {env:Env} (hd:gens[d]?=some ⟨target,iter,ifs,0⟩)
  (h0:codeAny (model P w) A (.compLoop (.ListComp el gens sc ps) d it acc env) R s)
  (h:wpAny (model P w) A (pyIter it) (fun it' s'=>codeAny (model P w) A (.compLoop (.ListComp el gens sc ps) d it' acc env) R s') (fun _ _=>False) s) :
  codeAny (model P w) A (.compStart (.ListComp el gens sc ps) d it acc env) R s:=by
 refine codeAny_of_tree ?_
 show wpAny _ _ ((compStart (.ListComp el gens sc ps) d it acc env).onRaise (fun x=>do noteFrame x env;standAt theWindowsPlace)) _ _ s
 refine wpAny_notedAt ?_
 have hd':(clausesOf (.ListComp el gens sc ps))[d]?=some ⟨target,iter,ifs,0⟩:=hd
 unfold compStart
 rw [hd']
 show wpAny _ _ (ask >>= _) _ _ s
 refine wpAny_bind (wpAny_askSetting (wpAny_ite ?_))
 split
 ·first
   |exact wpAny_bind (wpAny_pure (wpAny_pure (And.intro rfl h0)))
   |exact wpAny_pure (And.intro rfl h0)
 ·refine wpAny_bind (wpAny_rule ?_)
  show wpAny _ _ (standAt iter.pos >>= _) _ _ s
  exact wpAny_bind (wpAny_standAt (wpAny_bind (wpAny_mono h (fun it' s' h'=>wpAny_pure (And.intro rfl h')) fun _ _ x=>x.elim)))
section
variable {Y:Cx} {D:Addr} {nt:Nat} {caps:St}
theorem act_more {el tg src:Expr} {gens:List Comprehension} {sc:Scope} {ps:Pos} {tests:List Expr} {d:Nat} {wi:TI} {g:TG} {tf:TT} {ta:TAct} {act:Addr->Sem PySem.Fin} {c:Code} (hx:Y.xe=fun _ _=>False) (hc:Y.calm=true) (hd:gens[d]?=some ⟨tg,src,tests,0⟩)
  (hi:PI Y tg src wi) (hG:PG Y tg g) (hgo:GOk g nt) (hF:PF Y tests tf) (hA:∀it:Addr,PAct Y D nt caps (.compLoop (.ListComp el gens sc ps) d (.ref it) (.ref D) Y.env) (act it) ta)
  (ht:∀it:Addr,compTurn (.ListComp el gens sc ps) d (.ref it) (.ref D) Y.env=(do
   standAt src.pos
   match <- pyNext (.ref it) with
   |none=>pure (.done .next)
   |some v =>
    letOwnedTupleGo tg (.ref it) v
    assign tg Y.env v
    let mut ok:=true
    for c in tests do
     if ok then ok <- isTrue c Y.env (eval c Y.env)
    if ok then act it else again (.compLoop (.ListComp el gens sc ps) d (.ref it) (.ref D) Y.env)))
  (hs:∀x,foldedSetIterable src Y.env x=pure x) :
  PAct Y D nt caps c (do
   let x <- eval src Y.env
   standAt src.pos
   let x <- foldedSetIterable src Y.env x
   let _ <- runOwn (.compStart (.ListComp el gens sc ps) d (<- holding [x] (pyIter x)) (.ref D) Y.env) Y.env
   again c) (tMore wi g tf ta):=by
 intro pins o H s acc Q ds B h
 obtain ⟨oD,ys,nn,ho,eo,rv,I⟩:=ds.obj B
 have q:=hi _ s _ H _ I h
 rw [hx] at q
 refine wpAny_bind (thn q fun v s1 h1=>wpAny_bind (wpAny_standAt ?_))
 rw [hs]
 refine wpAny_bind (wpAny_pure (wpAny_bind (wpAny_holding (thn h1 fun itv s2 h2=>?_))))
 obtain ⟨it,fp,tn,J,H2,e,I2,T,st2,f2,ca⟩:=h2
 subst e
 have pD:=I2.pin (D,oD) (List.mem_append_right _ (List.mem_append_right _ (by simp)))
 have hDf:D∉fp:=fun z=>(f2 D z).2.2.2.2.2 (D,oD) (List.mem_append_right _ (List.mem_append_right _ (by simp))) rfl
 have f2':∀b∈fp,FpOk Y pins H2 b:=fun b hb=>by
  obtain ⟨a1,a2,a3,a4,a5,a6⟩:=f2 b hb
  refine ⟨a1,a2,a3,a4,a5,fun p hp=>a6 p ?_⟩
  rcases List.mem_append.mp hp with z|z
  ·exact List.mem_append_left _ z
  ·exact List.mem_append_right _ (List.mem_append_left _ z)
 have B2:BOk Y D nt caps pins o H2 s2 acc:=⟨I2.unpinned,B.len,⟨ys,⟨nn,by rw [<- eo];exact pD.1⟩,rv⟩,pD.2.1,B.few⟩
 have loop:=comp_loopA (e:=.ListComp el gens sc ps) (d:=d) hx hc T st2 f2' hDf hG hgo hF (hA it) ds B2 rfl (fun _ A Q' E' s' h=>den_of A Q' E' s' h) (ht it) ca
 refine wpAny_bind (wpAny_runOwn ?_)
 refine codeAny_mono (start_of hd loop (T.self _ _ _ _ _ st2 loop)) fun r s' hr=>?_
 obtain ⟨e,q⟩:=hr
 subst e
 exact wpAny_pure ⟨rfl,q⟩
end
noncomputable def tCompA (wi:TI) (nt:Nat) (cap:List Nat) (g:TG) (tf:TT) (ta:TAct):TE:=fun σ H Q=>wi σ H fun J H1=>CA J g tf ta (List.replicate nt none++capsC cap σ) [] H1 fun _ acc H2=>∀D,H2 D=none->Q (.ref D) (upd H2 D (.lst acc))
section
variable {X:Cx}
theorem pe_compA {el tg src:Expr} {tests:List Expr} {rest:List Comprehension} {sc:Scope} {ps:Pos} {N:List Str} {nt:Nat} {cap:List Nat} {wi:TI} {g:TG} {tf:TT} {ta:TAct} {act:Env->Addr->Addr->Sem PySem.Fin} (hc:X.calm=true) (S:CScope X sc N nt cap) (hgo:GOk g nt) (hi:PI X tg src wi)
  (hY:∀(cl:List (Str×Addr)) (C:Addr) (s:Shared) (H:Hp) (ex:List Addr) (pn:List (Addr×Obj)),PG (cxC X N sc cl C s H ex pn) tg g/\PF (cxC X N sc cl C s H ex pn) tests tf/\∀D caps it,PAct (cxC X N sc cl C s H ex pn) D nt caps (.compLoop (.ListComp el (⟨tg,src,tests,0⟩::rest) sc ps) 0 (.ref it) (.ref D) (compEnvC sc cl C X.env)) (act (compEnvC sc cl C X.env) D it) ta)
  (ht:∀(it D:Addr) (ce:Env),compTurn (.ListComp el (⟨tg,src,tests,0⟩::rest) sc ps) 0 (.ref it) (.ref D) ce=(do
   standAt src.pos
   match <- pyNext (.ref it) with
   |none=>pure (.done .next)
   |some v =>
    letOwnedTupleGo tg (.ref it) v
    assign tg ce v
    let mut ok:=true
    for c in tests do
     if ok then ok <- isTrue c ce (eval c ce)
    if ok then act ce D it else again (.compLoop (.ListComp el (⟨tg,src,tests,0⟩::rest) sc ps) 0 (.ref it) (.ref D) ce)))
  (hs:∀x,foldedSetIterable src X.env x=pure x:=by intro _;rfl):PE X (.ListComp el (⟨tg,src,tests,0⟩::rest) sc ps) (tCompA wi nt cap g tf ta):=by
 intro pins s σ H Q I h
 obtain ⟨cl,hclos,hcl⟩:=clo_of (env:=X.env) (sc:=sc) fun n hn=>I.ok.has n (S.frees _ hn rfl).2
 rw [eval_ListComp]
 refine wpAny_comprehension_free (use:=none) rfl hs hclos S.kind S.names (thn (hi pins s σ H _ I h) fun xv s1 h1=>thn h1 fun itv s2 h2=>?_)
 obtain ⟨it,fp,tn,J,H2,e,I2,T,st2,f2,ca⟩:=h2
 subst e
 refine wpAny_newObj_type (wpAny_newFunctionEnv S.nocell (by intro y hy;simp at hy) (fun h3 hns3 hsb3=>?_) S.kind)
 dsimp only at hns3 hsb3 |-
 generalize hD:s2.heap.objs.size=D at hns3 hsb3 |-
 generalize hG:s2.heap.push { cls:=.type "list",dict:=none,data:=.seq ([]:List Value).toArray }=G at hns3 hsb3 |-
 generalize hCe:G.objs.size=C at hns3 hsb3 |-
 have hC:C=D+1:=by rw [<- hCe,<- hG,Heap.size_push,hD]
 have hDC:D≠C:=by omega
 have hDle:s2.heap.objs.size<=D:=Nat.le_of_eq hD
 have hCle:s2.heap.objs.size<=C:=by omega
 have old:∀b o,s2.heap.get? b=some o->h3.get? b=some o:=fun b o e=>hsb3.extBut b o (Nat.ne_of_lt (Nat.lt_of_lt_of_le (Heap.lt_size e) hCle)) (Heap.get?_push_of_some _ (hG ▸ Heap.get?_push_of_some _ e))
 have hacc:h3.PlainList D #[]:=⟨_,hsb3.extBut _ _ hDC (Heap.get?_push_of_some _ (hG ▸ hD ▸ Heap.get?_push_size _ rfl))⟩
 have hfs:∀b∈fp,b<s2.heap.objs.size:=fun b hb=>by
  obtain ⟨o,e,_⟩:=T.obj _ _ st2 b hb
  exact Heap.lt_size e
 have IB:=I2.block (t':=s2.toks+([]:List (Str×Value)).length) S hcl f2 hfs old hCle ⟨_,hns3⟩
 have hDs:D∉frs X.stack:=fun z=>by
  rcases List.mem_cons.mp (I2.stkSub D z) with e|e
  ·exact absurd (Nat.lt_of_lt_of_le I2.lt hDle) (by rw [e];exact Nat.lt_irrefl _)
  ·exact I2.nofs hDle e
 have hDf:D∉fp:=fun z=>absurd (Nat.lt_of_lt_of_le (hfs D z) hDle) (Nat.lt_irrefl _)
 have hDcell:∀x c,cl.lookup x=some c->c≠D:=fun x c e z=>by
  obtain ⟨v,o,ho,_⟩:=I2.cell x c ((hcl x c).mp e).2
  exact absurd (Nat.lt_of_lt_of_le (Heap.lt_size ho) (by rw [z];exact hDle)) (Nat.lt_irrefl _)
 have hDpin:∀p∈X.pn++pins,p.1≠D:=fun p hp z=>absurd (Nat.lt_of_lt_of_le (Heap.lt_size (I2.pin p hp).1) (by rw [z];exact hDle)) (Nat.lt_irrefl _)
 have fin:∀(s':Shared) (τ:St) (H':Hp) (acc:List V) (ys:Array Value),Inv (cxC X N sc cl C s2 H2 fp (X.pn++pins)) [] τ H' s'->s'.heap.PlainList D ys->Vals acc ys.toList->H' D=none->acc.length<=sizeLine->(∀D,H' D=none->Q (.ref D) (upd H' D (.lst acc))) ->
   compPost (model X.prog X.w) X.A X.xe none (EP X pins σ Q) (.ref D) C (.ok .next) s':=by
  intro s' τ H' acc ys I' pl rv hn hz q
  obtain ⟨m,hm,_⟩:=id I'.loc
  refine ⟨m,hm,fun h' sb=>?_⟩
  have hokD:HOk X.prog X.w H' h':=I'.hok.but I'.free sb
  obtain ⟨n,ho⟩:=pl
  have ho':h'.get? D=some { cls:=.type "list",data:=.seq ys n }:=(sb.2 D hDC).trans ho
  have new:ObjOk X.prog X.w (upd H' D (.lst acc)) h' D (.lst acc):=⟨hz,ys.toList,n,rv,by simpa using ho'⟩
  have u:=(I'.base.but hCle sb).adopt (o:=.lst acc) hDle hn
  refine ⟨.ref D,upd H' D (.lst acc),I2.call' (s':={ s' with heap:=h' }) (ch:=fp) I'.os u (hokD.adopt hn new) I'.bare (fun b hb=>?_),rfl,q D hn⟩
  obtain ⟨_,f1,_,f3,f4,f5⟩:=f2 b hb
  exact ⟨f3,f1,f4,f5⟩
 have fpY:∀b∈fp,FpOk (cxC X N sc cl C s2 H2 fp (X.pn++pins)) [] H2 b:=fun b hb=>by
  obtain ⟨f0,f1,f2',f3,f4,f5⟩:=f2 b hb
  refine ⟨f0,Nat.ne_of_lt (Nat.lt_of_lt_of_le (hfs b hb) hCle),fun z=>?_,.inl hb,fun x c e=>f4 x c ((hcl x c).mp e).2,fun p hpp=>?_⟩
  ·rcases List.mem_cons.mp (I2.stkSub b z) with e|e
   ·exact f1 e
   ·exact f2' e
  ·exact f5 p (by simpa using hpp)
 obtain ⟨hG1,hF1,hA1⟩:=hY cl C s2 H2 fp (X.pn++pins)
 have loop:=comp_loopA (Y:=cxC X N sc cl C s2 H2 fp (X.pn++pins)) (D:=D) (nt:=nt) (caps:=capsC cap σ) (e:=.ListComp el (⟨tg,src,tests,0⟩::rest) sc ps) (d:=0) (pins:=[]) (o:=List.replicate nt none) (acc:=[]) rfl hc T
  (T.keep _ _ _ st2 fun b _ o e=>old b o e) fpY hDf hG1 hgo hF1 (hA1 D _ it) ⟨hDC,hDs,hDle,hDcell,fun p hp=>hDpin p (by simpa using hp)⟩ ⟨IB,by simp,⟨#[],hacc,.nil⟩,I2.hok.fresh hDle,Nat.zero_le _⟩ rfl (fun _ A Q' E' s' h=>den_of A Q' E' s' h) (ht it D _) ca
 have loop':=codeAny_mono loop (R':=compPost (model X.prog X.w) X.A X.xe none (EP X pins σ Q) (.ref D) C) fun r s' hr=>by
  obtain ⟨e,o',H',acc',B',q'⟩:=hr
  subst e
  obtain ⟨ys,pl,rv⟩:=B'.lst
  exact fin s' _ H' acc' ys B'.inv pl rv B'.free B'.few q'
 exact codeAny_compStart_list loop' (T.self _ _ _ _ _ (T.keep _ _ _ st2 fun b _ o e=>old b o e) loop')
end
end L2
namespace DI
open PySem L2
theorem b_isinstance:bootBuiltins "isinstance"=some (.builtin "isinstance"):=by decide +kernel
theorem b_int:bootBuiltins "int"=some (.type "int"):=by decide +kernel
theorem b_bool:bootBuiltins "bool"=some (.type "bool"):=by decide +kernel
theorem b_tuple:bootBuiltins "tuple"=some (.type "tuple"):=by decide +kernel
theorem b_list:bootBuiltins "list"=some (.type "list"):=by decide +kernel
theorem b_set:bootBuiltins "set"=some (.type "set"):=by decide +kernel
theorem b_all:bootBuiltins "all"=some (.builtin "all"):=by decide +kernel
theorem b_any:bootBuiltins "any"=some (.builtin "any"):=by decide +kernel
theorem b_len:bootBuiltins "len"=some (.builtin "len"):=by decide +kernel
theorem b_repr:bootBuiltins "repr"=some (.builtin "repr"):=by decide +kernel
theorem b_max:bootBuiltins "max"=some (.builtin "max"):=by decide +kernel
theorem b_min:bootBuiltins "min"=some (.builtin "min"):=by decide +kernel
theorem b_sorted:bootBuiltins "sorted"=some (.builtin "sorted"):=by decide +kernel
structure Gd (K:Frag) (mg:Str->Option Value) (x:Str) (st:Stmt) (ps:List Str) (f:Addr) (fd:FuncData):Prop where
 mg:mg x=some (.ref f)
 fn:Fun K x x st f fd
 b:Binds K fd ps []
theorem fn_no {P:Program} {w:World} {K:Frag} {mg:Str->Option Value} {base:Heap} {k:Nat} {f:Addr} {fd:FuncData} {ps:List Str} {g:List D->Sto->Res D} (h:∀ds s,g ds s=none):FnOk P w K mg base CX0 k f fd ps (spI K g) :=
 ⟨fun vs H Q E h'=>by obtain ⟨w,ds,_,_,_,q⟩:=h';rw [h] at q;exact q.elim,fun A outer s H args us vs Q E _ _ _ _ h'=>by obtain ⟨w,ds,_,_,_,q⟩:=h';rw [h] at q;exact q.elim⟩
noncomputable def spLaw (K:Frag):Sp:=fun vs H Q _=>∃(a:Addr) (ns:List Int),vs=[.ref a]/\SqL K H a (ns.map V.int)/\ns.length<=63/\∀H',Q (.bl true) H'
theorem law_of {P:Program} {w:World} {K:Frag} {mg:Str->Option Value} {base:Heap} {k:Nat} {f:Addr} {fd:FuncData} {x:Str} {g:List D->Sto->Res D} (F:FnOk P w K mg base CX0 k f fd [x] (spI K g))
  (h:∀ns:List Int,ns.length<=63->∃s,g [.scr ns] []=some (.ok (.bl true),s)):FnOk P w K mg base CX0 k f fd [x] (spLaw K):=F.imp fun vs H Q E ⟨a,ns,e,hS,hl,q⟩=>by
 subst e
 obtain ⟨s,hs⟩:=h ns hl
 have nz:∀b,¬ (⟨[],[],H⟩:Wd).Z b:=fun b ⟨k,c,e1,_,_⟩=>by simp at e1
 refine ⟨⟨[],[],H⟩,[.scr ns],rfl,⟨rfl,List.nodup_nil,fun k a e=>by simp at e,fun k a c e=>by simp at e⟩,DVs.one ⟨a,rfl,?_⟩,?_⟩
 ·rcases hS with hS|hS
  ·exact .inl ⟨nz a,hS⟩
  ·exact .inr hS
 ·show Out K NoX _ (g [.scr ns] []) _
  rw [hs]
  intro w' _ _ _ v dv
  have e:v=.bl true:=dv
  subst e
  exact q _
end DI
namespace DI
open PySem L2
noncomputable def clGo (g:D->Env->Option Env) (t:Env->Sto->Res Bool) (act:Env->Sto->Res (List D)) (env0:Env):List D->Sto->Res (List D)
 | [],s=>ok [] s
 |d::ds,s=>match g d env0 with
  |none=>none
  |some env=>bnd (ne (t env s)) fun b s=>if b=true then bnd (ne (act env s)) fun xs s=>bnd (clGo g t act env0 ds s) fun ys s=>ok (xs++ys) s
   else clGo g t act env0 ds s
noncomputable def emit (f:Env->Sto->Res D):Env->Sto->Res (List D):=fun env s=>bnd (f env s) fun x s=>ok [x] s
noncomputable def more (it:Env->Sto->Res (List D)) (g:D->Env->Option Env) (t:Env->Sto->Res Bool) (act:Env->Sto->Res (List D)):Env->Sto->Res (List D):=fun env s=>bnd (it env s) fun ds s=>clGo g t act env ds s
noncomputable def eCompA (nt:Nat) (cap:List Nat) (it:Env->Sto->Res (List D)) (g:D->Env->Option Env) (t:Env->Sto->Res Bool) (act:Env->Sto->Res (List D)):Env->Sto->Res D:=fun env s =>
 bnd (it env s) fun ds s=>bnd (ne (clGo g t act (List.replicate nt none++capsE cap env) ds s)) fun xs s=>lenOk xs (ok (.lst xs) s)
def Sl (g:D->Env->Option Env) (sl:List Nat):Prop:=∀d env env',g d env=some env'->env'.length=env.length/\∀i,i∉sl->env'[i]?=env[i]?
theorem sl_name (i:Nat):Sl (gN i) [i]:=fun d env env' h=>by
 have e:env.set i (some d)=env':=Option.some.inj h
 subst e
 refine ⟨List.length_set ..,fun j hj=>?_⟩
 rw [List.getElem?_set_ne (fun z=>hj (by simp [z]))]
theorem slAll:∀(is:List Nat) (ds:List D) (env env':Env),gAll (is.map gN) ds env=some env'->env'.length=env.length/\∀i,i∉is->env'[i]?=env[i]?
 | [],[],env,env',h=>by
  have e:env=env':=Option.some.inj h
  rw [e]
  exact ⟨rfl,fun _ _=>rfl⟩
 | [],_::_,_,_,h=>by cases h
 |_::_,[],_,_,h=>by cases h
 |j::is,d::ds,env,env',h=>by
  have h':gAll (is.map gN) ds (env.set j (some d))=some env':=h
  obtain ⟨h1,h2⟩:=slAll is ds _ env' h'
  refine ⟨by rw [h1,List.length_set],fun i hi=>?_⟩
  rw [h2 i (fun z=>hi (List.mem_cons_of_mem _ z)),List.getElem?_set_ne (fun z=>hi (by rw [z];exact List.mem_cons_self ..))]
theorem sl_tup (is:List Nat):Sl (gT (is.map gN)) is:=fun d env env' h=>by
 cases d with
 |tup ds=>exact slAll is ds env env' h
 |_=>cases h
theorem len_same {g:D->Env->Option Env} {sl:List Nat} {d:D} {env env':Env} (hs:Sl g sl) (hg:g d env=some env'):env'.length=env.length:=(hs d env env' hg).1
def Fre (sl:List Nat) (env:Env):Prop:=∀i∈sl,∀d,env[i]?≠some (some d)
theorem EnvOk.back {K:Frag} {w:Wd} {env env':Env} {σ:St} {g:D->Env->Option Env} {sl:List Nat} {d:D} (hs:Sl g sl) (hf:Fre sl env) (hg:g d env=some env') (hl:env.length=σ.length) (h:EnvOk K w env' σ):EnvOk K w env σ :=
 ⟨hl,fun i x e=>by
  by_cases hi:i∈sl
  ·exact absurd e (hf i hi x)
  ·exact h.val i x (by rw [(hs d env env' hg).2 i hi];exact e)⟩
def ActOk (K:Frag) (Pre:Env->Prop) (ta:TAct) (act:Env->Sto->Res (List D)):Prop:=∀(w:Wd) (env:Env) (τ:St) (acc:List V) (accD xs:List D) (s':Sto) (Q:St->List V->Hp->Prop),Pre env->StoOk K w->EnvOk K w env τ->DVs K w accD acc ->
 act env w.sto=some (.ok xs,s')->acc.length+xs.length<=sizeLine->(∀w' τ' vs,Le K w w'->StoOk K w'->w'.sto=s'->EnvOk K w' env τ'->DVs K w' (accD++xs) vs->Q τ' vs w'.H)->ta τ w.H acc Q
theorem bnd_some {α β:Type} {r:Res α} {k:α->Sto->Res β} {b:β} {s':Sto} (h:bnd r k=some (.ok b,s')):∃a s,r=some (.ok a,s)/\k a s=some (.ok b,s'):=by
 match r,h with
 |some (.ok a,s),h=>exact ⟨a,s,rfl,h⟩
theorem ne_some {α:Type} {r:Res α} {a:α} {s:Sto} (h:ne r=some (.ok a,s)):r=some (.ok a,s):=by
 match r,h with
 |some (.ok b,s2),h=>exact h
theorem act_emit_ok {K:Frag} {f:Env->Sto->Res D}:ActOk K (fun _=>True) (tEmit (tE K NoX f)) (emit f):=by
 intro w env τ acc accD xs s' Q _ S eo da h hl hQ
 obtain ⟨x,s1,h1,h2⟩:=bnd_some h
 cases h2
 refine ⟨by simpa using hl,w,env,rfl,S,eo,?_⟩
 rw [h1]
 intro w' le S' e' v dv
 exact hQ w' τ (acc++[v]) le S' e' (eo.le le) (DVs.append (le.all da) (DVs.one dv))
theorem clause_ok {K:Frag} {Pre:Env->Prop} {g0:TG} {g:D->Env->Option Env} {nt:Nat} {sl:List Nat} {t:Env->Sto->Res Bool} {act:Env->Sto->Res (List D)} {ta:TAct} {env:Env} {w1:Wd} {J:It} {ds xs accD:List D} {s':Sto} {τ:St} {acc:List V} {Q:St->List V->Hp->Prop}
  (T:Tg K g0 g nt) (hs:Sl g sl) (hf:Fre sl env) (hp:∀d env',g d env=some env'->Pre env') (hA:ActOk K Pre ta act) (hJ:ItD K w1 J ds) (S1:StoOk K w1) (eo:EnvOk K w1 env τ) (da:DVs K w1 accD acc)
  (h:clGo g t act env ds w1.sto=some (.ok xs,s')) (hl:acc.length+xs.length<=sizeLine) (hQ:∀w' τ' vs,Le K w1 w'->StoOk K w'->w'.sto=s'->EnvOk K w' env τ'->DVs K w' (accD++xs) vs->Q τ' vs w'.H) :
  CA J g0 (tT K NoX t) ta τ acc w1.H Q:=by
 refine ⟨fun i m τ acc H'=>m=ds.length-i/\i<=ds.length/\∃w' accD xs,w'.H=H'/\Le K w1 w'/\StoOk K w'/\EnvOk K w' env τ/\DVs K w' accD acc/\clGo g t act env (ds.drop i) w'.sto=some (.ok xs,s')/\acc.length+xs.length<=sizeLine /\
   (∀w2 τ' vs,Le K w' w2->StoOk K w2->w2.sto=s'->EnvOk K w2 env τ'->DVs K w2 (accD++xs) vs->Q τ' vs w2.H),
  ⟨ds.length,rfl,Nat.zero_le _,w1,accD,xs,rfl,Le.refl _,S1,eo,da,h,hl,hQ⟩,?_⟩
 rintro i m τ acc H' ⟨rfl,hi,w',accD,xs,rfl,l',S',eo',da',h',hl',hQ'⟩
 by_cases hlt:i<ds.length
 ·right
  obtain ⟨hgo,hy⟩:=(hJ w' l' S' i).1 _ (List.getElem?_eq_getElem hlt)
  rw [List.drop_eq_getElem_cons hlt] at h'
  simp only [clGo] at h'
  cases hg:g ds[i] env with
  |none=>rw [hg] at h';cases h'
  |some env2 =>
   rw [hg] at h'
   obtain ⟨b,s2,hb,h2⟩:=bnd_some h'
   have hb:=ne_some hb
   refine ⟨hgo,fun τ acc H2=>∃w' accD xs,w'.H=H2/\Le K w1 w'/\StoOk K w'/\EnvOk K w' env τ/\DVs K w' accD acc/\clGo g t act env (ds.drop (i+1)) w'.sto=some (.ok xs,s')/\acc.length+xs.length<=sizeLine /\
    (∀w2 τ' vs,Le K w' w2->StoOk K w2->w2.sto=s'->EnvOk K w2 env τ'->DVs K w2 (accD++xs) vs->Q τ' vs w2.H),fun τ2 acc2 H2 q=>⟨ds.length-(i+1),by omega,rfl,hlt,q⟩,fun x H3 y=>?_⟩
   obtain ⟨w2,rfl,l2,S2,es,dv⟩:=hy x H3 y
   refine T.imp _ _ _ _ ⟨w2,env,ds[i],env2,rfl,S2,eo'.le l2,dv,hg,fun σ2 eo2=>⟨w2,env2,rfl,S2,eo2,?_⟩⟩
   have hlen:∀{σ3:St},σ3.length=σ2.length->env2.length=σ3.length:=fun e=>by rw [eo2.len,e]
   have el:env.length=env2.length\/True:=.inr trivial
   rw [es,hb]
   intro w3 l3 S3 e3
   cases b with
   |true =>
    rw [if_pos rfl] at h2 |-
    obtain ⟨ys,s3,hy',h3⟩:=bnd_some h2
    have hy':=ne_some hy'
    obtain ⟨zs,s4,hz,h4⟩:=bnd_some h3
    cases h4
    rw [<- e3] at hy'
    refine hA w3 env2 σ2 acc accD ys s3 _ (hp _ _ hg) S3 (eo2.le l3) ((l2.trans l3).all da') hy' (by rw [List.length_append] at hl';omega) fun w4 τ4 vs l4 S4 e4 eo4 dvs4=>?_
    have lv:=dvs4.length
    refine ⟨w4,accD++ys,zs,rfl,l'.trans (l2.trans (l3.trans l4)),S4,eo4.back hs hf hg ?_,dvs4,by rw [e4];exact hz,?_,fun w5 τ5 vs5 l5 S5 e5 eo5 dvs5=>hQ' w5 τ5 vs5 (l2.trans (l3.trans (l4.trans l5))) S5 e5 eo5 (by rw [<- List.append_assoc];exact dvs5)⟩
    ·rw [<- eo4.len]
     exact (len_same hs hg).symm
    ·rw [List.length_append] at hl' lv
     have:=da'.length
     omega
   |false =>
    rw [if_neg Bool.false_ne_true] at h2 |-
    exact ⟨w3,accD,xs,rfl,l'.trans (l2.trans l3),S3,(eo2.le l3).back hs hf hg (by rw [<- eo2.len];exact (len_same hs hg).symm),(l2.trans l3).all da',by rw [e3];exact h2,hl',fun w5 τ5 vs5 l5 S5 e5 eo5 dvs5=>hQ' w5 τ5 vs5 (l2.trans (l3.trans l5)) S5 e5 eo5 dvs5⟩
 ·left
  have e:i=ds.length:=by omega
  subst e
  rw [List.drop_length] at h'
  cases h'
  exact ⟨(hJ w' l' S' _).2 (Nat.le_refl _),hQ' w' τ acc (Le.refl _) S' rfl eo' (by rw [List.append_nil];exact da')⟩
theorem act_more_ok {K:Frag} {Pre Pre':Env->Prop} {g0:TG} {g:D->Env->Option Env} {nt:Nat} {sl:List Nat} {it:Env->Sto->Res (List D)} {t:Env->Sto->Res Bool} {act:Env->Sto->Res (List D)} {ta:TAct} (T:Tg K g0 g nt) (hs:Sl g sl) (hA:ActOk K Pre ta act)
  (h1:∀env,Pre' env->Fre sl env) (h2:∀d env env',Pre' env->g d env=some env'->Pre env'):ActOk K Pre' (tMore (tIt K NoX it) g0 (tT K NoX t) ta) (more it g t act):=by
 intro w env τ acc accD xs s' Q hp S eo da h hl hQ
 obtain ⟨ds,s1,hd,h3⟩:=bnd_some h
 refine ⟨w,env,rfl,S,eo,?_⟩
 rw [hd]
 intro w1 l1 S1 e1 J hJ
 exact clause_ok T hs (h1 env hp) (fun d env' hg=>h2 d env env' hp hg) hA hJ S1 (eo.le l1) (l1.all da) (by rw [e1];exact h3) hl fun w' τ' vs l' S' e' eo' dvs=>hQ w' τ' vs (l1.trans l') S' e' eo' dvs
theorem compA_imp {K:Frag} {Ξ:Wd->Exn->Prop} {Pre:Env->Prop} {nt:Nat} {cap:List Nat} {it:Env->Sto->Res (List D)} {g0:TG} {g:D->Env->Option Env} {sl:List Nat} {t:Env->Sto->Res Bool} {act:Env->Sto->Res (List D)} {ta:TAct} (T:Tg K g0 g nt) (hs:Sl g sl) (hsl:∀i∈sl,i<nt) (hA:ActOk K Pre ta act)
  (hp:∀d caps env',g d (List.replicate nt none++caps)=some env'->Pre env') (σ:St) (H:Hp) (Q:VK) :
  tE K Ξ (eCompA nt cap it g t act) σ H Q->tCompA (tIt K Ξ it) nt cap g0 (tT K NoX t) ta σ H Q:=by
 rintro ⟨w,env,rfl,S,eo,h⟩
 refine ⟨w,env,rfl,S,eo,(Out.bnd h).mono fun w1 ds l1 S1 h1 J hJ=>?_⟩
 cases hr:clGo g t act (List.replicate nt none++capsE cap env) ds w1.sto with
 |none=>rw [hr] at h1;exact h1.elim
 |some r =>
  obtain ⟨r,s'⟩:=r
  rw [hr] at h1
  cases r with
  |error x=>exact h1.elim
  |ok xs =>
   have h1:Out K Ξ w1 (lenOk xs (ok (D.lst xs) s')) (fun w' d=>∀v,DV K w' d v->Q v w'.H):=h1
   obtain ⟨hz,h1⟩:=lenOk_of h1
   have eb:=(eo.le l1).block nt cap (List.replicate nt none) (by simp)
   refine clause_ok T hs (fun i hi d e=>?_) (fun d env' hg=>hp d _ env' hg) hA hJ S1 eb (accD:=[]) rfl hr (by simpa using hz) fun w' τ' vs l' S' e' eo' dvs p hpn=>?_
   ·rw [List.getElem?_append_left (by simpa using hsl i hi),List.getElem?_replicate,if_pos (hsl i hi)] at e
    cases e
   ·exact h1 (w'.grow p (.lst vs)) (l'.trans (Fw.grow hpn).le) (S'.grow hpn) e' (.ref p) ⟨p,vs,rfl,⟨(show ¬ w'.Z p from nZ_new S' hpn),upd_same⟩,(Fw.grow hpn).le.all dvs⟩
theorem Fre.of {nt:Nat} {g:D->Env->Option Env} {sl sl2:List Nat} (hs:Sl g sl) (hd:∀i∈sl2,i<nt/\i∉sl) {d:D} {caps env':Env} (hg:g d (List.replicate nt none++caps)=some env'):Fre sl2 env':=fun i hi x e=>by
 obtain ⟨h1,h2⟩:=hd i hi
 rw [(hs _ _ _ hg).2 i h2,List.getElem?_append_left (by simpa using h1),List.getElem?_replicate,if_pos h1] at e
 cases e
theorem Fre.on {g:D->Env->Option Env} {sl sl2:List Nat} (hs:Sl g sl) (hd:∀i∈sl2,i∉sl) {d:D} {env env':Env} (hf:Fre sl2 env) (hg:g d env=some env'):Fre sl2 env':=fun i hi x e=>by
 rw [(hs _ _ _ hg).2 i (hd i hi)] at e
 exact hf i hi x e
section
variable {X:Cx} {Ξ:Wd->Exn->Prop} {el tg src tg2 src2 tg3 src3:Expr} {tests tests2 tests3:List Expr} {sc:Scope} {ps pos:Pos} {N:List Str} {nt:Nat} {cap:List Nat} {it it2 it3:Env->Sto->Res (List D)} {gd gd2 gd3:D->Env->Option Env} {g0 g02 g03:TG} {sl sl2 sl3:List Nat} {ft ft2 ft3:Env->Sto->Res Bool} {f:Env->Sto->Res D}
noncomputable abbrev eComp2 (nt:Nat) (cap:List Nat) (it:Env->Sto->Res (List D)) (g:D->Env->Option Env) (t:Env->Sto->Res Bool) (it2:Env->Sto->Res (List D)) (g2:D->Env->Option Env) (t2:Env->Sto->Res Bool) (f:Env->Sto->Res D):Env->Sto->Res D:=eCompA nt cap it g t (more it2 g2 t2 (emit f))
noncomputable def apart (nt:Nat) (sl sl2:List Nat):Bool:=sl2.all (fun i=>decide (i<nt)&&!sl.contains i)
theorem apart_of {nt:Nat} {sl sl2:List Nat} (h:apart nt sl sl2=true):∀i∈sl2,i<nt/\i∉sl:=fun i hi=>by
 have:=List.all_eq_true.mp h i hi
 simp only [Bool.and_eq_true,decide_eq_true_eq,Bool.not_eq_true',List.contains_eq_mem,decide_eq_false_iff_not] at this
 exact this
noncomputable abbrev actE (e el:Expr) (d:Nat):PySem.Env->Addr->Addr->Sem PySem.Fin:=fun ce D it=>(do let _ <- call (.builtin "list.append") [.ref D,<- eval el ce]:Sem Unit) >>= fun _=>again (.compLoop e d (.ref it) (.ref D) ce)
noncomputable abbrev actM (e src:Expr) (d:Nat):PySem.Env->Addr->Addr->Sem PySem.Fin:=fun ce D it=>do
 let x <- eval src ce
 standAt src.pos
 let x <- foldedSetIterable src ce x
 let _ <- runOwn (.compStart e (d+1) (<- holding [x] (pyIter x)) (.ref D) ce) ce
 again (.compLoop e d (.ref it) (.ref D) ce)
theorem e_comp2 (hc:X.calm=true) (S:CScope X sc N nt cap) (T:Tg X.K g0 gd nt) (hs1:Sl gd sl) (T2:Tg X.K g02 gd2 nt) (hs2:Sl gd2 sl2) (hi:PI X tg src (tIt X.K Ξ it))
  (hY:∀(cl:List (Str×Addr)) (C:Addr) (s:Shared) (H:Hp) (ex:List Addr) (pn:List (Addr×Obj)),PG (cxC X N sc cl C s H ex pn) tg g0/\PF (cxC X N sc cl C s H ex pn) tests (tT X.K NoX ft)/\PI (cxC X N sc cl C s H ex pn) tg2 src2 (tIt X.K NoX it2)/\PG (cxC X N sc cl C s H ex pn) tg2 g02/\PF (cxC X N sc cl C s H ex pn) tests2 (tT X.K NoX ft2)/\PE (cxC X N sc cl C s H ex pn) el (tE X.K NoX f))
  (h12:apart nt sl sl2=true:=by rfl) (h11:apart nt [] sl=true:=by rfl)
  (hs:∀x,foldedSetIterable src X.env x=pure x:=by intro _;rfl) (hf2:∀ce x,foldedSetIterable src2 ce x=pure x:=by intro _ _;rfl):PE X (.ListComp el [⟨tg,src,tests,0⟩,⟨tg2,src2,tests2,0⟩] sc ps) (tE X.K Ξ (eComp2 nt cap it gd ft it2 gd2 ft2 f)) :=
 pe_imp (pe_compA (act:=actM (.ListComp el [⟨tg,src,tests,0⟩,⟨tg2,src2,tests2,0⟩] sc ps) src2 0) hc S T.gok hi (fun cl C s H ex pn=>by
   obtain ⟨y1,y2,y3,y4,y5,y6⟩:=hY cl C s H ex pn
   exact ⟨y1,y2,fun D caps it=>act_more (d:=1) (act:=fun it'=>actE (.ListComp el [⟨tg,src,tests,0⟩,⟨tg2,src2,tests2,0⟩] sc ps) el 1 _ D it') rfl hc rfl y3 y4 T2.gok y5 (fun it'=>act_emit rfl y6) (fun _=>rfl) (hf2 _)⟩) (fun _ _ _=>rfl) hs)
  (compA_imp (Pre:=Fre sl2) T hs1 (fun i hi=>(apart_of h11 i hi).1) (act_more_ok T2 hs2 act_emit_ok (fun _ h=>h) (fun _ _ _ _ _=>trivial)) fun d caps env' hg=>Fre.of hs1 (apart_of h12) hg)
end
end DI
namespace L2
open PySem PySem.Spec PyProof.Rows
noncomputable abbrev Cx.inb (X:Cx):Cx:={ X with A:=X.A.in1,xe:=fun _ _=>False }
theorem Inv.inb {X:Cx} {pins:List (Addr×Obj)} {σ:St} {H:Hp} {s:Shared} (I:Inv X pins σ H s):Inv X.inb pins σ H s :=
 ⟨⟨I.ok.mod,I.ok.kind,I.ok.glob,I.ok.blt,I.ok.above,I.ok.inj,I.ok.has,I.ok.cab,I.ok.hd,I.ok.frames,I.ok.stk,I.ok.exf,I.ok.bs,I.ok.bsz,I.ok.noex,I.ok.exfs,I.ok.funs,I.ok.frf⟩,I.os,I.bare,I.base,I.loc,I.cell,I.free,I.freeC,I.pin,I.hok,I.len⟩
theorem Inv.outb {X:Cx} {pins:List (Addr×Obj)} {σ:St} {H:Hp} {s:Shared} (I:Inv X.inb pins σ H s):Inv X pins σ H s :=
 ⟨⟨I.ok.mod,I.ok.kind,I.ok.glob,I.ok.blt,I.ok.above,I.ok.inj,I.ok.has,I.ok.cab,I.ok.hd,I.ok.frames,I.ok.stk,I.ok.exf,I.ok.bs,I.ok.bsz,I.ok.noex,I.ok.exfs,I.ok.funs,I.ok.frf⟩,I.os,I.bare,I.base,I.loc,I.cell,I.free,I.freeC,I.pin,I.hok,I.len⟩
def KeyR (X:Cx) (kv:Value) (rk:V->Hp->VK->Prop):Prop :=
 ∀(pins:List (Addr×Obj)) (s:Shared) (σ:St) (H:Hp) (x:V) (v:Value) (Q:VK),Inv X pins σ H s->RelV x v->rk x H Q->wpAny (model X.prog X.w) X.A (call kv [v]) (EP X pins σ Q) X.xe s
noncomputable def tMM (K:Frag) (l:Addr) (all:List V) (rk:V->Hp->VK->Prop) (rc:R2):List V->V->V->Hp->VK->Prop
 | [],vb,_,H,Q=>SqL K H l all/\Q vb H
 |x::xs,vb,kb,H,Q=>SqL K H l all/\rk x H fun k H1=>rc k kb H1 fun z H2=>∃b,z=.bl b/\if b=true then tMM K l all rk rc xs x k H2 Q else tMM K l all rk rc xs vb kb H2 Q
def tMM0 (K:Frag) (l:Addr) (all:List V) (rk:V->Hp->VK->Prop) (rc:R2) (dv:V) (H:Hp) (Q:VK):Prop:=SqL K H l all/\match all with
 | []=>Q dv H
 |x::xs=>rk x H fun k H1=>tMM K l all rk rc xs x k H1 Q
noncomputable abbrev rkN:V->Hp->VK->Prop:=fun x H Q=>Q x H
def mmPost (X:Cx) (pins:List (Addr×Obj)) (σ:St) (Q:VK) (r:Result) (s':Shared):Prop:=match r with
 | .ok (.ret v)=>EP X pins σ Q v s'
 | .ok _=>False
 | .error e=>X.xe e s'
theorem max_loopB {X:Cx} {l I S:Addr} {bid:String} {kw:List (Str×Value)} {all:List V} {pins:List (Addr×Obj)} {σ:St} {rk:V->Hp->VK->Prop} {rc:R2} {Q:VK} (hc:X.calm=true) (hlI:l≠I) (hSI:S≠I) (hSl:S≠l) (hK:KeyR X.inb (.builtin bid) rk) (hC:OpR X.inb (compareOp .Gt) rc) :
  ∀(rest:List V) (j:Nat) (s:Shared) (H:Hp) (vb kb:V) (ub uk:Value) (c:Nat),all.drop j=rest->j<=all.length->Inv X.inb pins σ H s->FpOk X pins H S->FpOk X pins H I->s.heap.get? S=some { cls:=.type "list",dict:=none,data:=.seq #[ub,uk] c,slots:=#[] }->s.heap.IsListIter I l j->RelV vb ub->RelV kb uk ->
   tMM X.K l all rk rc rest vb kb H Q->codeAny (model X.prog X.w) X.A (.builtin "max.loop" ⟨[.ref I,.builtin bid,.ref S],kw⟩) (mmPost X pins σ Q) s:=by
 have hname:(toString "max"++toString ".loop":String)="max.loop":=by decide
 intro rest
 induction rest with
 |nil =>
  intro j s H vb kb ub uk c hd hjl I0 fS fI gS hit rb rk' h
  obtain ⟨hq,h⟩:=h
  have hj:j=all.length:=Nat.le_antisymm hjl (by simpa using hd)
  subst hj
  obtain ⟨its,rv,pl,hz⟩:=I0.list hq
  have hh:X.A.in1.handled=none:=I0.ok.hd hc
  have W:=Walks.list (prog:=X.prog) (w:=X.w) (A:=X.A.in1) hh I l hlI its.toArray
  have hsz:its.toArray.size=all.length:=by rw [List.size_toArray];exact rv.length.symm
  refine codeAny_builtin PySem.F.entry_max_loop ?_
  rw [Around.under_plainId PySem.F.plain_max_loop _]
  show wpAny _ X.A.in1 (seqItems? (.ref S) >>= _) _ _ _
  refine wpAny_bind (wpAny_seqItems gS rfl ?_)
  show wpAny _ X.A.in1 (tryCatch (pyNext (.ref I)) _ >>= _) _ _ _
  refine wpAny_bind (wpAny_tryCatch (W.done _ _ _ ⟨by rw [hsz];exact hit,pl.isList⟩ fun h' tk' hk'=>?_))
  have gS':=hk' S _ (by simpa using hSI) gS
  have I1:Inv X.inb pins σ H { s with heap:=h',toks:=tk' }:=I0.turned (it:=I) (fun b o hb e=>hk' b o (by simpa using hb) e) fI.1 fI.2.1 fI.2.2.2.1 fI.2.2.2.2.1 fI.2.2.2.2.2
  show wpAny _ X.A.in1 (updateSeq S (fun _=>#[]) >>= _) _ _ _
  refine wpAny_bind ?_
  refine wpAny_updateSeq gS' rfl (wpAny_bind (wpAny_letGo (wpAny_pure ?_)))
  have I2:=I1.turned (h':=h'.update S (Obj.mapSeq fun _=>(#[]:Array Value))) (t':=tk') (it:=S) (fun b o hb e=>(Heap.get?_update_other _ _ (Ne.symm hb)).trans e) fS.1 fS.2.1 fS.2.2.2.1 fS.2.2.2.2.1 fS.2.2.2.2.2
  exact ⟨vb,H,I2.outb,rb,h⟩
 |cons x rest ih =>
  intro j s H vb kb ub uk c hd hjl I0 fS fI gS hit rb rkb h
  obtain ⟨hq,h⟩:=h
  have hx:all[j]?=some x:=by
   have:=congrArg (fun l=>l[0]?) hd
   simpa using this
  have hd':all.drop (j+1)=rest:=by
   have:=congrArg (List.drop 1) hd
   simpa [List.drop_drop] using this
  obtain ⟨its,rv,pl,hz⟩:=I0.list hq
  have hh:X.A.in1.handled=none:=I0.ok.hd hc
  have W:=Walks.list (prog:=X.prog) (w:=X.w) (A:=X.A.in1) hh I l hlI its.toArray
  have hsz:its.toArray.size=all.length:=by rw [List.size_toArray];exact rv.length.symm
  refine codeAny_builtin PySem.F.entry_max_loop ?_
  rw [Around.under_plainId PySem.F.plain_max_loop _]
  show wpAny _ X.A.in1 (seqItems? (.ref S) >>= _) _ _ _
  refine wpAny_bind (wpAny_seqItems gS rfl ?_)
  show wpAny _ X.A.in1 (tryCatch (pyNext (.ref I)) _ >>= _) _ _ _
  refine wpAny_bind (wpAny_tryCatch (W.item j _ _ _ (by rw [hsz];exact (List.getElem?_eq_some_iff.mp hx).1) ⟨hit,pl.isList⟩ fun v h' tk' hP hst' hk'=>?_))
  obtain ⟨v',hv',rx⟩:=rv.get hx
  have ev:v'=v:=by
   have:its.toArray[j]?=some v:=hP
   rw [List.getElem?_toArray,hv'] at this
   exact Option.some.inj this
  subst ev
  have gS':=hk' S _ (by simpa using hSI) gS
  have I1:Inv X.inb pins σ H { s with heap:=h',toks:=tk' }:=I0.turned (it:=I) (fun b o hb e=>hk' b o (by simpa using hb) e) fI.1 fI.2.1 fI.2.2.2.1 fI.2.2.2.2.1 fI.2.2.2.2.2
  obtain ⟨oI,hoI,hoc,hod⟩:=id hst'.1
  have nS:∀v,({ cls:=.type "list",dict:=none,data:=.seq #[ub,uk] c,slots:=#[] }:Obj).data≠.cell v:=fun v z=>by cases z
  have nI:∀v,oI.data≠.cell v:=fun v z=>by rw [hod] at z;cases z
  have I2:=I1.pins_of (pins':=pins++[(S,{ cls:=.type "list",dict:=none,data:=.seq #[ub,uk] c,slots:=#[] }),(I,oI)]) fun p hp=>by
   rcases List.mem_append.mp hp with z|z
   ·exact I1.pin p (List.mem_append_right _ z)
   ·rcases List.mem_cons.mp z with rfl|z
    ·exact ⟨gS',fS.1,fS.2.1,fS.2.2.1,nS⟩
    ·rw [List.mem_singleton.mp z]
     exact ⟨hoI,fI.1,fI.2.1,fI.2.2.1,nI⟩
  show wpAny _ X.A.in1 (tryCatch (holding [v'] (call (.builtin bid) [v'])) _ >>= _) _ _ _
  refine wpAny_bind (wpAny_tryCatch (wpAny_holding (wpAny_mono (hK _ _ σ H x v' _ I2 rx h) (fun uv s2 hk2=>?_) fun _ _ z=>z.elim)))
  obtain ⟨k,H2,I3,rk2,h⟩:=hk2
  show wpAny _ X.A.in1 (tryCatch (holding [v',uv] (richCompare .Gt uv uk >>= _)) _ >>= _) _ _ _
  refine wpAny_bind (wpAny_tryCatch (wpAny_holding (wpAny_bind (wpAny_mono (hC _ s2 σ H2 k kb uv uk _ I3 rk2 rkb h) (fun z s3 hz3=>?_) fun _ _ z=>z.elim))))
  obtain ⟨zv,H3,I4,rz,b,eb,h⟩:=hz3
  subst eb
  cases rz
  refine wpAny_bind (wpAny_holding (wpAny_truthy_bool ?_))
  refine wpAny_bind (wpAny_letGo (wpAny_pure ?_))
  have pS:=I4.pin (S,{ cls:=.type "list",dict:=none,data:=.seq #[ub,uk] c,slots:=#[] }) (List.mem_append_right _ (List.mem_append_right _ (by simp)))
  have pI:=I4.pin (I,oI) (List.mem_append_right _ (List.mem_append_right _ (by simp)))
  have I5:Inv X.inb pins σ H3 s3:=I4.unpinned
  have fS3:FpOk X pins H3 S:=⟨pS.2.1,fS.2⟩
  have fI3:FpOk X pins H3 I:=⟨pI.2.1,fI.2⟩
  cases b with
  |true =>
   rw [if_pos rfl] at h
   rw [if_pos rfl]
   refine wpAny_bind ?_
   refine wpAny_updateSeq pS.1 rfl (wpAny_bind (wpAny_letGo ?_))
   rw [hname]
   obtain ⟨c2,hc2⟩:∃c2,(s3.heap.update S (Obj.mapSeq fun _=>#[v',uv])).get? S=some { cls:=.type "list",dict:=none,data:=.seq #[v',uv] c2,slots:=#[] }:=⟨_,Heap.get?_update_self _ pS.1 rfl⟩
   have I6:Inv X.inb pins σ H3 { s3 with heap:=s3.heap.update S (Obj.mapSeq fun _=>#[v',uv]),toks:=s3.toks }:=I5.turned (t':=s3.toks) (it:=S) (fun b o hb e=>(Heap.get?_update_other _ _ (Ne.symm hb)).trans e) fS3.1 fS3.2.1 fS3.2.2.2.1 fS3.2.2.2.2.1 fS3.2.2.2.2.2
   exact wpAny_pure ⟨plainId_quiet PySem.F.plain_max_loop _,ih (j+1) _ H3 x k v' uv c2 hd' (List.getElem?_eq_some_iff.mp hx).1 I6 fS3 fI3 hc2 ⟨oI,(Heap.get?_update_other _ _ hSI).trans pI.1,hoc,hod⟩ rx rk2 h⟩
  |false =>
   rw [if_neg Bool.false_ne_true] at h
   rw [if_neg Bool.false_ne_true]
   refine wpAny_bind (wpAny_letGo ?_)
   rw [hname]
   exact wpAny_pure ⟨plainId_quiet PySem.F.plain_max_loop _,ih (j+1) _ H3 vb kb ub uk c hd' (List.getElem?_eq_some_iff.mp hx).1 I5 fS3 fI3 pS.1 ⟨oI,pI.1,hoc,hod⟩ rb rkb h⟩
theorem max_loopN {X:Cx} {l I S:Addr}  {kw:List (Str×Value)} {all:List V} {pins:List (Addr×Obj)} {σ:St} {rc:R2} {Q:VK} (hc:X.calm=true) (hlI:l≠I) (hSI:S≠I) (hSl:S≠l) (hC:OpR X.inb (compareOp .Gt) rc) :
  ∀(rest:List V) (j:Nat) (s:Shared) (H:Hp) (vb kb:V) (ub uk:Value) (c:Nat),all.drop j=rest->j<=all.length->Inv X.inb pins σ H s->FpOk X pins H S->FpOk X pins H I->s.heap.get? S=some { cls:=.type "list",dict:=none,data:=.seq #[ub,uk] c,slots:=#[] }->s.heap.IsListIter I l j->RelV vb ub->RelV kb uk ->
   tMM X.K l all rkN rc rest vb kb H Q->codeAny (model X.prog X.w) X.A (.builtin "max.loop" ⟨[.ref I,.none,.ref S],kw⟩) (mmPost X pins σ Q) s:=by
 have hname:(toString "max"++toString ".loop":String)="max.loop":=by decide
 intro rest
 induction rest with
 |nil =>
  intro j s H vb kb ub uk c hd hjl I0 fS fI gS hit rb rk' h
  obtain ⟨hq,h⟩:=h
  have hj:j=all.length:=Nat.le_antisymm hjl (by simpa using hd)
  subst hj
  obtain ⟨its,rv,pl,hz⟩:=I0.list hq
  have hh:X.A.in1.handled=none:=I0.ok.hd hc
  have W:=Walks.list (prog:=X.prog) (w:=X.w) (A:=X.A.in1) hh I l hlI its.toArray
  have hsz:its.toArray.size=all.length:=by rw [List.size_toArray];exact rv.length.symm
  refine codeAny_builtin PySem.F.entry_max_loop ?_
  rw [Around.under_plainId PySem.F.plain_max_loop _]
  show wpAny _ X.A.in1 (seqItems? (.ref S) >>= _) _ _ _
  refine wpAny_bind (wpAny_seqItems gS rfl ?_)
  show wpAny _ X.A.in1 (tryCatch (pyNext (.ref I)) _ >>= _) _ _ _
  refine wpAny_bind (wpAny_tryCatch (W.done _ _ _ ⟨by rw [hsz];exact hit,pl.isList⟩ fun h' tk' hk'=>?_))
  have gS':=hk' S _ (by simpa using hSI) gS
  have I1:Inv X.inb pins σ H { s with heap:=h',toks:=tk' }:=I0.turned (it:=I) (fun b o hb e=>hk' b o (by simpa using hb) e) fI.1 fI.2.1 fI.2.2.2.1 fI.2.2.2.2.1 fI.2.2.2.2.2
  show wpAny _ X.A.in1 (updateSeq S (fun _=>#[]) >>= _) _ _ _
  refine wpAny_bind ?_
  refine wpAny_updateSeq gS' rfl (wpAny_bind (wpAny_letGo (wpAny_pure ?_)))
  have I2:=I1.turned (h':=h'.update S (Obj.mapSeq fun _=>(#[]:Array Value))) (t':=tk') (it:=S) (fun b o hb e=>(Heap.get?_update_other _ _ (Ne.symm hb)).trans e) fS.1 fS.2.1 fS.2.2.2.1 fS.2.2.2.2.1 fS.2.2.2.2.2
  exact ⟨vb,H,I2.outb,rb,h⟩
 |cons x rest ih =>
  intro j s H vb kb ub uk c hd hjl I0 fS fI gS hit rb rkb h
  obtain ⟨hq,h⟩:=h
  have hx:all[j]?=some x:=by
   have:=congrArg (fun l=>l[0]?) hd
   simpa using this
  have hd':all.drop (j+1)=rest:=by
   have:=congrArg (List.drop 1) hd
   simpa [List.drop_drop] using this
  obtain ⟨its,rv,pl,hz⟩:=I0.list hq
  have hh:X.A.in1.handled=none:=I0.ok.hd hc
  have W:=Walks.list (prog:=X.prog) (w:=X.w) (A:=X.A.in1) hh I l hlI its.toArray
  have hsz:its.toArray.size=all.length:=by rw [List.size_toArray];exact rv.length.symm
  refine codeAny_builtin PySem.F.entry_max_loop ?_
  rw [Around.under_plainId PySem.F.plain_max_loop _]
  show wpAny _ X.A.in1 (seqItems? (.ref S) >>= _) _ _ _
  refine wpAny_bind (wpAny_seqItems gS rfl ?_)
  show wpAny _ X.A.in1 (tryCatch (pyNext (.ref I)) _ >>= _) _ _ _
  refine wpAny_bind (wpAny_tryCatch (W.item j _ _ _ (by rw [hsz];exact (List.getElem?_eq_some_iff.mp hx).1) ⟨hit,pl.isList⟩ fun v h' tk' hP hst' hk'=>?_))
  obtain ⟨v',hv',rx⟩:=rv.get hx
  have ev:v'=v:=by
   have:its.toArray[j]?=some v:=hP
   rw [List.getElem?_toArray,hv'] at this
   exact Option.some.inj this
  subst ev
  have gS':=hk' S _ (by simpa using hSI) gS
  have I1:Inv X.inb pins σ H { s with heap:=h',toks:=tk' }:=I0.turned (it:=I) (fun b o hb e=>hk' b o (by simpa using hb) e) fI.1 fI.2.1 fI.2.2.2.1 fI.2.2.2.2.1 fI.2.2.2.2.2
  obtain ⟨oI,hoI,hoc,hod⟩:=id hst'.1
  have nS:∀v,({ cls:=.type "list",dict:=none,data:=.seq #[ub,uk] c,slots:=#[] }:Obj).data≠.cell v:=fun v z=>by cases z
  have nI:∀v,oI.data≠.cell v:=fun v z=>by rw [hod] at z;cases z
  have I2:=I1.pins_of (pins':=pins++[(S,{ cls:=.type "list",dict:=none,data:=.seq #[ub,uk] c,slots:=#[] }),(I,oI)]) fun p hp=>by
   rcases List.mem_append.mp hp with z|z
   ·exact I1.pin p (List.mem_append_right _ z)
   ·rcases List.mem_cons.mp z with rfl|z
    ·exact ⟨gS',fS.1,fS.2.1,fS.2.2.1,nS⟩
    ·rw [List.mem_singleton.mp z]
     exact ⟨hoI,fI.1,fI.2.1,fI.2.2.1,nI⟩
  refine wpAny_bind (wpAny_pure ?_)
  have hk2:EP X.inb _ σ (fun k H1=>rc k kb H1 (fun z H2=>∃b,z=.bl b/\if b=true then tMM X.K l all rkN rc rest x k H2 Q else tMM X.K l all rkN rc rest vb kb H2 Q)) v' { s with heap:=h',toks:=tk' }:=⟨x,H,I2,rx,h⟩
  obtain ⟨s2,hs2⟩:∃s2:Shared,s2={ s with heap:=h',toks:=tk' }:=⟨_,rfl⟩
  rw [<- hs2] at hk2
  rw [<- hs2]
  obtain ⟨k,H2,I3,rk2,h⟩:=hk2
  show wpAny _ X.A.in1 (tryCatch (holding [v',v'] (richCompare .Gt v' uk >>= _)) _ >>= _) _ _ _
  refine wpAny_bind (wpAny_tryCatch (wpAny_holding (wpAny_bind (wpAny_mono (hC _ s2 σ H2 k kb v' uk _ I3 rk2 rkb h) (fun z s3 hz3=>?_) fun _ _ z=>z.elim))))
  obtain ⟨zv,H3,I4,rz,b,eb,h⟩:=hz3
  subst eb
  cases rz
  refine wpAny_bind (wpAny_holding (wpAny_truthy_bool ?_))
  refine wpAny_bind (wpAny_letGo (wpAny_pure ?_))
  have pS:=I4.pin (S,{ cls:=.type "list",dict:=none,data:=.seq #[ub,uk] c,slots:=#[] }) (List.mem_append_right _ (List.mem_append_right _ (by simp)))
  have pI:=I4.pin (I,oI) (List.mem_append_right _ (List.mem_append_right _ (by simp)))
  have I5:Inv X.inb pins σ H3 s3:=I4.unpinned
  have fS3:FpOk X pins H3 S:=⟨pS.2.1,fS.2⟩
  have fI3:FpOk X pins H3 I:=⟨pI.2.1,fI.2⟩
  cases b with
  |true =>
   rw [if_pos rfl] at h
   rw [if_pos rfl]
   refine wpAny_bind ?_
   refine wpAny_updateSeq pS.1 rfl (wpAny_bind (wpAny_letGo ?_))
   rw [hname]
   obtain ⟨c2,hc2⟩:∃c2,(s3.heap.update S (Obj.mapSeq fun _=>#[v',v'])).get? S=some { cls:=.type "list",dict:=none,data:=.seq #[v',v'] c2,slots:=#[] }:=⟨_,Heap.get?_update_self _ pS.1 rfl⟩
   have I6:Inv X.inb pins σ H3 { s3 with heap:=s3.heap.update S (Obj.mapSeq fun _=>#[v',v']),toks:=s3.toks }:=I5.turned (t':=s3.toks) (it:=S) (fun b o hb e=>(Heap.get?_update_other _ _ (Ne.symm hb)).trans e) fS3.1 fS3.2.1 fS3.2.2.2.1 fS3.2.2.2.2.1 fS3.2.2.2.2.2
   exact wpAny_pure ⟨plainId_quiet PySem.F.plain_max_loop _,ih (j+1) _ H3 x k v' v' c2 hd' (List.getElem?_eq_some_iff.mp hx).1 I6 fS3 fI3 hc2 ⟨oI,(Heap.get?_update_other _ _ hSI).trans pI.1,hoc,hod⟩ rx rk2 h⟩
  |false =>
   rw [if_neg Bool.false_ne_true] at h
   rw [if_neg Bool.false_ne_true]
   refine wpAny_bind (wpAny_letGo ?_)
   rw [hname]
   exact wpAny_pure ⟨plainId_quiet PySem.F.plain_max_loop _,ih (j+1) _ H3 vb kb ub uk c hd' (List.getElem?_eq_some_iff.mp hx).1 I5 fS3 fI3 pS.1 ⟨oI,pI.1,hoc,hod⟩ rb rkb h⟩
theorem args_max_k (a v:Value):argsOk "max" ⟨[a],[(Str.ofString "key",v)]⟩:=by unfold argsOk;kernel_rfl
theorem max_callB {X:Cx} {l:Addr} {bid:String} {all:List V} {pins:List (Addr×Obj)} {σ:St} {H:Hp} {s:Shared} {rk:V->Hp->VK->Prop} {rc:R2} {Q:VK} (hc:X.calm=true) (hK:KeyR X.inb (.builtin bid) rk) (hC:OpR X.inb (compareOp .Gt) rc)
  (I0:Inv X pins σ H s) (hne:all≠[]) (h:tMM0 X.K l all rk rc .non H Q):wpAny (model X.prog X.w) X.A (call (.builtin "max") [.ref l] [(Str.ofString "key",.builtin bid)]) (EP X pins σ Q) X.xe s:=by
 have hname:(toString "max"++toString ".loop":String)="max.loop":=by decide
 obtain ⟨hq,h⟩:=h
 obtain ⟨its,rv,pl,hz⟩:=I0.list hq
 have hll:l<s.heap.objs.size:=by obtain ⟨o,n,ho,_⟩:=pl;exact Heap.lt_size ho
 have hh:X.A.in1.handled=none:=I0.inb.ok.hd hc
 refine kmk_tree PySem.F.kind_max PySem.F.plain_max PySem.F.entry_max (args_max_k _ _) ?_
 show wpAny _ X.A.in1 (Builtin.Builtins.bindParams "max" ["key","default"] 0 ⟨[],[(Str.ofString "key",.builtin bid)]⟩ >>= _) _ _ s
 refine wpAny_bind (wpAny_of_eq (show Builtin.Builtins.bindParams "max" ["key","default"] 0 ⟨[],[(Str.ofString "key",.builtin bid)]⟩=pure [some (.builtin bid),none] from rfl) ?_)
 refine wpAny_bind (wpAny_pure ?_)
 refine wpAny_bind (wpAny_pyIter_list pl.isList ?_)
 refine wpAny_bind (wpAny_newList ?_ (Nat.zero_le _))
 rw [hname]
 generalize hI:s.heap.objs.size=I at *
 have hS:(s.heap.push { cls:=.type "list_iterator",data:=.fields #[.ref l,.int 0 0] }).objs.size=I+1:=by rw [<- hI];exact Heap.size_push ..
 generalize hSe:(s.heap.push { cls:=.type "list_iterator",data:=.fields #[.ref l,.int 0 0] }).objs.size=S at *
 have hlI:l≠I:=Nat.ne_of_lt hll
 have hSI:S≠I:=by rw [hS];exact Nat.succ_ne_self _
 have hSl:S≠l:=by rw [hS];exact Nat.ne_of_gt (Nat.lt_succ_of_lt hll)
 have kk:∀b o,s.heap.get? b=some o->((s.heap.push { cls:=.type "list_iterator",data:=.fields #[.ref l,.int 0 0] }).push { cls:=.type "list",dict:=none,data:=.seq #[] 0,slots:=#[] }).get? b=some o:=fun b o e=>Heap.get?_push_of_some _ (Heap.get?_push_of_some _ e)
 have gI:((s.heap.push { cls:=.type "list_iterator",data:=.fields #[.ref l,.int 0 0] }).push { cls:=.type "list",dict:=none,data:=.seq #[] 0,slots:=#[] }).get? I=some { cls:=.type "list_iterator",data:=.fields #[.ref l,.int 0 0] }:=Heap.get?_push_of_some _ (hI ▸ Heap.get?_push_size _ rfl)
 have gS:((s.heap.push { cls:=.type "list_iterator",data:=.fields #[.ref l,.int 0 0] }).push { cls:=.type "list",dict:=none,data:=.seq #[] 0,slots:=#[] }).get? S=some { cls:=.type "list",dict:=none,data:=.seq #[] 0,slots:=#[] }:=hSe ▸ Heap.get?_push_size _ rfl
 have nI:H I=none:=I0.hok.fresh (Nat.le_of_eq hI)
 have nS:H S=none:=I0.hok.fresh (by rw [hS];exact Nat.le_trans (Nat.le_of_eq hI) (Nat.le_succ _))
 have fI:FpOk X pins H I:=I0.fpOk (Nat.le_of_eq hI) nI
 have fS:FpOk X pins H S:=I0.fpOk (by rw [hS];exact Nat.le_trans (Nat.le_of_eq hI) (Nat.le_succ _)) nS
 have I1:=I0.inb.kept (t':=s.toks) kk
 refine wpAny_pure ⟨plainId_quiet PySem.F.plain_max_loop _,?_⟩
 show codeAny (model X.prog X.w) X.A (.builtin "max.loop" ⟨[.ref I,.builtin bid,.ref S],[]⟩) (mmPost X pins σ Q) _
 have W:=Walks.list (prog:=X.prog) (w:=X.w) (A:=X.A.in1) hh I l hlI its.toArray
 have hsz:its.toArray.size=all.length:=by rw [List.size_toArray];exact rv.length.symm
 have hit:Heap.IsListIter ((s.heap.push { cls:=.type "list_iterator",data:=.fields #[.ref l,.int 0 0] }).push { cls:=.type "list",dict:=none,data:=.seq #[] 0,slots:=#[] }) I l 0:=⟨_,gI,rfl,rfl⟩
 have isl:Heap.IsList ((s.heap.push { cls:=.type "list_iterator",data:=.fields #[.ref l,.int 0 0] }).push { cls:=.type "list",dict:=none,data:=.seq #[] 0,slots:=#[] }) l its.toArray:=pl.isList.at fun o e=>kk l o e
 refine codeAny_builtin PySem.F.entry_max_loop ?_
 rw [Around.under_plainId PySem.F.plain_max_loop _]
 show wpAny _ X.A.in1 (seqItems? (.ref S) >>= _) _ _ _
 refine wpAny_bind (wpAny_seqItems gS rfl ?_)
 show wpAny _ X.A.in1 (tryCatch (pyNext (.ref I)) _ >>= _) _ _ _
 cases all with
 |nil =>
  exact absurd rfl hne
 |cons x rest =>
  refine wpAny_bind (wpAny_tryCatch (W.item 0 _ _ _ (by rw [hsz];simp) ⟨hit,isl⟩ fun v h' tk' hP hst' hk'=>?_))
  obtain ⟨v',hv',rx⟩:=rv.get (i:=0) (x:=x) rfl
  have ev:v'=v:=by
   have:its.toArray[0]?=some v:=hP
   rw [List.getElem?_toArray,hv'] at this
   exact Option.some.inj this
  subst ev
  have gS':=hk' S _ (by simpa using hSI) gS
  have I2:=I1.turned (h':=h') (t':=tk') (it:=I) (fun b o hb e=>hk' b o (by simpa using hb) e) fI.1 fI.2.1 fI.2.2.2.1 fI.2.2.2.2.1 fI.2.2.2.2.2
  obtain ⟨oI,hoI,hoc,hod⟩:=id hst'.1
  have cS:∀v,({ cls:=.type "list",dict:=none,data:=.seq #[] 0,slots:=#[] }:Obj).data≠.cell v:=fun v z=>by cases z
  have cI:∀v,oI.data≠.cell v:=fun v z=>by rw [hod] at z;cases z
  have I3:=I2.pins_of (pins':=pins++[(S,{ cls:=.type "list",dict:=none,data:=.seq #[] 0,slots:=#[] }),(I,oI)]) fun p hp=>by
   rcases List.mem_append.mp hp with z|z
   ·exact I2.pin p (List.mem_append_right _ z)
   ·rcases List.mem_cons.mp z with rfl|z
    ·exact ⟨gS',fS.1,fS.2.1,fS.2.2.1,cS⟩
    ·rw [List.mem_singleton.mp z]
     exact ⟨hoI,fI.1,fI.2.1,fI.2.2.1,cI⟩
  show wpAny _ X.A.in1 (tryCatch (holding [v'] (call (.builtin bid) [v'])) _ >>= _) _ _ _
  refine wpAny_bind (wpAny_tryCatch (wpAny_holding (wpAny_mono (hK _ _ σ H x v' _ I3 rx h) (fun uv s2 hk2=>?_) fun _ _ z=>z.elim)))
  obtain ⟨k,H2,I4,rk2,h⟩:=hk2
  have pS:=I4.pin (S,{ cls:=.type "list",dict:=none,data:=.seq #[] 0,slots:=#[] }) (List.mem_append_right _ (List.mem_append_right _ (by simp)))
  have pI:=I4.pin (I,oI) (List.mem_append_right _ (List.mem_append_right _ (by simp)))
  have I5:Inv X.inb pins σ H2 s2:=I4.unpinned
  have fS3:FpOk X pins H2 S:=⟨pS.2.1,fS.2⟩
  have fI3:FpOk X pins H2 I:=⟨pI.2.1,fI.2⟩
  show wpAny _ X.A.in1 (updateSeq S (fun _=>#[v',uv]) >>= _) _ _ _
  refine wpAny_bind ?_
  refine wpAny_updateSeq pS.1 rfl ?_
  rw [hname]
  obtain ⟨c2,hc2⟩:∃c2,(s2.heap.update S (Obj.mapSeq fun _=>#[v',uv])).get? S=some { cls:=.type "list",dict:=none,data:=.seq #[v',uv] c2,slots:=#[] }:=⟨_,Heap.get?_update_self _ pS.1 rfl⟩
  have I6:Inv X.inb pins σ H2 { s2 with heap:=s2.heap.update S (Obj.mapSeq fun _=>#[v',uv]),toks:=s2.toks }:=I5.turned (t':=s2.toks) (it:=S) (fun b o hb e=>(Heap.get?_update_other _ _ (Ne.symm hb)).trans e) fS3.1 fS3.2.1 fS3.2.2.2.1 fS3.2.2.2.2.1 fS3.2.2.2.2.2
  exact wpAny_pure ⟨plainId_quiet PySem.F.plain_max_loop _,max_loopB hc hlI hSI hSl hK hC rest 1 _ H2 x k v' uv c2 rfl (by simp) I6 fS3 fI3 hc2 ⟨oI,(Heap.get?_update_other _ _ hSI).trans pI.1,hoc,hod⟩ rx rk2 h⟩
theorem args_max_0 (a:Value):argsOk "max" ⟨[a],[]⟩:=by unfold argsOk;kernel_rfl
theorem max_callN {X:Cx} {l:Addr}  {all:List V} {pins:List (Addr×Obj)} {σ:St} {H:Hp} {s:Shared} {rc:R2} {Q:VK} (hc:X.calm=true) (hC:OpR X.inb (compareOp .Gt) rc)
  (I0:Inv X pins σ H s) (hne:all≠[]) (h:tMM0 X.K l all rkN rc .non H Q):wpAny (model X.prog X.w) X.A (call (.builtin "max") [.ref l] []) (EP X pins σ Q) X.xe s:=by
 have hname:(toString "max"++toString ".loop":String)="max.loop":=by decide
 obtain ⟨hq,h⟩:=h
 obtain ⟨its,rv,pl,hz⟩:=I0.list hq
 have hll:l<s.heap.objs.size:=by obtain ⟨o,n,ho,_⟩:=pl;exact Heap.lt_size ho
 have hh:X.A.in1.handled=none:=I0.inb.ok.hd hc
 refine kmk_tree PySem.F.kind_max PySem.F.plain_max PySem.F.entry_max (args_max_0 _) ?_
 show wpAny _ X.A.in1 (Builtin.Builtins.bindParams "max" ["key","default"] 0 ⟨[],[]⟩ >>= _) _ _ s
 refine wpAny_bind (wpAny_of_eq (show Builtin.Builtins.bindParams "max" ["key","default"] 0 ⟨[],[]⟩=pure [none,none] from rfl) ?_)
 refine wpAny_bind (wpAny_pure ?_)
 refine wpAny_bind (wpAny_pyIter_list pl.isList ?_)
 refine wpAny_bind (wpAny_newList ?_ (Nat.zero_le _))
 rw [hname]
 generalize hI:s.heap.objs.size=I at *
 have hS:(s.heap.push { cls:=.type "list_iterator",data:=.fields #[.ref l,.int 0 0] }).objs.size=I+1:=by rw [<- hI];exact Heap.size_push ..
 generalize hSe:(s.heap.push { cls:=.type "list_iterator",data:=.fields #[.ref l,.int 0 0] }).objs.size=S at *
 have hlI:l≠I:=Nat.ne_of_lt hll
 have hSI:S≠I:=by rw [hS];exact Nat.succ_ne_self _
 have hSl:S≠l:=by rw [hS];exact Nat.ne_of_gt (Nat.lt_succ_of_lt hll)
 have kk:∀b o,s.heap.get? b=some o->((s.heap.push { cls:=.type "list_iterator",data:=.fields #[.ref l,.int 0 0] }).push { cls:=.type "list",dict:=none,data:=.seq #[] 0,slots:=#[] }).get? b=some o:=fun b o e=>Heap.get?_push_of_some _ (Heap.get?_push_of_some _ e)
 have gI:((s.heap.push { cls:=.type "list_iterator",data:=.fields #[.ref l,.int 0 0] }).push { cls:=.type "list",dict:=none,data:=.seq #[] 0,slots:=#[] }).get? I=some { cls:=.type "list_iterator",data:=.fields #[.ref l,.int 0 0] }:=Heap.get?_push_of_some _ (hI ▸ Heap.get?_push_size _ rfl)
 have gS:((s.heap.push { cls:=.type "list_iterator",data:=.fields #[.ref l,.int 0 0] }).push { cls:=.type "list",dict:=none,data:=.seq #[] 0,slots:=#[] }).get? S=some { cls:=.type "list",dict:=none,data:=.seq #[] 0,slots:=#[] }:=hSe ▸ Heap.get?_push_size _ rfl
 have nI:H I=none:=I0.hok.fresh (Nat.le_of_eq hI)
 have nS:H S=none:=I0.hok.fresh (by rw [hS];exact Nat.le_trans (Nat.le_of_eq hI) (Nat.le_succ _))
 have fI:FpOk X pins H I:=I0.fpOk (Nat.le_of_eq hI) nI
 have fS:FpOk X pins H S:=I0.fpOk (by rw [hS];exact Nat.le_trans (Nat.le_of_eq hI) (Nat.le_succ _)) nS
 have I1:=I0.inb.kept (t':=s.toks) kk
 refine wpAny_pure ⟨plainId_quiet PySem.F.plain_max_loop _,?_⟩
 show codeAny (model X.prog X.w) X.A (.builtin "max.loop" ⟨[.ref I,.none,.ref S],[]⟩) (mmPost X pins σ Q) _
 have W:=Walks.list (prog:=X.prog) (w:=X.w) (A:=X.A.in1) hh I l hlI its.toArray
 have hsz:its.toArray.size=all.length:=by rw [List.size_toArray];exact rv.length.symm
 have hit:Heap.IsListIter ((s.heap.push { cls:=.type "list_iterator",data:=.fields #[.ref l,.int 0 0] }).push { cls:=.type "list",dict:=none,data:=.seq #[] 0,slots:=#[] }) I l 0:=⟨_,gI,rfl,rfl⟩
 have isl:Heap.IsList ((s.heap.push { cls:=.type "list_iterator",data:=.fields #[.ref l,.int 0 0] }).push { cls:=.type "list",dict:=none,data:=.seq #[] 0,slots:=#[] }) l its.toArray:=pl.isList.at fun o e=>kk l o e
 refine codeAny_builtin PySem.F.entry_max_loop ?_
 rw [Around.under_plainId PySem.F.plain_max_loop _]
 show wpAny _ X.A.in1 (seqItems? (.ref S) >>= _) _ _ _
 refine wpAny_bind (wpAny_seqItems gS rfl ?_)
 show wpAny _ X.A.in1 (tryCatch (pyNext (.ref I)) _ >>= _) _ _ _
 cases all with
 |nil =>
  exact absurd rfl hne
 |cons x rest =>
  refine wpAny_bind (wpAny_tryCatch (W.item 0 _ _ _ (by rw [hsz];simp) ⟨hit,isl⟩ fun v h' tk' hP hst' hk'=>?_))
  obtain ⟨v',hv',rx⟩:=rv.get (i:=0) (x:=x) rfl
  have ev:v'=v:=by
   have:its.toArray[0]?=some v:=hP
   rw [List.getElem?_toArray,hv'] at this
   exact Option.some.inj this
  subst ev
  have gS':=hk' S _ (by simpa using hSI) gS
  have I2:=I1.turned (h':=h') (t':=tk') (it:=I) (fun b o hb e=>hk' b o (by simpa using hb) e) fI.1 fI.2.1 fI.2.2.2.1 fI.2.2.2.2.1 fI.2.2.2.2.2
  obtain ⟨oI,hoI,hoc,hod⟩:=id hst'.1
  have cS:∀v,({ cls:=.type "list",dict:=none,data:=.seq #[] 0,slots:=#[] }:Obj).data≠.cell v:=fun v z=>by cases z
  have cI:∀v,oI.data≠.cell v:=fun v z=>by rw [hod] at z;cases z
  have I3:=I2.pins_of (pins':=pins++[(S,{ cls:=.type "list",dict:=none,data:=.seq #[] 0,slots:=#[] }),(I,oI)]) fun p hp=>by
   rcases List.mem_append.mp hp with z|z
   ·exact I2.pin p (List.mem_append_right _ z)
   ·rcases List.mem_cons.mp z with rfl|z
    ·exact ⟨gS',fS.1,fS.2.1,fS.2.2.1,cS⟩
    ·rw [List.mem_singleton.mp z]
     exact ⟨hoI,fI.1,fI.2.1,fI.2.2.1,cI⟩
  refine wpAny_bind (wpAny_pure ?_)
  have hk2:EP X.inb _ σ (fun k H1=>tMM X.K l (x::rest) rkN rc rest x k H1 Q) v' { s with heap:=h',toks:=tk' }:=⟨x,H,I3,rx,h⟩
  obtain ⟨s2,hs2⟩:∃s2:Shared,s2={ s with heap:=h',toks:=tk' }:=⟨_,rfl⟩
  rw [<- hs2] at hk2
  rw [<- hs2]
  obtain ⟨k,H2,I4,rk2,h⟩:=hk2
  have pS:=I4.pin (S,{ cls:=.type "list",dict:=none,data:=.seq #[] 0,slots:=#[] }) (List.mem_append_right _ (List.mem_append_right _ (by simp)))
  have pI:=I4.pin (I,oI) (List.mem_append_right _ (List.mem_append_right _ (by simp)))
  have I5:Inv X.inb pins σ H2 s2:=I4.unpinned
  have fS3:FpOk X pins H2 S:=⟨pS.2.1,fS.2⟩
  have fI3:FpOk X pins H2 I:=⟨pI.2.1,fI.2⟩
  show wpAny _ X.A.in1 (updateSeq S (fun _=>#[v',v']) >>= _) _ _ _
  refine wpAny_bind ?_
  refine wpAny_updateSeq pS.1 rfl ?_
  rw [hname]
  obtain ⟨c2,hc2⟩:∃c2,(s2.heap.update S (Obj.mapSeq fun _=>#[v',v'])).get? S=some { cls:=.type "list",dict:=none,data:=.seq #[v',v'] c2,slots:=#[] }:=⟨_,Heap.get?_update_self _ pS.1 rfl⟩
  have I6:Inv X.inb pins σ H2 { s2 with heap:=s2.heap.update S (Obj.mapSeq fun _=>#[v',v']),toks:=s2.toks }:=I5.turned (t':=s2.toks) (it:=S) (fun b o hb e=>(Heap.get?_update_other _ _ (Ne.symm hb)).trans e) fS3.1 fS3.2.1 fS3.2.2.2.1 fS3.2.2.2.2.1 fS3.2.2.2.2.2
  exact wpAny_pure ⟨plainId_quiet PySem.F.plain_max_loop _,max_loopN hc hlI hSI hSl hC rest 1 _ H2 x k v' v' c2 rfl (by simp) I6 fS3 fI3 hc2 ⟨oI,(Heap.get?_update_other _ _ hSI).trans pI.1,hoc,hod⟩ rx rk2 h⟩
end L2
namespace HT
open PySem PyProof.Rows
def RcLt (A:Around) (s:Shared) (y x:Value) (b:Bool):Prop:=∀(prog:Program) (w:World) (E:Value->Shared->Prop) (Q:Value->Shared->Prop),Q (.bool b) s->wpAny (model prog w) A (richCompare .Lt y x) Q E s
inductive LexAns (A:Around) (s:Shared):List Value->List Value->Bool->Prop where
 |nn:LexAns A s [] [] false
 |nc (y:Value) (ys:List Value):LexAns A s [] (y::ys) true
 |cn (x:Value) (xs:List Value):LexAns A s (x::xs) [] false
 |eq {x y:Value} {xs ys:List Value} {b:Bool}:SeqAt.EqAt A s x y true->LexAns A s xs ys b->LexAns A s (x::xs) (y::ys) b
 |lt {x y:Value} {xs ys:List Value} {b:Bool}:SeqAt.EqAt A s x y false->RcLt A s x y b->LexAns A s (x::xs) (y::ys) b
section
open PySem.SeqAt
open PySem.AutoSeq1 (wpAny_loadPart')
open PySem.MeetsSeq PySem.MeetsSeq2 PySem.MeetsSeq3
theorem tuple_lt_G (l b:Addr) (items items2:Array Value) (n n2:Nat) (dd dd2:Option Addr) (sl sl2:Array (Option Value)) (ans:Bool) :
  Meets (Builtin.«tuple.__lt__» ⟨[.ref l,.ref b],[]⟩)
   (fun A R s=>s.heap.get? l=some { cls:=.type "tuple",dict:=dd,data:=.seq items n,slots:=sl }/\s.heap.get? b=some { cls:=.type "tuple",dict:=dd2,data:=.seq items2 n2,slots:=sl2 } /\
    LexAns A.in1 s items.toList items2.toList ans/\R (.ok (.ret (.bool ans))) s) :=
 .of_wp fun prog w A R s h=>by
  obtain ⟨hp,g,d,tk,os⟩:=s;obtain ⟨hl,hb,hA,h⟩:=h
  have f2:=AutoSeq1.sub_tuple_tuple
  wp_walk using wpAny_loadPart' hl,wpAny_loadPart' hb,wpAny_forIn_list _ (fun rest b s'=>b.1=none/\s'=⟨hp,g,d,tk,os⟩/\∃(vs ws:List Value),rest=vs.zip ws /\
   LexAns A.in1 ⟨hp,g,d,tk,os⟩ vs ws ans/\vs.length+items2.size=ws.length+items.size) _
  case turn =>
   rintro ⟨y,x⟩ rest b s' ⟨hb',rfl,vs,ws,hz,ha,hlen⟩
   cases ha with
   |nn=>cases hz
   |nc _ _=>cases hz
   |cn _ _=>cases hz
   |eq he hr =>
    rw [List.zip_cons_cons] at hz
    injection hz with hyx hrest
    injection hyx with hy hx
    subst hy hx
    simp only [List.length_cons] at hlen
    refine wpAny_bind (he prog w _ _ ?_)
    wp_walk
    exact ⟨rfl,rfl,_,_,hrest,hr,by omega⟩
   |lt he hr =>
    rw [List.zip_cons_cons] at hz
    injection hz with hyx hrest
    injection hyx with hy hx
    subst hy hx
    refine wpAny_bind (he prog w _ _ ?_)
    have hri:=hr prog w
    wp_walk using hri
    exact ⟨_,rfl,by simpa using h⟩
  case fin =>
   rintro ⟨b1,b2⟩ s' ⟨hb',rfl,vs,ws,hz,ha,hlen⟩
   simp only at hb'
   subst hb'
   have hv:ans=decide (items.size<items2.size):=by
    cases ha with
    |nn=>simp only [List.length_nil] at hlen;exact (decide_eq_false (by omega)).symm
    |nc _ _=>simp only [List.length_nil,List.length_cons] at hlen;exact (decide_eq_true (by omega)).symm
    |cn _ _=>simp only [List.length_nil,List.length_cons] at hlen;exact (decide_eq_false (by omega)).symm
    |eq _ _=>rw [List.zip_cons_cons] at hz;cases hz
    |lt _ _=>rw [List.zip_cons_cons] at hz;cases hz
   rw [hv] at h
   wp_walk
   exact ⟨_,rfl,by simpa [Builtin.Tuple.tupleCompareSizes] using h⟩
  case h =>
   exact ⟨rfl,rfl,items.toList,items2.toList,rfl,hA,by simp only [Array.length_toList];omega⟩
end
end HT
namespace HT
open PySem PyProof.Rows PySem.SeqAt PySem.MeetsSeq
section
variable {prog:Program} {w:World} {A:Around} {E:Value->Shared->Prop} {s:Shared}
theorem lt_tupG {l b:Addr} {items items2:Array Value} {ans:Bool} {Q:Value->Shared->Prop} (hl:IsTup s.heap l items) (hb:IsTup s.heap b items2) (hA:∀A':Around,A'.units<=A.units+4->LexAns A' s items.toList items2.toList ans)
  (hu:A.units<cLine) (h:Q (.bool ans) s):wpAny (model prog w) A (richCompare .Lt (.ref l) (.ref b)) Q E s:=by
 obtain ⟨⟨cls,dd,data,sl⟩,ho,hc,n,hd⟩:=id hl
 obtain ⟨⟨cls2,dd2,data2,sl2⟩,ho2,hc2,n2,hd2⟩:=id hb
 simp only at hc hd hc2 hd2
 subst hc hd hc2 hd2
 refine richCompare_meets_room (op:=.Lt) ⟨_,ho,rfl⟩ ⟨_,ho2,rfl⟩ PySem.F.slot_tuple_lt PySem.F.entry_tuple_lt (PySem.F.args_tuple_lt_2 _ _) (tuple_lt_G l b items items2 n n2 dd dd2 sl sl2 ans)
  ⟨ho,ho2,hA _ ?_,show Value.bool ans≠Value.notImplemented/\Q (.bool ans) s from ⟨(fun x=>nomatch x),h⟩⟩ hu
 show A.units+1<=A.units+4
 omega
end
end HT
namespace DI
open PySem L2 HT
mutual
noncomputable def ltD:D->D->Option Bool
 | .int i,.int j=>some (decide (i<j))
 | .str x,.str y=>some (decide (x.cps.toList<y.cps.toList))
 | .tup xs,.tup ys=>ltDs xs ys
 |_,_=>none
noncomputable def ltDs:List D->List D->Option Bool
 | [],[]=>some false
 | [],_::_=>some true
 |_::_,[]=>some false
 |x::xs,y::ys=>if beq x y=true then ltDs xs ys else ltD x y
end
section
variable {X:Cx} {Ξ:Wd->Exn->Prop} {pins:List (Addr×Obj)} {σ:St} {s:Shared} {w:Wd}
theorem eq_at (I:Inv X pins σ w.H s) (A:Around) {x y:D} {v u:V} {vx vy:Value} (lx:lay x=true) (ly:lay y=true) (hu:A.units+dep x<cLine) (hx:DV X.K w x v) (hy:DV X.K w y u) (rx:RelV v vx) (ry:RelV u vy):SeqAt.EqAt A s vx vy (beq x y):=by
 obtain ⟨as,r1⟩:=(hx.py (lay_plain _ lx)).reads I rx
 obtain ⟨bs,r2⟩:=(hy.py (lay_plain _ ly)).reads I ry
 obtain ⟨p1,p2⟩:=lay_py _ lx
 obtain ⟨q1,q2⟩:=lay_py _ ly
 have:=SeqAt.eqAt_reads _ _ A s vx vy as bs r1 r2 p1 q1 (by rw [p2];omega)
 rw [beq_py _ _ lx ly] at this
 exact this
mutual
theorem lt_at (I:Inv X pins σ w.H s):∀(A:Around) (x y:D) (b:Bool) (v u:V) (vx vy:Value),ltD x y=some b->lay x=true->lay y=true->A.units+5*dep x+5<cLine->DV X.K w x v->DV X.K w y u->RelV v vx->RelV u vy->RcLt A s vx vy b
 |A,.int i,.int j,b,v,u,vx,vy,h,_,_,_,hx,hy,rx,ry=>by
  cases h;cases hx;cases hy
  obtain ⟨t,rfl⟩:=rx
  obtain ⟨t',rfl⟩:=ry
  intro prog w E Q q
  exact rcLt_int A s i t j t' prog w E Q q
 |A,.str i,.str j,b,v,u,vx,vy,h,_,_,hu,hx,hy,rx,ry=>by
  cases h;cases hx;cases hy
  obtain ⟨t,rfl⟩:=rx
  obtain ⟨t',rfl⟩:=ry
  intro prog w E Q q
  exact (PyProof.Rows.lt_str q:wpAny (model prog w) A (compareOp .Lt (.str i t) (.str j t')) Q E s)
 |A,.tup xs,.tup ys,b,v,u,vx,vy,h,lx,ly,hu,hx,hy,rx,ry=>by
  simp only [ltD] at h
  simp only [DV] at hx hy
  obtain ⟨a,as,rfl,ha,dva⟩:=hx
  obtain ⟨c,cs,rfl,hc,dvc⟩:=hy
  cases rx;cases ry
  obtain ⟨its,r1,p1,_⟩:=I.tuple ha
  obtain ⟨its2,r2,p2,_⟩:=I.tuple hc
  intro prog w' E Q q
  simp only [dep] at hu
  exact lt_tupG p1 p2 (fun A' hA'=>by
   have:=lt_ats I A' xs ys b as cs its its2 h (by simpa [lay] using lx) (by simpa [lay] using ly) (by omega) dva dvc r1 r2
   simpa using this) (by omega) q
 |_,.non,_,_,_,_,_,_,h,_,_,_,_,_,_,_=>by cases h
 |_,.bl _,_,_,_,_,_,_,h,_,_,_,_,_,_,_=>by cases h
 |_,.lst _,_,_,_,_,_,_,h,_,_,_,_,_,_,_=>by cases h
 |_,.dct _,_,_,_,_,_,_,h,_,_,_,_,_,_,_=>by cases h
 |_,.han _,_,_,_,_,_,_,h,_,_,_,_,_,_,_=>by cases h
 |_,.ty _,_,_,_,_,_,_,h,_,_,_,_,_,_,_=>by cases h
 |_,.scr _,_,_,_,_,_,_,h,_,_,_,_,_,_,_=>by cases h
 |_,.int _,.non,_,_,_,_,_,h,_,_,_,_,_,_,_=>by cases h
 |_,.int _,.bl _,_,_,_,_,_,h,_,_,_,_,_,_,_=>by cases h
 |_,.int _,.str _,_,_,_,_,_,h,_,_,_,_,_,_,_=>by cases h
 |_,.int _,.tup _,_,_,_,_,_,h,_,_,_,_,_,_,_=>by cases h
 |_,.int _,.lst _,_,_,_,_,_,h,_,_,_,_,_,_,_=>by cases h
 |_,.int _,.dct _,_,_,_,_,_,h,_,_,_,_,_,_,_=>by cases h
 |_,.int _,.han _,_,_,_,_,_,h,_,_,_,_,_,_,_=>by cases h
 |_,.int _,.ty _,_,_,_,_,_,h,_,_,_,_,_,_,_=>by cases h
 |_,.int _,.scr _,_,_,_,_,_,h,_,_,_,_,_,_,_=>by cases h
 |_,.str _,.non,_,_,_,_,_,h,_,_,_,_,_,_,_=>by cases h
 |_,.str _,.bl _,_,_,_,_,_,h,_,_,_,_,_,_,_=>by cases h
 |_,.str _,.int _,_,_,_,_,_,h,_,_,_,_,_,_,_=>by cases h
 |_,.str _,.tup _,_,_,_,_,_,h,_,_,_,_,_,_,_=>by cases h
 |_,.str _,.lst _,_,_,_,_,_,h,_,_,_,_,_,_,_=>by cases h
 |_,.str _,.dct _,_,_,_,_,_,h,_,_,_,_,_,_,_=>by cases h
 |_,.str _,.han _,_,_,_,_,_,h,_,_,_,_,_,_,_=>by cases h
 |_,.str _,.ty _,_,_,_,_,_,h,_,_,_,_,_,_,_=>by cases h
 |_,.str _,.scr _,_,_,_,_,_,h,_,_,_,_,_,_,_=>by cases h
 |_,.tup _,.non,_,_,_,_,_,h,_,_,_,_,_,_,_=>by cases h
 |_,.tup _,.bl _,_,_,_,_,_,h,_,_,_,_,_,_,_=>by cases h
 |_,.tup _,.int _,_,_,_,_,_,h,_,_,_,_,_,_,_=>by cases h
 |_,.tup _,.str _,_,_,_,_,_,h,_,_,_,_,_,_,_=>by cases h
 |_,.tup _,.lst _,_,_,_,_,_,h,_,_,_,_,_,_,_=>by cases h
 |_,.tup _,.dct _,_,_,_,_,_,h,_,_,_,_,_,_,_=>by cases h
 |_,.tup _,.han _,_,_,_,_,_,h,_,_,_,_,_,_,_=>by cases h
 |_,.tup _,.ty _,_,_,_,_,_,h,_,_,_,_,_,_,_=>by cases h
 |_,.tup _,.scr _,_,_,_,_,_,h,_,_,_,_,_,_,_=>by cases h
theorem lt_ats (I:Inv X pins σ w.H s):∀(A:Around) (xs ys:List D) (b:Bool) (vs us:List V) (ps qs:List Value),ltDs xs ys=some b->lays xs=true->lays ys=true->A.units+5*deps xs+5<cLine->DVs X.K w xs vs->DVs X.K w ys us->Vals vs ps->Vals us qs->LexAns A s ps qs b
 |A,[],[],b,vs,us,ps,qs,h,_,_,_,hx,hy,rx,ry=>by
  cases h;cases hx;cases hy;cases rx;cases ry
  exact .nn
 |A,[],y::ys,b,vs,us,ps,qs,h,_,_,_,hx,hy,rx,ry=>by
  cases h;cases hx;cases rx
  obtain ⟨u,r,rfl,_,_⟩:=hy
  cases ry
  exact .nc _ _
 |A,x::xs,[],b,vs,us,ps,qs,h,_,_,_,hx,hy,rx,ry=>by
  cases h;cases hy;cases ry
  obtain ⟨u,r,rfl,_,_⟩:=hx
  cases rx
  exact .cn _ _
 |A,x::xs,y::ys,b,vs,us,ps,qs,h,lx,ly,hu,hx,hy,rx,ry=>by
  obtain ⟨v,r,rfl,dx,dr⟩:=hx
  obtain ⟨u,r',rfl,dy,dr'⟩:=hy
  simp only [lays,Bool.and_eq_true] at lx ly
  simp only [deps] at hu
  have m1:=Nat.le_max_left (dep x) (deps xs)
  have m2:=Nat.le_max_right (dep x) (deps xs)
  cases rx with
  |cons rx rxs =>
   cases ry with
   |cons ry rys =>
    have he:=eq_at I A lx.1 ly.1 (by omega) dx dy rx ry
    simp only [ltDs] at h
    split at h
    ·rename_i hb
     rw [hb] at he
     exact .eq he (lt_ats I A xs ys b _ _ _ _ h lx.2 ly.2 (by omega) dr dr' rxs rys)
    ·rename_i hb
     rw [Bool.not_eq_true] at hb
     rw [hb] at he
     exact .lt he (lt_at I A x y b _ _ _ _ h lx.1 ly.1 (by omega) dx dy rx ry)
end
noncomputable def opLt (x y:D) (s:Sto):Res D:=if (lay x&&lay y&&decide (dep x<=30))=true then pur ((ltD x y).map D.bl) s else none
theorem o_lt {k:Nat} (hr:Room k X.A):OpR X (compareOp .Lt) (rO X.K Ξ opLt):=by
 rintro pins s σ H x y v u Q I rx ry ⟨w,dx,dy,rfl,S,hx,hy,h⟩
 unfold opLt at h
 split at h
 ·rename_i hl
  simp only [Bool.and_eq_true,decide_eq_true_eq] at hl
  obtain ⟨d,e,h⟩:=pur_out h
  cases hb:ltD dx dy with
  |none=>rw [hb] at e;cases e
  |some b =>
   rw [hb] at e
   cases e
   exact lt_at I X.A dx dy b x y v u hb hl.1.1 hl.1.2 (by have:=hr.un;have:=hl.2;have:cLine=9900:=rfl;omega) hx hy rx ry _ _ _ _ ⟨.bl b,w.H,I,rfl,out_of S h _ rfl⟩
 ·exact h.elim
end
end DI
namespace DI
open PySem L2
noncomputable def mmGo (kf:D->Sto->Res D) (o:D->D->Sto->Res D):D->D->List D->Sto->Res D
 |b,_,[],s=>ok b s
 |b,k,d::ds,s=>bnd (ne (kf d s)) fun k' s=>bnd (ne (o k' k s)) fun c s=>match c with
  | .bl true=>mmGo kf o d k' ds s
  | .bl false=>mmGo kf o b k ds s
  |_=>none
noncomputable def mmAll (kf:D->Sto->Res D) (o:D->D->Sto->Res D) (dflt:Option D):List D->Sto->Res D
 | [],s=>match dflt with
  |some d=>ok d s
  |none=>none
 |d::ds,s=>bnd (ne (kf d s)) fun k s=>mmGo kf o d k ds s
noncomputable def rK (K:Frag) (kf:D->Sto->Res D):V->Hp->VK->Prop:=fun x H Q=>∃w dx,w.H=H/\StoOk K w/\DV K w dx x/\Out K NoX w (kf dx w.sto) fun w' d=>∀v,DV K w' d v->Q v w'.H
theorem mm_imp {K:Frag} {Ξ:Wd->Exn->Prop} {kf:D->Sto->Res D} {o:D->D->Sto->Res D} {l:Addr} {all:List V} {Q:VK}:∀{ds:List D} {vs:List V} {w:Wd} {b k:D} {vb vk:V},StoOk K w->LstAt w l all->DVs K w ds vs->DV K w b vb->DV K w k vk ->
  Out K Ξ w (mmGo kf o b k ds w.sto) (fun w' d=>∀v,DV K w' d v->Q v w'.H)->tMM K l all (rK K kf) (rO K NoX o) vs vb vk w.H Q
 | [],vs,w,b,k,vb,vk,S,hl,hd,hb,hk,h=>by
  have e:vs=[]:=hd
  subst e
  exact ⟨hl.sq,out_of S h _ hb⟩
 |d::ds,vs,w,b,k,vb,vk,S,hl,hd,hb,hk,h=>by
  obtain ⟨v,r,rfl,dv,dr⟩:=hd
  refine ⟨hl.sq,w,d,rfl,S,dv,(Out.bnd h).ne.mono fun w1 k' l1 S1 h1 vk' dk'=>⟨w1,k',k,rfl,S1,dk',l1 _ _ hk,(Out.bnd h1).ne.mono fun w2 c l2 S2 h2 vc dc=>?_⟩⟩
  have l12:=l1.trans l2
  cases c with
  |bl c =>
   have e:vc=.bl c:=dc
   refine ⟨c,e,?_⟩
   cases c with
   |true =>
    rw [if_pos rfl]
    exact mm_imp (Ξ:=Ξ) S2 (l12.lst _ _ hl) (l12.all dr) (l12 _ _ dv) (l2 _ _ dk') h2
   |false =>
    rw [if_neg Bool.false_ne_true]
    exact mm_imp (Ξ:=Ξ) S2 (l12.lst _ _ hl) (l12.all dr) (l12 _ _ hb) (l12 _ _ hk) h2
  |_=>exact h2.elim
theorem mm0_imp {K:Frag} {Ξ:Wd->Exn->Prop} {kf:D->Sto->Res D} {o:D->D->Sto->Res D} {w:Wd} {ds:List D} {v dv:V} {dflt:Option D} {Q:VK} (S:StoOk K w) (hl:DV K w (.lst ds) v) (hd:∀d,dflt=some d->∀w',DV K w' d dv)
  (h:Out K Ξ w (mmAll kf o dflt ds w.sto) (fun w' d=>∀v,DV K w' d v->Q v w'.H)):∃l all,v=.ref l/\(all=[]->dflt≠none)/\tMM0 K l all (rK K kf) (rO K NoX o) dv w.H Q:=by
 simp only [DV] at hl
 obtain ⟨l,all,rfl,ha,dvs⟩:=hl
 refine ⟨l,all,rfl,fun e z=>?_,ha.sq,?_⟩
 ·subst e z
  have hn:ds.length=0:=dvs.length
  cases ds with
  |nil=>exact h
  |cons _ _=>cases hn
 ·cases ds with
  |nil =>
   have e:all=[]:=dvs
   subst e
   cases dflt with
   |none=>exact h.elim
   |some d=>exact out_of S h _ (hd d rfl w)
  |cons d ds =>
   obtain ⟨x,r,rfl,dx,dr⟩:=dvs
   exact ⟨w,d,rfl,S,dx,(Out.bnd h).ne.mono fun w1 k l1 S1 h1 vk dk=>mm_imp (Ξ:=Ξ) S1 (l1.lst _ _ ha) (l1.all dr) (l1 _ _ dx) dk h1⟩
theorem key_len {X:Cx}:KeyR X.inb (.builtin "len") (rK X.K fun d s=>bLen [d] s):=by
 rintro pins s σ H x v Q I rx ⟨w,dx,rfl,S,hx,h⟩
 exact c_len (X:=X.inb) pins s σ w.H [x] [v] Q I (.cons rx .nil) ⟨w,[dx],rfl,S,DVs.one hx,h⟩
noncomputable def bestBy (kf:D->Sto->Res D) (o:D->D->Sto->Res D) (dflt:Option D) (d:D) (s:Sto):Res D:=match d with
 | .lst ds=>mmAll kf o dflt ds s
 |_=>none
noncomputable abbrev maxLen:D->Sto->Res D:=bestBy (fun d s=>bLen [d] s) opGt none
noncomputable abbrev maxI:D->Sto->Res D:=bestBy (fun d s=>ok d s) opGt none
theorem best_of {K:Frag} {Ξ:Wd->Exn->Prop} {kf:D->Sto->Res D} {o:D->D->Sto->Res D} {w:Wd} {d:D} {v dv:V} {dflt:Option D} {Q:VK} (S:StoOk K w) (hl:DV K w d v) (hd:∀d,dflt=some d->∀w',DV K w' d dv)
  (h:Out K Ξ w (bestBy kf o dflt d w.sto) (fun w' d=>∀v,DV K w' d v->Q v w'.H)):∃l all,v=.ref l/\(all=[]->dflt≠none)/\tMM0 K l all (rK K kf) (rO K NoX o) dv w.H Q:=by
 unfold bestBy at h
 split at h
 ·exact mm0_imp S hl hd h
 ·exact h.elim
section
variable {X:Cx} {Ξ:Wd->Exn->Prop} {e:Expr} {p pos kp1 kp2 kpos dpos:Pos} {f:Env->Sto->Res D}
theorem e_maxLen (he:PE X e (tE X.K Ξ f)) (hc:X.calm=true) (hg:Gl X "max") (hm:X.mg "max"=none) (hgk:Gl X "len") (hmk:X.mg "len"=none)
  (hs:starEach [e] X.env=(false,eval e X.env)::starEach [] X.env:=by rfl)
  (heb:backTo pos (starEach [e] X.env)=(false,eval e X.env)::backTo pos (starEach [] X.env):=by rfl) (hpl:(backTo pos (starEach [e] X.env)).any (·.1)=false:=by rfl) :
  PE X (.Call (.Name "max" p) [e] [⟨some "key",.Name "len" kpos,kp1⟩] pos) (tE X.K Ξ (e1 maxLen f)):=by
 rintro pins s σ H Q I ⟨w,env,rfl,S,eo,h⟩
 refine wpAny_Call_Name_kw (ld_blt I hg hm b_max ?_)
 have ha:=pa_cons he (pa_nil (X:=X)) hs
 refine PyProof.Rows.callWith_kw (thn (ha pos pins s σ w.H (fun vs H1=>∃v,vs=[v]/\∃(w1:Wd) (d:D),w1.H=H1/\StoOk X.K w1/\DV X.K w1 d v/\Out X.K Ξ w1 (maxLen d w1.sto) (fun w' d=>∀v,DV X.K w' d v->Q v w'.H)) I ⟨w,env,rfl,S,eo,(Out.bnd h).mono fun w1 d l1 S1 h1 v dv=>⟨v,rfl,w1,d,rfl,S1,dv,h1⟩⟩) fun us s1 ⟨vs,H1,I1,r1,q1⟩=>?_) heb hpl
 show wpAny _ _ (evalAll ((do let v <- eval (.Name "len" kpos) X.env;standAt pos;pure v)::(backToKw pos (keywordEach [] X.env)).map (·.2))) _ _ s1
 refine wpAny_evalAll_cons (wpAny_bind (ld_blt I1 hgk hmk b_len (wpAny_bind (wpAny_standAt (wpAny_pure (wpAny_evalAll_nil ?_))))))
 obtain ⟨v,rfl,w1,d,rfl,S1,dv,h1⟩:=q1
 obtain ⟨l,all,rfl,hne,hmm⟩:=best_of (dv:=.non) S1 dv (fun d e w'=>by cases e) h1
 obtain ⟨u,rfl,ru⟩:=vals1 r1
 cases ru
 exact max_callB hc key_len (o_gt (X:=X.inb)) I1 (fun z=>hne z rfl) hmm
theorem tMM_N {K:Frag} {l:Addr} {all:List V} {rc:R2} {Q:VK}:∀{xs:List V} {vb kb:V} {H:Hp},(∀x y H (Q Q':VK),(∀v H',Q v H'->Q' v H')->rc x y H Q->rc x y H Q')->tMM K l all (rK K fun d s=>ok d s) rc xs vb kb H Q->tMM K l all rkN rc xs vb kb H Q
 | [],_,_,_,_,h=>h
 |x::xs,vb,kb,H,mo,h=>by
  obtain ⟨hq,w,dx,rfl,S,hx,h⟩:=h
  refine ⟨hq,mo _ _ _ _ _ (fun z H2 hz=>?_) (out_of S h _ hx)⟩
  obtain ⟨b,e,hb⟩:=hz
  refine ⟨b,e,?_⟩
  cases b with
  |true=>exact tMM_N mo hb
  |false=>exact tMM_N mo hb
theorem rO_mono {K:Frag} {o:D->D->Sto->Res D} (x y:V) (H:Hp) (Q Q':VK) (i:∀v H',Q v H'->Q' v H') (h:rO K Ξ o x y H Q):rO K Ξ o x y H Q':=by
 obtain ⟨w,dx,dy,e,S,hx,hy,h⟩:=h
 exact ⟨w,dx,dy,e,S,hx,hy,h.mono fun w' d _ _ q v dv=>i _ _ (q v dv)⟩
theorem tMM0_N {K:Frag} {l:Addr} {all:List V} {o:D->D->Sto->Res D} {dv:V} {H:Hp} {Q:VK} (h:tMM0 K l all (rK K fun d s=>ok d s) (rO K Ξ o) dv H Q):tMM0 K l all rkN (rO K Ξ o) dv H Q:=by
 obtain ⟨hq,h⟩:=h
 refine ⟨hq,?_⟩
 cases all with
 |nil=>exact h
 |cons x xs =>
  obtain ⟨w,dx,rfl,S,hx,h⟩:=h
  exact tMM_N (fun x y H Q Q' i q=>rO_mono x y H Q Q' i q) (out_of S h _ hx)
noncomputable def bMax (ds:List D) (s:Sto):Res D:=match ds with
 | [d]=>maxI d s
 |_=>none
theorem c_max {k:Nat} (hr:Room k X.A) (hc:X.calm=true):CallR X (.builtin "max") (rC X.K Ξ bMax):=by
 rintro pins s σ H xs us Q I r ⟨w,ds,rfl,S,dvs,h⟩
 unfold bMax at h
 split at h
 ·obtain ⟨v,rfl,dv⟩:=one_of dvs
  obtain ⟨l,all,rfl,hne,hmm⟩:=best_of (dv:=.non) S dv (fun d e w'=>by cases e) h
  obtain ⟨u,rfl,ru⟩:=vals1 r
  cases ru
  exact max_callN hc (o_gt (X:=X.inb)) I (fun z=>hne z rfl) (tMM0_N hmm)
 ·exact h.elim
end
end DI
namespace DI
open PySem L2
noncomputable def f_Lcell_at:List D->Sto->Res D:=fnRun 2 2 (sSeq (sIf (tBl (e2 opLt (eLoc 1) (eB bLen (aCons (eLoc 0) aNil)))) (sRet (e2 opIx (eLoc 0) (eLoc 1))) sNil) (sRet (eC (.int 0))))
noncomputable def f_Lstate:List D->Sto->Res D:=fnRun 2 3 (sSeq (sAsg (eCall f_Lcell_at (aCons (eLoc 0) (aCons (eLoc 1) aNil))) (gN 2)) (sRet (eNew (aCons (eB bMax2 (aCons (eC (.int 0)) (aCons (e2 opSub (eLoc 2) (e2 opPow (eC (.int 10)) (eC (.int 18)))) aNil))) (aCons (e2 opMod (eLoc 2) (eC (.int 2147483647))) aNil)))))
noncomputable def f_Ltake:List D->Sto->Res D:=fnRun 2 4 (sSeq (sIf (tBl (e2 opGt (e2 opIx (eLoc 0) (eC (.int 0))) (eC (.int 0)))) (sSeq (sAsg (e2 opMod (e2 opIx (eLoc 0) (eC (.int 0))) (eLoc 1)) (gN 2)) (sSeq (sSub (e2 opDiv (e2 opIx (eLoc 0) (eC (.int 0))) (eLoc 1)) (eLoc 0) (eC (.int 0))) (sRet (eLoc 2)))) sNil) (sSeq (sSub (e2 opMod (e2 opAdd (e2 opMul (e2 opIx (eLoc 0) (eC (.int 1))) (eC (.int 48271))) (eC (.int 29))) (eC (.int 2147483647))) (eLoc 0) (eC (.int 1))) (sSeq (sAsg (e2 opMod (e2 opAdd (e2 opAdd (e2 opMul (e2 opIx (eLoc 0) (eC (.int 1))) (e2 opIx (eLoc 0) (eC (.int 1)))) (e2 opMul (eC (.int 39373)) (e2 opIx (eLoc 0) (eC (.int 1))))) (eC (.int 7))) (eC (.int 2147483629))) (gN 3)) (sSeq (sAsg (e2 opMod (e2 opAdd (e2 opMul (eLoc 3) (eLoc 3)) (e2 opMul (eC (.int 16807)) (eLoc 3))) (eC (.int 2147483587))) (gN 3)) (sRet (e2 opMod (e2 opDiv (eLoc 3) (eC (.int 8))) (eLoc 1)))))))
noncomputable def f_Lmarks:List D->Sto->Res D:=fnRun 2 3 (sSeq (sAsg (e2 opAdd (eC (.int 1)) (eCall f_Ltake (aCons (eLoc 0) (aCons (eC (.int 4)) aNil)))) (gN 2)) (sRet (eB bTuple (aCons (eComp 1 [0,2] (iR1 (aCons (eLoc 1) aNil)) (gN 0) (tBl (e2 opEq (eCall f_Ltake (aCons (eLoc 1) (aCons (e2 opAdd (eLoc 2) (eC (.int 1))) aNil))) (eC (.int 0)))) (eLoc 0)) aNil))))
noncomputable def f_Lsame:Nat->List D->Sto->Res D
 |0=>fun _ _=>none
 |n+1=>fnRun 2 2 (sSeq (sIf (tTru (e1 isTL (eLoc 1))) (sSeq (sIf (tOr (tBl (e2 opNe (eB bIsi (aCons (eLoc 0) (aCons (eC (.ty "tuple")) aNil))) (eB bIsi (aCons (eLoc 1) (aCons (eC (.ty "tuple")) aNil))))) (tBl (e2 opNe (eB bIsi (aCons (eLoc 0) (aCons (eC (.ty "list")) aNil))) (eB bIsi (aCons (eLoc 1) (aCons (eC (.ty "list")) aNil)))))) (sRet (eC (.bl false))) sNil) (sRet (eAnd (e2 opEq (eB bLen (aCons (eLoc 0) aNil)) (eB bLen (aCons (eLoc 1) aNil))) (eB bAll (aCons (eComp 2 [] (iZip (aCons (eLoc 0) (aCons (eLoc 1) aNil))) (gT [gN 0,gN 1]) tTT (eCall (f_Lsame n) (aCons (eLoc 0) (aCons (eLoc 1) aNil)))) aNil))))) sNil) (sRet (eAnd (e2 opEq (eB bIsi (aCons (eLoc 0) (aCons (eC (.ty "bool")) aNil))) (eB bIsi (aCons (eLoc 1) (aCons (eC (.ty "bool")) aNil)))) (e2 opEq (eLoc 0) (eLoc 1)))))
noncomputable def f_is_rising:List D->Sto->Res D:=fnRun 1 1 (sRet (eB bAll (aCons (eComp 2 [] (iZip (aCons (eLoc 0) (aCons (eSl (eLoc 0) (pInt (eC (.int 1))) pNo) aNil))) (gT [gN 0,gN 1]) tTT (e2 opLt (eLoc 0) (eLoc 1))) aNil)))
noncomputable def f_is_number:List D->Sto->Res D:=fnRun 1 1 (sRet (eAnd (eB bIsi (aCons (eLoc 0) (aCons (eC (.ty "int")) aNil))) (eAnd (eNot (eB bIsi (aCons (eLoc 0) (aCons (eC (.ty "bool")) aNil)))) (e2 opGe (eLoc 0) (eC (.int 0))))))
noncomputable def f_is_below:List D->Sto->Res D:=fnRun 2 2 (sRet (eAnd (eCall f_is_number (aCons (eLoc 0) aNil)) (e2 opLt (eLoc 0) (eLoc 1))))
noncomputable def f_is_mark:List D->Sto->Res D:=fnRun 1 1 (sRet (eCall f_is_below (aCons (eLoc 0) (aCons (eC (.int (8))) aNil))))
noncomputable def f_are_marks:List D->Sto->Res D:=fnRun 1 1 (sRet (eAnd (eB bIsi (aCons (eLoc 0) (aCons (eC (.ty "tuple")) aNil))) (eAnd (eB bAll (aCons (eComp 1 [] (iSeq (eLoc 0)) (gN 0) tTT (eCall f_is_mark (aCons (eLoc 0) aNil))) aNil)) (eCall f_is_rising (aCons (eLoc 0) aNil)))))
noncomputable def f_are_laid_marks:List D->Sto->Res D:=fnRun 2 2 (sRet (eAnd (eB bIsi (aCons (eLoc 0) (aCons (eC (.ty "tuple")) aNil))) (eAnd (eCh opLe opLe (eC (.int 1)) (eB bLen (aCons (eLoc 0) aNil)) (eLoc 1)) (eB bAll (aCons (eComp 1 [] (iSeq (eLoc 0)) (gN 0) tTT (eCall f_are_marks (aCons (eLoc 0) aNil))) aNil)))))
noncomputable def f_has_all:List D->Sto->Res D:=fnRun 2 2 (sRet (eB bAll (aCons (eComp 1 [0] (iSeq (eLoc 1)) (gN 0) tTT (e2 opIn (eLoc 0) (eLoc 1))) aNil)))
end DI
namespace ST
open PySem PySem.W PyProof.Rows
structure Ord (α:Type) where
 lt:α->α->Bool
 irr:∀a,lt a a=false
 tr:∀a b c,lt a b=true->lt b c=true->lt a c=true
 tot:∀a b,lt a b=false->lt b a=false->a=b
section
variable {α:Type} (O:Ord α)
def Ord.le (a b:α):Prop:=O.lt b a=false
variable {O}
theorem Ord.le_refl (a:α):O.le a a:=O.irr a
theorem Ord.le_of_lt {a b:α} (h:O.lt a b=true):O.le a b:=by
 unfold Ord.le
 cases hb:O.lt b a with
 |false=>rfl
 |true=>have:=O.tr _ _ _ h hb;rw [O.irr] at this;cases this
theorem Ord.le_tr {a b c:α} (h:O.le a b) (g:O.le b c):O.le a c:=by
 unfold Ord.le at *
 cases hc:O.lt c a with
 |false=>rfl
 |true =>
  cases hb:O.lt a b with
  |true=>have:=O.tr _ _ _ hc hb;rw [g] at this;cases this
  |false =>
   have e:=O.tot a b hb h
   subst e
   rw [g] at hc;cases hc
theorem Ord.le_as {a b:α} (h:O.le a b) (g:O.le b a):a=b:=O.tot _ _ g h
end
noncomputable def ok {β:Type} (c:Nat->Nat->Bool) (n:Nat):KasT β->(β->Prop)->Prop
 | .ret a,Q=>Q a
 | .ask i j k,Q=>i<n/\j<n/\ok c n (k (c i j)) Q
section
variable {α:Type} {O:Ord α} {x:Nat->α} {n:Nat}
noncomputable def ky (x:Nat->α) (p:Array Nat) (i:Nat):α:=x (p.getD i 0)
def Pm (n:Nat) (p:Array Nat):Prop:=p.size=n/\p.toList.Perm (List.range n)
def Up (O:Ord α) (f:Nat->α) (k:Nat):Prop:=∀i j,i<j->j<k->O.le (f i) (f j)
def Dn (O:Ord α) (f:Nat->α) (k:Nat):Prop:=∀i j,i<j->j<k->O.le (f j) (f i)
theorem Up.more {f:Nat->α} {k:Nat} (h:Up O f k) (hk:1<=k) (h1:O.le (f (k-1)) (f k)):Up O f (k+1):=fun i j hij hj=>by
 by_cases e:j=k
 ·subst e
  by_cases e':i=j-1
  ·subst e';exact h1
  ·exact Ord.le_tr (h i (j-1) (by omega) (by omega)) h1
 ·exact h i j hij (by omega)
theorem Dn.more {f:Nat->α} {k:Nat} (h:Dn O f k) (hk:1<=k) (h1:O.le (f k) (f (k-1))):Dn O f (k+1):=fun i j hij hj=>by
 by_cases e:j=k
 ·subst e
  by_cases e':i=j-1
  ·subst e';exact h1
  ·exact Ord.le_tr h1 (h i (j-1) (by omega) (by omega))
 ·exact h i j hij (by omega)
theorem Pm.lt {p:Array Nat} (h:Pm n p) {i:Nat} (hi:i<n):p.getD i 0<n:=by
 have hs:i<p.size:=by rw [h.1];exact hi
 have:p[i]∈p.toList:=by simp
 have e:p.getD i 0=p[i]:=by simp [Array.getD,hs]
 rw [e]
 exact List.mem_range.mp (h.2.mem_iff.mp this)
theorem Pm.rev {p:Array Nat} (h:Pm n p) (i j:Nat):Pm n (kas_rev p i j):=⟨by rw [kas_rev_size];exact h.1,(Array.perm_iff_toList_perm.mp (mirror_perm p i j _)).trans h.2⟩
theorem getD_of {p q:Array Nat} {i j:Nat} (h:p[i]?=q[j]?):p.getD i 0=q.getD j 0:=by
 rw [Array.getD_eq_getD_getElem?,Array.getD_eq_getD_getElem?,h]
theorem ky_rev {p:Array Nat} {i j:Nat} (hj:j<=p.size) (k:Nat):ky x (kas_rev p i j) k=if i<=k/\k<j then ky x p (i+j-1-k) else ky x p k:=by
 have e:=getElem?_mirror_all (i:=i) hj k
 unfold ky kas_rev
 split<;>rename_i h
 ·rw [if_pos h] at e;rw [getD_of e]
 ·rw [if_neg h] at e;rw [getD_of e]
theorem ky_same {p:Array Nat} {i j:Nat} (hj:j<=p.size) (he:∀k,i<=k->k<j->ky x p k=ky x p (j-1)):ky x (kas_rev p i j)=ky x p:=funext fun k=>by
 rw [ky_rev hj]
 split
 ·rw [he _ (by omega) (by omega),he k (by omega) (by omega)]
 ·rfl
noncomputable abbrev asks (O:Ord α) (x:Nat->α) (i j:Nat):Bool:=O.lt (x i) (x j)
structure DS (O:Ord α) (x:Nat->α) (n:Nat) (p:Array Nat) (m q:Nat):Prop where
 pm:Pm n p
 q1:q+1<=m
 mn:m<=n
 dn:Dn O (ky x p) m
 bl:∀k,m-(q+1)<=k->k<m->ky x p k=ky x p (m-1)
theorem DS.turn {p:Array Nat} {m q:Nat} (D:DS O x n p m q):Pm n (kas_rev p (m-(q+1)) m)/\ky x (kas_rev p (m-(q+1)) m)=ky x p :=
 ⟨D.pm.rev _ _,ky_same (by rw [D.pm.1];exact D.mn) D.bl⟩
theorem place_ok {p:Array Nat} {k:Nat} (hp:Pm n p) (hk:k<n) (hu:Up O (ky x p) k):∀(f l r:Nat),r-l<=f->l<=r->r<=k->(∀i,i<l->O.le (ky x p i) (ky x p k))->(∀i,r<=i->i<k->O.le (ky x p k) (ky x p i)) ->
  ok (asks O x) n (kas_place p k f l r) fun m=>m<=k/\(∀i,i<m->O.le (ky x p i) (ky x p k))/\(∀i,m<=i->i<k->O.le (ky x p k) (ky x p i))
 |0,l,r,hf,hl,hr,a,b=>⟨by omega,a,fun i hi=>b i (by omega)⟩
 |f+1,l,r,hf,hl,hr,a,b=>by
  unfold kas_place
  by_cases h:l ≥ r
  ·rw [if_pos h]
   exact ⟨by omega,a,fun i hi=>b i (by omega)⟩
  ·rw [if_neg h]
   refine ⟨hp.lt hk,hp.lt (by omega),?_⟩
   show ok _ _ (if O.lt (ky x p k) (ky x p ((l+r) / 2))=true then _ else _) _
   cases hc:O.lt (ky x p k) (ky x p ((l+r) / 2)) with
   |true =>
    rw [if_pos rfl]
    refine place_ok hp hk hu f l ((l+r) / 2) (by omega) (by omega) (by omega) a fun i hi hik=>?_
    by_cases e:i=(l+r) / 2
    ·rw [e];exact Ord.le_of_lt hc
    ·exact Ord.le_tr (Ord.le_of_lt hc) (hu _ _ (by omega) hik)
   |false =>
    rw [if_neg Bool.false_ne_true]
    refine place_ok hp hk hu f ((l+r) / 2+1) r (by omega) (by omega) hr (fun i hi=>?_) b
    by_cases e:i=(l+r) / 2
    ·rw [e];exact hc
    ·exact Ord.le_tr (hu _ _ (by omega) (by omega)) hc
end
end ST
namespace ST
open PySem PySem.W PyProof.Rows
section
variable {α:Type} {O:Ord α} {x:Nat->α} {prog:Program} {w:World} {A:Around} {E:Value->Shared->Prop} {s:Shared}
end
end ST
namespace ST
open PySem PySem.W PyProof.Rows HT
noncomputable def intO:Ord Int where
 lt a b:=decide (a<b)
 irr a:=decide_eq_false (Int.lt_irrefl a)
 tr a b c h g:=by simp only [decide_eq_true_eq] at *;omega
 tot a b h g:=by simp only [decide_eq_false_iff_not] at *;omega
section
variable {prog:Program} {w:World} {A:Around} {E:Value->Shared->Prop} {s:Shared}
inductive Tups (h:Heap):List Value->List (List Int)->Prop where
 |nil:Tups h [] []
 |cons {a:Addr} {its:Array Value} {ns:List Int} {us:List Value} {nss:List (List Int)}:IsTup h a its->IntsAre its.toList ns->Tups h us nss->Tups h (.ref a::us) (ns::nss)
theorem Tups.keep {h h':Heap} (k:∀c o,h.get? c=some o->h'.get? c=some o) {us:List Value} {nss:List (List Int)} (t:Tups h us nss):Tups h' us nss:=by
 induction t with
 |nil=>exact .nil
 |cons a b _ ih =>
  obtain ⟨o,ho,r⟩:=a
  exact .cons ⟨o,k _ _ ho,r⟩ b ih
theorem Tups.at {h:Heap} {us:List Value} {nss:List (List Int)} (t:Tups h us nss):∀i,i<us.length->∃a its,us.getD i Value.none=.ref a/\IsTup h a its/\IntsAre its.toList (nss.getD i []):=by
 induction t with
 |nil=>intro i hi;simp at hi
 |cons a b _ ih =>
  intro i hi
  cases i with
  |zero=>exact ⟨_,_,rfl,a,b⟩
  |succ i =>
   obtain ⟨c,its,e,r⟩:=ih i (by simpa using hi)
   exact ⟨c,its,by simpa using e,r⟩
inductive Fst:List (Option Value)->List (List Int)->Prop where
 |nil:Fst [] []
 |non {fs:List (Option Value)} {nss:List (List Int)}:Fst fs nss->Fst (none::fs) ([]::nss)
 |one {fs:List (Option Value)} {nss:List (List Int)} {n:Int} {t:Tok} {r:List Int}:Fst fs nss->Fst (some (.int n t)::fs) ((n::r)::nss)
noncomputable def ins {α:Type} (O:Ord α) (a:α):List α->List α
 | []=>[a]
 |b::r=>if O.lt b a=true then b::ins O a r else a::b::r
noncomputable def isort {α:Type} (O:Ord α):List α->List α
 | []=>[]
 |a::r=>ins O a (isort O r)
end
section
variable {α:Type} {O:Ord α}
theorem ins_perm (a:α) (l:List α):(ins O a l).Perm (a::l):=by
 induction l with
 |nil=>exact .refl _
 |cons b r ih =>
  unfold ins
  split
  ·exact (List.Perm.cons b ih).trans (List.Perm.swap a b r)
  ·exact .refl _
theorem isort_perm (l:List α):(isort O l).Perm l:=by
 induction l with
 |nil=>exact .refl _
 |cons a r ih=>exact (ins_perm a _).trans (ih.cons a)
theorem ins_up (a:α) (l:List α) (h:l.Pairwise O.le):(ins O a l).Pairwise O.le:=by
 induction l with
 |nil=>exact List.pairwise_singleton _ _
 |cons b r ih =>
  obtain ⟨h1,h2⟩:=List.pairwise_cons.mp h
  unfold ins
  split<;>rename_i hb
  ·refine List.pairwise_cons.mpr ⟨fun c hc=>?_,ih h2⟩
   rcases List.mem_cons.mp ((ins_perm a r).mem_iff.mp hc) with e|e
   ·rw [e];exact Ord.le_of_lt hb
   ·exact h1 c e
  ·have hb:O.le a b:=by rw [Bool.not_eq_true] at hb;exact hb
   refine List.pairwise_cons.mpr ⟨fun c hc=>?_,h⟩
   rcases List.mem_cons.mp hc with e|e
   ·rw [e];exact hb
   ·exact Ord.le_tr hb (h1 c e)
theorem isort_up (l:List α):(isort O l).Pairwise O.le:=by
 induction l with
 |nil=>exact .nil
 |cons a r ih=>exact ins_up a _ ih
theorem up_unique:∀{l m:List α},l.Perm m->l.Pairwise O.le->m.Pairwise O.le->l=m:=by
 intro l
 induction l with
 |nil=>intro m h _ _;exact h.nil_eq
 |cons a r ih =>
  intro m h h1 h2
  cases m with
  |nil=>exact absurd h.length_eq (by simp)
  |cons b t =>
   obtain ⟨a1,a2⟩:=List.pairwise_cons.mp h1
   obtain ⟨b1,b2⟩:=List.pairwise_cons.mp h2
   have e:a=b:=by
    rcases List.mem_cons.mp (h.mem_iff.mp List.mem_cons_self) with e|e
    ·exact e
    ·rcases List.mem_cons.mp (h.mem_iff.mpr List.mem_cons_self) with e'|e'
     ·exact e'.symm
     ·exact Ord.le_as (a1 b e') (b1 a e)
   subst e
   rw [ih h.cons_inv a2 b2]
end
end ST
namespace DI
open PySem L2
section
variable {X:Cx} {Ξ:Wd->Exn->Prop} {a e tg:Expr} {p pos:Pos} {f:Env->Sto->Res D} {fa:Env->Sto->Res (List D)}
noncomputable def opNotB (x y:D) (s:Sto):Res D:=match x,y with
 | .bl a,.bl b=>ok (.bl (!decide (a=b))) s
 |_,_=>none
theorem o_notB:OpR X (compareOp .IsNot) (rO X.K Ξ opNotB):=by
 rintro pins s σ H x y v u Q I rx ry ⟨w,dx,dy,rfl,S,hx,hy,h⟩
 unfold opNotB at h
 split at h
 ·rename_i a b
  cases hx;cases hy;cases rx;cases ry
  refine wpAny_isNot_plain rfl (fin_bl I (out_of S h _ rfl) ?_)
  cases a<;>cases b<;>rfl
 ·exact h.elim
end
end DI
namespace L2
open PySem PySem.Spec PyProof.Rows
structure CellsD (sc:Scope) (cl cl':List (Str×Addr)) (C:Nat) (h:Heap):Prop where
 old:∀n c,cl'.lookup n=some c->(C<c/\(n,NameKind.cell)∈sc.names/\∃v,h.IsCell c v)\/cl.lookup n=some c
 own:∀n,sc.names.lookup n=some .cell\/(cl.lookup n).isSome=true->∃c,cl'.lookup n=some c
 inj:(∀x y c,cl.lookup x=some c->cl.lookup y=some c->x=y)->(∀x c,cl.lookup x=some c->c<C)->∀x y c,cl'.lookup x=some c->cl'.lookup y=some c->x=y
theorem cells_old {x:Str} {c:Addr}:∀(names:List (Str×NameKind)) (n:Nat) (acc:List (Str×Addr)),(cellsFrom n names acc).lookup x=some c->((x,NameKind.cell)∈names/\n<=c)\/acc.lookup x=some c
 | [],n,acc,h=>.inr h
 |(y,k)::r,n,acc,h=>by
  unfold cellsFrom at h
  split at h
  ·rename_i hk
   have hk:k=.cell:=by simpa using hk
   subst hk
   rcases cells_old r (n+1) _ h with ⟨h1,h2⟩|h1
   ·exact .inl ⟨List.mem_cons_of_mem _ h1,by omega⟩
   ·rw [List.lookup_cons] at h1
    split at h1
    ·rename_i e
     have e:x=y:=by simpa using e
     subst e
     cases h1
     exact .inl ⟨List.mem_cons_self,Nat.le_refl _⟩
    ·exact .inr h1
  ·rcases cells_old r n acc h with ⟨h1,h2⟩|h1
   ·exact .inl ⟨List.mem_cons_of_mem _ h1,h2⟩
   ·exact .inr h1
theorem cells_inj:∀(names:List (Str×NameKind)) (n:Nat) (acc:List (Str×Addr)),(∀x y c,acc.lookup x=some c->acc.lookup y=some c->x=y)->(∀x c,acc.lookup x=some c->c<n)->∀x y c,(cellsFrom n names acc).lookup x=some c->(cellsFrom n names acc).lookup y=some c->x=y
 | [],n,acc,hi,hb=>hi
 |(z,k)::r,n,acc,hi,hb=>by
  unfold cellsFrom
  split
  ·refine cells_inj r (n+1) _ (fun x y c h1 h2=>?_) fun x c h1=>?_
   ·rw [List.lookup_cons] at h1 h2
    split at h1
    ·rename_i e1
     split at h2
     ·rename_i e2
      exact (by simpa using e1:x=z).trans (by simpa using e2:y=z).symm
     ·cases h1
      exact absurd (hb y _ h2) (Nat.lt_irrefl _)
    ·split at h2
     ·cases h2
      exact absurd (hb x _ h1) (Nat.lt_irrefl _)
     ·exact hi x y c h1 h2
   ·rw [List.lookup_cons] at h1
    split at h1
    ·cases h1;exact Nat.lt_succ_self _
    ·exact Nat.lt_succ_of_lt (hb x c h1)
  ·exact cells_inj r n acc hi hb
theorem cells_is {x:Str} {c:Addr} {lo:Nat}:∀(names:List (Str×NameKind)) (h:Heap) (acc:List (Str×Addr)),lo<=h.objs.size->(∀x c,acc.lookup x=some c->lo<=c->h.IsCell c none)->(cellsFrom h.objs.size names acc).lookup x=some c->lo<=c->(pushCells h names).IsCell c none
 | [],h,acc,_,ha,e,hl=>ha x c e hl
 |(z,k)::r,h,acc,hlo,ha,e,hl=>by
  unfold cellsFrom at e
  unfold pushCells
  split at e
  ·rename_i hk
   rw [if_pos hk]
   have hz:(h.push { cls:=.type "cell",data:=.cell none }).objs.size=h.objs.size+1:=Heap.size_push ..
   refine cells_is (lo:=lo) r _ ((z,h.objs.size)::acc) (by omega) (fun y d hy hd=>?_) (by rw [hz];exact e) hl
   rw [List.lookup_cons] at hy
   split at hy
   ·cases hy
    exact ⟨_,Heap.get?_push_size _ rfl,rfl⟩
   ·exact (ha y d hy hd).keeps fun b o q=>Heap.get?_push_of_some _ q
  ·rename_i hk
   rw [if_neg hk]
   exact cells_is r h acc hlo ha e hl
theorem wpAny_newEnvD {M:Model} {A:Around} {E:Value->Shared->Prop} {s:Shared} {scope:Scope} {globals:Addr} {cl:List (Str×Addr)} {qual:Str} {env:Env} {bi:Addr} {Q:Env->Shared->Prop}
  (hQ:∀cl' h3,((∀x c,cl.lookup x=some c->c<s.heap.objs.size)->CellsD scope cl cl' s.heap.objs.size h3)->h3.Ns s.heap.objs.size (fun _=>none)->(∀b o,s.heap.get? b=some o->h3.get? b=some o)->Q (newEnv scope s.heap.objs.size globals cl' qual none .none (some env) bi) { s with heap:=h3 }) :
  wpAny M A (newFunctionEnv scope globals cl [] qual none .none (some env) bi) Q E s:=by
 simp only [newFunctionEnv,Option.isSome_some,if_true]
 refine wpAny_bind (wpAny_alloc ?_)
 refine wpAny_bind (wpAny_layCells _ (fun name kind cells=>by cases hkc:kind==NameKind.cell<;>simp [hkc]) _ _ _ _ ?_)
 rw [show ({ s with heap:=s.heap.push { cls:=.type "dict",data:=.dict #[] } }:Shared).heap.objs.size=s.heap.objs.size+1 from Heap.size_push ..]
 simp only [List.forIn_nil]
 refine wpAny_bind (wpAny_pure (wpAny_pure ?_))
 have hz:(s.heap.push { cls:=.type "dict",data:=.dict #[] }).objs.size=s.heap.objs.size+1:=Heap.size_push ..
 refine hQ (cellsFrom (s.heap.objs.size+1) scope.names cl) _ (fun hb=>⟨fun n c e=>?_,fun n hn=>?_,fun hi hb'=>cells_inj _ _ _ hi fun x c e=>Nat.lt_succ_of_lt (hb' x c e)⟩) ((Heap.Ns.new s.heap (.type "dict")).keeps (pushCells_keeps _ _)) fun b o e=>pushCells_keeps _ _ b o (Heap.get?_push_of_some _ e)
 ·rcases cells_old _ _ _ e with ⟨h1,h2⟩|h1
  ·exact .inl ⟨by omega,h1,none,cells_is (lo:=s.heap.objs.size+1) scope.names _ cl (by omega) (fun x d q hd=>absurd (hb x d q) (Nat.not_lt.mpr (Nat.le_of_succ_le hd))) (by rw [hz];exact e) h2⟩
  ·exact .inr h1
 ·exact Option.isSome_iff_exists.mp (PySem.W.cellsFrom_some scope.names _ cl hn)
noncomputable abbrev cxD (X:Cx) (N:List Str) (sc:Scope) (cl:List (Str×Addr)) (C:Addr) (s:Shared) (H:Hp) (ex:List Addr) (pn:List (Addr×Obj)):Cx:={ cxC X N sc cl C s H ex pn with fn:=fun x=>sc.names.lookup x==some .cell }
structure DScope (X:Cx) (sc:Scope) (N:List Str) (nt:Nat) (cap:List Nat):Prop where
 kind:sc.kind=.function
 names:∀x∈sc.names,x.2=.local->sc.names.lookup x.1=some .local
 cells:∀x∈sc.names,x.2=.cell->sc.names.lookup x.1=some .cell
 frees:∀x∈sc.names,x.2=.free->sc.names.lookup x.1=some .free/\(X.env.scope.names.lookup x.1=some .cell\/X.env.scope.names.lookup x.1=some .free)
 len:N.length=nt+cap.length
 capN:∀(k:Nat) j,cap[k]?=some j->∃x,X.N[j]?=some x/\N[nt+k]?=some x/\(x,NameKind.free)∈sc.names
section
variable {X:Cx} {sc:Scope} {N:List Str} {nt:Nat} {cap:List Nat} {cl cl':List (Str×Addr)} {s:Shared} {h1:Heap} {H:Hp} {σ:St} {pins:List (Addr×Obj)} {fp:List Addr} {C:Addr} {t':Nat}
theorem Inv.blockD (I:Inv X pins σ H s) (S:DScope X sc N nt cap) (hcl:∀n c,cl.lookup n=some c↔((n,NameKind.free)∈sc.names/\X.env.cells.lookup n=some c)) (hcs:CellsD sc cl cl' C h1) (hf:∀b∈fp,FpOk X pins H b) (hfs:∀b∈fp,b<s.heap.objs.size)
  (hk:∀b o,s.heap.get? b=some o->h1.get? b=some o) (hC:s.heap.objs.size<=C) (hns:∃m,h1.Ns C m):Inv (cxD X N sc cl' C s H fp (X.pn++pins)) [] (startC nt cap σ) H { s with heap:=h1,toks:=t' }:=by
 have hfsub:∀b∈frs X.stack,b∈X.env.locals::X.fs:=I.stkSub
 have clLt:∀x c,cl.lookup x=some c->c<s.heap.objs.size:=fun x c e=>by
  obtain ⟨v,o,ho,_⟩:=I.cell x c ((hcl x c).mp e).2
  exact Heap.lt_size ho
 have kindC:∀x,(relabel sc X.env).names.lookup x=some .cell\/(relabel sc X.env).names.lookup x=some .free->(x,NameKind.free)∈sc.names\/sc.names.lookup x=some .cell:=fun x hx=>by
  rw [look_relabel] at hx
  cases e:sc.names.lookup x with
  |none=>rw [e] at hx;rcases hx with z|z<;>cases z
  |some k =>
   have hm:(x,k)∈sc.names:=by
    obtain ⟨l1,l2,e1,_⟩:=List.lookup_eq_some_iff.mp e
    rw [e1]
    simp
   rw [e] at hx
   cases k with
   |free=>exact .inl hm
   |cell=>exact .inr rfl
   |_=>exfalso;revert hx;simp
 have hasCell:∀x,(x,NameKind.free)∈sc.names->∃c,X.env.cells.lookup x=some c:=fun x hx=>I.ok.has x (S.frees _ hx rfl).2
 have capt:∀x c,(x,NameKind.free)∈sc.names->X.env.cells.lookup x=some c->cl'.lookup x=some c:=fun x c hx hc=>by
  have e:=(hcl x c).mpr ⟨hx,hc⟩
  obtain ⟨d,hd⟩:=hcs.own x (.inr (by rw [e];rfl))
  rcases hcs.old x d hd with ⟨_,q,_⟩|q
  ·have z1:=S.cells _ q rfl
   have z2:=(S.frees _ hx rfl).1
   dsimp only at z1 z2
   rw [z1] at z2
   cases z2
  ·rw [e] at q
   cases q
   exact hd
 have ok:Cx.Ok (cxD X N sc cl' C s H fp (X.pn++pins)):=by
  refine ⟨I.ok.mod,?_,I.ok.glob,I.ok.blt,hC,?_,?_,?_,I.ok.hd,I.ok.frames,.inl rfl,?_,I.bs,Nat.le_trans I.ok.bsz I.sz,?_,?_,I.stack,I.stkFree⟩
  ·exact S.kind
  ·exact hcs.inj (fun x y c hx hy=>I.ok.inj x y c ((hcl x c).mp hx).2 ((hcl y c).mp hy).2) fun x c e=>Nat.lt_of_lt_of_le (clLt x c e) hC
  ·intro x hx
   rcases kindC x hx with hm|hm
   ·obtain ⟨c,e⟩:=hasCell x hm
    exact ⟨c,capt x c hm e⟩
   ·exact hcs.own x (.inl hm)
  ·intro x c hx e
   rcases hcs.old x c e with ⟨q,_,_⟩|q
   ·exact Nat.le_trans hC (Nat.le_of_lt q)
   ·have z2:=(S.frees _ ((hcl x c).mp q).1 rfl).1
    have z1:sc.names.lookup x=some .cell:=by simpa using hx
    dsimp only at z2
    rw [z1] at z2
    cases z2
  ·intro b hb
   refine ⟨Nat.ne_of_lt (Nat.lt_of_lt_of_le (hfs b hb) hC),fun x c e=>?_⟩
   rcases hcs.old x c e with ⟨q,_,_⟩|q
   ·exact Nat.ne_of_gt (Nat.lt_of_lt_of_le (hfs b hb) (Nat.le_trans hC (Nat.le_of_lt q)))
   ·exact (hf b hb).2.2.2.2.1 x c ((hcl x c).mp q).2
  ·intro b o e hb
   rcases (hf b hb).2.2.2.1 with z|z
   ·exact I.ok.noex b o e z
   ·exact absurd (Nat.lt_of_lt_of_le (Heap.lt_size e) (Nat.le_trans I.ok.bsz z)) (Nat.lt_irrefl _)
  ·intro b hb z
   rcases List.mem_cons.mp (hfsub b z) with e|e
   ·exact (hf b hb).2.1 e
   ·exact (hf b hb).2.2.1 e
 obtain ⟨m,hm⟩:=hns
 obtain ⟨mX,hnX,hlX⟩:=I.loc
 refine ⟨ok,rfl,I.bare,Un.kept hk,⟨m,hm,fun i x v e1 e2 e3=>?_⟩,fun x c e=>?_,I.hok.fresh hC,fun x c e=>?_,fun p hp=>?_,I.hok.kept hk,?_⟩
 ·
  have hi:nt<=i:=by
   apply Nat.le_of_not_lt
   intro hlt
   have:(startC nt cap σ)[i]?=some none:=by
    unfold startC
    rw [List.getElem?_append_left (by simpa using hlt),List.getElem?_replicate,if_pos hlt]
   rw [this] at e2
   cases e2
  have e2':(cap.map fun j=>(σ[j]?).getD none)[i-nt]?=some (some v):=by
   have e:=e2
   unfold startC at e
   rw [List.getElem?_append_right (by simpa using hi)] at e
   simpa using e
  rw [List.getElem?_map] at e2'
  cases ej:cap[i-nt]? with
  |none=>rw [ej] at e2';cases e2'
  |some j =>
   rw [ej] at e2'
   have ev:(σ[j]?).getD none=some v:=Option.some.inj e2'
   have ev':σ[j]?=some (some v):=by
    cases q:σ[j]? with
    |none=>rw [q] at ev;cases ev
    |some z=>rw [q] at ev;exact congrArg some ev
   obtain ⟨y,f1,f2,f3⟩:=S.capN _ _ ej
   rw [Nat.add_sub_cancel' hi] at f2
   have exy:y=x:=Option.some.inj (f2.symm.trans e1)
   subst exy
   obtain ⟨g1,g2⟩:=S.frees _ f3 rfl
   have vis:Vis X.env.scope y:=.inr g2
   obtain ⟨u,r,l⟩:=hlX j y v f1 ev' vis
   refine ⟨u,r,.inr ⟨?_,?_⟩⟩
   ·show (relabel sc X.env).names.lookup y=some .cell\/(relabel sc X.env).names.lookup y=some .free
    rw [look_relabel,g1]
    simp only [Option.map_some]
    split
    ·exact .inl rfl
    ·exact .inr rfl
   ·rcases l with ⟨k,_⟩ | ⟨_,c,hc,hcell⟩
    ·exfalso
     have k':X.env.scope.names.lookup y=some .local:=k
     dsimp only at g2
     rw [k'] at g2
     rcases g2 with z|z<;>cases z
    ·obtain ⟨oc,ho,hd⟩:=hcell
     exact ⟨c,capt y c f3 hc,oc,hk _ _ ho,hd⟩
 ·rcases hcs.old x c e with ⟨_,_,q⟩|q
  ·exact q
  ·obtain ⟨v,oc,ho,hd⟩:=I.cell x c ((hcl x c).mp q).2
   exact ⟨v,oc,hk _ _ ho,hd⟩
 ·rcases hcs.old x c e with ⟨q,_,_⟩|q
  ·exact I.hok.fresh (by omega)
  ·exact I.freeC x c ((hcl x c).mp q).2
 ·have hp':p∈X.pn++pins:=by simpa using hp
  obtain ⟨e,n,ne,nf,d⟩:=I.pin p hp'
  refine ⟨hk _ _ e,n,Nat.ne_of_lt (Nat.lt_of_lt_of_le (Heap.lt_size e) hC),fun z=>?_,d⟩
  rcases List.mem_cons.mp (hfsub p.1 z) with q|q
  ·exact ne q
  ·exact nf q
 ·unfold startC
  rw [List.length_append,List.length_replicate,List.length_map]
  exact S.len.symm
end
section
variable {X:Cx}
theorem comp_coreD {el tg src:Expr} {tests:List Expr} {sc:Scope} {ps:Pos} {N:List Str} {nt:Nat} {cap:List Nat} {wi:TI} {g:TG} {tf:TT} {te:TE} {p1:Pos} {use:Option (Value->Sem Unit)} {R:Value->Shared->Prop} {pins:List (Addr×Obj)} {s:Shared} {σ:St} {H:Hp} {Q:VK} (hc:X.calm=true) (S:DScope X sc N nt cap) (hgo:GOk g nt) (hi:PI X tg src wi)
  (hY:∀(cl:List (Str×Addr)) (C:Addr) (s:Shared) (H:Hp) (ex:List Addr) (pn:List (Addr×Obj)),PG (cxD X N sc cl C s H ex pn) tg g/\PF (cxD X N sc cl C s H ex pn) tests tf/\PE (cxD X N sc cl C s H ex pn) el te)
  (hs:∀x,foldedSetIterable src X.env x=pure x) (I:Inv X pins σ H s) (h:tComp wi nt cap g tf te σ H Q)
  (hfin:∀(s':Shared) (H1:Hp) (D C:Addr) (m:Str->Option Value),(∀h',Heap.SameBut C s'.heap h'->Inv X pins σ H1 { s' with heap:=h' })->s'.heap.Ns C m->H1 C=none->C≠X.env.locals->C∉X.fs->X.s₀.heap.objs.size<=C->(∀x c,X.env.cells.lookup x=some c->c≠C)->(∀p∈X.pn++pins,p.1≠C)->Q (.ref D) H1->compPost (model X.prog X.w) X.A X.xe use R (.ref D) C (.ok .next) s') :
  wpAny (model X.prog X.w) X.A (comprehension (.ListComp el [⟨tg,src,tests,0⟩] sc ps) sc X.env p1 (newList []) false (eval src X.env) use) R X.xe s:=by
 obtain ⟨cl,hclos,hcl⟩:=clo_of (env:=X.env) (sc:=sc) fun n hn=>I.ok.has n (S.frees _ hn rfl).2
 refine wpAny_comprehension_free (use:=use) rfl hs hclos S.kind S.names (thn (hi pins s σ H _ I h) fun xv s1 h1=>thn h1 fun itv s2 h2=>?_)
 obtain ⟨it,fp,tn,J,H2,e,I2,T,st2,f2,W,⟨m0,w0⟩,turn⟩:=h2
 subst e
 refine wpAny_newObj_type (wpAny_newEnvD fun cl' h3 hcs3 hns3 hk3=>?_)
 dsimp only at hcs3 hns3 hk3 |-
 generalize hD:s2.heap.objs.size=D at hcs3 hns3 hk3 |-
 generalize hG:s2.heap.push { cls:=.type "list",dict:=none,data:=.seq ([]:List Value).toArray }=G at hcs3 hns3 hk3 |-
 generalize hCe:G.objs.size=C at hcs3 hns3 hk3 |-
 have hC:C=D+1:=by rw [<- hCe,<- hG,Heap.size_push,hD]
 have hDC:D≠C:=by omega
 have hDle:s2.heap.objs.size<=D:=Nat.le_of_eq hD
 have hCle:s2.heap.objs.size<=C:=by omega
 have old:∀b o,s2.heap.get? b=some o->h3.get? b=some o:=fun b o e=>hk3 b o (hG ▸ Heap.get?_push_of_some _ e)
 have hacc:h3.PlainList D #[]:=⟨_,hk3 _ _ (hG ▸ hD ▸ Heap.get?_push_size _ rfl)⟩
 have hfs:∀b∈fp,b<s2.heap.objs.size:=fun b hb=>by
  obtain ⟨o,e,_⟩:=T.obj _ _ st2 b hb
  exact Heap.lt_size e
 have hcs3:=hcs3 fun x c e=>by
  obtain ⟨v,o,ho,_⟩:=I2.cell x c ((hcl x c).mp e).2
  exact Nat.lt_of_lt_of_le (Heap.lt_size ho) hCle
 have IB:=I2.blockD (t':=s2.toks) S hcl hcs3 f2 hfs old hCle ⟨_,hns3⟩
 have hDs:D∉frs X.stack:=fun z=>by
  rcases List.mem_cons.mp (I2.stkSub D z) with e|e
  ·exact absurd (Nat.lt_of_lt_of_le I2.lt hDle) (by rw [e];exact Nat.lt_irrefl _)
  ·exact I2.nofs hDle e
 have hDf:D∉fp:=fun z=>absurd (Nat.lt_of_lt_of_le (hfs D z) hDle) (Nat.lt_irrefl _)
 have hDcell:∀x c,cl'.lookup x=some c->c≠D:=fun x c e z=>by
  rcases hcs3.old x c e with ⟨q,_,_⟩|e
  ·rw [z] at q
   exact absurd q (by rw [hC];exact Nat.not_lt.mpr (Nat.le_succ D))
  ·obtain ⟨v,o,ho,_⟩:=I2.cell x c ((hcl x c).mp e).2
   exact absurd (Nat.lt_of_lt_of_le (Heap.lt_size ho) (by rw [z];exact hDle)) (Nat.lt_irrefl _)
 have hDpin:∀p∈X.pn++pins,p.1≠D:=fun p hp z=>absurd (Nat.lt_of_lt_of_le (Heap.lt_size (I2.pin p hp).1) (by rw [z];exact hDle)) (Nat.lt_irrefl _)
 generalize hYe:cxD X N sc cl' C s2 H2 fp (X.pn++pins)=Y at IB
 have fpY:∀{H':Hp} {pl:List (Addr×Obj)},(∀b∈fp,H' b=none)->(∀p∈pl,p.1∉fp)->∀b∈fp,FpOk Y pl H' b:=fun {H' pl} hn hp b hb=>by
  subst hYe
  obtain ⟨_,f1,f2',f3,f4,f5⟩:=f2 b hb
  refine ⟨hn b hb,Nat.ne_of_lt (Nat.lt_of_lt_of_le (hfs b hb) hCle),fun z=>?_,.inl hb,fun x c e=>(hcs3.old x c e).elim (fun q z=>Nat.ne_of_gt (Nat.lt_of_lt_of_le (hfs b hb) (Nat.le_trans hCle (Nat.le_of_lt q.1))) z) fun e=>f4 x c ((hcl x c).mp e).2,fun p hpp=>?_⟩
  ·rcases List.mem_cons.mp (I2.stkSub b z) with e|e
   ·exact f1 e
   ·exact f2' e
  ·rcases List.mem_append.mp hpp with z|z
   ·exact f5 p z
   ·exact fun e=>hp p z (e ▸ hb)
 have hG1:PG Y tg g:=by subst hYe;exact (hY _ _ _ _ _ _).1
 have hF1:PF Y tests tf:=by subst hYe;exact (hY _ _ _ _ _ _).2.1
 have hE1:PE Y el te:=by subst hYe;exact (hY _ _ _ _ _ _).2.2
 have eP:Y.prog=X.prog:=by subst hYe;rfl
 have eW:Y.w=X.w:=by subst hYe;rfl
 have eA:Y.A=X.A:=by subst hYe;rfl
 have eK:Y.K=X.K:=by subst hYe;rfl
 have eE:Y.env=compEnvC sc cl' C X.env:=by subst hYe;rfl
 have eX:Y.xe=fun _ _=>False:=by subst hYe;rfl
 have eC:Y.calm=true:=by subst hYe;exact hc
 have eS:Y.s₀.heap.objs.size<=D:=by subst hYe;exact hDle
 have eF:D∉Y.fs:=by subst hYe;exact hDs
 have eL:D≠Y.env.locals:=by subst hYe;exact hDC
 have eCl:∀x c,Y.env.cells.lookup x=some c->c≠D:=by subst hYe;exact hDcell
 have eN:∀p∈Y.pn,p.1≠D:=by subst hYe;exact hDpin
 have fin:∀(s':Shared) (τ:St) (H':Hp) (acc:List V) (ys:Array Value),Inv Y [] τ H' s'->s'.heap.PlainList D ys->Vals acc ys.toList->H' D=none->acc.length<=sizeLine->(∀D,H' D=none->Q (.ref D) (upd H' D (.lst acc))) ->
   compPost (model X.prog X.w) X.A X.xe use R (.ref D) C (.ok .next) s':=by
  intro s' τ H' acc ys I' pl rv hn hz q
  subst hYe
  obtain ⟨m,hm,_⟩:=id I'.loc
  refine hfin s' (upd H' D (.lst acc)) D C m (fun h' sb=>?_) hm ?_ (fun z=>absurd (Nat.lt_of_lt_of_le I2.lt hCle) (by rw [z];exact Nat.lt_irrefl _)) (I2.nofs hCle) (Nat.le_trans I2.sz hCle) (fun x c e z=>?_) (fun p hp z=>absurd (Nat.lt_of_lt_of_le (Heap.lt_size (I2.pin p hp).1) (by rw [z];exact hCle)) (Nat.lt_irrefl _)) (q D hn)
  ·have hokD:HOk X.prog X.w H' h':=I'.hok.but I'.free sb
   obtain ⟨n,ho⟩:=pl
   have ho':h'.get? D=some { cls:=.type "list",data:=.seq ys n }:=(sb.2 D hDC).trans ho
   have new:ObjOk X.prog X.w (upd H' D (.lst acc)) h' D (.lst acc):=⟨hz,ys.toList,n,rv,by simpa using ho'⟩
   have u:=(I'.base.but hCle sb).adopt (o:=.lst acc) hDle hn
   refine I2.call' (s':={ s' with heap:=h' }) (ch:=fp) I'.os u (hokD.adopt hn new) I'.bare (fun b hb=>?_)
   obtain ⟨_,f1,_,f3,f4,f5⟩:=f2 b hb
   exact ⟨f3,f1,f4,f5⟩
  ·rw [upd_ne (Ne.symm hDC)]
   exact I'.free
  ·obtain ⟨v,o,ho2,_⟩:=I2.cell x c e
   exact absurd (Nat.lt_of_lt_of_le (Heap.lt_size ho2) (by rw [z];exact hCle)) (Nat.lt_irrefl _)
 have loop:codeAny (model X.prog X.w) X.A (.compLoop (.ListComp el [⟨tg,src,tests,0⟩] sc ps) 0 (.ref it) (.ref D) (compEnvC sc cl' C X.env)) (compPost (model X.prog X.w) X.A X.xe use R (.ref D) C)
   { s2 with heap:=h3 }:=by
  refine comp_turns (fun n s'=>∃i acc o H' ys,Inv Y [] (o++capsC cap σ) H' s'/\o.length=nt/\tn i s'.heap/\(∀b∈fp,H' b=none)/\s'.heap.PlainList D ys/\Vals acc ys.toList/\H' D=none/\W i n acc H') ?_ m0
   ⟨0,[],List.replicate nt none,H2,#[],IB,by simp,T.keep _ _ _ st2 fun b _ o e=>old b o e,fun b hb=>(f2 b hb).1,hacc,.nil,I2.hok.fresh hDle,w0⟩
  rintro n s3 ⟨i,acc,o3,H3,ys,I3,ho3,st3,fr3,pl3,rv3,nD3,w3⟩
  generalize hτ:o3++capsC cap σ=τ at I3
  obtain ⟨nn,ho⟩:=id pl3
  generalize hoD:({ cls:=.type "list",data:=.seq ys nn }:Obj)=oD at ho
  have cellD:∀v,oD.data≠.cell v:=fun v z=>by subst hoD;cases z
  have I3':Inv Y [(D,oD)] τ H3 s3:=I3.pins_of fun p hp=>by
   have e:p=(D,oD):=by simpa using hp
   subst e
   exact ⟨ho,nD3,eL,eF,cellD⟩
  have nfp:∀p∈[(D,oD)],p.1∉fp:=fun p hp=>by
   have e:p=(D,oD):=by simpa using hp
   subst e
   exact hDf
  have atD:∀{pl:List (Addr×Obj)} {τ':St} {H':Hp} {s':Shared},Inv Y ([(D,oD)]++pl) τ' H' s'->s'.heap.PlainList D ys/\H' D=none:=fun {pl τ' H' s'} I'=>by
   have q:=I'.pin (D,oD) (List.mem_append_right _ (List.mem_append_left _ (by simp)))
   exact ⟨⟨nn,by rw [hoD];exact q.1⟩,q.2.1⟩
  rcases turn i n acc H3 w3 with ⟨stop,hz,q⟩ | ⟨go,hz,N',hN,step⟩
  ·have hd:=T.done Y eP eW eK eC i [(D,oD)] s3 τ H3 (fun _ _=>False) I3' (fpY fr3 nfp) st3 stop
   rw [eA] at hd
   refine thn hd fun r s4 h4=>?_
   obtain ⟨hr,I4⟩:=h4
   subst hr
   obtain ⟨pl4,n4⟩:=atD (pl:=[]) (by simpa using I4)
   exact fin s4 τ H3 acc ys (Inv.unpinned (pins:=[]) I4) pl4 rv3 n4 hz q
  ·have hd:=T.item Y eP eW eK eC i [(D,oD)] s3 τ H3 (fun _ _=>False) I3' (fpY fr3 nfp) st3 go
   rw [eA] at hd
   refine thn hd fun r s4 h4=>?_
   obtain ⟨u,hr,h4⟩:=h4
   subst hr
   refine thn h4 fun _ s5 h5=>?_
   obtain ⟨x,H5,I5,r5,y5,st5,fr5⟩:=h5
   have I5':=I5.pinned (fpY fr5 nfp) (T.obj _ _ st5)
   have q5:=hG1 _ s5 τ H5 x u _ I5' r5 (hτ ▸ hgo x o3 _ H5 _ ho3 (step o3 x H5 ho3 y5))
   rw [eP,eW,eA,eE,eX] at q5
   refine thn q5 fun _ s6 h6=>?_
   obtain ⟨τ6,H6,I6,⟨o6,ho6,eτ6⟩,q6⟩:=h6
   have q7:=hF1 _ s6 τ6 H6 _ I6 q6
   rw [eP,eW,eA,eE,eX] at q7
   refine thn q7 fun b s7 h7=>?_
   obtain ⟨H7,I7,q7⟩:=h7
   have frAt:∀{τ':St} {H':Hp} {s':Shared},Inv Y ([(D,oD)]++pinsAt fp s5.heap) τ' H' s'->tn (i+1) s'.heap/\∀b∈fp,H' b=none:=fun {τ' H' s'} I'=>by
    refine ⟨T.keep _ _ _ st5 fun b hb o e=>(I'.pin (b,o) (List.mem_append_right _ (List.mem_append_right _ (mem_pinsAt hb e)))).1,fun b hb=>?_⟩
    obtain ⟨o,e,_⟩:=T.obj _ _ st5 b hb
    exact (I'.pin (b,o) (List.mem_append_right _ (List.mem_append_right _ (mem_pinsAt hb e)))).2.1
   cases b with
   |false =>
    rw [if_neg Bool.false_ne_true] at q7 |-
    obtain ⟨m',hm,w7⟩:=hN _ _ q7
    obtain ⟨pl7,n7⟩:=atD I7
    obtain ⟨t7,f7⟩:=frAt I7
    exact ⟨m',hm,i+1,acc,o6,H7,ys,eτ6 ▸ I7.pins_of (fun p hp=>by simp at hp),ho6,t7,f7,pl7,rv3,n7,w7⟩
   |true =>
    rw [if_pos rfl] at q7 |-
    have q8:=hE1 _ s7 τ6 H7 _ I7 q7
    rw [eP,eW,eA,eE,eX] at q8
    refine thn q8 fun y s8 h8=>?_
    obtain ⟨v,H8,I8,r8,q9⟩:=h8
    obtain ⟨m',hm,w8⟩:=hN _ _ q9
    obtain ⟨pl8,n8⟩:=atD I8
    obtain ⟨t8,f8⟩:=frAt I8
    have hys:ys.size<=sizeLine:=by
     have e:=rv3.length
     simp only [Array.length_toList] at e
     omega
    refine wpAny_list_append_plain (hsz:=hys) pl8 fun h9 pl9 sb9=>?_
    have I8':Inv Y [] τ6 H8 s8:=I8.pins_of (fun p hp=>by simp at hp)
    have I9:Inv Y [] τ6 H8 { s8 with heap:=h9,toks:=s8.toks }:=I8'.turned (it:=D) (fun b o hb e=>(sb9.2 b hb).trans e) n8 eL (.inr eS) eCl (fun p hp=>eN p (by simpa using hp))
    refine ⟨m',hm,i+1,acc++[v],o6,H8,ys.push y,eτ6 ▸ I9,ho6,T.keep _ _ _ t8 fun b hb o e=>(sb9.2 b (fun z=>hDf (z ▸ hb))).trans e,f8,pl9,?_,n8,w8⟩
    rw [Array.toList_push]
    exact Vals.append rv3 (.cons r8 .nil)
 exact codeAny_compStart_list loop (T.self _ _ _ _ _ (T.keep _ _ _ st2 fun b _ o e=>old b o e) loop)
theorem pe_compD {el tg src:Expr} {tests:List Expr} {sc:Scope} {ps:Pos} {N:List Str} {nt:Nat} {cap:List Nat} {wi:TI} {g:TG} {tf:TT} {te:TE} (hc:X.calm=true) (S:DScope X sc N nt cap) (hgo:GOk g nt) (hi:PI X tg src wi)
  (hY:∀(cl:List (Str×Addr)) (C:Addr) (s:Shared) (H:Hp) (ex:List Addr) (pn:List (Addr×Obj)),PG (cxD X N sc cl C s H ex pn) tg g/\PF (cxD X N sc cl C s H ex pn) tests tf/\PE (cxD X N sc cl C s H ex pn) el te)
  (hs:∀x,foldedSetIterable src X.env x=pure x:=by intro _;rfl):PE X (.ListComp el [⟨tg,src,tests,0⟩] sc ps) (tComp wi nt cap g tf te):=by
 intro pins s σ H Q I h
 rw [eval_ListComp]
 exact comp_coreD (use:=none) hc S hgo hi hY hs I h fun s' H1 D C m IX hm _ _ _ _ _ _ q=>⟨m,hm,fun h' sb=>⟨.ref D,H1,IX h' sb,rfl,q⟩⟩
end
end L2
namespace L2
open PySem
noncomputable def checkD (sc:Scope) (on:List (Str×NameKind)) (oN N:List Str) (nt:Nat) (cap:List Nat):Bool :=
 decide (sc.kind=.function)&&sc.names.all (fun x=>decide (x.2=.local->sc.names.lookup x.1=some .local))&&sc.names.all (fun x=>decide (x.2=.cell->sc.names.lookup x.1=some .cell)) &&
 sc.names.all (fun x=>decide (x.2=.free->sc.names.lookup x.1=some .free/\(on.lookup x.1=some .cell\/on.lookup x.1=some .free)))&&decide (N.length=nt+cap.length) &&
 (List.range cap.length).all (fun k=>match cap[k]? with
  |some j=>match oN[j]? with
   |some x=>decide (N[nt+k]?=some x)&&decide ((x,NameKind.free)∈sc.names)
   |none=>false
  |none=>true)
theorem ds_of {X:Cx} {sc:Scope} {N:List Str} {nt:Nat} {cap:List Nat} (h:checkD sc X.env.scope.names X.N N nt cap=true):DScope X sc N nt cap:=by
 unfold checkD at h
 simp only [Bool.and_eq_true,List.all_eq_true,decide_eq_true_eq] at h
 obtain ⟨⟨⟨⟨⟨h1,h2⟩,h3⟩,h4⟩,h5⟩,h6⟩:=h
 refine ⟨h1,h2,h3,fun x hx e=>h4 x hx e,h5,fun k j e=>?_⟩
 have hk:k<cap.length:=(List.getElem?_eq_some_iff.mp e).1
 have:=h6 k (List.mem_range.mpr hk)
 rw [e] at this
 dsimp only at this
 cases ex:X.N[j]? with
 |none=>rw [ex] at this;cases this
 |some x =>
  rw [ex] at this
  simp only [Bool.and_eq_true,decide_eq_true_eq] at this
  exact ⟨x,rfl,this.1,this.2⟩
end L2
namespace DI
open PySem L2
section
variable {X:Cx} {Ξ:Wd->Exn->Prop} {e a b c tg el src:Expr} {es rest tests:List Expr} {pos:Pos} {f g h:Env->Sto->Res D} {fa:Env->Sto->Res (List D)} {ft gt:Env->Sto->Res Bool}
theorem e_compD {sc:Scope} {ps:Pos} {N:List Str} {nt:Nat} {cap:List Nat} {it:Env->Sto->Res (List D)} {gd:D->Env->Option Env} {g0:TG} (hc:X.calm=true) (S:DScope X sc N nt cap) (T:Tg X.K g0 gd nt) (hi:PI X tg src (tIt X.K Ξ it))
  (hY:∀(cl:List (Str×Addr)) (C:Addr) (s:Shared) (H:Hp) (ex:List Addr) (pn:List (Addr×Obj)),PG (cxD X N sc cl C s H ex pn) tg g0/\PF (cxD X N sc cl C s H ex pn) tests (tT X.K NoX ft)/\PE (cxD X N sc cl C s H ex pn) el (tE X.K NoX f))
  (hs:∀x,foldedSetIterable src X.env x=pure x:=by intro _;rfl):PE X (.ListComp el [⟨tg,src,tests,0⟩] sc ps) (tE X.K Ξ (eComp nt cap it gd ft f)) :=
 pe_imp (pe_compD hc S T.gok hi hY hs) fun σ H Q h=>tComp_mono T.imp (fun R R' i h=>tIt_mono R R' i h) (comp_imp σ H Q h)
end
end DI
namespace L2
open PySem PySem.Spec PyProof.Rows
section
variable {X:Cx} {tg:Expr}
end
end L2
namespace DI
open PySem L2
section
variable {X:Cx} {Ξ:Wd->Exn->Prop} {a b c tg:Expr} {pos:Pos} {fa:Env->Sto->Res (List D)}
end
end DI
namespace L2
open PySem PySem.Spec PyProof.Rows
section
variable {X:Cx}
theorem vals_items:∀(ys:List Value) (k:Nat),(∀(i:Nat) (v:Value),ys[i]?=some v->∃t,v=Value.int (0+((k+i:Nat):Int)*1) t)->Vals ((List.range' k ys.length).map fun i:Nat=>V.int (0+(i:Int))) ys
 | [],k,_=>.nil
 |y::ys,k,h=>by
  rw [List.length_cons,List.range'_succ,List.map_cons]
  refine .cons ?_ (vals_items ys (k+1) fun i v e=>?_)
  ·obtain ⟨t,e⟩:=h 0 y rfl
   rw [e]
   exact ⟨t,by rw [Int.mul_one];rfl⟩
  ·obtain ⟨t,e⟩:=h (i+1) v (by simpa using e)
   exact ⟨t,by rw [e,show k+(i+1)=k+1+i by omega]⟩
theorem call_listR (hc:X.calm=true):CallR X (.type "list") (fun xs H Q=>∃(p:Addr) (n:Nat),xs=[.ref p]/\H p=some (.rng 0 n)/\n<=1000000/\∀q,H q=none->Q (.ref q) (upd H q (.lst ((List.range n).map fun i:Nat=>V.int (0+(i:Int)))))):=by
 intro pins s σ H xs us Q I r h
 obtain ⟨p,n,rfl,hp,hn,q⟩:=h
 obtain ⟨u,rfl,ru⟩:=vals1 r
 cases ru
 obtain ⟨t1,t2,t3,hr⟩:=I.hok p _ hp
 refine call_list_range (I.ok.hd hc) hr (small_one (by omega) (by omega) (by omega) (by omega)) (n:=n) ?_ (by omega) fun h' tk acc' c' hk hS hit=>?_
 ·rw [rangeSize_one]
  split<;>omega
 ·obtain ⟨hsz,hit⟩:=hit
  have rv:=vals_items acc'.toList 0 fun i v e=>by
   obtain ⟨t,e⟩:=hit i v (by simpa using e)
   exact ⟨t,by rw [e,Nat.zero_add]⟩
  rw [Array.length_toList,hsz,<- List.range_eq_range'] at rv
  refine ⟨.ref _,_,I.laid (o:=.lst ((List.range n).map fun i:Nat=>V.int (0+(i:Int)))) (t':=tk) hk (Nat.le_refl _) ⟨?_,acc'.toList,c',rv,by simpa using hS⟩,rfl,q _ (I.hok.fresh (Nat.le_refl _))⟩
  rw [List.length_map,List.length_range]
  exact Nat.le_trans hn (by decide)
end
end L2
namespace DI
open PySem L2
section
variable {X:Cx} {Ξ:Wd->Exn->Prop} {a:Expr} {p pos:Pos} {fa:Env->Sto->Res (List D)}
noncomputable def bListR (ds:List D) (s:Sto):Res D:=match ds with
 | [.int j]=>if (decide (0<=j)&&decide (j<=1000000))=true then ok (.lst (rng 0 j.toNat)) s else none
 |_=>none
theorem dvs_rng {K:Frag} {w:Wd} (n:Nat):DVs K w (rng 0 n) ((List.range n).map fun i:Nat=>V.int (0+(i:Int))):=by
 have:rng 0 n=((List.range n).map fun i:Nat=>(0:Int)+(i:Int)).map D.int:=by
  unfold rng
  rw [List.map_map]
  rfl
 rw [this,show ((List.range n).map fun i:Nat=>V.int (0+(i:Int)))=((List.range n).map fun i:Nat=>(0:Int)+(i:Int)).map V.int by rw [List.map_map];rfl]
 exact DVs.ints _
theorem e_listR {p2 pos2:Pos} (ha:PA X [a] (tA X.K Ξ fa)) (hc:X.calm=true) (hg:Gl X "list") (hm:X.mg "list"=none) (hg2:Gl X "range") (hm2:X.mg "range"=none)
  (he:starEach [a] X.env=(false,eval a X.env)::starEach [] X.env:=by rfl) (hpl:(backTo pos2 (starEach [] X.env)).any (·.1)=false:=by rfl)
  (he2:starEach [.Call (.Name "range" p2) [a] [] pos2] X.env=(false,eval (.Call (.Name "range" p2) [a] [] pos2) X.env)::starEach [] X.env:=by rfl) (hpl2:(backTo pos (starEach [] X.env)).any (·.1)=false:=by rfl) :
  PE X (.Call (.Name "list" p) [.Call (.Name "range" p2) [a] [] pos2] [] pos) (tE X.K Ξ (eB bListR fa)) :=
 pe_imp (pe_callTy (call_listR hc) hg hm (by decide +kernel) (pa_cons (pe_callTy call_rangeV hg2 hm2 (by decide +kernel) ha (by decide) (by decide) he hpl) pa_nil he2) (by decide) (by decide) he2 hpl2) fun σ H Q hh_=>by
  obtain ⟨w,env,eH,S,eo,h⟩:=hh_
  subst eH
  refine ⟨w,env,rfl,S,eo,(Out.bnd h).mono fun w1 ds l1 S1 h1 vs dvs=>?_⟩
  unfold bListR at h1
  split at h1
  ·rename_i j
   split at h1
   ·rename_i hj
    simp only [Bool.and_eq_true,decide_eq_true_eq] at hj
    obtain ⟨v,r,rfl,dv,dr⟩:=dvs
    have e1:v=.int j:=dv
    have e2:r=[]:=dr
    subst e1 e2
    refine ⟨j,rfl,fun q hq=>⟨q,j.toNat,rfl,by rw [upd_same,Int.toNat_of_nonneg hj.1],by omega,fun l hl=>?_⟩⟩
    have hl2:(w1.grow q (.rng 0 j)).H l=none:=hl
    have S2:=S1.grow (o:=.rng 0 j) hq
    exact h1 ((w1.grow q (.rng 0 j)).grow l (.lst ((List.range j.toNat).map fun i:Nat=>V.int (0+(i:Int))))) ((Fw.grow hq).le.trans (Fw.grow hl2).le) (S2.grow hl2) rfl (.ref l) ⟨l,_,rfl,⟨(show ¬ (w1.grow q (.rng 0 j)).Z l from nZ_new S2 hl2),upd_same⟩,dvs_rng _⟩
   ·exact h1.elim
  ·exact h1.elim
end
end DI
namespace DI
open PySem L2
section
variable {X:Cx} {Ξ:Wd->Exn->Prop} {a:Expr} {p pos:Pos} {f g:Env->Sto->Res D} {fa:Env->Sto->Res (List D)}
theorem DVs.erase {K:Frag} {w:Wd}:∀{ds:List D} {xs:List V} (j:Nat),DVs K w ds xs->DVs K w (ds.eraseIdx j) (xs.eraseIdx j)
 | [],xs,j,h=>by
  have e:xs=[]:=h
  subst e
  exact h
 |d::ds,xs,0,h=>by
  obtain ⟨v,r,rfl,_,dr⟩:=h
  exact dr
 |d::ds,xs,j+1,h=>by
  obtain ⟨v,r,rfl,dv,dr⟩:=h
  exact ⟨v,r.eraseIdx j,rfl,dv,DVs.erase j dr⟩
end
end DI
namespace DI
open PySem L2 HT PyProof.Rows
section
variable {X:Cx} {Ξ:Wd->Exn->Prop}
theorem dvs_ints {K:Frag} {w:Wd} {ns:List Int} {xs:List V} {us:List Value} (h:DVs K w (ns.map D.int) xs) (r:Vals xs us):IntsAre us ns:=by
 induction ns generalizing xs us with
 |nil =>
  have e:xs=[]:=h
  subst e
  cases r
  exact .nil
 |cons n ns ih =>
  obtain ⟨v,t,rfl,dv,h⟩:=h
  cases dv
  cases r with
  |cons a r =>
   obtain ⟨t,rfl⟩:=a
   exact .cons n t (ih h r)
end
end DI
namespace ST
open PySem PySem.Spec PyProof.Rows
section
variable {prog:Program} {w:World} {A:Around} {E:Value->Shared->Prop} {s:Shared}
theorem sorted_ints {l:Addr} {us:List Value} {ns:List Int} {Q:Value->Shared->Prop} (hl:s.heap.IsList l us.toArray) (hI:IntsAre us ns) (hz:us.length<64)
  (hQ:∀h' b (out:List Value) (ms:List Int) e,(∀c o,s.heap.get? c=some o->h'.get? c=some o)->s.heap.objs.size<=b->h'.get? b=some { cls:=.type "list",data:=.seq out.toArray e }->IntsAre out ms->ms.Perm ns->ms.Pairwise (·<=·)->Q (.ref b) { s with heap:=h' }) :
  wpAny (model prog w) A (call (.builtin "sorted") [.ref l]) Q E s:=by
 have line:us.length<=sizeLine:=by rw [sizeLine_eq];omega
 refine Calls.call_function_entry kind_sorted plain_sorted entry_sorted (args_sorted1 _) ?_
 unfold Builtin.«sorted»
 refine wpAny_bind (m:=checkCount "sorted" 1 1 _) (wpAny_pure (wpAny_bind (collect_list hl (wpAny_bind (wpAny_newList ?_ line)) line)))
 generalize hg:((s.heap.push (seqObj "list" #[] 0)).update s.heap.objs.size (Obj.mapSeq (·++us.toArray)))=h1
 have hz1:h1.objs.size=s.heap.objs.size+1:=by rw [<- hg,Heap.size_update,size_push']
 have old1:∀c o,s.heap.get? c=some o->h1.get? c=some o:=fun c o e=>by
  have hlt:c<s.heap.objs.size:=Heap.lt_size e
  rw [<- hg,Heap.get?_update_ne _ _ _ _ (Nat.ne_of_lt hlt)]
  exact Heap.get?_push_of_some _ e
 show wpAny _ _ _ _ _ { s with heap:=h1.push (seqObj "list" us.toArray 0) }
 have hb:(h1.push (seqObj "list" us.toArray 0)).get? h1.objs.size=some (seqObj "list" us.toArray 0):=Heap.get?_push_size _ rfl
 refine wpAny_bind (wpAny_holding (wpAny_call_entry slot_list_sort ⟨_,hb,rfl⟩ entry_list_sort (list_sort_tree hb hI hz fun out ms a1 a2 a3=>⟨_,rfl,?_⟩) (args_list_sort _)))
 obtain ⟨e,he⟩:=sortedHeap_at (out:=out) hb
 refine wpAny_pure ⟨_,rfl,hQ _ h1.objs.size out.toList ms e (fun c o hc=>?_) (by rw [hz1];exact Nat.le_succ _) (by simpa [seqObj] using he) a1 a2 a3⟩
 have hb':=old1 c o hc
 have hlt:=Heap.lt_size hb'
 rw [sortedHeap_old (Nat.ne_of_lt hlt) (by rw [size_push'];exact Nat.lt_succ_of_lt hlt)]
 exact Heap.get?_push_of_some _ hb'
end
end ST
namespace DI
open PySem L2
noncomputable def bSortI (ds:List D) (s:Sto):Res D:=match ds with
 | [d]=>match res d s with
  | .lst xs=>if xs.length<64 then pur ((ints? xs).map fun ns=>.lst ((ST.isort ST.intO ns).map D.int)) s else none
  |_=>none
 |_=>none
section
variable {X:Cx} {Ξ:Wd->Exn->Prop}
theorem c_sortI {k:Nat} (hr:Room k X.A):CallR X (.builtin "sorted") (rC X.K Ξ bSortI):=by
 rintro pins s σ H xs us Q I r ⟨w,ds,rfl,S,dvs,h⟩
 unfold bSortI at h
 split at h
 ·obtain ⟨v,rfl,dv⟩:=one_of dvs
  split at h
  ·rename_i es e1
   obtain ⟨a,xs,rfl,ha,dvs⟩:=res_lst S dv e1
   split at h
   ·rename_i hz
    obtain ⟨d',e2,h⟩:=pur_out h
    obtain ⟨u,rfl,ru⟩:=vals1 r
    cases ru
    obtain ⟨its,r1,pl,hx⟩:=I.list (SqL.of ha)
    have hl:its.length=es.length:=r1.length.symm.trans dvs.length.symm
    cases hn:ints? es with
    |none=>rw [hn] at e2;cases e2
    |some ns =>
     rw [hn] at e2
     cases e2
     have en:=ints?_of hn
     refine ST.sorted_ints pl.isList (dvs_ints (en ▸ dvs) r1) (by omega) fun h' b out ms e ho hb hg hI hp hu=>?_
     have em:ms=ST.isort ST.intO ns:=ST.up_unique (O:=ST.intO) (hp.trans (ST.isort_perm ns).symm) (hu.imp fun {x y} z=>(decide_eq_false (by omega):decide (y<x)=false)) (ST.isort_up ns)
     subst em
     have hb0:=I.hok.fresh hb
     refine ⟨.ref b,_,I.laid (o:=.lst ((ST.isort ST.intO ns).map V.int)) (t':=s.toks) ho hb ⟨?_,out,e,vals_of_ints hI,hg⟩,rfl,?_⟩
     ·rw [List.length_map,hp.length_eq,sizeLine_eq]
      have:ns.length=es.length:=by rw [en,List.length_map]
      omega
     ·exact newL S (DVs.ints _) h b hb0
   ·exact h.elim
  ·exact h.elim
 ·exact h.elim
end
end DI
namespace DI
open PySem L2
noncomputable def keyOf:D->Option Key
 | .int i=>some (.inl i)
 | .str x=>some (.inr x)
 |_=>none
noncomputable def dGet (kvs:List (Key×D)) (k:Key):Option D:=match kvs with
 | []=>none
 |p::r=>if p.1=k then some p.2 else dGet r k
noncomputable def dPut (kvs:List (Key×D)) (k:Key) (v:D):List (Key×D) :=
 if (kvs.any fun p=>decide (p.1=k))=true then kvs.map (fun p=>if p.1=k then (p.1,v) else p) else kvs++[(k,v)]
noncomputable def dct? (d:D) (s:Sto):Option (List (Key×D)):=match d with
 | .han k=>match s[k]? with
  |some (.dK kvs)=>some kvs
  |_=>none
 |_=>none
def Prs (K:Frag) (w:Wd) (kvs:List (Key×D)) (es:List (Key×V)):Prop:=es.map (·.1)=kvs.map (·.1)/\DVs K w (kvs.map (·.2)) (es.map (·.2))
theorem prs_cons {K:Frag} {w:Wd} {p:Key×D} {kvs:List (Key×D)} {es:List (Key×V)} (h:Prs K w (p::kvs) es):∃v r,es=(p.1,v)::r/\DV K w p.2 v/\Prs K w kvs r:=by
 obtain ⟨h1,h2⟩:=h
 cases es with
 |nil=>cases h1
 |cons e r =>
  obtain ⟨v,r',e1,dv,dr⟩:=h2
  rw [List.map_cons] at e1
  injection e1 with a b
  rw [List.map_cons,List.map_cons] at h1
  injection h1 with c d
  exact ⟨v,r,by rw [<- c,<- a],dv,d,b ▸ dr⟩
theorem prs_get {K:Frag} {w:Wd} {k:Key} {kvs:List (Key×D)}:∀{es:List (Key×V)},Prs K w kvs es->(∀d,dGet kvs k=some d->∃v,valV es k=some v/\DV K w d v)/\(valV es k).isSome=(dGet kvs k).isSome:=by
 induction kvs with
 |nil =>
  intro es h
  have e:es=[]:=by have:=h.1;simpa using this
  subst e
  exact ⟨fun d z=>(by cases z),rfl⟩
 |cons p r ih =>
  intro es h
  obtain ⟨v,t,rfl,dv,hr⟩:=prs_cons h
  unfold dGet
  by_cases e:p.1=k
  ·rw [if_pos e,valV_pos e]
   exact ⟨fun d z=>⟨v,rfl,by cases z;exact dv⟩,rfl⟩
  ·rw [if_neg e,valV_neg e]
   exact ih hr
theorem prs_any {K:Frag} {w:Wd} {k:Key} {kvs:List (Key×D)} {es:List (Key×V)} (h:Prs K w kvs es):(es.any fun p=>decide (p.1=k))=kvs.any fun p=>decide (p.1=k):=by
 have e:∀{α:Type} (l:List (Key×α)),(l.any fun p=>decide (p.1=k))=(l.map (·.1)).any fun x=>decide (x=k):=fun l=>by rw [List.any_map];rfl
 rw [e es,e kvs,h.1]
theorem prs_map {K:Frag} {w:Wd} {k:Key} {v:D} {u:V} (du:DV K w v u) {kvs:List (Key×D)}:∀{es:List (Key×V)},Prs K w kvs es->Prs K w (kvs.map fun p=>if p.1=k then (p.1,v) else p) (es.map fun p=>if p.1=k then (p.1,u) else p):=by
 induction kvs with
 |nil =>
  intro es h
  have e:es=[]:=by have:=h.1;simpa using this
  subst e
  exact ⟨rfl,rfl⟩
 |cons p r ih =>
  intro es h
  obtain ⟨x,t,rfl,dv,hr⟩:=prs_cons h
  obtain ⟨i1,i2⟩:=ih hr
  rw [List.map_cons,List.map_cons]
  by_cases e:p.1=k
  ·rw [if_pos e,if_pos e]
   exact ⟨by rw [List.map_cons,List.map_cons,i1],⟨u,_,rfl,du,i2⟩⟩
  ·rw [if_neg e,if_neg e]
   exact ⟨by rw [List.map_cons,List.map_cons,i1],⟨x,_,rfl,dv,i2⟩⟩
theorem prs_put {K:Frag} {w:Wd} {k:Key} {v:D} {u:V} (du:DV K w v u) {kvs:List (Key×D)} {es:List (Key×V)} (h:Prs K w kvs es):Prs K w (dPut kvs k v) (putK es k u):=by
 unfold dPut putK
 rw [prs_any h]
 split
 ·exact prs_map du h
 ·refine ⟨by rw [List.map_append,List.map_append,h.1];rfl,?_⟩
  rw [List.map_append,List.map_append]
  exact DVs.append h.2 ⟨u,[],rfl,du,rfl⟩
theorem prs_le {K:Frag} {w w':Wd} (l:Le K w w') {kvs:List (Key×D)} {es:List (Key×V)} (h:Prs K w kvs es):Prs K w' kvs es:=⟨h.1,l.all h.2⟩
theorem key_of {K:Frag} {w:Wd} {d:D} {v:V} {k:Key} (h:DV K w d v) (e:keyOf d=some k):v=kV k:=by
 cases d<;>first | (cases e;done) | (cases e;exact h)
theorem dct_of {K:Frag} {w:Wd} {d:D} {v:V} {kvs:List (Key×D)} (S:StoOk K w) (h:DV K w d v) (e:dct? d w.sto=some kvs):∃k a es,d=.han k/\v=.ref a/\w.ρ[k]?=some a/\w.sto[k]?=some (.dK kvs)/\w.H a=some (.dK es)/\Prs K w kvs es:=by
 unfold dct? at e
 split at e
 ·rename_i k
  split at e
  ·rename_i kvs' hk
   cases e
   obtain ⟨a,e1,rfl⟩:=h
   obtain ⟨es,q1,q2,q3⟩:=S.cell k a _ e1 hk
   exact ⟨k,a,es,rfl,rfl,e1,hk,q1,q2,q3⟩
  ·cases e
 ·cases e
noncomputable def opGet (d i:D) (s:Sto):Res D:=match dct? d s,keyOf i with
 |some kvs,some k=>pur (dGet kvs k) s
 |_,_=>none
noncomputable def opInD (i d:D) (s:Sto):Res D:=match dct? d s,keyOf i with
 |some kvs,some k=>ok (.bl (dGet kvs k).isSome) s
 |_,_=>none
noncomputable def opNotInD (i d:D) (s:Sto):Res D:=match dct? d s,keyOf i with
 |some kvs,some k=>ok (.bl (!(dGet kvs k).isSome)) s
 |_,_=>none
noncomputable def putD (d i x:D) (s:Sto):Option Sto:=match d with
 | .han h=>match dct? d s,keyOf i with
  |some kvs,some k=>if kvs.length<sizeLine then some (s.set h (.dK (dPut kvs k x))) else none
  |_,_=>none
 |_=>none
noncomputable def eNewD:Env->Sto->Res D:=fun _ s=>ok (.han s.length) (s++[.dK []])
noncomputable def sPut (f o i:Env->Sto->Res D):Env->Sto->Res Fl:=fun env s=>bnd (f env s) fun x s=>bnd (o env s) fun d s=>bnd (i env s) fun n s=>match putD d n x s with
 |some s'=>ok (.nx env) s'
 |none=>none
section
variable {X:Cx} {Ξ:Wd->Exn->Prop} {e o i:Expr} {pos spos:Pos} {f fo fi:Env->Sto->Res D}
theorem room_d {k:Nat} (hr:Room k X.A):X.A.units+1<cLine:=by have:=hr.un;have:cLine=9900:=rfl;omega
theorem e_newD:PE X (.Dict [] [] pos) (tE X.K Ξ eNewD):=pe_imp pe_dnewK fun σ H Q hh_=>by
 obtain ⟨w,env,eH,S,eo,h⟩:=hh_
 subst eH
 intro p hp
 have le:=(Fw.cell (K:=X.K) (o:=.dK []) (c:=.dK []) S hp).le
 refine h (w.cell p (.dK []) (.dK [])) le (S.cellw hp ⟨[],upd_same,rfl,rfl⟩) rfl (.ref p) ⟨p,?_,rfl⟩
 show (w.ρ++[p])[w.sto.length]?=some p
 rw [<- S.len]
 simp
theorem e_get {k:Nat} (hr:Room k X.A) (ho:PE X o (tE X.K Ξ fo)) (hi:PE X i (tE X.K Ξ fi)) (hs:NoSl i:=by intro _ _;rfl):PE X (.Subscript o i pos) (tE X.K Ξ (e2 opGet fo fi)) :=
 pe_imp (pe_dget (room_d hr) ho hi hs) fun σ H Q hh_=>by
  obtain ⟨w,env,eH,S,eo,h⟩:=hh_
  subst eH
  refine ⟨w,env,rfl,S,eo,(Out.bnd h).mono fun w1 d l1 S1 h1 v dv=>⟨w1,env,rfl,S1,eo.le l1,(Out.bnd h1).mono fun w2 n l2 S2 h2 u du=>?_⟩⟩
  unfold opGet at h2
  split at h2
  ·rename_i kvs k e1 e2
   obtain ⟨hk,a,es,rfl,rfl,_,_,q1,q2⟩:=dct_of S2 (l2 _ _ dv) e1
   have eu:=key_of du e2
   subst eu
   obtain ⟨x,ex,h3⟩:=pur_out h2
   obtain ⟨v,ev,dx⟩:=(prs_get q2).1 x ex
   exact ⟨a,v,rfl,ev ▸ DGet.k q1,out_of S2 h3 _ dx⟩
  ·exact h2.elim
theorem o_inD {k:Nat} (hr:Room k X.A):OpR X (compareOp .In) (rO X.K Ξ opInD):=by
 rintro pins s σ H x y v u Q I rx ry ⟨w,dx,dy,rfl,S,hx,hy,h⟩
 unfold opInD at h
 split at h
 ·rename_i kvs k e1 e2
  obtain ⟨hk,a,es,rfl,rfl,_,_,q1,q2⟩:=dct_of S hy e1
  have eu:=key_of hx e2
  subst eu
  cases ry
  exact d_in (room_d hr) I (DGet.k q1) rx fun s' I'=>⟨.bl _,w.H,I',rfl,by rw [(prs_get q2).2];exact out_of S h _ rfl⟩
 ·exact h.elim
theorem o_notInD {k:Nat} (hr:Room k X.A):OpR X (compareOp .NotIn) (rO X.K Ξ opNotInD):=by
 rintro pins s σ H x y v u Q I rx ry ⟨w,dx,dy,rfl,S,hx,hy,h⟩
 unfold opNotInD at h
 split at h
 ·rename_i kvs k e1 e2
  obtain ⟨hk,a,es,rfl,rfl,_,_,q1,q2⟩:=dct_of S hy e1
  have eu:=key_of hx e2
  subst eu
  cases ry
  exact d_notIn (room_d hr) I (DGet.k q1) rx fun s' I'=>⟨.bl _,w.H,I',rfl,by rw [(prs_get q2).2];exact out_of S h _ rfl⟩
 ·exact h.elim
theorem s_put {k:Nat} (hr:Room k X.A) (he:PE X e (tE X.K Ξ f)) (ho:PE X o (tE X.K Ξ fo)) (hi:PE X i (tE X.K Ξ fi)) (hs:swapsWith e (some (.Subscript o i spos)) pos.line X.env=pure false:=by rfl) :
  PS X (.Assign [.Subscript o i spos] e pos) (tS X.K Ξ (sPut f fo fi)) :=
 ps_imp (ps_dput (room_d hr) ho hi he hs) fun D0 σ H hh_=>by
  obtain ⟨w,env,eH,S,eo,h⟩:=hh_
  subst eH
  refine ⟨w,env,rfl,S,eo,(Out.bnd h).mono fun w1 x l1 S1 h1 u du=>?_⟩
  refine ⟨w1,env,rfl,S1,eo.le l1,(Out.bnd h1).mono fun w2 d l2 S2 h2 v dv=>?_⟩
  refine ⟨w2,env,rfl,S2,eo.le (l1.trans l2),(Out.bnd h2).mono fun w3 n l3 S3 h3 m dm=>?_⟩
  cases hd:putD d n x w3.sto with
  |none=>rw [hd] at h3;exact h3.elim
  |some s' =>
   rw [hd] at h3
   unfold putD at hd
   split at hd
   ·rename_i hk
    split at hd
    ·rename_i kvs k e1 e2
     split at hd
     ·rename_i hl
      cases hd
      obtain ⟨hk',a,es,eh,rfl,r1,r2,q1,q2⟩:=dct_of S3 (l3 _ _ dv) e1
      cases eh
      have eu:=key_of dm e2
      subst eu
      have nd:(Cell.dK kvs)≠.dead:=by intro z;cases z
      have le:=(Fw.put (K:=X.K) (o:=.dK (putK es k u)) (c:=.dK (dPut kvs k x)) S3 r1 r2 nd).le
      have hle:es.length<sizeLine:=by
       have:=congrArg List.length q2.1
       rw [List.length_map,List.length_map] at this
       omega
      refine ⟨a,_,rfl,DPut.k q1 hle,?_⟩
      have S4:=S3.putw (o:=.dK (putK es k u)) (c:=.dK (dPut kvs k x)) r1 r2 nd ⟨_,upd_same,prs_put (le _ _ ((l2.trans l3) _ _ du)) (prs_le le q2)⟩
      exact h3 (w3.put hk a (.dK (putK es k u)) (.dK (dPut kvs k x))) le S4 rfl σ (eo.le (l1.trans (l2.trans (l3.trans le))))
     ·cases hd
    ·cases hd
   ·cases hd
end
end DI
namespace L2
open PySem PySem.Spec PyProof.Rows
noncomputable def revS (acc:List (Key×V)) (p:Key×V):List (Key×V):=match p.2 with
 | .int n=>putK acc (.inl n) (kV p.1)
 |_=>acc
noncomputable def revV (es:List (Key×V)):List (Key×V):=es.foldl revS []
theorem revV_len (es:List (Key×V)):∀acc:List (Key×V),(es.foldl revS acc).length<=acc.length+es.length:=by
 induction es with
 |nil=>intro acc;exact Nat.le_refl _
 |cons p r ih =>
  intro acc
  rw [List.foldl_cons,List.length_cons]
  have h1:=ih (revS acc p)
  have h2:(revS acc p).length<=acc.length+1:=by
   unfold revS
   split
   ·exact length_putK _ _ _
   ·exact Nat.le_succ _
  omega
theorem valueAt_of {vs:List (Key×Value)} (nd:(vs.map (·.1)).Nodup) {i:Nat} {k:Key} {x:Value} (h:vs[i]?=some (k,x)):valueAt vs k=some x:=by
 unfold valueAt
 induction vs generalizing i with
 |nil=>simp at h
 |cons p r ih =>
  rw [List.map_cons,List.nodup_cons] at nd
  cases i with
  |zero =>
   have e:p=(k,x):=by simpa using h
   subst e
   simp
  |succ i =>
   have h':r[i]?=some (k,x):=by simpa using h
   have hm:k∈r.map (·.1):=List.mem_map.mpr ⟨(k,x),List.mem_of_getElem? h',rfl⟩
   have hne:¬ p.1=k:=fun e=>nd.1 (e ▸ hm)
   rw [List.find?_cons,decide_eq_false hne]
   exact ih nd.2 h'
theorem kv_at {es:List (Key×V)} {vs:List (Key×Value)} (r:KV es vs):∀{i:Nat} {k:Key} {x:Value},vs[i]?=some (k,x)->∃v,es[i]?=some (k,v)/\RelV v x:=by
 induction r with
 |nil=>intro i k x h;simp at h
 |cons a _ ih =>
  intro i k x h
  cases i with
  |zero =>
   cases h
   rename_i p _ _ _
   refine ⟨p.2,?_,a.2⟩
   have e:p.1=k:=a.1
   rw [<- e]
   rfl
  |succ i=>exact ih (by simpa using h)
section
variable {X:Cx}
noncomputable def tDRev (i:Nat):TE:=fun σ H Q=>∃a es,σ[i]?=some (some (.ref a))/\H a=some (.dK es)/\(∀p∈es,∃n,p.2=.int n)/\∀p,H p=none->Q (.ref p) (upd H p (.dK (revV es)))
theorem pe_drev {dn x:Str} {i:Nat} {sc:Scope} {ps p1 p2 p3 p4 p5 p6:Pos} {N:List Str} {cap:List Nat} (hc:X.calm=true) (hu:X.A.units+1<cLine) (hN:X.N[i]?=some dn) (hv:Vis X.env.scope dn) (S:CScope X sc N 1 cap)
  (hkd:X.env.kindOf dn=some .cell) (hx:sc.names.lookup x=some .local) (hf:(dn,NameKind.free)∈sc.names)
  (hk1:∀cl C,(compEnvC sc cl C X.env).kindOf dn=some .cell) (hk2:∀cl C,(compEnvC sc cl C X.env).kindOf x=some .local)
  (hd:(dn==("__debug__":Str))=false) (hcd:(dn==("__classdict__":Str))=false) (hdx:(x==("__debug__":Str))=false)
  (hs:∀y,foldedSetIterable (.Name dn p6) X.env y=pure y) (hkc:∀cl C,(compEnvC sc cl C X.env).scope.kind=.function) (hpl:∀{cl C},((compEnvC sc cl C X.env).scope.kind==.class||((compEnvC sc cl C X.env).scope.kind==.module&&(compEnvC sc cl C X.env).locals != (compEnvC sc cl C X.env).globals))=false) :
  PE X (.DictComp (.Subscript (.Name dn p1) (.Name x p2) p3) (.Name x p4) [⟨.Name x p5,.Name dn p6,[],0⟩] sc ps) (tDRev i):=by
 intro pins s σ H Q I h
 obtain ⟨a,es,hσ,ha,hints,hq⟩:=h
 obtain ⟨cl,hclos,hcl⟩:=clo_of (env:=X.env) (sc:=sc) fun n hn=>I.ok.has n (S.frees _ hn rfl).2
 have hld:=pe_var (pos:=p6) hN hv hd hcd pins s σ H (fun v H1=>v=.ref a/\H1=H) I ⟨_,hσ,rfl,rfl⟩
 rw [arm_eval_DictComp]
 refine wpAny_comprehension_free (use:=none) rfl hs hclos S.kind S.names (thn hld fun xv s1 h1=>?_)
 obtain ⟨v,H1,I1,rv,e1,e2⟩:=h1
 subst e1 e2
 cases rv
 obtain ⟨m,hn,hl⟩:=id I1.loc
 obtain ⟨u,r,l⟩:=hl i dn (.ref a) hN hσ hv
 cases r
 rcases l with ⟨hk,_⟩ | ⟨_,c,hcc,hcell⟩
 ·rw [hkd] at hk;cases hk
 have hclc:cl.lookup dn=some c:=(hcl dn c).mpr ⟨hf,hcc⟩
 obtain ⟨z,hsys,vs,rel,dd⟩:=dk_of I1.hok ha
 obtain ⟨ep,dat⟩:=dd.dictAt
 have hlt:a<s1.heap.objs.size:=dat.lt_size
 have nd:=dat.nodup
 have keep0:∀s:Shared,Keeps s s:=fun s=>⟨s.heap,s.toks,rfl,fun _ _ e=>e⟩
 refine wpAny_pyIter_dict hsys dat ?_
 generalize hIt:s1.heap.objs.size=It at hlt |-
 generalize hg2:s1.heap.push { cls:=.type "dict_keyiterator",data:=.fields #[.ref a,.int 0 0,.int vs.length 0,.int ep 0] }=h2
 have z2:h2.objs.size=It+1:=by rw [<- hg2,Heap.size_push,hIt]
 have old2:∀b o,s1.heap.get? b=some o->h2.get? b=some o:=fun b o e=>by rw [<- hg2];exact Heap.get?_push_of_some _ e
 have it2:h2.IsKeyIter It a 0 vs.length ep:=⟨_,by rw [<- hg2,<- hIt];exact Heap.get?_push_size _ rfl,rfl,rfl⟩
 have W:=Walks.dictKeys (knd:=mixKind X.prog X.w) (prog:=X.prog) (w:=X.w) (A:=X.A) (I1.ok.hd hc) It a (Nat.ne_of_lt hlt) vs ep
 refine wpAny_newObj_type (wpAny_newFunctionEnv S.nocell (by intro y hy;simp at hy) (fun h3 hns3 hsb3=>?_) S.kind)
 dsimp only at hns3 hsb3 |-
 have dn2:(h2.push { cls:=.type "dict",dict:=none,data:=.dict #[] }).DictOf (mixKind X.prog X.w) h2.objs.size []:=Heap.DictOf.new h2
 generalize hG:h2.push { cls:=.type "dict",dict:=none,data:=.dict #[] }=G at hns3 hsb3 dn2 |-
 have zG:G.objs.size=It+2:=by rw [<- hG,Heap.size_push,z2]
 rw [z2] at dn2 |-
 rw [zG] at hns3 hsb3 |-
 have lt0:∀b o,s1.heap.get? b=some o->b<It:=fun b o e=>by rw [<- hIt];exact Heap.lt_size e
 have up3:∀b o,b<It+2->G.get? b=some o->h3.get? b=some o:=fun b o hb e=>hsb3.extBut b o (Nat.ne_of_lt hb) (Heap.get?_push_of_some _ e)
 have oldG:∀b o,h2.get? b=some o->G.get? b=some o:=fun b o e=>by rw [<- hG];exact Heap.get?_push_of_some _ e
 have old3:∀b o,b<It+1->h2.get? b=some o->h3.get? b=some o:=fun b o hb e=>up3 b o (Nat.lt_succ_of_lt hb) (oldG b o e)
 have acc3:h3.DictOf (mixKind X.prog X.w) (It+1) []:=dn2.at fun o e=>up3 _ o (Nat.lt_succ_self _) e
 have st3:h3.IsKeyIter It a 0 vs.length ep/\h3.DictAt (mixKind X.prog X.w) a vs ep:=⟨it2.at fun o e=>old3 _ o (Nat.lt_succ_self _) e,(dat.keep old2).at' fun o e=>old3 _ o (Nat.lt_succ_of_lt hlt) e⟩
 have inFp:∀{b},It<b->b∉[It,a]:=fun {b} hb w=>by
  rcases List.mem_cons.mp w with e|e
  ·rw [e] at hb;exact absurd hb (Nat.lt_irrefl _)
  ·rw [List.mem_singleton.mp e] at hb;exact absurd hb (Nat.not_lt.mpr (Nat.le_of_lt hlt))
 have loop:codeAny (model X.prog X.w) X.A (.compLoop (.DictComp (.Subscript (.Name dn p1) (.Name x p2) p3) (.Name x p4) [⟨.Name x p5,.Name dn p6,[],0⟩] sc ps) 0 (.ref It) (.ref (It+1)) (compEnvC sc cl (It+2) X.env)) (compPost (model X.prog X.w) X.A X.xe none (EP X pins σ Q) (.ref (It+1)) (It+2)) { s1 with heap:=h3,toks:=s1.toks+([]:List (Str×Value)).length }:=by
  have upTo:∀{s3:Shared},(∀b o,b≠It+2->b∉[It]->b≠It+1->h3.get? b=some o->s3.heap.get? b=some o)->∀b o,s1.heap.get? b=some o->s3.heap.get? b=some o:=fun {s3} hk b o e=>by
   have hb:=lt0 b o e
   exact hk b o (Nat.ne_of_lt (Nat.lt_succ_of_lt (Nat.lt_succ_of_lt hb))) (fun w=>by rw [List.mem_singleton.mp w] at hb;exact absurd hb (Nat.lt_irrefl _)) (Nat.ne_of_lt (Nat.lt_succ_of_lt hb)) (old3 b o (Nat.lt_succ_of_lt hb) (old2 b o e))
  refine codeAny_compLoop_walkD (knd:=mixKind X.prog X.w) (cenv:=compEnvC sc cl (It+2) X.env) W (fun _=>true) (fun v k=>∃(k0:Key) (n:Int),(k0,V.int n)∈es/\(mixKind X.prog X.w).is k0 v=true/\k=Sum.inl n) (fun v y=>y=v)
   (hk2 cl _) hpl (Nat.ne_of_lt (Nat.lt_succ_self _)) (inFp (Nat.lt_succ_self _)) (inFp (Nat.lt_succ_of_lt (Nat.lt_succ_self _))) st3 acc3 hns3 (fun j v s3 m3 hP hn3 hm3 hk=>wpAny_tests_nil ⟨rfl,keep0 _⟩) (fun j v s3 m3 hP _ hn3 hm3 hk=>?_) (fun j v s3 m3 hP _ hn3 hm3 hk=>ldVarK hn3 hm3 ⟨rfl,keep0 _⟩ (hkc cl _) (hk2 cl _) hdx) (fun h' tk m' kvs vs' hn' hdict hlen hP hF hkeep=>?_) (by rw [<- rel.length];exact z)
  ·obtain ⟨k0,x0,hx0,his⟩:=hP
   obtain ⟨v0,hv0,r0⟩:=kv_at rel hx0
   obtain ⟨n,en⟩:=hints _ (List.mem_of_getElem? hv0)
   cases en
   obtain ⟨t,rfl⟩:=r0
   have up:=upTo hk
   have dat3:=dat.keep up
   refine subD_of PySem.F.slot_dict_getitem.lookup (by intro _ _;rfl) (ldCellK hclc (hcell.keeps up) (ldVarK hn3 hm3 ⟨dat3.dictOf.typeIs,?_⟩ (hkc cl _) (hk2 cl _) hdx) (hkc cl _) (hk1 cl _) hd)
   exact wpAny_getItem_of his dat3.dictOf.mapOf (valueAt_of nd hx0) ⟨⟨.inl n,mixKind_int _ _ n t,k0,n,List.mem_of_getElem? hv0,his,rfl⟩,s3.heap,_,rfl,fun _ _ e=>e⟩
  ·refine ⟨m',hn',fun h5 sb5=>?_⟩
   have up:∀b o,s1.heap.get? b=some o->h5.get? b=some o:=fun b o e=>sb5.extBut b o (Nat.ne_of_lt (Nat.lt_succ_of_lt (Nat.lt_succ_of_lt (lt0 b o e)))) (upTo (s3:={ s1 with heap:=h' }) hkeep b o e)
   have rel2:KV (revV es) kvs:=by
    have key:∀(l:List Value) (kvs:List (Key×Value)),StoredAll (fun v k=>∃(k0:Key) (n:Int),(k0,V.int n)∈es/\(mixKind X.prog X.w).is k0 v=true/\k=Sum.inl n) (fun v y=>y=v) l kvs->(∀(j:Nat) v,l[j]?=some v->vs'[j]?=some v)->l.length<=es.length->KV (revV (es.take l.length)) kvs:=by
     intro l kvs hS
     induction hS with
     |nil=>intro _ _;exact .nil
     | @snoc l kvs v k y hS hFK hFV ih =>
      intro hl hlen2
      obtain ⟨k0,n,hmem,his,rfl⟩:=hFK
      subst hFV
      rw [List.length_append,List.length_singleton] at hlen2 |-
      have hj:=hl l.length y (by simp)
      obtain ⟨k1,x1,hx1,his1⟩:=hP l.length y hj
      have ek:k0=k1:=(mixKind X.prog X.w).inj y k0 k1 his his1
      subst ek
      obtain ⟨v1,hv1,r1⟩:=kv_at rel hx1
      have ev:v1=.int n:=by
       have nde:(es.map (·.1)).Nodup:=by rw [rel.keys];exact nd
       obtain ⟨j2,hj2⟩:=List.getElem?_of_mem hmem
       have:l.length=j2:=(List.getElem?_inj (by simpa using (List.getElem?_eq_some_iff.mp hv1).1) nde).mp (by rw [List.getElem?_map,List.getElem?_map,hv1,hj2];rfl)
       rw [this,hj2] at hv1
       cases hv1
       rfl
      subst ev
      have ry:RelV (kV k0) y:=by
       rcases keyIs_shape his with ⟨i,t,rfl,rfl⟩ | ⟨q,t,rfl,rfl⟩
       ·exact ⟨t,rfl⟩
       ·exact ⟨t,rfl⟩
      have e:revV (es.take (l.length+1))=putK (revV (es.take l.length)) (.inl n) (kV k0):=by
       unfold revV
       rw [List.take_succ,hv1,Option.toList,List.foldl_append]
       rfl
      rw [e]
      exact (ih (fun j v h=>hl j v (by rw [List.getElem?_append_left (List.getElem?_eq_some_iff.mp h).1];exact h)) (by omega)).put _ ry
    have hft:vs'.filter (fun _=>true)=vs':=by simp
    rw [hft] at hF
    have e:=rel.length
    have:=key vs' kvs hF (fun _ _ h=>h) (by omega)
    rw [hlen,<- e,List.take_length] at this
    exact this
   refine ⟨.ref (It+1),_,I1.laid (a:=It+1) (o:=.dK (revV es)) (t':=tk) up (by rw [hIt];exact Nat.le_succ _) ⟨?_,?_,kvs,rel2,hdict.at fun o e=>sb5.extBut _ o (Nat.ne_of_lt (Nat.lt_succ_self _)) e⟩,rfl,hq _ (I1.hok.fresh (by rw [hIt];exact Nat.le_succ _))⟩
   ·have:=revV_len es []
    have e:=rel.length
    show (es.foldl revS []).length<=sizeLine
    rw [List.length_nil] at this
    omega
   ·have:=I1.big
    exact beq_eq_false_iff_ne.mpr (by rw [hIt] at this;exact Nat.ne_of_gt (Nat.lt_succ_of_lt this))
 exact codeAny_compStart_dict loop (W.self 0 _ _ _ st3 loop)
end
end L2
namespace DI
open PySem L2
noncomputable def isI:D->Bool
 | .int _=>true
 |_=>false
noncomputable def kD:Key->D
 | .inl i=>.int i
 | .inr x=>.str x
noncomputable def revE (acc:List (Key×D)) (p:Key×D):List (Key×D):=match p.2 with
 | .int n=>dPut acc (.inl n) (kD p.1)
 |_=>acc
noncomputable def eDRev (f:Env->Sto->Res D):Env->Sto->Res D:=fun env s=>bnd (f env s) fun d s=>match dct? d s with
 |some kvs=>if (kvs.all fun p=>isI p.2)=true then ok (.han s.length) (s++[.dK (kvs.foldl revE [])]) else none
 |none=>none
theorem dv_kV {K:Frag} {w:Wd} (k:Key):DV K w (kD k) (kV k):=by
 cases k with
 |inl i=>exact rfl
 |inr x=>exact rfl
theorem prs_rev {K:Frag} {w:Wd} {kvs:List (Key×D)}:∀{es:List (Key×V)} {acc:List (Key×D)} {bcc:List (Key×V)},(kvs.all fun p=>isI p.2)=true->Prs K w kvs es->Prs K w acc bcc->Prs K w (kvs.foldl revE acc) (es.foldl revS bcc)/\∀p∈es,∃n,p.2=V.int n:=by
 induction kvs with
 |nil =>
  intro es acc bcc _ h g
  have e:es=[]:=by have:=h.1;simpa using this
  subst e
  exact ⟨g,fun p hp=>absurd hp List.not_mem_nil⟩
 |cons p r ih =>
  intro es acc bcc ha h g
  obtain ⟨v,t,rfl,dv,hr⟩:=prs_cons h
  rw [List.all_cons,Bool.and_eq_true] at ha
  obtain ⟨k,d⟩:=p
  cases d with
  |int n =>
   have ev:v=.int n:=dv
   subst ev
   obtain ⟨i1,i2⟩:=ih (acc:=dPut acc (.inl n) (kD k)) (bcc:=putK bcc (.inl n) (kV k)) ha.2 hr (prs_put (dv_kV k) g)
   refine ⟨i1,fun p hp=>?_⟩
   rcases List.mem_cons.mp hp with e|e
   ·exact ⟨n,by rw [e]⟩
   ·exact i2 p e
  |_=>exact absurd ha.1 Bool.false_ne_true
section
variable {X:Cx} {Ξ:Wd->Exn->Prop}
theorem e_drev (i:Nat) {dn x:Str} {sc:Scope} {ps p1 p2 p3 p4 p5 p6:Pos} {N:List Str} {cap:List Nat} {k:Nat} (hr:Room k X.A) (hc:X.calm=true) (S:CScope X sc N 1 cap) (hN:X.N[i]?=some dn:=by rfl) (hv:Vis X.env.scope dn:=by first|exact Or.inl rfl|exact Or.inr (Or.inl rfl)|exact Or.inr (Or.inr rfl))
  (hkd:X.env.kindOf dn=some .cell:=by rfl) (hx:sc.names.lookup x=some .local:=by rfl) (hf:(dn,NameKind.free)∈sc.names:=by decide)
  (hk1:∀cl C,(compEnvC sc cl C X.env).kindOf dn=some .cell:=by intro _ _;rfl) (hk2:∀cl C,(compEnvC sc cl C X.env).kindOf x=some .local:=by intro _ _;rfl)
  (hd:(dn==("__debug__":Str))=false:=by decide) (hcd:(dn==("__classdict__":Str))=false:=by decide) (hdx:(x==("__debug__":Str))=false:=by decide)
  (hs:∀y,foldedSetIterable (.Name dn p6) X.env y=pure y:=by intro _;rfl) (hkc:∀cl C,(compEnvC sc cl C X.env).scope.kind=.function:=by intro _ _;rfl)
  (hpl:∀{cl C},((compEnvC sc cl C X.env).scope.kind==.class||((compEnvC sc cl C X.env).scope.kind==.module&&(compEnvC sc cl C X.env).locals != (compEnvC sc cl C X.env).globals))=false:=by intro _ _;rfl) :
  PE X (.DictComp (.Subscript (.Name dn p1) (.Name x p2) p3) (.Name x p4) [⟨.Name x p5,.Name dn p6,[],0⟩] sc ps) (tE X.K Ξ (eDRev (eLoc i))) :=
 pe_imp (pe_drev hc (room_d hr) hN hv S hkd hx hf hk1 hk2 hd hcd hdx hs hkc hpl) fun σ H Q hh_=>by
  obtain ⟨w,env,eH,SS,eo,h⟩:=hh_
  subst eH
  have h:=Out.bnd h
  unfold eLoc at h
  split at h
  ·rename_i d hd0
   have h2:=out_of SS h
   clear h
   split at h2
   ·rename_i kvs hk
    split at h2
    ·rename_i hall
     obtain ⟨v,hσ,dv⟩:=eo.val i d hd0
     obtain ⟨hk',a,es,rfl,rfl,r1,r2,q1,q2⟩:=dct_of SS dv hk
     obtain ⟨g1,g2⟩:=prs_rev (acc:=[]) (bcc:=[]) hall q2 ⟨rfl,rfl⟩
     refine ⟨a,es,hσ,q1,g2,fun p hp=>?_⟩
     have le:=(Fw.cell (K:=X.K) (o:=.dK (revV es)) (c:=.dK (kvs.foldl revE [])) SS hp).le
     refine h2 (w.cell p (.dK (revV es)) (.dK (kvs.foldl revE []))) le (SS.cellw hp ⟨_,upd_same,prs_le le g1⟩) rfl (.ref p) ⟨p,?_,rfl⟩
     show (w.ρ++[p])[w.sto.length]?=some p
     rw [<- SS.len]
     simp
    ·exact h2.elim
   ·exact h2.elim
  ·exact h.elim
end
end DI
namespace L2
open PySem PySem.Spec PyProof.Rows
section
variable {X:Cx}
theorem call_isi_lti:CallR X (.builtin "isinstance") (fun xs H Q=>∃(i:Int) (p:Addr),xs=[.int i,.ref p]/\H p=some (.ext (TyTup p ["list","tuple"]))/\Q (.bl false) H):=by
 intro pins s σ H xs us Q I r h
 obtain ⟨i,p,rfl,hp,q⟩:=h
 obtain ⟨u,c,rfl,ru,rc⟩:=vals2 r
 cases rc
 obtain ⟨t,rfl⟩:=ru
 have ha:AnswersAll (fun s=>s.TypeIs (.int i t) "int") (.int i t) [.type "list",.type "tuple"] [false,false]:=.cons (.of_false_int (by decide +kernel) F.isi_meta_list F.sub_int_list) (.cons (.of_false_int (by decide +kernel) F.isi_meta_tuple F.sub_int_tuple) .nil)
 have ho:ObjOk X.prog X.w H s.heap p (.ext (TyTup p ["list","tuple"])):=I.hok p _ hp
 exact IsiPair.tupleOfB ha rfl ho.1 rfl fun tk=>⟨.bl _,H,I.tok _,rfl,q⟩
end
end L2
namespace DI
open PySem L2
section
variable {X:Cx} {Ξ:Wd->Exn->Prop} {a:Expr} {pos:Pos} {f:Env->Sto->Res D}
noncomputable def isLT (d:D) (s:Sto):Res D:=match d with
 | .int _=>ok (.bl false) s
 |_=>none
theorem e_isiLT {p p1 p2 p3:Pos} {x1} (ha:PE X a (tE X.K Ξ f)) (hg:Gl X "isinstance") (hm:X.mg "isinstance"=none) (hv:bootBuiltins "isinstance"=some (.builtin "isinstance")) (h1:PE X (.Name "tuple" p1) (tC (.ty "tuple"))) (h2:PE X (.Name "list" p2) (tC (.ty "list")))
  (he:starEach (a::[.Tuple [.Name "list" p2,.Name "tuple" p1] x1 p3]) X.env=(false,eval a X.env)::starEach [.Tuple [.Name "list" p2,.Name "tuple" p1] x1 p3] X.env:=by rfl) :
  PE X (.Call (.Name "isinstance" p) [a,.Tuple [.Name "list" p2,.Name "tuple" p1] x1 p3] [] pos) (tE X.K Ξ (e1 isLT f)) :=
 pe_imp (pe_callB call_isi_lti hg hm hv (pa_cons ha (pa_cons (pe_tytup (pa_cons h2 (pa_cons h1 pa_nil))) pa_nil) he) (by decide) (by decide) he) fun σ H Q hh_=>by
  obtain ⟨w,env,eH,S,eo,h⟩:=hh_
  subst eH
  refine ⟨w,env,rfl,S,eo,(Out.bnd h).mono fun w1 d l1 S1 h1 v dv=>?_⟩
  refine ⟨["list","tuple"],rfl,(by show 2<=sizeLine;decide),fun p hp=>?_⟩
  unfold isLT at h1
  split at h1
  ·rename_i i
   have e:v=.int i:=dv
   subst e
   have S2:=S1.grow (o:=.ext (TyTup p ["list","tuple"])) hp
   have l2:=(Fw.grow (K:=X.K) (o:=.ext (TyTup p ["list","tuple"])) hp).le
   exact ⟨i,p,rfl,upd_same,h1 _ l2 S2 rfl _ rfl⟩
  ·exact h1.elim
end
end DI
namespace DI.k42
open PySem L2 DI
noncomputable def f_Lstate:List D->Sto->Res D:=fnRun 2 3 (sSeq (sAsg (eCall f_Lcell_at (aCons (eLoc 0) (aCons (eLoc 1) aNil))) (gN 2)) (sSeq (sIf (tBl (e2 opGe (eLoc 2) (e2 opPow (eC (.int 10)) (eC (.int 18))))) (sRet (eNew (aCons (e2 opSub (eLoc 2) (e2 opPow (eC (.int 10)) (eC (.int 18)))) (aCons (eC (.bl true)) aNil)))) sNil) (sRet (eNew (aCons (e2 opMod (eLoc 2) (eC (.int 2147483647))) (aCons (eC (.bl false)) aNil))))))
noncomputable def f_Ltake:List D->Sto->Res D:=fnRun 2 4 (sSeq (sIf (tTru (e2 opIx (eLoc 0) (eC (.int 1)))) (sSeq (sAsg (e2 opMod (e2 opIx (eLoc 0) (eC (.int 0))) (eLoc 1)) (gN 2)) (sSeq (sSub (e2 opDiv (e2 opIx (eLoc 0) (eC (.int 0))) (eLoc 1)) (eLoc 0) (eC (.int 0))) (sRet (eLoc 2)))) sNil) (sSeq (sSub (e2 opMod (e2 opAdd (e2 opMul (e2 opIx (eLoc 0) (eC (.int 0))) (eC (.int 48271))) (eC (.int 29))) (eC (.int 2147483647))) (eLoc 0) (eC (.int 0))) (sSeq (sAsg (e2 opMod (e2 opAdd (e2 opAdd (e2 opMul (e2 opIx (eLoc 0) (eC (.int 0))) (e2 opIx (eLoc 0) (eC (.int 0)))) (e2 opMul (eC (.int 39373)) (e2 opIx (eLoc 0) (eC (.int 0))))) (eC (.int 7))) (eC (.int 2147483629))) (gN 3)) (sSeq (sAsg (e2 opMod (e2 opAdd (e2 opMul (eLoc 3) (eLoc 3)) (e2 opMul (eC (.int 16807)) (eLoc 3))) (eC (.int 2147483587))) (gN 3)) (sRet (e2 opMod (e2 opDiv (eLoc 3) (eC (.int 8))) (eLoc 1)))))))
noncomputable def f_Lmarks:List D->Sto->Res D:=fnRun 2 2 (sRet (eB bTuple (aCons (eComp 1 [0] (iR1 (aCons (eLoc 1) aNil)) (gN 0) (tBl (e2 opEq (eCall f_Ltake (aCons (eLoc 1) (aCons (eC (.int 2)) aNil))) (eC (.int 1)))) (eLoc 0)) aNil)))
noncomputable def f_Lheap:List D->Sto->Res D:=fnRun 2 8 (sSeq (par2 2 3 (aCons (e2 opAdd (eC (.int 1)) (eCall f_Ltake (aCons (eLoc 0) (aCons (eLoc 1) aNil)))) (aCons (eCall f_Ltake (aCons (eLoc 0) (aCons (eC (.int 4)) aNil))) aNil))) (sSeq (sAsg (eNew aNil) (gN 4)) (sSeq (sFor (iR1 (aCons (eLoc 2) aNil)) (gN 5) (sSeq (sAsg (eCall f_Lmarks (aCons (eLoc 0) (aCons (e2 opIx (eLst (aCons (eC (.int 2)) (aCons (eC (.int 3)) (aCons (eC (.int 4)) (aCons (eC (.int 8)) aNil))))) (eLoc 3)) aNil))) (gN 6)) (sSeq (sIf (tAnd (tBl (e2 opNe (eLoc 4) (eLst aNil))) (tBl (e2 opEq (eCall f_Ltake (aCons (eLoc 0) (aCons (eC (.int 4)) aNil))) (eC (.int 0))))) (sSeq (sAsg (e2 opIx (eLoc 4) (eCall f_Ltake (aCons (eLoc 0) (aCons (eB bLen (aCons (eLoc 4) aNil)) aNil)))) (gN 7)) (sAsg (eIf (tBl (e2 opEq (eCall f_Ltake (aCons (eLoc 0) (aCons (eC (.int 2)) aNil))) (eC (.int 0)))) (eB bTuple (aCons (e1 sortSetT (e2 opAdd (eLoc 7) (eLoc 6))) aNil)) (eLoc 7)) (gN 6))) sNil) (sExpr (eApp (eLoc 4) (eLoc 6)))))) (sRet (eB bTuple (aCons (eLoc 4) aNil))))))
noncomputable def f_Lwithin:List D->Sto->Res D:=fnRun 2 2 (sRet (e2 opEq (eComp 1 [1] (iSeq (eLoc 0)) (gN 0) (tBl (e2 opNotIn (eLoc 0) (eLoc 1))) (eLoc 0)) (eLst aNil)))
noncomputable def f_Lakin:List D->Sto->Res D:=fnRun 3 3 (sRet (eOr (eCall f_Lwithin (aCons (e2 opIx (eLoc 0) (eLoc 1)) (aCons (e2 opIx (eLoc 0) (eLoc 2)) aNil))) (eCall f_Lwithin (aCons (e2 opIx (eLoc 0) (eLoc 2)) (aCons (e2 opIx (eLoc 0) (eLoc 1)) aNil)))))
noncomputable def f_Lmost:List D->Sto->Res D:=fnRun 1 4 (sSeq (sAsg (eNew (aCons (eTup aNil) aNil)) (gN 1)) (sSeq (sFor (iR1 (aCons (eB bLen (aCons (eLoc 0) aNil)) aNil)) (gN 2) (sFor (iSeq (eB bList (aCons (eLoc 1) aNil))) (gN 3) (sIf (tBl (e2 opEq (eComp 1 [0,2] (iSeq (eLoc 3)) (gN 0) (tTru (eCall f_Lakin (aCons (eLoc 1) (aCons (eLoc 0) (aCons (eLoc 2) aNil))))) (eLoc 0)) (eLst aNil))) (sExpr (eApp (eLoc 1) (e2 opAdd (eLoc 3) (eTup (aCons (eLoc 2) aNil))))) sNil))) (sRet (eB bMax (aCons (eComp 1 [] (iSeq (eFrz (eLoc 1))) (gN 0) tTT (eB bLen (aCons (eLoc 0) aNil))) aNil)))))
noncomputable def f_Lsame:Nat->List D->Sto->Res D
 |0=>fun _ _=>none
 |n+1=>fnRun 2 2 (sSeq (sIf (tTru (e1 isLT (eLoc 1))) (sSeq (sIf (tOr (tBl (e2 opNe (eB bIsi (aCons (eLoc 0) (aCons (eC (.ty "list")) aNil))) (eB bIsi (aCons (eLoc 1) (aCons (eC (.ty "list")) aNil))))) (tBl (e2 opNe (eB bIsi (aCons (eLoc 0) (aCons (eC (.ty "tuple")) aNil))) (eB bIsi (aCons (eLoc 1) (aCons (eC (.ty "tuple")) aNil)))))) (sRet (eC (.bl false))) sNil) (sSeq (sIf (tBl (e2 opNe (eB bLen (aCons (eLoc 0) aNil)) (eB bLen (aCons (eLoc 1) aNil)))) (sRet (eC (.bl false))) sNil) (sRet (e2 opNotIn (eC (.bl false)) (eComp 2 [] (iZip (aCons (eLoc 0) (aCons (eLoc 1) aNil))) (gT [gN 0,gN 1]) tTT (eCall (f_Lsame n) (aCons (eLoc 0) (aCons (eLoc 1) aNil)))))))) sNil) (sRet (eAnd (e2 opEq (eB bIsi (aCons (eLoc 0) (aCons (eC (.ty "bool")) aNil))) (eB bIsi (aCons (eLoc 1) (aCons (eC (.ty "bool")) aNil)))) (e2 opEq (eLoc 0) (eLoc 1)))))
noncomputable def f_need_heap:List D->Sto->Res D:=fnRun 1 1 (sIf (tNot (tTru (eCall f_are_laid_marks (aCons (eLoc 0) (aCons (eC (.int (9))) aNil))))) sNo sNil)
noncomputable def f_may_follow:List D->Sto->Res D:=fnRun 3 3 (sRet (eAnd (eCall f_has_all (aCons (e2 opIx (eLoc 0) (eLoc 2)) (aCons (e2 opIx (eLoc 0) (eLoc 1)) aNil))) (eOr (e2 opNe (e2 opIx (eLoc 0) (eLoc 2)) (e2 opIx (eLoc 0) (eLoc 1))) (e2 opLt (eLoc 1) (eLoc 2)))))
noncomputable def f_find_behind:Nat->List D->Sto->Res D
 |0=>fun _ _=>none
 |n+1=>fnRun 4 5 (sSeq (sFor (iR1 (aCons (eB bLen (aCons (eLoc 0) aNil)) aNil)) (gN 4) (sIf (tAnd (tBl (e2 opNotInD (eLoc 4) (eLoc 3))) (tTru (eCall f_may_follow (aCons (eLoc 0) (aCons (eLoc 1) (aCons (eLoc 4) aNil)))))) (sSeq (sPut (eC (.bl true)) (eLoc 3) (eLoc 4)) (sIf (tOr (tBl (e2 opNotInD (eLoc 4) (eLoc 2))) (tTru (eCall (f_find_behind n) (aCons (eLoc 0) (aCons (e2 opGet (eLoc 2) (eLoc 4)) (aCons (eLoc 2) (aCons (eLoc 3) aNil))))))) (sSeq (sPut (eLoc 1) (eLoc 2) (eLoc 4)) (sRet (eC (.bl true)))) sNil)) sNil)) (sRet (eC (.bl false))))
noncomputable def f_places_ahead:List D->Sto->Res D:=fnRun 1 3 (sSeq (sAsg eNewD (gN 1)) (sSeq (sFor (iR1 (aCons (eB bLen (aCons (eLoc 0) aNil)) aNil)) (gN 2) (sExpr (eCall (f_find_behind 12) (aCons (eLoc 0) (aCons (eLoc 2) (aCons (eLoc 1) (aCons eNewD aNil))))))) (sRet (eLoc 1))))
noncomputable def f_row_from:List D->Sto->Res D:=fnRun 2 3 (sSeq (sAsg (eNew (aCons (eLoc 0) aNil)) (gN 2)) (sSeq (sWhl 20 (tBl (e2 opInD (e2 opIx (eLoc 2) (e1 opNeg (eC (.int 1)))) (eLoc 1))) (sExpr (eApp (eLoc 2) (e2 opGet (eLoc 1) (e2 opIx (eLoc 2) (e1 opNeg (eC (.int 1)))))))) (sRet (eB bTuple (aCons (eLoc 2) aNil)))))
noncomputable def f_rows_of:List D->Sto->Res D:=fnRun 1 3 (sSeq (sExpr (eCall f_need_heap (aCons (eLoc 0) aNil))) (sSeq (sAsg (eCall f_places_ahead (aCons (eLoc 0) aNil)) (gN 1)) (sSeq (sAsg (eDRev (eLoc 1)) (gN 2)) (sRet (eB bTuple (aCons (eComp 1 [2,1] (iR1 (aCons (eB bLen (aCons (eLoc 0) aNil)) aNil)) (gN 0) (tBl (e2 opNotInD (eLoc 0) (eLoc 2))) (eCall f_row_from (aCons (eLoc 0) (aCons (eLoc 1) aNil)))) aNil))))))
noncomputable def f_is_strange:List D->Sto->Res D:=fnRun 3 4 (sSeq (sAsg (e2 opIx (eLoc 0) (eLoc 2)) (gN 3)) (sRet (eNot (eB bAny (aCons (eComp 1 [3,0] (iSeq (eLoc 1)) (gN 0) tTT (eOr (eCall f_has_all (aCons (eLoc 1) (aCons (e2 opIx (eLoc 2) (eLoc 0)) aNil))) (eCall f_has_all (aCons (e2 opIx (eLoc 2) (eLoc 0)) (aCons (eLoc 1) aNil))))) aNil)))))
noncomputable def f_most_strangers:List D->Sto->Res D:=fnRun 1 3 (sSeq (sAsg (eLst (aCons (eTup aNil) aNil)) (gN 1)) (sSeq (sFor (iR1 (aCons (eB bLen (aCons (eLoc 0) aNil)) aNil)) (gN 2) (sAsg (e2 opAdd (eLoc 1) (eComp 1 [2,0] (iSeq (eLoc 1)) (gN 0) (tTru (eCall f_is_strange (aCons (eLoc 2) (aCons (eLoc 0) (aCons (eLoc 1) aNil))))) (e2 opAdd (eLoc 0) (eTup (aCons (eLoc 1) aNil))))) (gN 1))) (sRet (e1 maxLen (eLoc 1)))))
noncomputable def f_strangers_of:List D->Sto->Res D:=fnRun 1 1 (sSeq (sExpr (eCall f_need_heap (aCons (eLoc 0) aNil))) (sRet (eCall f_most_strangers (aCons (eLoc 0) aNil))))
noncomputable def f_are_places:List D->Sto->Res D:=fnRun 2 2 (sRet (eAnd (eB bIsi (aCons (eLoc 1) (aCons (eC (.ty "tuple")) aNil))) (eB bAll (aCons (eComp 1 [0] (iSeq (eLoc 1)) (gN 0) tTT (eCall f_is_below (aCons (eLoc 0) (aCons (eB bLen (aCons (eLoc 1) aNil)) aNil)))) aNil))))
noncomputable def f_is_row:List D->Sto->Res D:=fnRun 2 2 (sRet (eAnd (eCall f_are_places (aCons (eLoc 0) (aCons (eLoc 1) aNil))) (eAnd (e2 opGt (eB bLen (aCons (eLoc 1) aNil)) (eC (.int 0))) (eB bAll (aCons (eComp 2 [0] (iZip (aCons (eLoc 1) (aCons (eSl (eLoc 1) (pInt (eC (.int 1))) pNo) aNil))) (gT [gN 0,gN 1]) tTT (eCall f_has_all (aCons (e2 opIx (eLoc 2) (eLoc 1)) (aCons (e2 opIx (eLoc 2) (eLoc 0)) aNil)))) aNil)))))
noncomputable def f_are_rows:List D->Sto->Res D:=fnRun 2 2 (sSeq (sExpr (eCall f_need_heap (aCons (eLoc 0) aNil))) (sSeq (sIf (tOr (tNot (tTru (eB bIsi (aCons (eLoc 1) (aCons (eC (.ty "tuple")) aNil))))) (tNot (tTru (eB bAll (aCons (eComp 1 [0] (iSeq (eLoc 1)) (gN 0) tTT (eCall f_is_row (aCons (eLoc 1) (aCons (eLoc 0) aNil)))) aNil))))) (sRet (eC (.bl false))) sNil) (sRet (e2 opEq (eB bSortI (aCons (eComp2 2 [] (iSeq (eLoc 1)) (gN 0) tTT (iSeq (eLoc 0)) (gN 1) tTT (eLoc 1)) aNil)) (eB bListR (aCons (eB bLen (aCons (eLoc 0) aNil)) aNil))))))
noncomputable def f_are_strangers:List D->Sto->Res D:=fnRun 2 2 (sSeq (sExpr (eCall f_need_heap (aCons (eLoc 0) aNil))) (sRet (eAnd (eCall f_are_places (aCons (eLoc 0) (aCons (eLoc 1) aNil))) (eAnd (eCall f_is_rising (aCons (eLoc 1) aNil)) (eB bAll (aCons (eComp 1 [0,1] (iR1 (aCons (eB bLen (aCons (eLoc 1) aNil)) aNil)) (gN 0) tTT (eCall f_is_strange (aCons (eLoc 1) (aCons (eSl (eLoc 2) pNo (pInt (eLoc 0))) (aCons (e2 opIx (eLoc 2) (eLoc 0)) aNil))))) aNil))))))
noncomputable def f_fewest:List D->Sto->Res D:=fnRun 1 1 (sSeq (sExpr (eCall f_need_heap (aCons (eLoc 0) aNil))) (sRet (eB bLen (aCons (eCall f_most_strangers (aCons (eLoc 0) aNil)) aNil))))
noncomputable def f_Lare_rows:List D->Sto->Res D:=fnRun 2 6 (sSeq (sIf (tNot (tTru (eB bIsi (aCons (eLoc 1) (aCons (eC (.ty "tuple")) aNil))))) (sRet (eC (.bl false))) sNil) (sSeq (sAsg (eNew aNil) (gN 2)) (sSeq (sFor (iSeq (eLoc 1)) (gN 3) (sSeq (sIf (tOr (tNot (tTru (eB bIsi (aCons (eLoc 3) (aCons (eC (.ty "tuple")) aNil))))) (tBl (e2 opEq (eLoc 3) (eTup aNil)))) (sRet (eC (.bl false))) sNil) (sFor (iEnum (aCons (eLoc 3) aNil)) (gT [(gN 4),(gN 5)]) (sSeq (sIf (tOr (tNot (tTru (eB bIsi (aCons (eLoc 5) (aCons (eC (.ty "int")) aNil))))) (tOr (tTru (eB bIsi (aCons (eLoc 5) (aCons (eC (.ty "bool")) aNil)))) (tNot (tBl (eCh opLe opLt (eC (.int 0)) (eLoc 5) (eB bLen (aCons (eLoc 0) aNil))))))) (sRet (eC (.bl false))) sNil) (sSeq (sIf (tAnd (tBl (e2 opGt (eLoc 4) (eC (.int 0)))) (tNot (tTru (eCall f_Lwithin (aCons (e2 opIx (eLoc 0) (e2 opIx (eLoc 3) (e2 opSub (eLoc 4) (eC (.int 1))))) (aCons (e2 opIx (eLoc 0) (eLoc 5)) aNil)))))) (sRet (eC (.bl false))) sNil) (sExpr (eApp (eLoc 2) (eLoc 5)))))))) (sRet (e2 opEq (eB bSortI (aCons (eLoc 2) aNil)) (eB bListR (aCons (eB bLen (aCons (eLoc 0) aNil)) aNil)))))))
noncomputable def f_Lare_strangers:List D->Sto->Res D:=fnRun 2 4 (sSeq (sIf (tNot (tTru (eB bIsi (aCons (eLoc 1) (aCons (eC (.ty "tuple")) aNil))))) (sRet (eC (.bl false))) sNil) (sSeq (sFor (iEnum (aCons (eLoc 1) aNil)) (gT [(gN 2),(gN 3)]) (sSeq (sIf (tOr (tNot (tTru (eB bIsi (aCons (eLoc 3) (aCons (eC (.ty "int")) aNil))))) (tOr (tTru (eB bIsi (aCons (eLoc 3) (aCons (eC (.ty "bool")) aNil)))) (tNot (tBl (eCh opLe opLt (eC (.int 0)) (eLoc 3) (eB bLen (aCons (eLoc 0) aNil))))))) (sRet (eC (.bl false))) sNil) (sSeq (sIf (tAnd (tBl (e2 opGt (eLoc 2) (eC (.int 0)))) (tBl (e2 opGe (e2 opIx (eLoc 1) (e2 opSub (eLoc 2) (eC (.int 1)))) (eLoc 3)))) (sRet (eC (.bl false))) sNil) (sIf (tBl (e2 opNe (eComp 1 [0,3] (iSeq (eSl (eLoc 1) pNo (pInt (eLoc 2)))) (gN 0) (tTru (eCall f_Lakin (aCons (eLoc 1) (aCons (eLoc 0) (aCons (eLoc 2) aNil))))) (eLoc 0)) (eLst aNil))) (sRet (eC (.bl false))) sNil)))) (sRet (eC (.bl true)))))
noncomputable def f_law:List D->Sto->Res D:=fnRun 1 10 (sSeq (sFor (iR1 (aCons (eB bMax2 (aCons (eC (.int 1)) (aCons (eB bMin2 (aCons (eB bLen (aCons (eLoc 0) aNil)) (aCons (eC (.int 3)) aNil))) aNil))) aNil)) (gN 1) (sSeq (sAsg (eCall f_Lstate (aCons (eLoc 0) (aCons (eLoc 1) aNil))) (gN 2)) (sFor (iR1 (aCons (eC (.int 3)) aNil)) (gN 3) (sSeq (sAsg (eCall f_Lheap (aCons (eLoc 2) (aCons (eC (.int 9)) aNil))) (gN 4)) (sSeq (par2 5 6 (aCons (eB bRepr (aCons (eLoc 4) aNil)) (aCons (eCall f_Lmost (aCons (eLoc 4) aNil)) aNil))) (sSeq (sFor (iR1 (aCons (eC (.int 2)) aNil)) (gN 7) (sSeq (sIf (tNot (tTru (eCall (f_Lsame 8) (aCons (eCall f_fewest (aCons (eLoc 4) aNil)) (aCons (eLoc 6) aNil))))) (sRet (eC (.bl false))) sNil) (sSeq (par2 8 9 (aCons (eCall f_rows_of (aCons (eLoc 4) aNil)) (aCons (eCall f_strangers_of (aCons (eLoc 4) aNil)) aNil))) (sSeq (sIf (tOr (tNot (tTru (eCall f_Lare_rows (aCons (eLoc 4) (aCons (eLoc 8) aNil))))) (tNot (tTru (eCall f_Lare_strangers (aCons (eLoc 4) (aCons (eLoc 9) aNil)))))) (sRet (eC (.bl false))) sNil) (sIf (tOr (tBl (e2 opNe (eB bLen (aCons (eLoc 8) aNil)) (eLoc 6))) (tOr (tBl (e2 opNe (eB bLen (aCons (eLoc 9) aNil)) (eLoc 6))) (tBl (e2 opNe (eB bRepr (aCons (eLoc 4) aNil)) (eLoc 5))))) (sRet (eC (.bl false))) sNil))))) (sIf (tOr (tBl (e2 opNotB (eCall f_are_rows (aCons (eLoc 4) (aCons (eLoc 8) aNil))) (eC (.bl true)))) (tBl (e2 opNotB (eCall f_are_strangers (aCons (eLoc 4) (aCons (eLoc 9) aNil))) (eC (.bl true))))) (sRet (eC (.bl false))) sNil))))))) (sRet (eC (.bl true))))
end DI.k42
namespace DI.k42
open PySem L2 DI
noncomputable def top (i:Nat):Stmt:=PySem.Challenge.pw_twinmoulds_k42_whole_as_many_strangers_a.main.body.getD i (.Pass ⟨0,0,0,0⟩)
structure Fns (K:Frag) (mg:Str->Option Value):Prop where
 bl_all:mg "all"=none
 bl_any:mg "any"=none
 bl_bool:mg "bool"=none
 bl_enumerate:mg "enumerate"=none
 bl_int:mg "int"=none
 bl_isinstance:mg "isinstance"=none
 bl_len:mg "len"=none
 bl_list:mg "list"=none
 bl_max:mg "max"=none
 bl_min:mg "min"=none
 bl_range:mg "range"=none
 bl_repr:mg "repr"=none
 bl_set:mg "set"=none
 bl_sorted:mg "sorted"=none
 bl_tuple:mg "tuple"=none
 bl_zip:mg "zip"=none
 gi_MARKS:∃t,mg "MARKS"=some (.int (8) t)
 gi_HEAP:∃t,mg "HEAP"=some (.int (9) t)
 fn_Lcell_at:∃f fd,Gd K mg "_law_cell_at" (top 30) ["_law_script","_law_k"] f fd
 fn_Lstate:∃f fd,Gd K mg "_law_state" (top 31) ["_law_script","_law_k"] f fd
 fn_Ltake:∃f fd,Gd K mg "_law_take" (top 32) ["_law_state_here","_law_many"] f fd
 fn_Lmarks:∃f fd,Gd K mg "_law_marks" (top 33) ["_law_state_here","_law_many"] f fd
 fn_Lheap:∃f fd,Gd K mg "_law_heap" (top 37) ["_law_state_here","_law_most_here"] f fd
 fn_Lwithin:∃f fd,Gd K mg "_law_within" (top 35) ["_law_one","_law_other"] f fd
 fn_Lakin:∃f fd,Gd K mg "_law_akin" (top 36) ["_law_heap_here","_law_one","_law_other"] f fd
 fn_Lmost:∃f fd,Gd K mg "_law_most" (top 38) ["_law_heap_here"] f fd
 fn_Lsame:∃f fd,Gd K mg "_law_same" (top 34) ["_law_told","_law_due"] f fd
 fn_is_rising:∃f fd,Gd K mg "is_rising" (top 8) ["things"] f fd
 fn_is_number:∃f fd,Gd K mg "is_number" (top 5) ["thing"] f fd
 fn_is_below:∃f fd,Gd K mg "is_below" (top 6) ["thing","many"] f fd
 fn_is_mark:∃f fd,Gd K mg "is_mark" (top 7) ["thing"] f fd
 fn_are_marks:∃f fd,Gd K mg "are_marks" (top 10) ["thing"] f fd
 fn_are_laid_marks:∃f fd,Gd K mg "are_laid_marks" (top 12) ["thing","most"] f fd
 fn_need_heap:∃f fd,Gd K mg "need_heap" (top 20) ["thing"] f fd
 fn_has_all:∃f fd,Gd K mg "has_all" (top 11) ["marks","others"] f fd
 fn_may_follow:∃f fd,Gd K mg "may_follow" (top 27) ["heap","place","other"] f fd
 fn_find_behind:∃f fd,Gd K mg "find_behind" (top 26) ["heap","place","ahead","tried"] f fd
 fn_places_ahead:∃f fd,Gd K mg "places_ahead" (top 25) ["heap"] f fd
 fn_row_from:∃f fd,Gd K mg "row_from" (top 28) ["place","behind"] f fd
 fn_rows_of:∃f fd,Gd K mg "rows_of" (top 18) ["heap"] f fd
 fn_is_strange:∃f fd,Gd K mg "is_strange" (top 23) ["heap","places","place"] f fd
 fn_most_strangers:∃f fd,Gd K mg "most_strangers" (top 24) ["heap"] f fd
 fn_strangers_of:∃f fd,Gd K mg "strangers_of" (top 19) ["heap"] f fd
 fn_are_places:∃f fd,Gd K mg "are_places" (top 21) ["heap","thing"] f fd
 fn_is_row:∃f fd,Gd K mg "is_row" (top 22) ["heap","thing"] f fd
 fn_are_rows:∃f fd,Gd K mg "are_rows" (top 15) ["heap","thing"] f fd
 fn_are_strangers:∃f fd,Gd K mg "are_strangers" (top 16) ["heap","thing"] f fd
 fn_fewest:∃f fd,Gd K mg "fewest" (top 17) ["heap"] f fd
 fn_Lare_rows:∃f fd,Gd K mg "_law_are_rows" (top 39) ["_law_heap_here","_law_thing"] f fd
 fn_Lare_strangers:∃f fd,Gd K mg "_law_are_strangers" (top 40) ["_law_heap_here","_law_thing"] f fd
section
variable {P:Program} {w:World} {K:Frag} {mg:Str->Option Value} {base:Heap}
theorem sc_Lcell_at:FnScope ["_law_script","_law_k"] ["_law_script","_law_k"] (defScope (top 30)):=⟨rfl,rfl,rfl,by decide +kernel,rfl,by decide +kernel,by decide +kernel⟩
theorem ok_Lcell_at (F:Fns K mg) {f:Addr} {fd:FuncData} (G:Gd K mg "_law_cell_at" (top 30) ["_law_script","_law_k"] f fd):FnOk P w K mg base CX0 1 f fd ["_law_script","_law_k"] (spI K f_Lcell_at):=by
 have nd0:=sc_Lcell_at.nd
 exact fn_ok (k:=0) G.fn sc_Lcell_at fun cdv A outer s H E hr=>(s_cons (s_if (t_cmp (o_lt hr) (e_loc 1) (e_callB c_len rfl F.bl_len b_len (a_cons (e_loc 0) a_nil)) (nomark _)) (s_one (s_ret (e_ix (e_loc 0) (e_loc 1)))) s_nil) (s_one (s_ret e_int)))
theorem sc_Lstate:FnScope ["_law_script","_law_k","_law_cell"] ["_law_script","_law_k"] (defScope (top 31)):=⟨rfl,rfl,rfl,by decide +kernel,rfl,by decide +kernel,by decide +kernel⟩
theorem ok_Lstate (F:Fns K mg) {f:Addr} {fd:FuncData} (G:Gd K mg "_law_state" (top 31) ["_law_script","_law_k"] f fd):FnOk P w K mg base CX0 2 f fd ["_law_script","_law_k"] (spI K f_Lstate):=by
 obtain ⟨_,_,G_Lcell_at⟩:=F.fn_Lcell_at
 have nd0:=sc_Lstate.nd
 exact fn_ok (k:=1) G.fn sc_Lstate fun cdv A outer s H E hr=>(s_cons (s_set 2 nd0 (e_call (ok_Lcell_at F G_Lcell_at) (hr.mono (by decide)) rfl G_Lcell_at.mg G_Lcell_at.fn.kp G_Lcell_at.b (a_cons (e_loc 0) (a_cons (e_loc 1) a_nil)))) (s_cons (s_if (t_cmp o_ge (e_loc 2) (e_bin o_pow e_int e_int) (nomark _)) (s_one (s_ret (e_new (a_cons (e_bin o_sub (e_loc 2) (e_bin o_pow e_int e_int)) (a_cons e_bl a_nil))))) s_nil) (s_one (s_ret (e_new (a_cons (e_bin o_mod (e_loc 2) e_int) (a_cons e_bl a_nil)))))))
theorem sc_Ltake:FnScope ["_law_state_here","_law_many","_law_found","_law_mixed"] ["_law_state_here","_law_many"] (defScope (top 32)):=⟨rfl,rfl,rfl,by decide +kernel,rfl,by decide +kernel,by decide +kernel⟩
theorem ok_Ltake (F:Fns K mg) {f:Addr} {fd:FuncData} (G:Gd K mg "_law_take" (top 32) ["_law_state_here","_law_many"] f fd):FnOk P w K mg base CX0 1 f fd ["_law_state_here","_law_many"] (spI K f_Ltake):=by
 have nd0:=sc_Ltake.nd
 exact fn_ok (k:=0) G.fn sc_Ltake fun cdv A outer s H E hr=>(s_cons (s_if (t_tru (e_ix (e_loc 0) e_int)) (s_cons (s_set 2 nd0 (e_bin o_mod (e_ix (e_loc 0) e_int) (e_loc 1))) (s_cons (s_sub (e_bin o_div (e_ix (e_loc 0) e_int) (e_loc 1)) (e_loc 0) e_int) (s_one (s_ret (e_loc 2))))) s_nil) (s_cons (s_sub (e_bin o_mod (e_bin o_add (e_bin o_mul (e_ix (e_loc 0) e_int) e_int) e_int) e_int) (e_loc 0) e_int) (s_cons (s_set 3 nd0 (e_bin o_mod (e_bin o_add (e_bin o_add (e_bin o_mul (e_ix (e_loc 0) e_int) (e_ix (e_loc 0) e_int)) (e_bin o_mul e_int (e_ix (e_loc 0) e_int))) e_int) e_int)) (s_cons (s_set 3 nd0 (e_bin o_mod (e_bin o_add (e_bin o_mul (e_loc 3) (e_loc 3)) (e_bin o_mul e_int (e_loc 3))) e_int)) (s_one (s_ret (e_bin o_mod (e_bin o_div (e_loc 3) e_int) (e_loc 1))))))))
theorem sc_Lmarks:FnScope ["_law_state_here","_law_many"] ["_law_state_here","_law_many"] (defScope (top 33)):=⟨rfl,rfl,rfl,by decide +kernel,rfl,by decide +kernel,by decide +kernel⟩
theorem ok_Lmarks (F:Fns K mg) {f:Addr} {fd:FuncData} (G:Gd K mg "_law_marks" (top 33) ["_law_state_here","_law_many"] f fd):FnOk P w K mg base CX0 2 f fd ["_law_state_here","_law_many"] (spI K f_Lmarks):=by
 obtain ⟨_,_,G_Ltake⟩:=F.fn_Ltake
 have nd1:(["_law_mark","_law_state_here"]:List Str).Nodup:=by decide +kernel
 have nd0:=sc_Lmarks.nd
 exact fn_ok (k:=1) G.fn sc_Lmarks fun cdv A outer s H E hr=>(s_one (s_ret (e_callTy c_tuple rfl F.bl_tuple b_tuple (a_cons (e_compD (N:=["_law_mark","_law_state_here"]) (nt:=1) (cap:=[0]) rfl (ds_of (by kernel_rfl)) (tg_name 0) (i_rng1 rfl F.bl_range (a_cons (e_loc 1) a_nil)) (fun cl C s H ex pn=>⟨(pg_name (i:=0) nd1 rfl (Or.inl rfl)),(f_one (t_cmp (o_eq hr) (e_call (ok_Ltake F G_Ltake) (hr.mono (by decide)) rfl G_Ltake.mg G_Ltake.fn.kp G_Ltake.b (a_cons (e_loc 1) (a_cons e_int a_nil))) e_int (nomark _))),(e_loc 0)⟩)) a_nil))))
theorem sc_Lheap:FnScope ["_law_state_here","_law_most_here","_law_many","_law_way","_law_found","_law_turn","_law_marks_here","_law_other"] ["_law_state_here","_law_most_here"] (defScope (top 37)):=⟨rfl,rfl,rfl,by decide +kernel,rfl,by decide +kernel,by decide +kernel⟩
theorem ok_Lheap (F:Fns K mg) {f:Addr} {fd:FuncData} (G:Gd K mg "_law_heap" (top 37) ["_law_state_here","_law_most_here"] f fd):FnOk P w K mg base CX0 3 f fd ["_law_state_here","_law_most_here"] (spI K f_Lheap):=by
 obtain ⟨_,_,G_Ltake⟩:=F.fn_Ltake
 obtain ⟨_,_,G_Lmarks⟩:=F.fn_Lmarks
 have nd0:=sc_Lheap.nd
 exact fn_ok (k:=2) G.fn sc_Lheap fun cdv A outer s H E hr=>(s_cons (s_par2 2 3 rfl nd0 (a_cons (e_bin o_add e_int (e_call (ok_Ltake F G_Ltake) (hr.mono (by decide)) rfl G_Ltake.mg G_Ltake.fn.kp G_Ltake.b (a_cons (e_loc 0) (a_cons (e_loc 1) a_nil)))) (a_cons (e_call (ok_Ltake F G_Ltake) (hr.mono (by decide)) rfl G_Ltake.mg G_Ltake.fn.kp G_Ltake.b (a_cons (e_loc 0) (a_cons e_int a_nil))) a_nil))) (s_cons (s_set 4 nd0 (e_new a_nil)) (s_cons (s_for PassesOwn.never rfl (i_rng1 rfl F.bl_range (a_cons (e_loc 2) a_nil)) (g_name 5 nd0) (s_cons (s_set 6 nd0 (e_call (ok_Lmarks F G_Lmarks) (hr.mono (by decide)) rfl G_Lmarks.mg G_Lmarks.fn.kp G_Lmarks.b (a_cons (e_loc 0) (a_cons (e_ix (e_lst (a_cons e_int (a_cons e_int (a_cons e_int (a_cons e_int a_nil))))) (e_loc 3)) a_nil)))) (s_cons (s_if (PW.pt (w_and (t_cmp (o_ne hr) (e_loc 4) (e_lst a_nil) (nomark _)) (w_and1 (t_cmp (o_eq hr) (e_call (ok_Ltake F G_Ltake) (hr.mono (by decide)) rfl G_Ltake.mg G_Ltake.fn.kp G_Ltake.b (a_cons (e_loc 0) (a_cons e_int a_nil))) e_int (nomark _))))) (s_cons (s_set 7 nd0 (e_ix (e_loc 4) (e_call (ok_Ltake F G_Ltake) (hr.mono (by decide)) rfl G_Ltake.mg G_Ltake.fn.kp G_Ltake.b (a_cons (e_loc 0) (a_cons (e_callB c_len rfl F.bl_len b_len (a_cons (e_loc 4) a_nil)) a_nil))))) (s_one (s_set 6 nd0 (e_if (t_cmp (o_eq hr) (e_call (ok_Ltake F G_Ltake) (hr.mono (by decide)) rfl G_Ltake.mg G_Ltake.fn.kp G_Ltake.b (a_cons (e_loc 0) (a_cons e_int a_nil))) e_int (nomark _)) (e_callTy c_tuple rfl F.bl_tuple b_tuple (a_cons (e_sortSetT (e_bin o_add (e_loc 7) (e_loc 6)) rfl rfl F.bl_sorted b_sorted rfl F.bl_set b_set) a_nil)) (e_loc 7))))) s_nil) (s_one (s_expr (e_app (e_loc 4) (e_loc 6))))))) (s_one (s_ret (e_callTy c_tuple rfl F.bl_tuple b_tuple (a_cons (e_loc 4) a_nil)))))))
theorem sc_Lwithin:FnScope ["_law_one","_law_other"] ["_law_one","_law_other"] (defScope (top 35)):=⟨rfl,rfl,rfl,by decide +kernel,rfl,by decide +kernel,by decide +kernel⟩
theorem ok_Lwithin (F:Fns K mg) {f:Addr} {fd:FuncData} (G:Gd K mg "_law_within" (top 35) ["_law_one","_law_other"] f fd):FnOk P w K mg base CX0 1 f fd ["_law_one","_law_other"] (spI K f_Lwithin):=by
 have nd1:(["_law_mark","_law_other"]:List Str).Nodup:=by decide +kernel
 have nd0:=sc_Lwithin.nd
 exact fn_ok (k:=0) G.fn sc_Lwithin fun cdv A outer s H E hr=>(s_one (s_ret (e_cmp (o_eq hr) (e_compD (N:=["_law_mark","_law_other"]) (nt:=1) (cap:=[1]) rfl (ds_of (by kernel_rfl)) (tg_name 0) (i_seq (e_loc 0)) (fun cl C s H ex pn=>⟨(pg_name (i:=0) nd1 rfl (Or.inl rfl)),(f_one (t_cmp (o_notIn hr) (e_loc 0) (e_loc 1) rfl)),(e_loc 0)⟩)) (e_lst a_nil) (nomark _))))
theorem sc_Lakin:FnScope ["_law_heap_here","_law_one","_law_other"] ["_law_heap_here","_law_one","_law_other"] (defScope (top 36)):=⟨rfl,rfl,rfl,by decide +kernel,rfl,by decide +kernel,by decide +kernel⟩
theorem ok_Lakin (F:Fns K mg) {f:Addr} {fd:FuncData} (G:Gd K mg "_law_akin" (top 36) ["_law_heap_here","_law_one","_law_other"] f fd):FnOk P w K mg base CX0 2 f fd ["_law_heap_here","_law_one","_law_other"] (spI K f_Lakin):=by
 obtain ⟨_,_,G_Lwithin⟩:=F.fn_Lwithin
 have nd0:=sc_Lakin.nd
 exact fn_ok (k:=1) G.fn sc_Lakin fun cdv A outer s H E hr=>(s_one (s_ret (e_or (e_call (ok_Lwithin F G_Lwithin) (hr.mono (by decide)) rfl G_Lwithin.mg G_Lwithin.fn.kp G_Lwithin.b (a_cons (e_ix (e_loc 0) (e_loc 1)) (a_cons (e_ix (e_loc 0) (e_loc 2)) a_nil))) (e_one (e_call (ok_Lwithin F G_Lwithin) (hr.mono (by decide)) rfl G_Lwithin.mg G_Lwithin.fn.kp G_Lwithin.b (a_cons (e_ix (e_loc 0) (e_loc 2)) (a_cons (e_ix (e_loc 0) (e_loc 1)) a_nil)))))))
theorem sc_Lmost:FnScope ["_law_heap_here","_law_rows","_law_place","_law_row"] ["_law_heap_here"] (defScope (top 38)):=⟨rfl,rfl,rfl,by decide +kernel,rfl,by decide +kernel,by decide +kernel⟩
theorem ok_Lmost (F:Fns K mg) {f:Addr} {fd:FuncData} (G:Gd K mg "_law_most" (top 38) ["_law_heap_here"] f fd):FnOk P w K mg base CX0 3 f fd ["_law_heap_here"] (spI K f_Lmost):=by
 obtain ⟨_,_,G_Lakin⟩:=F.fn_Lakin
 have nd1:(["_law_one","_law_heap_here","_law_place"]:List Str).Nodup:=by decide +kernel
 have nd2:(["_law_row"]:List Str).Nodup:=by decide +kernel
 have nd0:=sc_Lmost.nd
 exact fn_ok (k:=2) G.fn sc_Lmost fun cdv A outer s H E hr=>(s_cons (s_set 1 nd0 (e_new (a_cons (e_tup a_nil) a_nil))) (s_cons (s_for PassesOwn.never rfl (i_rng1 rfl F.bl_range (a_cons (e_callB c_len rfl F.bl_len b_len (a_cons (e_loc 0) a_nil)) a_nil)) (g_name 2 nd0) (s_one (s_for PassesOwn.never rfl (i_seq (e_callTy c_list rfl F.bl_list b_list (a_cons (e_loc 1) a_nil))) (g_name 3 nd0) (s_one (s_if (t_cmp (o_eq hr) (e_compD (N:=["_law_one","_law_heap_here","_law_place"]) (nt:=1) (cap:=[0,2]) rfl (ds_of (by kernel_rfl)) (tg_name 0) (i_seq (e_loc 3)) (fun cl C s H ex pn=>⟨(pg_name (i:=0) nd1 rfl (Or.inl rfl)),(f_one (t_tru (e_call (ok_Lakin F G_Lakin) (hr.mono (by decide)) rfl G_Lakin.mg G_Lakin.fn.kp G_Lakin.b (a_cons (e_loc 1) (a_cons (e_loc 0) (a_cons (e_loc 2) a_nil)))))),(e_loc 0)⟩)) (e_lst a_nil) (nomark _)) (s_one (s_expr (e_app (e_loc 1) (e_bin o_add (e_loc 3) (e_tup (a_cons (e_loc 2) a_nil)))))) s_nil))))) (s_one (s_ret (e_callB (c_max hr rfl) rfl F.bl_max b_max (a_cons (e_compD (N:=["_law_row"]) (nt:=1) (cap:=[]) rfl (ds_of (by kernel_rfl)) (tg_name 0) (i_seq (e_frz (e_loc 1))) (fun cl C s H ex pn=>⟨(pg_name (i:=0) nd2 rfl (Or.inl rfl)),f_nil,(e_callB c_len rfl F.bl_len b_len (a_cons (e_loc 0) a_nil))⟩)) a_nil))))))
theorem sc_Lsame:FnScope ["_law_told","_law_due"] ["_law_told","_law_due"] (defScope (top 34)):=⟨rfl,rfl,rfl,by decide +kernel,rfl,by decide +kernel,by decide +kernel⟩
theorem ok_Lsame (F:Fns K mg) {f:Addr} {fd:FuncData} (G:Gd K mg "_law_same" (top 34) ["_law_told","_law_due"] f fd):∀n,FnOk P w K mg base CX0 (1+n) f fd ["_law_told","_law_due"] (spI K (f_Lsame n))
 |0=>fn_no fun _ _=>rfl
 |n+1=>by
  have nd1:(["_law_one","_law_other"]:List Str).Nodup:=by decide +kernel
  have nd0:=sc_Lsame.nd
  have ih:=ok_Lsame F G n
  exact fn_ok G.fn sc_Lsame fun cdv A outer s H E hr=>(s_cons (s_if (t_tru (e_isiLT (e_loc 1) rfl F.bl_isinstance b_isinstance (pe_bltn rfl F.bl_tuple b_tuple rfl) (pe_bltn rfl F.bl_list b_list rfl))) (s_cons (s_if (PW.pt (w_or (t_cmp (o_ne hr) (e_callB c_isi rfl F.bl_isinstance b_isinstance (a_cons (e_loc 0) (a_cons (e_ty b_list rfl F.bl_list) a_nil))) (e_callB c_isi rfl F.bl_isinstance b_isinstance (a_cons (e_loc 1) (a_cons (e_ty b_list rfl F.bl_list) a_nil))) (nomark _)) (w_or1 (t_cmp (o_ne hr) (e_callB c_isi rfl F.bl_isinstance b_isinstance (a_cons (e_loc 0) (a_cons (e_ty b_tuple rfl F.bl_tuple) a_nil))) (e_callB c_isi rfl F.bl_isinstance b_isinstance (a_cons (e_loc 1) (a_cons (e_ty b_tuple rfl F.bl_tuple) a_nil))) (nomark _))))) (s_one (s_ret e_bl)) s_nil) (s_cons (s_if (t_cmp (o_ne hr) (e_callB c_len rfl F.bl_len b_len (a_cons (e_loc 0) a_nil)) (e_callB c_len rfl F.bl_len b_len (a_cons (e_loc 1) a_nil)) (nomark _)) (s_one (s_ret e_bl)) s_nil) (s_one (s_ret (e_cmp (o_notIn hr) e_bl (e_compD (N:=["_law_one","_law_other"]) (nt:=2) (cap:=[]) rfl (ds_of (by kernel_rfl)) (tg_tup (tgs_cons 0 (tgs_cons 1 tgs_nil))) (i_zip rfl F.bl_zip (a_cons (e_loc 0) (a_cons (e_loc 1) a_nil))) (fun cl C s H ex pn=>⟨(pg_tup rfl (pgs_cons (pg_name (i:=0) nd1 rfl (Or.inl rfl)) (pgs_cons (pg_name (i:=1) nd1 rfl (Or.inl rfl)) pgs_nil))),f_nil,(e_call ih hr rfl G.mg G.fn.kp G.b (a_cons (e_loc 0) (a_cons (e_loc 1) a_nil)))⟩)) rfl))))) s_nil) (s_one (s_ret (e_and (e_cmp (o_eq hr) (e_callB c_isi rfl F.bl_isinstance b_isinstance (a_cons (e_loc 0) (a_cons (e_ty b_bool rfl F.bl_bool) a_nil))) (e_callB c_isi rfl F.bl_isinstance b_isinstance (a_cons (e_loc 1) (a_cons (e_ty b_bool rfl F.bl_bool) a_nil))) (nomark _)) (e_one (e_cmp (o_eq hr) (e_loc 0) (e_loc 1) (nomark _)))))))
theorem sc_is_rising:FnScope ["things"] ["things"] (defScope (top 8)):=⟨rfl,rfl,rfl,by decide +kernel,rfl,by decide +kernel,by decide +kernel⟩
theorem ok_is_rising (F:Fns K mg) {f:Addr} {fd:FuncData} (G:Gd K mg "is_rising" (top 8) ["things"] f fd):FnOk P w K mg base CX0 1 f fd ["things"] (spI K f_is_rising):=by
 have nd1:(["ahead","behind"]:List Str).Nodup:=by decide +kernel
 have nd0:=sc_is_rising.nd
 exact fn_ok (k:=0) G.fn sc_is_rising fun cdv A outer s H E hr=>(s_one (s_ret (e_callB (c_all rfl) rfl F.bl_all b_all (a_cons (e_compD (N:=["ahead","behind"]) (nt:=2) (cap:=[]) rfl (ds_of (by kernel_rfl)) (tg_tup (tgs_cons 0 (tgs_cons 1 tgs_nil))) (i_zip rfl F.bl_zip (a_cons (e_loc 0) (a_cons (e_sl (e_loc 0) (p_int e_int) p_no) a_nil))) (fun cl C s H ex pn=>⟨(pg_tup rfl (pgs_cons (pg_name (i:=0) nd1 rfl (Or.inl rfl)) (pgs_cons (pg_name (i:=1) nd1 rfl (Or.inl rfl)) pgs_nil))),f_nil,(e_cmp (o_lt hr) (e_loc 0) (e_loc 1) (nomark _))⟩)) a_nil))))
theorem sc_is_number:FnScope ["thing"] ["thing"] (defScope (top 5)):=⟨rfl,rfl,rfl,by decide +kernel,rfl,by decide +kernel,by decide +kernel⟩
theorem ok_is_number (F:Fns K mg) {f:Addr} {fd:FuncData} (G:Gd K mg "is_number" (top 5) ["thing"] f fd):FnOk P w K mg base CX0 1 f fd ["thing"] (spI K f_is_number):=by
 have nd0:=sc_is_number.nd
 exact fn_ok (k:=0) G.fn sc_is_number fun cdv A outer s H E hr=>(s_one (s_ret (e_and (e_callB c_isi rfl F.bl_isinstance b_isinstance (a_cons (e_loc 0) (a_cons (e_ty b_int rfl F.bl_int) a_nil))) (e_and (e_not (e_callB c_isi rfl F.bl_isinstance b_isinstance (a_cons (e_loc 0) (a_cons (e_ty b_bool rfl F.bl_bool) a_nil)))) (e_one (e_cmp o_ge (e_loc 0) e_int (nomark _)))))))
theorem sc_is_below:FnScope ["thing","many"] ["thing","many"] (defScope (top 6)):=⟨rfl,rfl,rfl,by decide +kernel,rfl,by decide +kernel,by decide +kernel⟩
theorem ok_is_below (F:Fns K mg) {f:Addr} {fd:FuncData} (G:Gd K mg "is_below" (top 6) ["thing","many"] f fd):FnOk P w K mg base CX0 2 f fd ["thing","many"] (spI K f_is_below):=by
 obtain ⟨_,_,G_is_number⟩:=F.fn_is_number
 have nd0:=sc_is_below.nd
 exact fn_ok (k:=1) G.fn sc_is_below fun cdv A outer s H E hr=>(s_one (s_ret (e_and (e_call (ok_is_number F G_is_number) (hr.mono (by decide)) rfl G_is_number.mg G_is_number.fn.kp G_is_number.b (a_cons (e_loc 0) a_nil)) (e_one (e_cmp (o_lt hr) (e_loc 0) (e_loc 1) (nomark _))))))
theorem sc_is_mark:FnScope ["thing"] ["thing"] (defScope (top 7)):=⟨rfl,rfl,rfl,by decide +kernel,rfl,by decide +kernel,by decide +kernel⟩
theorem ok_is_mark (F:Fns K mg) {f:Addr} {fd:FuncData} (G:Gd K mg "is_mark" (top 7) ["thing"] f fd):FnOk P w K mg base CX0 3 f fd ["thing"] (spI K f_is_mark):=by
 obtain ⟨_,_,G_is_below⟩:=F.fn_is_below
 have nd0:=sc_is_mark.nd
 exact fn_ok (k:=2) G.fn sc_is_mark fun cdv A outer s H E hr=>(s_one (s_ret (e_call (ok_is_below F G_is_below) (hr.mono (by decide)) rfl G_is_below.mg G_is_below.fn.kp G_is_below.b (a_cons (e_loc 0) (a_cons (e_gi F.gi_MARKS rfl) a_nil)))))
theorem sc_are_marks:FnScope ["thing"] ["thing"] (defScope (top 10)):=⟨rfl,rfl,rfl,by decide +kernel,rfl,by decide +kernel,by decide +kernel⟩
theorem ok_are_marks (F:Fns K mg) {f:Addr} {fd:FuncData} (G:Gd K mg "are_marks" (top 10) ["thing"] f fd):FnOk P w K mg base CX0 4 f fd ["thing"] (spI K f_are_marks):=by
 obtain ⟨_,_,G_is_mark⟩:=F.fn_is_mark
 obtain ⟨_,_,G_is_rising⟩:=F.fn_is_rising
 have nd1:(["mark"]:List Str).Nodup:=by decide +kernel
 have nd0:=sc_are_marks.nd
 exact fn_ok (k:=3) G.fn sc_are_marks fun cdv A outer s H E hr=>(s_one (s_ret (e_and (e_callB c_isi rfl F.bl_isinstance b_isinstance (a_cons (e_loc 0) (a_cons (e_ty b_tuple rfl F.bl_tuple) a_nil))) (e_and (e_callB (c_all rfl) rfl F.bl_all b_all (a_cons (e_compD (N:=["mark"]) (nt:=1) (cap:=[]) rfl (ds_of (by kernel_rfl)) (tg_name 0) (i_seq (e_loc 0)) (fun cl C s H ex pn=>⟨(pg_name (i:=0) nd1 rfl (Or.inl rfl)),f_nil,(e_call (ok_is_mark F G_is_mark) (hr.mono (by decide)) rfl G_is_mark.mg G_is_mark.fn.kp G_is_mark.b (a_cons (e_loc 0) a_nil))⟩)) a_nil)) (e_one (e_call (ok_is_rising F G_is_rising) (hr.mono (by decide)) rfl G_is_rising.mg G_is_rising.fn.kp G_is_rising.b (a_cons (e_loc 0) a_nil)))))))
theorem sc_are_laid_marks:FnScope ["thing","most"] ["thing","most"] (defScope (top 12)):=⟨rfl,rfl,rfl,by decide +kernel,rfl,by decide +kernel,by decide +kernel⟩
theorem ok_are_laid_marks (F:Fns K mg) {f:Addr} {fd:FuncData} (G:Gd K mg "are_laid_marks" (top 12) ["thing","most"] f fd):FnOk P w K mg base CX0 5 f fd ["thing","most"] (spI K f_are_laid_marks):=by
 obtain ⟨_,_,G_are_marks⟩:=F.fn_are_marks
 have nd1:(["marks"]:List Str).Nodup:=by decide +kernel
 have nd0:=sc_are_laid_marks.nd
 exact fn_ok (k:=4) G.fn sc_are_laid_marks fun cdv A outer s H E hr=>(s_one (s_ret (e_and (e_callB c_isi rfl F.bl_isinstance b_isinstance (a_cons (e_loc 0) (a_cons (e_ty b_tuple rfl F.bl_tuple) a_nil))) (e_and (e_chain o_le o_le e_int (e_callB c_len rfl F.bl_len b_len (a_cons (e_loc 0) a_nil)) (e_loc 1)) (e_one (e_callB (c_all rfl) rfl F.bl_all b_all (a_cons (e_compD (N:=["marks"]) (nt:=1) (cap:=[]) rfl (ds_of (by kernel_rfl)) (tg_name 0) (i_seq (e_loc 0)) (fun cl C s H ex pn=>⟨(pg_name (i:=0) nd1 rfl (Or.inl rfl)),f_nil,(e_call (ok_are_marks F G_are_marks) (hr.mono (by decide)) rfl G_are_marks.mg G_are_marks.fn.kp G_are_marks.b (a_cons (e_loc 0) a_nil))⟩)) a_nil)))))))
theorem sc_need_heap:FnScope ["thing"] ["thing"] (defScope (top 20)):=⟨rfl,rfl,rfl,by decide +kernel,rfl,by decide +kernel,by decide +kernel⟩
theorem ok_need_heap (F:Fns K mg) {f:Addr} {fd:FuncData} (G:Gd K mg "need_heap" (top 20) ["thing"] f fd):FnOk P w K mg base CX0 6 f fd ["thing"] (spI K f_need_heap):=by
 obtain ⟨_,_,G_are_laid_marks⟩:=F.fn_are_laid_marks
 have nd0:=sc_need_heap.nd
 exact fn_ok (k:=5) G.fn sc_need_heap fun cdv A outer s H E hr=>(s_one (s_if (t_not (t_tru (e_call (ok_are_laid_marks F G_are_laid_marks) (hr.mono (by decide)) rfl G_are_laid_marks.mg G_are_laid_marks.fn.kp G_are_laid_marks.b (a_cons (e_loc 0) (a_cons (e_gi F.gi_HEAP rfl) a_nil))))) ss_never s_nil))
theorem sc_has_all:FnScope ["marks","others"] ["marks","others"] (defScope (top 11)):=⟨rfl,rfl,rfl,by decide +kernel,rfl,by decide +kernel,by decide +kernel⟩
theorem ok_has_all (F:Fns K mg) {f:Addr} {fd:FuncData} (G:Gd K mg "has_all" (top 11) ["marks","others"] f fd):FnOk P w K mg base CX0 1 f fd ["marks","others"] (spI K f_has_all):=by
 have nd1:(["mark","marks"]:List Str).Nodup:=by decide +kernel
 have nd0:=sc_has_all.nd
 exact fn_ok (k:=0) G.fn sc_has_all fun cdv A outer s H E hr=>(s_one (s_ret (e_callB (c_all rfl) rfl F.bl_all b_all (a_cons (e_compD (N:=["mark","marks"]) (nt:=1) (cap:=[0]) rfl (ds_of (by kernel_rfl)) (tg_name 0) (i_seq (e_loc 1)) (fun cl C s H ex pn=>⟨(pg_name (i:=0) nd1 rfl (Or.inl rfl)),f_nil,(e_cmp (o_in hr) (e_loc 0) (e_loc 1) rfl)⟩)) a_nil))))
theorem sc_may_follow:FnScope ["heap","place","other"] ["heap","place","other"] (defScope (top 27)):=⟨rfl,rfl,rfl,by decide +kernel,rfl,by decide +kernel,by decide +kernel⟩
theorem ok_may_follow (F:Fns K mg) {f:Addr} {fd:FuncData} (G:Gd K mg "may_follow" (top 27) ["heap","place","other"] f fd):FnOk P w K mg base CX0 2 f fd ["heap","place","other"] (spI K f_may_follow):=by
 obtain ⟨_,_,G_has_all⟩:=F.fn_has_all
 have nd0:=sc_may_follow.nd
 exact fn_ok (k:=1) G.fn sc_may_follow fun cdv A outer s H E hr=>(s_one (s_ret (e_and (e_call (ok_has_all F G_has_all) (hr.mono (by decide)) rfl G_has_all.mg G_has_all.fn.kp G_has_all.b (a_cons (e_ix (e_loc 0) (e_loc 2)) (a_cons (e_ix (e_loc 0) (e_loc 1)) a_nil))) (e_one (e_or (e_cmp (o_ne hr) (e_ix (e_loc 0) (e_loc 2)) (e_ix (e_loc 0) (e_loc 1)) (nomark _)) (e_one (e_cmp (o_lt hr) (e_loc 1) (e_loc 2) (nomark _))))))))
theorem sc_find_behind:FnScope ["heap","place","ahead","tried","other"] ["heap","place","ahead","tried"] (defScope (top 26)):=⟨rfl,rfl,rfl,by decide +kernel,rfl,by decide +kernel,by decide +kernel⟩
theorem ok_find_behind (F:Fns K mg) {f:Addr} {fd:FuncData} (G:Gd K mg "find_behind" (top 26) ["heap","place","ahead","tried"] f fd):∀n,FnOk P w K mg base CX0 (3+n) f fd ["heap","place","ahead","tried"] (spI K (f_find_behind n))
 |0=>fn_no fun _ _=>rfl
 |n+1=>by
  obtain ⟨_,_,G_may_follow⟩:=F.fn_may_follow
  have nd0:=sc_find_behind.nd
  have ih:=ok_find_behind F G n
  exact fn_ok G.fn sc_find_behind fun cdv A outer s H E hr=>(s_cons (s_for PassesOwn.never rfl (i_rng1 rfl F.bl_range (a_cons (e_callB c_len rfl F.bl_len b_len (a_cons (e_loc 0) a_nil)) a_nil)) (g_name 4 nd0) (s_one (s_if (PW.pt (w_and (t_cmp (o_notInD hr) (e_loc 4) (e_loc 3) rfl) (w_and1 (t_tru (e_call (ok_may_follow F G_may_follow) (hr.mono (by simp only [Nat.add_eq];omega)) rfl G_may_follow.mg G_may_follow.fn.kp G_may_follow.b (a_cons (e_loc 0) (a_cons (e_loc 1) (a_cons (e_loc 4) a_nil)))))))) (s_cons (s_put hr e_bl (e_loc 3) (e_loc 4)) (s_one (s_if (PW.pt (w_or (t_cmp (o_notInD hr) (e_loc 4) (e_loc 2) rfl) (w_or1 (t_tru (e_call ih hr rfl G.mg G.fn.kp G.b (a_cons (e_loc 0) (a_cons (e_get hr (e_loc 2) (e_loc 4)) (a_cons (e_loc 2) (a_cons (e_loc 3) a_nil))))))))) (s_cons (s_put hr (e_loc 1) (e_loc 2) (e_loc 4)) (s_one (s_ret e_bl))) s_nil))) s_nil))) (s_one (s_ret e_bl)))
theorem sc_places_ahead:FnScope ["heap","ahead","place"] ["heap"] (defScope (top 25)):=⟨rfl,rfl,rfl,by decide +kernel,rfl,by decide +kernel,by decide +kernel⟩
theorem ok_places_ahead (F:Fns K mg) {f:Addr} {fd:FuncData} (G:Gd K mg "places_ahead" (top 25) ["heap"] f fd):FnOk P w K mg base CX0 16 f fd ["heap"] (spI K f_places_ahead):=by
 obtain ⟨_,_,G_find_behind⟩:=F.fn_find_behind
 have nd0:=sc_places_ahead.nd
 exact fn_ok (k:=15) G.fn sc_places_ahead fun cdv A outer s H E hr=>(s_cons (s_set 1 nd0 e_newD) (s_cons (s_for PassesOwn.never rfl (i_rng1 rfl F.bl_range (a_cons (e_callB c_len rfl F.bl_len b_len (a_cons (e_loc 0) a_nil)) a_nil)) (g_name 2 nd0) (s_one (s_expr (e_call (ok_find_behind F G_find_behind 12) (hr.mono (by decide)) rfl G_find_behind.mg G_find_behind.fn.kp G_find_behind.b (a_cons (e_loc 0) (a_cons (e_loc 2) (a_cons (e_loc 1) (a_cons e_newD a_nil)))))))) (s_one (s_ret (e_loc 1)))))
theorem sc_row_from:FnScope ["place","behind","row"] ["place","behind"] (defScope (top 28)):=⟨rfl,rfl,rfl,by decide +kernel,rfl,by decide +kernel,by decide +kernel⟩
theorem ok_row_from (F:Fns K mg) {f:Addr} {fd:FuncData} (G:Gd K mg "row_from" (top 28) ["place","behind"] f fd):FnOk P w K mg base CX0 1 f fd ["place","behind"] (spI K f_row_from):=by
 have nd0:=sc_row_from.nd
 exact fn_ok (k:=0) G.fn sc_row_from fun cdv A outer s H E hr=>(s_cons (s_set 2 nd0 (e_new (a_cons (e_loc 0) a_nil))) (s_cons (s_whl 20 PassesOwn.never (t_cmp (o_inD hr) (e_ix (e_loc 2) (e_un o_neg e_int)) (e_loc 1) rfl) (s_one (s_expr (e_app (e_loc 2) (e_get hr (e_loc 1) (e_ix (e_loc 2) (e_un o_neg e_int))))))) (s_one (s_ret (e_callTy c_tuple rfl F.bl_tuple b_tuple (a_cons (e_loc 2) a_nil))))))
theorem sc_rows_of:FnScope ["heap","ahead","behind"] ["heap"] (defScope (top 18)):=⟨rfl,rfl,rfl,by decide +kernel,rfl,by decide +kernel,by decide +kernel⟩
theorem ok_rows_of (F:Fns K mg) {f:Addr} {fd:FuncData} (G:Gd K mg "rows_of" (top 18) ["heap"] f fd):FnOk P w K mg base CX0 17 f fd ["heap"] (spI K f_rows_of):=by
 obtain ⟨_,_,G_need_heap⟩:=F.fn_need_heap
 obtain ⟨_,_,G_places_ahead⟩:=F.fn_places_ahead
 obtain ⟨_,_,G_row_from⟩:=F.fn_row_from
 have nd1:(["place","behind","ahead"]:List Str).Nodup:=by decide +kernel
 have nd0:=sc_rows_of.nd
 exact fn_ok (k:=16) G.fn sc_rows_of fun cdv A outer s H E hr=>(s_cons (s_expr (e_call (ok_need_heap F G_need_heap) (hr.mono (by decide)) rfl G_need_heap.mg G_need_heap.fn.kp G_need_heap.b (a_cons (e_loc 0) a_nil))) (s_cons (s_set 1 nd0 (e_call (ok_places_ahead F G_places_ahead) (hr.mono (by decide)) rfl G_places_ahead.mg G_places_ahead.fn.kp G_places_ahead.b (a_cons (e_loc 0) a_nil))) (s_cons (s_set 2 nd0 (e_drev 1 (N:=["place","ahead"]) (cap:=[1]) hr rfl (cs_of (by kernel_rfl)))) (s_one (s_ret (e_callTy c_tuple rfl F.bl_tuple b_tuple (a_cons (e_compD (N:=["place","behind","ahead"]) (nt:=1) (cap:=[2,1]) rfl (ds_of (by kernel_rfl)) (tg_name 0) (i_rng1 rfl F.bl_range (a_cons (e_callB c_len rfl F.bl_len b_len (a_cons (e_loc 0) a_nil)) a_nil)) (fun cl C s H ex pn=>⟨(pg_name (i:=0) nd1 rfl (Or.inl rfl)),(f_one (t_cmp (o_notInD hr) (e_loc 0) (e_loc 2) rfl)),(e_call (ok_row_from F G_row_from) (hr.mono (by decide)) rfl G_row_from.mg G_row_from.fn.kp G_row_from.b (a_cons (e_loc 0) (a_cons (e_loc 1) a_nil)))⟩)) a_nil)))))))
theorem sc_is_strange:FnScope ["heap","places","place","marks"] ["heap","places","place"] (defScope (top 23)):=⟨rfl,rfl,rfl,by decide +kernel,rfl,by decide +kernel,by decide +kernel⟩
theorem ok_is_strange (F:Fns K mg) {f:Addr} {fd:FuncData} (G:Gd K mg "is_strange" (top 23) ["heap","places","place"] f fd):FnOk P w K mg base CX0 2 f fd ["heap","places","place"] (spI K f_is_strange):=by
 obtain ⟨_,_,G_has_all⟩:=F.fn_has_all
 have nd1:(["other","marks","heap"]:List Str).Nodup:=by decide +kernel
 have nd0:=sc_is_strange.nd
 exact fn_ok (k:=1) G.fn sc_is_strange fun cdv A outer s H E hr=>(s_cons (s_set 3 nd0 (e_ix (e_loc 0) (e_loc 2))) (s_one (s_ret (e_not (e_callB (c_any rfl) rfl F.bl_any b_any (a_cons (e_compD (N:=["other","marks","heap"]) (nt:=1) (cap:=[3,0]) rfl (ds_of (by kernel_rfl)) (tg_name 0) (i_seq (e_loc 1)) (fun cl C s H ex pn=>⟨(pg_name (i:=0) nd1 rfl (Or.inl rfl)),f_nil,(e_or (e_call (ok_has_all F G_has_all) (hr.mono (by decide)) rfl G_has_all.mg G_has_all.fn.kp G_has_all.b (a_cons (e_loc 1) (a_cons (e_ix (e_loc 2) (e_loc 0)) a_nil))) (e_one (e_call (ok_has_all F G_has_all) (hr.mono (by decide)) rfl G_has_all.mg G_has_all.fn.kp G_has_all.b (a_cons (e_ix (e_loc 2) (e_loc 0)) (a_cons (e_loc 1) a_nil)))))⟩)) a_nil))))))
theorem sc_most_strangers:FnScope ["heap","told","place"] ["heap"] (defScope (top 24)):=⟨rfl,rfl,rfl,by decide +kernel,rfl,by decide +kernel,by decide +kernel⟩
theorem ok_most_strangers (F:Fns K mg) {f:Addr} {fd:FuncData} (G:Gd K mg "most_strangers" (top 24) ["heap"] f fd):FnOk P w K mg base CX0 4 f fd ["heap"] (spI K f_most_strangers):=by
 obtain ⟨_,_,G_is_strange⟩:=F.fn_is_strange
 have nd1:(["places","place","heap"]:List Str).Nodup:=by decide +kernel
 have nd0:=sc_most_strangers.nd
 exact fn_ok (k:=3) G.fn sc_most_strangers fun cdv A outer s H E hr=>(s_cons (s_set 1 nd0 (e_lst (a_cons (e_tup a_nil) a_nil))) (s_cons (s_for PassesOwn.never rfl (i_rng1 rfl F.bl_range (a_cons (e_callB c_len rfl F.bl_len b_len (a_cons (e_loc 0) a_nil)) a_nil)) (g_name 2 nd0) (s_one (s_set 1 nd0 (e_bin o_add (e_loc 1) (e_compD (N:=["places","place","heap"]) (nt:=1) (cap:=[2,0]) rfl (ds_of (by kernel_rfl)) (tg_name 0) (i_seq (e_loc 1)) (fun cl C s H ex pn=>⟨(pg_name (i:=0) nd1 rfl (Or.inl rfl)),(f_one (t_tru (e_call (ok_is_strange F G_is_strange) (hr.mono (by decide)) rfl G_is_strange.mg G_is_strange.fn.kp G_is_strange.b (a_cons (e_loc 2) (a_cons (e_loc 0) (a_cons (e_loc 1) a_nil)))))),(e_bin o_add (e_loc 0) (e_tup (a_cons (e_loc 1) a_nil)))⟩)))))) (s_one (s_ret (e_maxLen (e_loc 1) rfl rfl F.bl_max rfl F.bl_len)))))
theorem sc_strangers_of:FnScope ["heap"] ["heap"] (defScope (top 19)):=⟨rfl,rfl,rfl,by decide +kernel,rfl,by decide +kernel,by decide +kernel⟩
theorem ok_strangers_of (F:Fns K mg) {f:Addr} {fd:FuncData} (G:Gd K mg "strangers_of" (top 19) ["heap"] f fd):FnOk P w K mg base CX0 7 f fd ["heap"] (spI K f_strangers_of):=by
 obtain ⟨_,_,G_need_heap⟩:=F.fn_need_heap
 obtain ⟨_,_,G_most_strangers⟩:=F.fn_most_strangers
 have nd0:=sc_strangers_of.nd
 exact fn_ok (k:=6) G.fn sc_strangers_of fun cdv A outer s H E hr=>(s_cons (s_expr (e_call (ok_need_heap F G_need_heap) (hr.mono (by decide)) rfl G_need_heap.mg G_need_heap.fn.kp G_need_heap.b (a_cons (e_loc 0) a_nil))) (s_one (s_ret (e_call (ok_most_strangers F G_most_strangers) (hr.mono (by decide)) rfl G_most_strangers.mg G_most_strangers.fn.kp G_most_strangers.b (a_cons (e_loc 0) a_nil)))))
theorem sc_are_places:FnScope ["heap","thing"] ["heap","thing"] (defScope (top 21)):=⟨rfl,rfl,rfl,by decide +kernel,rfl,by decide +kernel,by decide +kernel⟩
theorem ok_are_places (F:Fns K mg) {f:Addr} {fd:FuncData} (G:Gd K mg "are_places" (top 21) ["heap","thing"] f fd):FnOk P w K mg base CX0 3 f fd ["heap","thing"] (spI K f_are_places):=by
 obtain ⟨_,_,G_is_below⟩:=F.fn_is_below
 have nd1:(["place","heap"]:List Str).Nodup:=by decide +kernel
 have nd0:=sc_are_places.nd
 exact fn_ok (k:=2) G.fn sc_are_places fun cdv A outer s H E hr=>(s_one (s_ret (e_and (e_callB c_isi rfl F.bl_isinstance b_isinstance (a_cons (e_loc 1) (a_cons (e_ty b_tuple rfl F.bl_tuple) a_nil))) (e_one (e_callB (c_all rfl) rfl F.bl_all b_all (a_cons (e_compD (N:=["place","heap"]) (nt:=1) (cap:=[0]) rfl (ds_of (by kernel_rfl)) (tg_name 0) (i_seq (e_loc 1)) (fun cl C s H ex pn=>⟨(pg_name (i:=0) nd1 rfl (Or.inl rfl)),f_nil,(e_call (ok_is_below F G_is_below) (hr.mono (by decide)) rfl G_is_below.mg G_is_below.fn.kp G_is_below.b (a_cons (e_loc 0) (a_cons (e_callB c_len rfl F.bl_len b_len (a_cons (e_loc 1) a_nil)) a_nil)))⟩)) a_nil))))))
theorem sc_is_row:FnScope ["heap","thing"] ["heap","thing"] (defScope (top 22)):=⟨rfl,rfl,rfl,by decide +kernel,rfl,by decide +kernel,by decide +kernel⟩
theorem ok_is_row (F:Fns K mg) {f:Addr} {fd:FuncData} (G:Gd K mg "is_row" (top 22) ["heap","thing"] f fd):FnOk P w K mg base CX0 4 f fd ["heap","thing"] (spI K f_is_row):=by
 obtain ⟨_,_,G_are_places⟩:=F.fn_are_places
 obtain ⟨_,_,G_has_all⟩:=F.fn_has_all
 have nd1:(["ahead","behind","heap"]:List Str).Nodup:=by decide +kernel
 have nd0:=sc_is_row.nd
 exact fn_ok (k:=3) G.fn sc_is_row fun cdv A outer s H E hr=>(s_one (s_ret (e_and (e_call (ok_are_places F G_are_places) (hr.mono (by decide)) rfl G_are_places.mg G_are_places.fn.kp G_are_places.b (a_cons (e_loc 0) (a_cons (e_loc 1) a_nil))) (e_and (e_cmp o_gt (e_callB c_len rfl F.bl_len b_len (a_cons (e_loc 1) a_nil)) e_int (nomark _)) (e_one (e_callB (c_all rfl) rfl F.bl_all b_all (a_cons (e_compD (N:=["ahead","behind","heap"]) (nt:=2) (cap:=[0]) rfl (ds_of (by kernel_rfl)) (tg_tup (tgs_cons 0 (tgs_cons 1 tgs_nil))) (i_zip rfl F.bl_zip (a_cons (e_loc 1) (a_cons (e_sl (e_loc 1) (p_int e_int) p_no) a_nil))) (fun cl C s H ex pn=>⟨(pg_tup rfl (pgs_cons (pg_name (i:=0) nd1 rfl (Or.inl rfl)) (pgs_cons (pg_name (i:=1) nd1 rfl (Or.inl rfl)) pgs_nil))),f_nil,(e_call (ok_has_all F G_has_all) (hr.mono (by decide)) rfl G_has_all.mg G_has_all.fn.kp G_has_all.b (a_cons (e_ix (e_loc 2) (e_loc 1)) (a_cons (e_ix (e_loc 2) (e_loc 0)) a_nil)))⟩)) a_nil)))))))
theorem sc_are_rows:FnScope ["heap","thing"] ["heap","thing"] (defScope (top 15)):=⟨rfl,rfl,rfl,by decide +kernel,rfl,by decide +kernel,by decide +kernel⟩
theorem ok_are_rows (F:Fns K mg) {f:Addr} {fd:FuncData} (G:Gd K mg "are_rows" (top 15) ["heap","thing"] f fd):FnOk P w K mg base CX0 7 f fd ["heap","thing"] (spI K f_are_rows):=by
 obtain ⟨_,_,G_need_heap⟩:=F.fn_need_heap
 obtain ⟨_,_,G_is_row⟩:=F.fn_is_row
 have nd1:(["row","heap"]:List Str).Nodup:=by decide +kernel
 have nd2:(["row","place"]:List Str).Nodup:=by decide +kernel
 have nd0:=sc_are_rows.nd
 exact fn_ok (k:=6) G.fn sc_are_rows fun cdv A outer s H E hr=>(s_cons (s_expr (e_call (ok_need_heap F G_need_heap) (hr.mono (by decide)) rfl G_need_heap.mg G_need_heap.fn.kp G_need_heap.b (a_cons (e_loc 0) a_nil))) (s_cons (s_if (PW.pt (w_or (t_not (t_tru (e_callB c_isi rfl F.bl_isinstance b_isinstance (a_cons (e_loc 1) (a_cons (e_ty b_tuple rfl F.bl_tuple) a_nil))))) (w_or1 (t_not (t_tru (e_callB (c_all rfl) rfl F.bl_all b_all (a_cons (e_compD (N:=["row","heap"]) (nt:=1) (cap:=[0]) rfl (ds_of (by kernel_rfl)) (tg_name 0) (i_seq (e_loc 1)) (fun cl C s H ex pn=>⟨(pg_name (i:=0) nd1 rfl (Or.inl rfl)),f_nil,(e_call (ok_is_row F G_is_row) (hr.mono (by decide)) rfl G_is_row.mg G_is_row.fn.kp G_is_row.b (a_cons (e_loc 1) (a_cons (e_loc 0) a_nil)))⟩)) a_nil))))))) (s_one (s_ret e_bl)) s_nil) (s_one (s_ret (e_cmp (o_eq hr) (e_callB (c_sortI hr) rfl F.bl_sorted b_sorted (a_cons (e_comp2 (N:=["row","place"]) (nt:=2) (cap:=[]) rfl (cs_of (by kernel_rfl)) (tg_name 0) (sl_name 0) (tg_name 1) (sl_name 1) (i_seq (e_loc 1)) (fun cl C s H ex pn=>⟨(pg_name (i:=0) nd2 rfl (Or.inl rfl)),f_nil,(i_seq (e_loc 0)),(pg_name (i:=1) nd2 rfl (Or.inl rfl)),f_nil,(e_loc 1)⟩)) a_nil)) (e_listR (a_cons (e_callB c_len rfl F.bl_len b_len (a_cons (e_loc 0) a_nil)) a_nil) rfl rfl F.bl_list rfl F.bl_range) (nomark _))))))
theorem sc_are_strangers:FnScope ["heap","thing"] ["heap","thing"] (defScope (top 16)):=⟨rfl,rfl,rfl,by decide +kernel,rfl,by decide +kernel,by decide +kernel⟩
theorem ok_are_strangers (F:Fns K mg) {f:Addr} {fd:FuncData} (G:Gd K mg "are_strangers" (top 16) ["heap","thing"] f fd):FnOk P w K mg base CX0 7 f fd ["heap","thing"] (spI K f_are_strangers):=by
 obtain ⟨_,_,G_need_heap⟩:=F.fn_need_heap
 obtain ⟨_,_,G_are_places⟩:=F.fn_are_places
 obtain ⟨_,_,G_is_rising⟩:=F.fn_is_rising
 obtain ⟨_,_,G_is_strange⟩:=F.fn_is_strange
 have nd1:(["at","heap","thing"]:List Str).Nodup:=by decide +kernel
 have nd0:=sc_are_strangers.nd
 exact fn_ok (k:=6) G.fn sc_are_strangers fun cdv A outer s H E hr=>(s_cons (s_expr (e_call (ok_need_heap F G_need_heap) (hr.mono (by decide)) rfl G_need_heap.mg G_need_heap.fn.kp G_need_heap.b (a_cons (e_loc 0) a_nil))) (s_one (s_ret (e_and (e_call (ok_are_places F G_are_places) (hr.mono (by decide)) rfl G_are_places.mg G_are_places.fn.kp G_are_places.b (a_cons (e_loc 0) (a_cons (e_loc 1) a_nil))) (e_and (e_call (ok_is_rising F G_is_rising) (hr.mono (by decide)) rfl G_is_rising.mg G_is_rising.fn.kp G_is_rising.b (a_cons (e_loc 1) a_nil)) (e_one (e_callB (c_all rfl) rfl F.bl_all b_all (a_cons (e_compD (N:=["at","heap","thing"]) (nt:=1) (cap:=[0,1]) rfl (ds_of (by kernel_rfl)) (tg_name 0) (i_rng1 rfl F.bl_range (a_cons (e_callB c_len rfl F.bl_len b_len (a_cons (e_loc 1) a_nil)) a_nil)) (fun cl C s H ex pn=>⟨(pg_name (i:=0) nd1 rfl (Or.inl rfl)),f_nil,(e_call (ok_is_strange F G_is_strange) (hr.mono (by decide)) rfl G_is_strange.mg G_is_strange.fn.kp G_is_strange.b (a_cons (e_loc 1) (a_cons (e_sl (e_loc 2) p_no (p_int (e_loc 0))) (a_cons (e_ix (e_loc 2) (e_loc 0)) a_nil))))⟩)) a_nil))))))))
theorem sc_fewest:FnScope ["heap"] ["heap"] (defScope (top 17)):=⟨rfl,rfl,rfl,by decide +kernel,rfl,by decide +kernel,by decide +kernel⟩
theorem ok_fewest (F:Fns K mg) {f:Addr} {fd:FuncData} (G:Gd K mg "fewest" (top 17) ["heap"] f fd):FnOk P w K mg base CX0 7 f fd ["heap"] (spI K f_fewest):=by
 obtain ⟨_,_,G_need_heap⟩:=F.fn_need_heap
 obtain ⟨_,_,G_most_strangers⟩:=F.fn_most_strangers
 have nd0:=sc_fewest.nd
 exact fn_ok (k:=6) G.fn sc_fewest fun cdv A outer s H E hr=>(s_cons (s_expr (e_call (ok_need_heap F G_need_heap) (hr.mono (by decide)) rfl G_need_heap.mg G_need_heap.fn.kp G_need_heap.b (a_cons (e_loc 0) a_nil))) (s_one (s_ret (e_callB c_len rfl F.bl_len b_len (a_cons (e_call (ok_most_strangers F G_most_strangers) (hr.mono (by decide)) rfl G_most_strangers.mg G_most_strangers.fn.kp G_most_strangers.b (a_cons (e_loc 0) a_nil)) a_nil)))))
theorem sc_Lare_rows:FnScope ["_law_heap_here","_law_thing","_law_places","_law_row","_law_spot","_law_place"] ["_law_heap_here","_law_thing"] (defScope (top 39)):=⟨rfl,rfl,rfl,by decide +kernel,rfl,by decide +kernel,by decide +kernel⟩
theorem ok_Lare_rows (F:Fns K mg) {f:Addr} {fd:FuncData} (G:Gd K mg "_law_are_rows" (top 39) ["_law_heap_here","_law_thing"] f fd):FnOk P w K mg base CX0 2 f fd ["_law_heap_here","_law_thing"] (spI K f_Lare_rows):=by
 obtain ⟨_,_,G_Lwithin⟩:=F.fn_Lwithin
 have nd0:=sc_Lare_rows.nd
 exact fn_ok (k:=1) G.fn sc_Lare_rows fun cdv A outer s H E hr=>(s_cons (s_if (t_not (t_tru (e_callB c_isi rfl F.bl_isinstance b_isinstance (a_cons (e_loc 1) (a_cons (e_ty b_tuple rfl F.bl_tuple) a_nil))))) (s_one (s_ret e_bl)) s_nil) (s_cons (s_set 2 nd0 (e_new a_nil)) (s_cons (s_for PassesOwn.never rfl (i_seq (e_loc 1)) (g_name 3 nd0) (s_cons (s_if (PW.pt (w_or (t_not (t_tru (e_callB c_isi rfl F.bl_isinstance b_isinstance (a_cons (e_loc 3) (a_cons (e_ty b_tuple rfl F.bl_tuple) a_nil))))) (w_or1 (t_cmp (o_eq hr) (e_loc 3) (e_tup a_nil) (nomark _))))) (s_one (s_ret e_bl)) s_nil) (s_one (s_for PassesOwn.never rfl (i_enum rfl F.bl_enumerate (a_cons (e_loc 3) a_nil)) (g_tup rfl (gs_cons (g_name 4 nd0) (gs_cons (g_name 5 nd0) gs_nil))) (s_cons (s_if (PW.pt (w_or (t_not (t_tru (e_callB c_isi rfl F.bl_isinstance b_isinstance (a_cons (e_loc 5) (a_cons (e_ty b_int rfl F.bl_int) a_nil))))) (w_or (t_tru (e_callB c_isi rfl F.bl_isinstance b_isinstance (a_cons (e_loc 5) (a_cons (e_ty b_bool rfl F.bl_bool) a_nil)))) (w_or1 (t_not (t_chain o_le (o_lt hr) e_int (e_loc 5) (e_callB c_len rfl F.bl_len b_len (a_cons (e_loc 0) a_nil)))))))) (s_one (s_ret e_bl)) s_nil) (s_cons (s_if (PW.pt (w_and (t_cmp o_gt (e_loc 4) e_int (nomark _)) (w_and1 (t_not (t_tru (e_call (ok_Lwithin F G_Lwithin) (hr.mono (by decide)) rfl G_Lwithin.mg G_Lwithin.fn.kp G_Lwithin.b (a_cons (e_ix (e_loc 0) (e_ix (e_loc 3) (e_bin o_sub (e_loc 4) e_int))) (a_cons (e_ix (e_loc 0) (e_loc 5)) a_nil)))))))) (s_one (s_ret e_bl)) s_nil) (s_one (s_expr (e_app (e_loc 2) (e_loc 5)))))))))) (s_one (s_ret (e_cmp (o_eq hr) (e_callB (c_sortI hr) rfl F.bl_sorted b_sorted (a_cons (e_loc 2) a_nil)) (e_listR (a_cons (e_callB c_len rfl F.bl_len b_len (a_cons (e_loc 0) a_nil)) a_nil) rfl rfl F.bl_list rfl F.bl_range) (nomark _)))))))
theorem sc_Lare_strangers:FnScope ["_law_heap_here","_law_thing","_law_spot","_law_place"] ["_law_heap_here","_law_thing"] (defScope (top 40)):=⟨rfl,rfl,rfl,by decide +kernel,rfl,by decide +kernel,by decide +kernel⟩
theorem ok_Lare_strangers (F:Fns K mg) {f:Addr} {fd:FuncData} (G:Gd K mg "_law_are_strangers" (top 40) ["_law_heap_here","_law_thing"] f fd):FnOk P w K mg base CX0 3 f fd ["_law_heap_here","_law_thing"] (spI K f_Lare_strangers):=by
 obtain ⟨_,_,G_Lakin⟩:=F.fn_Lakin
 have nd1:(["_law_one","_law_heap_here","_law_place"]:List Str).Nodup:=by decide +kernel
 have nd0:=sc_Lare_strangers.nd
 exact fn_ok (k:=2) G.fn sc_Lare_strangers fun cdv A outer s H E hr=>(s_cons (s_if (t_not (t_tru (e_callB c_isi rfl F.bl_isinstance b_isinstance (a_cons (e_loc 1) (a_cons (e_ty b_tuple rfl F.bl_tuple) a_nil))))) (s_one (s_ret e_bl)) s_nil) (s_cons (s_for PassesOwn.never rfl (i_enum rfl F.bl_enumerate (a_cons (e_loc 1) a_nil)) (g_tup rfl (gs_cons (g_name 2 nd0) (gs_cons (g_name 3 nd0) gs_nil))) (s_cons (s_if (PW.pt (w_or (t_not (t_tru (e_callB c_isi rfl F.bl_isinstance b_isinstance (a_cons (e_loc 3) (a_cons (e_ty b_int rfl F.bl_int) a_nil))))) (w_or (t_tru (e_callB c_isi rfl F.bl_isinstance b_isinstance (a_cons (e_loc 3) (a_cons (e_ty b_bool rfl F.bl_bool) a_nil)))) (w_or1 (t_not (t_chain o_le (o_lt hr) e_int (e_loc 3) (e_callB c_len rfl F.bl_len b_len (a_cons (e_loc 0) a_nil)))))))) (s_one (s_ret e_bl)) s_nil) (s_cons (s_if (PW.pt (w_and (t_cmp o_gt (e_loc 2) e_int (nomark _)) (w_and1 (t_cmp o_ge (e_ix (e_loc 1) (e_bin o_sub (e_loc 2) e_int)) (e_loc 3) (nomark _))))) (s_one (s_ret e_bl)) s_nil) (s_one (s_if (t_cmp (o_ne hr) (e_compD (N:=["_law_one","_law_heap_here","_law_place"]) (nt:=1) (cap:=[0,3]) rfl (ds_of (by kernel_rfl)) (tg_name 0) (i_seq (e_sl (e_loc 1) p_no (p_int (e_loc 2)))) (fun cl C s H ex pn=>⟨(pg_name (i:=0) nd1 rfl (Or.inl rfl)),(f_one (t_tru (e_call (ok_Lakin F G_Lakin) (hr.mono (by decide)) rfl G_Lakin.mg G_Lakin.fn.kp G_Lakin.b (a_cons (e_loc 1) (a_cons (e_loc 0) (a_cons (e_loc 2) a_nil)))))),(e_loc 0)⟩)) (e_lst a_nil) (nomark _)) (s_one (s_ret e_bl)) s_nil))))) (s_one (s_ret e_bl))))
theorem sc_law:FnScope ["_law_script","_law_k","_law_state_here","_law_turn","_law_heap_here","_law_kept","_law_many","_law_lap","_law_rows","_law_strangers"] ["_law_script"] (defScope (top 41)):=⟨rfl,rfl,rfl,by decide +kernel,rfl,by decide +kernel,by decide +kernel⟩
theorem ok_law (F:Fns K mg) {f:Addr} {fd:FuncData} (G:Gd K mg "law" (top 41) ["_law_script"] f fd):FnOk P w K mg base CX0 18 f fd ["_law_script"] (spI K f_law):=by
 obtain ⟨_,_,G_Lstate⟩:=F.fn_Lstate
 obtain ⟨_,_,G_Lheap⟩:=F.fn_Lheap
 obtain ⟨_,_,G_Lmost⟩:=F.fn_Lmost
 obtain ⟨_,_,G_fewest⟩:=F.fn_fewest
 obtain ⟨_,_,G_Lsame⟩:=F.fn_Lsame
 obtain ⟨_,_,G_rows_of⟩:=F.fn_rows_of
 obtain ⟨_,_,G_strangers_of⟩:=F.fn_strangers_of
 obtain ⟨_,_,G_Lare_rows⟩:=F.fn_Lare_rows
 obtain ⟨_,_,G_Lare_strangers⟩:=F.fn_Lare_strangers
 obtain ⟨_,_,G_are_rows⟩:=F.fn_are_rows
 obtain ⟨_,_,G_are_strangers⟩:=F.fn_are_strangers
 have nd0:=sc_law.nd
 exact fn_ok (k:=17) G.fn sc_law fun cdv A outer s H E hr=>(s_cons (s_for PassesOwn.never rfl (i_rng1 rfl F.bl_range (a_cons (e_callB (c_max2 rfl) rfl F.bl_max b_max (a_cons e_int (a_cons (e_callB (c_min2 rfl) rfl F.bl_min b_min (a_cons (e_callB c_len rfl F.bl_len b_len (a_cons (e_loc 0) a_nil)) (a_cons e_int a_nil))) a_nil))) a_nil)) (g_name 1 nd0) (s_cons (s_set 2 nd0 (e_call (ok_Lstate F G_Lstate) (hr.mono (by decide)) rfl G_Lstate.mg G_Lstate.fn.kp G_Lstate.b (a_cons (e_loc 0) (a_cons (e_loc 1) a_nil)))) (s_one (s_for PassesOwn.never rfl (i_rng1 rfl F.bl_range (a_cons e_int a_nil)) (g_name 3 nd0) (s_cons (s_set 4 nd0 (e_call (ok_Lheap F G_Lheap) (hr.mono (by decide)) rfl G_Lheap.mg G_Lheap.fn.kp G_Lheap.b (a_cons (e_loc 2) (a_cons e_int a_nil)))) (s_cons (s_par2 5 6 rfl nd0 (a_cons (e_callB (c_repr hr) rfl F.bl_repr b_repr (a_cons (e_loc 4) a_nil)) (a_cons (e_call (ok_Lmost F G_Lmost) (hr.mono (by decide)) rfl G_Lmost.mg G_Lmost.fn.kp G_Lmost.b (a_cons (e_loc 4) a_nil)) a_nil))) (s_cons (s_for PassesOwn.never rfl (i_rng1 rfl F.bl_range (a_cons e_int a_nil)) (g_name 7 nd0) (s_cons (s_if (t_not (t_tru (e_call (ok_Lsame F G_Lsame 8) (hr.mono (by decide)) rfl G_Lsame.mg G_Lsame.fn.kp G_Lsame.b (a_cons (e_call (ok_fewest F G_fewest) (hr.mono (by decide)) rfl G_fewest.mg G_fewest.fn.kp G_fewest.b (a_cons (e_loc 4) a_nil)) (a_cons (e_loc 6) a_nil))))) (s_one (s_ret e_bl)) s_nil) (s_cons (s_par2 8 9 rfl nd0 (a_cons (e_call (ok_rows_of F G_rows_of) (hr.mono (by decide)) rfl G_rows_of.mg G_rows_of.fn.kp G_rows_of.b (a_cons (e_loc 4) a_nil)) (a_cons (e_call (ok_strangers_of F G_strangers_of) (hr.mono (by decide)) rfl G_strangers_of.mg G_strangers_of.fn.kp G_strangers_of.b (a_cons (e_loc 4) a_nil)) a_nil))) (s_cons (s_if (PW.pt (w_or (t_not (t_tru (e_call (ok_Lare_rows F G_Lare_rows) (hr.mono (by decide)) rfl G_Lare_rows.mg G_Lare_rows.fn.kp G_Lare_rows.b (a_cons (e_loc 4) (a_cons (e_loc 8) a_nil))))) (w_or1 (t_not (t_tru (e_call (ok_Lare_strangers F G_Lare_strangers) (hr.mono (by decide)) rfl G_Lare_strangers.mg G_Lare_strangers.fn.kp G_Lare_strangers.b (a_cons (e_loc 4) (a_cons (e_loc 9) a_nil)))))))) (s_one (s_ret e_bl)) s_nil) (s_one (s_if (PW.pt (w_or (t_cmp (o_ne hr) (e_callB c_len rfl F.bl_len b_len (a_cons (e_loc 8) a_nil)) (e_loc 6) (nomark _)) (w_or (t_cmp (o_ne hr) (e_callB c_len rfl F.bl_len b_len (a_cons (e_loc 9) a_nil)) (e_loc 6) (nomark _)) (w_or1 (t_cmp (o_ne hr) (e_callB (c_repr hr) rfl F.bl_repr b_repr (a_cons (e_loc 4) a_nil)) (e_loc 5) (nomark _)))))) (s_one (s_ret e_bl)) s_nil)))))) (s_one (s_if (PW.pt (w_or (t_cmp o_notB (e_call (ok_are_rows F G_are_rows) (hr.mono (by decide)) rfl G_are_rows.mg G_are_rows.fn.kp G_are_rows.b (a_cons (e_loc 4) (a_cons (e_loc 8) a_nil))) e_bl (nomark _)) (w_or1 (t_cmp o_notB (e_call (ok_are_strangers F G_are_strangers) (hr.mono (by decide)) rfl G_are_strangers.mg G_are_strangers.fn.kp G_are_strangers.b (a_cons (e_loc 4) (a_cons (e_loc 9) a_nil))) e_bl (nomark _))))) (s_one (s_ret e_bl)) s_nil))))))))) (s_one (s_ret e_bl)))
end
end DI.k42
namespace DI
open PySem L2
def Wp {α:Type} (r:Res α) (Q:α->Sto->Prop):Prop:=∃a s,r=some (.ok a,s)/\Q a s
section
variable {α β:Type} {r:Res α} {k:α->Sto->Res β} {Q Q':α->Sto->Prop} {R:β->Sto->Prop} {env:Env} {s:Sto}
theorem Wp.ok {a:α} (h:Q a s):Wp (DI.ok a s) Q:=⟨a,s,rfl,h⟩
theorem Wp.mono (h:Wp r Q) (i:∀a s,Q a s->Q' a s):Wp r Q':=by
 obtain ⟨a,s,e,q⟩:=h
 exact ⟨a,s,e,i a s q⟩
theorem Wp.bnd (h:Wp r fun a s=>Wp (k a s) R):Wp (DI.bnd r k) R:=by
 obtain ⟨a,s,e,b,s',e',q⟩:=h
 exact ⟨b,s',by rw [e];exact e',q⟩
theorem Wp.ne (h:Wp r Q):Wp (DI.ne r) Q:=by
 obtain ⟨a,s,e,q⟩:=h
 exact ⟨a,s,by rw [e];rfl,q⟩
theorem Wp.of {a:α} (e:r=some (.ok a,s)) (h:Q a s):Wp r Q:=⟨a,s,e,h⟩
theorem Wp.seq {f g:Env->Sto->Res Fl} {Q:Fl->Sto->Prop} (h:Wp (f env s) fun fl s=>match fl with
  | .nx env=>Wp (g env s) Q
  |fl=>Q fl s):Wp (sSeq f g env s) Q:=by
 obtain ⟨fl,s',e,h⟩:=h
 unfold sSeq
 rw [e]
 cases fl with
 |nx env=>exact h
 |rt d=>exact ⟨_,_,rfl,h⟩
 |bk e=>exact ⟨_,_,rfl,h⟩
 |ct e=>exact ⟨_,_,rfl,h⟩
theorem Wp.for_ {g:D->Env->Option Env} {b:Env->Sto->Res Fl} {Q:Fl->Sto->Prop} (I:Nat->Env->Sto->Prop) (all:List D) (h0:I 0 env s)
  (step:∀i d env s,all[i]?=some d->I i env s->∃env',g d env=some env'/\Wp (b env' s) fun fl s=>match fl with
   | .nx e=>I (i+1) e s
   | .ct e=>I (i+1) e s
   | .bk e=>Q (.nx e) s
   | .rt d=>Q (.rt d) s) (fin:∀env s,I all.length env s->Q (.nx env) s):Wp (forGo g b all env s) Q:=by
 have key:∀(ds:List D) (i:Nat) (env:Env) (s:Sto),all.drop i=ds->i<=all.length->I i env s->Wp (forGo g b ds env s) Q:=by
  intro ds
  induction ds with
  |nil =>
   intro i env s hd hi h
   have e:i=all.length:=by
    have:=congrArg List.length hd
    simp at this
    omega
   subst e
   exact Wp.ok (fin _ _ h)
  |cons d ds ih =>
   intro i env s hd hi h
   have hx:all[i]?=some d:=by
    have:=congrArg (fun l=>l[0]?) hd
    simpa using this
   have hd':all.drop (i+1)=ds:=by
    have:=congrArg (List.drop 1) hd
    simpa [List.drop_drop] using this
   obtain ⟨env',hg,hb⟩:=step i d env s hx h
   have hlt:=(List.getElem?_eq_some_iff.mp hx).1
   unfold forGo
   rw [hg]
   refine Wp.bnd (hb.mono fun fl s q=>?_)
   cases fl with
   |nx e=>exact ih (i+1) e s hd' hlt q
   |ct e=>exact ih (i+1) e s hd' hlt q
   |bk e=>exact Wp.ok q
   |rt d=>exact Wp.ok q
 exact key all 0 env s rfl (Nat.zero_le _) h0
theorem comp_wp {nt:Nat} {caps:Env} {g:D->Env->Option Env} {t:Env->Sto->Res Bool} {f:Env->Sto->Res D} {Q:List D->Sto->Prop} (I:Nat->List D->Sto->Prop) (all:List D) (h0:I 0 [] s)
  (step:∀i d acc s,all[i]?=some d->I i acc s->∃env,g d (List.replicate nt none++caps)=some env/\Wp (t env s) fun b s=>if b=true then Wp (f env s) fun x s=>I (i+1) (acc++[x]) s else I (i+1) acc s)
  (fin:∀acc s,I all.length acc s->Q acc s):Wp (compGo nt caps g t f all s) Q:=by
 have key:∀(ds:List D) (i:Nat) (acc:List D) (s:Sto),all.drop i=ds->i<=all.length->I i acc s->Wp (compGo nt caps g t f ds s) fun xs s=>Q (acc++xs) s:=by
  intro ds
  induction ds with
  |nil =>
   intro i acc s hd hi h
   have e:i=all.length:=by
    have:=congrArg List.length hd
    simp at this
    omega
   subst e
   exact Wp.ok (by rw [List.append_nil];exact fin _ _ h)
  |cons d ds ih =>
   intro i acc s hd hi h
   have hx:all[i]?=some d:=by
    have:=congrArg (fun l=>l[0]?) hd
    simpa using this
   have hd':all.drop (i+1)=ds:=by
    have:=congrArg (List.drop 1) hd
    simpa [List.drop_drop] using this
   obtain ⟨env',hg,hb⟩:=step i d acc s hx h
   have hlt:=(List.getElem?_eq_some_iff.mp hx).1
   unfold compGo
   rw [hg]
   refine Wp.bnd (Wp.ne (hb.mono fun b s q=>?_))
   cases b with
   |true =>
    rw [if_pos rfl] at q |-
    refine Wp.bnd (Wp.ne (q.mono fun x s q=>?_))
    refine Wp.bnd ((ih (i+1) (acc++[x]) s hd' hlt q).mono fun xs s q=>Wp.ok ?_)
    rw [List.append_assoc] at q
    exact q
   |false =>
    rw [if_neg Bool.false_ne_true] at q |-
    exact ih (i+1) acc s hd' hlt q
 have:=key all 0 [] s rfl (Nat.zero_le _) h0
 simpa using this
end
section
variable {α β:Type} {Q:D->Sto->Prop} {QL:List D->Sto->Prop} {QB:Bool->Sto->Prop} {QF:Fl->Sto->Prop} {QO:Option Int->Sto->Prop} {env:Env} {s:Sto} {f g h:Env->Sto->Res D} {fa:Env->Sto->Res (List D)} {c c':Env->Sto->Res Bool} {st st':Env->Sto->Res Fl} {o o':D->D->Sto->Res D} {u:D->Sto->Res D} {bf:List D->Sto->Res D}
theorem wp_ok {a:α} {Q:α->Sto->Prop}:Wp (ok a s) Q=Q a s:=propext ⟨fun ⟨b,s',e,q⟩=>by cases e;exact q,fun q=>⟨a,s,rfl,q⟩⟩
theorem wp_ok' {a:α} {Q:α->Sto->Prop}:Wp (some (Except.ok a,s)) Q=Q a s:=wp_ok
theorem wp_bnd {r:Res α} {k:α->Sto->Res β} {R:β->Sto->Prop}:Wp (bnd r k) R=Wp r fun a s=>Wp (k a s) R:=propext ⟨fun ⟨b,s',e,q⟩=>by
 obtain ⟨a,s,e1,e2⟩:=bnd_some e
 exact ⟨a,s,e1,b,s',e2,q⟩,fun h=>Wp.bnd h⟩
theorem wp_ne {r:Res α} {Q:α->Sto->Prop}:Wp (ne r) Q=Wp r Q:=propext ⟨fun ⟨b,s',e,q⟩=>⟨b,s',ne_some e,q⟩,fun h=>h.ne⟩
theorem wp_loc0 {a:D} {r:Env}:Wp (eLoc 0 (some a::r) s) Q=Q a s:=by rw [show eLoc 0 (some a::r) s=ok a s from rfl,wp_ok]
theorem wp_locS {i:Nat} {a:Option D} {r:Env}:Wp (eLoc (i+1) (a::r) s) Q=Wp (eLoc i r s) Q:=by rw [show eLoc (i+1) (a::r) s=eLoc i r s from rfl]
theorem wp_C {d:D}:Wp (eC d env s) Q=Q d s:=by rw [show eC d env s=ok d s from rfl,wp_ok]
theorem wp_e1:Wp (e1 u f env s) Q=Wp (f env s) fun x s=>Wp (u x s) Q:=by unfold e1;rw [wp_bnd]
theorem wp_e2:Wp (e2 o f g env s) Q=Wp (f env s) fun x s=>Wp (g env s) fun y s=>Wp (o x y s) Q:=by unfold e2;simp only [wp_bnd]
theorem wp_aNil:Wp (aNil env s) QL=QL [] s:=by unfold aNil;rw [wp_ok]
theorem wp_aCons:Wp (aCons f fa env s) QL=Wp (f env s) fun x s=>Wp (fa env s) fun xs s=>QL (x::xs) s:=by unfold aCons;simp only [wp_bnd,wp_ok]
theorem wp_eB:Wp (eB bf fa env s) Q=Wp (fa env s) fun ds s=>Wp (bf ds s) Q:=by unfold eB;rw [wp_bnd]
theorem wp_call {fn:List D->Sto->Res D}:Wp (eCall fn fa env s) Q=Wp (fa env s) fun ds s=>Wp (fn ds s) Q:=by unfold eCall;simp only [wp_bnd,wp_ne]
theorem wp_lenOk {ds:List D} {r:Res α} {Q:α->Sto->Prop}:Wp (lenOk ds r) Q=(ds.length<=sizeLine/\Wp r Q):=propext ⟨fun ⟨b,s',e,q⟩=>by
 unfold lenOk at e
 split at e
 ·exact ⟨by assumption,b,s',e,q⟩
 ·(cases e),fun ⟨hl,b,s',e,q⟩=>⟨b,s',by unfold lenOk;rw [if_pos hl];exact e,q⟩⟩
theorem wp_tup:Wp (eTup fa env s) Q=Wp (fa env s) fun ds s=>ds.length<=sizeLine/\Q (.tup ds) s:=by unfold eTup;simp only [wp_bnd,wp_lenOk,wp_ok]
theorem wp_lst:Wp (eLst fa env s) Q=Wp (fa env s) fun ds s=>ds.length<=sizeLine/\Q (.lst ds) s:=by unfold eLst;simp only [wp_bnd,wp_lenOk,wp_ok]
theorem wp_new:Wp (eNew fa env s) Q=Wp (fa env s) fun ds s=>ds.length<=sizeLine/\Q (.han s.length) (s++[.lst ds]):=by unfold eNew;simp only [wp_bnd,wp_lenOk,wp_ok]
theorem wp_frz:Wp (eFrz f env s) Q=Wp (f env s) fun d s=>Wp (frz d s) Q:=by unfold eFrz;rw [wp_bnd]
theorem wp_tBl:Wp (tBl f env s) QB=Wp (f env s) fun d s=>Wp (isBl d s) QB:=by unfold tBl;rw [wp_bnd]
theorem wp_isBl {b:Bool}:Wp (isBl (.bl b) s) QB=QB b s:=by rw [show isBl (.bl b) s=ok b s from rfl,wp_ok]
theorem wp_tru:Wp (tTru f env s) QB=Wp (f env s) fun d s=>Wp (truth d s) QB:=by unfold tTru;rw [wp_bnd]
theorem wp_truB {b:Bool}:Wp (truth (.bl b) s) QB=QB b s:=by rw [show truth (.bl b) s=ok b s from rfl,wp_ok]
theorem wp_tAnd:Wp (tAnd c c' env s) QB=Wp (c env s) fun b s=>if b=true then Wp (c' env s) QB else QB false s:=by
 unfold tAnd
 rw [wp_bnd]
 congr 1
 funext b s
 cases b<;>simp [wp_ok]
theorem wp_tOr:Wp (tOr c c' env s) QB=Wp (c env s) fun b s=>if b=true then QB true s else Wp (c' env s) QB:=by
 unfold tOr
 rw [wp_bnd]
 congr 1
 funext b s
 cases b<;>simp [wp_ok]
theorem wp_tNot:Wp (tNot c env s) QB=Wp (c env s) fun b s=>QB (!b) s:=by unfold tNot;simp only [wp_bnd,wp_ok]
theorem wp_eAnd:Wp (eAnd f g env s) Q=Wp (f env s) fun x s=>Wp (isBl x s) fun b s=>if b=true then Wp (g env s) Q else Q (.bl false) s:=by
 unfold eAnd
 rw [wp_bnd]
 congr 1
 funext x s
 rw [wp_bnd]
 congr 1
 funext b s
 cases b<;>simp [wp_ok]
theorem wp_eOr:Wp (eOr f g env s) Q=Wp (f env s) fun x s=>Wp (isBl x s) fun b s=>if b=true then Q (.bl true) s else Wp (g env s) Q:=by
 unfold eOr
 rw [wp_bnd]
 congr 1
 funext x s
 rw [wp_bnd]
 congr 1
 funext b s
 cases b<;>simp [wp_ok]
theorem wp_eNot:Wp (eNot f env s) Q=Wp (f env s) fun x s=>Wp (isBl x s) fun b s=>Q (.bl (!b)) s:=by unfold eNot;simp only [wp_bnd,wp_ok]
theorem wp_eIf:Wp (eIf c f g env s) Q=Wp (c env s) fun b s=>if b=true then Wp (f env s) Q else Wp (g env s) Q:=by
 unfold eIf
 rw [wp_bnd]
 congr 1
 funext b s
 cases b<;>simp
theorem wp_eCh:Wp (eCh o o' f g h env s) Q=Wp (f env s) fun x s=>Wp (g env s) fun y s=>Wp (o x y s) fun z s=>Wp (isBl z s) fun b s=>if b=true then Wp (h env s) fun u s=>Wp (o' y u s) Q else Q (.bl false) s:=by
 unfold eCh
 simp only [wp_bnd]
 congr 1
 funext x s
 congr 1
 funext y s
 congr 1
 funext z s
 congr 1
 funext b s
 cases b<;>simp [wp_ok,wp_bnd]
theorem wp_sNil:Wp (sNil env s) QF=QF (.nx env) s:=by unfold sNil;rw [wp_ok]
theorem wp_sRet:Wp (sRet f env s) QF=Wp (f env s) fun d s=>QF (.rt d) s:=by unfold sRet;simp only [wp_bnd,wp_ok]
theorem wp_sExpr:Wp (sExpr f env s) QF=Wp (f env s) fun _ s=>QF (.nx env) s:=by unfold sExpr;simp only [wp_bnd,wp_ok]
theorem wp_sCont:Wp (sCont env s) QF=QF (.ct env) s:=by unfold sCont;rw [wp_ok]
noncomputable def aft (st:Env->Sto->Res Fl) (Q:Fl->Sto->Prop):Fl->Sto->Prop:=fun fl s=>match fl with
 | .nx env=>Wp (st env s) Q
 |fl=>Q fl s
theorem wp_sSeq:Wp (sSeq st st' env s) QF=Wp (st env s) (aft st' QF):=propext ⟨fun h=>by
 unfold sSeq at h
 rw [wp_bnd] at h
 refine h.mono fun fl s q=>?_
 cases fl with
 |nx e=>exact q
 |rt d=>have q:Wp (ok (Fl.rt d) s) QF:=q;rw [wp_ok] at q;exact q
 |bk d=>have q:Wp (ok (Fl.bk d) s) QF:=q;rw [wp_ok] at q;exact q
 |ct d=>have q:Wp (ok (Fl.ct d) s) QF:=q;rw [wp_ok] at q;exact q,fun h=>Wp.seq (h.mono fun fl s q=>by cases fl<;>exact q)⟩
theorem Wp.step (h:∀R,R=st'->Wp (st env s) (aft R QF)):Wp (sSeq st st' env s) QF:=by rw [wp_sSeq];exact h _ rfl
theorem aft_nx:aft st QF (.nx env) s=Wp (st env s) QF:=rfl
theorem aft_rt {d:D}:aft st QF (.rt d) s=QF (.rt d) s:=rfl
theorem aft_ct:aft st QF (.ct env) s=QF (.ct env) s:=rfl
theorem wp_sIf:Wp (sIf c st st' env s) QF=Wp (c env s) fun b s=>if b=true then Wp (st env s) QF else Wp (st' env s) QF:=by
 unfold sIf
 rw [wp_bnd]
 congr 1
 funext b s
 cases b<;>simp
theorem wp_sAsg {gd:D->Env->Option Env}:Wp (sAsg f gd env s) QF=Wp (f env s) fun d s=>∃e,gd d env=some e/\QF (.nx e) s:=by
 unfold sAsg
 rw [wp_bnd]
 congr 1
 funext d s
 cases h:gd d env with
 |none=>exact propext ⟨fun ⟨_,_,e,_⟩=>(by cases e),fun ⟨_,e,_⟩=>(by cases e)⟩
 |some e=>rw [wp_ok];exact propext ⟨fun q=>⟨e,rfl,q⟩,fun ⟨e',z,q⟩=>by cases z;exact q⟩
theorem asg_N {i:Nat} {d:D} {P:Env->Prop}:(∃e,gN i d env=some e/\P e)=P (env.set i (some d)):=propext ⟨fun ⟨e,z,q⟩=>by cases z;exact q,fun q=>⟨_,rfl,q⟩⟩
theorem asg_T {gs:List (D->Env->Option Env)} {ds:List D} {P:Env->Prop}:(∃e,gT gs (.tup ds) env=some e/\P e)=∃e,gAll gs ds env=some e/\P e:=rfl
theorem asg_nil {P:Env->Prop}:(∃e,gAll [] [] env=some e/\P e)=P env:=propext ⟨fun ⟨e,z,q⟩=>by cases z;exact q,fun q=>⟨_,rfl,q⟩⟩
theorem asg_cons {i:Nat} {gs:List (D->Env->Option Env)} {d:D} {ds:List D} {P:Env->Prop}:(∃e,gAll (gN i::gs) (d::ds) env=some e/\P e)=∃e,gAll gs ds (env.set i (some d))=some e/\P e:=rfl
theorem wp_par2 {i j:Nat}:Wp (par2 i j fa env s) QF=Wp (fa env s) fun ds s=>∃x y,ds=[x,y]/\QF (.nx ((env.set i (some x)).set j (some y))) s:=by
 unfold par2
 rw [wp_bnd]
 congr 1
 funext ds s
 match ds with
 | [x,y] =>
  show Wp (ok (Fl.nx ((env.set i (some x)).set j (some y))) s) QF=_
  rw [wp_ok]
  exact propext ⟨fun q=>⟨x,y,rfl,q⟩,fun ⟨x',y',e,q⟩=>by cases e;exact q⟩
 | []=>exact propext ⟨fun ⟨_,_,e,_⟩=>(by cases e),fun ⟨_,_,e,_⟩=>(by cases e)⟩
 | [_]=>exact propext ⟨fun ⟨_,_,e,_⟩=>(by cases e),fun ⟨_,_,e,_⟩=>(by cases e)⟩
 |_::_::_::_=>exact propext ⟨fun ⟨_,_,e,_⟩=>(by cases e),fun ⟨_,_,e,_⟩=>(by cases e)⟩
theorem par_of {x y:D} {P:D->D->Prop}:(∃x' y',[x,y]=[x',y']/\P x' y')=P x y:=propext ⟨fun ⟨_,_,e,q⟩=>by cases e;exact q,fun q=>⟨x,y,rfl,q⟩⟩
theorem wp_sFor {it:Env->Sto->Res (List D)} {gd:D->Env->Option Env}:Wp (sFor it gd st env s) QF=Wp (it env s) fun ds s=>Wp (forGo gd st ds env s) QF:=by unfold sFor;rw [wp_bnd]
theorem wp_sSub {fo fi:Env->Sto->Res D}:Wp (sSub f fo fi env s) QF=Wp (f env s) fun x s=>Wp (fo env s) fun d s=>Wp (fi env s) fun n s=>∃s',setD d n x s=some s'/\QF (.nx env) s':=by
 unfold sSub
 simp only [wp_bnd]
 congr 1
 funext x s
 congr 1
 funext d s
 congr 1
 funext n s
 cases h:setD d n x s with
 |none=>exact propext ⟨fun ⟨_,_,e,_⟩=>(by cases e),fun ⟨_,e,_⟩=>(by cases e)⟩
 |some e=>simp only [wp_ok];exact propext ⟨fun q=>⟨e,rfl,q⟩,fun ⟨e',z,q⟩=>by cases z;exact q⟩
theorem wp_app:Wp (eApp f g env s) Q=Wp (f env s) fun d s=>lstH d s=true/\Wp (g env s) fun x s=>Wp (appD d x s) Q:=by
 unfold eApp
 rw [wp_bnd]
 congr 1
 funext d s
 cases h:lstH d s with
 |true=>rw [if_pos rfl,wp_bnd];simp
 |false=>rw [if_neg Bool.false_ne_true];exact propext ⟨fun ⟨_,_,e,_⟩=>(by cases e),fun ⟨e,_⟩=>(by cases e)⟩
noncomputable def fin_ (Q:D->Sto->Prop):Fl->Sto->Prop:=fun fl s=>match fl with
 | .rt d=>Q d s
 | .nx _=>Q .non s
 |_=>False
theorem wp_fn {np ns:Nat} {ds:List D}:Wp (fnRun np ns st ds s) Q=(ds.length=np/\Wp (st (ds.map some++List.replicate (ns-np) none) s) (fin_ Q)):=by
 unfold fnRun
 by_cases h:ds.length=np
 ·rw [if_pos h,wp_bnd]
  refine propext ⟨fun q=>⟨h,q.mono fun fl s q=>?_⟩,fun ⟨_,q⟩=>q.mono fun fl s q=>?_⟩
  ·cases fl with
   |rt d=>exact (show Wp (ok d s) Q from q) |> fun z=>by rw [wp_ok] at z;exact z
   |nx e=>exact (show Wp (ok D.non s) Q from q) |> fun z=>by rw [wp_ok] at z;exact z
   |bk e=>obtain ⟨_,_,e,_⟩:=q;cases e
   |ct e=>obtain ⟨_,_,e,_⟩:=q;cases e
  ·cases fl with
   |rt d=>exact Wp.ok q
   |nx e=>exact Wp.ok q
   |bk e=>exact q.elim
   |ct e=>exact q.elim
 ·rw [if_neg h]
  exact propext ⟨fun ⟨_,_,e,_⟩=>(by cases e),fun ⟨e,_⟩=>absurd e h⟩
theorem fin_rt {d:D}:fin_ Q (.rt d) s=Q d s:=rfl
theorem fin_nx:fin_ Q (.nx env) s=Q .non s:=rfl
theorem wp_comp {nt:Nat} {cap:List Nat} {it:Env->Sto->Res (List D)} {gd:D->Env->Option Env}:Wp (eComp nt cap it gd c f env s) Q=Wp (it env s) fun ds s=>ds.length<=sizeLine/\Wp (compGo nt (capsE cap env) gd c f ds s) fun xs s=>Q (.lst xs) s:=by
 unfold eComp;simp only [wp_bnd,wp_lenOk,wp_ok]
theorem wp_sl {l' h':Env->Sto->Res (Option Int)}:Wp (eSl f l' h' env s) Q=Wp (f env s) fun d s=>Wp (l' env s) fun lo s=>Wp (h' env s) fun hi s=>Wp (sliceD d lo hi s) Q:=by unfold eSl;simp only [wp_bnd]
theorem wp_pNo:Wp (pNo env s) QO=QO none s:=by unfold pNo;rw [wp_ok]
theorem wp_pInt {i:Int} (hi:f env s=ok (.int i) s):Wp (pInt f env s) QO=QO (some i) s:=by unfold pInt;rw [hi,bnd_ok,wp_ok]
end
end DI
namespace DI
open PySem L2
def StAt (s:Sto) (k:Nat):Prop:=∃a b:Int,s[k]?=some (.lst [.int a,.int b])/\0<=a/\0<=b/\b<2147483647
structure Ex (k:Nat) (s s':Sto):Prop where
 len:s.length<=s'.length
 val:∀j,j<s.length->j≠k->s'[j]?=s[j]?
theorem Ex.refl (k:Nat) (s:Sto):Ex k s s:=⟨Nat.le_refl _,fun _ _ _=>rfl⟩
theorem Ex.trans {k:Nat} {a b c:Sto} (h:Ex k a b) (g:Ex k b c):Ex k a c:=⟨Nat.le_trans h.len g.len,fun j hj hk=>(g.val j (Nat.lt_of_lt_of_le hj h.len) hk).trans (h.val j hj hk)⟩
theorem Ex.set (k:Nat) (s:Sto) (c:Cell):Ex k s (s.set k c):=⟨by simp,fun j _ hj=>List.getElem?_set_ne (Ne.symm hj)⟩
theorem Ex.app (k:Nat) (s:Sto) (c:List Cell):Ex k s (s++c):=⟨by simp,fun j hj _=>List.getElem?_append_left hj⟩
theorem StAt.lt {s:Sto} {k:Nat} (h:StAt s k):k<s.length:=by
 obtain ⟨a,b,e,_⟩:=h
 exact (List.getElem?_eq_some_iff.mp e).1
theorem StAt.app {s:Sto} {k:Nat} (h:StAt s k) (c:List Cell):StAt (s++c) k:=by
 obtain ⟨a,b,e,r⟩:=h
 exact ⟨a,b,by rw [List.getElem?_append_left (List.getElem?_eq_some_iff.mp e).1];exact e,r⟩
theorem StAt.set {s:Sto} {k j:Nat} (h:StAt s k) (hj:j≠k) (c:Cell):StAt (s.set j c) k:=by
 obtain ⟨a,b,e,r⟩:=h
 exact ⟨a,b,by rw [List.getElem?_set_ne hj];exact e,r⟩
theorem ix0 (x y:D) (k:Nat) (s:Sto) (h:s[k]?=some (.lst [x,y])):opIx (.han k) (.int 0) s=ok x s:=by
 simp [opIx,ixD,res,h,atI,ixN,pur]
theorem ix1 (x y:D) (k:Nat) (s:Sto) (h:s[k]?=some (.lst [x,y])):opIx (.han k) (.int 1) s=ok y s:=by
 simp [opIx,ixD,res,h,atI,ixN,pur]
theorem set0 (x y z:D) (k:Nat) (s:Sto) (h:s[k]?=some (.lst [x,y])):setD (.han k) (.int 0) z s=some (s.set k (.lst [z,y])):=by
 simp [setD,h,ixN]
theorem set1 (x y z:D) (k:Nat) (s:Sto) (h:s[k]?=some (.lst [x,y])):setD (.han k) (.int 1) z s=some (s.set k (.lst [x,z])):=by
 simp [setD,h,ixN]
@[simp] theorem eLoc_0 {a:D} {r:Env} {s:Sto}:eLoc 0 (some a::r) s=ok a s:=rfl
@[simp] theorem eLoc_s {i:Nat} {a:Option D} {r:Env} {s:Sto}:eLoc (i+1) (a::r) s=eLoc i r s:=rfl
theorem ltI (i j:Int) (s:Sto):opLt (.int i) (.int j) s=ok (.bl (decide (i<j))) s:=rfl
theorem gtI (i j:Int) (s:Sto):opGt (.int i) (.int j) s=ok (.bl (decide (j<i))) s:=rfl
theorem geI (i j:Int) (s:Sto):opGe (.int i) (.int j) s=ok (.bl (decide (j<=i))) s:=rfl
theorem leI (i j:Int) (s:Sto):opLe (.int i) (.int j) s=ok (.bl (decide (i<=j))) s:=rfl
theorem addI (i j:Int) (s:Sto):opAdd (.int i) (.int j) s=ok (.int (i+j)) s:=rfl
theorem subI (i j:Int) (s:Sto):opSub (.int i) (.int j) s=ok (.int (i-j)) s:=rfl
theorem eqI (i j:Int) (s:Sto):opEq (.int i) (.int j) s=ok (.bl (i==j)) s:=rfl
theorem neI (i j:Int) (s:Sto):opNe (.int i) (.int j) s=ok (.bl (!(i==j))) s:=rfl
theorem modI {i j:Int} (s:Sto) (h:0<j):opMod (.int i) (.int j) s=ok (.int (i % j)) s:=by
 simp [opMod,modD,h,pur]
theorem divI {i j:Int} (s:Sto) (h:0<j) (h2:j<1073741824):opDiv (.int i) (.int j) s=ok (.int (i / j)) s:=by
 simp [opDiv,divD,h,h2,pur]
theorem mulI {i j:Int} (s:Sto) (h:mulOk i j=true):opMul (.int i) (.int j) s=ok (.int (i*j)) s:=by
 simp [opMul,mulD,h,pur]
theorem mulOk_of {i j:Int} (h1:-(2 ^ 64)<i) (h2:i<2 ^ 64):mulOk i j=true:=by
 unfold mulOk
 rw [decide_eq_true h1,decide_eq_true h2]
 rfl
theorem le_size {n:Nat} (h:n<=1000000):n<=sizeLine:=Nat.le_trans h (by decide)
theorem inRng_of {j:Int} (h1:-1000000<=j) (h2:j<=1000000):inRng j=true:=by
 unfold inRng
 rw [decide_eq_true (show -(2 ^ 62)<=j by omega),decide_eq_true (show j<2 ^ 62 by omega)]
 rfl
theorem atI_lt {α:Type} {xs:List α} {i:Int} (h0:0<=i) (h1:i<xs.length):∃x,atI xs i=some x/\xs[i.toNat]?=some x:=by
 have hj:i.toNat<xs.length:=by omega
 refine ⟨xs[i.toNat],?_,List.getElem?_eq_getElem hj⟩
 unfold atI ixN
 rw [if_pos h0,if_pos h1]
 exact List.getElem?_eq_getElem hj
theorem cell_ok {ns:List Int} {i:Int} {s:Sto} (h0:0<=i):∃c:Int,f_Lcell_at [.scr ns,.int i] s=ok (.int c) s:=by
 by_cases h:i<(ns.length:Int)
 ·obtain ⟨x,h1,_⟩:=atI_lt h0 h
  refine ⟨x,?_⟩
  have hx:opIx (.scr ns) (.int i) s=ok (.int x) s:=by simp [opIx,ixD,res,h1,pur]
  simp only [f_Lcell_at,fnRun,sSeq,sIf,tBl,e2,eB,aCons,aNil,bLen,lenD,res,pur,eLoc_0,eLoc_s,eC,bnd_ok,List.map_cons,List.map_nil,List.cons_append,List.nil_append,List.length_cons,List.length_nil,if_true,ltI,isBl,decide_eq_true h,sRet,hx]
 ·refine ⟨0,?_⟩
  simp only [f_Lcell_at,fnRun,sSeq,sIf,tBl,e2,eB,aCons,aNil,bLen,lenD,res,pur,eLoc_0,eLoc_s,eC,bnd_ok,List.map_cons,List.map_nil,List.cons_append,List.nil_append,List.length_cons,List.length_nil,if_true,ltI,isBl,decide_eq_false h,Bool.false_eq_true,if_false,sNil,sRet]
structure Mks (m:Nat) (ns:List Int):Prop where
 lo:∀x∈ns,0<=x/\x<m
 up:ns.Pairwise (· < ·)
noncomputable abbrev mD (ns:List Int):D:=.tup (ns.map D.int)
theorem Mks.len {m:Nat} {ns:List Int} (h:Mks m ns):ns.length<=m:=by
 have key:∀(l:List Int) (b:Int),l.Pairwise (· < ·)->(∀x∈l,b<=x/\x<m)->(l.length:Int)<=m-b\/l=[]:=by
  intro l
  induction l with
  |nil=>intro b _ _;exact .inr rfl
  |cons x l ih =>
   intro b hp hb
   obtain ⟨h1,h2⟩:=List.pairwise_cons.mp hp
   have hx:=hb x List.mem_cons_self
   left
   rcases ih (x+1) h2 (fun y hy=>⟨by have:=h1 y hy;omega,(hb y (List.mem_cons_of_mem _ hy)).2⟩) with h|h
   ·rw [List.length_cons];omega
   ·subst h
    simp
    omega
 rcases key ns 0 h.up h.lo with h'|h'
 ·omega
 ·subst h';simp
theorem iR1_of {fa:Env->Sto->Res (List D)} {env:Env} {s s1:Sto} {n:Nat} (h:fa env s=ok [.int n] s1) (hn:n<=1000000):iR1 fa env s=ok (rng 0 n) s1:=by
 unfold iR1
 rw [h,bnd_ok]
 show (if inRng (n:Int)=true then ok (rng 0 (n:Int).toNat) s1 else none)=_
 rw [if_pos (inRng_of (by omega) (by omega)),Int.toNat_natCast]
theorem iR1_ofI {fa:Env->Sto->Res (List D)} {env:Env} {s s1:Sto} {n:Nat} {i:Int} (h:fa env s=ok [.int i] s1) (hi:i=n) (hn:n<=1000000):iR1 fa env s=ok (rng 0 n) s1:=by
 subst hi
 exact iR1_of h hn
theorem wp_ltI {i j:Int} {s:Sto} {Q:D->Sto->Prop}:Wp (opLt (.int i) (.int j) s) Q=Q (.bl (decide (i<j))) s:=by rw [ltI,wp_ok]
theorem wp_gtI {i j:Int} {s:Sto} {Q:D->Sto->Prop}:Wp (opGt (.int i) (.int j) s) Q=Q (.bl (decide (j<i))) s:=by rw [gtI,wp_ok]
theorem wp_geI {i j:Int} {s:Sto} {Q:D->Sto->Prop}:Wp (opGe (.int i) (.int j) s) Q=Q (.bl (decide (j<=i))) s:=by rw [geI,wp_ok]
theorem wp_leI {i j:Int} {s:Sto} {Q:D->Sto->Prop}:Wp (opLe (.int i) (.int j) s) Q=Q (.bl (decide (i<=j))) s:=by rw [leI,wp_ok]
theorem wp_addI {i j:Int} {s:Sto} {Q:D->Sto->Prop}:Wp (opAdd (.int i) (.int j) s) Q=Q (.int (i+j)) s:=by rw [addI,wp_ok]
theorem wp_subI {i j:Int} {s:Sto} {Q:D->Sto->Prop}:Wp (opSub (.int i) (.int j) s) Q=Q (.int (i-j)) s:=by rw [subI,wp_ok]
theorem wp_eqI {i j:Int} {s:Sto} {Q:D->Sto->Prop}:Wp (opEq (.int i) (.int j) s) Q=Q (.bl (i==j)) s:=by rw [eqI,wp_ok]
theorem wp_neI {i j:Int} {s:Sto} {Q:D->Sto->Prop}:Wp (opNe (.int i) (.int j) s) Q=Q (.bl (!(i==j))) s:=by rw [neI,wp_ok]
end DI
namespace DI
open PySem L2
theorem Wp.eq {α:Type} {r:Res α} {d:α} {s:Sto} (h:Wp r fun a s'=>a=d/\s'=s):r=DI.ok d s:=by
 obtain ⟨a,s',e,rfl,rfl⟩:=h
 exact e
theorem iSeqT_of {f:Env->Sto->Res D} {env:Env} {s s1:Sto} {ds:List D} (h:f env s=ok (.tup ds) s1):iSeq f env s=ok ds s1:=by
 unfold iSeq
 rw [h]
 rfl
theorem iSeqL_of {f:Env->Sto->Res D} {env:Env} {s s1:Sto} {ds:List D} (h:f env s=ok (.lst ds) s1):iSeq f env s=ok ds s1:=by
 unfold iSeq
 rw [h]
 rfl
theorem lays_ints:∀(ns:List Int),lays (ns.map D.int)=true
 | []=>rfl
 |n::ns=>by simp only [List.map_cons,lays,lay,lays_ints ns,Bool.and_self]
theorem deps_ints:∀(ns:List Int),deps (ns.map D.int)=0
 | []=>rfl
 |n::ns=>by simp only [List.map_cons,deps,dep,deps_ints ns,Nat.max_self]
theorem any_int (x:Int) (ns:List Int):((ns.map D.int).any fun y=>beq y (.int x))=decide (x∈ns):=by
 induction ns with
 |nil=>simp
 |cons n ns ih =>
  simp only [List.map_cons,List.any_cons,ih,beq]
  by_cases h:n=x
  ·subst h;simp
  ·have h':¬ x=n:=fun e=>h e.symm
   simp [h,h']
theorem in_ints {x:Int} {ns:List Int} {s:Sto}:opIn (.int x) (mD ns) s=ok (.bl (decide (x∈ns))) s:=by
 have hl:laysD 100 (.int x) (ns.map D.int)=true:=by simp only [laysD,lay,lays_ints,dep,Bool.and_self,Nat.zero_le,decide_true]
 have e:inD (.int x) (ns.map D.int)=some (decide (x∈ns)):=by unfold inD;rw [if_pos hl,any_int]
 unfold opIn
 rw [show seqOf (mD ns) s=some (ns.map D.int) from rfl]
 simp only [e]
 rfl
theorem notIn_ints {x:Int} {ns:List Int} {s:Sto}:opNotIn (.int x) (mD ns) s=ok (.bl (!decide (x∈ns))) s:=by
 have hl:laysD 100 (.int x) (ns.map D.int)=true:=by simp only [laysD,lay,lays_ints,dep,Bool.and_self,Nat.zero_le,decide_true]
 have e:inD (.int x) (ns.map D.int)=some (decide (x∈ns)):=by unfold inD;rw [if_pos hl,any_int]
 unfold opNotIn
 rw [show seqOf (mD ns) s=some (ns.map D.int) from rfl]
 simp only [e]
 rfl
noncomputable def sub (a b:List Int):Bool:=a.all fun x=>decide (x∈b)
theorem sub_iff {a b:List Int}:sub a b=true↔∀x∈a,x∈b:=by simp [sub]
theorem all_bls {α:Type} (p:α->Bool) (xs:List α) (s:Sto):bAll [.lst (xs.map fun x=>D.bl (p x))] s=ok (.bl (xs.all p)) s:=by
 have e:bls (xs.map fun x=>D.bl (p x))=some (xs.map p):=by
  have:=bls_map (bs:=xs.map p)
  rw [List.map_map] at this
  exact this
 show pur ((bls (xs.map fun x=>D.bl (p x))).map fun (bs:List Bool)=>D.bl (bs.all id)) s=_
 rw [e]
 show ok (D.bl ((xs.map p).all id)) s=_
 rw [List.all_map]
 rfl
theorem filter_tt {α:Type} (xs:List α):xs.filter (fun _=>true)=xs:=by simp
theorem comp_ints {nt:Nat} {caps:Env} {g:D->Env->Option Env} {t:Env->Sto->Res Bool} {f:Env->Sto->Res D} {s:Sto} (p:Int->Bool) (h:Int->D) (ns:List Int) (hh:∀n∈ns,∃env,g (.int n) (List.replicate nt none++caps)=some env/\t env s=ok (p n) s/\(p n=true->f env s=ok (h n) s)) :
  compGo nt caps g t f (ns.map D.int) s=ok ((ns.filter p).map h) s:=by
 induction ns with
 |nil=>rfl
 |cons n ns ih =>
  obtain ⟨env,h1,h2,h3⟩:=hh n List.mem_cons_self
  have ih:=ih fun n' h'=>hh n' (List.mem_cons_of_mem _ h')
  rw [List.map_cons]
  unfold compGo
  rw [h1]
  simp only [h2,ne_ok,bnd_ok]
  cases hp:p n with
  |true=>simp only [if_true,h3 hp,ne_ok,bnd_ok,ih,List.filter_cons,hp,List.map_cons]
  |false=>simp only [Bool.false_eq_true,if_false,ih,List.filter_cons,hp]
theorem comp_map {α:Type} (d:α->D) {nt:Nat} {caps:Env} {g:D->Env->Option Env} {t:Env->Sto->Res Bool} {f:Env->Sto->Res D} {s:Sto} (p:α->Bool) (h:α->D) (xs:List α) (hh:∀x∈xs,∃env,g (d x) (List.replicate nt none++caps)=some env/\t env s=ok (p x) s/\(p x=true->f env s=ok (h x) s)) :
  compGo nt caps g t f (xs.map d) s=ok ((xs.filter p).map h) s:=by
 induction xs with
 |nil=>rfl
 |cons n ns ih =>
  obtain ⟨env,h1,h2,h3⟩:=hh n List.mem_cons_self
  have ih:=ih fun n' h'=>hh n' (List.mem_cons_of_mem _ h')
  rw [List.map_cons]
  unfold compGo
  rw [h1]
  simp only [h2,ne_ok,bnd_ok]
  cases hp:p n with
  |true=>simp only [if_true,h3 hp,ne_ok,bnd_ok,ih,List.filter_cons,hp,List.map_cons]
  |false=>simp only [Bool.false_eq_true,if_false,ih,List.filter_cons,hp]
theorem has_all_eq {a b:List Int} {s:Sto} (hb:b.length<=1000000):f_has_all [mD a,mD b] s=ok (.bl (sub b a)) s:=by
 refine Wp.eq ?_
 unfold f_has_all
 simp only [wp_aNil,wp_aCons,wp_eB,wp_sRet,wp_fn,fin_rt,wp_comp,List.map_cons,List.map_nil,List.cons_append,List.nil_append,List.length_cons,List.length_nil,List.replicate,true_and,Nat.reduceSub,Nat.reduceAdd]
 refine Wp.of (iSeqT_of rfl) ⟨le_size (by rw [List.length_map];exact hb),?_⟩
 refine Wp.of (comp_ints (fun _=>true) (fun x=>.bl (decide (x∈a))) b fun n _=>⟨[some (.int n),some (mD a)],rfl,rfl,fun _=>?_⟩) ?_
 ·show e2 opIn (eLoc 0) (eLoc 1) _ _=_
  exact in_ints
 ·rw [filter_tt]
  exact Wp.of (all_bls _ _ _) ⟨rfl,rfl⟩
end DI
namespace DI
open PySem L2
theorem number_eq {i:Int} {s:Sto}:f_is_number [.int i] s=ok (.bl (decide (0<=i))) s:=by
 rfl
theorem below_eq {i m:Int} {s:Sto}:f_is_below [.int i,.int m] s=ok (.bl (decide (0<=i)&&decide (i<m))) s:=by
 refine Wp.eq ?_
 unfold f_is_below
 simp only [wp_ok,wp_loc0,wp_locS,wp_e2,wp_aNil,wp_aCons,wp_call,wp_isBl,wp_eAnd,wp_sRet,wp_fn,fin_rt,List.map_cons,List.map_nil,List.cons_append,List.nil_append,List.length_cons,List.length_nil,List.replicate,true_and,Nat.reduceSub,Nat.reduceAdd,wp_ltI,number_eq]
 by_cases h:0<=i
 ·simp [h]
 ·simp [h]
theorem mark_eq {i:Int} {s:Sto}:f_is_mark [.int i] s=ok (.bl (decide (0<=i)&&decide (i<8))) s:=by
 refine Wp.eq ?_
 unfold f_is_mark
 simp only [wp_ok,wp_loc0,wp_C,wp_aNil,wp_aCons,wp_call,wp_sRet,wp_fn,fin_rt,List.map_cons,List.map_nil,List.cons_append,List.nil_append,List.length_cons,List.length_nil,List.replicate,true_and,Nat.reduceSub,Nat.reduceAdd,below_eq,true_and]
theorem cutD_all (xs:List D):cutD xs (some 1) none=xs.drop 1:=by
 unfold cutD HT.sIx
 cases xs with
 |nil=>simp
 |cons x xs =>
  simp only [List.length_cons]
  have e:(if (1:Int)<0 then (1+((xs.length+1:Nat):Int)).toNat else min (1:Int).toNat (xs.length+1))=1:=by simp
  simp
noncomputable def rise:List Int->Bool
 | []=>true
 | [_]=>true
 |a::b::r=>decide (a<b)&&rise (b::r)
theorem rise_of {ns:List Int} (h:ns.Pairwise (· < ·)):rise ns=true:=by
 induction ns with
 |nil=>rfl
 |cons a ns ih =>
  cases ns with
  |nil=>rfl
  |cons b r =>
   obtain ⟨h1,h2⟩:=List.pairwise_cons.mp h
   simp only [rise,ih h2,Bool.and_true]
   exact decide_eq_true (h1 b List.mem_cons_self)
theorem zip_rise:∀(ns:List Int),((ns.zip (ns.drop 1)).all fun p=>decide (p.1<p.2))=rise ns
 | []=>rfl
 | [_]=>rfl
 |a::b::r=>by
  have ih:=zip_rise (b::r)
  simp only [List.drop_succ_cons,List.drop_zero,List.zip_cons_cons,List.all_cons,rise] at ih |-
  rw [ih]
theorem zipD_ints (xs ys:List Int):zipD (xs.map D.int) (ys.map D.int)=(xs.zip ys).map fun p=>D.tup [.int p.1,.int p.2]:=by
 unfold zipD
 rw [List.zip_map,List.map_map]
 rfl
theorem iZipT_of {fa:Env->Sto->Res (List D)} {env:Env} {s s1:Sto} {xs ys:List D} (h:fa env s=ok [.tup xs,.tup ys] s1):iZip fa env s=ok (zipD xs ys) s1:=by
 unfold iZip
 rw [h]
 rfl
theorem rising_eq {ns:List Int} {s:Sto} (hl:ns.length<=1000000):f_is_rising [mD ns] s=ok (.bl (rise ns)) s:=by
 refine Wp.eq ?_
 unfold f_is_rising
 simp only [wp_aNil,wp_aCons,wp_eB,wp_sRet,wp_fn,fin_rt,wp_comp,List.map_cons,List.map_nil,List.cons_append,List.nil_append,List.length_cons,List.length_nil,List.replicate,true_and,Nat.reduceSub,Nat.reduceAdd]
 have hz:iZip (aCons (eLoc 0) (aCons (eSl (eLoc 0) (pInt (eC (.int 1))) pNo) aNil)) [some (mD ns)] s=ok (zipD (ns.map D.int) ((ns.drop 1).map D.int)) s:=by
  refine iZipT_of (Wp.eq ?_)
  simp only [wp_loc0,wp_aNil,wp_aCons,wp_sl,wp_pNo]
  rw [wp_pInt (i:=1) rfl]
  try simp only [wp_ok,wp_ok',wp_ne,wp_loc0,wp_locS,wp_C,wp_e1,wp_e2,wp_aNil,wp_aCons,wp_eB,wp_call,wp_tup,wp_lst,wp_new,wp_frz,wp_tBl,wp_isBl,wp_tru,wp_truB,wp_tAnd,wp_tOr,wp_tNot,wp_eAnd,wp_eOr,wp_eNot,wp_eIf,wp_eCh,wp_sNil,wp_sRet,wp_sExpr,wp_sCont,wp_sSeq,aft_nx,aft_rt,aft_ct,wp_sIf,wp_sAsg,asg_N,asg_T,asg_nil,asg_cons,wp_par2,par_of,wp_sFor,wp_sSub,wp_app,wp_fn,fin_rt,fin_nx,wp_comp,wp_sl,wp_pNo,List.map_cons,List.map_nil,List.cons_append,List.nil_append,List.length_cons,List.length_nil,List.set_cons_succ,List.set_cons_zero,List.replicate,true_and,Nat.reduceSub,Nat.reduceAdd,wp_ltI,wp_gtI,wp_geI,wp_leI,wp_addI,wp_subI,wp_eqI,wp_neI]
  refine Wp.of (show sliceD (mD ns) (some 1) none s=ok (.tup (cutD (ns.map D.int) (some 1) none)) s from rfl) ⟨?_,rfl⟩
  rw [cutD_all,List.map_drop]
 refine Wp.of hz ⟨le_size (by rw [zipD_len];simp only [List.length_map];omega),?_⟩
 rw [zipD_ints]
 refine Wp.of (comp_map (fun p:Int×Int=>D.tup [.int p.1,.int p.2]) (fun _=>true) (fun p=>.bl (decide (p.1<p.2))) _ fun p _=>⟨[some (.int p.1),some (.int p.2)],rfl,rfl,fun _=>rfl⟩) ?_
 rw [filter_tt]
 exact Wp.of (all_bls _ _ _) ⟨by rw [zip_rise],rfl⟩
theorem marks_true {ns:List Int} {s:Sto} (h:Mks 8 ns):f_are_marks [mD ns] s=ok (.bl true) s:=by
 have hl:=h.len
 refine Wp.eq ?_
 unfold f_are_marks
 simp only [wp_loc0,wp_C,wp_aNil,wp_aCons,wp_eB,wp_call,wp_eAnd,wp_sRet,wp_fn,fin_rt,wp_comp,List.map_cons,List.map_nil,List.cons_append,List.nil_append,List.length_cons,List.length_nil,List.replicate,true_and,Nat.reduceSub,Nat.reduceAdd]
 refine Wp.of (show bIsi [mD ns,.ty "tuple"] s=ok (.bl true) s from rfl) ?_
 simp only [wp_isBl,if_true]
 refine Wp.of (iSeqT_of rfl) ⟨le_size (by rw [List.length_map];omega),?_⟩
 refine Wp.of (comp_ints (fun _=>true) (fun x=>.bl (decide (0<=x)&&decide (x<8))) ns fun n _=>⟨[some (.int n)],rfl,rfl,fun _=>?_⟩) ?_
 ·refine Wp.eq ?_
  simp only [wp_ok,wp_loc0,wp_aNil,wp_aCons,wp_call,true_and,mark_eq,true_and]
 ·rw [filter_tt]
  refine Wp.of (all_bls _ _ _) ?_
  have e:(ns.all fun x=>decide (0<=x)&&decide (x<8))=true:=by
   rw [List.all_eq_true]
   intro x hx
   have:=h.lo x hx
   simp only [Bool.and_eq_true,decide_eq_true_eq]
   omega
  rw [e]
  simp only [wp_isBl,if_true]
  exact Wp.of (rising_eq (by omega)) ⟨by rw [rise_of h.up],rfl⟩
structure GRun (rs:List (List Int)):Prop where
 lo:1<=rs.length
 hi:rs.length<=10
 mks:∀r∈rs,Mks 8 r
noncomputable abbrev rD (rs:List (List Int)):D:=.tup (rs.map mD)
end DI
namespace DI
open PySem L2
theorem ixT_of {xs:List D} {j:Nat} {d:D} {s:Sto} (h:xs[j]?=some d):opIx (.tup xs) (.int j) s=ok d s:=by
 unfold opIx ixD
 rw [show res (.tup xs) s=.tup xs from rfl]
 simp only [atI_nat h]
 rfl
theorem getD_some {α:Type} {xs:List α} {i:Nat} {d:α} (h:i<xs.length):xs[i]?=some (xs.getD i d):=by
 rw [List.getD_eq_getElem?_getD,List.getElem?_eq_getElem h]
 rfl
theorem ixR {rs:List (List Int)} {i:Nat} {s:Sto} (h:i<rs.length):opIx (rD rs) (.int i) s=ok (mD (rs.getD i [])) s:=ixT_of (by rw [List.getElem?_map,getD_some (d:=[]) h];rfl)
theorem lenR {rs:List (List Int)} {s:Sto}:bLen [rD rs] s=ok (.int rs.length) s:=by
 show ok (D.int (rs.map mD).length) s=_
 rw [List.length_map]
theorem rng_map (lo:Int) (n:Nat):rng lo n=(List.range n).map fun i:Nat=>D.int (lo+i):=rfl
noncomputable def mayLay (rs:List (List Int)) (laid:List Int) (m:Int):Bool:=((List.range laid.length).filter fun i=>laid.getD i 0==m).all fun i=>sub (rs.getD i []) (rs.getD laid.length [])
theorem cl_map {α:Type} (d:α->D) {env0:Env} {g:D->Env->Option Env} {t:Env->Sto->Res Bool} {act:Env->Sto->Res (List D)} {s:Sto} (p:α->Bool) (h:α->List D) (xs:List α) (hh:∀x∈xs,∃env,g (d x) env0=some env/\t env s=ok (p x) s/\(p x=true->act env s=ok (h x) s)) :
  clGo g t act env0 (xs.map d) s=ok ((xs.filter p).flatMap h) s:=by
 induction xs with
 |nil=>rfl
 |cons n ns ih =>
  obtain ⟨env,h1,h2,h3⟩:=hh n List.mem_cons_self
  have ih:=ih fun n' h'=>hh n' (List.mem_cons_of_mem _ h')
  rw [List.map_cons]
  unfold clGo
  rw [h1]
  simp only [h2,ne_ok,bnd_ok]
  cases hp:p n with
  |true=>simp only [if_true,h3 hp,ne_ok,bnd_ok,ih,List.filter_cons,hp,List.flatMap_cons]
  |false=>simp only [Bool.false_eq_true,if_false,ih,List.filter_cons,hp]
theorem wp_compA {nt:Nat} {cap:List Nat} {it:Env->Sto->Res (List D)} {gd:D->Env->Option Env} {c:Env->Sto->Res Bool} {act:Env->Sto->Res (List D)} {env:Env} {s:Sto} {Q:D->Sto->Prop} :
  Wp (eCompA nt cap it gd c act env s) Q=Wp (it env s) fun ds s=>Wp (clGo gd c act (List.replicate nt none++capsE cap env) ds s) fun xs s=>xs.length<=sizeLine/\Q (.lst xs) s:=by
 unfold eCompA;simp only [wp_bnd,wp_ne,wp_lenOk,wp_ok]
noncomputable def step (rs:List (List Int)) (told:List (List Int)):List (List Int):=told.flatMap fun laid=>([0,1].filter fun m=>mayLay rs laid m).map fun m=>laid++[m]
theorem addT {a b:List Int} {s:Sto} (h:a.length+b.length<=1000000):opAdd (mD a) (mD b) s=ok (mD (a++b)) s:=by
 have e:addD (mD a) (mD b)=some (mD (a++b)):=by
  show (if fewD (a.map D.int) (b.map D.int)=true then some (D.tup (a.map D.int++b.map D.int)) else none)=_
  have hf:fewD (a.map D.int) (b.map D.int)=true:=by
   unfold fewD
   rw [List.length_map,List.length_map]
   exact decide_eq_true (le_size h)
  rw [if_pos hf]
  show some (D.tup (a.map D.int++b.map D.int))=some (D.tup ((a++b).map D.int))
  rw [List.map_append]
 show pur (addD (mD a) (mD b)) s=_
 rw [e]
 rfl
end DI
namespace DI
open PySem L2
noncomputable def brk (l:List Int):List Int:=((List.range (l.length-1)).filter fun i=>l.getD (i+1) 0==l.getD i 0).map fun i:Nat=>1+(i:Int)
end DI
namespace DI
section
variable {α:Type} (r:α->α->Bool)
def Anti (l:List α):Prop:=l.Pairwise fun a b=>r a b=false
structure IsMax (hs:List α) (m:Nat):Prop where
 ex:∃l,l.Sublist hs/\Anti r l/\l.length=m
 le:∀l,l.Sublist hs->Anti r l->l.length<=m
variable {r}
theorem IsMax.eq {hs:List α} {m m':Nat} (h:IsMax r hs m) (g:IsMax r hs m'):m=m':=by
 obtain ⟨l,h1,h2,h3⟩:=h.ex
 obtain ⟨l',g1,g2,g3⟩:=g.ex
 have:=h.le l' g1 g2
 have:=g.le l h1 h2
 omega
theorem Anti.perm (hr:∀a b,r a b=r b a) {l m:List α} (h:l.Perm m) (a:Anti r l):Anti r m:=h.pairwise a fun {x y} z=>(hr y x).trans z
theorem IsMax.perm (hr:∀a b,r a b=r b a) {hs gs:List α} {m:Nat} (p:hs.Perm gs) (h:IsMax r hs m):IsMax r gs m:=by
 obtain ⟨l,h1,h2,h3⟩:=h.ex
 obtain ⟨l',p',s'⟩:=List.exists_perm_sublist h1 p
 refine ⟨⟨l',s',h2.perm hr p'.symm,by rw [p'.length_eq];exact h3⟩,fun k k1 k2=>?_⟩
 obtain ⟨k',q',t'⟩:=List.exists_perm_sublist k1 p.symm
 rw [<- q'.length_eq]
 exact h.le k' t' (k2.perm hr q'.symm)
theorem IsMax.map {β:Type} {r':β->β->Bool} {f:α->β} {hs:List α} {m:Nat} (hf:∀a∈hs,∀b∈hs,r' (f a) (f b)=r a b) (h:IsMax r hs m):IsMax r' (hs.map f) m:=by
 have key:∀l:List α,l.Sublist hs->(Anti r' (l.map f)↔Anti r l):=fun l hl=>by
  unfold Anti
  rw [List.pairwise_map]
  have e:∀a∈l,∀b∈l,r' (f a) (f b)=r a b:=fun a ha b hb=>hf a (hl.subset ha) b (hl.subset hb)
  constructor
  ·exact fun z=>z.imp_of_mem fun {a b} ha hb q=>by rw [<- e a ha b hb];exact q
  ·exact fun z=>z.imp_of_mem fun {a b} ha hb q=>by rw [e a ha b hb];exact q
 obtain ⟨l,h1,h2,h3⟩:=h.ex
 refine ⟨⟨l.map f,h1.map f,(key l h1).mpr h2,by rw [List.length_map];exact h3⟩,fun k k1 k2=>?_⟩
 obtain ⟨k',t',rfl⟩:=List.sublist_map_iff.mp k1
 rw [List.length_map]
 exact h.le k' t' ((key k' t').mp k2)
theorem sub_cons {x:α} {l t:List α} (h:l.Sublist (x::t)):l.Sublist t\/∃l',l=x::l'/\l'.Sublist t:=by
 cases h with
 |cons _ h=>exact .inl h
 |cons_cons _ h=>exact .inr ⟨_,rfl,h⟩
theorem perm_erase {hs:List α} {i:Nat} {x:α} (h:hs[i]?=some x):hs.Perm (x::hs.eraseIdx i):=by
 induction hs generalizing i with
 |nil=>simp at h
 |cons a t ih =>
  cases i with
  |zero=>cases h;exact .refl _
  |succ i =>
   rw [List.eraseIdx_cons_succ]
   exact ((ih (by simpa using h)).cons a).trans (List.Perm.swap x a _)
theorem IsMax.erase (hr:∀a b,r a b=r b a) {hs:List α} {i m m':Nat} {x:α} (hi:hs[i]?=some x) (h:IsMax r hs m) (g:IsMax r (hs.eraseIdx i) m'):m'<=m/\m<=m' + 1:=by
 obtain ⟨l',g1,g2,g3⟩:=g.ex
 refine ⟨by rw [<- g3];exact h.le l' (g1.trans (List.eraseIdx_sublist _ _)) g2,?_⟩
 obtain ⟨l,h1,h2,h3⟩:=(h.perm hr (perm_erase hi)).ex
 rcases sub_cons h1 with e | ⟨k,rfl,e⟩
 ·have:=g.le l e h2;omega
 ·have:=g.le k e (List.pairwise_cons.mp h2).2
  rw [List.length_cons] at h3
  omega
theorem IsMax.two {hs:List α} {m:Nat} {ms:List Int} (h:IsMax r hs m) (hl:ms.length=hs.length) (h01:∀i∈ms,i=0\/i=1) (hp:(hs.zip ms).Pairwise fun a b=>a.2=b.2->r a.1 b.1=true):m<=2:=by
 obtain ⟨l,h1,h2,rfl⟩:=h.ex
 have e:hs=(hs.zip ms).map Prod.fst:=by rw [List.map_fst_zip (by omega)]
 rw [e] at h1
 obtain ⟨k,k1,rfl⟩:=List.sublist_map_iff.mp h1
 have q:=hp.sublist k1
 unfold Anti at h2
 rw [List.pairwise_map] at h2
 have sorts:∀p∈k,p.2=0\/p.2=1:=fun p hp=>by
  have:=k1.subset hp
  exact h01 p.2 (List.of_mem_zip (show (p.1,p.2)∈hs.zip ms from this)).2
 have d:k.Pairwise fun a b=>a.2≠b.2:=(q.and h2).imp fun {a b} z e=>by
  have:=z.1 e
  rw [z.2] at this
  cases this
 rw [List.length_map]
 match k,d,sorts with
 | [],_,_=>simp
 | [_],_,_=>simp
 | [_,_],_,_=>simp
 |a::b::c::_,d,s =>
  exfalso
  obtain ⟨d1,d2⟩:=List.pairwise_cons.mp d
  have e1:=d1 b (by simp)
  have e2:=d1 c (by simp)
  have e3:=(List.pairwise_cons.mp d2).1 c (by simp)
  have s1:=s a (by simp)
  have s2:=s b (by simp)
  have s3:=s c (by simp)
  omega
end
end DI
namespace DI
open PySem L2
theorem eqNil {ns:List Int} {s:Sto}:opEq (.lst (ns.map D.int)) (.lst []) s=ok (.bl ns.isEmpty) s:=by
 have l1:lay (.lst (ns.map D.int))=true:=by simp only [lay,lays_ints]
 have e:eqAns (.lst (ns.map D.int)) (.lst [])=some ns.isEmpty:=by
  unfold eqAns
  rw [if_neg (show ¬ (isS (.lst _)&&isS (.lst _))=true from Bool.false_ne_true),if_pos (by rw [l1,show lay (.lst [])=true from rfl,decide_eq_true (Nat.le_trans (Nat.min_le_right (dep (.lst (ns.map D.int))) (dep (.lst []))) (by decide))];rfl)]
  cases ns with
  |nil=>rfl
  |cons _ _=>rfl
 show (match eqAns (.lst (ns.map D.int)) (.lst []) with|some b=>ok (D.bl b) s|none=>none)=_
 rw [e]
theorem appLast {c:Sto} {ds:List D} {x:D} (h:ds.length<=1000000):appD (.han c.length) x (c++[.lst ds])=ok .non (c++[.lst (ds++[x])]):=by
 unfold appD
 have e:(c++[Cell.lst ds])[c.length]?=some (.lst ds):=by simp
 have hl:ds.length<sizeLine:=Nat.lt_of_le_of_lt h (by decide)
 simp only [e,decide_eq_true hl,if_true]
 rw [List.set_append_right _ _ (Nat.le_refl _)]
 simp
theorem frzLast {c:Sto} {ds:List D}:frz (.han c.length) (c++[.lst ds])=ok (.lst ds) (c++[.dead]):=by
 unfold frz
 have e:(c++[Cell.lst ds])[c.length]?=some (.lst ds):=by simp
 simp only [e]
 rw [List.set_append_right _ _ (Nat.le_refl _)]
 simp
theorem addL {xs ys:List D} {s:Sto} (h:xs.length+ys.length<=1000000):opAdd (.lst xs) (.lst ys) s=ok (.lst (xs++ys)) s:=by
 have e:addD (.lst xs) (.lst ys)=some (.lst (xs++ys)):=by
  show (if fewD xs ys=true then some (D.lst (xs++ys)) else none)=_
  have hf:fewD xs ys=true:=decide_eq_true (le_size h)
  rw [if_pos hf]
 show pur (addD (.lst xs) (.lst ys)) s=_
 rw [e]
 rfl
end DI
namespace DI
open PySem L2
end DI
namespace DI
open PySem L2
theorem Ex.get {k j:Nat} {s s':Sto} {c:Cell} (h:Ex k s s') (e:s[j]?=some c) (hj:j≠k):s'[j]?=some c:=by
 rw [h.val j (List.getElem?_eq_some_iff.mp e).1 hj]
 exact e
theorem Ex.hi {k j:Nat} {s s':Sto} (h:Ex k s s') (hj:s.length<=j) (c:Cell):Ex k s (s'.set j c):=⟨by rw [List.length_set];exact h.len,fun i hi hk=>by rw [List.getElem?_set_ne (by omega)];exact h.val i hi hk⟩
theorem usort_mks {a b:List Int} (ha:Mks 8 a) (hb:Mks 8 b):Mks 8 (usort (a++b)):=⟨fun x hx=>by
 rw [usort_mem] at hx
 rcases List.mem_append.mp hx with h|h
 ·exact ha.lo x h
 ·exact hb.lo x h,usort_sorted _⟩
structure RI (s0:Sto) (k rh mh:Nat) (rs:List (List Int)) (s:Sto):Prop where
 st:StAt s k
 ex:Ex k s0 s
 run:s[rh]?=some (.lst (rs.map mD))
 mo:∃a b,s[mh]?=some (.lst [mD a,mD b])/\Mks 8 a/\Mks 8 b
 mks:∀r∈rs,Mks 8 r
 k1:k<s0.length
 r1:s0.length<=rh
 m1:s0.length<=mh
 ne:rh≠mh
theorem RI.draw {s0 s s':Sto} {k rh mh:Nat} {rs:List (List Int)} (h:RI s0 k rh mh rs s) (g:StAt s' k) (x:Ex k s s'):RI s0 k rh mh rs s':=by
 have:=h.k1
 have:=h.r1
 have:=h.m1
 obtain ⟨a,b,e,ha,hb⟩:=h.mo
 exact ⟨g,h.ex.trans x,x.get h.run (by omega),⟨a,b,x.get e (by omega),ha,hb⟩,h.mks,h.k1,h.r1,h.m1,h.ne⟩
theorem RI.push {s0 s:Sto} {k rh mh:Nat} {rs:List (List Int)} {r:List Int} (h:RI s0 k rh mh rs s) (hr:Mks 8 r):RI s0 k rh mh (rs++[r]) (s.set rh (.lst (rs.map mD++[mD r]))):=by
 have:=h.k1
 have:=h.r1
 have:=h.m1
 have:=h.ne
 obtain ⟨a,b,e,ha,hb⟩:=h.mo
 refine ⟨h.st.set (by omega) _,h.ex.hi (by omega) _,?_,⟨a,b,by rw [List.getElem?_set_ne (by omega)];exact e,ha,hb⟩,fun x hx=>?_,h.k1,h.r1,h.m1,h.ne⟩
 ·rw [List.getElem?_set_self (List.getElem?_eq_some_iff.mp h.run).1,List.map_append]
  rfl
 ·rcases List.mem_append.mp hx with hx|hx
  ·exact h.mks x hx
  ·rw [List.mem_singleton.mp hx];exact hr
theorem RI.put {s0 s:Sto} {k rh mh:Nat} {rs:List (List Int)} {at_:Int} (h:RI s0 k rh mh rs s) (h0:at_=0\/at_=1):(∃a,opIx (.han mh) (.int at_) s=ok (mD a) s/\Mks 8 a)/\∀c,Mks 8 c->∃s',setD (.han mh) (.int at_) (mD c) s=some s'/\RI s0 k rh mh rs s':=by
 have:=h.k1
 have:=h.r1
 have:=h.m1
 have:=h.ne
 obtain ⟨a,b,e,ha,hb⟩:=h.mo
 have key:∀a b,Mks 8 a->Mks 8 b->RI s0 k rh mh rs (s.set mh (.lst [mD a,mD b])):=fun a b ha hb=>⟨h.st.set (by omega) _,h.ex.hi (by omega) _,by rw [List.getElem?_set_ne (by omega)];exact h.run,⟨a,b,List.getElem?_set_self (List.getElem?_eq_some_iff.mp e).1,ha,hb⟩,h.mks,h.k1,h.r1,h.m1,h.ne⟩
 rcases h0 with rfl|rfl
 ·exact ⟨⟨a,ix0 _ _ _ _ e,ha⟩,fun c hc=>⟨_,set0 _ _ _ _ _ e,key _ _ hc hb⟩⟩
 ·exact ⟨⟨b,ix1 _ _ _ _ e,hb⟩,fun c hc=>⟨_,set1 _ _ _ _ _ e,key _ _ ha hc⟩⟩
theorem Mks.up8 {n:Nat} {l:List Int} (h:Mks n l) (hn:n<=8):Mks 8 l:=⟨fun x hx=>by have:=h.lo x hx;omega,h.up⟩
end DI
namespace DI
open PySem L2
noncomputable def tog (a b:List Int):Bool:=sub b a||sub a b
theorem tog_comm (a b:List Int):tog a b=tog b a:=Bool.or_comm _ _
theorem sub_refl (a:List Int):sub a a=true:=sub_iff.mpr fun _ h=>h
noncomputable def strange (rs:List (List Int)) (ps:List Nat) (k:Nat):Bool:=!(ps.any fun j=>tog (rs.getD k []) (rs.getD j []))
noncomputable def anti (rs:List (List Int)):Nat->List (List Nat)
 |0=>[[]]
 |k+1=>anti rs k++((anti rs k).filter fun ps=>strange rs ps k).map fun ps=>ps++[k]
theorem anti_len (rs:List (List Int)) (k:Nat):(anti rs k).length<=2 ^ k:=by
 induction k with
 |zero=>exact Nat.le_refl 1
 |succ k ih =>
  have:=List.length_filter_le (fun ps=>strange rs ps k) (anti rs k)
  rw [anti,List.length_append,List.length_map,Nat.pow_succ]
  omega
theorem anti_each {rs:List (List Int)} (k:Nat):∀ps∈anti rs k,ps.length<=k/\∀p∈ps,p<k:=by
 induction k with
 |zero=>intro ps h;rw [List.mem_singleton.mp h];exact ⟨Nat.le_refl _,fun p hp=>absurd hp (List.not_mem_nil)⟩
 |succ k ih =>
  intro ps h
  rcases List.mem_append.mp h with h|h
  ·exact ⟨Nat.le_succ_of_le (ih ps h).1,fun p hp=>Nat.lt_succ_of_lt ((ih ps h).2 p hp)⟩
  ·obtain ⟨qs,hq,rfl⟩:=List.mem_map.mp h
   have:=ih qs (List.mem_filter.mp hq).1
   refine ⟨by rw [List.length_append];exact Nat.succ_le_succ this.1,fun p hp=>?_⟩
   rcases List.mem_append.mp hp with hp|hp
   ·exact Nat.lt_succ_of_lt (this.2 p hp)
   ·rw [List.mem_singleton.mp hp];exact Nat.lt_succ_self _
noncomputable abbrev its (rs:List (List Int)) (ps:List Nat):List (List Int):=ps.map fun p=>rs.getD p []
theorem take_more {rs:List (List Int)} {k:Nat} (h:k<rs.length):rs.take (k+1)=rs.take k++[rs.getD k []]:=by
 rw [List.take_succ,getD_some (d:=[]) h]
 rfl
theorem strange_iff {rs:List (List Int)} {ps:List Nat} {k:Nat}:strange rs ps k=true↔∀a∈its rs ps,tog a (rs.getD k [])=false:=by
 unfold strange its
 simp only [Bool.not_eq_true',List.any_eq_false,List.mem_map,forall_exists_index,and_imp,forall_apply_eq_imp_iff₂]
 constructor
 ·intro h a ha;rw [tog_comm];exact Bool.eq_false_iff.mpr (h a ha)
 ·intro h a ha;rw [tog_comm];exact Bool.eq_false_iff.mp (h a ha)
theorem anti_snoc {l:List (List Int)} {x:List Int}:Anti tog (l++[x])↔Anti tog l/\∀a∈l,tog a x=false:=by
 unfold Anti
 rw [List.pairwise_append]
 simp
theorem anti_sub {rs:List (List Int)} (k:Nat) (hk:k<=rs.length):∀ps∈anti rs k,(its rs ps).Sublist (rs.take k)/\Anti tog (its rs ps):=by
 induction k with
 |zero=>intro ps h;rw [List.mem_singleton.mp h];exact ⟨.slnil,.nil⟩
 |succ k ih =>
  intro ps h
  rw [take_more hk]
  rcases List.mem_append.mp h with h|h
  ·obtain ⟨h1,h2⟩:=ih (by omega) ps h
   exact ⟨h1.trans (List.sublist_append_left _ _),h2⟩
  ·obtain ⟨qs,hq,rfl⟩:=List.mem_map.mp h
   obtain ⟨hq,hs⟩:=List.mem_filter.mp hq
   obtain ⟨h1,h2⟩:=ih (by omega) qs hq
   have e:its rs (qs++[k])=its rs qs++[rs.getD k []]:=List.map_append
   rw [e]
   exact ⟨h1.append (.refl _),anti_snoc.mpr ⟨h2,strange_iff.mp hs⟩⟩
theorem anti_all {rs:List (List Int)} (k:Nat) (hk:k<=rs.length):∀l,l.Sublist (rs.take k)->Anti tog l->∃ps∈anti rs k,its rs ps=l:=by
 induction k with
 |zero=>intro l h _;rw [List.sublist_nil.mp h];exact ⟨[],List.mem_singleton.mpr rfl,rfl⟩
 |succ k ih =>
  intro l h ha
  rw [take_more hk] at h
  obtain ⟨l1,l2,rfl,h1,h2⟩:=List.sublist_append_iff.mp h
  have:l2=[]\/l2=[rs.getD k []]:=by
   rcases sub_cons h2 with e | ⟨m,rfl,e⟩
   ·exact .inl (List.sublist_nil.mp e)
   ·rw [List.sublist_nil.mp e];exact .inr rfl
  rcases this with rfl|rfl
  ·rw [List.append_nil] at ha |-
   obtain ⟨ps,p1,p2⟩:=ih (by omega) l1 h1 ha
   exact ⟨ps,List.mem_append_left _ p1,p2⟩
  ·obtain ⟨a1,a2⟩:=anti_snoc.mp ha
   obtain ⟨ps,p1,rfl⟩:=ih (by omega) l1 h1 a1
   exact ⟨ps++[k],List.mem_append_right _ (List.mem_map.mpr ⟨ps,List.mem_filter.mpr ⟨p1,strange_iff.mpr a2⟩,rfl⟩),List.map_append⟩
noncomputable def foldM:List Nat->List (List Nat)->List Nat
 |b,[]=>b
 |b,y::ys=>if b.length<y.length then foldM y ys else foldM b ys
theorem foldM_of (ys:List (List Nat)):∀b,(foldM b ys∈b::ys)/\∀z∈b::ys,z.length<=(foldM b ys).length:=by
 induction ys with
 |nil=>intro b;exact ⟨List.mem_singleton.mpr rfl,fun z hz=>by rw [List.mem_singleton.mp hz];exact Nat.le_refl _⟩
 |cons y ys ih =>
  intro b
  unfold foldM
  split<;>rename_i h
  ·obtain ⟨h1,h2⟩:=ih y
   refine ⟨List.mem_cons_of_mem _ h1,fun z hz=>?_⟩
   rcases List.mem_cons.mp hz with rfl|hz
   ·have:=h2 y List.mem_cons_self;omega
   ·exact h2 z hz
  ·obtain ⟨h1,h2⟩:=ih b
   refine ⟨?_,fun z hz=>?_⟩
   ·rcases List.mem_cons.mp h1 with e|e
    ·rw [e];exact List.mem_cons_self
    ·exact List.mem_cons_of_mem _ (List.mem_cons_of_mem _ e)
   ·rcases List.mem_cons.mp hz with rfl|hz
    ·exact h2 z List.mem_cons_self
    ·rcases List.mem_cons.mp hz with rfl|hz
     ·have:=h2 b List.mem_cons_self;omega
     ·exact h2 z (List.mem_cons_of_mem _ hz)
noncomputable def longest:List (List Nat)->List Nat
 | []=>[]
 |x::xs=>foldM x xs
noncomputable def mx (rs:List (List Int)):Nat:=(longest (anti rs rs.length)).length
theorem anti_ne (rs:List (List Int)) (k:Nat):∃x xs,anti rs k=x::xs:=by
 induction k with
 |zero=>exact ⟨[],[],rfl⟩
 |succ k ih =>
  obtain ⟨x,xs,e⟩:=ih
  rw [anti,e]
  exact ⟨x,_,rfl⟩
theorem mx_max (rs:List (List Int)):IsMax tog rs (mx rs):=by
 obtain ⟨x,xs,e⟩:=anti_ne rs rs.length
 have hm:mx rs=(foldM x xs).length:=by unfold mx;rw [e];rfl
 obtain ⟨h1,h2⟩:=foldM_of xs x
 rw [<- e] at h1 h2
 rw [hm]
 constructor
 ·obtain ⟨a1,a2⟩:=anti_sub rs.length (Nat.le_refl _) _ h1
  rw [List.take_length] at a1
  exact ⟨_,a1,a2,List.length_map _⟩
 ·intro l hl ha
  obtain ⟨ps,p1,rfl⟩:=anti_all rs.length (Nat.le_refl _) l (by rw [List.take_length];exact hl) ha
  rw [List.length_map]
  exact h2 ps p1
noncomputable abbrev pD (ps:List Nat):D:=.tup (ps.map fun p:Nat=>D.int p)
structure GH (rs:List (List Int)):Prop where
 hi:rs.length<=9
 mks:∀r∈rs,Mks 8 r
theorem GH.run {rs:List (List Int)} (h:GH rs) (h1:1<=rs.length):GRun rs:=⟨h1,by have:=h.hi;omega,h.mks⟩
theorem GH.at {rs:List (List Int)} (h:GH rs) (i:Nat):(rs.getD i []).length<=1000000:=by
 by_cases hi:i<rs.length
 ·have:=(h.mks _ (List.mem_of_getElem? (getD_some (d:=[]) hi))).len
  omega
 ·rw [List.getD_eq_getElem?_getD,List.getElem?_eq_none (by omega)]
  exact Nat.zero_le _
theorem any_bls {α:Type} (p:α->Bool) (xs:List α) (s:Sto):bAny [.lst (xs.map fun x=>D.bl (p x))] s=ok (.bl (xs.any p)) s:=by
 have e:bls (xs.map fun x=>D.bl (p x))=some (xs.map p):=by
  have:=bls_map (bs:=xs.map p)
  rw [List.map_map] at this
  exact this
 show pur ((bls (xs.map fun x=>D.bl (p x))).map fun (bs:List Bool)=>D.bl (bs.any id)) s=_
 rw [e]
 show ok (D.bl ((xs.map p).any id)) s=_
 rw [List.any_map]
 rfl
theorem GH.get {rs:List (List Int)} (h:GH rs) {i:Nat} (hi:i<rs.length) {s:Sto}:opIx (rD rs) (.int i) s=ok (mD (rs.getD i [])) s:=ixR hi
theorem strange_eq {rs:List (List Int)} {ps:List Nat} {k:Nat} {s:Sto} (h:GH rs) (hk:k<rs.length) (hp:∀p∈ps,p<k) (hl:ps.length<=9):k42.f_is_strange [rD rs,pD ps,.int k] s=ok (.bl (strange rs ps k)) s:=by
 refine Wp.eq ?_
 unfold k42.f_is_strange
 simp only [wp_ok,wp_loc0,wp_locS,wp_e2,wp_aNil,wp_aCons,wp_eB,wp_eNot,wp_sRet,wp_sSeq,aft_nx,wp_sAsg,asg_N,wp_fn,fin_rt,wp_comp,List.map_cons,List.map_nil,List.cons_append,List.nil_append,List.length_cons,List.length_nil,List.set_cons_succ,List.set_cons_zero,List.replicate,true_and,Nat.reduceSub,Nat.reduceAdd,ixR hk]
 refine Wp.of (iSeqT_of rfl) ⟨le_size (by rw [List.length_map];omega),?_⟩
 refine Wp.of (comp_map (fun p:Nat=>D.int p) (fun _=>true) (fun p=>.bl (tog (rs.getD k []) (rs.getD p []))) ps fun p hp'=>⟨[some (.int p),some (mD (rs.getD k [])),some (rD rs)],rfl,rfl,fun _=>?_⟩) ?_
 ·have:=hp p hp'
  refine Wp.eq ?_
  simp only [wp_ok,wp_loc0,wp_locS,wp_e2,wp_aNil,wp_aCons,wp_call,wp_isBl,wp_eOr,ixR (show p<rs.length by omega),has_all_eq (h.at p),has_all_eq (h.at k)]
  unfold tog
  cases sub (rs.getD p []) (rs.getD k [])<;>simp
 ·rw [filter_tt]
  refine Wp.of (any_bls _ _ _) ?_
  simp only [wp_isBl,and_true]
  rfl
theorem addP {a b:List Nat} {s:Sto} (h:a.length+b.length<=1000000):opAdd (pD a) (pD b) s=ok (pD (a++b)) s:=by
 have e:addD (pD a) (pD b)=some (pD (a++b)):=by
  show (if fewD (a.map fun p:Nat=>D.int p) (b.map fun p:Nat=>D.int p)=true then some (D.tup ((a.map fun p:Nat=>D.int p)++(b.map fun p:Nat=>D.int p))) else none)=_
  have hf:fewD (a.map fun p:Nat=>D.int p) (b.map fun p:Nat=>D.int p)=true:=by
   unfold fewD
   rw [List.length_map,List.length_map]
   exact decide_eq_true (le_size h)
  rw [if_pos hf]
  show some (D.tup ((a.map fun p:Nat=>D.int p)++(b.map fun p:Nat=>D.int p)))=some (D.tup ((a++b).map fun p:Nat=>D.int p))
  rw [List.map_append]
 show pur (addD (pD a) (pD b)) s=_
 rw [e]
 rfl
theorem lenP {ps:List Nat} {s:Sto}:bLen [pD ps] s=ok (.int ps.length) s:=by
 show ok (D.int (ps.map fun p:Nat=>D.int p).length) s=_
 rw [List.length_map]
theorem mml_eq {s:Sto} (ys:List (List Nat)):∀b,mmGo (fun d s=>bLen [d] s) opGt (pD b) (.int b.length) (ys.map pD) s=ok (pD (foldM b ys)) s:=by
 induction ys with
 |nil=>intro b;rfl
 |cons y ys ih =>
  intro b
  rw [List.map_cons]
  unfold mmGo
  simp only [lenP,ne_ok,bnd_ok,gtI,foldM]
  by_cases h:b.length<y.length
  ·rw [decide_eq_true (show (b.length:Int)<y.length by omega),if_pos h]
   exact ih y
  ·rw [decide_eq_false (show ¬ (b.length:Int)<y.length by omega),if_neg h]
   exact ih b
theorem pow9 {k:Nat} (h:k<=9):2 ^ k<=512:=by
 calc 2 ^ k<=2 ^ 9:=Nat.pow_le_pow_right (by decide) h
  _=512:=by decide
theorem most_eq {rs:List (List Int)} {s:Sto} (h:GH rs):k42.f_most_strangers [rD rs] s=ok (pD (longest (anti rs rs.length))) s:=by
 have hi:=h.hi
 refine Wp.eq ?_
 unfold k42.f_most_strangers
 simp only [wp_aNil,wp_aCons,wp_tup,wp_lst,wp_sSeq,aft_nx,wp_sAsg,asg_N,wp_sFor,wp_fn,List.map_cons,List.map_nil,List.cons_append,List.nil_append,List.length_cons,List.length_nil,List.set_cons_succ,List.set_cons_zero,List.replicate,true_and,Nat.reduceSub,Nat.reduceAdd]
 refine ⟨by decide,by decide,?_⟩
 refine Wp.of (iR1_of (s1:=s) (n:=rs.length) (Wp.eq (by simp only [wp_ok,wp_loc0,wp_aNil,wp_aCons,wp_eB,lenR,and_self])) (by omega)) ?_
 refine Wp.for_ (fun i env s'=>s'=s/\∃x,env=[some (rD rs),some (.lst ((anti rs i).map pD)),x]) _ ⟨rfl,_,rfl⟩ (fun i d env s' hd hI=>?_) (fun env s' hI=>?_)
 ·obtain ⟨rfl,x,rfl⟩:=hI
  rw [rng_get] at hd
  split at hd
  ·rename_i hi'
   cases hd
   refine ⟨_,rfl,?_⟩
   have l1:=anti_len rs i
   have l2:=pow9 (show i<=9 by omega)
   simp only [wp_loc0,wp_locS,wp_e1,wp_e2,wp_sRet,aft_nx,aft_rt,wp_sAsg,asg_N,fin_rt,wp_comp,List.set_cons_succ,List.set_cons_zero,Int.zero_add]
   refine Wp.of (iSeqL_of rfl) ⟨le_size (by rw [List.length_map];omega),?_⟩
   refine Wp.of (comp_map pD (fun ps=>strange rs ps i) (fun ps=>pD (ps++[i])) (anti rs i) fun ps hp=>⟨[some (pD ps),some (.int i),some (rD rs)],rfl,?_,fun _=>?_⟩) ?_
   ·obtain ⟨p1,p2⟩:=anti_each i ps hp
    refine Wp.eq ?_
    simp only [wp_ok,wp_loc0,wp_locS,wp_aNil,wp_aCons,wp_call,wp_tru,wp_truB,strange_eq h hi' p2 (show ps.length<=9 by omega),and_self]
   ·obtain ⟨p1,p2⟩:=anti_each i ps hp
    refine Wp.eq ?_
    simp only [wp_loc0,wp_locS,wp_e2,wp_aNil,wp_aCons,wp_tup,List.length_cons,List.length_nil,Nat.reduceAdd]
    refine ⟨by decide,?_⟩
    exact Wp.of (show opAdd (pD ps) (.tup [.int i]) _=_ from addP (b:=[i]) (by simp;omega)) ⟨rfl,rfl⟩
   ·have e:((anti rs i).map pD)++(((anti rs i).filter fun ps=>strange rs ps i).map fun ps=>pD (ps++[i]))=(anti rs (i+1)).map pD:=by
     rw [anti,List.map_append,List.map_map]
     rfl
    have l3:=List.length_filter_le (fun ps=>strange rs ps i) (anti rs i)
    refine Wp.of (addL (by simp only [List.length_map];omega)) ?_
    rw [e]
    exact ⟨rfl,_,rfl⟩
  ·cases hd
 ·obtain ⟨rfl,x,rfl⟩:=hI
  rw [rng_len]
  simp only [wp_loc0,wp_locS,wp_e1,wp_sRet,aft_nx,fin_rt]
  obtain ⟨y,ys,e⟩:=anti_ne rs rs.length
  rw [e,List.map_cons]
  show Wp (bnd (ne (bLen [pD y] s')) fun k s=>mmGo (fun d s=>bLen [d] s) opGt (pD y) k (ys.map pD) s) _
  rw [lenP,ne_ok,bnd_ok]
  exact Wp.of (mml_eq ys y) ⟨rfl,rfl⟩
theorem heap_eq {rs:List (List Int)} {s:Sto} (h:GH rs) (h1:1<=rs.length):k42.f_need_heap [rD rs] s=ok .non s:=by
 have h2:=h.hi
 have hlaid:f_are_laid_marks [rD rs,.int 9] s=ok (.bl true) s:=by
  refine Wp.eq ?_
  unfold f_are_laid_marks
  simp only [wp_loc0,wp_locS,wp_C,wp_aNil,wp_aCons,wp_eB,wp_isBl,wp_eAnd,wp_eCh,wp_sRet,wp_fn,fin_rt,wp_comp,List.map_cons,List.map_nil,List.cons_append,List.nil_append,List.length_cons,List.length_nil,List.replicate,true_and,Nat.reduceSub,Nat.reduceAdd]
  refine Wp.of (show bIsi [rD rs,.ty "tuple"] s=ok (.bl true) s from rfl) ?_
  simp only [wp_isBl,if_true]
  refine Wp.of (show bLen [rD rs] s=ok (.int (rs.map mD).length) s from rfl) ?_
  rw [List.length_map]
  simp only [wp_isBl,wp_leI]
  rw [decide_eq_true (show (1:Int)<=rs.length by omega),decide_eq_true (show (rs.length:Int)<=9 by omega)]
  simp only [if_true]
  refine Wp.of (iSeqT_of rfl) ⟨le_size (by rw [List.length_map];omega),?_⟩
  refine Wp.of (comp_map mD (fun _=>true) (fun _=>.bl true) rs fun r hr=>⟨[some (mD r)],rfl,rfl,fun _=>?_⟩) ?_
  ·refine Wp.eq ?_
   simp only [wp_ok,wp_loc0,wp_aNil,wp_aCons,wp_call,true_and,marks_true (h.mks r hr),true_and]
  ·rw [filter_tt]
   exact Wp.of (all_bls (fun _=>true) _ _) ⟨by simp,rfl⟩
 refine Wp.eq ?_
 unfold k42.f_need_heap
 simp only [wp_ok,wp_loc0,wp_C,wp_aNil,wp_aCons,wp_call,wp_tru,wp_truB,wp_tNot,wp_sNil,wp_sIf,wp_fn,fin_nx,List.map_cons,List.map_nil,List.cons_append,List.nil_append,List.length_cons,List.length_nil,List.replicate,true_and,Nat.reduceSub,Nat.reduceAdd,hlaid,Bool.not_true,Bool.false_eq_true,if_false,true_and]
theorem fewest_eq {rs:List (List Int)} {s:Sto} (h:GH rs) (h1:1<=rs.length):k42.f_fewest [rD rs] s=ok (.int (mx rs)) s:=by
 refine Wp.eq ?_
 unfold k42.f_fewest
 simp only [wp_ok,wp_loc0,wp_aNil,wp_aCons,wp_eB,wp_call,wp_sRet,wp_sExpr,wp_sSeq,aft_nx,wp_fn,fin_rt,List.map_cons,List.map_nil,List.cons_append,List.nil_append,List.length_cons,List.length_nil,List.replicate,true_and,Nat.reduceSub,Nat.reduceAdd,heap_eq h h1,most_eq h,lenP,and_true]
 rfl
theorem cut_take {xs:List D} {k:Nat} (h:k<=xs.length):cutD xs none (some k)=xs.take k:=by
 unfold cutD
 rw [HT.sIx_nat]
 show (xs.drop 0).take (min k xs.length-0)=_
 rw [Nat.min_eq_left h]
 rfl
theorem cut_drop {xs:List D} {k:Nat}:cutD xs (some k) none=xs.drop k:=by
 unfold cutD
 rw [HT.sIx_nat]
 show (xs.drop (min k xs.length)).take (xs.length-min k xs.length)=_
 by_cases h:k<=xs.length
 ·rw [Nat.min_eq_left h]
  apply List.take_of_length_le
  simp
 ·rw [Nat.min_eq_right (by omega),List.drop_of_length_le (Nat.le_refl _),List.drop_of_length_le (by omega)]
  simp
theorem sl_take {env:Env} {f g:Env->Sto->Res D} {xs:List D} {k:Nat} {s:Sto} (hf:f env s=ok (.tup xs) s) (hg:g env s=ok (.int k) s) (h:k<=xs.length):eSl f pNo (pInt g) env s=ok (.tup (xs.take k)) s:=by
 refine Wp.eq ?_
 rw [wp_sl,hf,wp_ok,wp_pNo,wp_pInt hg]
 refine Wp.of (show sliceD (.tup xs) none (some k) s=ok (.tup (cutD xs none (some k))) s from rfl) ⟨?_,rfl⟩
 rw [cut_take h]
theorem sl_drop {env:Env} {f g:Env->Sto->Res D} {xs:List D} {k:Nat} {s:Sto} (hf:f env s=ok (.tup xs) s) (hg:g env s=ok (.int k) s):eSl f (pInt g) pNo env s=ok (.tup (xs.drop k)) s:=by
 refine Wp.eq ?_
 rw [wp_sl,hf,wp_ok,wp_pInt hg,wp_pNo]
 refine Wp.of (show sliceD (.tup xs) (some k) none s=ok (.tup (cutD xs (some k) none)) s from rfl) ⟨?_,rfl⟩
 rw [cut_drop]
theorem GH.less {rs:List (List Int)} (h:GH rs) (p:Nat):GH (rs.eraseIdx p):=⟨Nat.le_trans (List.length_eraseIdx_le _ _) h.hi,fun r hr=>h.mks r ((List.eraseIdx_sublist rs p).subset hr)⟩
end DI
namespace DI
open PySem L2
def Sf (s:Sto) (k:Nat):Prop:=∃(a:Int) (b:Bool),s[k]?=some (.lst [.int a,.bl b])/\0<=a/\(b=false->a<2147483647)
theorem Sf.lt {s:Sto} {k:Nat} (h:Sf s k):k<s.length:=by
 obtain ⟨a,b,e,_⟩:=h
 exact (List.getElem?_eq_some_iff.mp e).1
theorem Sf.app {s:Sto} {k:Nat} (h:Sf s k) (c:List Cell):Sf (s++c) k:=by
 obtain ⟨a,b,e,r⟩:=h
 exact ⟨a,b,by rw [List.getElem?_append_left (List.getElem?_eq_some_iff.mp e).1];exact e,r⟩
theorem Sf.set {s:Sto} {k j:Nat} (h:Sf s k) (hj:j≠k) (c:Cell):Sf (s.set j c) k:=by
 obtain ⟨a,b,e,r⟩:=h
 exact ⟨a,b,by rw [List.getElem?_set_ne hj];exact e,r⟩
theorem take44 {s:Sto} {k:Nat} {m:Int} (h:Sf s k) (h1:0<m) (h2:m<1073741824):Wp (k42.f_Ltake [.han k,.int m] s) fun d s'=>∃r:Int,d=.int r/\0<=r/\r<m/\Sf s' k/\Ex k s s':=by
 obtain ⟨a,b,e,ha,hb⟩:=h
 have hk:=(List.getElem?_eq_some_iff.mp e).1
 cases b with
 |true =>
  have es:(s.set k (.lst [.int (a / m),.bl true]))[k]?=some (.lst [.int (a / m),.bl true]):=List.getElem?_set_self hk
  refine ⟨.int (a % m),s.set k (.lst [.int (a / m),.bl true]),?_,a % m,rfl,Int.emod_nonneg _ (by omega),Int.emod_lt_of_pos _ h1,⟨a / m,true,es,Int.ediv_nonneg ha (by omega),fun z=>by cases z⟩,Ex.set _ _ _⟩
  simp only [k42.f_Ltake,fnRun,sSeq,sIf,tTru,truth,e2,eLoc_0,eLoc_s,eC,bnd_ok,List.map_cons,List.map_nil,List.cons_append,List.nil_append,ix0 _ _ k s e,ix1 _ _ k s e,List.length_cons,List.length_nil,if_true,sAsg,gN,modI s h1,sSub,divI s h1 h2,set0 _ _ _ k s e,sRet,List.set_cons_succ,List.set_cons_zero,List.replicate]
 |false =>
  have hb:=hb rfl
  have ex:0<=(a*48271+29) % 2147483647/\(a*48271+29) % 2147483647<2147483647:=⟨Int.emod_nonneg _ (by decide),Int.emod_lt_of_pos _ (by decide)⟩
  generalize hx:(a*48271+29) % 2147483647=x at ex
  have es:(s.set k (.lst [.int x,.bl false]))[k]?=some (.lst [.int x,.bl false]):=List.getElem?_set_self hk
  generalize hy:(x*x+39373*x+7) % 2147483629=y
  have ey:0<=y/\y<2147483629:=by rw [<- hy];exact ⟨Int.emod_nonneg _ (by decide),Int.emod_lt_of_pos _ (by decide)⟩
  generalize hz:(y*y+16807*y) % 2147483587=z
  refine ⟨.int (z / 8 % m),s.set k (.lst [.int x,.bl false]),?_,_,rfl,Int.emod_nonneg _ (by omega),Int.emod_lt_of_pos _ h1,⟨x,false,es,ex.1,fun _=>ex.2⟩,Ex.set _ _ _⟩
  have m1:opMul (.int a) (.int 48271) s=ok (.int (a*48271)) s:=mulI s (mulOk_of (by omega) (by omega))
  have m2:∀s',opMul (.int x) (.int x) s'=ok (.int (x*x)) s':=fun s'=>mulI s' (mulOk_of (by omega) (by omega))
  have m3:∀s',opMul (.int 39373) (.int x) s'=ok (.int (39373*x)) s':=fun s'=>mulI s' (mulOk_of (by decide) (by decide))
  have m4:∀s',opMul (.int y) (.int y) s'=ok (.int (y*y)) s':=fun s'=>mulI s' (mulOk_of (by omega) (by omega))
  have m5:∀s',opMul (.int 16807) (.int y) s'=ok (.int (16807*y)) s':=fun s'=>mulI s' (mulOk_of (by decide) (by decide))
  have i0:∀n:Int,opIx (.han k) (.int 0) (s.set k (.lst [.int x,.bl false]))=ok (.int x) (s.set k (.lst [.int x,.bl false])):=fun _=>ix0 _ _ k _ es
  simp only [k42.f_Ltake,fnRun,sSeq,sIf,tTru,truth,e2,eLoc_0,eLoc_s,eC,bnd_ok,List.map_cons,List.map_nil,List.cons_append,List.nil_append,ix0 _ _ k s e,ix1 _ _ k s e,List.length_cons,List.length_nil,Bool.false_eq_true,if_false,if_true,sNil,sAsg,gN,sSub,set0 _ _ _ k s e,sRet,List.set_cons_succ,List.set_cons_zero,List.replicate,m1,m2,m3,m4,m5,addI,modI _ (show (0:Int)<2147483647 by decide),modI _ (show (0:Int)<2147483629 by decide),modI _ (show (0:Int)<2147483587 by decide),divI _ (show (0:Int)<8 by decide) (by decide),modI _ h1,hx,hy,hz,i0 0]
theorem state44 {ns:List Int} {i:Int} {s:Sto} (h0:0<=i):Wp (k42.f_Lstate [.scr ns,.int i] s) fun d s'=>d=.han s.length/\Sf s' s.length/\∃c,s'=s++[c]:=by
 obtain ⟨c,hc⟩:=cell_ok (ns:=ns) (s:=s) h0
 have hp:∀s,opPow (.int 10) (.int 18) s=ok (.int (10 ^ 18)) s:=fun s=>by
  have e:powD (.int 10) (.int 18)=some (.int (10 ^ 18)):=by
   show (if (decide ((0:Int)<=18)&&decide ((18:Int)<=1000000)&&decide ((10:Int).natAbs<2 ^ 64))=true then some (D.int (10 ^ (18:Int).toNat)) else none)=_
   rw [if_pos (by decide)]
   rfl
  simp only [opPow,e,pur]
 unfold k42.f_Lstate
 simp only [wp_ok,wp_loc0,wp_locS,wp_C,wp_e2,wp_aNil,wp_aCons,wp_call,wp_new,wp_tBl,wp_isBl,wp_sNil,wp_sRet,wp_sSeq,aft_nx,aft_rt,wp_sIf,wp_sAsg,asg_N,wp_fn,fin_rt,List.map_cons,List.map_nil,List.cons_append,List.nil_append,List.length_cons,List.length_nil,List.set_cons_succ,List.set_cons_zero,List.replicate,true_and,Nat.reduceSub,Nat.reduceAdd,wp_geI,wp_subI,hc,hp]
 by_cases h:(10:Int) ^ 18<=c
 ·rw [decide_eq_true h]
  simp only [if_true]
  exact ⟨by decide,⟨_,true,by simp;rfl,by omega,fun z=>by cases z⟩,_,rfl⟩
 ·rw [decide_eq_false h]
  simp only [wp_ok,true_and,Bool.false_eq_true,if_false,modI _ (show (0:Int)<2147483647 by decide)]
  exact ⟨by decide,⟨_,false,by simp;rfl,Int.emod_nonneg _ (by decide),fun _=>Int.emod_lt_of_pos _ (by decide)⟩,_,rfl⟩
theorem marks44 {s:Sto} {k n:Nat} (h:Sf s k) (hn:n<=8):Wp (k42.f_Lmarks [.han k,.int n] s) fun d s'=>∃ns,d=mD ns/\Mks n ns/\Sf s' k/\Ex k s s':=by
 unfold k42.f_Lmarks
 simp only [wp_aNil,wp_aCons,wp_eB,wp_sRet,wp_fn,fin_rt,wp_comp,List.map_cons,List.map_nil,List.cons_append,List.nil_append,List.length_cons,List.length_nil,List.replicate,true_and,Nat.reduceSub,Nat.reduceAdd]
 refine Wp.of (iR1_of rfl (by omega)) ⟨by rw [rng_len];exact le_size (by omega),?_⟩
 refine Wp.mono (Q:=fun xs s'=>∃ns,xs=ns.map D.int/\Mks n ns/\Sf s' k/\Ex k s s') ?_ fun xs s2 hx=>?_
 ·refine comp_wp (fun i acc s'=>∃ns:List Int,acc=ns.map D.int/\Mks i ns/\Sf s' k/\Ex k s s') (rng 0 n) ⟨[],rfl,⟨by simp,.nil⟩,h,Ex.refl _ _⟩ (fun i d acc s' hd hI=>?_) fun acc s' hI=>?_
  ·obtain ⟨ns,rfl,hm,h2,x2⟩:=hI
   rw [rng_get] at hd
   split at hd
   ·cases hd
    refine ⟨[some (.int (0+i)),some (.han k)],rfl,?_⟩
    simp only [wp_loc0,wp_locS,wp_C,wp_e2,wp_aNil,wp_aCons,wp_call,wp_tBl]
    refine (take44 h2 (by decide) (by decide)).mono fun d s3 hd=>?_
    obtain ⟨r,rfl,r0,r1,h3,x3⟩:=hd
    simp only [wp_isBl,wp_eqI]
    split
    ·refine ⟨ns++[0+(i:Int)],by simp,⟨fun x hx=>?_,?_⟩,h3,x2.trans x3⟩
     ·rcases List.mem_append.mp hx with hx|hx
      ·have:=hm.lo x hx;omega
      ·rw [List.mem_singleton.mp hx];omega
     ·refine List.pairwise_append.mpr ⟨hm.up,by simp,fun x hx y hy=>?_⟩
      rw [List.mem_singleton.mp hy]
      have:=hm.lo x hx;omega
    ·exact ⟨ns,rfl,⟨fun x hx=>by have:=hm.lo x hx;omega,hm.up⟩,h3,x2.trans x3⟩
   ·cases hd
  ·rw [rng_len] at hI
   exact hI
 ·obtain ⟨ns,rfl,hm,h2,x2⟩:=hx
  exact Wp.of rfl ⟨ns,rfl,hm,h2,x2⟩
theorem ix4 {k:Int} {s:Sto} (h0:0<=k) (h1:k<4):∃n:Nat,opIx (.lst [.int 2,.int 3,.int 4,.int 8]) (.int k) s=ok (.int n) s/\n<=8:=by
 rcases (show k=0\/k=1\/k=2\/k=3 by omega) with rfl|rfl|rfl|rfl
 ·exact ⟨2,rfl,by decide⟩
 ·exact ⟨3,rfl,by decide⟩
 ·exact ⟨4,rfl,by decide⟩
 ·exact ⟨8,rfl,by decide⟩
theorem sortSet_ofT {ns:List Int} {s:Sto} (h:ns.length<64):sortSetT (mD ns) s=ok (.lst ((usort ns).map D.int)) s:=by
 unfold sortSetT
 simp only [ints?_map,decide_eq_true h,if_true]
structure HI (s0:Sto) (k rh:Nat) (rs:List (List Int)) (s:Sto):Prop where
 st:Sf s k
 ex:Ex k s0 s
 run:s[rh]?=some (.lst (rs.map mD))
 mks:∀r∈rs,Mks 8 r
 k1:k<s0.length
 r1:s0.length<=rh
theorem HI.draw {s0 s s':Sto} {k rh:Nat} {rs:List (List Int)} (h:HI s0 k rh rs s) (g:Sf s' k) (x:Ex k s s'):HI s0 k rh rs s':=by
 have:=h.k1
 have:=h.r1
 exact ⟨g,h.ex.trans x,x.get h.run (by omega),h.mks,h.k1,h.r1⟩
theorem HI.push {s0 s:Sto} {k rh:Nat} {rs:List (List Int)} {r:List Int} (h:HI s0 k rh rs s) (hr:Mks 8 r):HI s0 k rh (rs++[r]) (s.set rh (.lst (rs.map mD++[mD r]))):=by
 have:=h.k1
 have:=h.r1
 refine ⟨h.st.set (by omega) _,h.ex.hi (by omega) _,?_,fun x hx=>?_,h.k1,h.r1⟩
 ·rw [List.getElem?_set_self (List.getElem?_eq_some_iff.mp h.run).1,List.map_append]
  rfl
 ·rcases List.mem_append.mp hx with hx|hx
  ·exact h.mks x hx
  ·rw [List.mem_singleton.mp hx];exact hr
theorem ixH {k i:Nat} {rs:List (List Int)} {s:Sto} (h:s[k]?=some (.lst (rs.map mD))) (hi:i<rs.length):opIx (.han k) (.int i) s=ok (mD (rs.getD i [])) s:=by
 unfold opIx ixD res
 simp only [h]
 rw [atI_nat (by rw [List.getElem?_map,getD_some (d:=[]) hi];rfl)]
 rfl
theorem lays_rD (L:List (List Int)):DI.lays (L.map mD)=true:=by
 induction L with
 |nil=>rfl
 |cons a r ih=>simp only [List.map_cons,DI.lays,lay,lays_ints,ih,Bool.and_self]
theorem neNil {k:Nat} {rs:List (List Int)} {s:Sto} (h:s[k]?=some (.lst (rs.map mD))):opNe (.han k) (.lst []) s=ok (.bl (!rs.isEmpty)) s:=by
 have e1:res (.han k) s=.lst (rs.map mD):=by unfold res;simp only [h]
 have e:eqAns (.lst (rs.map mD)) (.lst [])=some rs.isEmpty:=by
  unfold eqAns
  rw [if_neg (show ¬ (isS (.lst _)&&isS (.lst _))=true from Bool.false_ne_true),if_pos (by simp only [lay,lays_rD];simp [DI.lays,dep,deps])]
  cases rs<;>rfl
 unfold opNe
 rw [e1]
 show (match eqAns (.lst (rs.map mD)) (.lst []) with|some b=>ok (D.bl (!b)) s|none=>none)=_
 rw [e]
theorem lenH {k:Nat} {rs:List (List Int)} {s:Sto} (h:s[k]?=some (.lst (rs.map mD))):bLen [.han k] s=ok (.int rs.length) s:=by
 unfold bLen lenD res
 simp only [h,List.length_map]
 rfl
theorem heap44 {s:Sto} {k:Nat} (h:Sf s k):Wp (k42.f_Lheap [.han k,.int 9] s) fun d s'=>∃rs,d=rD rs/\1<=rs.length/\GH rs/\Sf s' k/\Ex k s s':=by
 have hk:=h.lt
 unfold k42.f_Lheap
 simp only [wp_loc0,wp_locS,wp_C,wp_e2,wp_aNil,wp_aCons,wp_call,wp_new,wp_sSeq,aft_nx,wp_sAsg,asg_N,wp_par2,par_of,wp_sFor,wp_fn,List.map_cons,List.map_nil,List.cons_append,List.nil_append,List.length_cons,List.length_nil,List.set_cons_succ,List.set_cons_zero,List.replicate,true_and,Nat.reduceSub,Nat.reduceAdd]
 refine (take44 h (by decide) (by decide)).mono fun d s1 hd=>?_
 obtain ⟨n,rfl,n0,n1,h1,x1⟩:=hd
 try simp only [wp_addI]
 refine (take44 h1 (by decide) (by decide)).mono fun d s2 hd=>?_
 obtain ⟨way,rfl,w0,w1,h2,x2⟩:=hd
 try simp only [wp_ok,wp_ok',wp_ne,wp_loc0,wp_locS,wp_C,wp_e1,wp_e2,wp_aNil,wp_aCons,wp_eB,wp_call,wp_tup,wp_lst,wp_new,wp_frz,wp_tBl,wp_isBl,wp_tru,wp_truB,wp_tAnd,wp_tOr,wp_tNot,wp_eAnd,wp_eOr,wp_eNot,wp_eIf,wp_eCh,wp_sNil,wp_sRet,wp_sExpr,wp_sCont,wp_sSeq,aft_nx,aft_rt,aft_ct,wp_sIf,wp_sAsg,asg_N,asg_T,asg_nil,asg_cons,wp_par2,par_of,wp_sFor,wp_sSub,wp_app,wp_fn,fin_rt,fin_nx,wp_comp,wp_sl,wp_pNo,List.map_cons,List.map_nil,List.cons_append,List.nil_append,List.length_cons,List.length_nil,List.set_cons_succ,List.set_cons_zero,List.replicate,true_and,Nat.reduceSub,Nat.reduceAdd,wp_ltI,wp_gtI,wp_geI,wp_leI,wp_addI,wp_subI,wp_eqI,wp_neI]
 refine ⟨by decide,?_⟩
 have l1:=x1.len
 have l2:=x2.len
 have r0:HI s k s2.length [] (s2++[.lst []]):=⟨h2.app _,(x1.trans x2).trans (Ex.app _ _ _),by simp,by simp,hk,by omega⟩
 generalize hS:s2++[.lst []]=S at r0
 generalize s2.length=rh at r0
 refine Wp.of (iR1_ofI (n:=(1+n).toNat) (s1:=S) (i:=1+n) (Wp.eq (by simp only [wp_loc0,wp_locS,wp_aNil,wp_aCons,and_self])) (by omega) (by omega)) ?_
 refine Wp.for_ (fun i env s'=>∃rs x5 x6 x7,rs.length=i/\HI s k rh rs s'/\env=[some (.han k),some (.int 9),some (.int (1+n)),some (.int way),some (.han rh),x5,x6,x7]) _ ⟨[],_,_,_,rfl,r0,rfl⟩ (fun i d env s' hd hI=>?_) (fun env s' hI=>?_)
 ·obtain ⟨rs,x5,x6,x7,hl,r2,rfl⟩:=hI
  rw [rng_get] at hd
  split at hd
  ·rename_i hi
   cases hd
   refine ⟨_,rfl,?_⟩
   simp only [wp_loc0,wp_locS,wp_C,wp_e1,wp_e2,wp_aNil,wp_aCons,wp_eB,wp_call,wp_lst,wp_tBl,wp_tAnd,wp_eIf,wp_sNil,wp_sRet,wp_sExpr,wp_sSeq,aft_nx,aft_rt,wp_sIf,wp_sAsg,asg_N,wp_app,fin_rt,List.length_cons,List.length_nil,List.set_cons_succ,List.set_cons_zero,Nat.reduceAdd]
   refine ⟨by decide,?_⟩
   obtain ⟨q,hq,q8⟩:=ix4 (s:=s') w0 w1
   rw [hq]
   simp only [wp_ok]
   refine (marks44 r2.st q8).mono fun d s3 hd=>?_
   obtain ⟨ms,rfl,hm,h3,x3⟩:=hd
   have hm:=hm.up8 q8
   have lm:=hm.len
   have r3:=r2.draw h3 x3
   simp only [wp_ok,wp_isBl,neNil r3.run]
   have fin:∀(m:List Int) (s6:Sto) (x7:Option D),Mks 8 m->HI s k rh rs s6->lstH (.han rh) s6=true/\Wp (appD (.han rh) (mD m) s6) fun _ s_1=>∃rs x5 x6 x7',rs.length=i+1/\HI s k rh rs s_1/\([some (.han k),some (.int 9),some (.int (1+n)),some (.int way),some (.han rh),some (.int (0+(i:Int))),some (mD m),x7]:Env)=[some (.han k),some (.int 9),some (.int (1+n)),some (.int way),some (.han rh),x5,x6,x7']:=fun m s6 x7 gm r5=>by
    refine ⟨by unfold lstH;simp only [r5.run],?_⟩
    refine Wp.of (show appD (.han rh) (mD m) s6=ok .non (s6.set rh (.lst (rs.map mD++[mD m]))) from ?_) ⟨rs++[m],_,_,_,by rw [List.length_append,hl];rfl,r5.push gm,rfl⟩
    unfold appD
    have hlt:(rs.map mD).length<sizeLine:=Nat.lt_of_le_of_lt (show _<=1000000 by rw [List.length_map];omega) (by decide)
    simp only [r5.run,decide_eq_true hlt,if_true]
   refine ⟨Nat.zero_le _,?_⟩
   split
   ·rename_i hne
    have hrs:rs≠[]:=by
     intro z
     rw [z] at hne
     cases hne
    have hpos:=List.length_pos_iff.mpr hrs
    refine (take44 r3.st (by decide) (by decide)).mono fun d s4 hd=>?_
    obtain ⟨q1,rfl,_,_,h4,x4⟩:=hd
    have r4:=r3.draw h4 x4
    simp only [wp_isBl,wp_eqI]
    split
    ·rw [lenH r4.run]
     simp only [wp_ok]
     refine (take44 r4.st (by omega) (by omega)).mono fun d s5 hd=>?_
     obtain ⟨j,rfl,j0,j1,h5,x5⟩:=hd
     have r5:=r4.draw h5 x5
     obtain ⟨j',rfl⟩:=Int.eq_ofNat_of_zero_le j0
     have hj:j' < rs.length:=by omega
     rw [ixH r5.run hj]
     simp only [wp_ok]
     have go:Mks 8 (rs.getD j' []):=r5.mks _ (List.mem_of_getElem? (getD_some (d:=[]) hj))
     have lo:=go.len
     refine (take44 r5.st (by decide) (by decide)).mono fun d s6 hd=>?_
     obtain ⟨q2,rfl,_,_,h6,x6⟩:=hd
     have r6:=r5.draw h6 x6
     simp only [wp_isBl,wp_eqI]
     split
     ·refine Wp.of (addT (by omega)) ?_
      refine Wp.of (sortSet_ofT (by rw [List.length_append];omega)) ?_
      refine Wp.of (show bTuple [.lst ((usort (rs.getD j' []++ms)).map D.int)] s6=ok (mD (usort (rs.getD j' []++ms))) s6 from rfl) ?_
      exact fin _ s6 _ (usort_mks go hm) r6
     ·exact fin _ s6 _ go r6
    ·exact fin _ s4 _ hm r4
   ·simp only [Bool.false_eq_true,if_false]
    exact fin _ s3 _ hm r3
  ·cases hd
 ·obtain ⟨rs,x5,x6,x7,hl,r2,rfl⟩:=hI
  rw [rng_len] at hl
  simp only [wp_loc0,wp_locS,wp_aNil,wp_aCons,wp_eB,wp_sRet,aft_nx,fin_rt]
  refine Wp.of (show bTuple [.han rh] s'=ok (rD rs) s' from ?_) ⟨rs,rfl,by omega,⟨by omega,r2.mks⟩,r2.st,r2.ex⟩
  unfold bTuple res
  simp only [r2.run]
end DI
namespace DI
open PySem L2
noncomputable abbrev Prl:=List (Nat×Nat)
noncomputable def aGet:Prl->Nat->Option Nat
 | [],_=>none
 |p::r,q=>if p.1=q then some p.2 else aGet r q
noncomputable def aPut:Prl->Nat->Nat->Prl
 | [],q,v=>[(q,v)]
 |p::r,q,v=>if p.1=q then (q,v)::r else p::aPut r q v
noncomputable abbrev keys (a:Prl):List Nat:=a.map (·.1)
noncomputable abbrev vals (a:Prl):List Nat:=a.map (·.2)
theorem keys_cons (p:Nat×Nat) (r:Prl):keys (p::r)=p.1::keys r:=rfl
theorem vals_cons (p:Nat×Nat) (r:Prl):vals (p::r)=p.2::vals r:=rfl
theorem get_mem {a:Prl} {q v:Nat} (h:aGet a q=some v):(q,v)∈a:=by
 induction a with
 |nil=>cases h
 |cons p r ih =>
  unfold aGet at h
  split at h
  ·rename_i e;cases h;rw [<- e];exact List.mem_cons_self
  ·exact List.mem_cons_of_mem _ (ih h)
theorem mem_get {a:Prl} (nd:(keys a).Nodup) {q v:Nat} (h:(q,v)∈a):aGet a q=some v:=by
 induction a with
 |nil=>cases h
 |cons p r ih =>
  rw [keys_cons,List.nodup_cons] at nd
  unfold aGet
  rcases List.mem_cons.mp h with e|e
  ·rw [<- e,if_pos rfl]
  ·rw [if_neg (fun z=>nd.1 (List.mem_map.mpr ⟨(q,v),e,z.symm⟩))]
   exact ih nd.2 e
theorem get_none {a:Prl} {q:Nat}:aGet a q=none↔q∉keys a:=by
 induction a with
 |nil=>exact ⟨fun _ h=>(by cases h),fun _=>rfl⟩
 |cons p r ih =>
  unfold aGet
  rw [keys_cons,List.mem_cons,not_or]
  split
  ·rename_i e;exact ⟨fun z=>(by cases z),fun z=>absurd e.symm z.1⟩
  ·rename_i e;rw [ih];exact ⟨fun z=>⟨fun w=>e w.symm,z⟩,fun z=>z.2⟩
theorem get_put {a:Prl} {q v x:Nat}:aGet (aPut a q v) x=if x=q then some v else aGet a x:=by
 induction a with
 |nil =>
  show (if q=x then some v else none)=_
  by_cases e:x=q
  ·rw [if_pos e,if_pos e.symm]
  ·rw [if_neg e,if_neg (Ne.symm e)];rfl
 |cons p r ih =>
  unfold aPut
  split
  ·rename_i e
   show (if q=x then some v else aGet r x)=_
   by_cases e2:x=q
   ·rw [if_pos e2,if_pos e2.symm]
   ·rw [if_neg e2,if_neg (Ne.symm e2)]
    show _=if p.1=x then some p.2 else aGet r x
    rw [if_neg (fun z=>e2 (z.symm.trans e))]
  ·rename_i e
   show (if p.1=x then some p.2 else aGet (aPut r q v) x)=if x=q then some v else (if p.1=x then some p.2 else aGet r x)
   rw [ih]
   by_cases e2:x=q
   ·rw [if_pos e2,if_pos e2,if_neg (fun z=>e (z.trans e2))]
   ·rw [if_neg e2,if_neg e2]
theorem keys_put {a:Prl} {q v:Nat}:keys (aPut a q v)=if q∈keys a then keys a else keys a++[q]:=by
 induction a with
 |nil=>rfl
 |cons p r ih =>
  unfold aPut
  split
  ·rename_i e
   rw [if_pos (by rw [keys_cons,e];exact List.mem_cons_self),keys_cons,keys_cons,e]
  ·rename_i e
   rw [keys_cons,keys_cons,ih]
   by_cases h:q∈keys r
   ·rw [if_pos h,if_pos (List.mem_cons_of_mem _ h)]
   ·rw [if_neg h,if_neg (fun z=>(List.mem_cons.mp z).elim (fun w=>e w.symm) h)];rfl
theorem put_new {a:Prl} {q v:Nat} (h:aGet a q=none):aPut a q v=a++[(q,v)]:=by
 induction a with
 |nil=>rfl
 |cons p r ih =>
  unfold aGet at h
  unfold aPut
  split at h
  ·cases h
  ·rename_i e;rw [if_neg e,ih h];rfl
theorem vals_put {a:Prl} {q v w:Nat} (h:aGet a q=some w):(w::vals (aPut a q v)).Perm (v::vals a):=by
 induction a with
 |nil=>cases h
 |cons p r ih =>
  unfold aGet at h
  unfold aPut
  split at h
  ·rename_i e
   cases h
   rw [if_pos e]
   exact List.Perm.swap _ _ _
  ·rename_i e
   rw [if_neg e,vals_cons,vals_cons]
   exact (List.Perm.swap _ _ _).trans (((ih h).cons _).trans (List.Perm.swap _ _ _))
noncomputable abbrev enc (a:Prl):List (Key×D):=a.map fun p:Nat×Nat=>((Sum.inl (p.1:Int):Key),D.int p.2)
theorem inl_inj {a b:Nat}:((Sum.inl (a:Int):Key)=Sum.inl (b:Int))↔a=b:=⟨fun h=>by injection h with h;omega,fun h=>by rw [h]⟩
theorem get_enc (a:Prl) (q:Nat):dGet (enc a) (Sum.inl (q:Int))=(aGet a q).map fun v=>D.int (v:Nat):=by
 induction a with
 |nil=>rfl
 |cons p r ih =>
  rw [show enc (p::r)=(Sum.inl (p.1:Int),D.int p.2)::enc r from rfl]
  unfold dGet aGet
  by_cases e:p.1=q
  ·rw [if_pos e,if_pos (inl_inj.mpr e)];rfl
  ·rw [if_neg e,if_neg (fun z=>e (inl_inj.mp z))];exact ih
theorem any_enc {α:Type} (f:α->Nat) (g:α->D) (a:List α) (q:Nat):((a.map fun p=>((Sum.inl (f p:Int):Key),g p)).any fun p=>decide (p.1=Sum.inl (q:Int)))=a.any fun p=>decide (f p=q):=by
 rw [List.any_map]
 congr 1
 funext p
 exact decide_eq_decide.mpr inl_inj
theorem dPut_cons {p:Key×D} {r:List (Key×D)} {k:Key} {v:D} (nd:p.1=k->k∉r.map (·.1)):dPut (p::r) k v=if p.1=k then (k,v)::r else p::dPut r k v:=by
 unfold dPut
 rw [List.any_cons]
 by_cases e:p.1=k
 ·rw [if_pos e,decide_eq_true e,Bool.true_or,if_pos rfl,List.map_cons,if_pos e,e]
  congr 1
  have:∀x∈r,(if x.1=k then (x.1,v) else x)=x:=fun x hx=>if_neg (fun z=>nd e (List.mem_map.mpr ⟨x,hx,z⟩))
  calc r.map (fun p=>if p.1=k then (p.1,v) else p)=r.map id:=List.map_congr_left this
   _=r:=List.map_id _
 ·rw [if_neg e,decide_eq_false e,Bool.false_or]
  split
  ·rw [List.map_cons,if_neg e]
  ·rfl
theorem put_enc (a:Prl) (nd:(keys a).Nodup) (q v:Nat):dPut (enc a) (Sum.inl (q:Int)) (.int v)=enc (aPut a q v):=by
 induction a with
 |nil=>rfl
 |cons p r ih =>
  rw [keys_cons,List.nodup_cons] at nd
  rw [show enc (p::r)=(Sum.inl (p.1:Int),D.int p.2)::enc r from rfl,dPut_cons]
  ·unfold aPut
   by_cases e:p.1=q
   ·rw [if_pos (inl_inj.mpr e),if_pos e];rfl
   ·rw [if_neg (fun z=>e (inl_inj.mp z)),if_neg e,ih nd.2];rfl
  ·intro e hm
   have e:=inl_inj.mp e
   obtain ⟨x,hx,hx2⟩:=List.mem_map.mp hm
   obtain ⟨y,hy,rfl⟩:=List.mem_map.mp hx
   exact nd.1 (List.mem_map.mpr ⟨y,hy,by rw [e];exact inl_inj.mp hx2⟩)
noncomputable abbrev enT (T:List Nat):List (Key×D):=T.map fun q:Nat=>((Sum.inl (q:Int):Key),D.bl true)
theorem get_enT (T:List Nat) (q:Nat):(dGet (enT T) (Sum.inl (q:Int))).isSome=decide (q∈T):=by
 induction T with
 |nil=>rfl
 |cons p r ih =>
  rw [show enT (p::r)=((Sum.inl (p:Int):Key),D.bl true)::enT r from rfl]
  unfold dGet
  by_cases e:p=q
  ·rw [if_pos (inl_inj.mpr e),e];simp
  ·rw [if_neg (fun z=>e (inl_inj.mp z)),ih]
   exact decide_eq_decide.mpr ⟨fun h=>List.mem_cons_of_mem _ h,fun h=>(List.mem_cons.mp h).elim (fun z=>absurd z.symm e) id⟩
theorem put_enT {T:List Nat} {q:Nat} (h:q∉T):dPut (enT T) (Sum.inl (q:Int)) (.bl true)=enT (T++[q]):=by
 unfold dPut
 rw [show (enT T)=T.map (fun p:Nat=>((Sum.inl ((fun q:Nat=>q) p:Int):Key),(fun _=>D.bl true) p)) from rfl,any_enc (fun q:Nat=>q) (fun _=>D.bl true)]
 rw [if_neg (by rw [List.any_eq_true];rintro ⟨x,hx,e⟩;exact h (of_decide_eq_true e ▸ hx))]
 show _=(T++[q]).map _
 rw [List.map_append]
 rfl
end DI
namespace DI
section
variable {E:Nat->Nat->Bool} {n:Nat} {a:Prl} {S:List Nat}
structure Mt (E:Nat->Nat->Bool) (n:Nat) (a:Prl):Prop where
 kn:(keys a).Nodup
 vn:(vals a).Nodup
 ed:∀q p,(q,p)∈a->E p q=true/\p<n/\q<n
def Cl (E:Nat->Nat->Bool) (n:Nat) (a:Prl) (S:List Nat):Prop:=∀q∈S,∃p,aGet a q=some p/\∀r,r<n->E p r=true->r∈S
structure St (E:Nat->Nat->Bool) (n:Nat) (a:Prl) (S:List Nat):Prop where
 m:Mt E n a
 c:Cl E n a S
 f:∀u,u<n->u∉vals a->∀r,r<n->E u r=true->r∈S
theorem val_get (M:Mt E n a) {x:Nat} (h:x∈vals a):∃q,aGet a q=some x:=by
 obtain ⟨p,hp,rfl⟩:=List.mem_map.mp h
 exact ⟨p.1,mem_get M.kn hp⟩
theorem nodup_le {l m:List Nat} (h:l.Nodup) (s:∀x∈l,x∈m):l.length<=m.length:=by
 induction l generalizing m with
 |nil=>exact Nat.zero_le _
 |cons x l ih =>
  obtain ⟨h1,h2⟩:=List.nodup_cons.mp h
  have hx:=s x List.mem_cons_self
  have:=ih (m:=m.erase x) h2 fun y hy=>(List.mem_erase_of_ne (fun (e:y=x)=>h1 (e ▸ hy))).mpr (s y (List.mem_cons_of_mem _ hy))
  rw [List.length_erase_of_mem hx] at this
  have:=List.length_pos_of_mem hx
  rw [List.length_cons]
  omega
theorem map_nodup {l:List Nat} {f:Nat->Nat} (h:l.Nodup) (inj:∀x∈l,∀y∈l,f x=f y->x=y):(l.map f).Nodup:=by
 unfold List.Nodup
 rw [List.pairwise_map]
 exact h.imp_of_mem fun {x y} hx hy hne e=>hne (inj x hx y hy e)
theorem strangers_of (T:St E n a S):∃A:List Nat,A.Sublist (List.range n)/\(A.Pairwise fun x y=>E x y=false/\E y x=false)/\n<=A.length+a.length:=by
 have M:=T.m
 let g:Nat->Bool:=fun x=>(decide (x∉vals a)||decide (∃q∈S,aGet a q=some x))&&decide (x∉S)
 have hg:∀x,g x=true↔(x∉vals a\/∃q∈S,aGet a q=some x)/\x∉S:=fun x=>by
  simp only [g,Bool.and_eq_true,Bool.or_eq_true,decide_eq_true_eq]
 have key:∀x y,x<n->y<n->g x=true->g y=true->E x y=false:=fun x y hx hy gx gy=>by
  obtain ⟨h1,_⟩:=(hg x).mp gx
  obtain ⟨_,h4⟩:=(hg y).mp gy
  cases he:E x y with
  |false=>rfl
  |true =>
   exfalso
   rcases h1 with h1 | ⟨q,hq,e⟩
   ·exact h4 (T.f x hx h1 y hy he)
   ·obtain ⟨p,e2,h⟩:=T.c q hq
    rw [e] at e2
    cases e2
    exact h4 (h y hy he)
 refine ⟨(List.range n).filter g,List.filter_sublist,?_,?_⟩
 ·have nd:((List.range n).filter g).Pairwise fun x y=>x≠y:=List.nodup_range.sublist List.filter_sublist
  refine nd.imp_of_mem fun {x y} hx hy _=>?_
  obtain ⟨x1,x2⟩:=List.mem_filter.mp hx
  obtain ⟨y1,y2⟩:=List.mem_filter.mp hy
  exact ⟨key x y (List.mem_range.mp x1) (List.mem_range.mp y1) x2 y2,key y x (List.mem_range.mp y1) (List.mem_range.mp x1) y2 x2⟩
 ·let f:Nat->Nat:=fun x=>if x∈S then x else ((a.find? fun p=>decide (p.2=x)).map (·.1)).getD 0
  have hf:∀x,x∉S->x∈vals a->aGet a (f x)=some x:=fun x hx hv=>by
   show aGet a (if x∈S then x else ((a.find? fun p=>decide (p.2=x)).map (·.1)).getD 0)=some x
   rw [if_neg hx]
   cases hq:a.find? fun p=>decide (p.2=x) with
   |none =>
    obtain ⟨p,hp,e⟩:=List.mem_map.mp hv
    have:=List.find?_eq_none.mp hq p hp
    exact absurd (decide_eq_true e) this
   |some p =>
    have e:=List.find?_some hq
    have e:p.2=x:=of_decide_eq_true e
    have hm:=List.mem_of_find?_eq_some hq
    exact e ▸ mem_get M.kn hm
  have out:∀x,(!g x)=true->x∉S->x∈vals a/\∀q∈S,aGet a q≠some x:=fun x hx hs=>by
   have h:¬ g x=true:=fun z=>by rw [z] at hx;cases hx
   rw [hg] at h
   refine ⟨?_,fun q hq e=>h ⟨.inr ⟨q,hq,e⟩,hs⟩⟩
   by_cases hv:x∈vals a
   ·exact hv
   ·exact absurd ⟨.inl hv,hs⟩ h
  have le:((List.range n).filter fun x=>!g x).length<=(keys a).length:=by
   rw [<- List.length_map (f:=f)]
   refine nodup_le (map_nodup (List.nodup_range.sublist List.filter_sublist) fun x hx y hy e=>?_) fun z hz=>?_
   ·obtain ⟨_,x2⟩:=List.mem_filter.mp hx
    obtain ⟨_,y2⟩:=List.mem_filter.mp hy
    by_cases hxS:x∈S
    ·by_cases hyS:y∈S
     ·simpa [f,hxS,hyS] using e
     ·obtain ⟨v1,v2⟩:=out y y2 hyS
      have:=hf y hyS v1
      rw [<- e] at this
      exact absurd this (v2 (f x) (by simpa [f,hxS] using hxS))
    ·obtain ⟨u1,u2⟩:=out x x2 hxS
     by_cases hyS:y∈S
     ·have:=hf x hxS u1
      rw [e] at this
      exact absurd this (u2 (f y) (by simpa [f,hyS] using hyS))
     ·obtain ⟨v1,v2⟩:=out y y2 hyS
      have h1:=hf x hxS u1
      have h2:=hf y hyS v1
      rw [e,h2] at h1
      exact (Option.some.inj h1).symm
   ·obtain ⟨x,hx,rfl⟩:=List.mem_map.mp hz
    obtain ⟨_,x2⟩:=List.mem_filter.mp hx
    by_cases hxS:x∈S
    ·obtain ⟨p,e,_⟩:=T.c x hxS
     have:f x=x:=by simp [f,hxS]
     rw [this]
     exact List.mem_map.mpr ⟨_,get_mem e,rfl⟩
    ·exact List.mem_map.mpr ⟨_,get_mem (hf x hxS (out x x2 hxS).1),rfl⟩
  have tot:((List.range n).filter g).length+((List.range n).filter fun x=>!g x).length=n:=by
   have h:∀l:List Nat,(l.filter g).length+(l.filter fun x=>!g x).length=l.length:=fun l=>by
    induction l with
    |nil=>rfl
    |cons x l ih =>
     rw [List.filter_cons,List.filter_cons]
     cases g x<;>simp<;>omega
   rw [h,List.length_range]
  rw [List.length_map] at le
  omega
end
end DI
namespace DI
noncomputable def rv (a:Prl):Prl:=a.foldl (fun acc p=>aPut acc p.2 p.1) []
theorem rv_get (a:Prl) (nd:(vals a).Nodup):∀(acc:Prl) (x:Nat),(∀q,(q,x)∈a->aGet (a.foldl (fun acc p=>aPut acc p.2 p.1) acc) x=some q)/\(x∉vals a->aGet (a.foldl (fun acc p=>aPut acc p.2 p.1) acc) x=aGet acc x):=by
 induction a with
 |nil=>intro acc x;exact ⟨fun q h=>(by cases h),fun _=>rfl⟩
 |cons p r ih =>
  intro acc x
  rw [vals_cons,List.nodup_cons] at nd
  obtain ⟨h1,h2⟩:=ih nd.2 (aPut acc p.2 p.1) x
  refine ⟨fun q hq=>?_,fun hx=>?_⟩
  ·rcases List.mem_cons.mp hq with e|e
   ·have ex:x=p.2:=congrArg Prod.snd e
    have eq:q=p.1:=congrArg Prod.fst e
    rw [List.foldl_cons,h2 (by rw [ex];exact nd.1),get_put,if_pos ex,eq]
   ·rw [List.foldl_cons];exact h1 q e
  ·rw [vals_cons,List.mem_cons,not_or] at hx
   rw [List.foldl_cons,h2 hx.2,get_put,if_neg hx.1]
theorem rv_keys (a:Prl):∀(acc:Prl),(keys acc).Nodup->(keys (a.foldl (fun acc p=>aPut acc p.2 p.1) acc)).Nodup:=by
 induction a with
 |nil=>intro acc h;exact h
 |cons p r ih =>
  intro acc h
  rw [List.foldl_cons]
  refine ih _ ?_
  rw [keys_put]
  split
  ·exact h
  ·rename_i hn
   refine List.nodup_append.mpr ⟨h,by simp,fun x hx y hy=>?_⟩
   rw [List.mem_singleton.mp hy]
   exact fun e=>hn (e ▸ hx)
section
variable {E:Nat->Nat->Bool} {n:Nat} {a:Prl} {S:List Nat}
theorem rv_iff (M:Mt E n a) {p q:Nat}:aGet (rv a) p=some q↔aGet a q=some p:=by
 obtain ⟨h1,h2⟩:=rv_get a M.vn [] p
 constructor
 ·intro h
  by_cases hp:p∈vals a
  ·obtain ⟨q',e⟩:=val_get M hp
   have:=h1 q' (get_mem e)
   have h:aGet (a.foldl (fun acc p=>aPut acc p.2 p.1) []) p=some q:=h
   rw [this] at h
   cases h
   exact e
  ·have h:aGet (a.foldl (fun acc p=>aPut acc p.2 p.1) []) p=some q:=h
   rw [h2 hp] at h
   cases h
 ·intro h
  exact h1 q (get_mem h)
structure Or (E:Nat->Nat->Bool) (n:Nat):Prop where
 irr:∀x,E x x=false
 tr:∀x y z,x<n->y<n->z<n->E x y=true->E y z=true->E x z=true
noncomputable def rank (E:Nat->Nat->Bool) (n x:Nat):Nat:=((List.range n).filter fun y=>E y x).length
theorem rank_lt (O:Or E n) {p q:Nat} (hp:p<n) (hq:q<n) (h:E p q=true):rank E n p<rank E n q:=by
 have np:p∉(List.range n).filter fun y=>E y p:=fun w=>by
  have:=(List.mem_filter.mp w).2
  rw [O.irr] at this
  cases this
 have nd:(p::(List.range n).filter fun y=>E y p).Nodup:=List.nodup_cons.mpr ⟨np,List.nodup_range.sublist List.filter_sublist⟩
 refine nodup_le nd fun x hx=>?_
 rcases List.mem_cons.mp hx with e|e
 ·rw [e];exact List.mem_filter.mpr ⟨List.mem_range.mpr hp,h⟩
 ·obtain ⟨e1,e2⟩:=List.mem_filter.mp e
  exact List.mem_filter.mpr ⟨e1,O.tr x p q (List.mem_range.mp e1) hp hq e2 h⟩
theorem rank_n (O:Or E n) {p:Nat} (hp:p<n):rank E n p<n:=by
 have np:p∉(List.range n).filter fun y=>E y p:=fun w=>by
  have:=(List.mem_filter.mp w).2
  rw [O.irr] at this
  cases this
 have nd:(p::(List.range n).filter fun y=>E y p).Nodup:=List.nodup_cons.mpr ⟨np,List.nodup_range.sublist List.filter_sublist⟩
 have:=nodup_le (m:=List.range n) nd fun x hx=>by
  rcases List.mem_cons.mp hx with e|e
  ·rw [e];exact List.mem_range.mpr hp
  ·exact (List.mem_filter.mp e).1
 rw [List.length_range] at this
 exact this
noncomputable def rowF (b:Prl):Nat->Nat->List Nat
 |0,p=>[p]
 |f+1,p=>p::match aGet b p with
  |none=>[]
  |some q=>rowF b f q
noncomputable def row (n:Nat) (a:Prl) (p:Nat):List Nat:=rowF (rv a) n p
theorem rowF_more (O:Or E n) (M:Mt E n a):∀f p,p<n->n<=f+rank E n p->rowF (rv a) (f+1) p=rowF (rv a) f p:=by
 intro f
 induction f with
 |zero=>intro p hp h;have:=rank_n O hp;omega
 |succ f ih =>
  intro p hp h
  show p::_=p::_
  congr 1
  cases hb:aGet (rv a) p with
  |none=>rfl
  |some q =>
   obtain ⟨e1,_,e3⟩:=M.ed q p (get_mem ((rv_iff M).mp hb))
   have:=rank_lt O hp e3 e1
   exact ih q e3 (by omega)
theorem row_eq (O:Or E n) (M:Mt E n a) {p:Nat} (hp:p<n):row n a p=p::match aGet (rv a) p with
  |none=>[]
  |some q=>row n a q:=by
 unfold row
 rw [<- rowF_more O M n p hp (by omega)]
 rfl
theorem row_none (O:Or E n) (M:Mt E n a) {p:Nat} (hp:p<n) (h:aGet (rv a) p=none):row n a p=[p]:=by rw [row_eq O M hp,h]
theorem row_some (O:Or E n) (M:Mt E n a) {p q:Nat} (hp:p<n) (h:aGet (rv a) p=some q):row n a p=p::row n a q:=by rw [row_eq O M hp,h]
theorem row_ind (O:Or E n) (M:Mt E n a) {C:Nat->Prop} (h0:∀p,p<n->aGet (rv a) p=none->C p) (h1:∀p q,p<n->q<n->E p q=true->aGet (rv a) p=some q->C q->C p):∀p,p<n->C p:=by
 have key:∀k p,p<n->n-rank E n p<=k->C p:=by
  intro k
  induction k with
  |zero=>intro p hp h;have:=rank_n O hp;omega
  |succ k ih =>
   intro p hp h
   cases hb:aGet (rv a) p with
   |none=>exact h0 p hp hb
   |some q =>
    obtain ⟨e1,_,e3⟩:=M.ed q p (get_mem ((rv_iff M).mp hb))
    have:=rank_lt O hp e3 e1
    have:=rank_n O e3
    exact h1 p q hp e3 e1 hb (ih q e3 (by omega))
 exact fun p hp=>key (n-rank E n p) p hp (Nat.le_refl _)
theorem row_facts (O:Or E n) (M:Mt E n a):∀p,p<n->(∀x∈row n a p,x<n)/\p∈row n a p/\(row n a p).Pairwise (fun x y=>E x y=true)/\(∀x∈row n a p,∀y,aGet (rv a) x=some y->y∈row n a p)/\(∀x∈row n a p,x=p\/∃y∈row n a p,aGet (rv a) y=some x):=by
 refine row_ind O M (fun p hp hb=>?_) fun p q hp hq he hb ih=>?_
 ·rw [row_none O M hp hb]
  refine ⟨fun x hx=>by rw [List.mem_singleton.mp hx];exact hp,List.mem_singleton.mpr rfl,List.pairwise_singleton _ _,fun x hx y hy=>?_,fun x hx=>.inl (List.mem_singleton.mp hx)⟩
  rw [List.mem_singleton.mp hx,hb] at hy
  cases hy
 ·obtain ⟨i1,i2,i3,i4,i5⟩:=ih
  rw [row_some O M hp hb]
  have hall:∀z∈row n a q,E p z=true:=fun z hz=>by
   rw [row_eq O M hq] at hz i3
   rcases List.mem_cons.mp hz with e|e
   ·rw [e];exact he
   ·have hzn:=i1 z (by rw [row_eq O M hq];exact hz)
    exact O.tr p q z hp hq hzn he ((List.pairwise_cons.mp i3).1 z e)
  refine ⟨fun x hx=>?_,List.mem_cons_self,List.pairwise_cons.mpr ⟨hall,i3⟩,fun x hx y hy=>?_,fun x hx=>?_⟩
  ·rcases List.mem_cons.mp hx with e|e
   ·rw [e];exact hp
   ·exact i1 x e
  ·rcases List.mem_cons.mp hx with e|e
   ·rw [e,hb] at hy;cases hy;exact List.mem_cons_of_mem _ i2
   ·exact List.mem_cons_of_mem _ (i4 x e y hy)
  ·rcases List.mem_cons.mp hx with e|e
   ·exact .inl e
   ·rcases i5 x e with h | ⟨y,hy,h⟩
    ·exact .inr ⟨p,List.mem_cons_self,by rw [h];exact hb⟩
    ·exact .inr ⟨y,List.mem_cons_of_mem _ hy,h⟩
noncomputable def starts (n:Nat) (a:Prl):List Nat:=(List.range n).filter fun x=>decide (x∉keys a)
theorem start_lt {x:Nat} (h:x∈starts n a):x<n:=List.mem_range.mp (List.mem_filter.mp h).1
theorem start_no {x:Nat} (h:x∈starts n a):x∉keys a:=of_decide_eq_true (List.mem_filter.mp h).2
theorem starts_len (M:Mt E n a):(starts n a).length+a.length=n:=by
 have h:∀l:List Nat,(l.filter fun x=>decide (x∉keys a)).length+(l.filter fun x=>decide (x∈keys a)).length=l.length:=fun l=>by
  induction l with
  |nil=>rfl
  |cons x l ih =>
   rw [List.filter_cons,List.filter_cons]
   by_cases e:x∈keys a
   ·rw [if_neg (by simp [e]),if_pos (by simp [e]),List.length_cons,List.length_cons];omega
   ·rw [if_pos (by simp [e]),if_neg (by simp [e]),List.length_cons,List.length_cons];omega
 have e:((List.range n).filter fun x=>decide (x∈keys a)).length=(keys a).length:=by
  refine Nat.le_antisymm (nodup_le (List.nodup_range.sublist List.filter_sublist) fun x hx=>of_decide_eq_true (List.mem_filter.mp hx).2) (nodup_le M.kn fun x hx=>?_)
  obtain ⟨p,hp,rfl⟩:=List.mem_map.mp hx
  exact List.mem_filter.mpr ⟨List.mem_range.mpr (M.ed p.1 p.2 hp).2.2,decide_eq_true hx⟩
 have:=h (List.range n)
 rw [e,List.length_map,List.length_range] at this
 exact this
theorem in_row (O:Or E n) (M:Mt E n a):∀x,x<n->∃s∈starts n a,x∈row n a s:=by
 have key:∀k x,x<n->rank E n x<=k->∃s∈starts n a,x∈row n a s:=by
  intro k
  induction k with
  |zero =>
   intro x hx h
   cases hb:aGet a x with
   |none=>exact ⟨x,List.mem_filter.mpr ⟨List.mem_range.mpr hx,decide_eq_true (get_none.mp hb)⟩,(row_facts O M x hx).2.1⟩
   |some p =>
    obtain ⟨e1,e2,_⟩:=M.ed x p (get_mem hb)
    have:=rank_lt O e2 hx e1
    omega
  |succ k ih =>
   intro x hx h
   cases hb:aGet a x with
   |none=>exact ⟨x,List.mem_filter.mpr ⟨List.mem_range.mpr hx,decide_eq_true (get_none.mp hb)⟩,(row_facts O M x hx).2.1⟩
   |some p =>
    obtain ⟨e1,e2,_⟩:=M.ed x p (get_mem hb)
    have:=rank_lt O e2 hx e1
    obtain ⟨s,hs,hm⟩:=ih p e2 (by omega)
    exact ⟨s,hs,(row_facts O M s (start_lt hs)).2.2.2.1 p hm x ((rv_iff M).mpr hb)⟩
 exact fun x hx=>key _ x hx (Nat.le_refl _)
theorem one_row (O:Or E n) (M:Mt E n a) {s t:Nat} (hs:s∈starts n a) (ht:t∈starts n a):∀x,x∈row n a s->x∈row n a t->s=t:=by
 have key:∀k x,rank E n x<=k->x∈row n a s->x∈row n a t->s=t:=by
  intro k
  induction k with
  |zero =>
   intro x h h1 h2
   have hx:=(row_facts O M s (start_lt hs)).1 x h1
   rcases (row_facts O M s (start_lt hs)).2.2.2.2 x h1 with e | ⟨y,hy,e⟩
   ·rcases (row_facts O M t (start_lt ht)).2.2.2.2 x h2 with e' | ⟨y,hy,e'⟩
    ·rw [<- e,e']
    ·have:=rank_lt O ((row_facts O M t (start_lt ht)).1 y hy) hx (M.ed x y (get_mem ((rv_iff M).mp e'))).1
     omega
   ·have:=rank_lt O ((row_facts O M s (start_lt hs)).1 y hy) hx (M.ed x y (get_mem ((rv_iff M).mp e))).1
    omega
  |succ k ih =>
   intro x h h1 h2
   have hx:=(row_facts O M s (start_lt hs)).1 x h1
   rcases (row_facts O M s (start_lt hs)).2.2.2.2 x h1 with e | ⟨y,hy,e⟩
   ·rcases (row_facts O M t (start_lt ht)).2.2.2.2 x h2 with e' | ⟨y,hy,e'⟩
    ·rw [<- e,e']
    ·exfalso
     have:=get_mem ((rv_iff M).mp e')
     exact start_no hs (List.mem_map.mpr ⟨_,this,e⟩)
   ·rcases (row_facts O M t (start_lt ht)).2.2.2.2 x h2 with e' | ⟨z,hz,e'⟩
    ·exfalso
     have:=get_mem ((rv_iff M).mp e)
     exact start_no ht (List.mem_map.mpr ⟨_,this,e'⟩)
    ·have e1:=(rv_iff M).mp e
     have e2:=(rv_iff M).mp e'
     rw [e1] at e2
     cases e2
     have:=rank_lt O ((row_facts O M s (start_lt hs)).1 y hy) hx (M.ed x y (get_mem e1)).1
     exact ih y (by omega) hy hz
 exact fun x=>key _ x (Nat.le_refl _)
theorem flat_nodup {l:List Nat} {f:Nat->List Nat} (h1:∀s∈l,(f s).Nodup) (h2:l.Pairwise fun s t=>∀x,x∈f s->x∈f t->False):(l.flatMap f).Nodup:=by
 induction l with
 |nil=>exact List.nodup_nil
 |cons s l ih =>
  obtain ⟨p1,p2⟩:=List.pairwise_cons.mp h2
  rw [List.flatMap_cons]
  refine List.nodup_append.mpr ⟨h1 s List.mem_cons_self,ih (fun t ht=>h1 t (List.mem_cons_of_mem _ ht)) p2,fun x hx y hy e=>?_⟩
  obtain ⟨t,ht,hm⟩:=List.mem_flatMap.mp hy
  exact p1 t ht x hx (e ▸ hm)
theorem rows_perm (O:Or E n) (M:Mt E n a):((starts n a).flatMap (row n a)).Perm (List.range n):=by
 have nd:((starts n a).flatMap (row n a)).Nodup:=by
  refine flat_nodup (fun s hs=>?_) ?_
  ·exact ((row_facts O M s (start_lt hs)).2.2.1).imp fun {x y} h e=>by rw [e,O.irr] at h;cases h
  ·have:(starts n a).Pairwise fun x y=>x≠y:=List.nodup_range.sublist List.filter_sublist
   refine this.imp_of_mem fun {s t} hs ht hne x h1 h2=>hne (one_row O M hs ht x h1 h2)
 refine (List.perm_ext_iff_of_nodup nd List.nodup_range).mpr fun x=>?_
 rw [List.mem_flatMap,List.mem_range]
 exact ⟨fun ⟨s,hs,h⟩=>(row_facts O M s (start_lt hs)).1 x h,fun h=>in_row O M x h⟩
theorem anti_le (O:Or E n) (M:Mt E n a) {ps:List Nat} (h1:∀x∈ps,x<n) (h2:ps.Pairwise fun x y=>x≠y/\E x y=false/\E y x=false):ps.length<=(starts n a).length:=by
 let f:Nat->Nat:=fun x=>((starts n a).find? fun s=>decide (x∈row n a s)).getD 0
 have hf:∀x∈ps,f x∈starts n a/\x∈row n a (f x):=fun x hx=>by
  obtain ⟨s,hs,hm⟩:=in_row O M x (h1 x hx)
  show ((starts n a).find? fun s=>decide (x∈row n a s)).getD 0∈_/\x∈row n a (((starts n a).find? fun s=>decide (x∈row n a s)).getD 0)
  cases hq:(starts n a).find? fun s=>decide (x∈row n a s) with
  |none=>exact absurd (decide_eq_true hm) (List.find?_eq_none.mp hq s hs)
  |some t =>
   have hm2:=List.find?_some hq
   exact ⟨List.mem_of_find?_eq_some hq,(of_decide_eq_true hm2:x∈row n a t)⟩
 rw [<- List.length_map (f:=f)]
 refine nodup_le ?_ fun z hz=>?_
 ·unfold List.Nodup
  rw [List.pairwise_map]
  refine h2.imp_of_mem fun {x y} hx hy hne e=>?_
  obtain ⟨a1,a2⟩:=hf x hx
  obtain ⟨_,b2⟩:=hf y hy
  rw [<- e] at b2
  have pw:=(row_facts O M (f x) (start_lt a1)).2.2.1
  obtain ⟨i,hi⟩:=List.getElem?_of_mem a2
  obtain ⟨j,hj⟩:=List.getElem?_of_mem b2
  rw [List.pairwise_iff_getElem] at pw
  obtain ⟨li,ei⟩:=List.getElem?_eq_some_iff.mp hi
  obtain ⟨lj,ej⟩:=List.getElem?_eq_some_iff.mp hj
  rcases Nat.lt_trichotomy i j with h|h|h
  ·have:=pw i j li lj h
   rw [ei,ej,hne.2.1] at this
   cases this
  ·subst h
   exact hne.1 (ei.symm.trans ej)
  ·have:=pw j i lj li h
   rw [ei,ej,hne.2.2] at this
   cases this
 ·obtain ⟨x,hx,rfl⟩:=List.mem_map.mp hz
  exact (hf x hx).1
end
end DI
namespace DI
open PySem L2
noncomputable def fol (rs:List (List Int)) (p q:Nat):Bool:=sub (rs.getD p []) (rs.getD q [])&&(!decide (rs.getD q []=rs.getD p [])||decide (p<q))
theorem sub_tr {a b c:List Int} (h:sub a b=true) (g:sub b c=true):sub a c=true:=sub_iff.mpr fun x hx=>sub_iff.mp g x (sub_iff.mp h x hx)
theorem up_eq {a b:List Int} (ha:a.Pairwise (· < ·)) (hb:b.Pairwise (· < ·)) (h:sub a b=true) (g:sub b a=true):a=b:=by
 induction a generalizing b with
 |nil =>
  cases b with
  |nil=>rfl
  |cons y r=>exact absurd (sub_iff.mp g y List.mem_cons_self) List.not_mem_nil
 |cons x l ih =>
  cases b with
  |nil=>exact absurd (sub_iff.mp h x List.mem_cons_self) List.not_mem_nil
  |cons y r =>
   obtain ⟨a1,a2⟩:=List.pairwise_cons.mp ha
   obtain ⟨b1,b2⟩:=List.pairwise_cons.mp hb
   rw [sub_iff] at h g
   have e:x=y:=by
    rcases List.mem_cons.mp (h x List.mem_cons_self) with e|e
    ·exact e
    ·rcases List.mem_cons.mp (g y List.mem_cons_self) with e'|e'
     ·exact e'.symm
     ·have:=b1 x e;have:=a1 y e';omega
   subst e
   rw [ih a2 b2 (sub_iff.mpr fun z hz=>?_) (sub_iff.mpr fun z hz=>?_)]
   ·rcases List.mem_cons.mp (h z (List.mem_cons_of_mem _ hz)) with e|e
    ·have:=a1 z hz;omega
    ·exact e
   ·rcases List.mem_cons.mp (g z (List.mem_cons_of_mem _ hz)) with e|e
    ·have:=b1 z hz;omega
    ·exact e
theorem fol_iff {rs:List (List Int)} {p q:Nat}:fol rs p q=true↔sub (rs.getD p []) (rs.getD q [])=true/\(rs.getD q []=rs.getD p []->p<q):=by
 unfold fol
 rw [Bool.and_eq_true,Bool.or_eq_true,Bool.not_eq_true',decide_eq_false_iff_not,decide_eq_true_eq]
 exact and_congr_right fun _=>⟨fun h e=>h.elim (fun z=>absurd e z) id,fun h=>(Classical.em _).elim (fun e=>.inr (h e)) .inl⟩
theorem GH.up {rs:List (List Int)} (h:GH rs) (i:Nat):(rs.getD i []).Pairwise (· < ·):=by
 by_cases hi:i<rs.length
 ·exact (h.mks _ (List.mem_of_getElem? (getD_some (d:=[]) hi))).up
 ·rw [List.getD_eq_getElem?_getD,List.getElem?_eq_none (by omega)]
  exact .nil
theorem fol_or {rs:List (List Int)} (h:GH rs):Or (fol rs) rs.length:=by
 constructor
 ·intro x
  rw [Bool.eq_false_iff]
  intro z
  have:=(fol_iff.mp z).2 rfl
  omega
 ·intro x y z _ _ _ h1 h2
  obtain ⟨s1,o1⟩:=fol_iff.mp h1
  obtain ⟨s2,o2⟩:=fol_iff.mp h2
  refine fol_iff.mpr ⟨sub_tr s1 s2,fun e=>?_⟩
  have e1:rs.getD x []=rs.getD y []:=up_eq (h.up x) (h.up y) s1 (by rw [<- e];exact s2)
  have:=o1 e1.symm
  have:=o2 (e.trans e1)
  omega
theorem fol_tog {rs:List (List Int)} {x y:Nat} (hne:x≠y):tog (rs.getD x []) (rs.getD y [])=false↔fol rs x y=false/\fol rs y x=false:=by
 unfold tog
 rw [Bool.or_eq_false_iff]
 constructor
 ·rintro ⟨h1,h2⟩
  unfold fol
  rw [h1,h2]
  exact ⟨rfl,rfl⟩
 ·rintro ⟨h1,h2⟩
  rw [Bool.eq_false_iff] at h1 h2
  rw [Bool.eq_false_iff,Bool.eq_false_iff]
  by_cases e:rs.getD x []=rs.getD y []
  ·rcases Nat.lt_or_gt_of_ne hne with l|l
   ·exact absurd (fol_iff.mpr ⟨by rw [e];exact sub_refl _,fun _=>l⟩) h1
   ·exact absurd (fol_iff.mpr ⟨by rw [e];exact sub_refl _,fun _=>l⟩) h2
  ·exact ⟨fun z=>h2 (fol_iff.mpr ⟨z,fun w=>absurd w e⟩),fun z=>h1 (fol_iff.mpr ⟨z,fun w=>absurd w.symm e⟩)⟩
theorem beqs_dec (a:List Int):∀b:List Int,beqs (a.map D.int) (b.map D.int)=decide (a=b):=by
 induction a with
 |nil=>intro b;cases b<;>rfl
 |cons x r ih =>
  intro b
  cases b with
  |nil=>rfl
  |cons y t =>
   simp only [List.map_cons,beqs,beq,ih]
   rw [Bool.eq_iff_iff]
   simp
theorem eqT {a b:List Int} {s:Sto}:eqAns (res (mD a) s) (res (mD b) s)=some (decide (a=b)):=by
 have l1:∀c:List Int,lay (mD c)=true:=fun c=>by simp only [lay,lays_ints]
 have hd:dep (mD a)<=100:=by simp only [dep,deps_ints];decide
 show eqAns (mD a) (mD b)=_
 unfold eqAns
 rw [if_neg (show ¬ (isS (.tup _)&&isS (.tup _))=true from Bool.false_ne_true),if_pos (by rw [l1,l1,decide_eq_true (Nat.le_trans (Nat.min_le_left _ _) hd)];rfl)]
 simp only [beq,beqs_dec]
theorem neT {a b:List Int} {s:Sto}:opNe (mD a) (mD b) s=ok (.bl (!decide (a=b))) s:=by
 unfold opNe
 rw [eqT]
theorem follow_eq {rs:List (List Int)} (h:GH rs) {p q:Nat} (hp:p<rs.length) (hq:q<rs.length) {s:Sto}:k42.f_may_follow [rD rs,.int p,.int q] s=ok (.bl (fol rs p q)) s:=by
 refine Wp.eq ?_
 unfold k42.f_may_follow
 simp only [wp_ok,wp_loc0,wp_locS,wp_e2,wp_aNil,wp_aCons,wp_call,wp_isBl,wp_eAnd,wp_eOr,wp_sRet,wp_fn,fin_rt,List.map_cons,List.map_nil,List.cons_append,List.nil_append,List.length_cons,List.length_nil,List.replicate,true_and,Nat.reduceSub,Nat.reduceAdd,wp_ltI,ixR hp,ixR hq,has_all_eq (h.at p),neT]
 unfold fol
 have e:decide ((p:Int)<q)=decide (p<q):=decide_eq_decide.mpr Int.ofNat_lt
 cases sub (rs.getD p []) (rs.getD q [])<;>cases decide (rs.getD q []=rs.getD p [])<;>simp [e]
end DI
namespace DI
open PySem L2
section
variable {E:Nat->Nat->Bool} {n:Nat} {a a':Prl} {T:List Nat} {p q x:Nat}
structure Ek (E:Nat->Nat->Bool) (n:Nat) (a:Prl):Prop where
 kn:(keys a).Nodup
 ed:∀q v,aGet a q=some v->E v q=true/\v<n/\q<n
theorem Ek.put (h:Ek E n a) (e:E p q=true) (hp:p<n) (hq:q<n):Ek E n (aPut a q p):=by
 refine ⟨?_,fun z v hz=>?_⟩
 ·rw [keys_put]
  split
  ·exact h.kn
  ·rename_i hn
   refine List.nodup_append.mpr ⟨h.kn,by simp,fun x hx y hy=>?_⟩
   rw [List.mem_singleton.mp hy]
   exact fun e=>hn (e ▸ hx)
 ·rw [get_put] at hz
  split at hz
  ·rename_i e2;cases hz;rw [e2];exact ⟨e,hp,hq⟩
  ·exact h.ed z v hz
theorem Ek.len (h:Ek E n a):a.length<=n:=by
 have:=nodup_le (m:=List.range n) h.kn fun q hq=>by
  obtain ⟨pr,hpr,rfl⟩:=List.mem_map.mp hq
  exact List.mem_range.mpr (h.ed pr.1 pr.2 (mem_get h.kn hpr)).2.2
 rw [List.length_map,List.length_range] at this
 exact this
structure Good (E:Nat->Nat->Bool) (n:Nat) (a:Prl) (T:List Nat) (p:Nat) (a':Prl):Prop where
 ek:Ek E n a'
 vp:(vals a').Perm (p::vals a)
 kp:∀q∈T,aGet a' q=aGet a q
 cl:∀S,Cl E n a S->(¬ ∀r,r<n->E p r=true->r∈S)/\∀q∈S,aGet a' q=aGet a q
theorem Good.free (h:Ek E n a) (hg:aGet a q=none) (e:E p q=true) (hp:p<n) (hq:q<n) (hT:q∉T):Good E n a T p (aPut a q p):=by
 refine ⟨h.put e hp hq,?_,fun z hz=>?_,fun S hS=>?_⟩
 ·rw [put_new hg]
  show ((a++[(q,p)]).map _).Perm _
  rw [List.map_append]
  exact List.perm_append_singleton p (vals a)
 ·rw [get_put,if_neg (fun (w:z=q)=>hT (w ▸ hz))]
 ·have hn:q∉S:=fun w=>by
   obtain ⟨y,hy,_⟩:=hS q w
   rw [hg] at hy
   cases hy
  exact ⟨fun w=>hn (w q hq e),fun z hz=>by rw [get_put,if_neg (fun (w:z=q)=>hn (w ▸ hz))]⟩
theorem Good.more {T1:List Nat} (g:Good E n a T1 x a') (hg:aGet a q=some x) (e:E p q=true) (hp:p<n) (hq:q<n) (h1:q∈T1) (hs:∀z∈T,z∈T1) (hT:q∉T):Good E n a T p (aPut a' q p):=by
 refine ⟨g.ek.put e hp hq,?_,fun z hz=>?_,fun S hS=>?_⟩
 ·have h2:aGet a' q=some x:=by rw [g.kp q h1];exact hg
  have v:=(vals_put (v:=p) h2).trans ((g.vp.cons p).trans (List.Perm.swap x p _))
  exact v.cons_inv
 ·rw [get_put,if_neg (fun (w:z=q)=>hT (w ▸ hz))]
  exact g.kp z (hs z hz)
 ·obtain ⟨c1,c2⟩:=g.cl S hS
  have hn:q∉S:=fun w=>by
   obtain ⟨y,hy,hc⟩:=hS q w
   rw [hg] at hy
   cases hy
   exact c1 hc
  exact ⟨fun w=>hn (w q hq e),fun z hz=>by rw [get_put,if_neg (fun (w:z=q)=>hn (w ▸ hz))];exact c2 z hz⟩
structure Bad (E:Nat->Nat->Bool) (n:Nat) (a:Prl) (T:List Nat) (i p:Nat) (T':List Nat):Prop where
 s:∀q∈T,q∈T'
 nd:T'.Nodup
 lt:∀q∈T',q<n
 nb:∀r,r<i->E p r=true->r∈T'
 c:∀q∈T',q∉T->∃x,aGet a q=some x/\∀r,r<n->E x r=true->r∈T'
end
section
variable {s:Sto} {k:Nat} {a:Prl} {T:List Nat} {q p x:Nat}
theorem dct_at {kvs:List (Key×D)} (h:s[k]?=some (.dK kvs)):dct? (.han k) s=some kvs:=by unfold dct?;simp only [h]
theorem notT (h:s[k]?=some (.dK (enT T))):opNotInD (.int q) (.han k) s=ok (.bl (!decide (q∈T))) s:=by
 unfold opNotInD
 rw [dct_at h]
 show ok (D.bl (!(dGet (enT T) (Sum.inl (q:Int))).isSome)) s=_
 rw [get_enT]
theorem inA (h:s[k]?=some (.dK (enc a))):opInD (.int q) (.han k) s=ok (.bl (aGet a q).isSome) s:=by
 unfold opInD
 rw [dct_at h]
 show ok (D.bl (dGet (enc a) (Sum.inl (q:Int))).isSome) s=_
 rw [get_enc,Option.isSome_map]
theorem notA (h:s[k]?=some (.dK (enc a))):opNotInD (.int q) (.han k) s=ok (.bl (!(aGet a q).isSome)) s:=by
 unfold opNotInD
 rw [dct_at h]
 show ok (D.bl (!(dGet (enc a) (Sum.inl (q:Int))).isSome)) s=_
 rw [get_enc,Option.isSome_map]
theorem getA (h:s[k]?=some (.dK (enc a))) (e:aGet a q=some x):opGet (.han k) (.int q) s=ok (.int x) s:=by
 unfold opGet
 rw [dct_at h]
 show pur (dGet (enc a) (Sum.inl (q:Int))) s=_
 rw [get_enc,e]
 rfl
theorem putT (h:s[k]?=some (.dK (enT T))) (hq:q∉T) (hl:T.length<=9):putD (.han k) (.int q) (.bl true) s=some (s.set k (.dK (enT (T++[q])))):=by
 unfold putD
 rw [dct_at h]
 show (if (enT T).length<sizeLine then some (s.set k (.dK (dPut (enT T) (Sum.inl (q:Int)) (.bl true)))) else none)=_
 rw [if_pos (Nat.lt_of_le_of_lt (show _<=9 by rw [List.length_map];exact hl) (by decide)),put_enT hq]
theorem putA (h:s[k]?=some (.dK (enc a))) (nd:(keys a).Nodup) (hl:a.length<=9):putD (.han k) (.int q) (.int p) s=some (s.set k (.dK (enc (aPut a q p)))):=by
 unfold putD
 rw [dct_at h]
 show (if (enc a).length<sizeLine then some (s.set k (.dK (dPut (enc a) (Sum.inl (q:Int)) (.int p)))) else none)=_
 rw [if_pos (Nat.lt_of_le_of_lt (show _<=9 by rw [List.length_map];exact hl) (by decide)),put_enc a nd]
theorem wp_sPut {f fo fi:Env->Sto->Res D} {env:Env} {QF:Fl->Sto->Prop}:Wp (sPut f fo fi env s) QF=Wp (f env s) fun x s=>Wp (fo env s) fun d s=>Wp (fi env s) fun n s=>∃s',putD d n x s=some s'/\QF (.nx env) s':=by
 unfold sPut
 simp only [wp_bnd]
 congr 1;funext x s;congr 1;funext d s;congr 1;funext i s
 refine propext ⟨fun h=>?_,fun ⟨s',e,q⟩=>by rw [e];exact Wp.ok q⟩
 cases e:putD d i x s with
 |none=>rw [e] at h;obtain ⟨_,_,z,_⟩:=h;cases z
 |some s'=>rw [e,wp_ok] at h;exact ⟨s',rfl,h⟩
end
structure FS (s0 s:Sto) (ha ht:Nat) (a:Prl) (T:List Nat):Prop where
 a:s[ha]?=some (.dK (enc a))
 t:s[ht]?=some (.dK (enT T))
 o:∀j,j≠ha->j≠ht->s[j]?=s0[j]?
theorem FS.putT {s0 s:Sto} {ha ht:Nat} {a:Prl} {T T':List Nat} (h:FS s0 s ha ht a T) (hne:ha≠ht):FS s0 (s.set ht (.dK (enT T'))) ha ht a T' :=
 ⟨by rw [List.getElem?_set_ne (Ne.symm hne)];exact h.a,List.getElem?_set_self (List.getElem?_eq_some_iff.mp h.t).1,fun j h1 h2=>by rw [List.getElem?_set_ne (Ne.symm h2)];exact h.o j h1 h2⟩
theorem FS.putA {s0 s:Sto} {ha ht:Nat} {a a':Prl} {T:List Nat} (h:FS s0 s ha ht a T) (hne:ha≠ht):FS s0 (s.set ha (.dK (enc a'))) ha ht a' T :=
 ⟨List.getElem?_set_self (List.getElem?_eq_some_iff.mp h.a).1,by rw [List.getElem?_set_ne hne];exact h.t,fun j h1 h2=>by rw [List.getElem?_set_ne (Ne.symm h1)];exact h.o j h1 h2⟩
theorem FS.trans {s0 s1 s2:Sto} {ha ht:Nat} {a a':Prl} {T T':List Nat} (h:FS s0 s1 ha ht a T) (g:FS s1 s2 ha ht a' T'):FS s0 s2 ha ht a' T':=⟨g.a,g.t,fun j h1 h2=>(g.o j h1 h2).trans (h.o j h1 h2)⟩
theorem find_ok {rs:List (List Int)} (h:GH rs) {ha ht:Nat} (hne:ha≠ht) {a:Prl} (ek:Ek (fol rs) rs.length a):∀(fuel:Nat) {T:List Nat} {p:Nat} {s:Sto},T.Nodup->(∀q∈T,q<rs.length)->p<rs.length->rs.length+1<=fuel+T.length->s[ha]?=some (.dK (enc a))->s[ht]?=some (.dK (enT T)) ->
  Wp (k42.f_find_behind fuel [rD rs,.int p,.han ha,.han ht] s) fun d s'=>∃b a' T',d=.bl b/\FS s s' ha ht a' T'/\(b=false->a'=a/\Bad (fol rs) rs.length a T rs.length p T')/\(b=true->Good (fol rs) rs.length a T p a'):=by
 intro fuel
 have hi:=h.hi
 have le:∀{T:List Nat},T.Nodup->(∀q∈T,q<rs.length)->T.length<=rs.length:=fun {T} h1 h2=>by
  have:=nodup_le (m:=List.range rs.length) h1 fun q hq=>List.mem_range.mpr (h2 q hq)
  rw [List.length_range] at this
  exact this
 induction fuel with
 |zero=>intro T p s h1 h2 _ hf;have:=le h1 h2;omega
 |succ fuel ih =>
  intro T p s h1 h2 hp hf e1 e2
  unfold k42.f_find_behind
  simp only [wp_sSeq,wp_sFor,wp_fn,List.map_cons,List.map_nil,List.cons_append,List.nil_append,List.length_cons,List.length_nil,List.replicate,true_and,Nat.reduceSub,Nat.reduceAdd]
  refine Wp.of (iR1_of (s1:=s) (n:=rs.length) (Wp.eq (by simp only [wp_ok,wp_loc0,wp_aNil,wp_aCons,wp_eB,lenR,and_self])) (by omega)) ?_
  refine Wp.for_ (fun i env s'=>∃T' x,env=[some (rD rs),some (.int p),some (.han ha),some (.han ht),x]/\FS s s' ha ht a T'/\Bad (fol rs) rs.length a T i p T') _ ⟨T,none,rfl,⟨e1,e2,fun _ _ _=>rfl⟩,⟨fun _ z=>z,h1,h2,fun r hr=>by omega,fun q hq hn=>absurd hq hn⟩⟩ (fun i d env s' hd hI=>?_) (fun env s' hI=>?_)
  ·obtain ⟨T',x,rfl,F,B⟩:=hI
   rw [rng_get] at hd
   split at hd
   ·rename_i hi'
    cases hd
    refine ⟨_,rfl,?_⟩
    rw [Int.zero_add]
    have lT:=le B.nd B.lt
    simp only [wp_ok,wp_loc0,wp_locS,wp_C,wp_e2,wp_aNil,wp_aCons,wp_call,wp_tBl,wp_isBl,wp_tru,wp_tAnd,wp_sNil,wp_sRet,wp_sSeq,aft_nx,aft_rt,wp_sIf,fin_rt,List.set_cons_succ,List.set_cons_zero,notT F.t]
    by_cases hT:i∈T'
    ·rw [decide_eq_true hT]
     refine ⟨T',_,rfl,F,B.s,B.nd,B.lt,fun r hr he=>?_,B.c⟩
     rcases Nat.lt_succ_iff_lt_or_eq.mp hr with l|l
     ·exact B.nb r l he
     ·rw [l];exact hT
    ·rw [decide_eq_false hT]
     simp only [Bool.not_false,if_true,follow_eq h hp hi',wp_ok,wp_truB]
     cases he:fol rs p i with
     |false =>
      refine ⟨T',_,rfl,F,B.s,B.nd,B.lt,fun r hr he'=>?_,B.c⟩
      rcases Nat.lt_succ_iff_lt_or_eq.mp hr with l|l
      ·exact B.nb r l he'
      ·rw [l,he] at he';cases he'
     |true =>
      simp only [if_true,wp_loc0,wp_locS,wp_C,wp_e2,wp_aNil,wp_aCons,wp_call,wp_tBl,wp_tru,wp_tOr,wp_sNil,wp_sRet,wp_sSeq,aft_nx,wp_sIf,wp_sPut]
      refine ⟨_,putT F.t hT (by omega),?_⟩
      have F1:=F.putT (T':=T'++[i]) hne
      generalize s'.set ht (.dK (enT (T'++[i])))=s1 at F1
      have nd1:(T'++[i]).Nodup:=List.nodup_append.mpr ⟨B.nd,by simp,fun x hx y hy e=>hT (by rw [List.mem_singleton.mp hy] at e;exact e ▸ hx)⟩
      have lt1:∀q∈T'++[i],q<rs.length:=fun q hq=>(List.mem_append.mp hq).elim (B.lt q) fun z=>by rw [List.mem_singleton.mp z];exact hi'
      have nT:i∉T:=fun z=>hT (B.s i z)
      simp only [notA F1.a,wp_ok,wp_isBl]
      cases hg:aGet a i with
      |none =>
       simp only [Option.isSome_none,Bool.not_false,if_true]
       refine ⟨_,putA F1.a ek.kn (by have:=ek.len;omega),?_⟩
       exact ⟨true,_,_,rfl,F1.putA hne,fun z=>(by cases z),fun _=>Good.free ek hg he hp hi' nT⟩
      |some x =>
       simp only [Option.isSome_some,Bool.not_true,Bool.false_eq_true,if_false,wp_ok,getA F1.a hg]
       have hx:=ek.ed i x hg
       have ll:T.length<=T'.length:=nodup_le h1 B.s
       refine (ih (T:=T'++[i]) (p:=x) nd1 lt1 hx.2.1 (by rw [List.length_append,List.length_singleton];omega) F1.a F1.t).mono fun d s2 hd=>?_
       obtain ⟨b,a',T2,rfl,F2,hb,hg2⟩:=hd
       simp only [wp_truB]
       cases b with
       |true =>
        have G:=hg2 rfl
        simp only [if_true]
        refine ⟨_,putA F2.a G.ek.kn (by have:=G.ek.len;omega),?_⟩
        exact ⟨true,_,_,rfl,(F1.trans F2).putA hne,fun z=>(by cases z),fun _=>G.more hg he hp hi' (by simp) (fun z hz=>List.mem_append_left _ (B.s z hz)) nT⟩
       |false =>
        obtain ⟨rfl,B2⟩:=hb rfl
        simp only [Bool.false_eq_true,if_false]
        refine ⟨T2,_,rfl,F1.trans F2,fun z hz=>B2.s z (List.mem_append_left _ (B.s z hz)),B2.nd,B2.lt,fun r hr he'=>?_,fun q hq hn=>?_⟩
        ·rcases Nat.lt_succ_iff_lt_or_eq.mp hr with l|l
         ·exact B2.s r (List.mem_append_left _ (B.nb r l he'))
         ·exact B2.s r (by rw [l];simp)
        ·by_cases q1:q∈T'
         ·obtain ⟨y,hy,hc⟩:=B.c q q1 hn
          exact ⟨y,hy,fun r hr he'=>B2.s r (List.mem_append_left _ (hc r hr he'))⟩
         ·by_cases q2:q=i
          ·subst q2
           exact ⟨x,hg,fun r hr he'=>B2.nb r hr he'⟩
          ·exact B2.c q hq fun z=>(List.mem_append.mp z).elim q1 fun w=>q2 (List.mem_singleton.mp w)
   ·cases hd
  ·obtain ⟨T',x,rfl,F,B⟩:=hI
   rw [rng_len] at B
   simp only [wp_C,wp_sRet,aft_nx,fin_rt]
   exact ⟨false,a,T',rfl,F,fun _=>⟨rfl,B⟩,fun z=>by cases z⟩
end DI
namespace DI
open PySem L2
def Kp (s s':Sto):Prop:=∀j,j<s.length->s'[j]?=s[j]?
theorem Kp.refl (s:Sto):Kp s s:=fun _ _=>rfl
theorem Kp.len {s s':Sto} (h:Kp s s'):s.length<=s'.length:=by
 cases hs:s.length with
 |zero=>exact Nat.zero_le _
 |succ m =>
  have:=h m (by omega)
  rw [List.getElem?_eq_getElem (show m<s.length by omega)] at this
  exact (List.getElem?_eq_some_iff.mp this).1
theorem Kp.trans {a b c:Sto} (h:Kp a b) (g:Kp b c):Kp a c:=fun j hj=>(g j (Nat.lt_of_lt_of_le hj h.len)).trans (h j hj)
theorem Kp.app (s c:Sto):Kp s (s++c):=fun j hj=>List.getElem?_append_left hj
theorem Kp.get {s s':Sto} (h:Kp s s') {k:Nat} {c:Cell} (e:s[k]?=some c):s'[k]?=some c:=by rw [h k (List.getElem?_eq_some_iff.mp e).1];exact e
theorem Kp.sf {s s':Sto} {k:Nat} (h:Kp s s') (g:Sf s k):Sf s' k:=by
 obtain ⟨a,b,e,r⟩:=g
 exact ⟨a,b,h.get e,r⟩
theorem wp_newD {env:Env} {s:Sto} {Q:D->Sto->Prop}:Wp (eNewD env s) Q=Q (.han s.length) (s++[.dK []]):=by unfold eNewD;rw [wp_ok]
structure PI_ (rs:List (List Int)) (s s1:Sto) (i:Nat) (a:Prl) (S:List Nat):Prop where
 at_:s1[s.length]?=some (.dK (enc a))
 kp:Kp s s1
 ek:Ek (fol rs) rs.length a
 vn:(vals a).Nodup
 vl:∀u∈vals a,u<i
 cl:Cl (fol rs) rs.length a S
 f:∀u,u<i->u∉vals a->∀r,r<rs.length->fol rs u r=true->r∈S
theorem PI_.st {rs:List (List Int)} {s s1:Sto} {a:Prl} {S:List Nat} (h:PI_ rs s s1 rs.length a S):St (fol rs) rs.length a S :=
 ⟨⟨h.ek.kn,h.vn,fun q p hm=>h.ek.ed q p (mem_get h.ek.kn hm)⟩,h.cl,h.f⟩
theorem ahead_ok {rs:List (List Int)} (h:GH rs) {s:Sto}:Wp (k42.f_places_ahead [rD rs] s) fun d s'=>∃a S,d=.han s.length/\PI_ rs s s' rs.length a S:=by
 have hi:=h.hi
 unfold k42.f_places_ahead
 simp only [wp_sSeq,aft_nx,wp_sAsg,asg_N,wp_sFor,wp_fn,List.map_cons,List.map_nil,List.cons_append,List.nil_append,List.length_cons,List.length_nil,List.set_cons_succ,List.set_cons_zero,List.replicate,true_and,Nat.reduceSub,Nat.reduceAdd,wp_newD]
 refine Wp.of (iR1_of (s1:=s++[.dK []]) (n:=rs.length) (Wp.eq (by simp only [wp_ok,wp_loc0,wp_aNil,wp_aCons,wp_eB,lenR,and_self])) (by omega)) ?_
 refine Wp.for_ (fun i env s1=>∃a S x,env=[some (rD rs),some (.han s.length),x]/\PI_ rs s s1 i a S) _ ⟨[],[],none,rfl,by simp [enc],Kp.app _ _,⟨List.nodup_nil,fun q v hq=>(by cases hq)⟩,List.nodup_nil,fun u hu=>absurd hu List.not_mem_nil,fun q hq=>absurd hq List.not_mem_nil,fun u hu=>by omega⟩ (fun i d env s1 hd hI=>?_) (fun env s1 hI=>?_)
 ·obtain ⟨a,S,x,rfl,P⟩:=hI
  rw [rng_get] at hd
  split at hd
  ·rename_i hi'
   cases hd
   refine ⟨_,rfl,?_⟩
   rw [Int.zero_add]
   simp only [wp_loc0,wp_locS,wp_aNil,wp_aCons,wp_call,wp_sRet,wp_sExpr,aft_nx,aft_rt,fin_rt,List.set_cons_succ,List.set_cons_zero,wp_newD]
   have hl:=(List.getElem?_eq_some_iff.mp P.at_).1
   refine (find_ok h (ha:=s.length) (ht:=s1.length) (by omega) P.ek 12 (T:=[]) List.nodup_nil (fun q hq=>absurd hq List.not_mem_nil) hi' (by rw [List.length_nil];omega) ((Kp.app _ _).get P.at_) (by simp [enT])).mono fun d s2 hd=>?_
   obtain ⟨b,a',T',rfl,F,hb,hg⟩:=hd
   have K2:Kp s s2:=fun j hj=>by rw [F.o j (by omega) (by omega),List.getElem?_append_left (by omega)];exact P.kp j hj
   cases b with
   |false =>
    obtain ⟨rfl,B⟩:=hb rfl
    refine ⟨a',S++T',_,rfl,F.a,K2,P.ek,P.vn,fun u hu=>Nat.lt_succ_of_lt (P.vl u hu),fun q hq=>?_,fun u hu hn r hr he=>?_⟩
    ·rcases List.mem_append.mp hq with hq|hq
     ·obtain ⟨y,hy,hc⟩:=P.cl q hq
      exact ⟨y,hy,fun r hr he=>List.mem_append_left _ (hc r hr he)⟩
     ·obtain ⟨y,hy,hc⟩:=B.c q hq List.not_mem_nil
      exact ⟨y,hy,fun r hr he=>List.mem_append_right _ (hc r hr he)⟩
    ·rcases Nat.lt_succ_iff_lt_or_eq.mp hu with l|l
     ·exact List.mem_append_left _ (P.f u l hn r hr he)
     ·subst l;exact List.mem_append_right _ (B.nb r hr he)
   |true =>
    have G:=hg rfl
    obtain ⟨c1,c2⟩:=G.cl S P.cl
    refine ⟨a',S,_,rfl,F.a,K2,G.ek,?_,fun u hu=>?_,fun q hq=>?_,fun u hu hn r hr he=>?_⟩
    ·exact G.vp.nodup_iff.mpr (List.nodup_cons.mpr ⟨fun z=>Nat.lt_irrefl _ (P.vl i z),P.vn⟩)
    ·rcases List.mem_cons.mp (G.vp.mem_iff.mp hu) with e|e
     ·rw [e];exact Nat.lt_succ_self _
     ·exact Nat.lt_succ_of_lt (P.vl u e)
    ·rw [c2 q hq];exact P.cl q hq
    ·have hn2:u∉i::vals a:=fun z=>hn (G.vp.mem_iff.mpr z)
     rw [List.mem_cons,not_or] at hn2
     exact P.f u (by omega) hn2.2 r hr he
  ·cases hd
 ·obtain ⟨a,S,x,rfl,P⟩:=hI
  rw [rng_len] at P
  simp only [wp_loc0,wp_locS,wp_sRet,aft_nx,fin_rt,true_and]
  exact ⟨a,S,P⟩
theorem ixEnd {s:Sto} {k:Nat} {ds:List D} {x:D} (h:s[k]?=some (.lst (ds++[x]))):opIx (.han k) (.int (-1)) s=ok x s:=by
 unfold opIx ixD res
 simp only [h,atI_last]
 rfl
section
variable {E:Nat->Nat->Bool} {n:Nat} {a:Prl}
theorem whl_row (O:Or E n) (M:Mt E n a) (hn:n<=9) {e0:Option D} {hd hl:Nat} (hne:hl≠hd):∀p,p<n->∀(fuel:Nat) (acc:List Nat) (s:Sto),n<fuel+rank E n p->acc.length<=rank E n p->s[hl]?=some (.lst ((acc++[p]).map fun p:Nat=>D.int p))->s[hd]?=some (.dK (enc (rv a))) ->
  Wp (whlGo (tBl (e2 opInD (e2 opIx (eLoc 2) (e1 opNeg (eC (.int 1)))) (eLoc 1))) (sExpr (eApp (eLoc 2) (e2 opGet (eLoc 1) (e2 opIx (eLoc 2) (e1 opNeg (eC (.int 1))))))) fuel [e0,some (.han hd),some (.han hl)] s) fun fl s'=>fl=.nx [e0,some (.han hd),some (.han hl)]/\s'[hl]?=some (.lst ((acc++row n a p).map fun p:Nat=>D.int p))/\∀j,j≠hl->s'[j]?=s[j]?:=by
 refine row_ind O M (fun p hp hb=>?_) fun p q hp hq he hb ih=>?_
 all_goals
  intro fuel acc s hf ha e1 e2
  have hr:=rank_n O hp
  obtain ⟨fuel,rfl⟩:∃f,fuel=f+1:=⟨fuel-1,by omega⟩
  have e1':=e1
  rw [List.map_append] at e1'
  unfold whlGo
  rw [wp_bnd]
  simp only [wp_loc0,wp_locS,wp_C,wp_e1,wp_e2,wp_tBl]
  refine Wp.of (show opNeg (.int 1) s=ok (.int (-1)) s from rfl) ?_
  refine Wp.of (ixEnd e1') ?_
  simp only [wp_ok,wp_isBl,true_and,inA e2,hb,Option.isSome_none,Option.isSome_some,Bool.false_eq_true,if_false,if_true]
 ·rw [row_none O M hp hb]
  exact ⟨e1,fun _ _=>trivial⟩
 ·rw [wp_bnd]
  simp only [wp_loc0,wp_locS,wp_C,wp_e1,wp_e2,wp_sExpr,wp_app]
  refine ⟨by unfold lstH;simp only [e1],?_⟩
  refine Wp.of (show opNeg (.int 1) s=ok (.int (-1)) s from rfl) ?_
  refine Wp.of (ixEnd e1') ?_
  rw [getA e2 hb]
  simp only [wp_ok]
  refine Wp.of (show appD (.han hl) (.int q) s=ok .non (s.set hl (.lst (((acc++[p])++[q]).map fun p:Nat=>D.int p))) from ?_) ?_
  ·unfold appD
   have hlt:((acc++[p]).map fun p:Nat=>D.int p).length<sizeLine:=Nat.lt_of_le_of_lt (show _<=1000000 by rw [List.length_map,List.length_append,List.length_singleton];omega) (by decide)
   simp only [e1,decide_eq_true hlt,if_true]
   rw [List.map_append (l₁:=acc++[p])]
   rfl
  ·have hlen:=(List.getElem?_eq_some_iff.mp e1).1
   have rk:=rank_lt O hp hq he
   refine (ih fuel (acc++[p]) _ (by omega) (by rw [List.length_append,List.length_singleton];omega) (List.getElem?_set_self hlen) (by rw [List.getElem?_set_ne hne];exact e2)).mono fun fl s' hd=>?_
   obtain ⟨rfl,h1,h2⟩:=hd
   refine ⟨rfl,?_,fun j hj=>by rw [h2 j hj,List.getElem?_set_ne (Ne.symm hj)]⟩
   rw [row_some O M hp hb,h1,List.append_assoc]
   rfl
theorem from_ok (O:Or E n) (M:Mt E n a) (hn:n<=9) {p hd:Nat} {s:Sto} (hp:p<n) (e2:s[hd]?=some (.dK (enc (rv a)))):Wp (k42.f_row_from [.int p,.han hd] s) fun d s'=>d=pD (row n a p)/\Kp s s':=by
 have hlt:=(List.getElem?_eq_some_iff.mp e2).1
 unfold k42.f_row_from
 simp only [wp_loc0,wp_aNil,wp_aCons,wp_new,wp_sSeq,aft_nx,wp_sAsg,asg_N,wp_fn,List.map_cons,List.map_nil,List.cons_append,List.nil_append,List.length_cons,List.length_nil,List.set_cons_succ,List.set_cons_zero,List.replicate,true_and,Nat.reduceSub,Nat.reduceAdd]
 refine ⟨by decide,?_⟩
 unfold sWhl
 refine (whl_row O M hn (e0:=some (.int p)) (hd:=hd) (hl:=s.length) (by omega) p hp 20 [] (s++[.lst [.int p]]) (by omega) (Nat.zero_le _) (by simp) ((Kp.app _ _).get e2)).mono fun fl s' h=>?_
 obtain ⟨rfl,h1,h2⟩:=h
 simp only [wp_loc0,wp_locS,wp_aNil,wp_aCons,wp_eB,wp_sRet,aft_nx,fin_rt]
 refine Wp.of (show bTuple [.han s.length] s'=ok (pD (row n a p)) s' from ?_) ⟨rfl,fun j hj=>?_⟩
 ·unfold bTuple res
  simp only [h1]
  rfl
 ·rw [h2 j (by omega)]
  exact Kp.app _ _ j hj
end
theorem rev_enc (a:Prl):∀acc:Prl,(keys acc).Nodup->(enc a).foldl revE (enc acc)=enc (a.foldl (fun acc p=>aPut acc p.2 p.1) acc):=by
 induction a with
 |nil=>intro acc _;rfl
 |cons p r ih =>
  intro acc h
  rw [show enc (p::r)=(Sum.inl (p.1:Int),D.int p.2)::enc r from rfl,List.foldl_cons,List.foldl_cons]
  rw [show revE (enc acc) (Sum.inl (p.1:Int),D.int p.2)=dPut (enc acc) (Sum.inl (p.2:Int)) (.int p.1) from rfl,put_enc acc h]
  exact ih _ (rv_keys [p] acc (by exact (by
   exact h)))
theorem isI_enc (a:Prl):((enc a).all fun p=>isI p.2)=true:=by
 rw [List.all_map]
 exact List.all_eq_true.mpr fun p _=>rfl
theorem rows_ok {rs:List (List Int)} (h:GH rs) (h1:1<=rs.length) {s:Sto}:Wp (k42.f_rows_of [rD rs] s) fun d s'=>∃a S,d=.tup ((starts rs.length a).map fun x=>pD (row rs.length a x))/\St (fol rs) rs.length a S/\Kp s s':=by
 have hi:=h.hi
 have O:=fol_or h
 unfold k42.f_rows_of
 simp only [wp_ok,wp_loc0,wp_aNil,wp_aCons,wp_eB,wp_call,wp_sRet,wp_sExpr,wp_sSeq,aft_nx,wp_sAsg,asg_N,wp_fn,fin_rt,wp_comp,List.map_cons,List.map_nil,List.cons_append,List.nil_append,List.length_cons,List.length_nil,List.set_cons_succ,List.set_cons_zero,List.replicate,true_and,Nat.reduceSub,Nat.reduceAdd,heap_eq h h1]
 refine (ahead_ok h).mono fun d s1 hd=>?_
 obtain ⟨a,S,rfl,P⟩:=hd
 have T:=P.st
 have l1:=(List.getElem?_eq_some_iff.mp P.at_).1
 refine Wp.of (show eDRev (eLoc 1) [some (rD rs),some (.han s.length),none] s1=ok (.han s1.length) (s1++[Cell.dK (enc (rv a))]) from ?_) ?_
 ·show (match dct? (.han s.length) s1 with
   |some kvs=>if (kvs.all fun p=>isI p.2)=true then ok (D.han s1.length) (s1++[Cell.dK (kvs.foldl revE [])]) else none
   |none=>none)=_
  rw [dct_at P.at_]
  show (if ((enc a).all fun p=>isI p.2)=true then ok (D.han s1.length) (s1++[Cell.dK ((enc a).foldl revE [])]) else none)=_
  rw [if_pos (isI_enc a),show (enc a).foldl revE []=enc (rv a) from rev_enc a [] List.nodup_nil]
 ·have e1:(s1++[Cell.dK (enc (rv a))])[s.length]?=some (.dK (enc a)):=(Kp.app _ _).get P.at_
  have e2:(s1++[Cell.dK (enc (rv a))])[s1.length]?=some (.dK (enc (rv a))):=by simp
  have e3:Kp s (s1++[Cell.dK (enc (rv a))]):=P.kp.trans (Kp.app _ _)
  generalize s1++[Cell.dK (enc (rv a))]=s2 at e1 e2 e3
  generalize s1.length=hr at e2
  refine Wp.of (iR1_of (s1:=s2) (n:=rs.length) (Wp.eq (by simp only [wp_ok,wp_loc0,wp_aNil,wp_aCons,wp_eB,lenR,and_self])) (by omega)) ⟨le_size (by rw [rng_len];omega),?_⟩
  refine Wp.mono (Q:=fun xs s'=>xs=((starts rs.length a).map fun x=>pD (row rs.length a x))/\Kp s2 s') ?_ fun xs s' hx=>?_
  ·refine comp_wp (fun i acc s'=>acc=(((List.range i).filter fun x=>decide (x∉keys a)).map fun x=>pD (row rs.length a x))/\Kp s2 s') (rng 0 rs.length) ⟨rfl,Kp.refl _⟩ (fun i d acc s' hd hI=>?_) fun acc s' hI=>?_
   ·obtain ⟨rfl,K⟩:=hI
    rw [rng_get] at hd
    split at hd
    ·rename_i hi'
     cases hd
     refine ⟨[some (.int (0+i)),some (.han hr),some (.han s.length)],rfl,?_⟩
     rw [Int.zero_add]
     simp only [wp_ok,wp_loc0,wp_locS,wp_e2,wp_aNil,wp_aCons,wp_call,wp_tBl,wp_isBl,notA (K.get e1)]
     have en:(!(aGet a i).isSome)=decide (i∉keys a):=by
      cases hg:aGet a i with
      |none=>exact (decide_eq_true (get_none.mp hg)).symm
      |some v=>exact (decide_eq_false fun z=>by rw [get_none.mpr z] at hg;cases hg).symm
     rw [en,List.range_succ,List.filter_append,List.map_append,List.filter_cons]
     by_cases hk:decide (i∉keys a)=true
     ·rw [if_pos hk,if_pos hk]
      refine (from_ok O T.m hi hi' (K.get e2)).mono fun d s3 hd=>?_
      obtain ⟨rfl,K3⟩:=hd
      exact ⟨rfl,K.trans K3⟩
     ·rw [if_neg hk,if_neg hk]
      exact ⟨by simp,K⟩
    ·cases hd
   ·rw [rng_len] at hI
    exact hI
  ·obtain ⟨rfl,K⟩:=hx
   exact Wp.of rfl ⟨a,S,rfl,T,e3.trans K⟩
end DI
namespace DI
open PySem L2
theorem nil_filter {α:Type} (p:α->Bool) (l:List α):(l.filter fun x=>!p x).isEmpty=l.all p:=by
 induction l with
 |nil=>rfl
 |cons x r ih =>
  rw [List.filter_cons,List.all_cons]
  cases p x
  ·rfl
  ·exact ih
theorem within_eq {a b:List Int} {s:Sto} (hl:a.length<=1000000):k42.f_Lwithin [mD a,mD b] s=ok (.bl (sub a b)) s:=by
 refine Wp.eq ?_
 unfold k42.f_Lwithin
 simp only [wp_e2,wp_aNil,wp_lst,wp_sRet,wp_fn,fin_rt,wp_comp,List.map_cons,List.map_nil,List.cons_append,List.nil_append,List.length_cons,List.length_nil,List.replicate,true_and,Nat.reduceSub,Nat.reduceAdd]
 refine Wp.of (iSeqT_of rfl) ⟨le_size (by rw [List.length_map];exact hl),?_⟩
 refine Wp.of (comp_ints (fun x=>!decide (x∈b)) D.int a fun n _=>⟨[some (.int n),some (mD b)],rfl,Wp.eq (by simp only [wp_ok,wp_loc0,wp_locS,wp_e2,wp_tBl,wp_isBl,notIn_ints,and_self]),fun _=>rfl⟩) ?_
 refine ⟨by decide,?_⟩
 refine Wp.of eqNil ⟨?_,rfl⟩
 rw [nil_filter]
 rfl
theorem akin_eq {rs:List (List Int)} (h:GH rs) {i j:Nat} {s:Sto} (hi:i<rs.length) (hj:j<rs.length):k42.f_Lakin [rD rs,.int i,.int j] s=ok (.bl (tog (rs.getD j []) (rs.getD i []))) s:=by
 refine Wp.eq ?_
 unfold k42.f_Lakin
 simp only [wp_ok,wp_loc0,wp_locS,wp_e2,wp_aNil,wp_aCons,wp_call,wp_isBl,wp_eOr,wp_sRet,wp_fn,fin_rt,List.map_cons,List.map_nil,List.cons_append,List.nil_append,List.length_cons,List.length_nil,List.replicate,true_and,Nat.reduceSub,Nat.reduceAdd,ixR hi,ixR hj,within_eq (h.at i),within_eq (h.at j)]
 unfold tog
 cases sub (rs.getD i []) (rs.getD j [])<;>simp
theorem eqNilP {ps:List Nat} {s:Sto}:opEq (.lst (ps.map fun p:Nat=>D.int p)) (.lst []) s=ok (.bl ps.isEmpty) s:=by
 have:=eqNil (ns:=ps.map fun p:Nat=>(p:Int)) (s:=s)
 rw [List.map_map] at this
 rw [show (ps.map fun p:Nat=>D.int p)=ps.map (D.int ∘ fun p:Nat=>(p:Int)) from rfl,this]
 cases ps<;>rfl
theorem mmi_eq {s:Sto} (ys:List (List Nat)):∀b:List Nat,mmGo (fun d s=>ok d s) opGt (.int b.length) (.int b.length) (ys.map fun y=>D.int y.length) s=ok (.int (foldM b ys).length) s:=by
 induction ys with
 |nil=>intro b;rfl
 |cons y ys ih =>
  intro b
  rw [List.map_cons]
  unfold mmGo
  simp only [ne_ok,bnd_ok,gtI,foldM]
  by_cases h:b.length<y.length
  ·rw [decide_eq_true (show (b.length:Int)<y.length by omega),if_pos h]
   exact ih y
  ·rw [decide_eq_false (show ¬ (b.length:Int)<y.length by omega),if_neg h]
   exact ih b
theorem lmost_ok {rs:List (List Int)} (h:GH rs) {s:Sto}:Wp (k42.f_Lmost [rD rs] s) fun d s'=>d=.int (mx rs)/\Kp s s':=by
 have hi:=h.hi
 unfold k42.f_Lmost
 simp only [wp_aNil,wp_aCons,wp_tup,wp_new,wp_sSeq,aft_nx,wp_sAsg,asg_N,wp_sFor,wp_fn,List.map_cons,List.map_nil,List.cons_append,List.nil_append,List.length_cons,List.length_nil,List.set_cons_succ,List.set_cons_zero,List.replicate,true_and,Nat.reduceSub,Nat.reduceAdd]
 refine ⟨by decide,by decide,?_⟩
 refine Wp.of (iR1_of (s1:=s++[.lst [.tup []]]) (n:=rs.length) (Wp.eq (by simp only [wp_ok,wp_loc0,wp_aNil,wp_aCons,wp_eB,lenR,and_self])) (by omega)) ?_
 refine Wp.for_ (fun i env s'=>s'=s++[.lst ((anti rs i).map pD)]/\∃x y,env=[some (rD rs),some (.han s.length),x,y]) _ ⟨rfl,_,_,rfl⟩ (fun i d env s' hd hI=>?_) (fun env s' hI=>?_)
 ·obtain ⟨rfl,x,y,rfl⟩:=hI
  rw [rng_get] at hd
  split at hd
  ·rename_i hi'
   cases hd
   refine ⟨_,rfl,?_⟩
   rw [Int.zero_add]
   have l1:=anti_len rs i
   have l2:=pow9 (show i<=9 by omega)
   simp only [wp_sFor]
   refine Wp.of (iSeqL_of (ds:=(anti rs i).map pD) (s1:=s++[.lst ((anti rs i).map pD)]) (Wp.eq ?_)) ?_
   ·simp only [wp_loc0,wp_locS,wp_aNil,wp_aCons,wp_eB,List.set_cons_succ,List.set_cons_zero]
    refine Wp.of (show bList [.han s.length] _=ok (.lst ((anti rs i).map pD)) _ from ?_) ⟨rfl,rfl⟩
    unfold bList res
    simp
   ·simp only [List.set_cons_succ,List.set_cons_zero]
    refine Wp.for_ (fun j env s'=>s'=s++[.lst ((anti rs i++(((anti rs i).take j).filter fun ps=>strange rs ps i).map fun ps=>ps++[i]).map pD)]/\∃y,env=[some (rD rs),some (.han s.length),some (.int i),y]) _ ⟨by simp,_,rfl⟩ (fun j d env s' hd hI=>?_) (fun env s' hI=>?_)
    ·obtain ⟨rfl,y,rfl⟩:=hI
     rw [List.getElem?_map] at hd
     cases hp:(anti rs i)[j]? with
     |none=>rw [hp] at hd;cases hd
     |some ps =>
      rw [hp] at hd
      cases hd
      obtain ⟨p1,p2⟩:=anti_each i ps (List.mem_of_getElem? hp)
      refine ⟨_,rfl,?_⟩
      have lt:=List.length_filter_le (fun ps=>strange rs ps i) ((anti rs i).take j)
      rw [List.length_take] at lt
      generalize hA:anti rs i++(((anti rs i).take j).filter fun ps=>strange rs ps i).map (fun ps=>ps++[i])=A
      have la:A.length<=1000000:=by rw [<- hA,List.length_append,List.length_map];omega
      simp only [wp_loc0,wp_locS,wp_e2,wp_aNil,wp_aCons,wp_tup,wp_lst,wp_tBl,wp_sNil,wp_sExpr,aft_rt,wp_sIf,wp_app,fin_rt,wp_comp,List.length_cons,List.length_nil,List.set_cons_succ,List.set_cons_zero,Nat.reduceAdd]
      refine Wp.of (iSeqT_of rfl) ⟨le_size (by rw [List.length_map];omega),?_⟩
      refine Wp.of (comp_map (fun p:Nat=>D.int p) (fun p=>tog (rs.getD i []) (rs.getD p [])) (fun p:Nat=>D.int p) ps fun p hp'=>⟨[some (.int p),some (rD rs),some (.int i)],rfl,?_,fun _=>rfl⟩) ?_
      ·have:=p2 p hp'
       refine Wp.eq ?_
       simp only [wp_ok,wp_loc0,wp_locS,wp_aNil,wp_aCons,wp_call,wp_tru,wp_truB,akin_eq h (show p<rs.length by omega) hi',and_self]
      ·refine ⟨by decide,?_⟩
       rw [eqNilP]
       simp only [wp_ok,wp_isBl]
       have es:(ps.filter fun p=>tog (rs.getD i []) (rs.getD p [])).isEmpty=strange rs ps i:=by
        have:=nil_filter (fun p=>!tog (rs.getD i []) (rs.getD p [])) ps
        simp only [Bool.not_not] at this
        rw [this]
        unfold strange
        rw [List.all_eq_not_any_not]
        simp only [Bool.not_not]
       rw [es]
       cases hs:strange rs ps i with
       |true =>
        simp only [if_true]
        refine ⟨by unfold lstH;simp,by decide,?_⟩
        refine Wp.of (show opAdd (pD ps) (.tup [.int i]) _=_ from addP (b:=[i]) (by simp;omega)) ?_
        refine Wp.of (appLast (by rw [List.length_map];exact la)) ⟨?_,_,rfl⟩
        rw [List.take_succ,hp,<- hA]
        simp [List.filter_append,hs]
       |false =>
        simp only [Bool.false_eq_true,if_false]
        refine ⟨?_,_,rfl⟩
        rw [List.take_succ,hp,<- hA]
        simp [List.filter_append,hs]
    ·obtain ⟨rfl,y,rfl⟩:=hI
     rw [List.length_map,List.take_length]
     exact ⟨rfl,_,_,rfl⟩
  ·cases hd
 ·obtain ⟨rfl,x,y,rfl⟩:=hI
  rw [rng_len]
  simp only [wp_aNil,wp_aCons,wp_eB,wp_sRet,aft_nx,fin_rt,wp_comp]
  have l1:=anti_len rs rs.length
  have l2:=pow9 hi
  refine Wp.of (iSeqL_of (s1:=s++[.dead]) (ds:=(anti rs rs.length).map pD) (Wp.eq (by simp only [wp_loc0,wp_locS,wp_frz];exact Wp.of frzLast ⟨rfl,rfl⟩))) ⟨le_size (by rw [List.length_map];omega),?_⟩
  refine Wp.of (comp_map pD (fun _=>true) (fun ps=>D.int ps.length) _ fun ps _=>⟨[some (pD ps)],rfl,rfl,fun _=>Wp.eq (by simp only [wp_ok,wp_loc0,wp_aNil,wp_aCons,wp_eB,lenP,and_self])⟩) ?_
  rw [filter_tt]
  obtain ⟨z,zs,e⟩:=anti_ne rs rs.length
  have em:mx rs=(foldM z zs).length:=by unfold mx;rw [e];rfl
  rw [e,List.map_cons]
  exact Wp.of (show bMax [.lst (D.int z.length::zs.map fun ps=>D.int ps.length)] (s++[.dead])=ok (.int (foldM z zs).length) _ from mmi_eq zs z) ⟨by rw [em],Kp.app _ _⟩
theorem same_eq {a b:Int} {s:Sto}:k42.f_Lsame 8 [.int a,.int b] s=ok (.bl (a==b)) s:=by
 refine Wp.eq ?_
 unfold k42.f_Lsame
 simp only [wp_loc0,wp_locS,wp_C,wp_e1,wp_e2,wp_aNil,wp_aCons,wp_eB,wp_tBl,wp_tru,wp_tOr,wp_eAnd,wp_sNil,wp_sRet,wp_sSeq,aft_nx,aft_rt,wp_sIf,wp_fn,fin_rt,wp_comp,List.map_cons,List.map_nil,List.cons_append,List.nil_append,List.length_cons,List.length_nil,List.replicate,true_and,Nat.reduceSub,Nat.reduceAdd,wp_eqI]
 refine Wp.of (show isLT (.int b) s=ok (.bl false) s from rfl) ?_
 simp only [wp_truB,Bool.false_eq_true,if_false]
 refine Wp.of (show bIsi [.int a,.ty "bool"] s=ok (.bl false) s from rfl) ?_
 refine Wp.of (show bIsi [.int b,.ty "bool"] s=ok (.bl false) s from rfl) ?_
 refine Wp.of (show opEq (.bl false) (.bl false) s=ok (.bl true) s from rfl) ?_
 simp only [wp_isBl,if_true]
theorem anti_up {rs:List (List Int)} (k:Nat):∀ps∈anti rs k,ps.Pairwise (· < ·):=by
 induction k with
 |zero=>intro ps h;rw [List.mem_singleton.mp h];exact .nil
 |succ k ih =>
  intro ps h
  rcases List.mem_append.mp h with h|h
  ·exact ih ps h
  ·obtain ⟨qs,hq,rfl⟩:=List.mem_map.mp h
   have hq:=(List.mem_filter.mp hq).1
   refine List.pairwise_append.mpr ⟨ih qs hq,List.pairwise_singleton _ _,fun x hx y hy=>?_⟩
   rw [List.mem_singleton.mp hy]
   exact (anti_each k qs hq).2 x hx
structure Strs (rs:List (List Int)) (ps:List Nat):Prop where
 lt:∀x∈ps,x<rs.length
 up:ps.Pairwise (· < ·)
 tg:ps.Pairwise fun x y=>tog (rs.getD x []) (rs.getD y [])=false
 ln:ps.length=mx rs
 le:ps.length<=rs.length
theorem long_ok (rs:List (List Int)):Strs rs (longest (anti rs rs.length)):=by
 obtain ⟨z,zs,e⟩:=anti_ne rs rs.length
 have hm:longest (anti rs rs.length)∈anti rs rs.length:=by
  have:=(foldM_of zs z).1
  rw [e]
  exact this
 have h1:=anti_each rs.length _ hm
 have h2:=(anti_sub rs.length (Nat.le_refl _) _ hm).2
 unfold Anti at h2
 rw [List.pairwise_map] at h2
 exact ⟨h1.2,anti_up _ _ hm,h2,rfl,h1.1⟩
theorem its_range (rs:List (List Int)):its rs (List.range rs.length)=rs:=by
 refine List.ext_getElem? fun i=>?_
 rw [List.getElem?_map]
 by_cases h:i<rs.length
 ·rw [List.getElem?_range h,getD_some (d:=[]) h]
  rfl
 ·rw [List.getElem?_eq_none (by rw [List.length_range];omega),List.getElem?_eq_none (by omega)]
  rfl
theorem mx_starts {rs:List (List Int)} (h:GH rs) {a:Prl} {S:List Nat} (T:St (fol rs) rs.length a S):(starts rs.length a).length=mx rs:=by
 have O:=fol_or h
 have L:=long_ok rs
 have sl:=starts_len T.m
 refine Nat.le_antisymm ?_ ?_
 ·obtain ⟨A,a1,a2,a3⟩:=strangers_of T
  have sub:=a1.map fun p=>rs.getD p []
  rw [show (List.range rs.length).map (fun p=>rs.getD p [])=rs from its_range rs] at sub
  have nd:A.Pairwise fun x y=>x≠y:=List.nodup_range.sublist a1
  have:=(mx_max rs).le _ sub (by
   unfold Anti
   rw [List.pairwise_map]
   exact (nd.and a2).imp fun {x y} z=>(fol_tog z.1).mpr z.2)
  rw [List.length_map] at this
  omega
 ·rw [<- L.ln]
  exact anti_le O T.m L.lt ((L.up.and L.tg).imp fun {x y} z=>⟨by have:=z.1;omega,(fol_tog (by have:=z.1;omega)).mp z.2⟩)
end DI
namespace DI
open PySem L2
noncomputable abbrev pI (ps:List Nat):List Int:=ps.map fun p:Nat=>(p:Int)
theorem pD_m (ps:List Nat):pD ps=mD (pI ps):=by
 show D.tup _=D.tup ((ps.map _).map _)
 rw [List.map_map]
 rfl
theorem eqL {a b:List Int} {s:Sto}:opEq (.lst (a.map D.int)) (.lst (b.map D.int)) s=ok (.bl (decide (a=b))) s:=by
 have l1:∀c:List Int,lay (.lst (c.map D.int))=true:=fun c=>by simp only [lay,lays_ints]
 have hd:dep (.lst (a.map D.int))<=100:=by simp only [dep,deps_ints];decide
 have e:eqAns (.lst (a.map D.int)) (.lst (b.map D.int))=some (decide (a=b)):=by
  unfold eqAns
  rw [if_neg (show ¬ (isS (.lst _)&&isS (.lst _))=true from Bool.false_ne_true),if_pos (by rw [l1,l1,decide_eq_true (Nat.le_trans (Nat.min_le_left _ _) hd)];rfl)]
  simp only [beq,beqs_dec]
 show (match eqAns (.lst (a.map D.int)) (.lst (b.map D.int)) with|some b=>ok (D.bl b) s|none=>none)=_
 rw [e]
theorem ixP {ps:List Nat} {i x:Nat} {s:Sto} (h:ps[i]?=some x):opIx (pD ps) (.int i) s=ok (.int x) s:=ixT_of (by rw [List.getElem?_map,h];rfl)
structure Rws (rs:List (List Int)) (rows:List (List Nat)):Prop where
 ne:∀r∈rows,r≠[]
 lt:∀r∈rows,∀x∈r,x<rs.length
 up:∀r∈rows,r.Pairwise fun x y=>sub (rs.getD x []) (rs.getD y [])=true
 pm:rows.flatten.Perm (List.range rs.length)
 ln:rows.length<=rs.length
noncomputable abbrev RD (rows:List (List Nat)):D:=.tup (rows.map pD)
theorem Rws.flat {rs:List (List Int)} {rows:List (List Nat)} (h:Rws rs rows):rows.flatten.length=rs.length:=by rw [h.pm.length_eq,List.length_range]
theorem Rws.len {rs:List (List Int)} {rows:List (List Nat)} (h:Rws rs rows) {r:List Nat} (hr:r∈rows):r.length<=rs.length:=by
 rw [<- h.flat]
 exact (List.sublist_flatten_of_mem hr).length_le
theorem sort_flat {ps:List Nat} {n:Nat} (h:ps.Perm (List.range n)):ST.isort ST.intO (pI ps)=pI (List.range n):=by
 refine ST.up_unique ((ST.isort_perm _).trans (h.map _)) (ST.isort_up _) ?_
 unfold pI
 rw [List.pairwise_map]
 exact List.pairwise_lt_range.imp fun {x y} z=>decide_eq_false (by omega)
theorem rng_pI (n:Nat):rng 0 n=(pI (List.range n)).map D.int:=by
 rw [rng_map]
 unfold pI
 rw [List.map_map]
 exact List.map_congr_left fun x _=>by show D.int (0+(x:Int))=D.int x;rw [Int.zero_add]
theorem listR {n:Nat} {s:Sto} (h:n<=9):bListR [.int n] s=ok (.lst ((pI (List.range n)).map D.int)) s:=by
 show (if (decide ((0:Int)<=n)&&decide ((n:Int)<=1000000))=true then ok (D.lst (rng 0 (n:Int).toNat)) s else none)=_
 rw [decide_eq_true (show (0:Int)<=n by omega),decide_eq_true (show (n:Int)<=1000000 by omega),Int.toNat_natCast,rng_pI]
 rfl
theorem sortedP {ps:List Nat} {n:Nat} {d:D} {s:Sto} (hd:res d s=.lst (ps.map fun p:Nat=>D.int p)) (h:ps.Perm (List.range n)) (hn:n<=9):bSortI [d] s=ok (.lst ((pI (List.range n)).map D.int)) s:=by
 have hl:=h.length_eq
 rw [List.length_range] at hl
 show (match res d s with | .lst xs=>if xs.length<64 then pur ((ints? xs).map fun ns=>D.lst ((ST.isort ST.intO ns).map D.int)) s else none | _=>none)=_
 rw [hd]
 show (if (ps.map fun p:Nat=>D.int p).length<64 then pur ((ints? (ps.map fun p:Nat=>D.int p)).map fun ns=>D.lst ((ST.isort ST.intO ns).map D.int)) s else none)=_
 have e:(ps.map fun p:Nat=>D.int p)=(pI ps).map D.int:=by unfold pI;rw [List.map_map];rfl
 rw [if_pos (by rw [List.length_map];omega),e,ints?_map]
 show ok (D.lst ((ST.isort ST.intO (pI ps)).map D.int)) s=_
 rw [sort_flat h]
theorem enum_get {ps:List Nat} {i:Nat} {d:D} (h:(enumD (ps.map fun p:Nat=>D.int p))[i]?=some d):∃x,ps[i]?=some x/\d=.tup [.int i,.int x]:=by
 unfold enumD at h
 rw [List.getElem?_map,List.getElem?_zipIdx,List.getElem?_map] at h
 cases hp:ps[i]? with
 |none=>rw [hp] at h;cases h
 |some x =>
  rw [hp] at h
  refine ⟨x,rfl,?_⟩
  simp at h
  exact h.symm
theorem at_up {R:Nat->Nat->Prop} {ps:List Nat} (h:ps.Pairwise R) {i j x y:Nat} (hi:ps[i]?=some x) (hj:ps[j]?=some y) (l:i<j):R x y:=by
 obtain ⟨i1,e1⟩:=List.getElem?_eq_some_iff.mp hi
 obtain ⟨j1,e2⟩:=List.getElem?_eq_some_iff.mp hj
 rw [<- e1,<- e2]
 exact List.pairwise_iff_getElem.mp h i j i1 j1 l
theorem place_ok {rs:List (List Int)} {env:Env} {k x:Nat} {s:Sto} {f:Env->Sto->Res D} (h1:eLoc k env s=ok (.int x) s) (h0:eLoc 0 env s=ok (rD rs) s) (hx:x<rs.length):(tOr (tNot (tTru (eB bIsi (aCons (eLoc k) (aCons (eC (.ty "int")) aNil))))) (tOr (tTru (eB bIsi (aCons (eLoc k) (aCons (eC (.ty "bool")) aNil)))) (tNot (tBl (eCh opLe opLt (eC (.int 0)) (eLoc k) (eB bLen (aCons (eLoc 0) aNil))))))) env s=ok false s:=by
 refine Wp.eq ?_
 simp only [wp_ok,wp_C,wp_aNil,wp_aCons,wp_eB,wp_tBl,wp_isBl,wp_tru,wp_tOr,wp_tNot,wp_eCh,h1]
 refine Wp.of (show bIsi [.int x,.ty "int"] s=ok (.bl true) s from rfl) ?_
 simp only [wp_ok,wp_truB,Bool.not_true,Bool.false_eq_true,if_false,h1]
 refine Wp.of (show bIsi [.int x,.ty "bool"] s=ok (.bl false) s from rfl) ?_
 simp only [wp_ok,wp_isBl,wp_truB,wp_leI,Bool.false_eq_true,if_false,h1]
 rw [decide_eq_true (show (0:Int)<=x by omega)]
 simp only [wp_ok,wp_isBl,wp_ltI,if_true,h0,lenR]
 rw [decide_eq_true (show (x:Int)<rs.length by omega)]
 simp
theorem notNone {r:List Nat} (h:r≠[]) {s:Sto}:opEq (pD r) (.tup []) s=ok (.bl false) s:=by
 rw [pD_m,show D.tup []=mD [] from rfl]
 unfold opEq
 rw [eqT,decide_eq_false (fun z=>h (List.map_eq_nil_iff.mp z))]
theorem lrows_ok {rs:List (List Int)} (h:GH rs) {rows:List (List Nat)} (g:Rws rs rows) {s:Sto}:Wp (k42.f_Lare_rows [rD rs,RD rows] s) fun d s'=>d=.bl true/\Kp s s':=by
 have hi:=h.hi
 unfold k42.f_Lare_rows
 rw [wp_fn]
 refine ⟨rfl,?_⟩
 refine Wp.step fun R hR=>?_
 simp only [wp_loc0,wp_locS,wp_C,wp_aNil,wp_aCons,wp_eB,wp_tru,wp_tNot,wp_sNil,wp_sRet,aft_nx,aft_rt,wp_sIf,fin_rt,List.map_cons,List.map_nil,List.cons_append,List.nil_append,List.replicate,Nat.reduceSub]
 refine Wp.of (show bIsi [RD rows,.ty "tuple"] s=ok (.bl true) s from rfl) ?_
 simp only [wp_truB,Bool.not_true,Bool.false_eq_true,if_false]
 subst hR
 refine Wp.step fun R hR=>?_
 simp only [wp_aNil,wp_new,aft_nx,wp_sAsg,asg_N,List.length_nil,List.set_cons_succ,List.set_cons_zero]
 refine ⟨by decide,?_⟩
 subst hR
 refine Wp.step fun R hR=>?_
 rw [wp_sFor]
 refine Wp.of (iSeqT_of rfl) ?_
 refine Wp.for_ (fun j env s'=>s'=s++[.lst (((rows.take j).flatten).map fun p:Nat=>D.int p)]/\∃x y z,env=[some (rD rs),some (RD rows),some (.han s.length),x,y,z]) _ ⟨rfl,_,_,_,rfl⟩ (fun j d env s' hd hI=>?_) (fun env s' hI=>?_)
 ·obtain ⟨rfl,x,y,z,rfl⟩:=hI
  rw [List.getElem?_map] at hd
  cases hr:rows[j]? with
  |none=>rw [hr] at hd;cases hd
  |some r =>
   rw [hr] at hd
   cases hd
   have hm:=List.mem_of_getElem? hr
   have lr:=g.len hm
   refine ⟨_,rfl,?_⟩
   rw [List.take_succ,hr,List.flatten_append]
   have lf:(rows.take j).flatten.length<=9:=by
    have:=g.flat
    rw [<- List.take_append_drop j rows,List.flatten_append,List.length_append] at this
    omega
   generalize (rows.take j).flatten=F at lf
   refine Wp.step fun R2 hR2=>?_
   simp only [wp_loc0,wp_locS,wp_C,wp_e2,wp_aNil,wp_aCons,wp_eB,wp_tup,wp_tBl,wp_tru,wp_tOr,wp_tNot,wp_sNil,wp_sRet,aft_nx,aft_rt,wp_sIf,fin_rt,List.length_nil,List.set_cons_succ,List.set_cons_zero]
   refine Wp.of (show bIsi [pD r,.ty "tuple"] _=ok (.bl true) _ from rfl) ?_
   simp only [wp_truB,Bool.not_true,Bool.false_eq_true,if_false]
   refine ⟨by decide,?_⟩
   refine Wp.of (notNone (g.ne r hm)) ?_
   simp only [wp_isBl,Bool.false_eq_true,if_false]
   subst hR2
   rw [wp_sFor]
   refine Wp.of (show iEnum _ _ _=ok (enumD (r.map fun p:Nat=>D.int p)) _ from rfl) ?_
   refine Wp.for_ (fun i env s'=>s'=s++[.lst ((F++r.take i).map fun p:Nat=>D.int p)]/\∃y z,env=[some (rD rs),some (RD rows),some (.han s.length),some (pD r),y,z]) _ ⟨by simp,_,_,rfl⟩ (fun i d env s' hd hI=>?_) (fun env s' hI=>?_)
   ·obtain ⟨rfl,y,z,rfl⟩:=hI
    obtain ⟨x,hx,rfl⟩:=enum_get hd
    have xl:=g.lt r hm x (List.mem_of_getElem? hx)
    refine ⟨_,rfl,?_⟩
    refine Wp.step fun R3 hR3=>?_
    rw [wp_sIf,place_ok (rs:=rs) (x:=x) (f:=eLoc 0) rfl rfl xl]
    simp only [wp_ok,wp_C,wp_sNil,wp_sRet,aft_nx,aft_rt,List.set_cons_succ,List.set_cons_zero,Bool.false_eq_true,if_false]
    subst hR3
    refine Wp.step fun R3 hR3=>?_
    have fin:sExpr (eApp (eLoc 2) (eLoc 5)) [some (rD rs),some (RD rows),some (.han s.length),some (pD r),some (.int i),some (.int x)] (s++[.lst ((F++r.take i).map fun p:Nat=>D.int p)])=ok (.nx [some (rD rs),some (RD rows),some (.han s.length),some (pD r),some (.int i),some (.int x)]) (s++[.lst ((F++r.take (i+1)).map fun p:Nat=>D.int p)]):=by
     refine Wp.eq ?_
     simp only [wp_loc0,wp_locS,wp_sExpr,wp_app,true_and]
     refine ⟨by unfold lstH;simp,?_⟩
     refine Wp.of (appLast (by rw [List.length_map,List.length_append,List.length_take];omega)) ?_
     rw [List.take_succ,hx]
     simp
    simp only [wp_loc0,wp_locS,wp_C,wp_e2,wp_aNil,wp_aCons,wp_call,wp_tBl,wp_isBl,wp_tru,wp_tAnd,wp_tNot,wp_sNil,wp_sRet,aft_nx,aft_rt,wp_sIf,wp_gtI,wp_subI]
    by_cases h0:0<i
    ·rw [decide_eq_true (show (i:Int) > 0 by omega),show ((i:Int)-1)=((i-1:Nat):Int) by omega]
     simp only [if_true]
     have hl:=(List.getElem?_eq_some_iff.mp hx).1
     have hy:r[i-1]?=some (r.getD (i-1) 0):=getD_some (d:=0) (by omega)
     have yl:=g.lt r hm _ (List.mem_of_getElem? hy)
     simp only [ixP hy,ixR yl,ixR xl,within_eq (h.at _),wp_ok,wp_truB]
     rw [at_up (g.up r hm) hy hx (by omega)]
     simp only [Bool.not_true,Bool.false_eq_true,if_false]
     subst hR3
     exact Wp.of fin ⟨rfl,_,_,rfl⟩
    ·rw [decide_eq_false (show ¬ (i:Int) > 0 by omega)]
     simp only [Bool.false_eq_true,if_false]
     subst hR3
     exact Wp.of fin ⟨rfl,_,_,rfl⟩
   ·obtain ⟨rfl,y,z,rfl⟩:=hI
    have el:(enumD (r.map fun p:Nat=>D.int p)).length=r.length:=by unfold enumD;simp
    rw [el,List.take_length]
    exact ⟨by simp,_,_,_,rfl⟩
 ·obtain ⟨rfl,x,y,z,rfl⟩:=hI
  rw [List.length_map,List.take_length]
  subst hR
  simp only [wp_loc0,wp_locS,wp_e2,wp_aNil,wp_aCons,wp_eB,wp_sRet,aft_nx,fin_rt]
  refine Wp.of (sortedP (ps:=rows.flatten) (by unfold res;simp) g.pm hi) ?_
  rw [lenR]
  simp only [wp_ok]
  refine Wp.of (listR hi) ?_
  refine Wp.of eqL ?_
  rw [decide_eq_true rfl]
  exact ⟨rfl,Kp.app _ _⟩
end DI
namespace DI
open PySem L2
theorem lstr_ok {rs:List (List Int)} (h:GH rs) {ps:List Nat} (g:Strs rs ps) {s:Sto}:k42.f_Lare_strangers [rD rs,pD ps] s=ok (.bl true) s:=by
 have hi:=h.hi
 have le:=g.le
 refine Wp.eq ?_
 unfold k42.f_Lare_strangers
 rw [wp_fn]
 refine ⟨rfl,?_⟩
 refine Wp.step fun R hR=>?_
 simp only [wp_loc0,wp_locS,wp_C,wp_aNil,wp_aCons,wp_eB,wp_tru,wp_tNot,wp_sNil,wp_sRet,aft_nx,aft_rt,wp_sIf,fin_rt,List.map_cons,List.map_nil,List.cons_append,List.nil_append,List.replicate,Nat.reduceSub]
 refine Wp.of (show bIsi [pD ps,.ty "tuple"] s=ok (.bl true) s from rfl) ?_
 simp only [wp_truB,Bool.not_true,Bool.false_eq_true,if_false]
 subst hR
 refine Wp.step fun R hR=>?_
 rw [wp_sFor]
 refine Wp.of (show iEnum _ _ _=ok (enumD (ps.map fun p:Nat=>D.int p)) _ from rfl) ?_
 refine Wp.for_ (fun i env s'=>s'=s/\∃y z,env=[some (rD rs),some (pD ps),y,z]) _ ⟨rfl,_,_,rfl⟩ (fun i d env s' hd hI=>?_) (fun env s' hI=>?_)
 ·obtain ⟨rfl,y,z,rfl⟩:=hI
  obtain ⟨x,hx,rfl⟩:=enum_get hd
  have xl:=g.lt x (List.mem_of_getElem? hx)
  have hl:=(List.getElem?_eq_some_iff.mp hx).1
  refine ⟨_,rfl,?_⟩
  refine Wp.step fun R3 hR3=>?_
  rw [wp_sIf,place_ok (rs:=rs) (x:=x) (f:=eLoc 0) rfl rfl xl]
  simp only [wp_ok,wp_C,wp_sNil,wp_sRet,aft_nx,aft_rt,fin_rt,List.set_cons_succ,List.set_cons_zero,Bool.false_eq_true,if_false]
  subst hR3
  refine Wp.step fun R3 hR3=>?_
  have fin:(sIf (tBl (e2 opNe (eComp 1 [0,3] (iSeq (eSl (eLoc 1) pNo (pInt (eLoc 2)))) (gN 0) (tTru (eCall k42.f_Lakin (aCons (eLoc 1) (aCons (eLoc 0) (aCons (eLoc 2) aNil))))) (eLoc 0)) (eLst aNil))) (sRet (eC (.bl false))) sNil) [some (rD rs),some (pD ps),some (.int i),some (.int x)] s'=ok (.nx [some (rD rs),some (pD ps),some (.int i),some (.int x)]) s':=by
   refine Wp.eq ?_
   rw [wp_sIf,wp_tBl,wp_e2,wp_comp]
   refine Wp.of (iSeqT_of (sl_take (xs:=ps.map fun p:Nat=>D.int p) (k:=i) rfl rfl (by rw [List.length_map];omega))) ⟨le_size (by rw [List.length_take,List.length_map];omega),?_⟩
   rw [<- List.map_take]
   refine Wp.of (comp_map (fun p:Nat=>D.int p) (fun _=>false) (fun p:Nat=>D.int p) _ fun p hp=>⟨[some (.int p),some (rD rs),some (.int x)],rfl,?_,fun z=>by cases z⟩) ?_
   ·obtain ⟨j,hj⟩:=List.getElem?_of_mem hp
    rw [List.getElem?_take] at hj
    split at hj
    ·rename_i lj
     have pl:=g.lt p (List.mem_of_getElem? hj)
     refine Wp.eq ?_
     simp only [wp_ok,wp_loc0,wp_locS,wp_aNil,wp_aCons,wp_call,wp_tru,wp_truB,akin_eq h pl xl]
     rw [tog_comm,at_up g.tg hj hx lj]
     simp
    ·cases hj
   ·rw [show (ps.take i).filter (fun _=>false)=[] from List.filter_eq_nil_iff.mpr fun _ _=>Bool.false_ne_true]
    simp only [wp_C,wp_aNil,wp_lst,wp_sNil,wp_sRet,List.map_nil,List.length_nil,true_and]
    refine ⟨Nat.zero_le _,?_⟩
    refine Wp.of (show opNe (.lst []) (.lst []) s'=ok (.bl false) s' from rfl) ?_
    simp only [wp_isBl,Bool.false_eq_true,if_false]
  simp only [wp_loc0,wp_locS,wp_C,wp_e2,wp_tBl,wp_isBl,wp_tAnd,wp_sNil,wp_sRet,aft_nx,aft_rt,wp_sIf,wp_gtI,wp_subI]
  by_cases h0:0<i
  ·rw [decide_eq_true (show (i:Int) > 0 by omega),show ((i:Int)-1)=((i-1:Nat):Int) by omega]
   simp only [if_true]
   have hy:ps[i-1]?=some (ps.getD (i-1) 0):=getD_some (d:=0) (by omega)
   have lt:=at_up g.up hy hx (by omega)
   rw [ixP hy]
   simp only [wp_ok,wp_isBl,wp_geI]
   rw [decide_eq_false (show ¬ ((ps.getD (i-1) 0:Nat):Int) ≥ x by omega)]
   simp only [Bool.false_eq_true,if_false]
   subst hR3
   exact Wp.of fin ⟨rfl,_,_,rfl⟩
  ·rw [decide_eq_false (show ¬ (i:Int) > 0 by omega)]
   simp only [Bool.false_eq_true,if_false]
   subst hR3
   exact Wp.of fin ⟨rfl,_,_,rfl⟩
 ·obtain ⟨rfl,y,z,rfl⟩:=hI
  subst hR
  simp only [wp_C,wp_sRet,aft_nx,fin_rt,and_self]
theorem places_true {rs:List (List Int)} {ps:List Nat} {s:Sto} (h:GH rs) (lt:∀x∈ps,x<rs.length) (hl:ps.length<=9):k42.f_are_places [rD rs,pD ps] s=ok (.bl true) s:=by
 refine Wp.eq ?_
 unfold k42.f_are_places
 simp only [wp_loc0,wp_locS,wp_C,wp_aNil,wp_aCons,wp_eB,wp_eAnd,wp_sRet,wp_fn,fin_rt,wp_comp,List.map_cons,List.map_nil,List.cons_append,List.nil_append,List.length_cons,List.length_nil,List.replicate,true_and,Nat.reduceSub,Nat.reduceAdd]
 refine Wp.of (show bIsi [pD ps,.ty "tuple"] s=ok (.bl true) s from rfl) ?_
 simp only [wp_isBl,if_true]
 refine Wp.of (iSeqT_of rfl) ⟨le_size (by rw [List.length_map];omega),?_⟩
 refine Wp.of (comp_map (fun p:Nat=>D.int p) (fun _=>true) (fun _=>.bl true) ps fun p hp=>⟨[some (.int p),some (rD rs)],rfl,rfl,fun _=>?_⟩) ?_
 ·refine Wp.eq ?_
  simp only [wp_ok,wp_loc0,wp_locS,wp_aNil,wp_aCons,wp_eB,wp_call,lenR,below_eq]
  have:=lt p hp
  rw [decide_eq_true (show (0:Int)<=p by omega),decide_eq_true (show (p:Int)<rs.length by omega)]
  exact ⟨rfl,trivial⟩
 ·rw [filter_tt]
  exact Wp.of (all_bls (fun _=>true) _ _) ⟨by simp,rfl⟩
theorem zip_up {R:Nat->Nat->Prop} {ps:List Nat} (h:ps.Pairwise R) {p:Nat×Nat} (hp:p∈ps.zip (ps.drop 1)):R p.1 p.2/\p.1∈ps/\p.2∈ps:=by
 obtain ⟨i,hi⟩:=List.getElem?_of_mem hp
 rw [List.getElem?_zip_eq_some,List.getElem?_drop] at hi
 exact ⟨at_up h hi.1 hi.2 (by omega),List.mem_of_getElem? hi.1,List.mem_of_getElem? hi.2⟩
theorem zipD_nat (xs ys:List Nat):zipD (xs.map fun p:Nat=>D.int p) (ys.map fun p:Nat=>D.int p)=(xs.zip ys).map fun p=>D.tup [.int p.1,.int p.2]:=by
 unfold zipD
 rw [List.zip_map,List.map_map]
 rfl
theorem row_true {rs:List (List Int)} (h:GH rs) {rows:List (List Nat)} (g:Rws rs rows) {r:List Nat} (hr:r∈rows) {s:Sto}:k42.f_is_row [rD rs,pD r] s=ok (.bl true) s:=by
 have hi:=h.hi
 have lr:=g.len hr
 have pos:=List.length_pos_iff.mpr (g.ne r hr)
 refine Wp.eq ?_
 unfold k42.f_is_row
 simp only [wp_ok,wp_loc0,wp_locS,wp_C,wp_e2,wp_aNil,wp_aCons,wp_eB,wp_call,wp_isBl,wp_eAnd,wp_sRet,wp_fn,fin_rt,wp_comp,List.map_cons,List.map_nil,List.cons_append,List.nil_append,List.length_cons,List.length_nil,List.replicate,true_and,Nat.reduceSub,Nat.reduceAdd,wp_gtI,places_true h (g.lt r hr) (show r.length<=9 by omega),if_true,lenP]
 rw [decide_eq_true (show (r.length:Int) > 0 by omega)]
 simp only [if_true]
 refine Wp.of (iZipT_of (xs:=r.map fun p:Nat=>D.int p) (ys:=(r.map fun p:Nat=>D.int p).drop 1) (s1:=s) (Wp.eq ?_)) ?_
 ·rw [wp_aCons,wp_locS,wp_loc0,wp_aCons,sl_drop (xs:=r.map fun p:Nat=>D.int p) (k:=1) rfl rfl]
  simp only [wp_ok,wp_aNil,and_self]
 ·rw [<- List.map_drop,zipD_nat]
  refine ⟨le_size (by rw [List.length_map,List.length_zip];omega),?_⟩
  refine Wp.of (comp_map (fun p:Nat×Nat=>D.tup [.int p.1,.int p.2]) (fun _=>true) (fun _=>.bl true) _ fun p hp=>⟨[some (.int p.1),some (.int p.2),some (rD rs)],rfl,rfl,fun _=>?_⟩) ?_
  ·obtain ⟨u,m1,m2⟩:=zip_up (g.up r hr) hp
   refine Wp.eq ?_
   simp only [wp_ok,wp_loc0,wp_locS,wp_e2,wp_aNil,wp_aCons,wp_call,ixR (g.lt r hr _ m1),ixR (g.lt r hr _ m2),has_all_eq (h.at _),u,and_self]
  ·rw [filter_tt]
   exact Wp.of (all_bls (fun _=>true) _ _) ⟨by simp,rfl⟩
theorem rows_true {rs:List (List Int)} (h:GH rs) (h1:1<=rs.length) {rows:List (List Nat)} (g:Rws rs rows) {s:Sto}:k42.f_are_rows [rD rs,RD rows] s=ok (.bl true) s:=by
 have hi:=h.hi
 have ln:=g.ln
 refine Wp.eq ?_
 unfold k42.f_are_rows
 rw [wp_fn]
 refine ⟨rfl,?_⟩
 refine Wp.step fun R hR=>?_
 simp only [wp_ok,wp_loc0,wp_aNil,wp_aCons,wp_call,wp_sExpr,aft_nx,List.map_cons,List.map_nil,List.cons_append,List.nil_append,List.replicate,Nat.reduceSub,heap_eq h h1]
 subst hR
 refine Wp.step fun R hR=>?_
 simp only [wp_loc0,wp_locS,wp_C,wp_aNil,wp_aCons,wp_eB,wp_tru,wp_tOr,wp_tNot,wp_sNil,wp_sRet,aft_nx,aft_rt,wp_sIf,fin_rt,wp_comp]
 refine Wp.of (show bIsi [RD rows,.ty "tuple"] s=ok (.bl true) s from rfl) ?_
 simp only [wp_truB,Bool.not_true,Bool.false_eq_true,if_false]
 refine Wp.of (iSeqT_of rfl) ⟨le_size (by rw [List.length_map];omega),?_⟩
 refine Wp.of (comp_map pD (fun _=>true) (fun _=>.bl true) rows fun r hr=>⟨[some (pD r),some (rD rs)],rfl,rfl,fun _=>Wp.eq (by simp only [wp_ok,wp_loc0,wp_locS,wp_aNil,wp_aCons,wp_call,row_true h g hr,and_self])⟩) ?_
 rw [filter_tt]
 refine Wp.of (all_bls (fun _=>true) _ _) ?_
 rw [show rows.all (fun _=>true)=true by simp]
 simp only [wp_truB,Bool.not_true,Bool.false_eq_true,if_false]
 subst hR
 rw [wp_sRet,wp_e2,wp_eB,wp_aCons]
 unfold eComp2
 rw [wp_compA]
 refine Wp.of (iSeqT_of rfl) ?_
 refine Wp.of (cl_map pD (fun _=>true) (fun r=>r.map fun p:Nat=>D.int p) _ fun r hr=>⟨[some (pD r),none],rfl,rfl,fun _=>?_⟩) ?_
 ·unfold more
  rw [iSeqT_of (ds:=r.map fun p:Nat=>D.int p) (s1:=s) rfl,bnd_ok]
  rw [cl_map (fun p:Nat=>D.int p) (fun _=>true) (fun p=>[D.int p]) r fun p hp=>⟨[some (pD r),some (.int p)],rfl,rfl,fun _=>?_⟩]
  ·rw [filter_tt,<- List.map_eq_flatMap]
  ·rfl
 ·rw [filter_tt,<- List.map_flatMap,List.flatMap_id']
  refine ⟨le_size (by rw [List.length_map,g.flat];omega),?_⟩
  simp only [wp_loc0,wp_aNil,wp_aCons,wp_eB,fin_rt]
  refine Wp.of (sortedP (ps:=rows.flatten) rfl g.pm hi) ?_
  rw [lenR]
  simp only [wp_ok]
  refine Wp.of (listR hi) ?_
  refine Wp.of eqL ?_
  rw [decide_eq_true rfl]
  exact ⟨rfl,rfl⟩
theorem str_true {rs:List (List Int)} (h:GH rs) (h1:1<=rs.length) {ps:List Nat} (g:Strs rs ps) {s:Sto}:k42.f_are_strangers [rD rs,pD ps] s=ok (.bl true) s:=by
 have hi:=h.hi
 have le:=g.le
 refine Wp.eq ?_
 unfold k42.f_are_strangers
 simp only [wp_ok,wp_loc0,wp_locS,wp_aNil,wp_aCons,wp_eB,wp_call,wp_isBl,wp_eAnd,wp_sRet,wp_sExpr,wp_sSeq,aft_nx,wp_fn,fin_rt,wp_comp,List.map_cons,List.map_nil,List.cons_append,List.nil_append,List.length_cons,List.length_nil,List.replicate,true_and,Nat.reduceSub,Nat.reduceAdd,heap_eq h h1,places_true h g.lt (show ps.length<=9 by omega),if_true]
 refine Wp.of (show f_is_rising [pD ps] s=ok (.bl true) s from ?_) ?_
 ·rw [pD_m,rising_eq (by rw [List.length_map];omega),rise_of]
  unfold pI
  rw [List.pairwise_map]
  exact g.up.imp fun {x y} z=>by omega
 ·simp only [wp_isBl,if_true]
  refine Wp.of (iR1_of (s1:=s) (n:=ps.length) (Wp.eq (by simp only [wp_ok,wp_loc0,wp_locS,wp_aNil,wp_aCons,wp_eB,lenP,and_self])) (by omega)) ⟨le_size (by rw [rng_len];omega),?_⟩
  rw [rng_map]
  refine Wp.of (comp_map (fun i:Nat=>D.int (0+(i:Int))) (fun _=>true) (fun _=>.bl true) _ fun i hm=>⟨[some (.int (0+(i:Int))),some (rD rs),some (pD ps)],rfl,rfl,fun _=>?_⟩) ?_
  ·have il:=List.mem_range.mp hm
   rw [Int.zero_add]
   have hx:ps[i]?=some (ps.getD i 0):=getD_some (d:=0) il
   have xl:=g.lt _ (List.mem_of_getElem? hx)
   refine Wp.eq ?_
   rw [wp_call,wp_aCons,wp_locS,wp_loc0,wp_aCons,sl_take (xs:=ps.map fun p:Nat=>D.int p) (k:=i) rfl rfl (by rw [List.length_map];omega)]
   simp only [wp_ok,wp_loc0,wp_locS,wp_e2,wp_aNil,wp_aCons,ixP hx]
   rw [<- List.map_take]
   refine Wp.of (strange_eq h xl (fun p hp=>?_) (by rw [List.length_take];omega)) ⟨?_,rfl⟩
   ·obtain ⟨j,hj⟩:=List.getElem?_of_mem hp
    rw [List.getElem?_take] at hj
    split at hj
    ·rename_i lj;exact at_up g.up hj hx lj
    ·cases hj
   ·have:strange rs (ps.take i) (ps.getD i 0)=true:=by
     refine strange_iff.mpr fun a ha=>?_
     obtain ⟨p,hp,rfl⟩:=List.mem_map.mp ha
     obtain ⟨j,hj⟩:=List.getElem?_of_mem hp
     rw [List.getElem?_take] at hj
     split at hj
     ·rename_i lj;exact at_up g.tg hj hx lj
     ·cases hj
    rw [this]
  ·rw [filter_tt]
   exact Wp.of (all_bls (fun _=>true) _ _) ⟨by simp,rfl⟩
theorem rws_of {rs:List (List Int)} (h:GH rs) {a:Prl} {S:List Nat} (T:St (fol rs) rs.length a S):Rws rs ((starts rs.length a).map (row rs.length a)):=by
 have O:=fol_or h
 have sl:=starts_len T.m
 refine ⟨fun r hr=>?_,fun r hr=>?_,fun r hr=>?_,?_,by rw [List.length_map];omega⟩
 ·obtain ⟨x,hx,rfl⟩:=List.mem_map.mp hr
  exact fun e=>by have:=(row_facts O T.m x (start_lt hx)).2.1;rw [e] at this;cases this
 ·obtain ⟨x,hx,rfl⟩:=List.mem_map.mp hr
  exact (row_facts O T.m x (start_lt hx)).1
 ·obtain ⟨x,hx,rfl⟩:=List.mem_map.mp hr
  exact (row_facts O T.m x (start_lt hx)).2.2.1.imp fun {x y} z=>(fol_iff.mp z).1
 ·exact rows_perm O T.m
end DI
namespace DI
open PySem L2
structure Ft (n W:Nat) (d:D):Prop where
 pl:plain d=true
 sh:(py d).showable=true
 nd:(py d).hasDict=false
 dp:(py d).depth<=n
 wt:(py d).weight<=W
 lv:(py d).leavesShort 40=true
noncomputable def lfOk (d:D):Bool:=plain d&&(py d).showable&&!(py d).hasDict&&decide ((py d).depth<=0)&&decide ((py d).weight<=110)&&(py d).leavesShort 40
theorem lf_ft {d:D} (h:lfOk d=true):Ft 0 110 d:=by
 unfold lfOk at h
 simp only [Bool.and_eq_true,decide_eq_true_eq,Bool.not_eq_true'] at h
 obtain ⟨⟨⟨⟨⟨h0,h1⟩,h2⟩,h3⟩,h4⟩,h5⟩:=h
 exact ⟨h0,h1,h2,h3,h4,h5⟩
theorem lf_int:∀n:Fin 62,lfOk (.int ((n.val:Int)-1))=true:=by decide +kernel
theorem int_ft {n:Int} (h1:-1<=n) (h2:n<=60):Ft 0 110 (.int n):=by
 refine lf_ft ?_
 have:=lf_int ⟨(n+1).toNat,by omega⟩
 have e2:(((n+1).toNat:Nat):Int)-1=n:=by omega
 rw [e2] at this
 exact this
theorem all_ft {n W:Nat}:∀{ds:List D},(∀x∈ds,Ft n W x)->plains ds=true/\PyData.showableAll (pys ds)=true/\PyData.hasDictAll (pys ds)=false/\PyData.depthAll (pys ds)<=n/\PyData.weightAll (pys ds)<=ds.length*(W+1)/\PyData.leavesShortAll 40 (pys ds)=true
 | [],_=>⟨rfl,rfl,rfl,Nat.zero_le _,by simp [pys,PyData.weightAll],rfl⟩
 |x::xs,h=>by
  obtain ⟨z,a,b,c,d,e⟩:=all_ft (ds:=xs) fun y hy=>h y (List.mem_cons_of_mem _ hy)
  have k:=h x List.mem_cons_self
  refine ⟨?_,?_,?_,?_,?_,?_⟩
  ·simp only [plains,k.pl,z,Bool.and_self]
  ·simp only [pys,PyData.showableAll,k.sh,a,Bool.and_self]
  ·simp only [pys,PyData.hasDictAll,k.nd,b,Bool.or_self]
  ·simp only [pys,PyData.depthAll];have:=k.dp;omega
  ·simp only [pys,PyData.weightAll,List.length_cons]
   have:=k.wt
   rw [Nat.add_mul]
   omega
  ·simp only [pys,PyData.leavesShortAll,k.lv,e,Bool.and_self]
theorem tup_ft {n W c:Nat} {ds:List D} (hl:ds.length<=c) (h:∀x∈ds,Ft n W x):Ft (n+1) (c*(W+1)) (.tup ds):=by
 obtain ⟨z,a,b,c',d',e'⟩:=all_ft h
 have hw:PyData.weightAll (pys ds)<=c*(W+1):=Nat.le_trans d' (Nat.mul_le_mul_right _ hl)
 exact ⟨by simp only [plain];exact z,by simp only [py,PyData.showable];exact a,by simp only [py,PyData.hasDict];exact b,by simp only [py,PyData.depth];omega,by simp only [py,PyData.weight];exact hw,by simp only [py,PyData.leavesShort];exact e'⟩
theorem ft_rep {n W:Nat} {d:D} (h:Ft n W d) (hn:n<=100) (hw:W<=300000):repOk d=true:=by
 have l:=PyData.shown_le 40 (by decide) _ h.lv
 have w:=h.wt
 have p:=h.dp
 have z:sizeLine=16777216:=sizeLine_eq
 have l':(py d).shown.length<=sizeLine:=by rw [z];omega
 unfold repOk
 rw [h.pl,h.sh,h.nd,decide_eq_true (show (py d).depth<=100 by omega),decide_eq_true l']
 rfl
theorem run_ft {rs:List (List Int)} (h:GRun rs):Ft 2 (10*(8*(110+1)+1)) (rD rs):=by
 refine tup_ft (by rw [List.length_map];exact h.hi) fun r hr=>?_
 obtain ⟨r',h1,rfl⟩:=List.mem_map.mp hr
 have g:=h.mks r' h1
 refine tup_ft (by rw [List.length_map];exact g.len) fun x hx=>?_
 obtain ⟨x',h2,rfl⟩:=List.mem_map.mp hx
 have:=g.lo x' h2
 exact int_ft (by omega) (by omega)
theorem repr_run {rs:List (List Int)} {s:Sto} (h:GRun rs):bRepr [rD rs] s=ok (.str (py (rD rs)).shown) s:=by
 show (if repOk (rD rs)=true then ok (D.str (py (rD rs)).shown) s else none)=_
 rw [if_pos (ft_rep (run_ft h) (by decide) (by decide))]
theorem ne_str {x:Str} {s:Sto}:opNe (.str x) (.str x) s=ok (.bl false) s:=by
 show (match eqAns (.str x) (.str x) with|some b=>ok (D.bl (!b)) s|none=>none)=_
 have e:eqAns (.str x) (.str x)=some true:=by
  unfold eqAns
  rw [if_pos (show (isS (.str x)&&isS (.str x))=true from rfl)]
  simp [beq]
 rw [e]
 rfl
end DI
namespace DI
open PySem L2
theorem strof_eq {rs:List (List Int)} {s:Sto} (h:GH rs) (h1:1<=rs.length):k42.f_strangers_of [rD rs] s=ok (pD (longest (anti rs rs.length))) s:=by
 refine Wp.eq ?_
 unfold k42.f_strangers_of
 simp only [wp_ok,wp_loc0,wp_aNil,wp_aCons,wp_call,wp_sRet,wp_sExpr,wp_sSeq,aft_nx,wp_fn,fin_rt,List.map_cons,List.map_nil,List.cons_append,List.nil_append,List.length_cons,List.length_nil,List.replicate,true_and,Nat.reduceSub,Nat.reduceAdd,heap_eq h h1,most_eq h,and_self]
theorem lenRD {rows:List (List Nat)} {s:Sto}:bLen [RD rows] s=ok (.int rows.length) s:=by
 show ok (D.int (rows.map pD).length) s=_
 rw [List.length_map]
section
variable {rs:List (List Int)} {s:Sto} {e0 e1 e2_ e3 e7 e8 e9:Option D} {X:Str}
theorem inner42 (h:GH rs) (h1:1<=rs.length) (hX:∀s,bRepr [rD rs] s=ok (.str X) s) :
  Wp ((sSeq (sIf (tNot (tTru (eCall (k42.f_Lsame 8) (aCons (eCall k42.f_fewest (aCons (eLoc 4) aNil)) (aCons (eLoc 6) aNil))))) (sRet (eC (.bl false))) sNil) (sSeq (par2 8 9 (aCons (eCall k42.f_rows_of (aCons (eLoc 4) aNil)) (aCons (eCall k42.f_strangers_of (aCons (eLoc 4) aNil)) aNil))) (sSeq (sIf (tOr (tNot (tTru (eCall k42.f_Lare_rows (aCons (eLoc 4) (aCons (eLoc 8) aNil))))) (tNot (tTru (eCall k42.f_Lare_strangers (aCons (eLoc 4) (aCons (eLoc 9) aNil)))))) (sRet (eC (.bl false))) sNil) (sIf (tOr (tBl (e2 opNe (eB bLen (aCons (eLoc 8) aNil)) (eLoc 6))) (tOr (tBl (e2 opNe (eB bLen (aCons (eLoc 9) aNil)) (eLoc 6))) (tBl (e2 opNe (eB bRepr (aCons (eLoc 4) aNil)) (eLoc 5))))) (sRet (eC (.bl false))) sNil)))) [e0,e1,e2_,e3,some (rD rs),some (.str X),some (.int (mx rs)),e7,e8,e9] s) fun fl s'=>Kp s s'/\∃rows ps,Rws rs rows/\Strs rs ps/\fl=.nx [e0,e1,e2_,e3,some (rD rs),some (.str X),some (.int (mx rs)),e7,some (RD rows),some (pD ps)]:=by
 refine Wp.step fun R hR=>?_
 simp only [wp_ok,wp_loc0,wp_locS,wp_C,wp_aNil,wp_aCons,wp_call,wp_tru,wp_truB,wp_tNot,wp_sNil,wp_sRet,aft_nx,aft_rt,wp_sIf,fewest_eq h h1,same_eq,beq_self_eq_true,Bool.not_true,Bool.false_eq_true,if_false]
 subst hR
 refine Wp.step fun R hR=>?_
 simp only [wp_loc0,wp_locS,wp_aNil,wp_aCons,wp_call,aft_nx,wp_par2,par_of,List.set_cons_succ,List.set_cons_zero]
 refine (rows_ok h h1).mono fun d s1 hd=>?_
 obtain ⟨a,S,rfl,T,K1⟩:=hd
 have g:=rws_of h T
 have em:=mx_starts h T
 have L:=long_ok rs
 rw [show ((starts rs.length a).map fun x=>pD (row rs.length a x))=((starts rs.length a).map (row rs.length a)).map pD by rw [List.map_map];rfl]
 have em:((starts rs.length a).map (row rs.length a)).length=mx rs:=by rw [List.length_map];exact em
 generalize (starts rs.length a).map (row rs.length a)=rows at g em
 simp only [strof_eq h h1,wp_ok]
 generalize longest (anti rs rs.length)=ps at L
 subst hR
 refine Wp.step fun R hR=>?_
 simp only [wp_loc0,wp_locS,wp_C,wp_aNil,wp_aCons,wp_call,wp_tru,wp_tOr,wp_tNot,wp_sNil,wp_sRet,aft_nx,aft_rt,wp_sIf]
 refine (lrows_ok h g).mono fun d s2 hd=>?_
 obtain ⟨rfl,K2⟩:=hd
 simp only [wp_ok,wp_truB,lstr_ok h L,Bool.not_true,Bool.false_eq_true,if_false]
 subst hR
 simp only [wp_ok,wp_loc0,wp_locS,wp_C,wp_e2,wp_aNil,wp_aCons,wp_eB,wp_tBl,wp_isBl,wp_tOr,wp_sNil,wp_sRet,wp_sIf,wp_neI,lenRD,lenP,em,L.ln,beq_self_eq_true,Bool.not_true,Bool.false_eq_true,if_false,hX,ne_str]
 exact ⟨K1.trans K2,rows,ps,g,L,rfl⟩
theorem turn42 {k:Nat} {e4 e5 e6:Option D} (h:Sf s k) :
  Wp ((sSeq (sAsg (eCall k42.f_Lheap (aCons (eLoc 2) (aCons (eC (.int 9)) aNil))) (gN 4)) (sSeq (par2 5 6 (aCons (eB bRepr (aCons (eLoc 4) aNil)) (aCons (eCall k42.f_Lmost (aCons (eLoc 4) aNil)) aNil))) (sSeq (sFor (iR1 (aCons (eC (.int 2)) aNil)) (gN 7) (sSeq (sIf (tNot (tTru (eCall (k42.f_Lsame 8) (aCons (eCall k42.f_fewest (aCons (eLoc 4) aNil)) (aCons (eLoc 6) aNil))))) (sRet (eC (.bl false))) sNil) (sSeq (par2 8 9 (aCons (eCall k42.f_rows_of (aCons (eLoc 4) aNil)) (aCons (eCall k42.f_strangers_of (aCons (eLoc 4) aNil)) aNil))) (sSeq (sIf (tOr (tNot (tTru (eCall k42.f_Lare_rows (aCons (eLoc 4) (aCons (eLoc 8) aNil))))) (tNot (tTru (eCall k42.f_Lare_strangers (aCons (eLoc 4) (aCons (eLoc 9) aNil)))))) (sRet (eC (.bl false))) sNil) (sIf (tOr (tBl (e2 opNe (eB bLen (aCons (eLoc 8) aNil)) (eLoc 6))) (tOr (tBl (e2 opNe (eB bLen (aCons (eLoc 9) aNil)) (eLoc 6))) (tBl (e2 opNe (eB bRepr (aCons (eLoc 4) aNil)) (eLoc 5))))) (sRet (eC (.bl false))) sNil))))) (sIf (tOr (tBl (e2 opNotB (eCall k42.f_are_rows (aCons (eLoc 4) (aCons (eLoc 8) aNil))) (eC (.bl true)))) (tBl (e2 opNotB (eCall k42.f_are_strangers (aCons (eLoc 4) (aCons (eLoc 9) aNil))) (eC (.bl true))))) (sRet (eC (.bl false))) sNil)))) [e0,e1,some (.han k),e3,e4,e5,e6,e7,e8,e9] s) fun fl s'=>Sf s' k/\∃d4 d5 d6 d7 d8 d9,fl=.nx [e0,e1,some (.han k),e3,d4,d5,d6,d7,d8,d9]:=by
 refine Wp.step fun R hR=>?_
 simp only [wp_loc0,wp_locS,wp_C,wp_aNil,wp_aCons,wp_call,aft_nx,wp_sAsg,asg_N,List.set_cons_succ,List.set_cons_zero]
 refine (heap44 h).mono fun d s1 hd=>?_
 obtain ⟨rs,rfl,h1,g,f1,_⟩:=hd
 have hX:=fun s=>repr_run (s:=s) (g.run h1)
 generalize (py (rD rs)).shown=X at hX
 subst hR
 refine Wp.step fun R hR=>?_
 simp only [wp_ok,wp_loc0,wp_locS,wp_aNil,wp_aCons,wp_eB,wp_call,aft_nx,wp_par2,par_of,List.set_cons_succ,List.set_cons_zero,hX]
 refine (lmost_ok g).mono fun d s2 hd=>?_
 obtain ⟨rfl,K2⟩:=hd
 subst hR
 refine Wp.step fun R hR=>?_
 rw [wp_sFor]
 refine Wp.of (iR1_of (n:=2) rfl (by decide)) ?_
 refine Wp.for_ (fun i env s'=>Sf s' k/\∃d7 d8 d9,env=[e0,e1,some (.han k),e3,some (rD rs),some (.str X),some (.int (mx rs)),d7,d8,d9]/\(1<=i->∃rows ps,Rws rs rows/\Strs rs ps/\d8=some (RD rows)/\d9=some (pD ps))) _ ⟨K2.sf f1,_,_,_,rfl,fun z=>by omega⟩ (fun i d env s' hd hI=>?_) (fun env s' hI=>?_)
 ·obtain ⟨f2,d7,d8,d9,rfl,_⟩:=hI
  refine ⟨_,rfl,(inner42 g h1 hX).mono fun fl s3 hd=>?_⟩
  obtain ⟨K3,rows,ps,a1,a2,rfl⟩:=hd
  exact ⟨K3.sf f2,_,_,_,rfl,fun _=>⟨rows,ps,a1,a2,rfl,rfl⟩⟩
 ·obtain ⟨f2,d7,d8,d9,rfl,hr⟩:=hI
  obtain ⟨rows,ps,a1,a2,rfl,rfl⟩:=hr (by rw [rng_len];decide)
  subst hR
  simp only [wp_ok,wp_loc0,wp_locS,wp_C,wp_e2,wp_aNil,wp_aCons,wp_call,wp_tBl,wp_tOr,wp_sNil,wp_sRet,aft_nx,wp_sIf,rows_true g h1 a1,str_true g h1 a2]
  refine Wp.of (show opNotB (.bl true) (.bl true) s'=ok (.bl false) s' from rfl) ?_
  simp only [wp_isBl,Bool.false_eq_true,if_false,rows_true g h1 a1,str_true g h1 a2]
  refine Wp.of (show opNotB (.bl true) (.bl true) s'=ok (.bl false) s' from rfl) ?_
  simp only [wp_isBl,Bool.false_eq_true,if_false]
  exact ⟨f2,_,_,_,_,_,_,rfl⟩
end
namespace k42
theorem pure_law (ns:List Int) (hn:ns.length<=63):∃s,f_law [.scr ns] []=some (.ok (.bl true),s):=by
 suffices h:Wp (f_law [.scr ns] []) fun d _=>d=.bl true by
  obtain ⟨d,s,e,rfl⟩:=h
  exact ⟨s,e⟩
 unfold f_law
 simp only [wp_fn,List.length_cons,List.length_nil,Nat.reduceAdd,Nat.reduceSub,List.replicate,List.map_cons,List.map_nil,List.cons_append,List.nil_append,true_and,wp_sSeq,wp_sFor]
 have hr:∃n:Nat,n<=1000/\iR1 (aCons (eB bMax2 (aCons (eC (.int 1)) (aCons (eB bMin2 (aCons (eB bLen (aCons (eLoc 0) aNil)) (aCons (eC (.int 3)) aNil))) aNil))) aNil) [some (.scr ns),none,none,none,none,none,none,none,none,none] []=ok (rng 0 n) []:=by
  have e:∃n:Nat,n<=1000/\(aCons (eB bMax2 (aCons (eC (.int 1)) (aCons (eB bMin2 (aCons (eB bLen (aCons (eLoc 0) aNil)) (aCons (eC (.int 3)) aNil))) aNil))) aNil) [some (.scr ns),none,none,none,none,none,none,none,none,none] []=ok [.int n] []:=by
   refine ⟨(if (if (3:Int)<ns.length then (3:Int) else ns.length) > 1 then (if (3:Int)<ns.length then (3:Int) else ns.length) else 1).toNat,by split<;>split<;>omega,?_⟩
   rw [Int.toNat_of_nonneg (by split<;>split<;>omega)]
   rfl
  obtain ⟨n,h1,h2⟩:=e
  exact ⟨n,h1,iR1_of h2 (by omega)⟩
 obtain ⟨n,hn,hr⟩:=hr
 refine Wp.of hr ?_
 refine Wp.for_ (fun i env s=>∃e1 e2 e3 e4 e5 e6 e7 e8 e9,env=[some (.scr ns),e1,e2,e3,e4,e5,e6,e7,e8,e9]) _ ⟨_,_,_,_,_,_,_,_,_,rfl⟩ (fun i d env s hd hI=>?_) (fun env s hI=>?_)
 ·obtain ⟨e1,e2,e3,e4,e5,e6,e7,e8,e9,rfl⟩:=hI
  rw [rng_get] at hd
  split at hd
  ·cases hd
   refine ⟨_,rfl,?_⟩
   rw [wp_sSeq,wp_sAsg]
   simp only [asg_N,wp_call,wp_aCons,wp_aNil,wp_loc0,wp_locS,List.set_cons_succ,List.set_cons_zero]
   refine (state44 (by omega)).mono fun d s1 hd=>?_
   obtain ⟨rfl,h1,c1,rfl⟩:=hd
   generalize s.length=k at h1
   rw [aft_nx,wp_sFor]
   refine Wp.of (iR1_of (n:=3) rfl (by decide)) ?_
   refine Wp.for_ (fun j env s=>Sf s k/\∃e3 e4 e5 e6 e7 e8 e9,env=[some (.scr ns),some (.int (0+(i:Int))),some (.han k),e3,e4,e5,e6,e7,e8,e9]) _ ⟨h1,_,_,_,_,_,_,_,rfl⟩ (fun j d env s hd hI=>?_) (fun env s hI=>?_)
   ·obtain ⟨h2,e3,e4,e5,e6,e7,e8,e9,rfl⟩:=hI
    refine ⟨_,rfl,(turn42 h2).mono fun fl s' hd=>?_⟩
    obtain ⟨h3,d4,d5,d6,d7,d8,d9,rfl⟩:=hd
    exact ⟨h3,_,_,_,_,_,_,_,rfl⟩
   ·obtain ⟨h2,e3,e4,e5,e6,e7,e8,e9,rfl⟩:=hI
    exact ⟨_,_,_,_,_,_,_,_,_,rfl⟩
  ·cases hd
 ·obtain ⟨e1,e2,e3,e4,e5,e6,e7,e8,e9,rfl⟩:=hI
  rw [aft_nx,wp_sRet,wp_C]
  rfl
end k42
end DI
namespace DI.k42
open PySem L2 DI
def Df (K:Frag) (x:Str) (st:Stmt):Prop:=∃(f:Addr) (oc:Value) (od:Option Addr) (sl:Array (Option Value)) (kV dc pm:Value) (an:Option Addr) (cd ct:Value),PySem.W.nsIn K mainGlobals x=some (some (.ref f))/\K.lookup f=some ⟨oc,od,.func (PySem.W.fnOf x x (defArgs st) (defBody st) (defScope st) .none kV dc pm an cd ct),sl⟩/\PySem.W.codeIn K cd x=true/\PySem.W.keepIn K (.ref f)=true
theorem df_mk {K:Frag} {x:Str} {st:Stmt} {f:Addr} {oc:Value} {od:Option Addr} {sl:Array (Option Value)} {kV dc pm:Value} {an:Option Addr} {cd ct:Value} (a:PySem.W.nsIn K mainGlobals x=some (some (.ref f))) (l:K.lookup f=some ⟨oc,od,.func (PySem.W.fnOf x x (defArgs st) (defBody st) (defScope st) .none kV dc pm an cd ct),sl⟩) (c:PySem.W.codeIn K cd x=true) (k:PySem.W.keepIn K (.ref f)=true):Df K x st:=⟨f,oc,od,sl,kV,dc,pm,an,cd,ct,a,l,c,k⟩
theorem gi_mk {K:Frag} {x:Str} {i:Int} {t:Tok} (e:PySem.W.nsIn K mainGlobals x=some (some (.int i t))):∃t,PySem.W.nsIn K mainGlobals x=some (some (.int i t)):=⟨t,e⟩
theorem gd_of {K:Frag} {h:Heap} {mg:Str->Option Value} {x:Str} {st:Stmt} {ps:List Str} (X:K.In h) (G:h.Ns mainGlobals mg) (D:Df K x st) (hb:∀(kV doc pm:Value) (an:Option Addr) (cdv ct:Value) (us:List Value),us.length=ps.length->bindArgs (PySem.W.fnOf x x (defArgs st) (defBody st) (defScope st) .none kV doc pm an cdv ct) ⟨us,[]⟩=pure (ps.zip us)):∃f fd,Gd K mg x st ps f fd:=by
 obtain ⟨f,oc,od,sl,kV,dc,pm,an,cd,ct,a,l,c,k⟩:=D
 have F:=fun_mk (st:=st) l c k
 exact ⟨f,_,PySem.W.mg_of X G a,F,F.binds hb⟩
theorem len_1 {P:List Value->Prop} (h:∀a0:Value,P [a0]) (us:List Value) (hl:us.length=1):P us:=by
 cases us with
 |nil=>simp at hl
 |cons a0 us0 =>
 cases us0 with
 |cons _ _=>simp at hl
 |nil =>
 exact h a0
theorem len_2 {P:List Value->Prop} (h:∀a0 a1:Value,P [a0,a1]) (us:List Value) (hl:us.length=2):P us:=by
 cases us with
 |nil=>simp at hl
 |cons a0 us0 =>
 cases us0 with
 |nil=>simp at hl
 |cons a1 us1 =>
 cases us1 with
 |cons _ _=>simp at hl
 |nil =>
 exact h a0 a1
theorem len_3 {P:List Value->Prop} (h:∀a0 a1 a2:Value,P [a0,a1,a2]) (us:List Value) (hl:us.length=3):P us:=by
 cases us with
 |nil=>simp at hl
 |cons a0 us0 =>
 cases us0 with
 |nil=>simp at hl
 |cons a1 us1 =>
 cases us1 with
 |nil=>simp at hl
 |cons a2 us2 =>
 cases us2 with
 |cons _ _=>simp at hl
 |nil =>
 exact h a0 a1 a2
theorem len_4 {P:List Value->Prop} (h:∀a0 a1 a2 a3:Value,P [a0,a1,a2,a3]) (us:List Value) (hl:us.length=4):P us:=by
 cases us with
 |nil=>simp at hl
 |cons a0 us0 =>
 cases us0 with
 |nil=>simp at hl
 |cons a1 us1 =>
 cases us1 with
 |nil=>simp at hl
 |cons a2 us2 =>
 cases us2 with
 |nil=>simp at hl
 |cons a3 us3 =>
 cases us3 with
 |cons _ _=>simp at hl
 |nil =>
 exact h a0 a1 a2 a3
theorem all_mk {P:Program} {w:World} {K:Frag} {h:Heap} {mg:Str->Option Value} {fa:Addr} (X:K.In h) (G:h.Ns mainGlobals mg) (hfa:mg "law"=some (.ref fa))
  (d0:Df K "_law_cell_at" (top 30))
  (d1:Df K "_law_state" (top 31))
  (d2:Df K "_law_take" (top 32))
  (d3:Df K "_law_marks" (top 33))
  (d4:Df K "_law_heap" (top 37))
  (d5:Df K "_law_within" (top 35))
  (d6:Df K "_law_akin" (top 36))
  (d7:Df K "_law_most" (top 38))
  (d8:Df K "_law_same" (top 34))
  (d9:Df K "is_rising" (top 8))
  (d10:Df K "is_number" (top 5))
  (d11:Df K "is_below" (top 6))
  (d12:Df K "is_mark" (top 7))
  (d13:Df K "are_marks" (top 10))
  (d14:Df K "are_laid_marks" (top 12))
  (d15:Df K "need_heap" (top 20))
  (d16:Df K "has_all" (top 11))
  (d17:Df K "may_follow" (top 27))
  (d18:Df K "find_behind" (top 26))
  (d19:Df K "places_ahead" (top 25))
  (d20:Df K "row_from" (top 28))
  (d21:Df K "rows_of" (top 18))
  (d22:Df K "is_strange" (top 23))
  (d23:Df K "most_strangers" (top 24))
  (d24:Df K "strangers_of" (top 19))
  (d25:Df K "are_places" (top 21))
  (d26:Df K "is_row" (top 22))
  (d27:Df K "are_rows" (top 15))
  (d28:Df K "are_strangers" (top 16))
  (d29:Df K "fewest" (top 17))
  (d30:Df K "_law_are_rows" (top 39))
  (d31:Df K "_law_are_strangers" (top 40))
  (dl:Df K "law" (top 41))
  (i_MARKS:∃t,PySem.W.nsIn K mainGlobals "MARKS"=some (some (.int (8) t)))
  (i_HEAP:∃t,PySem.W.nsIn K mainGlobals "HEAP"=some (some (.int (9) t)))
  (z_all:PySem.W.nsIn K mainGlobals "all"=some none)
  (z_any:PySem.W.nsIn K mainGlobals "any"=some none)
  (z_bool:PySem.W.nsIn K mainGlobals "bool"=some none)
  (z_enumerate:PySem.W.nsIn K mainGlobals "enumerate"=some none)
  (z_int:PySem.W.nsIn K mainGlobals "int"=some none)
  (z_isinstance:PySem.W.nsIn K mainGlobals "isinstance"=some none)
  (z_len:PySem.W.nsIn K mainGlobals "len"=some none)
  (z_list:PySem.W.nsIn K mainGlobals "list"=some none)
  (z_max:PySem.W.nsIn K mainGlobals "max"=some none)
  (z_min:PySem.W.nsIn K mainGlobals "min"=some none)
  (z_range:PySem.W.nsIn K mainGlobals "range"=some none)
  (z_repr:PySem.W.nsIn K mainGlobals "repr"=some none)
  (z_set:PySem.W.nsIn K mainGlobals "set"=some none)
  (z_sorted:PySem.W.nsIn K mainGlobals "sorted"=some none)
  (z_tuple:PySem.W.nsIn K mainGlobals "tuple"=some none)
  (z_zip:PySem.W.nsIn K mainGlobals "zip"=some none)
  : ∃fd:FuncData,(∀(s:Shared) (v:Value),BindsTo s fd ⟨[v],[]⟩ [("_law_script",v)])/\∀base:Heap,K.In base->base.Ns mainGlobals mg->FnOk P w K mg base CX0 18 fa fd ["_law_script"] (spLaw K):=by
 have g0:=gd_of (ps:=["_law_script","_law_k"]) X G d0 fun _ _ _ _ _ _=>len_2 fun _ _=>rfl
 have g1:=gd_of (ps:=["_law_script","_law_k"]) X G d1 fun _ _ _ _ _ _=>len_2 fun _ _=>rfl
 have g2:=gd_of (ps:=["_law_state_here","_law_many"]) X G d2 fun _ _ _ _ _ _=>len_2 fun _ _=>rfl
 have g3:=gd_of (ps:=["_law_state_here","_law_many"]) X G d3 fun _ _ _ _ _ _=>len_2 fun _ _=>rfl
 have g4:=gd_of (ps:=["_law_state_here","_law_most_here"]) X G d4 fun _ _ _ _ _ _=>len_2 fun _ _=>rfl
 have g5:=gd_of (ps:=["_law_one","_law_other"]) X G d5 fun _ _ _ _ _ _=>len_2 fun _ _=>rfl
 have g6:=gd_of (ps:=["_law_heap_here","_law_one","_law_other"]) X G d6 fun _ _ _ _ _ _=>len_3 fun _ _ _=>rfl
 have g7:=gd_of (ps:=["_law_heap_here"]) X G d7 fun _ _ _ _ _ _=>len_1 fun _=>rfl
 have g8:=gd_of (ps:=["_law_told","_law_due"]) X G d8 fun _ _ _ _ _ _=>len_2 fun _ _=>rfl
 have g9:=gd_of (ps:=["things"]) X G d9 fun _ _ _ _ _ _=>len_1 fun _=>rfl
 have g10:=gd_of (ps:=["thing"]) X G d10 fun _ _ _ _ _ _=>len_1 fun _=>rfl
 have g11:=gd_of (ps:=["thing","many"]) X G d11 fun _ _ _ _ _ _=>len_2 fun _ _=>rfl
 have g12:=gd_of (ps:=["thing"]) X G d12 fun _ _ _ _ _ _=>len_1 fun _=>rfl
 have g13:=gd_of (ps:=["thing"]) X G d13 fun _ _ _ _ _ _=>len_1 fun _=>rfl
 have g14:=gd_of (ps:=["thing","most"]) X G d14 fun _ _ _ _ _ _=>len_2 fun _ _=>rfl
 have g15:=gd_of (ps:=["thing"]) X G d15 fun _ _ _ _ _ _=>len_1 fun _=>rfl
 have g16:=gd_of (ps:=["marks","others"]) X G d16 fun _ _ _ _ _ _=>len_2 fun _ _=>rfl
 have g17:=gd_of (ps:=["heap","place","other"]) X G d17 fun _ _ _ _ _ _=>len_3 fun _ _ _=>rfl
 have g18:=gd_of (ps:=["heap","place","ahead","tried"]) X G d18 fun _ _ _ _ _ _=>len_4 fun _ _ _ _=>rfl
 have g19:=gd_of (ps:=["heap"]) X G d19 fun _ _ _ _ _ _=>len_1 fun _=>rfl
 have g20:=gd_of (ps:=["place","behind"]) X G d20 fun _ _ _ _ _ _=>len_2 fun _ _=>rfl
 have g21:=gd_of (ps:=["heap"]) X G d21 fun _ _ _ _ _ _=>len_1 fun _=>rfl
 have g22:=gd_of (ps:=["heap","places","place"]) X G d22 fun _ _ _ _ _ _=>len_3 fun _ _ _=>rfl
 have g23:=gd_of (ps:=["heap"]) X G d23 fun _ _ _ _ _ _=>len_1 fun _=>rfl
 have g24:=gd_of (ps:=["heap"]) X G d24 fun _ _ _ _ _ _=>len_1 fun _=>rfl
 have g25:=gd_of (ps:=["heap","thing"]) X G d25 fun _ _ _ _ _ _=>len_2 fun _ _=>rfl
 have g26:=gd_of (ps:=["heap","thing"]) X G d26 fun _ _ _ _ _ _=>len_2 fun _ _=>rfl
 have g27:=gd_of (ps:=["heap","thing"]) X G d27 fun _ _ _ _ _ _=>len_2 fun _ _=>rfl
 have g28:=gd_of (ps:=["heap","thing"]) X G d28 fun _ _ _ _ _ _=>len_2 fun _ _=>rfl
 have g29:=gd_of (ps:=["heap"]) X G d29 fun _ _ _ _ _ _=>len_1 fun _=>rfl
 have g30:=gd_of (ps:=["_law_heap_here","_law_thing"]) X G d30 fun _ _ _ _ _ _=>len_2 fun _ _=>rfl
 have g31:=gd_of (ps:=["_law_heap_here","_law_thing"]) X G d31 fun _ _ _ _ _ _=>len_2 fun _ _=>rfl
 have gi_MARKS:∃t,mg "MARKS"=some (.int (8) t):=by obtain ⟨t,e⟩:=i_MARKS;exact ⟨t,PySem.W.mg_of X G e⟩
 have gi_HEAP:∃t,mg "HEAP"=some (.int (9) t):=by obtain ⟨t,e⟩:=i_HEAP;exact ⟨t,PySem.W.mg_of X G e⟩
 have T_all:=PySem.W.mg_none_of X G z_all
 have T_any:=PySem.W.mg_none_of X G z_any
 have T_bool:=PySem.W.mg_none_of X G z_bool
 have T_enumerate:=PySem.W.mg_none_of X G z_enumerate
 have T_int:=PySem.W.mg_none_of X G z_int
 have T_isinstance:=PySem.W.mg_none_of X G z_isinstance
 have T_len:=PySem.W.mg_none_of X G z_len
 have T_list:=PySem.W.mg_none_of X G z_list
 have T_max:=PySem.W.mg_none_of X G z_max
 have T_min:=PySem.W.mg_none_of X G z_min
 have T_range:=PySem.W.mg_none_of X G z_range
 have T_repr:=PySem.W.mg_none_of X G z_repr
 have T_set:=PySem.W.mg_none_of X G z_set
 have T_sorted:=PySem.W.mg_none_of X G z_sorted
 have T_tuple:=PySem.W.mg_none_of X G z_tuple
 have T_zip:=PySem.W.mg_none_of X G z_zip
 obtain ⟨f,oc,od,sl,kV,dc,pm,an,cd,ct,a,l,c,k⟩:=dl
 have e:=hfa.symm.trans (PySem.W.mg_of X G a)
 cases e
 have F:=fun_mk (st:=(top 41)) l c k
 have GL:Gd K mg "law" (top 41) ["_law_script"] _ _:=⟨PySem.W.mg_of X G a,F,F.binds fun _ _ _ _ _ _=>len_1 fun _=>rfl⟩
 exact ⟨_,fun s v=>.of_eq rfl,fun base _ _=>law_of (ok_law ⟨T_all,T_any,T_bool,T_enumerate,T_int,T_isinstance,T_len,T_list,T_max,T_min,T_range,T_repr,T_set,T_sorted,T_tuple,T_zip,gi_MARKS,gi_HEAP,g0,g1,g2,g3,g4,g5,g6,g7,g8,g9,g10,g11,g12,g13,g14,g15,g16,g17,g18,g19,g20,g21,g22,g23,g24,g25,g26,g27,g28,g29,g30,g31⟩ GL) pure_law⟩
theorem walk {l:PySem.W.OpenLaw} {q:Program} {loose:List Str} {XP:(Str->Option Value)->Heap->Prop} {YP:World->Heap->Prop} {d:DefRec} {K:Params->Frag} (hn:l.most=some 63) (hdf:d.params.defaults=[])
  (hY:∀(w:World) (h:Heap),YP w h->(K w.params).In h)
  (F:∀(w:World) (mg:Str->Option Value) (fa:Addr) (h:Heap),(K w.params).In h->h.Ns mainGlobals mg->mg d.name=some (.ref fa) ->
   ∃fd:FuncData,(∀(s:Shared) (u:Value),BindsTo s fd ⟨[u],[]⟩ [("_law_script",u)])/\∀base:Heap,(K w.params).In base->base.Ns mainGlobals mg->FnOk l.prog w (K w.params) mg base CX0 18 fa fd ["_law_script"] (spLaw (K w.params))) :
  PySem.W.WalkO q loose XP YP l.row.toRowW d [] (fun f vs=>PySem.call f vs) :=
 L2.walk_of (n:=63) (k:=18) (x:="_law_script") (CX:=fun _=>CX0) (sp:=fun w=>spLaw (K w.params)) hn (by decide) hdf ⟨rfl,by decide,by decide,rfl⟩ hY F (fun _ _ a ns hl _ hS=>⟨a,ns,rfl,hS,hl,fun _=>rfl⟩) fun _ _ _ _ _ z=>z
end DI.k42
open PySem PySem.W PyProof.Rows
set_option maxRecDepth 100000 in
set_option maxHeartbeats 0 in
theorem PySem.Challenge.cw_twinmoulds_k42_whole_as_many_strangers_a_holds : PySem.Challenge.rw_twinmoulds_k42_whole_as_many_strangers_a.Holds := by
 w_on;o_law;k_head;(case hw=>w_witness2)
 k_fill
 refine DI.k42.walk (l:=PySem.Challenge.rw_twinmoulds_k42_whole_as_many_strangers_a) rfl rfl (fun w h Y=>PySem.W.kIn_of Y) ?F
 case F =>
  intro w mg fa h KX G hmg
  refine' DI.k42.all_mk KX G hmg ?d0 ?d1 ?d2 ?d3 ?d4 ?d5 ?d6 ?d7 ?d8 ?d9 ?d10 ?d11 ?d12 ?d13 ?d14 ?d15 ?d16 ?d17 ?d18 ?d19 ?d20 ?d21 ?d22 ?d23 ?d24 ?d25 ?d26 ?d27 ?d28 ?d29 ?d30 ?d31 ?dl ?i_MARKS ?i_HEAP ?z_all ?z_any ?z_bool ?z_enumerate ?z_int ?z_isinstance ?z_len ?z_list ?z_max ?z_min ?z_range ?z_repr ?z_set ?z_sorted ?z_tuple ?z_zip
  (case d0=>refine' DI.k42.df_mk ?a ?l ?c ?k;(case a=>k_is);(case l=>k_is);(case c=>k_is);(case k=>k_is))
  (case d1=>refine' DI.k42.df_mk ?a ?l ?c ?k;(case a=>k_is);(case l=>k_is);(case c=>k_is);(case k=>k_is))
  (case d2=>refine' DI.k42.df_mk ?a ?l ?c ?k;(case a=>k_is);(case l=>k_is);(case c=>k_is);(case k=>k_is))
  (case d3=>refine' DI.k42.df_mk ?a ?l ?c ?k;(case a=>k_is);(case l=>k_is);(case c=>k_is);(case k=>k_is))
  (case d4=>refine' DI.k42.df_mk ?a ?l ?c ?k;(case a=>k_is);(case l=>k_is);(case c=>k_is);(case k=>k_is))
  (case d5=>refine' DI.k42.df_mk ?a ?l ?c ?k;(case a=>k_is);(case l=>k_is);(case c=>k_is);(case k=>k_is))
  (case d6=>refine' DI.k42.df_mk ?a ?l ?c ?k;(case a=>k_is);(case l=>k_is);(case c=>k_is);(case k=>k_is))
  (case d7=>refine' DI.k42.df_mk ?a ?l ?c ?k;(case a=>k_is);(case l=>k_is);(case c=>k_is);(case k=>k_is))
  (case d8=>refine' DI.k42.df_mk ?a ?l ?c ?k;(case a=>k_is);(case l=>k_is);(case c=>k_is);(case k=>k_is))
  (case d9=>refine' DI.k42.df_mk ?a ?l ?c ?k;(case a=>k_is);(case l=>k_is);(case c=>k_is);(case k=>k_is))
  (case d10=>refine' DI.k42.df_mk ?a ?l ?c ?k;(case a=>k_is);(case l=>k_is);(case c=>k_is);(case k=>k_is))
  (case d11=>refine' DI.k42.df_mk ?a ?l ?c ?k;(case a=>k_is);(case l=>k_is);(case c=>k_is);(case k=>k_is))
  (case d12=>refine' DI.k42.df_mk ?a ?l ?c ?k;(case a=>k_is);(case l=>k_is);(case c=>k_is);(case k=>k_is))
  (case d13=>refine' DI.k42.df_mk ?a ?l ?c ?k;(case a=>k_is);(case l=>k_is);(case c=>k_is);(case k=>k_is))
  (case d14=>refine' DI.k42.df_mk ?a ?l ?c ?k;(case a=>k_is);(case l=>k_is);(case c=>k_is);(case k=>k_is))
  (case d15=>refine' DI.k42.df_mk ?a ?l ?c ?k;(case a=>k_is);(case l=>k_is);(case c=>k_is);(case k=>k_is))
  (case d16=>refine' DI.k42.df_mk ?a ?l ?c ?k;(case a=>k_is);(case l=>k_is);(case c=>k_is);(case k=>k_is))
  (case d17=>refine' DI.k42.df_mk ?a ?l ?c ?k;(case a=>k_is);(case l=>k_is);(case c=>k_is);(case k=>k_is))
  (case d18=>refine' DI.k42.df_mk ?a ?l ?c ?k;(case a=>k_is);(case l=>k_is);(case c=>k_is);(case k=>k_is))
  (case d19=>refine' DI.k42.df_mk ?a ?l ?c ?k;(case a=>k_is);(case l=>k_is);(case c=>k_is);(case k=>k_is))
  (case d20=>refine' DI.k42.df_mk ?a ?l ?c ?k;(case a=>k_is);(case l=>k_is);(case c=>k_is);(case k=>k_is))
  (case d21=>refine' DI.k42.df_mk ?a ?l ?c ?k;(case a=>k_is);(case l=>k_is);(case c=>k_is);(case k=>k_is))
  (case d22=>refine' DI.k42.df_mk ?a ?l ?c ?k;(case a=>k_is);(case l=>k_is);(case c=>k_is);(case k=>k_is))
  (case d23=>refine' DI.k42.df_mk ?a ?l ?c ?k;(case a=>k_is);(case l=>k_is);(case c=>k_is);(case k=>k_is))
  (case d24=>refine' DI.k42.df_mk ?a ?l ?c ?k;(case a=>k_is);(case l=>k_is);(case c=>k_is);(case k=>k_is))
  (case d25=>refine' DI.k42.df_mk ?a ?l ?c ?k;(case a=>k_is);(case l=>k_is);(case c=>k_is);(case k=>k_is))
  (case d26=>refine' DI.k42.df_mk ?a ?l ?c ?k;(case a=>k_is);(case l=>k_is);(case c=>k_is);(case k=>k_is))
  (case d27=>refine' DI.k42.df_mk ?a ?l ?c ?k;(case a=>k_is);(case l=>k_is);(case c=>k_is);(case k=>k_is))
  (case d28=>refine' DI.k42.df_mk ?a ?l ?c ?k;(case a=>k_is);(case l=>k_is);(case c=>k_is);(case k=>k_is))
  (case d29=>refine' DI.k42.df_mk ?a ?l ?c ?k;(case a=>k_is);(case l=>k_is);(case c=>k_is);(case k=>k_is))
  (case d30=>refine' DI.k42.df_mk ?a ?l ?c ?k;(case a=>k_is);(case l=>k_is);(case c=>k_is);(case k=>k_is))
  (case d31=>refine' DI.k42.df_mk ?a ?l ?c ?k;(case a=>k_is);(case l=>k_is);(case c=>k_is);(case k=>k_is))
  (case dl=>refine' DI.k42.df_mk ?a ?l ?c ?k;(case a=>k_is);(case l=>k_is);(case c=>k_is);(case k=>k_is))
  (case i_MARKS=>refine' DI.k42.gi_mk ?e;(case e=>k_is))
  (case i_HEAP=>refine' DI.k42.gi_mk ?e;(case e=>k_is))
  (case z_all=>k_is)
  (case z_any=>k_is)
  (case z_bool=>k_is)
  (case z_enumerate=>k_is)
  (case z_int=>k_is)
  (case z_isinstance=>k_is)
  (case z_len=>k_is)
  (case z_list=>k_is)
  (case z_max=>k_is)
  (case z_min=>k_is)
  (case z_range=>k_is)
  (case z_repr=>k_is)
  (case z_set=>k_is)
  (case z_sorted=>k_is)
  (case z_tuple=>k_is)
  (case z_zip=>k_is)
