import PyProof.Rows.All
import Wide.All
import OpenK.AllK
import Wide.FinOn
import Lean
import PyProof.EqAt
import PyProof.EqKinds
import PyProof.TupleCall
import PyProof.NeData
import PyProof.P3In
import PyProof.FactsAll.range
import PyProof.MinMaxWalk
import KE.KMinKey
import PyProof.WalkInts
import PyProof.Rows.CallKwBuiltin
import PyProof.FactsAll.set
import PyProof.CollectWalk
import PySem.Challenge.RW_twinmoulds_k12_papers_of_runs_looked_at
set_option Elab.async false
set_option linter.all false
set_option maxRecDepth 100000
namespace L2
open PySem PySem.Spec PyProof.Rows
abbrev Key := Sum Int Str
def keyIs : Key → Value → Bool
  | .inl k, v => Value.isInt k v
  | .inr x, v => Value.isStrOf x v
def keyH (w : World) : Key → Int
  | .inl k => hashInt k
  | .inr x => hashStr w x
theorem keyIs_shape : ∀ {k : Key} {v : Value}, keyIs k v = true → (∃ i t, k = Sum.inl i ∧ v = Value.int i t) ∨ (∃ x t, k = Sum.inr x ∧ v = Value.str x t)
  | .inl i, v, h => by
    obtain ⟨t, e⟩ := Value.isInt_shape (k := i) (v := v) h
    exact .inl ⟨i, t, rfl, e⟩
  | .inr x, v, h => by
    obtain ⟨t, e⟩ := Value.isStrOf_shape (x := x) (v := v) h
    exact .inr ⟨x, t, rfl, e⟩
theorem keyIs_int (i : Int) (t : Tok) : keyIs (.inl i) (.int i t) = true := by simp [keyIs, Value.isInt]
theorem keyIs_str (x : Str) (t : Tok) : keyIs (.inr x) (.str x t) = true := by simp [keyIs, Value.isStrOf]
theorem key_ll (a b : Int) : decide ((Sum.inl a : Key) = Sum.inl b) = (a == b) := by
  by_cases e : a = b
  · subst e; simp
  · have h : ¬ (Sum.inl a : Key) = Sum.inl b := fun q => e (Sum.inl.inj q)
    rw [decide_eq_false h]
    exact (beq_eq_false_iff_ne.mpr e).symm
theorem key_rr (a b : Str) : decide ((Sum.inr a : Key) = Sum.inr b) = decide (a = b) := by
  by_cases e : a = b
  · subst e; simp
  · have h : ¬ (Sum.inr a : Key) = Sum.inr b := fun q => e (Sum.inr.inj q)
    rw [decide_eq_false h, decide_eq_false e]
theorem key_lr (a : Int) (b : Str) : decide ((Sum.inl a : Key) = Sum.inr b) = false := decide_eq_false (fun q => nomatch q)
theorem key_rl (a : Str) (b : Int) : decide ((Sum.inr a : Key) = Sum.inl b) = false := decide_eq_false (fun q => nomatch q)
def mixKind (prog : Program) (w : World) : PySem.KeyKind prog w Key where
  is := keyIs
  hash := keyH w
  inj := fun v a b ha hb => by
    rcases keyIs_shape ha with ⟨i, t, rfl, rfl⟩ | ⟨x, t, rfl, rfl⟩
    · rcases keyIs_shape hb with ⟨j, u, rfl, e⟩ | ⟨y, u, rfl, e⟩
      · injection e with e1 _; rw [e1]
      · exact nomatch e
    · rcases keyIs_shape hb with ⟨j, u, rfl, e⟩ | ⟨y, u, rfl, e⟩
      · exact nomatch e
      · injection e with e1 _; rw [e1]
  byValue := fun k v h => by
    rcases keyIs_shape h with ⟨i, t, rfl, rfl⟩ | ⟨x, t, rfl, rfl⟩ <;> rfl
  pyHash := fun hv h => by
    rcases keyIs_shape hv with ⟨i, t, rfl, rfl⟩ | ⟨x, t, rfl, rfl⟩
    · exact wpAny_pyHash_int h
    · exact wpAny_pyHash_str h
  eqBool := fun hu hv h => by
    rcases keyIs_shape hu with ⟨i, t, rfl, rfl⟩ | ⟨x, t, rfl, rfl⟩
    · rcases keyIs_shape hv with ⟨j, u, rfl, rfl⟩ | ⟨y, u, rfl, rfl⟩
      · rw [key_ll] at h; exact wpAny_eqBool_int h
      · rw [key_lr] at h; exact SeqAt.EqAt.int_str i t y u _ _ _ _ h
    · rcases keyIs_shape hv with ⟨j, u, rfl, rfl⟩ | ⟨y, u, rfl, rfl⟩
      · rw [key_rl] at h; exact SeqAt.EqAt.str_int x t j u _ _ _ _ h
      · rw [key_rr] at h; exact wpAny_eqBool_str h
  «strs» := fun k x t v h => by
    rcases keyIs_shape h with ⟨i, u, rfl, e⟩ | ⟨y, u, rfl, e⟩
    · exact nomatch e
    · injection e with e1 _
      subst e1
      cases v <;> rfl
theorem mixKind_int (prog : Program) (w : World) (i : Int) (t : Tok) : (mixKind prog w).is (.inl i) (.int i t) = true := keyIs_int i t
theorem mixKind_str (prog : Program) (w : World) (x : Str) (t : Tok) : (mixKind prog w).is (.inr x) (.str x t) = true := keyIs_str x t
end L2
namespace L2
open PySem PySem.Spec PyProof.Rows
inductive V where
  | non | bl (b : Bool) | int (i : Int) | str (x : Str) | byt (b : Array UInt8) | flt (b : UInt64) | ref (a : Addr) | ty (n : String)
  deriving DecidableEq
def RelV : V → Value → Prop
  | .non, u => u = Value.none
  | .bl b, u => u = Value.bool b
  | .int i, u => ∃ t, u = Value.int i t
  | .str x, u => ∃ t, u = Value.str x t
  | .byt b, u => ∃ t, u = Value.bytes b t
  | .flt b, u => ∃ t, u = Value.float b t
  | .ref a, u => u = Value.ref a
  | .ty n, u => u = Value.type n
abbrev Vals : List V → List Value → Prop := Paired RelV
theorem Vals.length {xs : List V} {us : List Value} (r : Vals xs us) : xs.length = us.length := Paired.length r
theorem Vals.get : ∀ {xs : List V} {us : List Value} {i : Nat} {x : V}, Vals xs us → xs[i]? = some x → ∃ u, us[i]? = some u ∧ RelV x u
  | _, _, _, _, .nil, e => by simp at e
  | _, _, 0, _, .cons r _, e => by simp at e; subst e; exact ⟨_, rfl, r⟩
  | _, _, i + 1, x, .cons _ t, e => by
    obtain ⟨u, h1, h2⟩ := Vals.get (i := i) (x := x) t (by simpa using e)
    exact ⟨u, by simpa using h1, h2⟩
theorem Vals.set {x : V} {u : Value} (r : RelV x u) : ∀ {xs : List V} {us : List Value} (i : Nat), Vals xs us → Vals (xs.set i x) (us.set i u)
  | _, _, _, .nil => .nil
  | _, _, 0, .cons _ t => .cons r t
  | _, _, i + 1, .cons q t => .cons q (Vals.set r i t)
theorem Vals.append : ∀ {xs ys : List V} {us ws : List Value}, Vals xs us → Vals ys ws → Vals (xs ++ ys) (us ++ ws)
  | _, _, _, _, .nil, s => s
  | _, _, _, _, .cons r t, s => .cons r (Vals.append t s)
theorem Vals.take : ∀ {xs : List V} {us : List Value} (n : Nat), Vals xs us → Vals (xs.take n) (us.take n)
  | _, _, 0, _ => .nil
  | _, _, _ + 1, .nil => .nil
  | _, _, n + 1, .cons r t => .cons r (Vals.take n t)
theorem Vals.drop : ∀ {xs : List V} {us : List Value} (n : Nat), Vals xs us → Vals (xs.drop n) (us.drop n)
  | _, _, 0, r => r
  | _, _, _ + 1, .nil => .nil
  | _, _, n + 1, .cons _ t => Vals.drop n t
def RelO : Option V → Option Value → Prop
  | some v, some u => RelV v u
  | none, none => True
  | _, _ => False
def KV {κ : Type} : List (κ × V) → List (κ × Value) → Prop := Paired fun (p : κ × V) (q : κ × Value) => p.1 = q.1 ∧ RelV p.2 q.2
def kV : Key → V
  | .inl i => .int i
  | .inr x => .str x
inductive HO where
  | lst (xs : List V)
  | tup (xs : List V)
  | dK (kvs : List (Key × V)) | dT (kvs : List (List Key × V))
  | set (S : Int → Bool) (n : Nat)
  | ins (C dx : Addr) (fs : List (Str × V))
  | own (x : Addr)
  | xd (fs : List (Str × V))
  | met (f x : Addr)
  | rng (lo hi : Int)
  | frz (o : Obj) (u : HO)
  | tbl (ps : Array Value)
  | ext (φ : Heap → Prop)
abbrev Hp := Addr → Option HO
def upd (H : Hp) (a : Addr) (o : HO) : Hp := fun b => if b = a then some o else H b
theorem upd_same {H : Hp} {a : Addr} {o : HO} : upd H a o a = some o := by unfold upd; rw [if_pos rfl]
theorem upd_ne {H : Hp} {a b : Addr} {o : HO} (h : b ≠ a) : upd H a o b = H b := by unfold upd; rw [if_neg h]
theorem ne_of {H : Hp} {a b : Addr} {o u : HO} (h : H a = some o) (h' : H b = some u) (d : o ≠ u) : a ≠ b := by
  intro e; subst e; rw [h] at h'; exact d (Option.some.inj h')
theorem ne_of_none {H : Hp} {a b : Addr} {o : HO} (h : H a = some o) (h' : H b = none) : a ≠ b := by
  intro e; subst e; rw [h] at h'; cases h'
section
variable (P : Program) (w : World)
def ObjOk (H : Hp) (h : Heap) (a : Addr) : HO → Prop
  | .lst xs => xs.length ≤ sizeLine ∧ ∃ (its : List Value) (n : Nat), Vals xs its ∧ h.get? a = some { cls := .type "list", data := .seq its.toArray n }
  | .tup xs => xs.length ≤ sizeLine ∧ ∃ its : List Value, Vals xs its ∧ IsTup h a its.toArray
  | .dK kvs => kvs.length ≤ sizeLine ∧ (a == sysModules) = false ∧ ∃ vs, KV kvs vs ∧ h.DictOf (mixKind P w) a vs
  | .dT kvs => kvs.length ≤ sizeLine ∧ (a == sysModules) = false ∧ ∃ xs : List (List Key × Addr × Value),
      Paired (fun (p : List Key × V) (q : List Key × Addr × Value) => p.1 = q.1 ∧ H q.2.1 = some (.tup (p.1.map kV)) ∧ RelV p.2 q.2.2) kvs xs ∧
      ∃ o es ep, h.get? a = some o ∧ o.ExactDict ∧ o.data = .dict es ep ∧ es.toList = xs.map (entryOfKey (tupleKind (mixKind P w))) ∧ (xs.map (·.1)).Nodup
  | .set S n => h.SetOf (intKind P w) a S n
  | .ins C dx fs => H dx = some (.own a) ∧ fs.length ≤ 1000 ∧ dx ≠ a ∧ h.get? a = some (PySem.W.instObj C dx) ∧
      ∃ mA, h.Ns1 dx mA ∧ (∀ f, RelO (fs.lookup f) (mA f)) ∧ PySem.Within mA (fs.map (·.1))
  | .own _ => ∃ o, h.get? a = some o
  | .xd fs => ∃ mA, h.Ns1 a mA ∧ ∀ f, RelO (fs.lookup f) (mA f)
  | .rng lo hi => ∃ t u v, h.get? a = some { cls := .type "range", data := .fields #[.int lo t, .int hi u, .int 1 v] }
  | .frz o u => h.get? a = some o ∧ ObjOk H h a u
  | .tbl ps => h.get? a = some { cls := .none, data := .fields ps }
  | .met f x => h.get? a = some (PySem.W.methodObj (.ref f) (.ref x))
  | .ext φ => φ h ∧ (∃ o, h.get? a = some o) ∧ ∀ h1 h2 : Heap, φ h1 → (∀ o, h1.get? a = some o → h2.get? a = some o) → φ h2
def HOk (H : Hp) (h : Heap) : Prop := ∀ a o, H a = some o → ObjOk P w H h a o
end
section
variable {P : Program} {w : World} {H H' : Hp} {h h' : Heap} {a : Addr} {o : HO}
theorem ObjOk.lt (x : ObjOk P w H h a o) : a < h.objs.size := by
  cases o with
  | lst xs => obtain ⟨_, _, _, _, e⟩ := x; exact Heap.lt_size e
  | tup xs => obtain ⟨_, _, _, p⟩ := x; exact p.lt
  | dK kvs => obtain ⟨_, _, _, _, o, _, _, e, _⟩ := x; exact Heap.lt_size e
  | dT kvs => obtain ⟨_, _, _, _, o, _, _, e, _⟩ := x; exact Heap.lt_size e
  | set S n => obtain ⟨o, _, _, _, e, _⟩ := x; exact Heap.lt_size e
  | ins C dx fs => obtain ⟨_, _, _, e, _⟩ := x; exact Heap.lt_size e
  | own y => obtain ⟨_, e⟩ := x; exact Heap.lt_size e
  | xd fs => obtain ⟨_, ⟨_, _, _, e, _⟩, _⟩ := x; exact Heap.lt_size e
  | rng lo hi => obtain ⟨_, _, _, e⟩ := x; exact Heap.lt_size e
  | frz ob u => obtain ⟨e, _⟩ := x; exact Heap.lt_size e
  | tbl ps => exact Heap.lt_size (show h.get? a = some _ from x)
  | met f y => exact Heap.lt_size (show h.get? a = some _ from x)
  | ext φ => obtain ⟨_, ⟨_, e⟩, _⟩ := x; exact Heap.lt_size e
theorem Paired.mapP {α β : Type} {F G : α → β → Prop} : ∀ {l₁ : List α} {l₂ : List β}, Paired F l₁ l₂ → (∀ a b, F a b → G a b) → Paired G l₁ l₂
  | _, _, .nil, _ => .nil
  | _, _, .cons r t, f => .cons (f _ _ r) (Paired.mapP t f)
theorem ObjOk.stay (x : ObjOk P w H h a o) (k : ∀ b u, (b = a ∨ H b = some (.own a)) → h.get? b = some u → h'.get? b = some u)
    (ho : ∀ b, H b = some (.own a) → H' b = some (.own a)) (ht : ∀ b xs, H b = some (.tup xs) → H' b = some (.tup xs)) : ObjOk P w H' h' a o := by
  induction o with
  | lst xs => obtain ⟨z, its, n, r, e⟩ := x; exact ⟨z, its, n, r, k _ _ (.inl rfl) e⟩
  | tup xs => obtain ⟨z, its, r, ob, e, c⟩ := x; exact ⟨z, its, r, ob, k _ _ (.inl rfl) e, c⟩
  | dK kvs => obtain ⟨z, y, vs, r, ob, es, ep, e, c⟩ := x; exact ⟨z, y, vs, r, ob, es, ep, k _ _ (.inl rfl) e, c⟩
  | dT kvs =>
    obtain ⟨z, y, xs, r, ob, es, ep, e, c⟩ := x
    exact ⟨z, y, xs, Paired.mapP r fun p q z => ⟨z.1, ht _ _ z.2.1, z.2.2⟩, ob, es, ep, k _ _ (.inl rfl) e, c⟩
  | set S n => obtain ⟨ob, es, ep, t, e, c⟩ := x; exact ⟨ob, es, ep, t, k _ _ (.inl rfl) e, c⟩
  | ins C dx fs =>
    obtain ⟨d, z, ne, e, mA, ⟨od, es, ep, e2, c⟩, r⟩ := x
    exact ⟨ho _ d, z, ne, k _ _ (.inl rfl) e, mA, ⟨od, es, ep, k _ _ (.inr d) e2, c⟩, r⟩
  | own y => obtain ⟨ob, e⟩ := x; exact ⟨ob, k _ _ (.inl rfl) e⟩
  | xd fs => obtain ⟨mA, ⟨od, es, ep, e, c⟩, r⟩ := x; exact ⟨mA, ⟨od, es, ep, k _ _ (.inl rfl) e, c⟩, r⟩
  | rng lo hi => obtain ⟨t, u, v, e⟩ := x; exact ⟨t, u, v, k _ _ (.inl rfl) e⟩
  | frz ob u ih => obtain ⟨e, q⟩ := x; exact ⟨k _ _ (.inl rfl) e, ih q⟩
  | tbl ps =>
    have e : h.get? a = some { cls := .none, data := .fields ps } := x
    show h'.get? a = some { cls := .none, data := .fields ps }
    exact k a _ (.inl rfl) e
  | met f y =>
    have e : h.get? a = some (PySem.W.methodObj (.ref f) (.ref y)) := x
    show h'.get? a = some (PySem.W.methodObj (.ref f) (.ref y))
    exact k a _ (.inl rfl) e
  | ext φ => obtain ⟨p, ⟨o, e⟩, st⟩ := x; exact ⟨st _ _ p fun o q => k _ _ (.inl rfl) q, ⟨o, k _ _ (.inl rfl) e⟩, st⟩
theorem HOk.lt (x : HOk P w H h) (e : H a = some o) : a < h.objs.size := (x a o e).lt
theorem HOk.fresh (x : HOk P w H h) (e : h.objs.size ≤ a) : H a = none := by
  cases q : H a with
  | none => rfl
  | some u => exact absurd (Nat.lt_of_lt_of_le (x.lt q) e) (Nat.lt_irrefl _)
theorem HOk.kept (x : HOk P w H h) (k : ∀ b u, h.get? b = some u → h'.get? b = some u) : HOk P w H h' := fun a o e =>
  (x a o e).stay (fun b u _ q => k b u q) (fun _ q => q) fun _ _ q => q
theorem HOk.laid (x : HOk P w H h) (k : ∀ b u, h.get? b = some u → h'.get? b = some u) (hp : h.objs.size ≤ a) (new : ObjOk P w (upd H a o) h' a o) : HOk P w (upd H a o) h' := fun b u e => by
  have hn := x.fresh hp
  by_cases hb : b = a
  · subst hb; rw [upd_same] at e; cases e; exact new
  · rw [upd_ne hb] at e
    exact (x b u e).stay (fun c v _ q => k c v q) (fun c q => by rw [upd_ne (ne_of_none q hn)]; exact q) fun c xs q => by rw [upd_ne (ne_of_none q hn)]; exact q
end
def Rd (H : Hp) (a : Addr) (u : HO) : Prop := H a = some u ∨ ∃ o, H a = some (.frz o u)
theorem Rd.ok {P : Program} {w : World} {H : Hp} {h : Heap} {a : Addr} {u : HO} (r : Rd H a u) (x : HOk P w H h) : ObjOk P w H h a u := by
  rcases r with r | ⟨o, r⟩
  · exact x a u r
  · obtain ⟨_, q⟩ := x a _ r
    exact q
def Mut : Option HO → Prop
  | some (.lst _) => True
  | some (.dK _) => True
  | some (.dT _) => True
  | some (.set _ _) => True
  | some (.ins _ _ _) => True
  | some (.ext _) => True
  | _ => False
section
variable {P : Program} {w : World} {H : Hp} {h h' : Heap} {x e : Addr} {o' : HO}
theorem HOk.write (ok : HOk P w H h) (mu : Mut (H x)) (he : e = x ∨ H e = some (.own x)) (k : ∀ b u, b ≠ e → h.get? b = some u → h'.get? b = some u) (heo : ∃ u, h'.get? e = some u)
    (new : ObjOk P w (upd H x o') h' x o') : HOk P w (upd H x o') h' := fun b u q => by
  have nown : ∀ c y, H c = some (.own y) → c ≠ x := fun c y r z => by subst z; rw [r] at mu; exact mu
  have ntup : ∀ c xs, H c = some (.tup xs) → c ≠ x := fun c xs r z => by subst z; rw [r] at mu; exact mu
  by_cases hb : b = x
  · subst hb; rw [upd_same] at q; cases q; exact new
  · rw [upd_ne hb] at q
    by_cases hbe : b = e
    · have q' : H b = some (.own x) := by
        rcases he with z | z
        · exact absurd (hbe.trans z) hb
        · rw [hbe]; exact z
      rw [q] at q'; cases q'
      obtain ⟨v, hv⟩ := heo
      exact ⟨v, by rw [hbe]; exact hv⟩
    · refine (ok b u q).stay (fun c v hc r => k c v ?_ r) (fun c r => by rw [upd_ne (nown c b r)]; exact r) fun c xs r => by rw [upd_ne (ntup c xs r)]; exact r
      rcases hc with rfl | hc
      · exact hbe
      · rintro rfl
        rcases he with z | z
        · exact nown c b hc z
        · rw [hc] at z; cases z; exact hb rfl
end
structure Un (fs ex : List Addr) (H H' : Hp) (h h' : Heap) : Prop where
  keep : ∀ b o, h.get? b = some o → H b = none → b ∉ fs → b ∉ ex → h'.get? b = some o
  slot : ∀ b o, h.get? b = some o → H b = none → b ∈ fs → b ∉ ex → ∃ sl, h'.get? b = some { o with slots := sl }
  free : ∀ b o, h.get? b = some o → H b = none → b ∉ ex → H' b = none
  there : ∀ b o, h.get? b = some o → b ∉ ex → ∃ o', h'.get? b = some o'
  tups : ∀ b xs, H b = some (.tup xs) → H' b = some (.tup xs)
  frzs : ∀ b o u, H b = some (.frz o u) → H' b = some (.frz o u)
  tbls : ∀ b ps, H b = some (.tbl ps) → ∃ more, H' b = some (.tbl (ps ++ more))
section
variable {fs fs' ex ex' : List Addr} {H H1 H2 : Hp} {h h1 h2 h' : Heap} {a x e : Addr} {o : HO}
theorem Un.any (u : Un fs ex H H1 h h1) {b : Addr} {ob : Obj} (q : h.get? b = some ob) (n : H b = none) (hx : b ∉ ex) : ∃ sl, h1.get? b = some { ob with slots := sl } := by
  by_cases hb : b ∈ fs
  · exact u.slot b ob q n hb hx
  · exact ⟨ob.slots, u.keep b ob q n hb hx⟩
theorem Un.kept (k : ∀ b u, h.get? b = some u → h'.get? b = some u) : Un fs ex H H h h' :=
  ⟨fun b ob q _ _ _ => k b ob q, fun b ob q _ _ _ => ⟨ob.slots, k b ob q⟩, fun _ _ _ n _ => n, fun b ob q _ => ⟨ob, k b ob q⟩, fun _ _ q => q, fun _ _ _ q => q, fun _ ps q => ⟨#[], by rw [q]; simp⟩⟩
theorem Un.refl : Un fs ex H H h h := Un.kept fun _ _ q => q
theorem Un.laid (k : ∀ b u, h.get? b = some u → h'.get? b = some u) (hp : h.objs.size ≤ a) (hn : H a = none) : Un fs ex H (upd H a o) h h' where
  keep := fun b u q _ _ _ => k b u q
  slot := fun b u q _ _ _ => ⟨u.slots, k b u q⟩
  free := fun b u q n _ => by rw [upd_ne (Nat.ne_of_lt (Nat.lt_of_lt_of_le (Heap.lt_size q) hp))]; exact n
  there := fun b u q _ => ⟨u, k b u q⟩
  tups := fun b xs q => by rw [upd_ne (ne_of_none q hn)]; exact q
  frzs := fun b u xs q => by rw [upd_ne (ne_of_none q hn)]; exact q
  tbls := fun b ps q => ⟨#[], by rw [upd_ne (ne_of_none q hn), q]; simp⟩
theorem Un.write (mu : Mut (H x)) (he : e = x ∨ H e = some (.own x)) (k : ∀ b u, b ≠ e → h.get? b = some u → h'.get? b = some u) (heo : ∃ u, h'.get? e = some u) : Un fs ex H (upd H x o) h h' := by
  have hx : ∀ b, H b = none → b ≠ x := fun b n z => by subst z; rw [n] at mu; exact mu
  have hb : ∀ b, H b = none → b ≠ e := fun b n z => by
    subst z
    rcases he with r | r
    · exact hx b n r
    · rw [n] at r; cases r
  have hm : ∀ b u, H b = some u → ¬ Mut (some u) → b ≠ x := fun b u q nm z => by subst z; rw [q] at mu; exact nm mu
  refine ⟨fun b u q n _ _ => k b u (hb b n) q, fun b u q n _ _ => ⟨u.slots, k b u (hb b n) q⟩, fun b u q n _ => by rw [upd_ne (hx b n)]; exact n, fun b u q _ => ?_,
    fun b xs q => by rw [upd_ne (hm b _ q fun z => z)]; exact q, fun b u xs q => by rw [upd_ne (hm b _ q fun z => z)]; exact q, fun b ps q => ⟨#[], by rw [upd_ne (hm b _ q fun z => z), q]; simp⟩⟩
  by_cases hbe : b = e
  · subst hbe; exact heo
  · exact ⟨u, k b u hbe q⟩
end
def trk (h : Heap) (H : Hp) : List Addr := (List.range h.objs.size).filter fun a => (H a).isSome
def hidT (h : Heap) (H : Hp) : Heap := PySem.W.hideAll h (trk h H)
theorem hidT_size (h : Heap) (H : Hp) : (hidT h H).objs.size = h.objs.size := PySem.W.hideAll_size _ _
theorem hidT_get {h : Heap} {H : Hp} {b : Addr} {o : Obj} (e : h.get? b = some o) (n : H b = none) : (hidT h H).get? b = some o :=
  PySem.W.hideAll_get _ e fun hm => by
    have q : (H b).isSome = true := (List.mem_filter.mp hm).2
    rw [n] at q; simp at q
theorem of_hidT {h : Heap} {H : Hp} {b : Addr} {o : Obj} (e : (hidT h H).get? b = some o) : h.get? b = some o ∧ H b = none := by
  have e' : h.get? b = some o := PySem.W.of_hideAll (trk h H) e
  refine ⟨e', ?_⟩
  cases q : H b with
  | none => rfl
  | some x =>
    have hm : b ∈ trk h H := List.mem_filter.mpr ⟨List.mem_range.mpr (Heap.lt_size e'), by simp [q]⟩
    have z : (hidT h H).get? b = none := PySem.W.hideAll_none (trk h H) hm
    rw [z] at e; cases e
def allNews (g h : Heap) (L : Addr) : List (Addr × Obj) := (List.range h.objs.size).filterMap fun a => if a = L ∨ (g.get? a).isSome = true then none else (h.get? a).map fun o => (a, o)
def rest (g h : Heap) (L d : Addr) : List (Addr × Obj) := (allNews g h L).filter fun p => decide (p.1 ≠ d)
end L2
namespace L2
open PySem PySem.Spec PyProof.Rows
structure Mod (K : PySem.W.Frag) (mg : Str → Option Value) (base : Heap) : Prop where
  kin : K.In base
  glob : base.Ns mainGlobals mg
  blt : ∃ mb, base.Ns builtinsNs mb ∧ ∀ x : Str, x ≠ "__name__" → mb x = bootBuiltins x
  nolimit : base.NoLimit
structure Cx where
  prog : Program
  w : World
  K : PySem.W.Frag
  mg : Str → Option Value
  base : Heap
  A : Around
  N : List Str
  s₀ : Shared
  H₀ : Hp
  env : Env
  outer : List Env
  stack : List Env
  ex : List Addr
  fn : Str → Bool
  calm : Bool
  pn : List (Addr × Obj)
  xe : Value → Shared → Prop
def frs (l : List Env) : List Addr := l.filterMap (·.frame)
abbrev Cx.fs (X : Cx) : List Addr := frs X.outer
def Vis (sc : Scope) (x : Str) : Prop := sc.names.lookup x = some .local ∨ sc.names.lookup x = some .cell ∨ sc.names.lookup x = some .free
def Loc (sc : Scope) (x : Str) : Prop := sc.names.lookup x = some .local ∨ sc.names.lookup x = some .cell
def Look (env : Env) (h : Heap) (m : Str → Option Value) (x : Str) (u : Value) : Prop :=
  (env.kindOf x = some .local ∧ m x = some u) ∨ ((env.kindOf x = some .cell ∨ env.kindOf x = some .free) ∧ ∃ c, env.cells.lookup x = some c ∧ h.IsCell c (some u))
structure Cx.Ok (X : Cx) : Prop where
  mod : Mod X.K X.mg X.base
  kind : X.env.scope.kind = .function
  glob : X.env.globals = mainGlobals
  blt : X.env.builtins = builtinsNs
  above : X.s₀.heap.objs.size ≤ X.env.locals
  inj : ∀ x y c, X.env.cells.lookup x = some c → X.env.cells.lookup y = some c → x = y
  has : ∀ x, (X.env.kindOf x = some .cell ∨ X.env.kindOf x = some .free) → ∃ c, X.env.cells.lookup x = some c
  cab : ∀ x c, X.fn x = true → X.env.cells.lookup x = some c → X.s₀.heap.objs.size ≤ c
  hd : X.calm = true → X.A.handled = none
  frames : X.A.frames = some X.stack
  stk : X.stack = X.outer ∨ (X.stack = X.env :: X.outer ∧ X.env.frame = some X.env.locals)
  exf : ∀ b ∈ X.ex, b ≠ X.env.locals ∧ ∀ x c, X.env.cells.lookup x = some c → c ≠ b
  bs : ∀ b o, X.base.get? b = some o → X.s₀.heap.get? b = some o ∧ X.H₀ b = none
  bsz : X.base.objs.size ≤ X.s₀.heap.objs.size
  noex : ∀ b o, X.base.get? b = some o → b ∉ X.ex
  exfs : ∀ b ∈ X.ex, b ∉ X.fs
  funs : X.s₀.heap.FunFrames X.base X.outer
  frf : ∀ b ∈ X.fs, X.H₀ b = none
structure Inv (X : Cx) (pins : List (Addr × Obj)) (σ : List (Option V)) (H : Hp) (s : Shared) : Prop where
  ok : X.Ok
  os : s.os = X.s₀.os
  bare : AllBare s.gens
  base : Un X.fs X.ex X.H₀ H X.s₀.heap s.heap
  loc : ∃ m, s.heap.Ns X.env.locals m ∧ ∀ (i : Nat) (x : Str) (v : V), X.N[i]? = some x → σ[i]? = some (some v) → Vis X.env.scope x → ∃ u, RelV v u ∧ Look X.env s.heap m x u
  cell : ∀ x c, X.env.cells.lookup x = some c → ∃ v, s.heap.IsCell c v
  free : H X.env.locals = none
  freeC : ∀ x c, X.env.cells.lookup x = some c → H c = none
  pin : ∀ p ∈ X.pn ++ pins, s.heap.get? p.1 = some p.2 ∧ H p.1 = none ∧ p.1 ≠ X.env.locals ∧ p.1 ∉ X.fs ∧ ∀ v, p.2.data ≠ .cell v
  hok : HOk X.prog X.w H s.heap
  len : σ.length = X.N.length
section
variable {X : Cx} {pins : List (Addr × Obj)} {σ : List (Option V)} {H H' : Hp} {s : Shared} {h' : Heap}
theorem Cx.Ok.nofr (ok : X.Ok) {b : Addr} {o : Obj} (e : X.base.get? b = some o) : b ∉ X.fs := fun hb => by
  have := (ok.funs.mem hb).1
  rw [e] at this; cases this
theorem Inv.bs (I : Inv X pins σ H s) : ∀ b o, X.base.get? b = some o → s.heap.get? b = some o ∧ H b = none := fun b o e =>
  ⟨I.base.keep b o (I.ok.bs b o e).1 (I.ok.bs b o e).2 (I.ok.nofr e) (I.ok.noex b o e), I.base.free b o (I.ok.bs b o e).1 (I.ok.bs b o e).2 (I.ok.noex b o e)⟩
theorem Inv.bk (I : Inv X pins σ H s) : ∀ b o, X.base.get? b = some o → s.heap.get? b = some o := fun b o e => (I.bs b o e).1
theorem Inv.mod (I : Inv X pins σ H s) : Mod X.K X.mg X.base := I.ok.mod
theorem Inv.kIn (I : Inv X pins σ H s) : X.K.In s.heap := I.ok.mod.kin.keeps I.bk
theorem Inv.lt (I : Inv X pins σ H s) : X.env.locals < s.heap.objs.size := let ⟨_, hn, _⟩ := I.loc; hn.lt
theorem Inv.sz (I : Inv X pins σ H s) : X.s₀.heap.objs.size ≤ s.heap.objs.size := Nat.le_trans I.ok.above (Nat.le_of_lt I.lt)
theorem Inv.nofs (I : Inv X pins σ H s) {a : Addr} (h : s.heap.objs.size ≤ a) : a ∉ X.fs := fun hb => by
  obtain ⟨_, o, ho, _⟩ := I.ok.funs.mem hb
  exact absurd (Nat.lt_of_lt_of_le (Heap.lt_size ho) (Nat.le_trans I.sz h)) (Nat.lt_irrefl _)
theorem Inv.cne (I : Inv X pins σ H s) : ∀ x c, X.env.cells.lookup x = some c → c ≠ X.env.locals := fun x c e z => by
  obtain ⟨v, o, ho, hd⟩ := I.cell x c e
  obtain ⟨m, ⟨o', es, ep, ho', hd', _⟩, _⟩ := I.loc
  rw [z, ho'] at ho; cases ho; rw [hd'] at hd; cases hd
theorem Inv.funs (I : Inv X pins σ H s) : s.heap.FunFrames X.base X.outer := by
  have all : ∀ (l : List Env), (∀ b ∈ frs l, b ∈ X.fs) → X.s₀.heap.FunFrames X.base l → s.heap.FunFrames X.base l := by
    intro l
    induction l with
    | nil => intro _ _; trivial
    | cons env r ih =>
      intro hs hl
      obtain ⟨hk, ⟨L, o, hf, hn, ho, hd⟩, hr⟩ := hl
      have hL : L ∈ X.fs := hs L (by unfold frs; rw [List.filterMap_cons, hf]; exact List.mem_cons_self)
      obtain ⟨sl, e⟩ := I.base.slot L o ho (I.ok.frf L hL) hL fun z => I.ok.exfs L z hL
      exact ⟨hk, ⟨L, _, hf, hn, e, hd⟩, ih (fun b hb => hs b (by unfold frs; rw [List.filterMap_cons, hf]; exact List.mem_cons_of_mem _ hb)) hr⟩
  exact all X.outer (fun _ hb => hb) I.ok.funs
theorem Inv.stack (I : Inv X pins σ H s) : s.heap.FunFrames X.base X.stack := by
  rcases I.ok.stk with e | ⟨e, hf⟩
  · rw [e]; exact I.funs
  · rw [e]
    obtain ⟨m, hn, _⟩ := I.loc
    refine .cons (by rw [I.ok.kind]; decide) hf hn ?_ I.funs
    exact Heap.get?_none_of_le (Nat.le_trans I.ok.bsz I.ok.above)
theorem Inv.stkSub (I : Inv X pins σ H s) : ∀ b ∈ frs X.stack, b ∈ X.env.locals :: X.fs := fun b hb => by
  rcases I.ok.stk with e | ⟨e, hf⟩
  · rw [e] at hb; exact List.mem_cons_of_mem _ hb
  · rw [e] at hb
    unfold frs at hb
    rw [List.filterMap_cons, hf] at hb
    exact hb
theorem Inv.stkFree (I : Inv X pins σ H s) : ∀ b ∈ frs X.stack, H b = none := fun b hb => by
  rcases List.mem_cons.mp (I.stkSub b hb) with e | hb
  · rw [e]; exact I.free
  · obtain ⟨_, o, ho, _⟩ := I.ok.funs.mem hb
    exact I.base.free b o ho (I.ok.frf b hb) fun z => I.ok.exfs b z hb
theorem Inv.step {g' : Array GenState} {t' : Nat} {d' : Drawn} {ch : List Addr} (I : Inv X pins σ H s)
    (hch : ∀ b ∈ ch, (b ∈ X.ex ∨ X.s₀.heap.objs.size ≤ b) ∧ b ≠ X.env.locals ∧ (∀ x c, X.env.cells.lookup x = some c → c ≠ b) ∧ ∀ p ∈ X.pn ++ pins, p.1 ≠ b)
    (keep : ∀ b o, b ≠ X.env.locals → b ∉ X.fs → b ∉ ch → s.heap.get? b = some o → H b = none → h'.get? b = some o)
    (slot : ∀ b o, b ≠ X.env.locals → b ∈ X.fs → b ∉ ch → s.heap.get? b = some o → H b = none → ∃ sl, h'.get? b = some { o with slots := sl }) (free : ∀ b o, b ∉ ch → s.heap.get? b = some o → H b = none → H' b = none)
    (there : ∀ b o, b ∉ ch → s.heap.get? b = some o → ∃ o', h'.get? b = some o')
    (tups : ∀ b xs, H b = some (.tup xs) → H' b = some (.tup xs)) (frzs : ∀ b o u, H b = some (.frz o u) → H' b = some (.frz o u)) (tbls : ∀ b ps, H b = some (.tbl ps) → ∃ more, H' b = some (.tbl (ps ++ more)))
    (ns : ∀ m, s.heap.Ns X.env.locals m → h'.Ns X.env.locals m) (hok : HOk X.prog X.w H' h') (hg : AllBare g') :
    Inv X pins σ H' { s with heap := h', gens := g', drawn := d', toks := t' } := by
  have neL : ∀ b o, X.s₀.heap.get? b = some o → b ≠ X.env.locals := fun b o e => Nat.ne_of_lt (Nat.lt_of_lt_of_le (Heap.lt_size e) I.ok.above)
  have neC : ∀ b o, X.s₀.heap.get? b = some o → b ∉ X.ex → b ∉ ch := fun b o e hx hb => by
    rcases (hch b hb).1 with z | z
    · exact hx z
    · exact absurd (Nat.lt_of_lt_of_le (Heap.lt_size e) z) (Nat.lt_irrefl _)
  have cellK : ∀ x c, X.env.cells.lookup x = some c → ∀ v, s.heap.IsCell c v → h'.IsCell c v := fun x c e v ⟨o, ho, hd⟩ => by
    have nch : c ∉ ch := fun z => (hch c z).2.2.1 x c e rfl
    by_cases hc : c ∈ X.fs
    · obtain ⟨sl, q⟩ := slot c o (I.cne x c e) hc nch ho (I.freeC x c e)
      exact ⟨_, q, hd⟩
    · exact ⟨o, keep c o (I.cne x c e) hc nch ho (I.freeC x c e), hd⟩
  refine ⟨I.ok, I.os, hg, ⟨fun b o e n hb hx => ?_, fun b o e n hb hx => ?_, fun b o e n hx => ?_, fun b o e hx => ?_, fun b xs e => tups b xs (I.base.tups b xs e), fun b o xs e => frzs b o xs (I.base.frzs b o xs e), fun b ps e => ?_⟩, ?_, fun x c e => ?_, ?_, fun x c e => ?_, fun p hp => ?_, hok, I.len⟩
  · exact keep b o (neL b o e) hb (neC b o e hx) (I.base.keep b o e n hb hx) (I.base.free b o e n hx)
  · obtain ⟨sl, e1⟩ := I.base.slot b o e n hb hx
    obtain ⟨sl', e2⟩ := slot b _ (neL b o e) hb (neC b o e hx) e1 (I.base.free b o e n hx)
    exact ⟨sl', e2⟩
  · obtain ⟨o', e1⟩ := I.base.there b o e hx
    exact free b o' (neC b o e hx) e1 (I.base.free b o e n hx)
  · obtain ⟨o', e1⟩ := I.base.there b o e hx
    exact there b o' (neC b o e hx) e1
  · obtain ⟨m1, e1⟩ := I.base.tbls b ps e
    obtain ⟨m2, e2⟩ := tbls b _ e1
    exact ⟨m1 ++ m2, by rw [e2, Array.append_assoc]⟩
  · obtain ⟨m, hn, hl⟩ := I.loc
    refine ⟨m, ns m hn, fun i x v e1 e2 e3 => ?_⟩
    obtain ⟨u, r, l⟩ := hl i x v e1 e2 e3
    refine ⟨u, r, ?_⟩
    rcases l with l | ⟨k, c, e, z⟩
    · exact .inl l
    · exact .inr ⟨k, c, e, cellK x c e _ z⟩
  · obtain ⟨v, z⟩ := I.cell x c e
    exact ⟨v, cellK x c e v z⟩
  · obtain ⟨m, ⟨o, _, _, ho, _⟩, _⟩ := I.loc
    exact free _ o (fun z => (hch _ z).2.1 rfl) ho I.free
  · obtain ⟨v, o, ho, hd⟩ := I.cell x c e
    exact free c o (fun z => (hch c z).2.2.1 x c e rfl) ho (I.freeC x c e)
  · obtain ⟨e, n, ne, nf, d⟩ := I.pin p hp
    have nch : p.1 ∉ ch := fun z => (hch p.1 z).2.2.2 p hp rfl
    exact ⟨keep p.1 p.2 ne nf nch e n, free p.1 p.2 nch e n, ne, nf, d⟩
theorem Inv.un {t' : Nat} (I : Inv X pins σ H s) (u : Un X.fs [] H H' s.heap h') (hok : HOk X.prog X.w H' h') : Inv X pins σ H' { s with heap := h', toks := t' } := by
  obtain ⟨m, ⟨o, es, ep, ho, r⟩, _⟩ := id I.loc
  obtain ⟨sl, hL⟩ := u.any ho I.free (by simp)
  exact I.step (g' := s.gens) (d' := s.drawn) (ch := []) (fun _ z => nomatch z) (fun b o _ hb _ e n => u.keep b o e n hb (by simp)) (fun b o _ hb _ e n => u.slot b o e n hb (by simp)) (fun b o _ e n => u.free b o e n (by simp)) (fun b o _ e => u.there b o e (by simp)) u.tups u.frzs u.tbls (fun m' hm => by
    obtain ⟨o', es', ep', ho', r'⟩ := hm
    rw [ho] at ho'; cases ho'
    exact ⟨_, es', ep', hL, r'⟩) hok I.bare
theorem Inv.call {g' : Array GenState} {t' : Nat} {d' : Drawn} {ch : List Addr} (I : Inv X pins σ H s) (u : Un (frs X.stack) ch H H' s.heap h') (hok : HOk X.prog X.w H' h') (hg : AllBare g')
    (hch : ∀ b ∈ ch, (b ∈ X.ex ∨ X.s₀.heap.objs.size ≤ b) ∧ b ≠ X.env.locals ∧ (∀ x c, X.env.cells.lookup x = some c → c ≠ b) ∧ ∀ p ∈ X.pn ++ pins, p.1 ≠ b) :
    Inv X pins σ H' { s with heap := h', gens := g', drawn := d', toks := t' } := by
  obtain ⟨m, ⟨o, es, ep, ho, r⟩, _⟩ := id I.loc
  obtain ⟨sl, hL⟩ := u.any ho I.free fun z => (hch _ z).2.1 rfl
  exact I.step (ch := ch) hch (fun b o hL hb hc e n => u.keep b o e n (fun z => (List.mem_cons.mp (I.stkSub b z)).elim hL hb) hc) (fun b o _ _ hc e n => u.any e n hc) (fun b o hc e n => u.free b o e n hc) (fun b o hc e => u.there b o e hc) u.tups u.frzs u.tbls (fun m' hm => by
    obtain ⟨o', es', ep', ho', r'⟩ := hm
    rw [ho] at ho'; cases ho'
    exact ⟨_, es', ep', hL, r'⟩) hok hg
theorem Inv.turned {t' : Nat} {it : Addr} (I : Inv X pins σ H s) (k : ∀ b o, b ≠ it → s.heap.get? b = some o → h'.get? b = some o) (hn : H it = none) (hL : it ≠ X.env.locals)
    (h1 : it ∈ X.ex ∨ X.s₀.heap.objs.size ≤ it) (h2 : ∀ x c, X.env.cells.lookup x = some c → c ≠ it) (h3 : ∀ p ∈ X.pn ++ pins, p.1 ≠ it) : Inv X pins σ H { s with heap := h', toks := t' } := by
  have nit : ∀ b u, H b = some u → b ≠ it := fun b u e z => by rw [z, hn] at e; cases e
  refine I.step (g' := s.gens) (d' := s.drawn) (ch := [it]) (fun b hb => ?_) (fun b o _ _ hc e _ => k b o (fun z => hc (by simp [z])) e) (fun b o _ _ hc e _ => ⟨o.slots, k b o (fun z => hc (by simp [z])) e⟩) (fun _ _ _ _ n => n)
    (fun b o hc e => ⟨o, k b o (fun z => hc (by simp [z])) e⟩) (fun _ _ e => e) (fun _ _ _ e => e) (fun b ps e => ⟨#[], by rw [e]; simp⟩) (fun m hm => ?_) (fun b u e => ?_) I.bare
  · have e : b = it := by simpa using hb
    subst e
    exact ⟨h1, hL, h2, h3⟩
  · obtain ⟨o, es, ep, ho, r⟩ := hm
    exact ⟨o, es, ep, k _ o (Ne.symm hL) ho, r⟩
  · refine (I.hok b u e).stay (fun c v hc q => k c v ?_ q) (fun _ q => q) fun _ _ q => q
    rcases hc with z | z
    · rw [z]; exact nit b u e
    · exact nit c _ z
theorem Inv.tok (I : Inv X pins σ H s) (t : Nat) : Inv X pins σ H { s with toks := t } := I.un (h' := s.heap) (t' := t) Un.refl I.hok
theorem Inv.kept {t' : Nat} (I : Inv X pins σ H s) (k : ∀ b u, s.heap.get? b = some u → h'.get? b = some u) : Inv X pins σ H { s with heap := h', toks := t' } := I.un (Un.kept k) (I.hok.kept k)
theorem Inv.laid {a : Addr} {o : HO} {t' : Nat} (I : Inv X pins σ H s) (k : ∀ b u, s.heap.get? b = some u → h'.get? b = some u) (hp : s.heap.objs.size ≤ a) (new : ObjOk X.prog X.w (upd H a o) h' a o) :
    Inv X pins σ (upd H a o) { s with heap := h', toks := t' } := I.un (Un.laid k hp (I.hok.fresh hp)) (I.hok.laid k hp new)
theorem Inv.write {x e : Addr} {o : HO} {t' : Nat} (I : Inv X pins σ H s) (mu : Mut (H x)) (he : e = x ∨ H e = some (.own x)) (k : ∀ b u, b ≠ e → s.heap.get? b = some u → h'.get? b = some u) (heo : ∃ u, h'.get? e = some u)
    (new : ObjOk X.prog X.w (upd H x o) h' x o) : Inv X pins σ (upd H x o) { s with heap := h', toks := t' } := I.un (Un.write mu he k heo) (I.hok.write mu he k heo new)
theorem Inv.pins_of {pins' : List (Addr × Obj)} (I : Inv X pins σ H s) (h : ∀ p ∈ pins', s.heap.get? p.1 = some p.2 ∧ H p.1 = none ∧ p.1 ≠ X.env.locals ∧ p.1 ∉ X.fs ∧ ∀ v, p.2.data ≠ .cell v) : Inv X pins' σ H s :=
  ⟨I.ok, I.os, I.bare, I.base, I.loc, I.cell, I.free, I.freeC, fun p hp => (List.mem_append.mp hp).elim (fun z => I.pin p (List.mem_append_left _ z)) (h p), I.hok, I.len⟩
theorem nodup_ix {N : List Str} (hN : N.Nodup) {i j : Nat} {x : Str} (a : N[i]? = some x) (b : N[j]? = some x) : i = j := by
  obtain ⟨h1, e1⟩ := List.getElem?_eq_some_iff.mp a
  obtain ⟨h2, e2⟩ := List.getElem?_eq_some_iff.mp b
  exact (List.getElem_inj hN).mp (e1.trans e2.symm)
theorem store_ok2 {M : Model} {A : Around} {E : Value → Shared → Prop} {i : Nat} {x : Str} {v : V} {u : Value} {Q : Unit → Shared → Prop} (I : Inv X pins σ H s) (hN : X.N.Nodup) (hi : X.N[i]? = some x) (hx : Loc X.env.scope x) (r : RelV v u)
    (h : ∀ s', Inv X pins (σ.set i (some v)) H s' → (∃ a, Heap.SameBut a s.heap s'.heap ∧ (a = X.env.locals ∨ X.env.cells.lookup x = some a)) → Q () s') (hf : X.fn x = true ∨ X.env.scope.names.lookup x = some .local := by first | exact .inl rfl | exact .inr rfl | assumption) : wpAny M A (storeName X.env x u) Q E s := by
  obtain ⟨m, hn, hl⟩ := id I.loc
  have hcls : (X.env.scope.kind == .class || (X.env.scope.kind == .module && X.env.locals != X.env.globals)) = false := by rw [I.ok.kind]; rfl
  have hiσ : i < σ.length := by rw [I.len]; exact (List.getElem?_eq_some_iff.mp hi).1
  have cne := I.cne
  have tracked : ∀ {a : Addr} {h' : Heap}, (∃ o, s.heap.get? a = some o ∧ H a = none) → Heap.SameBut a s.heap h' → HOk X.prog X.w H h' := fun {a h'} ha hs b ob e => by
    obtain ⟨_, _, hfree⟩ := ha
    refine (I.hok b ob e).stay (fun c w' hc q => (hs.2 c ?_).trans q) (fun _ q => q) fun _ _ q => q
    rintro rfl
    rcases hc with rfl | hc
    · rw [hfree] at e; cases e
    · rw [hfree] at hc; cases hc
  rcases hx with hk | hk
  · refine wpAny_storeName_local hk hn (fun h' hn' hs => ?_) hcls
    obtain ⟨oL, _, _, hoL, _⟩ := id hn
    refine h _ ⟨I.ok, I.os, I.bare, ⟨fun b o e n hb hx => ?_, fun b o e n hb hx => ?_, I.base.free, fun b o e hx => ?_, I.base.tups, I.base.frzs, I.base.tbls⟩, ⟨_, hn', fun j y v' e1 e2 e3 => ?_⟩, fun y c e => ?_, I.free, I.freeC, fun p hp => ?_, tracked ⟨oL, hoL, I.free⟩ hs, by simpa using I.len⟩ ⟨_, hs, .inl rfl⟩
    · exact (hs.2 b (Nat.ne_of_lt (Nat.lt_of_lt_of_le (Heap.lt_size e) I.ok.above))).trans (I.base.keep b o e n hb hx)
    · obtain ⟨sl, e1⟩ := I.base.slot b o e n hb hx
      exact ⟨sl, (hs.2 b (Nat.ne_of_lt (Nat.lt_of_lt_of_le (Heap.lt_size e) I.ok.above))).trans e1⟩
    · obtain ⟨o', e1⟩ := I.base.there b o e hx
      exact ⟨o', (hs.2 b (Nat.ne_of_lt (Nat.lt_of_lt_of_le (Heap.lt_size e) I.ok.above))).trans e1⟩
    · by_cases hj : j = i
      · subst hj
        rw [hi] at e1; cases e1
        rw [List.getElem?_set_self hiσ] at e2
        cases e2
        exact ⟨u, r, .inl ⟨hk, by simp⟩⟩
      · rw [List.getElem?_set_ne (Ne.symm hj)] at e2
        obtain ⟨u', r', q⟩ := hl j y v' e1 e2 e3
        refine ⟨u', r', ?_⟩
        rcases q with ⟨k, e⟩ | ⟨k, c, e, z⟩
        · refine .inl ⟨k, ?_⟩
          have : y ≠ x := fun e => hj (nodup_ix hN e1 (e ▸ hi))
          simp [this, e]
        · exact .inr ⟨k, c, e, z.sameBut hs (cne y c e)⟩
    · obtain ⟨w', z⟩ := I.cell y c e
      exact ⟨w', z.sameBut hs (cne y c e)⟩
    · obtain ⟨e, n, ne, nf, d⟩ := I.pin p hp
      exact ⟨(hs.2 p.1 ne).trans e, n, ne, nf, d⟩
  · have hfn : X.fn x = true := by
      rcases hf with z | z
      · exact z
      · rw [z] at hk; cases hk
    obtain ⟨c, hc⟩ := I.ok.has x (.inl hk)
    obtain ⟨w', z⟩ := I.cell x c hc
    refine wpAny_storeName_cell I.ok.kind hk hc z (fun h' hc' hs => ?_)
    obtain ⟨oc, hoc, hocd⟩ := id z
    refine h { s with heap := h' } ⟨I.ok, I.os, I.bare, ⟨fun b o e n hb hx => ?_, fun b o e n hb hx => ?_, I.base.free, fun b o e hx => ?_, I.base.tups, I.base.frzs, I.base.tbls⟩, ⟨m, hn.sameBut hs (Ne.symm (cne x c hc)), fun j y v' e1 e2 e3 => ?_⟩, fun y c' e => ?_, I.free, I.freeC, fun p hp => ?_, tracked ⟨oc, hoc, I.freeC x c hc⟩ hs, by simpa using I.len⟩ ⟨c, hs, .inr hc⟩
    · exact (hs.2 b (Nat.ne_of_lt (Nat.lt_of_lt_of_le (Heap.lt_size e) (I.ok.cab x c hfn hc)))).trans (I.base.keep b o e n hb hx)
    · obtain ⟨sl, e1⟩ := I.base.slot b o e n hb hx
      exact ⟨sl, (hs.2 b (Nat.ne_of_lt (Nat.lt_of_lt_of_le (Heap.lt_size e) (I.ok.cab x c hfn hc)))).trans e1⟩
    · obtain ⟨o', e1⟩ := I.base.there b o e hx
      exact ⟨o', (hs.2 b (Nat.ne_of_lt (Nat.lt_of_lt_of_le (Heap.lt_size e) (I.ok.cab x c hfn hc)))).trans e1⟩
    · by_cases hj : j = i
      · subst hj
        rw [hi] at e1; cases e1
        rw [List.getElem?_set_self hiσ] at e2
        cases e2
        exact ⟨u, r, .inr ⟨.inl hk, c, hc, hc'⟩⟩
      · rw [List.getElem?_set_ne (Ne.symm hj)] at e2
        obtain ⟨u', r', q⟩ := hl j y v' e1 e2 e3
        refine ⟨u', r', ?_⟩
        rcases q with q | ⟨k, c', e, z'⟩
        · exact .inl q
        · refine .inr ⟨k, c', e, z'.sameBut hs ?_⟩
          rintro rfl
          exact hj (nodup_ix hN e1 (I.ok.inj _ _ _ e hc ▸ hi))
    · by_cases hcc : c' = c
      · subst hcc; exact ⟨_, hc'⟩
      · obtain ⟨w2, z2⟩ := I.cell y c' e
        exact ⟨w2, z2.sameBut hs hcc⟩
    · obtain ⟨e, n, ne, nf, d⟩ := I.pin p hp
      refine ⟨(hs.2 p.1 ?_).trans e, n, ne, nf, d⟩
      intro q
      rw [q, hoc] at e
      have q' : oc = p.2 := Option.some.inj e
      exact d w' (by rw [← q']; exact hocd)
theorem store_ok {M : Model} {A : Around} {E : Value → Shared → Prop} {i : Nat} {x : Str} {v : V} {u : Value} {Q : Unit → Shared → Prop} (I : Inv X pins σ H s) (hN : X.N.Nodup) (hi : X.N[i]? = some x) (hx : Loc X.env.scope x) (r : RelV v u)
    (h : ∀ s', Inv X pins (σ.set i (some v)) H s' → Q () s') (hf : X.fn x = true ∨ X.env.scope.names.lookup x = some .local := by first | exact .inl rfl | exact .inr rfl | assumption) : wpAny M A (storeName X.env x u) Q E s :=
  store_ok2 I hN hi hx r (fun s' I' _ => h s' I') hf
theorem Inv.call' {s' : Shared} {ch : List Addr} (I : Inv X pins σ H s) (ho : s'.os = s.os) (u : Un (frs X.stack) ch H H' s.heap s'.heap) (hok : HOk X.prog X.w H' s'.heap) (hg : AllBare s'.gens)
    (hch : ∀ b ∈ ch, (b ∈ X.ex ∨ X.s₀.heap.objs.size ≤ b) ∧ b ≠ X.env.locals ∧ (∀ x c, X.env.cells.lookup x = some c → c ≠ b) ∧ ∀ p ∈ X.pn ++ pins, p.1 ≠ b) : Inv X pins σ H' s' := by
  obtain ⟨h', g', d', t', o'⟩ := s'
  have e : o' = s.os := ho
  subst e
  exact I.call (g' := g') (t' := t') (d' := d') u hok hg hch
end
abbrev XK := Value → Option Addr → Hp → Prop
abbrev St := List (Option V)
abbrev VK := V → Hp → Prop
abbrev TE := St → Hp → VK → Prop
abbrev TT := St → Hp → (Bool → Hp → Prop) → Prop
abbrev TA := St → Hp → (List V → Hp → Prop) → Prop
structure Ends where
  nx : St → Hp → Prop
  rt : VK
  bk : St → Hp → Prop := fun _ _ => False
  ct : St → Hp → Prop := fun _ _ => False
abbrev TS := Ends → St → Hp → Prop
def EP (X : Cx) (pins : List (Addr × Obj)) (σ : St) (Q : VK) (u : Value) (s' : Shared) : Prop := ∃ v H', Inv X pins σ H' s' ∧ RelV v u ∧ Q v H'
def TP (X : Cx) (pins : List (Addr × Obj)) (σ : St) (Q : Bool → Hp → Prop) (b : Bool) (s' : Shared) : Prop := ∃ H', Inv X pins σ H' s' ∧ Q b H'
def AP (X : Cx) (pins : List (Addr × Obj)) (σ : St) (Q : List V → Hp → Prop) (us : List Value) (s' : Shared) : Prop := ∃ vs H', Inv X pins σ H' s' ∧ Vals vs us ∧ Q vs H'
def SP (X : Cx) (pins : List (Addr × Obj)) (D : Ends) (f : Flow) (s' : Shared) : Prop :=
  match f with
  | .next => ∃ σ' H', Inv X pins σ' H' s' ∧ D.nx σ' H'
  | .brk => ∃ σ' H', Inv X pins σ' H' s' ∧ D.bk σ' H'
  | .cont => ∃ σ' H', Inv X pins σ' H' s' ∧ D.ct σ' H'
  | .ret u => ∃ v σ' H', Inv X pins σ' H' s' ∧ RelV v u ∧ D.rt v H'
def PE (X : Cx) (e : Expr) (t : TE) : Prop :=
  ∀ (pins : List (Addr × Obj)) (s : Shared) (σ : St) (H : Hp) (Q : VK), Inv X pins σ H s → t σ H Q → wpAny (model X.prog X.w) X.A (eval e X.env) (EP X pins σ Q) X.xe s
def PT (X : Cx) (e : Expr) (t : TT) : Prop :=
  ∀ (pins : List (Addr × Obj)) (s : Shared) (σ : St) (H : Hp) (Q : Bool → Hp → Prop), Inv X pins σ H s → t σ H Q → wpAny (model X.prog X.w) X.A (isTrue e X.env (eval e X.env)) (TP X pins σ Q) X.xe s
def PW (X : Cx) (e : Expr) (t : TT) : Prop :=
  ∀ (whole : Sem Value) (pins : List (Addr × Obj)) (s : Shared) (σ : St) (H : Hp) (Q : Bool → Hp → Prop), Inv X pins σ H s → t σ H Q → wpAny (model X.prog X.w) X.A (isTrue e X.env whole) (TP X pins σ Q) X.xe s
theorem PW.pt {X : Cx} {e : Expr} {t : TT} (h : PW X e t) : PT X e t := h _
def PA (X : Cx) (es : List Expr) (t : TA) : Prop :=
  ∀ (pos : Pos) (pins : List (Addr × Obj)) (s : Shared) (σ : St) (H : Hp) (Q : List V → Hp → Prop), Inv X pins σ H s → t σ H Q → wpAny (model X.prog X.w) X.A (spliced (backTo pos (starEach es X.env))) (AP X pins σ Q) X.xe s
def PS (X : Cx) (st : Stmt) (t : TS) : Prop :=
  ∀ (pins : List (Addr × Obj)) (s : Shared) (σ : St) (H : Hp) (D : Ends), Inv X pins σ H s → t D σ H → wpAny (model X.prog X.w) X.A (exec st X.env) (SP X pins D) X.xe s
def PSs (X : Cx) (st : List Stmt) (t : TS) : Prop :=
  ∀ (pins : List (Addr × Obj)) (s : Shared) (σ : St) (H : Hp) (D : Ends), Inv X pins σ H s → t D σ H → wpAny (model X.prog X.w) X.A (execs st X.env) (SP X pins D) X.xe s
theorem thn {α : Type} {t : Sem α} {Q Q' : α → Shared → Prop} {M : Model} {A : Around} {E : Value → Shared → Prop} {s : Shared} (h : wpAny M A t Q E s) (hQ : ∀ a s, Q a s → Q' a s) : wpAny M A t Q' E s := wpAny_mono h hQ fun _ _ x => x
end L2
namespace L2
open PySem PySem.Spec PyProof.Rows
section
variable {X : Cx}
def tVar (i : Nat) : TE := fun σ H Q => ∃ v, σ[i]? = some (some v) ∧ Q v H
def tC (v : V) : TE := fun _ H Q => Q v H
theorem pe_var {i : Nat} {x : Str} {pos : Pos} (hN : X.N[i]? = some x) (hv : Vis X.env.scope x) (hd : (x == ("__debug__" : Str)) = false := by decide) (hcd : (x == ("__classdict__" : Str)) = false := by decide) : PE X (.Name x pos) (tVar i) := by
  intro pins s σ H Q I h
  obtain ⟨v, e, h⟩ := h
  obtain ⟨m, hn, hl⟩ := I.loc
  obtain ⟨u, r, l⟩ := hl i x v hN e hv
  have fin : EP X pins σ Q u s := ⟨v, H, I, r, h⟩
  rcases l with ⟨hk, hm⟩ | ⟨hk, c, hc, hcell⟩
  · exact wpAny_Name (wpAny_loadName_local I.ok.kind hk hn hm fin) hd
  · rcases hk with hk | hk
    · exact wpAny_Name (wpAny_loadName_cell I.ok.kind hk hc hcell fin) hd
    · exact wpAny_Name (wpAny_loadName_free I.ok.kind hk hc hcell fin hcd) hd
theorem pe_int {i j pos} : PE X (.Constant (.int i) j pos) (tC (.int i)) := fun _ _ _ H _ I h => wpAny_Constant_int ⟨.int i, H, I.tok _, ⟨_, rfl⟩, h⟩
theorem pe_bl {b j pos} : PE X (.Constant (.bool b) j pos) (tC (.bl b)) := fun _ _ _ H _ I h => Constant_bool ⟨.bl b, H, I, rfl, h⟩
theorem pe_non {j pos} : PE X (.Constant .none j pos) (tC .non) := fun _ _ _ H _ I h => Constant_none ⟨.non, H, I, rfl, h⟩
theorem pe_str {x j pos} : PE X (.Constant (.str x) j pos) (tC (.str x)) := fun _ _ _ H _ I h => Calls.Constant_str ⟨.str x, H, I.tok _, ⟨_, rfl⟩, h⟩
def Gl (X : Cx) (x : Str) : Prop := X.env.kindOf x = some .globalImplicit
theorem ld_glob {E : Value → Shared → Prop} {pins : List (Addr × Obj)} {s : Shared} {σ : St} {H : Hp} {x : Str} {u : Value} {pos : Pos} {Q : Value → Shared → Prop} (I : Inv X pins σ H s) (hg : Gl X x) (hm : X.mg x = some u) (h : Q u s)
    (hd : (x == ("__debug__" : Str)) = false := by decide) : wpAny (model X.prog X.w) X.A (eval (.Name x pos) X.env) Q E s :=
  Calls.Name_function_global I.ok.kind hg (Calls.loadGlobal_global (by rw [I.ok.glob]; exact I.mod.glob.keeps I.bk) hm h) hd
theorem ld_blt {E : Value → Shared → Prop} {pins : List (Addr × Obj)} {s : Shared} {σ : St} {H : Hp} {x : Str} {u : Value} {pos : Pos} {Q : Value → Shared → Prop} (I : Inv X pins σ H s) (hg : Gl X x) (hm : X.mg x = none) (hv : bootBuiltins x = some u) (h : Q u s)
    (hn : x ≠ "__name__" := by decide) (hd : (x == ("__debug__" : Str)) = false := by decide) : wpAny (model X.prog X.w) X.A (eval (.Name x pos) X.env) Q E s := by
  obtain ⟨mb, h1, h2⟩ := I.mod.blt
  exact Calls.Name_function_global I.ok.kind hg (Calls.loadGlobal_builtin (by rw [I.ok.glob]; exact I.mod.glob.keeps I.bk) hm (by rw [I.ok.blt]; exact h1.keeps I.bk) ((h2 x hn).trans hv) h) hd
theorem pe_glob {x : Str} {v : V} {u : Value} {pos : Pos} (hg : Gl X x) (hm : X.mg x = some u) (r : RelV v u) (hd : (x == ("__debug__" : Str)) = false := by decide) : PE X (.Name x pos) (tC v) :=
  fun _ _ _ H _ I h => ld_glob I hg hm ⟨v, H, I, r, h⟩ hd
theorem pe_bltn {x : Str} {v : V} {u : Value} {pos : Pos} (hg : Gl X x) (hm : X.mg x = none) (hv : bootBuiltins x = some u) (r : RelV v u) (hn : x ≠ "__name__" := by decide) (hd : (x == ("__debug__" : Str)) = false := by decide) : PE X (.Name x pos) (tC v) :=
  fun _ _ _ H _ I h => ld_blt I hg hm hv ⟨v, H, I, r, h⟩ hn hd
def t2I (ta tb : TE) (k : Int → Int → Hp → Prop) : St → Hp → Prop := fun σ H => ta σ H fun x H1 => tb σ H1 fun y H2 => ∃ i j, x = .int i ∧ y = .int j ∧ k i j H2
def tAdd (ta tb : TE) : TE := fun σ H Q => t2I ta tb (fun i j H2 => Q (.int (i + j)) H2) σ H
def tSub (ta tb : TE) : TE := fun σ H Q => t2I ta tb (fun i j H2 => Q (.int (i - j)) H2) σ H
def tMul (ta tb : TE) : TE := fun σ H Q => t2I ta tb (fun i j H2 => (-(2 ^ 64) < i ∧ i < 2 ^ 64) ∧ Q (.int (i * j)) H2) σ H
variable {a b : Expr} {ta tb : TE} {pos : Pos}
def PC (X : Cx) (op : CmpOp) (a b : Expr) (t : TE) : Prop :=
  ∀ (pins : List (Addr × Obj)) (s : Shared) (σ : St) (H : Hp) (Q : VK), Inv X pins σ H s → t σ H Q →
    wpAny (model X.prog X.w) X.A (eval a X.env) (fun v s₁ => wpAny (model X.prog X.w) X.A (eval b X.env) (fun u s₂ => wpAny (model X.prog X.w) X.A (compareOp op v u) (EP X pins σ Q) X.xe s₂) X.xe s₁) X.xe s
def tCmp (p : Int → Int → Bool) (ta tb : TE) : TE := fun σ H Q => t2I ta tb (fun i j H2 => Q (.bl (p i j)) H2) σ H
abbrev tLt : TE → TE → TE := tCmp fun i j => decide (i < j)
abbrev tLe : TE → TE → TE := tCmp fun i j => decide (i ≤ j)
abbrev tGt : TE → TE → TE := tCmp fun i j => decide (j < i)
abbrev tGe : TE → TE → TE := tCmp fun i j => decide (j ≤ i)
abbrev tEqI : TE → TE → TE := tCmp fun i j => decide (i = j)
abbrev tNeI : TE → TE → TE := tCmp fun i j => !decide (i = j)
def tIsN (ta : TE) : TE := fun σ H Q => ta σ H fun x H1 => Q (.bl (decide (x = .non))) H1
def tNotN (ta : TE) : TE := fun σ H Q => ta σ H fun x H1 => Q (.bl (!decide (x = .non))) H1
def tB (t : TE) : TT := fun σ H Q => t σ H fun x H1 => ∃ c, x = .bl c ∧ Q c H1
theorem pt_val {e : Expr} {t : TE} (h : PE X e t) (he : ∀ whole, isTrue e X.env whole = (do let v ← whole; standAt e.pos; holding [v] (truthy v)) := by intro _; rfl) : PT X e (tB t) := by
  intro pins s σ H Q I hw
  refine isTrue_plain (thn (h pins s σ H _ I hw) fun v s1 ⟨x, H1, I1, r1, q1⟩ => ?_) (he _)
  obtain ⟨d, rfl, q⟩ := q1
  cases r1
  exact wpAny_truthy_bool ⟨H1, I1, q⟩
variable {tA tB' : TT} {rest : List Expr}
def tAnd (t u : TT) : TT := fun σ H Q => t σ H fun c H1 => if c = true then u σ H1 Q else Q false H1
def tOr (t u : TT) : TT := fun σ H Q => t σ H fun c H1 => if c = true then Q true H1 else u σ H1 Q
def tNot (t : TT) : TT := fun σ H Q => t σ H fun c H1 => Q (!c) H1
theorem pw_and1 (ha : PT X a tA) : PW X (.BoolOp .And [a] pos) tA := by
  intro wh pins s σ H Q I h
  refine isTrue_and (thn (ha pins s σ H Q I h) fun c s1 e => ?_)
  cases c with
  | true => exact isTrue_and_nil e
  | false => exact e
theorem pw_or1 (ha : PT X a tA) : PW X (.BoolOp .Or [a] pos) tA := by
  intro wh pins s σ H Q I h
  refine isTrue_or (thn (ha pins s σ H Q I h) fun c s1 e => ?_)
  cases c with
  | false => exact isTrue_or_nil e
  | true => exact e
theorem pw_and (ha : PT X a tA) (hb : PW X (.BoolOp .And (b :: rest) pos) tB') : PW X (.BoolOp .And (a :: b :: rest) pos) (tAnd tA tB') := by
  intro wh pins s σ H Q I h
  refine isTrue_and (thn (ha pins s σ H _ I h) fun c s1 ⟨H1, I1, q1⟩ => ?_)
  cases c with
  | true => exact hb wh pins s1 σ H1 Q I1 q1
  | false => exact ⟨H1, I1, q1⟩
theorem pw_or (ha : PT X a tA) (hb : PW X (.BoolOp .Or (b :: rest) pos) tB') : PW X (.BoolOp .Or (a :: b :: rest) pos) (tOr tA tB') := by
  intro wh pins s σ H Q I h
  refine isTrue_or (thn (ha pins s σ H _ I h) fun c s1 ⟨H1, I1, q1⟩ => ?_)
  cases c with
  | true => exact ⟨H1, I1, q1⟩
  | false => exact hb wh pins s1 σ H1 Q I1 q1
theorem pt_not (ha : PT X a tA) : PT X (.UnaryOp .Not a pos) (tNot tA) := by
  intro pins s σ H Q I h
  exact isTrue_not (ha pins s σ H (fun c H1 => Q (!c) H1) I h)
def tAndV (ta tb : TE) : TE := fun σ H Q => ta σ H fun x H1 => ∃ c, x = .bl c ∧ if c = true then tb σ H1 Q else Q (.bl false) H1
def tOrV (ta tb : TE) : TE := fun σ H Q => ta σ H fun x H1 => ∃ c, x = .bl c ∧ if c = true then Q (.bl true) H1 else tb σ H1 Q
def tNotV (ta : TE) : TE := fun σ H Q => ta σ H fun x H1 => ∃ c, x = .bl c ∧ Q (.bl (!c)) H1
theorem pe_one {op} {t : TE} (h : PE X a t) : PE X (.BoolOp op [a] pos) t := fun pins s σ H Q I hw => BoolOp_one (h pins s σ H Q I hw)
theorem pe_and (ha : PE X a ta) (hb : PE X (.BoolOp .And (b :: rest) pos) tb) : PE X (.BoolOp .And (a :: b :: rest) pos) (tAndV ta tb) := by
  intro pins s σ H Q I h
  refine BoolOp_and (thn (ha pins s σ H _ I h) fun v s1 ⟨x, H1, I1, r1, q1⟩ => ?_)
  obtain ⟨c, rfl, q1⟩ := q1
  cases r1
  refine wpAny_truthy_bool ?_
  cases c with
  | true => exact hb pins s1 σ H1 Q I1 q1
  | false => exact ⟨.bl false, H1, I1, rfl, q1⟩
theorem pe_or (ha : PE X a ta) (hb : PE X (.BoolOp .Or (b :: rest) pos) tb) : PE X (.BoolOp .Or (a :: b :: rest) pos) (tOrV ta tb) := by
  intro pins s σ H Q I h
  refine BoolOp_or (thn (ha pins s σ H _ I h) fun v s1 ⟨x, H1, I1, r1, q1⟩ => ?_)
  obtain ⟨c, rfl, q1⟩ := q1
  cases r1
  refine wpAny_truthy_bool ?_
  cases c with
  | false => exact hb pins s1 σ H1 Q I1 q1
  | true => exact ⟨.bl true, H1, I1, rfl, q1⟩
theorem pe_not (ha : PE X a ta) : PE X (.UnaryOp .Not a pos) (tNotV ta) := by
  intro pins s σ H Q I h
  refine UnaryOp_ (thn (ha pins s σ H _ I h) fun v s1 ⟨x, H1, I1, r1, q1⟩ => ?_)
  obtain ⟨c, rfl, q1⟩ := q1
  cases r1
  exact not_of (wpAny_truthy_bool ⟨.bl (!c), H1, I1, rfl, q1⟩)
def tIf (t : TT) (ta tb : TE) : TE := fun σ H Q => t σ H fun c H1 => if c = true then ta σ H1 Q else tb σ H1 Q
theorem pe_ifExp {c : Expr} (hc : PT X c tA) (ha : PE X a ta) (hb : PE X b tb) : PE X (.IfExp c a b pos) (tIf tA ta tb) := by
  intro pins s σ H Q I h
  refine wpAny_IfExp (thn (hc pins s σ H _ I h) fun d s1 ⟨H1, I1, q1⟩ => ?_)
  cases d with
  | true => exact ha pins s1 σ H1 Q I1 q1
  | false => exact hb pins s1 σ H1 Q I1 q1
end
end L2
namespace L2
open PySem PySem.Spec PyProof.Rows
def SqL (K : PySem.W.Frag) (H : Hp) (a : Addr) (xs : List V) : Prop :=
  Rd H a (.lst xs) ∨
    ∃ (o : Obj) (its : Array Value) (n : Nat), K.lookup a = some o ∧ o.cls = .type "list" ∧ o.dict = none ∧ o.data = .seq its n ∧ its.size ≤ sizeLine ∧ Vals xs its.toList
def SqT (K : PySem.W.Frag) (H : Hp) (a : Addr) (xs : List V) : Prop :=
  Rd H a (.tup xs) ∨
    ∃ (o : Obj) (its : Array Value) (n : Nat), K.lookup a = some o ∧ o.cls = .type "tuple" ∧ o.data = .seq its n ∧ its.size ≤ sizeLine ∧ Vals xs its.toList
def absV : Value → Option V
  | .none => some .non
  | .bool b => some (.bl b)
  | .int i _ => some (.int i)
  | .str x _ => some (.str x)
  | .bytes b _ => some (.byt b)
  | .float b _ => some (.flt b)
  | .ref a => some (.ref a)
  | .type n => some (.ty n)
  | _ => none
theorem RelV.abs {x : V} {u : Value} (r : RelV x u) : absV u = some x := by
  cases x with
  | non => cases r; rfl
  | bl _ => cases r; rfl
  | int _ => obtain ⟨t, rfl⟩ := r; rfl
  | str _ => obtain ⟨t, rfl⟩ := r; rfl
  | byt _ => obtain ⟨t, rfl⟩ := r; rfl
  | flt _ => obtain ⟨t, rfl⟩ := r; rfl
  | ref _ => cases r; rfl
  | ty _ => cases r; rfl
theorem RelV.inj {x y : V} {u : Value} (r : RelV x u) (q : RelV y u) : x = y := Option.some.inj (r.abs.symm.trans q.abs)
theorem Vals.inj : ∀ {xs ys : List V} {us : List Value}, Vals xs us → Vals ys us → xs = ys
  | _, _, _, .nil, .nil => rfl
  | _, _, _, .cons r t, .cons r' t' => by rw [r.inj r', Vals.inj t t']
section
variable {X : Cx} {pins : List (Addr × Obj)} {σ : St} {H : Hp} {s : Shared} {a : Addr} {xs ys : List V}
theorem SqL.of {K : PySem.W.Frag} (h : H a = some (.lst xs)) : SqL K H a xs := .inl (.inl h)
theorem SqT.of {K : PySem.W.Frag} (h : H a = some (.tup xs)) : SqT K H a xs := .inl (.inl h)
theorem Inv.list (I : Inv X pins σ H s) (h : SqL X.K H a xs) : ∃ its : List Value, Vals xs its ∧ PlainL s.heap a its.toArray ∧ xs.length ≤ sizeLine := by
  rcases h with h | ⟨o, its, n, hk, hc, hd, hs, hz, r⟩
  · obtain ⟨z, its, n, r, e⟩ := h.ok I.hok
    exact ⟨its, r, ⟨_, n, e, rfl, rfl, rfl⟩, z⟩
  · refine ⟨its.toList, r, ⟨o, n, I.kIn a o hk, hc, hd, by simpa using hs⟩, ?_⟩
    have e := r.length
    simp only [Array.length_toList] at e
    omega
theorem Inv.tuple (I : Inv X pins σ H s) (h : SqT X.K H a xs) : ∃ its : List Value, Vals xs its ∧ IsTup s.heap a its.toArray ∧ xs.length ≤ sizeLine := by
  rcases h with h | ⟨o, its, n, hk, hc, hs, hz, r⟩
  · obtain ⟨z, its, r, p⟩ := h.ok I.hok
    exact ⟨its, r, p, z⟩
  · refine ⟨its.toList, r, ⟨o, I.kIn a o hk, hc, n, by simpa using hs⟩, ?_⟩
    have e := r.length
    simp only [Array.length_toList] at e
    omega
theorem Inv.list_inj (I : Inv X pins σ H s) (h : SqL X.K H a xs) (h' : SqL X.K H a ys) : xs = ys := by
  obtain ⟨its, r, ⟨o, n, e, _, _, d⟩, _⟩ := I.list h
  obtain ⟨its', r', ⟨o', n', e', _, _, d'⟩, _⟩ := I.list h'
  rw [e] at e'; cases e'
  rw [d] at d'
  injection d' with d1 _
  have : its = its' := by simpa using congrArg Array.toList d1
  subst this
  exact r.inj r'
theorem Inv.tuple_inj (I : Inv X pins σ H s) (h : SqT X.K H a xs) (h' : SqT X.K H a ys) : xs = ys := by
  obtain ⟨its, r, ⟨o, e, _, n, d⟩, _⟩ := I.tuple h
  obtain ⟨its', r', ⟨o', e', _, n', d'⟩, _⟩ := I.tuple h'
  rw [e] at e'; cases e'
  rw [d] at d'
  injection d' with d1 _
  have : its = its' := by simpa using congrArg Array.toList d1
  subst this
  exact r.inj r'
end
abbrev Cx.wish (X : Cx) (E : Value → Shared → Prop) : Cx := { X with xe := E }
abbrev Cx.nox (X : Cx) : Cx := X.wish fun _ _ => False
theorem Cx.Ok.wish {X : Cx} (ok : X.Ok) (E : Value → Shared → Prop) : (X.wish E).Ok :=
  ⟨ok.mod, ok.kind, ok.glob, ok.blt, ok.above, ok.inj, ok.has, ok.cab, ok.hd, ok.frames, ok.stk, ok.exf, ok.bs, ok.bsz, ok.noex, ok.exfs, ok.funs, ok.frf⟩
theorem Cx.Ok.unwish {X : Cx} {E : Value → Shared → Prop} (ok : (X.wish E).Ok) : X.Ok :=
  ⟨ok.mod, ok.kind, ok.glob, ok.blt, ok.above, ok.inj, ok.has, ok.cab, ok.hd, ok.frames, ok.stk, ok.exf, ok.bs, ok.bsz, ok.noex, ok.exfs, ok.funs, ok.frf⟩
section
variable {X : Cx} {pins : List (Addr × Obj)} {σ : St} {H : Hp} {s : Shared} {E : Value → Shared → Prop}
theorem Inv.wish (I : Inv X pins σ H s) (E : Value → Shared → Prop) : Inv (X.wish E) pins σ H s := ⟨I.ok.wish E, I.os, I.bare, I.base, I.loc, I.cell, I.free, I.freeC, I.pin, I.hok, I.len⟩
theorem Inv.unwish (I : Inv (X.wish E) pins σ H s) : Inv X pins σ H s := ⟨I.ok.unwish, I.os, I.bare, I.base, I.loc, I.cell, I.free, I.freeC, I.pin, I.hok, I.len⟩
theorem SP.unwish {D : Ends} {f : Flow} {s' : Shared} (h : SP (X.wish E) pins D f s') : SP X pins D f s' := by
  cases f with
  | next => obtain ⟨σ', H', I, q⟩ := h; exact ⟨σ', H', I.unwish, q⟩
  | brk => obtain ⟨σ', H', I, q⟩ := h; exact ⟨σ', H', I.unwish, q⟩
  | cont => obtain ⟨σ', H', I, q⟩ := h; exact ⟨σ', H', I.unwish, q⟩
  | ret u => obtain ⟨v, σ', H', I, r, q⟩ := h; exact ⟨v, σ', H', I.unwish, r, q⟩
theorem PSs.nox {st : List Stmt} {t : TS} (h : PSs X.nox st t) : PSs X st t := fun pins s σ H D I hw =>
  wpAny_mono (h pins s σ H D (I.wish _) hw) (fun _ _ q => q.unwish) fun _ _ z => False.elim z
end
section
variable {X : Cx} {st : Stmt} {rest : List Stmt} {t u : TS} {e : Expr} {te : TE} {pos : Pos}
def tNext : TS := fun D σ H => D.nx σ H
def tSeq (t u : TS) : TS := fun D σ H => t { D with nx := u D } σ H
theorem pss_nil : PSs X [] tNext := fun _ _ σ H _ I h => wpAny_execs_nil ⟨σ, H, I, h⟩
theorem pss_cons (h1 : PS X st t) (h2 : PSs X rest u) : PSs X (st :: rest) (tSeq t u) := by
  intro pins s σ H D I h
  refine wpAny_execs_cons (thn (h1 pins s σ H { D with nx := u D } I h) fun f s1 q => ?_)
  cases f with
  | next =>
    obtain ⟨σ', H', I', q⟩ := q
    exact h2 pins s1 σ' H' D I' q
  | ret v => exact q
  | brk => exact q
  | cont => exact q
theorem pss_one (h1 : PS X st t) : PSs X [st] t := by
  intro pins s σ H D I h
  refine wpAny_execs_cons (thn (h1 pins s σ H D I h) fun f s1 q => ?_)
  cases f with
  | next => exact wpAny_execs_nil q
  | ret v => exact q
  | brk => exact q
  | cont => exact q
def tBreak : TS := fun D σ H => D.bk σ H
def tCont : TS := fun D σ H => D.ct σ H
theorem ps_continue : PS X (.Continue pos) tCont := fun _ _ σ H _ I h => wpAny_Continue ⟨σ, H, I, h⟩
theorem Inv.quiet {pins : List (Addr × Obj)} {σ : St} {H : Hp} {s : Shared} (I : Inv X pins σ H s) : interactive X.env = false := by simp [interactive, I.ok.kind]
def tDrop (te : TE) : TS := fun D σ H => te σ H fun _ H1 => D.nx σ H1
theorem ps_expr (he : PE X e te) (hs : swapsWith e none pos.line X.env = pure false := by rfl) : PS X (.Expr e pos) (tDrop te) := by
  intro pins s σ H D I h
  exact wpAny_Expr_any (thn (he pins s σ H _ I h) fun v s1 ⟨x, H1, I1, r1, q1⟩ => ⟨σ, H1, I1, q1⟩) I.quiet hs
def tRet (te : TE) : TS := fun D σ H => te σ H D.rt
theorem ps_ret (he : PE X e te) : PS X (.Return (some e) pos) (tRet te) := by
  intro pins s σ H D I h
  exact wpAny_Return_some (thn (he pins s σ H _ I h) fun v s1 ⟨x, H1, I1, r1, q1⟩ => ⟨x, σ, H1, I1, r1, q1⟩)
def tRetN : TS := fun D _ H => D.rt .non H
def tIfS (c : TT) (t u : TS) : TS := fun D σ H => c σ H fun b H1 => if b = true then t D σ H1 else u D σ H1
theorem ps_if {c : Expr} {a b : List Stmt} {tc : TT} (hc : PT X c tc) (ha : PSs X a t) (hb : PSs X b u) : PS X (.If c a b pos) (tIfS tc t u) := by
  intro pins s σ H D I h
  refine wpAny_If (thn (hc pins s σ H _ I h) fun d s1 ⟨H1, I1, q1⟩ => ?_)
  cases d with
  | true => exact ha pins s1 σ H1 D I1 q1
  | false => exact hb pins s1 σ H1 D I1 q1
def tNever : TS := fun _ _ _ => False
theorem pss_never {sts : List Stmt} : PSs X sts tNever := fun _ _ _ _ _ _ h => h.elim
end
abbrev TG := V → St → Hp → (St → Hp → Prop) → Prop
abbrev TGs := List V → St → Hp → (St → Hp → Prop) → Prop
def PG (X : Cx) (target : Expr) (t : TG) : Prop :=
  ∀ (pins : List (Addr × Obj)) (s : Shared) (σ : St) (H : Hp) (v : V) (u : Value) (Q : St → Hp → Prop), Inv X pins σ H s → RelV v u → t v σ H Q →
    wpAny (model X.prog X.w) X.A (assign target X.env u) (fun _ s' => ∃ σ' H', Inv X pins σ' H' s' ∧ Q σ' H') X.xe s
def PGs (X : Cx) (ts : List Expr) (t : TGs) : Prop :=
  ∀ (pins : List (Addr × Obj)) (s : Shared) (σ : St) (H : Hp) (vs : List V) (us : List Value) (Q : St → Hp → Prop), Inv X pins σ H s → Vals vs us → t vs σ H Q →
    wpAny (model X.prog X.w) X.A (assignInOrder ((assignEach ts X.env).map (·.2)) us) (fun _ s' => ∃ σ' H', Inv X pins σ' H' s' ∧ Q σ' H') X.xe s
abbrev TSet := V → V → V → Hp → (Hp → Prop) → Prop
def PSet (X : Cx) (t : TSet) : Prop :=
  ∀ (pins : List (Addr × Obj)) (s : Shared) (σ : St) (H : Hp) (o i v : V) (ov iv u : Value) (Q : Hp → Prop), Inv X pins σ H s → RelV o ov → RelV i iv → RelV v u → t o i v H Q →
    wpAny (model X.prog X.w) X.A (setItem ov iv u) (fun _ s' => ∃ H', Inv X pins σ H' s' ∧ Q H') X.xe s
abbrev TIp := V → V → Hp → VK → Prop
def PIp (X : Cx) (op : Operator) (t : TIp) : Prop :=
  ∀ (pins : List (Addr × Obj)) (s : Shared) (σ : St) (H : Hp) (x y : V) (v u : Value) (Q : VK), Inv X pins σ H s → RelV x v → RelV y u → t x y H Q →
    wpAny (model X.prog X.w) X.A (inplaceOp op v u) (EP X pins σ Q) X.xe s
section
variable {X : Cx} {pos : Pos}
def gName (i : Nat) : TG := fun v σ H Q => Q (σ.set i (some v)) H
theorem pg_name {i : Nat} {x : Str} (hN : X.N.Nodup) (hi : X.N[i]? = some x) (hx : Loc X.env.scope x) (hf : X.fn x = true ∨ X.env.scope.names.lookup x = some .local := by first | exact .inl rfl | exact .inr rfl | assumption) : PG X (.Name x pos) (gName i) := by
  intro pins s σ H v u Q I r h
  exact wpAny_assign_Name (store_ok I hN hi hx r (fun s' I' => ⟨_, H, I', h⟩) hf)
def gNil : TGs := fun vs σ H Q => vs = [] ∧ Q σ H
def gCons (t : TG) (u : TGs) : TGs := fun vs σ H Q => ∃ v r, vs = v :: r ∧ t v σ H fun σ' H' => u r σ' H' Q
theorem pgs_nil : PGs X [] gNil := by
  intro pins s σ H vs us Q I r h
  obtain ⟨e, h⟩ := h
  subst e
  cases r
  exact assignInOrder_nil ⟨σ, H, I, h⟩
theorem pgs_cons {e : Expr} {es : List Expr} {t : TG} {u : TGs} (h1 : PG X e t) (h2 : PGs X es u)
    (hs : (assignEach (e :: es) X.env).map (·.2) = assign e X.env :: (assignEach es X.env).map (·.2) := by rfl) : PGs X (e :: es) (gCons t u) := by
  intro pins s σ H vs us Q I r h
  obtain ⟨v, vr, e1, h⟩ := h
  subst e1
  cases r with
  | cons r rr =>
    rw [hs]
    refine assignInOrder_cons (thn (h1 pins s σ H _ _ _ I r h) fun _ s1 ⟨σ1, H1, I1, q1⟩ => ?_)
    exact h2 pins s1 σ1 H1 _ _ Q I1 rr q1
def gTup (K : PySem.W.Frag) (n : Nat) (t : TGs) : TG := fun v σ H Q => ∃ a xs, v = .ref a ∧ SqT K H a xs ∧ xs.length = n ∧ t xs σ H Q
theorem pg_tup {es : List Expr} {k : Nat} {t : TGs} {n : Nat} (hc : X.calm = true) (h : PGs X es t)
    (hn : (assignEach es X.env).length = n := by rfl) (hst : (assignEach es X.env).findIdx? (·.1) = none := by rfl) : PG X (.Tuple es k pos) (gTup X.K n t) := by
  intro pins s σ H v u Q I r hw
  obtain ⟨a, xs, e1, hq, hl, hw⟩ := hw
  subst e1
  cases r
  obtain ⟨its, rv, ht, hz⟩ := I.tuple hq
  refine assign_Tuple_tuple (I.ok.hd hc) ht (by simp [hn, ← hl, rv.length]) hst fun h' hx => ?_
  have I1 : Inv X pins σ H { s with heap := h' } := I.kept (t' := s.toks) fun b o e => hx b o (Nat.ne_of_lt (Heap.lt_size e)) e
  exact h pins _ σ H xs _ Q I1 (by simpa using rv) hw
def gSub (to ti : TE) (t : TSet) : TG := fun v σ H Q => to σ H fun o H1 => ti σ H1 fun i H2 => t o i v H2 fun H3 => Q σ H3
theorem pg_sub {o i : Expr} {to ti : TE} {t : TSet} (ho : PE X o to) (hi : PE X i ti) (hs : PSet X t)
    (ha : ∀ v, assign (.Subscript o i pos) X.env v = (do
      let ov ← holding [v] (eval o X.env)
      let iv ← holding [v, ov] (eval i X.env)
      standAt pos
      holding [v, ov, iv] (setItem ov iv v)
      release [v, ov, iv] []) := by intro _; rfl) : PG X (.Subscript o i pos) (gSub to ti t) := by
  intro pins s σ H v u Q I r h
  rw [ha]
  refine wpAny_bind (wpAny_holding (thn (ho pins s σ H _ I h) fun ov s1 ⟨x, H1, I1, r1, q1⟩ => ?_))
  refine wpAny_bind (wpAny_holding (thn (hi pins s1 σ H1 _ I1 q1) fun iv s2 ⟨y, H2, I2, r2, q2⟩ => ?_))
  refine wpAny_bind (wpAny_standAt (wpAny_bind (wpAny_holding (thn (hs pins s2 σ H2 x y v ov iv u _ I2 r1 r2 r q2) fun _ s3 ⟨H3, I3, q3⟩ => ?_))))
  exact wpAny_release ⟨σ, H3, I3, q3⟩
def tAsg (te : TE) (g : TG) : TS := fun D σ H => te σ H fun x H1 => g x σ H1 D.nx
theorem ps_asg {tg e : Expr} {te : TE} {g : TG} (he : PE X e te) (hg : PG X tg g) (hs : swapsWithSole [tg] e pos.line X.env = pure false := by rfl) (hw : swappedStores [tg] e X.env = pure none := by rfl)
    (h1 : (assignEach [tg] X.env).map (·.2) = [assign tg X.env] := by rfl) : PS X (.Assign [tg] e pos) (tAsg te g) := by
  intro pins s σ H D I h
  refine wpAny_Assign_stores (thn (he pins s σ H _ I h) fun v s1 ⟨x, H1, I1, r1, q1⟩ => ?_) hs hw
  rw [h1]
  exact thn (hg pins s1 σ H1 x v _ I1 r1 q1) fun _ s2 q => q
theorem ps_set {i : Nat} {x : Str} {e : Expr} {te : TE} {pos' : Pos} (hN : X.N.Nodup) (hi : X.N[i]? = some x) (hx : Loc X.env.scope x) (he : PE X e te) (hs : swapsWith e (some (.Name x pos')) pos.line X.env = pure false := by rfl) (hf : X.fn x = true ∨ X.env.scope.names.lookup x = some .local := by first | exact .inl rfl | exact .inr rfl | assumption) :
    PS X (.Assign [.Name x pos'] e pos) (tAsg te (gName i)) := by
  intro pins s σ H D I h
  refine wpAny_Assign_Name (thn (he pins s σ H _ I h) fun v s1 ⟨y, H1, I1, r1, q1⟩ => ?_) hs
  exact store_ok I1 hN hi hx r1 (fun s2 I2 => ⟨_, H1, I2, q1⟩) hf
def tPar (i j : Nat) (ta : TA) : TS := fun D σ H => ta σ H fun vs H1 => ∃ v w, vs = [v, w] ∧ D.nx ((σ.set i (some v)).set j (some w)) H1
theorem ps_par {i j : Nat} {x y : Str} {a b : Expr} {ta : TA} {px py pt : Pos} {kt k2 pt2} (hc : X.calm = true) (hN : X.N.Nodup) (hi : X.N[i]? = some x) (hj : X.N[j]? = some y) (hij : i ≠ j)
    (hx : X.env.scope.names.lookup x = some .local) (hy : X.env.scope.names.lookup y = some .local) (ha : PA X [a, b] ta)
    (hw : swappedStores [.Tuple [.Name x px, .Name y py] kt pt] (.Tuple [a, b] k2 pt2) X.env = pure (some [x, y]))
    (hs : swapsWithSole [.Tuple [.Name x px, .Name y py] kt pt] (.Tuple [a, b] k2 pt2) pos.line X.env = pure false := by rfl) :
    PS X (.Assign [.Tuple [.Name x px, .Name y py] kt pt] (.Tuple [a, b] k2 pt2) pos) (tPar i j ta) := by
  intro pins s σ H D I h
  rw [exec_Assign_arm]
  refine wpAny_bind (wpAny_standAt ?_)
  rw [hs]
  refine wpAny_bind (wpAny_pure ?_)
  rw [if_neg (by decide)]
  refine wpAny_bind (Tuple_ (thn (ha _ pins s σ H _ I h) fun us s1 ⟨vs, H1, I1, r1, q1⟩ => ?_))
  obtain ⟨v, w, e1, q1⟩ := q1
  subst e1
  obtain ⟨u1, u2, rfl, rv, rw'⟩ : ∃ u1 u2, us = [u1, u2] ∧ RelV v u1 ∧ RelV w u2 := by
    cases r1 with
    | cons p q =>
      cases q with
      | cons p' q' =>
        cases q'
        exact ⟨_, _, rfl, p, p'⟩
  refine wpAny_newObj_type ?_ (by show 2 ≤ sizeLine; decide)
  have I2 : Inv X pins σ H1 { s1 with heap := s1.heap.push { cls := .type "tuple", data := .seq [u1, u2].toArray } } := I1.kept (t' := s1.toks) fun b o e => Heap.get?_push_of_some _ e
  rw [hw]
  refine wpAny_bind (wpAny_pure ?_)
  show wpAny (model X.prog X.w) X.A (do rule "assign.swapped-stores"; let items ← unpackItems (.ref s1.heap.objs.size) 2 none; assignInOrder [fun v => bindName X.env y v, fun v => bindName X.env x v] items.reverse; pure Flow.next) _ _ _
  refine wpAny_bind (wpAny_rule (wpAny_bind (unpackItems_tuple (items := #[u1, u2]) (I.ok.hd hc) (IsTup.new s1.heap _) fun h' hx' => ?_)))
  have I3 := I2.kept (h' := h') (t' := s1.toks) fun b o e => hx' b o (Nat.ne_of_lt (Heap.lt_size e)) e
  show wpAny _ _ (assignInOrder [fun v => bindName X.env y v, fun v => bindName X.env x v] [u2, u1] >>= fun _ => pure Flow.next) _ _ _
  refine wpAny_bind (assignInOrder_cons (wpAny_bindName (store_ok I3 hN hj (.inl hy) rw' (fun s2 I4 => ?_) (.inr hy))))
  refine assignInOrder_cons (wpAny_bindName (store_ok I4 hN hi (.inl hx) rv (fun s3 I5 => assignInOrder_nil (wpAny_pure ?_)) (.inr hx)))
  rw [List.set_comm _ _ (Ne.symm hij)] at I5
  exact ⟨_, H1, I5, q1⟩
def tAug (i : Nat) (te : TE) (ti : TIp) : TS := fun D σ H => ∃ x, σ[i]? = some (some x) ∧ te σ H fun y H1 => ti x y H1 fun z H2 => D.nx (σ.set i (some z)) H2
def tAugS (to ti te : TE) (tget : V → V → Hp → VK → Prop) (tip : TIp) (tset : TSet) : TS := fun D σ H => to σ H fun o H1 => ti σ H1 fun i H2 => tget o i H2 fun x H3 => te σ H3 fun y H4 => tip x y H4 fun z H5 => tset o i z H5 fun H6 => D.nx σ H6
def PGet (X : Cx) (t : V → V → Hp → VK → Prop) : Prop :=
  ∀ (pins : List (Addr × Obj)) (s : Shared) (σ : St) (H : Hp) (o i : V) (ov iv : Value) (Q : VK), Inv X pins σ H s → RelV o ov → RelV i iv → t o i H Q →
    wpAny (model X.prog X.w) X.A (getItem ov iv) (EP X pins σ Q) X.xe s
def ipI (f : Int → Int → Int) : TIp := fun x y H Q => ∃ i j, x = .int i ∧ y = .int j ∧ Q (.int (f i j)) H
end
section
variable {X : Cx} {pos : Pos}
def tWhile (c : TT) (tb : TS) : TS := fun D σ H => ∃ W : Nat → St → Hp → Prop, (∃ m, W m σ H) ∧ ∀ m σ H, W m σ H →
  c σ H fun b H1 => if b = true then ∃ N : St → Hp → Prop, (∀ σ' H', N σ' H' → ∃ m', m' < m ∧ W m' σ' H') ∧ tb { D with nx := N, ct := N, bk := D.nx } σ H1 else D.nx σ H1
end
structure It where
  go : Nat → Hp → Prop
  yld : Nat → Hp → V → Hp → Prop
  stop : Nat → Hp → Prop
def FpOk (X : Cx) (pins : List (Addr × Obj)) (H : Hp) (b : Addr) : Prop :=
  H b = none ∧ b ≠ X.env.locals ∧ b ∉ X.fs ∧ (b ∈ X.ex ∨ X.s₀.heap.objs.size ≤ b) ∧ (∀ x c, X.env.cells.lookup x = some c → c ≠ b) ∧ ∀ p ∈ X.pn ++ pins, p.1 ≠ b
theorem Inv.fpOk {X : Cx} {pins : List (Addr × Obj)} {σ : St} {H H' : Hp} {s : Shared} {b : Addr} (I : Inv X pins σ H s) (hb : s.heap.objs.size ≤ b) (hn : H' b = none) : FpOk X pins H' b := by
  refine ⟨hn, Nat.ne_of_gt (Nat.lt_of_lt_of_le I.lt hb), I.nofs hb, .inr (Nat.le_trans I.sz hb), fun x c e z => ?_, fun p hp z => ?_⟩
  · obtain ⟨v, q⟩ := I.cell x c e
    exact absurd (Nat.lt_of_lt_of_le q.lt (by rw [z]; exact hb)) (Nat.lt_irrefl _)
  · exact absurd (Nat.lt_of_lt_of_le (Heap.lt_size (I.pin p hp).1) (by rw [z]; exact hb)) (Nat.lt_irrefl _)
structure Turn (P : Program) (w : World) (K : PySem.W.Frag) (tg : Expr) (J : It) (fp : List Addr) (it : Addr) (tn : Nat → Heap → Prop) : Prop where
  mem : it ∈ fp
  obj : ∀ i h, tn i h → ∀ b ∈ fp, ∃ o, h.get? b = some o ∧ ∀ v, o.data ≠ .cell v
  keep : ∀ i h h', tn i h → (∀ b ∈ fp, ∀ o, h.get? b = some o → h'.get? b = some o) → tn i h'
  item : ∀ (X : Cx), X.prog = P → X.w = w → X.K = K → X.calm = true → ∀ (i : Nat) (pins : List (Addr × Obj)) (s : Shared) (σ : St) (H : Hp) (E : Value → Shared → Prop), Inv X pins σ H s → (∀ b ∈ fp, FpOk X pins H b) → tn i s.heap → J.go i H →
    wpAny (model P w) X.A (pyNext (.ref it)) (fun r s1 => ∃ u, r = some u ∧
      wpAny (model P w) X.A (letOwnedTupleGo tg (.ref it) u) (fun _ s2 => ∃ x H', Inv X pins σ H' s2 ∧ RelV x u ∧ J.yld i H x H' ∧ tn (i + 1) s2.heap ∧ ∀ b ∈ fp, H' b = none) E s1) E s
  done : ∀ (X : Cx), X.prog = P → X.w = w → X.K = K → X.calm = true → ∀ (i : Nat) (pins : List (Addr × Obj)) (s : Shared) (σ : St) (H : Hp) (E : Value → Shared → Prop), Inv X pins σ H s → (∀ b ∈ fp, FpOk X pins H b) → tn i s.heap → J.stop i H →
    wpAny (model P w) X.A (pyNext (.ref it)) (fun r s1 => r = none ∧ Inv X pins σ H s1) E s
  self : ∀ (A : Around) (i : Nat) (s : Shared) (Q : Value → Shared → Prop) (E : Value → Shared → Prop), tn i s.heap → Q (.ref it) s → wpAny (model P w) A (pyIter (.ref it)) Q E s
abbrev TI := St → Hp → (It → Hp → Prop) → Prop
def PIE (X : Cx) (pins : List (Addr × Obj)) (σ : St) (tg : Expr) (R : It → Hp → Prop) (itv : Value) (s2 : Shared) : Prop :=
  ∃ (it : Addr) (fp : List Addr) (tn : Nat → Heap → Prop) (J : It) (H' : Hp), itv = .ref it ∧ Inv X pins σ H' s2 ∧ Turn X.prog X.w X.K tg J fp it tn ∧ tn 0 s2.heap ∧ (∀ b ∈ fp, FpOk X pins H' b) ∧ R J H'
def PI (X : Cx) (tg iter : Expr) (wi : TI) : Prop :=
  ∀ (pins : List (Addr × Obj)) (s : Shared) (σ : St) (H : Hp) (R : It → Hp → Prop), Inv X pins σ H s → wi σ H R →
    wpAny (model X.prog X.w) X.A (eval iter X.env) (fun v s1 => wpAny (model X.prog X.w) X.A (pyIter v) (PIE X pins σ tg R) X.xe s1) X.xe s
theorem go_of {M : Model} {A : Around} {E : Value → Shared → Prop} {s : Shared} {tg : Expr} {it : Addr} {u : Value} {o : Obj} {n : String} {vs : Array Value} {Q : Unit → Shared → Prop} (ho : s.heap.get? it = some o) (hc : o.cls = .type n) (hd : o.data = .fields vs)
    (hn : ["enumerate", "zip", "dict_itemiterator", "dict_reverseitemiterator", "odict_iterator", "itertools.zip_longest", "itertools.pairwise"].contains n = false) (hQ : Q () s) : wpAny M A (letOwnedTupleGo tg (.ref it) u) Q E s := by
  unfold letOwnedTupleGo
  cases tg <;> first
    | exact wpAny_pure hQ
    | (cases u <;> first
        | exact wpAny_pure hQ
        | (refine wpAny_bind (wpAny_load ho ?_)
           rw [hc, hd]
           show wpAny M A (if (["enumerate", "zip", "dict_itemiterator", "dict_reverseitemiterator", "odict_iterator", "itertools.zip_longest", "itertools.pairwise"].contains n && vs[0]? == some (rawInt _)) = true then _ else _) Q E s
           rw [if_neg (by intro h; rw [hn, Bool.false_and] at h; cases h)]
           exact wpAny_pure hQ))
def Itl (K : PySem.W.Frag) (a : Addr) : It :=
  ⟨fun i H => ∃ xs x, SqL K H a xs ∧ xs[i]? = some x, fun i H x H' => H' = H ∧ ∀ xs, SqL K H a xs → xs[i]? = some x, fun i H => ∃ xs, SqL K H a xs ∧ xs.length ≤ i⟩
def Itt (K : PySem.W.Frag) (a : Addr) : It :=
  ⟨fun i H => ∃ xs x, SqT K H a xs ∧ xs[i]? = some x, fun i H x H' => H' = H ∧ ∀ xs, SqT K H a xs → xs[i]? = some x, fun i H => ∃ xs, SqT K H a xs ∧ xs.length ≤ i⟩
def Itr (lo : Int) (n : Nat) : It := ⟨fun i _ => i < n, fun i H x H' => H' = H ∧ x = .int (lo + i), fun i _ => n ≤ i⟩
theorem turn_list {P : Program} {w : World} {K : PySem.W.Frag} {tg : Expr} (a it : Addr) : Turn P w K tg (Itl K a) [it] it (fun i h => h.IsListIter it a i) where
  mem := by simp
  obj := fun i h st b hb => by
    have e : b = it := by simpa using hb
    subst e
    obtain ⟨o, e, c, d⟩ := st
    exact ⟨o, e, fun v z => by rw [d] at z; cases z⟩
  keep := fun i h h' st k => st.at fun o e => k it (by simp) o e
  item := by
    intro X hP hw hK hc i pins s σ H E I hf st hg
    subst hP hw hK
    obtain ⟨xs, x, hq, hx⟩ := hg
    obtain ⟨its, rv, p, hz⟩ := I.list hq
    obtain ⟨u, hu, ru⟩ := rv.get hx
    obtain ⟨f0, f1, f2, f3, f4, f5⟩ := hf it (by simp)
    refine wpAny_pyNext_list_item st p.isList (x := u) (by simpa using hu) fun h' st' sb => ?_
    have I1 : Inv X pins σ H { s with heap := h' } := I.turned (t' := s.toks) (fun b o hb e => (sb.2 b hb).trans e) f0 f1 f3 f4 f5
    obtain ⟨o, e, c, d⟩ := id st'
    exact ⟨u, rfl, go_of (s := { s with heap := h' }) e c d (by decide) ⟨x, H, I1, ru, ⟨rfl, fun ys hy => by rw [I.list_inj hy hq]; exact hx⟩, st', fun b hb => (hf b hb).1⟩⟩
  done := by
    intro X hP hw hK hc i pins s σ H E I hf st hg
    subst hP hw hK
    obtain ⟨xs, hq, hx⟩ := hg
    obtain ⟨its, rv, p, hz⟩ := I.list hq
    obtain ⟨f0, f1, f2, f3, f4, f5⟩ := hf it (by simp)
    have hl := rv.length
    exact wpAny_pyNext_list_end (I.ok.hd hc) st p.isList (by simp; omega) fun h' eb => ⟨rfl, I.turned (t' := s.toks) (fun b o hb e => eb b o hb e) f0 f1 f3 f4 f5⟩
  self := fun _ _ _ _ _ st h => wpAny_pyIter_listiter st h
theorem turn_tuple {P : Program} {w : World} {K : PySem.W.Frag} {tg : Expr} (a it : Addr) : Turn P w K tg (Itt K a) [it] it (fun i h => h.IsTupleIter it a i) where
  mem := by simp
  obj := fun i h st b hb => by
    have e : b = it := by simpa using hb
    subst e
    obtain ⟨o, e, c, d⟩ := st
    exact ⟨o, e, fun v z => by rw [d] at z; cases z⟩
  keep := fun i h h' st k => st.at fun o e => k it (by simp) o e
  item := by
    intro X hP hw hK hc i pins s σ H E I hf st hg
    subst hP hw hK
    obtain ⟨xs, x, hq, hx⟩ := hg
    obtain ⟨its, rv, p, hz⟩ := I.tuple hq
    obtain ⟨u, hu, ru⟩ := rv.get hx
    obtain ⟨f0, f1, f2, f3, f4, f5⟩ := hf it (by simp)
    refine wpAny_pyNext_tuple_item st (show s.heap.IsTuple a its.toArray from p) (x := u) (by simpa using hu) fun h' st' sb => ?_
    have I1 : Inv X pins σ H { s with heap := h' } := I.turned (t' := s.toks) (fun b o hb e => (sb.2 b hb).trans e) f0 f1 f3 f4 f5
    obtain ⟨o, e, c, d⟩ := id st'
    exact ⟨u, rfl, go_of (s := { s with heap := h' }) e c d (by decide) ⟨x, H, I1, ru, ⟨rfl, fun ys hy => by rw [I.tuple_inj hy hq]; exact hx⟩, st', fun b hb => (hf b hb).1⟩⟩
  done := by
    intro X hP hw hK hc i pins s σ H E I hf st hg
    subst hP hw hK
    obtain ⟨xs, hq, hx⟩ := hg
    obtain ⟨its, rv, p, hz⟩ := I.tuple hq
    obtain ⟨f0, f1, f2, f3, f4, f5⟩ := hf it (by simp)
    have hl := rv.length
    exact wpAny_pyNext_tuple_end (I.ok.hd hc) st (show s.heap.IsTuple a its.toArray from p) (by simp; omega) fun h' eb => ⟨rfl, I.turned (t' := s.toks) (fun b o hb e => eb b o hb e) f0 f1 f3 f4 f5⟩
  self := fun _ _ _ _ _ st h => wpAny_pyIter_tupleiter st h
theorem turn_range {P : Program} {w : World} {K : PySem.W.Frag} {tg : Expr} (it : Addr) (lo : Int) (n : Nat) : Turn P w K tg (Itr lo n) [it] it (fun i h => IsRangeIter h it (lo + (i : Nat) * 1) ((n : Int) - (i : Nat)) 1) where
  mem := by simp
  obj := fun i h st b hb => by
    have e : b = it := by simpa using hb
    subst e
    exact ⟨_, st, fun v z => by
      have z' : Data.fields _ = Data.cell v := z
      cases z'⟩
  keep := fun i h h' st k => k it (by simp) _ st
  item := by
    intro X hP hw hK hc i pins s σ H E I hf st hg
    subst hP hw hK
    obtain ⟨f0, f1, f2, f3, f4, f5⟩ := hf it (by simp)
    have W := Walks.range (prog := X.prog) (w := X.w) (I.ok.hd hc) it lo 1 n
    refine W.item i s _ _ hg st fun v h' tk hv st' kk => ?_
    obtain ⟨t, rfl⟩ := hv
    have I1 : Inv X pins σ H { s with heap := h', toks := tk } := I.turned (fun b o hb e => kk b o (by simpa using hb) e) f0 f1 f3 f4 f5
    refine ⟨_, rfl, go_of (s := { s with heap := h', toks := tk }) (n := "range_iterator") st' rfl rfl (by decide) ⟨.int (lo + i), H, I1, ⟨t, ?_⟩, ⟨rfl, rfl⟩, st', fun b hb => (hf b hb).1⟩⟩
    rw [Int.mul_one]
  done := by
    intro X hP hw hK hc i pins s σ H E I hf st hg
    subst hP hw hK
    obtain ⟨f0, f1, f2, f3, f4, f5⟩ := hf it (by simp)
    exact wpAny_pyNext_range_end (I.ok.hd hc) st (by have : n ≤ i := hg; omega) fun h' eb => ⟨rfl, I.turned (t' := s.toks) (fun b o hb e => eb b o hb e) f0 f1 f3 f4 f5⟩
  self := fun _ _ _ _ _ st h => wpAny_pyIter_rangeiter st h
end L2
namespace L2
open PySem PySem.Spec PyProof.Rows
section
variable {X : Cx} {tg : Expr}
def iList (K : PySem.W.Frag) (tl : TE) : TI := fun σ H R => tl σ H fun x H1 => ∃ a, x = .ref a ∧ (∃ xs, SqL K H1 a xs) ∧ R (Itl K a) H1
def iTup (K : PySem.W.Frag) (tl : TE) : TI := fun σ H R => tl σ H fun x H1 => ∃ a, x = .ref a ∧ (∃ xs, SqT K H1 a xs) ∧ R (Itt K a) H1
theorem pi_list {l : Expr} {tl : TE} (hl : PE X l tl) : PI X tg l (iList X.K tl) := by
  intro pins s σ H R I h
  refine thn (hl pins s σ H _ I h) fun v s1 ⟨x, H1, I1, r1, q1⟩ => ?_
  obtain ⟨a, e, ⟨xs, hq⟩, q⟩ := q1
  subst e
  cases r1
  obtain ⟨its, rv, p, hz⟩ := I1.list hq
  refine wpAny_pyIter_list p.isList ?_
  refine ⟨s1.heap.objs.size, [s1.heap.objs.size], _, _, H1, rfl, I1.kept (t' := s1.toks) fun b o e => Heap.get?_push_of_some _ e, turn_list a _, ⟨_, Heap.get?_push_size _ rfl, rfl, rfl⟩, fun b hb => ?_, q⟩
  have e : b = s1.heap.objs.size := by simpa using hb
  subst e
  exact I1.fpOk (Nat.le_refl _) (I1.hok.fresh (Nat.le_refl _))
theorem pi_tup {l : Expr} {tl : TE} (hl : PE X l tl) : PI X tg l (iTup X.K tl) := by
  intro pins s σ H R I h
  refine thn (hl pins s σ H _ I h) fun v s1 ⟨x, H1, I1, r1, q1⟩ => ?_
  obtain ⟨a, e, ⟨xs, hq⟩, q⟩ := q1
  subst e
  cases r1
  obtain ⟨its, rv, p, hz⟩ := I1.tuple hq
  refine wpAny_pyIter_tuple (show s1.heap.IsTuple a its.toArray from p) ?_
  refine ⟨s1.heap.objs.size, [s1.heap.objs.size], _, _, H1, rfl, I1.kept (t' := s1.toks) fun b o e => Heap.get?_push_of_some _ e, turn_tuple a _, ⟨_, Heap.get?_push_size _ rfl, rfl, rfl⟩, fun b hb => ?_, q⟩
  have e : b = s1.heap.objs.size := by simpa using hb
  subst e
  exact I1.fpOk (Nat.le_refl _) (I1.hok.fresh (Nat.le_refl _))
theorem range_it {pins : List (Addr × Obj)} {σ : St} {H : Hp} {s : Shared} {R : It → Hp → Prop} {E : Value → Shared → Prop} {lo hi : Int} {t u v : Tok} {tk : Nat} (I : Inv X pins σ H s) (h1 : -(2 ^ 62) ≤ lo) (h2 : lo < 2 ^ 62) (h3 : -(2 ^ 62) ≤ hi) (h4 : hi < 2 ^ 62)
    (q : R (Itr lo (hi - lo).toNat) H) : wpAny (model X.prog X.w) X.A (pyIter (.ref s.heap.objs.size)) (PIE X pins σ tg R) E { s with heap := s.heap.push { cls := .type "range", data := .fields #[.int lo t, .int hi u, .int 1 v] }, toks := tk } := by
  refine wpAny_pyIter_range (IsRange.new ..) (small_one h1 h2 h3 h4) ?_
  have I1 : Inv X pins σ H { s with heap := s.heap.push { cls := .type "range", data := .fields #[.int lo t, .int hi u, .int 1 v] }, toks := tk } := I.kept fun b o e => Heap.get?_push_of_some _ e
  refine ⟨(s.heap.push { cls := .type "range", data := .fields #[.int lo t, .int hi u, .int 1 v] }).objs.size, [(s.heap.push { cls := .type "range", data := .fields #[.int lo t, .int hi u, .int 1 v] }).objs.size], _, _, H, rfl,
    I1.kept (t' := tk) fun b o e => Heap.get?_push_of_some _ e, turn_range _ lo (hi - lo).toNat, ?_, fun b hb => ?_, q⟩
  · have e1 : lo + ((0 : Nat) : Int) * 1 = lo := by simp
    have e2 : (((hi - lo).toNat : Nat) : Int) - ((0 : Nat) : Int) = Builtin.Range.rangeSize lo hi 1 := by rw [rangeSize_one]; split <;> omega
    show IsRangeIter _ _ (lo + ((0 : Nat) : Int) * 1) ((((hi - lo).toNat : Nat) : Int) - ((0 : Nat) : Int)) 1
    rw [e1, e2]
    exact Heap.get?_push_size _ rfl
  · have e : b = (s.heap.push { cls := .type "range", data := .fields #[.int lo t, .int hi u, .int 1 v] }).objs.size := by simpa using hb
    subst e
    exact I1.fpOk (Nat.le_refl _) (I1.hok.fresh (Nat.le_refl _))
def iRng1 (ta : TA) : TI := fun σ H R => ta σ H fun vs H1 => ∃ j : Int, vs = [.int j] ∧ -(2 ^ 62) ≤ j ∧ j < 2 ^ 62 ∧ R (Itr 0 j.toNat) H1
def iRng2 (ta : TA) : TI := fun σ H R => ta σ H fun vs H1 => ∃ i j : Int, vs = [.int i, .int j] ∧ (-(2 ^ 62) ≤ i ∧ i < 2 ^ 62 ∧ -(2 ^ 62) ≤ j ∧ j < 2 ^ 62) ∧ R (Itr i (j - i).toNat) H1
theorem pi_range1 {a : Expr} {ta : TA} {p pos : Pos} (hg : Gl X "range") (hm : X.mg "range" = none) (ha : PA X [a] ta) (hs : starEach [a] X.env = [(false, eval a X.env)] := by rfl) : PI X tg (.Call (.Name "range" p) [a] [] pos) (iRng1 ta) := by
  intro pins s σ H R I h
  refine Call_ (ld_blt I hg hm boot_range (PyProof.Rows.callWith_type1 (thn (ha pos pins s σ H _ I h) fun us s1 ⟨vs, H1, I1, r1, q1⟩ => ?_) hs rfl))
  obtain ⟨j, e, q1, q2, q⟩ := q1
  subst e
  cases r1 with
  | cons r rr =>
    cases rr
    obtain ⟨t, rfl⟩ := r
    exact call_range_1 (range_it I1 (by omega) (by omega) q1 q2 (by simpa using q))
theorem pi_range2 {a b : Expr} {ta : TA} {p pos : Pos} (hg : Gl X "range") (hm : X.mg "range" = none) (ha : PA X [a, b] ta) (hs : starEach [a, b] X.env = [(false, eval a X.env), (false, eval b X.env)] := by rfl) (hs2 : starEach [b] X.env = [(false, eval b X.env)] := by rfl) :
    PI X tg (.Call (.Name "range" p) [a, b] [] pos) (iRng2 ta) := by
  intro pins s σ H R I h
  refine Call_ (ld_blt I hg hm boot_range (PyProof.Rows.callWith_type1 (thn (ha pos pins s σ H _ I h) fun us s1 ⟨vs, H1, I1, r1, q1⟩ => ?_) (by rw [hs, hs2]) (by rw [hs2]; rfl)))
  obtain ⟨i, j, e, ⟨q1, q2, q3, q4⟩, q⟩ := q1
  subst e
  cases r1 with
  | cons r rr =>
    cases rr with
    | cons r' rr =>
      cases rr
      obtain ⟨t, rfl⟩ := r
      obtain ⟨t', rfl⟩ := r'
      exact call_range_2 (range_it I1 q1 q2 q3 q4 q)
def tFor (wi : TI) (g : TG) (tb : TS) : TS := fun D σ H => wi σ H fun J H1 => ∃ W : Nat → Nat → St → Hp → Prop, (∃ m, W 0 m σ H1) ∧ ∀ i m σ H, W i m σ H →
  (J.stop i H ∧ D.nx σ H) ∨ (J.go i H ∧ ∃ N : St → Hp → Prop, (∀ σ' H', N σ' H' → ∃ m', m' < m ∧ W (i + 1) m' σ' H') ∧ ∀ x H', J.yld i H x H' → g x σ H' fun σ2 H2 => tb { D with nx := N, ct := N, bk := D.nx } σ2 H2)
def pinsAt (fp : List Addr) (h : Heap) : List (Addr × Obj) := fp.filterMap fun b => (h.get? b).map fun o => (b, o)
theorem mem_pinsAt {fp : List Addr} {h : Heap} {b : Addr} {o : Obj} (hb : b ∈ fp) (e : h.get? b = some o) : (b, o) ∈ pinsAt fp h := List.mem_filterMap.mpr ⟨b, hb, by rw [e]; rfl⟩
theorem of_pinsAt {fp : List Addr} {h : Heap} {p : Addr × Obj} (hp : p ∈ pinsAt fp h) : p.1 ∈ fp ∧ h.get? p.1 = some p.2 := by
  obtain ⟨b, hb, e⟩ := List.mem_filterMap.mp hp
  cases q : h.get? b with
  | none => rw [q] at e; cases e
  | some o =>
    rw [q] at e
    have e' : (b, o) = p := Option.some.inj e
    subst e'
    exact ⟨hb, q⟩
theorem Inv.pinned {pins : List (Addr × Obj)} {σ : St} {H : Hp} {s : Shared} {fp : List Addr} (I : Inv X pins σ H s) (hf : ∀ b ∈ fp, FpOk X pins H b) (ho : ∀ b ∈ fp, ∃ o, s.heap.get? b = some o ∧ ∀ v, o.data ≠ .cell v) : Inv X (pins ++ pinsAt fp s.heap) σ H s :=
  I.pins_of fun p hp => (List.mem_append.mp hp).elim (fun z => I.pin p (List.mem_append_right _ z)) fun z => by
    obtain ⟨hb, e⟩ := of_pinsAt z
    obtain ⟨f0, f1, f2, _⟩ := hf p.1 hb
    obtain ⟨o, e', d⟩ := ho p.1 hb
    rw [e] at e'; cases e'
    exact ⟨e, f0, f1, f2, d⟩
theorem Inv.unpinned {pins pl : List (Addr × Obj)} {σ : St} {H : Hp} {s : Shared} (I : Inv X (pins ++ pl) σ H s) : Inv X pins σ H s := I.pins_of fun p hp => I.pin p (List.mem_append_right _ (List.mem_append_left _ hp))
theorem ps_for {iter : Expr} {body : List Stmt} {wi : TI} {g : TG} {tb : TS} {pos : Pos} (hp : PassesOwn (model X.prog X.w) X.A X.env X.xe) (hc : X.calm = true) (hi : PI X tg iter wi) (hg : PG X tg g) (hb : PSs X body tb)
    (hs : ∀ x, foldedSetIterable iter X.env x = pure x := by intro _; rfl) : PS X (.For tg iter body [] pos) (tFor wi g tb) := by
  intro pins s σ H D I h
  refine wpAny_For (thn (hi pins s σ H _ I h) fun v s1 h1 => thn h1 fun itv s2 h2 => ?_) hs
  obtain ⟨it, fp, tn, J, H2, e, I2, T, st2, f2, W, ⟨m0, w0⟩, turn⟩ := h2
  subst e
  have stat : ∀ {H' : Hp}, (∀ b ∈ fp, H' b = none) → ∀ b ∈ fp, FpOk X pins H' b := fun hn b hb => ⟨hn b hb, (f2 b hb).2⟩
  refine codeAny_forLoop_any (fun n s' => ∃ i σ' H', Inv X pins σ' H' s' ∧ tn i s'.heap ∧ (∀ b ∈ fp, H' b = none) ∧ W i n σ' H') ?_ m0 ⟨0, σ, H2, I2, st2, fun b hb => (f2 b hb).1, w0⟩
  rintro n s3 ⟨i, σ3, H3, I3, st3, fr3, w3⟩
  rcases turn i n σ3 H3 w3 with ⟨stop, qn⟩ | ⟨go, N, hN, step⟩
  · refine wpAny_passesOwn hp (thn (T.done X rfl rfl rfl hc i pins s3 σ3 H3 X.xe I3 (stat fr3) st3 stop) fun r s4 ⟨hr, I4⟩ => ?_)
    subst hr
    exact wpAny_execs_nil ⟨σ3, H3, I4, qn⟩
  · refine wpAny_passesOwn hp (thn (T.item X rfl rfl rfl hc i pins s3 σ3 H3 X.xe I3 (stat fr3) st3 go) fun r s4 ⟨u, hr, h4⟩ => ?_)
    subst hr
    refine wpAny_passesOwn hp (thn h4 fun _ s5 ⟨x, H5, I5, r5, y5, st5, fr5⟩ => ?_)
    have I5' := I5.pinned (stat fr5) (T.obj _ _ st5)
    refine wpAny_passesOwn hp (thn (hg _ s5 σ3 H5 x u _ I5' r5 (step x H5 y5)) fun _ s6 ⟨σ6, H6, I6, q6⟩ => ?_)
    refine wpAny_passesOwn hp (thn (hb _ s6 σ6 H6 _ I6 q6) fun f s7 q7 => ?_)
    have again : ∀ {σ7 : St} {H7 : Hp}, Inv X (pins ++ pinsAt fp s5.heap) σ7 H7 s7 → N σ7 H7 → ∃ m, m < n ∧ ∃ i σ' H', Inv X pins σ' H' s7 ∧ tn i s7.heap ∧ (∀ b ∈ fp, H' b = none) ∧ W i m σ' H' := fun {σ7 H7} I7 n7 => by
      obtain ⟨m', hm, w7⟩ := hN σ7 H7 n7
      refine ⟨m', hm, i + 1, σ7, H7, I7.unpinned, T.keep _ _ _ st5 fun b hb o e => (I7.pin (b, o) (List.mem_append_right _ (List.mem_append_right _ (mem_pinsAt hb e)))).1, fun b hb => ?_, w7⟩
      obtain ⟨o, e, d⟩ := T.obj _ _ st5 b hb
      exact (I7.pin (b, o) (List.mem_append_right _ (List.mem_append_right _ (mem_pinsAt hb e)))).2.1
    cases f with
    | next => obtain ⟨σ7, H7, I7, n7⟩ := q7; exact again I7 n7
    | cont => obtain ⟨σ7, H7, I7, n7⟩ := q7; exact again I7 n7
    | brk => obtain ⟨σ7, H7, I7, q7⟩ := q7; exact ⟨σ7, H7, I7.unpinned, q7⟩
    | ret v => obtain ⟨x7, σ7, H7, I7, r7, q7⟩ := q7; exact ⟨x7, σ7, H7, I7.unpinned, r7, q7⟩
end
theorem for_list {K : PySem.W.Frag} {a : Addr} {xs : List V} {g : TG} {tb : TS} {D : Ends} {σ : St} {H : Hp} (Pv : Nat → St → Hp → Prop) (h0 : Pv 0 σ H) (hl : ∀ i σ H, i ≤ xs.length → Pv i σ H → SqL K H a xs)
    (hs : ∀ i x σ H, xs[i]? = some x → Pv i σ H → g x σ H fun σ2 H2 => tb { D with nx := Pv (i + 1), ct := Pv (i + 1), bk := D.nx } σ2 H2) (hd : ∀ σ H, Pv xs.length σ H → D.nx σ H) :
    ∃ W : Nat → Nat → St → Hp → Prop, (∃ m, W 0 m σ H) ∧ ∀ i m σ H, W i m σ H →
      ((Itl K a).stop i H ∧ D.nx σ H) ∨ ((Itl K a).go i H ∧ ∃ N : St → Hp → Prop, (∀ σ' H', N σ' H' → ∃ m', m' < m ∧ W (i + 1) m' σ' H') ∧ ∀ x H', (Itl K a).yld i H x H' → g x σ H' fun σ2 H2 => tb { D with nx := N, ct := N, bk := D.nx } σ2 H2) := by
  refine ⟨fun i m σ H => m = xs.length - i ∧ i ≤ xs.length ∧ Pv i σ H, ⟨xs.length, by simp, Nat.zero_le _, h0⟩, ?_⟩
  rintro i m σ H ⟨rfl, hi, p⟩
  have q := hl i σ H hi p
  by_cases hlt : i < xs.length
  · refine .inr ⟨⟨xs, xs[i], q, by simp [hlt]⟩, Pv (i + 1), fun σ' H' p' => ⟨xs.length - (i + 1), by omega, rfl, hlt, p'⟩, fun x H' y => ?_⟩
    obtain ⟨e, y⟩ := y
    subst e
    exact hs i x σ _ (y xs q) p
  · have e : i = xs.length := by omega
    subst e
    exact .inl ⟨⟨xs, q, Nat.le_refl _⟩, hd σ H p⟩
theorem for_tup {K : PySem.W.Frag} {a : Addr} {xs : List V} {g : TG} {tb : TS} {D : Ends} {σ : St} {H : Hp} (Pv : Nat → St → Hp → Prop) (h0 : Pv 0 σ H) (hl : ∀ i σ H, i ≤ xs.length → Pv i σ H → SqT K H a xs)
    (hs : ∀ i x σ H, xs[i]? = some x → Pv i σ H → g x σ H fun σ2 H2 => tb { D with nx := Pv (i + 1), ct := Pv (i + 1), bk := D.nx } σ2 H2) (hd : ∀ σ H, Pv xs.length σ H → D.nx σ H) :
    ∃ W : Nat → Nat → St → Hp → Prop, (∃ m, W 0 m σ H) ∧ ∀ i m σ H, W i m σ H →
      ((Itt K a).stop i H ∧ D.nx σ H) ∨ ((Itt K a).go i H ∧ ∃ N : St → Hp → Prop, (∀ σ' H', N σ' H' → ∃ m', m' < m ∧ W (i + 1) m' σ' H') ∧ ∀ x H', (Itt K a).yld i H x H' → g x σ H' fun σ2 H2 => tb { D with nx := N, ct := N, bk := D.nx } σ2 H2) := by
  refine ⟨fun i m σ H => m = xs.length - i ∧ i ≤ xs.length ∧ Pv i σ H, ⟨xs.length, by simp, Nat.zero_le _, h0⟩, ?_⟩
  rintro i m σ H ⟨rfl, hi, p⟩
  have q := hl i σ H hi p
  by_cases hlt : i < xs.length
  · refine .inr ⟨⟨xs, xs[i], q, by simp [hlt]⟩, Pv (i + 1), fun σ' H' p' => ⟨xs.length - (i + 1), by omega, rfl, hlt, p'⟩, fun x H' y => ?_⟩
    obtain ⟨e, y⟩ := y
    subst e
    exact hs i x σ _ (y xs q) p
  · have e : i = xs.length := by omega
    subst e
    exact .inl ⟨⟨xs, q, Nat.le_refl _⟩, hd σ H p⟩
theorem for_range {lo : Int} {n : Nat} {g : TG} {tb : TS} {D : Ends} {σ : St} {H : Hp} (Pv : Nat → St → Hp → Prop) (h0 : Pv 0 σ H)
    (hs : ∀ i σ H, i < n → Pv i σ H → g (.int (lo + i)) σ H fun σ2 H2 => tb { D with nx := Pv (i + 1), ct := Pv (i + 1), bk := D.nx } σ2 H2) (hd : ∀ σ H, Pv n σ H → D.nx σ H) :
    ∃ W : Nat → Nat → St → Hp → Prop, (∃ m, W 0 m σ H) ∧ ∀ i m σ H, W i m σ H →
      ((Itr lo n).stop i H ∧ D.nx σ H) ∨ ((Itr lo n).go i H ∧ ∃ N : St → Hp → Prop, (∀ σ' H', N σ' H' → ∃ m', m' < m ∧ W (i + 1) m' σ' H') ∧ ∀ x H', (Itr lo n).yld i H x H' → g x σ H' fun σ2 H2 => tb { D with nx := N, ct := N, bk := D.nx } σ2 H2) := by
  refine ⟨fun i m σ H => m = n - i ∧ i ≤ n ∧ Pv i σ H, ⟨n, by simp, Nat.zero_le _, h0⟩, ?_⟩
  rintro i m σ H ⟨rfl, hi, p⟩
  by_cases hlt : i < n
  · refine .inr ⟨hlt, Pv (i + 1), fun σ' H' p' => ⟨n - (i + 1), by omega, rfl, hlt, p'⟩, fun x H' y => ?_⟩
    obtain ⟨e, y⟩ := y
    subst e y
    exact hs i σ _ hlt p
  · have e : i = n := by omega
    subst e
    exact .inl ⟨Nat.le_refl _, hd σ H p⟩
end L2
namespace L2
open PySem PySem.Spec PyProof.Rows
abbrev R2 := V → V → Hp → VK → Prop
def OpR (X : Cx) (f : Value → Value → Sem Value) (r : R2) : Prop :=
  ∀ (pins : List (Addr × Obj)) (s : Shared) (σ : St) (H : Hp) (x y : V) (v u : Value) (Q : VK), Inv X pins σ H s → RelV x v → RelV y u → r x y H Q →
    wpAny (model X.prog X.w) X.A (f v u) (EP X pins σ Q) X.xe s
def UnR (X : Cx) (f : Value → Sem Value) (r : V → Hp → VK → Prop) : Prop :=
  ∀ (pins : List (Addr × Obj)) (s : Shared) (σ : St) (H : Hp) (x : V) (v : Value) (Q : VK), Inv X pins σ H s → RelV x v → r x H Q →
    wpAny (model X.prog X.w) X.A (f v) (EP X pins σ Q) X.xe s
def CallR (X : Cx) (f : Value) (r : List V → Hp → VK → Prop) : Prop :=
  ∀ (pins : List (Addr × Obj)) (s : Shared) (σ : St) (H : Hp) (xs : List V) (us : List Value) (Q : VK), Inv X pins σ H s → Vals xs us → r xs H Q →
    wpAny (model X.prog X.w) X.A (call f us) (EP X pins σ Q) X.xe s
def TruR (X : Cx) (r : V → Hp → (Bool → Hp → Prop) → Prop) : Prop :=
  ∀ (pins : List (Addr × Obj)) (s : Shared) (σ : St) (H : Hp) (x : V) (v : Value) (Q : Bool → Hp → Prop), Inv X pins σ H s → RelV x v → r x H Q →
    wpAny (model X.prog X.w) X.A (truthy v) (TP X pins σ Q) X.xe s
def tOp (r : R2) (ta tb : TE) : TE := fun σ H Q => ta σ H fun x H1 => tb σ H1 fun y H2 => r x y H2 Q
def tUn (r : V → Hp → VK → Prop) (ta : TE) : TE := fun σ H Q => ta σ H fun x H1 => r x H1 Q
def rI (C : Int → Int → Prop) (g : Int → Int → V) : R2 := fun x y H Q => ∃ i j, x = .int i ∧ y = .int j ∧ C i j ∧ Q (g i j) H
def rI0 (g : Int → Int → V) : R2 := fun x y H Q => ∃ i j, x = .int i ∧ y = .int j ∧ Q (g i j) H
def rU (g : Int → V) : V → Hp → VK → Prop := fun x H Q => ∃ i, x = .int i ∧ Q (g i) H
section
variable {X : Cx} {a b c : Expr} {ta tb tc : TE} {pos : Pos}
theorem binT (ha : PE X a ta) (hb : PE X b tb) {pins : List (Addr × Obj)} {s : Shared} {σ : St} {H : Hp} {R : V → V → Hp → Prop} (I : Inv X pins σ H s)
    (h : ta σ H fun x H1 => tb σ H1 fun y H2 => R x y H2) {Q : Value → Shared → Prop} {f : Value → Value → Sem Value}
    (hf : ∀ v u s2 x y H2, Inv X pins σ H2 s2 → RelV x v → RelV y u → R x y H2 → wpAny (model X.prog X.w) X.A (f v u) Q X.xe s2) :
    wpAny (model X.prog X.w) X.A (eval a X.env) (fun v s₁ => wpAny (model X.prog X.w) X.A (eval b X.env) (fun u s₂ => wpAny (model X.prog X.w) X.A (f v u) Q X.xe s₂) X.xe s₁) X.xe s := by
  refine thn (ha pins s σ H _ I h) fun v s1 ⟨x, H1, I1, r1, q1⟩ => ?_
  refine thn (hb pins s1 σ H1 _ I1 q1) fun u s2 ⟨y, H2, I2, r2, q2⟩ => ?_
  exact hf v u s2 x y H2 I2 r1 r2 q2
theorem pe_op {op : Operator} {r : R2} (ho : OpR X (binaryOp op) r) (ha : PE X a ta) (hb : PE X b tb) : PE X (.BinOp a op b pos) (tOp r ta tb) := by
  intro pins s σ H Q I h
  exact wpAny_BinOp (binT ha hb I h fun v u s2 x y H2 I2 rx ry q => ho pins s2 σ H2 x y v u Q I2 rx ry q)
theorem pe_un {op : UnaryOp} {r : V → Hp → VK → Prop} (ho : UnR X (unaryOp op) r) (ha : PE X a ta) : PE X (.UnaryOp op a pos) (tUn r ta) := by
  intro pins s σ H Q I h
  exact UnaryOp_ (thn (ha pins s σ H _ I h) fun v s1 ⟨x, H1, I1, r1, q1⟩ => ho pins s1 σ H1 x v Q I1 r1 q1)
theorem opI {f : Value → Value → Sem Value} {C : Int → Int → Prop} {g : Int → Int → Int}
    (rule : ∀ (i j : Int) (t u : Tok) (s : Shared) (Q : Value → Shared → Prop) (E : Value → Shared → Prop), C i j → Q (.int (g i j) s.toks) { s with toks := s.toks + 1 } → wpAny (model X.prog X.w) X.A (f (.int i t) (.int j u)) Q E s) :
    OpR X f (rI C fun i j => .int (g i j)) := by
  intro pins s σ H x y v u Q I rx ry h
  obtain ⟨i, j, rfl, rfl, hc, q⟩ := h
  obtain ⟨t, rfl⟩ := rx
  obtain ⟨t', rfl⟩ := ry
  exact rule i j t t' s _ _ hc ⟨.int (g i j), H, I.tok _, ⟨_, rfl⟩, q⟩
theorem opI0 {f : Value → Value → Sem Value} {g : Int → Int → Int}
    (rule : ∀ (i j : Int) (t u : Tok) (s : Shared) (Q : Value → Shared → Prop) (E : Value → Shared → Prop), Q (.int (g i j) s.toks) { s with toks := s.toks + 1 } → wpAny (model X.prog X.w) X.A (f (.int i t) (.int j u)) Q E s) :
    OpR X f (rI0 fun i j => .int (g i j)) := by
  intro pins s σ H x y v u Q I rx ry h
  obtain ⟨i, j, rfl, rfl, q⟩ := h
  obtain ⟨t, rfl⟩ := rx
  obtain ⟨t', rfl⟩ := ry
  exact rule i j t t' s _ _ ⟨.int (g i j), H, I.tok _, ⟨_, rfl⟩, q⟩
theorem opB0 {f : Value → Value → Sem Value} {g : Int → Int → Bool}
    (rule : ∀ (i j : Int) (t u : Tok) (s : Shared) (Q : Value → Shared → Prop) (E : Value → Shared → Prop), Q (.bool (g i j)) s → wpAny (model X.prog X.w) X.A (f (.int i t) (.int j u)) Q E s) :
    OpR X f (rI0 fun i j => .bl (g i j)) := by
  intro pins s σ H x y v u Q I rx ry h
  obtain ⟨i, j, rfl, rfl, q⟩ := h
  obtain ⟨t, rfl⟩ := rx
  obtain ⟨t', rfl⟩ := ry
  exact rule i j t t' s _ _ ⟨.bl (g i j), H, I, rfl, q⟩
def CDiv (i j : Int) : Prop := 0 < j ∧ j < 1073741824
def CDivN (i j : Int) : Prop := j ≠ 0 ∧ j.natAbs < 1073741824
def CPow (i j : Int) : Prop := 0 ≤ j ∧ j ≤ 1000000 ∧ i.natAbs < 2 ^ 64
def CMul (i j : Int) : Prop := (-(2 ^ 64) < i ∧ i < 2 ^ 64) ∨ (-(2 ^ 64) < j ∧ j < 2 ^ 64)
theorem CMul.ok {i j : Int} (h : CMul i j) : IntMulOk i j := by
  rcases h with ⟨h1, h2⟩ | ⟨h1, h2⟩
  · exact .of_left (intBits_le_64 h1 h2)
  · exact .of_right (intBits_le_64 h1 h2)
theorem op_add : OpR X (binaryOp .Add) (rI0 fun i j => .int (i + j)) := opI0 fun _ _ _ _ _ _ _ q => add_int q
theorem op_sub : OpR X (binaryOp .Sub) (rI0 fun i j => .int (i - j)) := opI0 fun _ _ _ _ _ _ _ q => sub_int q
theorem op_mul : OpR X (binaryOp .Mult) (rI CMul fun i j => .int (i * j)) := opI fun _ _ _ _ _ _ _ hc q => mul_int q hc.ok
theorem op_fdiv : OpR X (binaryOp .FloorDiv) (rI CDiv fun i j => .int (i / j)) := opI fun i j _ _ _ _ _ hc q => by
  have h1 : (0 : Int) < j := hc.1
  have h2 : j < 1073741824 := hc.2
  exact floordiv_int (by omega) (by rw [Int.fdiv_eq_ediv_of_nonneg i (by omega)]; exact q) (.inl (PyProof.noPylong_small (by omega)))
theorem op_mod : OpR X (binaryOp .Mod) (rI (fun _ j => 0 < j) fun i j => .int (i % j)) := opI fun i j _ _ _ _ _ hc q => by
  have h1 : (0 : Int) < j := hc
  exact mod_int' (by omega) (by rw [Int.fmod_eq_emod_of_nonneg i (by omega)]; exact q)
theorem op_pow : OpR X (binaryOp .Pow) (rI CPow fun i j => .int (i ^ j.toNat)) := opI fun _ _ _ _ _ _ _ hc q => pow_int_small hc.1 hc.2.1 hc.2.2 q
theorem unI {f : Value → Sem Value} {g : Int → Int}
    (rule : ∀ (i : Int) (t : Tok) (s : Shared) (Q : Value → Shared → Prop) (E : Value → Shared → Prop), Q (.int (g i) s.toks) { s with toks := s.toks + 1 } → wpAny (model X.prog X.w) X.A (f (.int i t)) Q E s) :
    UnR X f (rU fun i => .int (g i)) := by
  intro pins s σ H x v Q I rx h
  obtain ⟨i, rfl, q⟩ := h
  obtain ⟨t, rfl⟩ := rx
  exact rule i t s _ _ ⟨.int (g i), H, I.tok _, ⟨_, rfl⟩, q⟩
theorem un_neg : UnR X (unaryOp .USub) (rU fun i => .int (-i)) := unI fun _ _ _ _ _ q => neg_int q
end
def scal : V → V → Bool
  | .non, .non => true | .non, .int _ => true | .int _, .non => true | .non, .bl _ => true | .bl _, .non => true | .non, .str _ => true | .str _, .non => true
  | .int _, .int _ => true | .bl _, .bl _ => true | .str _, .str _ => true | .byt _, .byt _ => true
  | .int _, .str _ => true | .str _, .int _ => true | .bl _, .str _ => true | .str _, .bl _ => true
  | _, _ => false
def rEq : R2 := fun x y H Q => scal x y = true ∧ Q (.bl (decide (x = y))) H
def rNe : R2 := fun x y H Q => scal x y = true ∧ Q (.bl (!decide (x = y))) H
theorem dec_int {i j : Int} : decide (V.int i = V.int j) = (i == j) := by
  rw [Bool.eq_iff_iff]
  simp
theorem dec_bl {i j : Bool} : decide (V.bl i = V.bl j) = (i == j) := by
  rw [Bool.eq_iff_iff]
  simp
theorem dec_str {i j : Str} : decide (V.str i = V.str j) = (i == j) := by
  rw [Bool.eq_iff_iff]
  simp
theorem dec_byt {i j : Array UInt8} : decide (V.byt i = V.byt j) = (i.toList == j.toList) := by
  rw [Bool.eq_iff_iff]
  cases i
  cases j
  simp
section
variable {X : Cx} {a b c : Expr} {ta tb tc : TE} {pos : Pos}
theorem fin_bl {pins : List (Addr × Obj)} {σ : St} {H : Hp} {s : Shared} {Q : VK} {k k' : Bool} (I : Inv X pins σ H s) (q : Q (.bl k) H) (e : k = k') : EP X pins σ Q (.bool k') s := by
  subst e
  exact ⟨.bl k, H, I, rfl, q⟩
theorem op_eq : OpR X (compareOp .Eq) rEq := by
  intro pins s σ H x y v u Q I rx ry h
  obtain ⟨hs, q⟩ := h
  cases x with
  | non =>
    cases rx
    cases y with
    | non => cases ry; exact PySem.EqNone.eq_none_none (fin_bl I q (by simp))
    | bl j => cases ry; exact PySem.EqNone.eq_none_bool (fin_bl I q (by simp))
    | int j => obtain ⟨t', rfl⟩ := ry; exact PySem.EqNone.eq_none_int (fin_bl I q (by simp))
    | str j => obtain ⟨t', rfl⟩ := ry; exact PySem.EqNone.eq_none_str (fin_bl I q (by simp))
    | _ => exact absurd (show false = true from hs) Bool.false_ne_true
  | bl i =>
    cases rx
    cases y with
    | non => cases ry; exact PySem.EqNone.eq_bool_none (fin_bl I q (by simp))
    | bl j => cases ry; exact eq_bool (fin_bl I q dec_bl)
    | str j => obtain ⟨t', rfl⟩ := ry; exact PySem.EqMixed.eq_bool_str (fin_bl I q (by simp))
    | _ => exact absurd (show false = true from hs) Bool.false_ne_true
  | int i =>
    obtain ⟨t, rfl⟩ := rx
    cases y with
    | non => cases ry; exact PySem.EqNone.eq_int_none (fin_bl I q (by simp))
    | int j => obtain ⟨t', rfl⟩ := ry; exact eq_int (fin_bl I q dec_int)
    | str j => obtain ⟨t', rfl⟩ := ry; exact PySem.EqMixed.eq_int_str (fin_bl I q (by simp))
    | _ => exact absurd (show false = true from hs) Bool.false_ne_true
  | str i =>
    obtain ⟨t, rfl⟩ := rx
    cases y with
    | non => cases ry; exact PySem.EqNone.eq_str_none (fin_bl I q (by simp))
    | bl j => cases ry; exact PySem.EqMixed.eq_str_bool (fin_bl I q (by simp))
    | int j => obtain ⟨t', rfl⟩ := ry; exact PySem.EqMixed.eq_str_int (fin_bl I q (by simp))
    | str j => obtain ⟨t', rfl⟩ := ry; exact eq_str (fin_bl I q dec_str)
    | _ => exact absurd (show false = true from hs) Bool.false_ne_true
  | byt i =>
    obtain ⟨t, rfl⟩ := rx
    cases y with
    | byt j => obtain ⟨t', rfl⟩ := ry; exact PySem.W.eq_bytes (fin_bl I q dec_byt)
    | _ => exact absurd (show false = true from hs) Bool.false_ne_true
  | _ => cases y <;> exact absurd (show false = true from hs) Bool.false_ne_true
theorem op_ne : OpR X (compareOp .NotEq) rNe := by
  intro pins s σ H x y v u Q I rx ry h
  obtain ⟨hs, q⟩ := h
  cases x with
  | non =>
    cases rx
    cases y with
    | non => cases ry; exact PySem.EqNone.ne_none_none (fin_bl I q (by simp))
    | bl j => cases ry; exact PySem.EqNone.ne_none_bool (fin_bl I q (by simp))
    | int j => obtain ⟨t', rfl⟩ := ry; exact PySem.EqNone.ne_none_int (fin_bl I q (by simp))
    | str j => obtain ⟨t', rfl⟩ := ry; exact PySem.EqNone.ne_none_str (fin_bl I q (by simp))
    | _ => exact absurd (show false = true from hs) Bool.false_ne_true
  | bl i =>
    cases rx
    cases y with
    | non => cases ry; exact PySem.EqNone.ne_bool_none (fin_bl I q (by simp))
    | bl j => cases ry; exact ne_bool (fin_bl I q (congrArg not dec_bl))
    | str j => obtain ⟨t', rfl⟩ := ry; exact PySem.EqMixed.ne_bool_str (fin_bl I q (by simp))
    | _ => exact absurd (show false = true from hs) Bool.false_ne_true
  | int i =>
    obtain ⟨t, rfl⟩ := rx
    cases y with
    | non => cases ry; exact PySem.EqNone.ne_int_none (fin_bl I q (by simp))
    | int j => obtain ⟨t', rfl⟩ := ry; exact ne_int (fin_bl I q (congrArg not dec_int))
    | str j => obtain ⟨t', rfl⟩ := ry; exact PySem.EqMixed.ne_int_str (fin_bl I q (by simp))
    | _ => exact absurd (show false = true from hs) Bool.false_ne_true
  | str i =>
    obtain ⟨t, rfl⟩ := rx
    cases y with
    | non => cases ry; exact PySem.EqNone.ne_str_none (fin_bl I q (by simp))
    | bl j => cases ry; exact PySem.EqMixed.ne_str_bool (fin_bl I q (by simp))
    | int j => obtain ⟨t', rfl⟩ := ry; exact PySem.EqMixed.ne_str_int (fin_bl I q (by simp))
    | str j => obtain ⟨t', rfl⟩ := ry; exact ne_str (fin_bl I q (congrArg not dec_str))
    | _ => exact absurd (show false = true from hs) Bool.false_ne_true
  | byt i =>
    obtain ⟨t, rfl⟩ := rx
    cases y with
    | byt j => obtain ⟨t', rfl⟩ := ry; exact PySem.W.ne_bytes (fin_bl I q (congrArg not dec_byt))
    | _ => exact absurd (show false = true from hs) Bool.false_ne_true
  | _ => cases y <;> exact absurd (show false = true from hs) Bool.false_ne_true
theorem op_lt : OpR X (compareOp .Lt) (rI0 fun i j => .bl (decide (i < j))) := opB0 fun _ _ _ _ _ _ _ q => lt_int q
theorem op_le : OpR X (compareOp .LtE) (rI0 fun i j => .bl (decide (i ≤ j))) := opB0 fun _ _ _ _ _ _ _ q => le_int q
theorem op_gt : OpR X (compareOp .Gt) (rI0 fun i j => .bl (decide (j < i))) := opB0 fun _ _ _ _ _ _ _ q => gt_int q
theorem op_ge : OpR X (compareOp .GtE) (rI0 fun i j => .bl (decide (j ≤ i))) := opB0 fun _ _ _ _ _ _ _ q => ge_int q
theorem op_isN : OpR X (compareOp .Is) (fun x y H Q => y = .non ∧ Q (.bl (decide (x = .non))) H) := by
  intro pins s σ H x y v u Q I rx ry h
  obtain ⟨rfl, q⟩ := h
  cases ry
  refine is_none_gen (fin_bl I q ?_)
  cases x <;> first
    | (cases rx; rfl)
    | (obtain ⟨t, rfl⟩ := rx; rfl)
theorem op_notN : OpR X (compareOp .IsNot) (fun x y H Q => y = .non ∧ Q (.bl (!decide (x = .non))) H) := by
  intro pins s σ H x y v u Q I rx ry h
  obtain ⟨rfl, q⟩ := h
  cases ry
  refine isnot_none_gen (fin_bl I q ?_)
  cases x <;> first
    | (cases rx; rfl)
    | (obtain ⟨t, rfl⟩ := rx; rfl)
def isObj : HO → Bool
  | .lst _ => true
  | .ins _ _ _ => true
  | _ => false
theorem nomark (b : Expr) {op : CmpOp} (h : op ≠ .In := by decide) (h2 : op ≠ .NotIn := by decide) : behindInMarks op b = false := by
  have e1 : (op == CmpOp.In) = false := by cases op <;> first | rfl | exact absurd rfl h
  have e2 : (op == CmpOp.NotIn) = false := by cases op <;> first | rfl | exact absurd rfl h2
  cases b <;> simp [behindInMarks, e1, e2]
theorem pe_cmpR {op : CmpOp} {r : R2} (ho : OpR X (compareOp op) r) (ha : PE X a ta) (hb : PE X b tb) (hm : behindInMarks op b = false) : PE X (.Compare a [op] [b] pos) (tOp r ta tb) := by
  intro pins s σ H Q I h
  exact wpAny_Compare1 (binT ha hb I h fun v u s2 x y H2 I2 rx ry q => ho pins s2 σ H2 x y v u Q I2 rx ry q) hm
def tTest (t : TE) : TT := fun σ H Q => t σ H fun x H' => ∃ k, x = .bl k ∧ Q k H'
theorem pt_cmpR {op : CmpOp} {r : R2} (ho : OpR X (compareOp op) r) (ha : PE X a ta) (hb : PE X b tb) (hm : behindInMarks op b = false) : PT X (.Compare a [op] [b] pos) (tTest (tOp r ta tb)) := by
  intro pins s σ H Q I h
  refine wpAny_isTrue_Compare1 (thn (ha pins s σ H _ I h) fun v s1 ⟨x, H1, I1, r1, q1⟩ => thn (hb pins s1 σ H1 _ I1 q1) fun u s2 ⟨y, H2, I2, r2, q2⟩ =>
    thn (ho pins s2 σ H2 x y v u _ I2 r1 r2 q2) fun c s3 ⟨z, H3, I3, r3, k, e, q3⟩ => ?_) hm
  subst e
  cases r3
  exact wpAny_truthy_bool ⟨H3, I3, q3⟩
def tChain (r r' : R2) (ta tb tc : TE) : TE := fun σ H Q => ta σ H fun x H1 => tb σ H1 fun y H2 => r x y H2 fun z H3 => ∃ k, z = .bl k ∧
  (if k = true then tc σ H3 fun w' H4 => r' y w' H4 Q else Q (.bl false) H3)
theorem pe_chain {op op' : CmpOp} {r r' : R2} (ho : OpR X (compareOp op) r) (ho' : OpR X (compareOp op') r') (ha : PE X a ta) (hb : PE X b tb) (hc : PE X c tc)
    (hm : lastMarks [op, op'] [b, c] = false := by with_unfolding_all rfl) : PE X (.Compare a [op, op'] [b, c] pos) (tChain r r' ta tb tc) := by
  intro pins s σ H Q I h
  refine Compare_chain (thn (ha pins s σ H _ I h) fun v s1 ⟨x, H1, I1, r1, q1⟩ => chain_link (thn (hb pins s1 σ H1 _ I1 q1) fun u s2 ⟨y, H2, I2, r2, q2⟩ =>
    thn (ho pins s2 σ H2 x y v u _ I2 r1 r2 q2) fun d s3 ⟨z, H3, I3, r3, k, e, q3⟩ => ?_)) hm
  subst e
  cases r3
  refine wpAny_truthy_bool ?_
  cases k with
  | false => exact ite_ff ⟨.bl false, H3, I3, rfl, q3⟩
  | true => exact ite_tt (chain_last (thn (hc pins s3 σ H3 _ I3 q3) fun w' s4 ⟨z', H4, I4, r4, q4⟩ => ho' pins s4 σ H4 y z' u w' Q I4 r2 r4 q4))
def TruV (K : PySem.W.Frag) (x : V) (H : Hp) (k : Bool) : Prop :=
  match x with
  | .non => k = false
  | .bl b => k = b
  | .int i => k = (i != 0)
  | .str y => y.length ≤ sizeLine ∧ k = ((y.length : Int) != 0)
  | .byt y => y.size ≤ sizeLine ∧ k = ((y.size : Int) != 0)
  | .ref p => (∃ xs, SqL K H p xs ∧ k = !xs.isEmpty) ∨ (∃ xs, SqT K H p xs ∧ k = !xs.isEmpty) ∨ ∃ kvs, H p = some (.dK kvs) ∧ k = !kvs.isEmpty
  | _ => False
theorem line63 : (sizeLine : Nat) < 2 ^ 63 := by rw [sizeLine_eq]; decide
def PlainIxT (b : Expr) : Prop := ∀ o i, subscripted b false o i = operate [o, i] (getItem o i)
theorem vals1 {x : V} {us : List Value} (r : Vals [x] us) : ∃ u, us = [u] ∧ RelV x u := by
  cases r with
  | cons r1 r2 => cases r2; exact ⟨_, rfl, r1⟩
theorem vals2 {x y : V} {us : List Value} (r : Vals [x, y] us) : ∃ u w', us = [u, w'] ∧ RelV x u ∧ RelV y w' := by
  cases r with
  | cons r1 r2 =>
    cases r2 with
    | cons r3 r4 => cases r4; exact ⟨_, _, rfl, r1, r3⟩
theorem call_max2 (hc : X.calm = true) : CallR X (.builtin "max") (fun xs H Q => ∃ i j, xs = [.int i, .int j] ∧ Q (.int (if j > i then j else i)) H) := by
  intro pins s σ H xs us Q I r h
  obtain ⟨i, j, rfl, q⟩ := h
  obtain ⟨u, w', rfl, ⟨t, rfl⟩, ⟨t', rfl⟩⟩ := vals2 r
  refine max_two_ints (I.ok.hd hc) fun h' tk k => ⟨_, H, I.kept k, ?_, q⟩
  by_cases hj : j > i
  · rw [if_pos hj, if_pos hj]; exact ⟨_, rfl⟩
  · rw [if_neg hj, if_neg hj]; exact ⟨_, rfl⟩
theorem call_min2 (hc : X.calm = true) : CallR X (.builtin "min") (fun xs H Q => ∃ i j, xs = [.int i, .int j] ∧ Q (.int (if j < i then j else i)) H) := by
  intro pins s σ H xs us Q I r h
  obtain ⟨i, j, rfl, q⟩ := h
  obtain ⟨u, w', rfl, ⟨t, rfl⟩, ⟨t', rfl⟩⟩ := vals2 r
  refine min_two_ints (I.ok.hd hc) fun h' tk k => ⟨_, H, I.kept k, ?_, q⟩
  by_cases hj : j < i
  · rw [if_pos hj, if_pos hj]; exact ⟨_, rfl⟩
  · rw [if_neg hj, if_neg hj]; exact ⟨_, rfl⟩
def LenV (K : PySem.W.Frag) (x : V) (H : Hp) (n : Nat) : Prop :=
  match x with
  | .str y => y.length ≤ sizeLine ∧ n = y.length
  | .byt y => y.size ≤ sizeLine ∧ n = y.size
  | .ref p => (∃ xs, SqL K H p xs ∧ n = xs.length) ∨ ∃ xs, SqT K H p xs ∧ n = xs.length
  | _ => False
end
end L2
namespace L2
open PySem PySem.Spec PyProof.Rows
structure ObjM (h : Heap) (x dx C : Addr) (mA : Str → Option Value) : Prop where
  obj : h.get? x = some (PySem.W.instObj C dx)
  ns : h.Ns1 dx mA
  ne : dx ≠ x
section
variable {prog : Program} {w : World} {A : Around} {E : Value → Shared → Prop} {s : Shared} {K : PySem.W.Frag} {x dx C f : Addr} {mA : Str → Option Value} {name : Str} {v : Value}
end
def putF (f : Str) (v : V) : List (Str × V) → List (Str × V)
  | [] => [(f, v)]
  | (g, x) :: r => if g = f then (g, v) :: r else (g, x) :: putF f v r
section
variable {P : Program} {w : World} {H H' : Hp} {h h' : Heap} {a C dx : Addr} {fs fs' : List (Str × V)}
end
structure Cls (K : PySem.W.Frag) (C : Addr) : Prop where
  pg : PySem.W.plainGet K C Str.empty = true
  hd : PySem.W.hasDictIn K C = true
  po : PySem.W.plainOver K C = true
  sa : PySem.W.findIn K (.ref C) "__setattr__" = some (some (.builtin "object.__setattr__"))
def NoAttr (K : PySem.W.Frag) (C : Addr) (f : Str) : Prop := PySem.W.findIn K (.ref C) f = some none
structure Con (K : PySem.W.Frag) (C : Addr) (f : Str) (v : V) (u : Value) : Prop where
  at_ : PySem.W.findIn K (.ref C) f = some (some u)
  rel : RelV v u
  get : PySem.W.specialIn K u "__get__" = some none
  cp : PySem.W.copiedNames.contains f = false
structure Meth (K : PySem.W.Frag) (C : Addr) (m : Str) (f : Addr) : Prop where
  at_ : PySem.W.findIn K (.ref C) m = some (some (.ref f))
  fn : PySem.W.isFn K (.ref f) = true
  kp : PySem.W.keepIn K (.ref f) = true
section
variable {X : Cx} {pins : List (Addr × Obj)} {σ : St} {H : Hp} {s : Shared} {a C dx : Addr} {fs : List (Str × V)} {f : Str} {v : V} {A : Around} {E : Value → Shared → Prop}
end
def tFld (K : PySem.W.Frag) (ta : TE) (f : Str) : TE := fun σ H Q => ta σ H fun x H1 => ∃ a C dx fs v, x = .ref a ∧ H1 a = some (.ins C dx fs) ∧ Cls K C ∧ NoAttr K C f ∧ fs.lookup f = some v ∧ Q v H1
def tCon (K : PySem.W.Frag) (ta : TE) (f : Str) : TE := fun σ H Q => ta σ H fun x H1 => ∃ a C dx fs v u, x = .ref a ∧ H1 a = some (.ins C dx fs) ∧ Cls K C ∧ Con K C f v u ∧ fs.lookup f = none ∧ Q v H1
def sFld (K : PySem.W.Frag) (ta tv : TE) (f : Str) : TS := fun D σ H => tv σ H fun y H1 => ta σ H1 fun x H2 => ∃ a C dx fs, x = .ref a ∧ H2 a = some (.ins C dx fs) ∧ Cls K C ∧ NoAttr K C f ∧ fs.length < 1000 ∧
  D.nx σ (upd H2 a (.ins C dx (putF f y fs)))
def InOp (X : Cx) (op : Operator) (rd : V → V → Hp → VK → Prop) : Prop :=
  ∀ (pins : List (Addr × Obj)) (s : Shared) (σ : St) (H : Hp) (x y : V) (u v : Value) (Q : VK), Inv X pins σ H s → RelV x u → RelV y v → rd x y H Q → wpAny (model X.prog X.w) X.A (inplaceOp op u v) (EP X pins σ Q) X.xe s
def sFldAug (K : PySem.W.Frag) (ta tv : TE) (rd : V → V → Hp → VK → Prop) (f : Str) : TS := fun D σ H => ta σ H fun x H1 => ∃ a C dx fs v, x = .ref a ∧ H1 a = some (.ins C dx fs) ∧ Cls K C ∧ NoAttr K C f ∧ fs.lookup f = some v ∧
  tv σ H1 fun y H2 => rd v y H2 fun z H3 => ∃ dx' fs', H3 a = some (.ins C dx' fs') ∧ fs'.length < 1000 ∧ D.nx σ (upd H3 a (.ins C dx' (putF f z fs')))
section
variable {X : Cx} {o e value : Expr} {f : Str} {pos pos' tpos : Pos} {ta tv : TE}
def rAdd : V → V → Hp → VK → Prop := fun x y H Q => ∃ i j, x = .int i ∧ y = .int j ∧ Q (.int (i + j)) H
def rSub : V → V → Hp → VK → Prop := fun x y H Q => ∃ i j, x = .int i ∧ y = .int j ∧ Q (.int (i - j)) H
end
section
variable {X : Cx} {pins : List (Addr × Obj)} {σ : St} {H : Hp} {s : Shared} {A : Around} {E : Value → Shared → Prop} {Q : Value → Shared → Prop} {c : Value} {b : Bool}
inductive TyOf (K : PySem.W.Frag) (H : Hp) : V → Value → Prop where
  | non : TyOf K H .non (.type "NoneType")
  | bl (x : Bool) : TyOf K H (.bl x) (.type "bool")
  | int (i : Int) : TyOf K H (.int i) (.type "int")
  | str (x : Str) : TyOf K H (.str x) (.type "str")
  | flt (x : UInt64) : TyOf K H (.flt x) (.type "float")
  | lst {a : Addr} {xs : List V} (e : H a = some (.lst xs)) : TyOf K H (.ref a) (.type "list")
  | frz {a : Addr} {o : Obj} {xs : List V} (e : H a = some (.frz o (.lst xs))) : TyOf K H (.ref a) (.type "list")
  | tup {a : Addr} {xs : List V} (e : H a = some (.tup xs)) : TyOf K H (.ref a) (.type "tuple")
  | dK {a : Addr} {kvs : List (Key × V)} (e : H a = some (.dK kvs)) : TyOf K H (.ref a) (.type "dict")
  | dT {a : Addr} {kvs : List (List Key × V)} (e : H a = some (.dT kvs)) : TyOf K H (.ref a) (.type "dict")
  | ins {a C dx : Addr} {fs : List (Str × V)} (e : H a = some (.ins C dx fs)) (cl : Cls K C) (ha : PySem.W.findIn K (.ref C) "__class__" = some (some (.builtin "object.__class__")))
      (hn : PySem.W.specialIn K (.builtin "object.__class__") "__get__" = some (some (.builtin "getset_descriptor.__get__"))) (htk : PySem.W.takesIn K (.builtin "object.__class__") = some true)
      (hm : PySem.W.mroIn K C (.type "object") = some true) : TyOf K H (.ref a) (.ref C)
end
end L2
namespace L2
open PySem PySem.Spec PyProof.Rows
structure Room (k : Nat) (A : Around) : Prop where
  hd : A.handled = none
  dp : A.depth + 3 * k + 5 < recursionLimit
  un : A.units + 16 * k + 200 < cLine
  gd : A.guards = some []
theorem Room.mono {j k : Nat} {A : Around} (r : Room k A) (h : j ≤ k) : Room j A := ⟨r.hd, by have := r.dp; omega, by have := r.un; omega, r.gd⟩
theorem Room.deeper {k : Nat} {A : Around} (r : Room (k + 1) A) (env : Env) : Room k (A.deeper env) :=
  ⟨r.hd, by have := r.dp; show A.depth + 1 + 3 * k + 5 < _; omega, by have := r.un; show A.units + 3 + 16 * k + 200 < _; omega, r.gd⟩
theorem Room.depth {k : Nat} {A : Around} (r : Room k A) : A.depth < recursionLimit := by have := r.dp; omega
def tNil : TA := fun _ H Q => Q [] H
def tCons (ta : TE) (tr : TA) : TA := fun σ H Q => ta σ H fun x H1 => tr σ H1 fun xs H2 => Q (x :: xs) H2
section
variable {X : Cx} {e : Expr} {es : List Expr} {te : TE} {t : TA} {pos : Pos}
theorem pa_nil : PA X [] tNil := fun _ _ _ _ H Q I h => Calls.spliced_nil ⟨[], H, I, .nil, h⟩
theorem pa_cons (ha : PE X e te) (hr : PA X es t) (hs : starEach (e :: es) X.env = (false, eval e X.env) :: starEach es X.env := by rfl) : PA X (e :: es) (tCons te t) := by
  intro pos pins s σ H Q I h
  rw [hs]
  show wpAny _ _ (spliced ((false, eval e X.env) :: backTo pos (starEach es X.env))) _ _ s
  refine Calls.spliced_cons (thn (ha pins s σ H _ I h) fun u s1 ⟨x, H1, I1, r1, q1⟩ => ?_)
  exact thn (hr pos pins s1 σ H1 _ I1 q1) fun us s2 ⟨xs, H2, I2, r2, q2⟩ => ⟨x :: xs, H2, I2, .cons r1 r2, q2⟩
def tTup (t : TA) : TE := fun σ H Q => t σ H fun xs H1 => xs.length ≤ sizeLine ∧ ∀ p, H1 p = none → Q (.ref p) (upd H1 p (.tup xs))
def tLst (t : TA) : TE := fun σ H Q => t σ H fun xs H1 => xs.length ≤ sizeLine ∧ ∀ p, H1 p = none → Q (.ref p) (upd H1 p (.lst xs))
theorem pe_tup {x1} (h : PA X es t) : PE X (.Tuple es x1 pos) (tTup t) := by
  intro pins s σ H Q I hq
  refine wpAny_Tuple_spliced (thn (h pos pins s σ H _ I hq) fun us s1 ⟨xs, H1, I1, r, z, q⟩ => ⟨by rw [← r.length]; exact z, ?_⟩)
  have hf : H1 s1.heap.objs.size = none := I1.hok.fresh (Nat.le_refl _)
  refine ⟨.ref s1.heap.objs.size, upd H1 s1.heap.objs.size (.tup xs), I1.laid (t' := s1.toks) (fun b u e => Heap.get?_push_of_some _ e) (Nat.le_refl _) ?_, rfl, q _ hf⟩
  exact ⟨z, us, r, ⟨_, Heap.get?_push_size _ rfl, rfl, _, rfl⟩⟩
theorem pe_lst (h : PA X es t) : PE X (.List es pos) (tLst t) := by
  intro pins s σ H Q I hq
  refine wpAny_List_spliced (thn (h pos pins s σ H _ I hq) fun us s1 ⟨xs, H1, I1, r, z, q⟩ => ⟨by rw [← r.length]; exact z, ?_⟩)
  have hf : H1 s1.heap.objs.size = none := I1.hok.fresh (Nat.le_refl _)
  refine ⟨.ref s1.heap.objs.size, upd H1 s1.heap.objs.size (.lst xs), I1.laid (t' := s1.toks) (fun b u e => Heap.get?_push_of_some _ e) (Nat.le_refl _) ?_, rfl, q _ hf⟩
  exact ⟨z, us, 0, r, Heap.get?_push_size _ rfl⟩
end
abbrev Sp := List V → Hp → VK → XK → Prop
abbrev CXT := List Env → Hp → Shared → XK → Value → Shared → Prop
structure Env0 (P : Program) (w : World) (K : PySem.W.Frag) (mg : Str → Option Value) (base : Heap) (A : Around) (outer : List Env) (s : Shared) (H : Hp) : Prop where
  frames : A.frames = some outer
  mod : Mod K mg base
  bs : ∀ b o, base.get? b = some o → s.heap.get? b = some o ∧ H b = none
  bsz : base.objs.size ≤ s.heap.objs.size
  funs : s.heap.FunFrames base outer
  frf : ∀ b ∈ frs outer, H b = none
  hok : HOk P w H s.heap
  bare : AllBare s.gens
def CE (outer : List Env) (P : Program) (w : World) (H : Hp) (s : Shared) (Q : VK) (u : Value) (s' : Shared) : Prop :=
  ∃ v H', s'.os = s.os ∧ AllBare s'.gens ∧ Un (frs outer) [] H H' s.heap s'.heap ∧ HOk P w H' s'.heap ∧ RelV v u ∧ Q v H'
def CR (CX : CXT) (outer : List Env) (P : Program) (w : World) (H : Hp) (s : Shared) (Q : VK) (E : XK) (r : Result) (s' : Shared) : Prop :=
  match r with
  | .ok (.ret u) => CE outer P w H s Q u s'
  | .ok _ => False
  | .error e => CX outer H s E e s'
structure FnOk (P : Program) (w : World) (K : PySem.W.Frag) (mg : Str → Option Value) (base : Heap) (CX : CXT) (k : Nat) (f : Addr) (fd : FuncData) (ps : List Str) (sp : Sp) : Prop where
  len : ∀ vs H Q E, sp vs H Q E → vs.length = ps.length
  run : ∀ (A : Around) (outer : List Env) (s : Shared) (H : Hp) (args : Args) (us : List Value) (vs : List V) (Q : VK) (E : XK), Room k A → Env0 P w K mg base A outer s H → BindsTo s fd args (ps.zip us) → Vals vs us → sp vs H Q E →
    codeAny (model P w) A (.call (.ref f) args) (CR CX outer P w H s Q E) s
section
variable {X : Cx} {pins : List (Addr × Obj)} {σ : St} {H : Hp} {s s' : Shared}
theorem Inv.env0 (I : Inv X pins σ H s) : Env0 X.prog X.w X.K X.mg X.base X.A X.stack s H :=
  ⟨I.ok.frames, I.ok.mod, I.bs, Nat.le_trans I.ok.bsz I.sz, I.stack, I.stkFree, I.hok, I.bare⟩
theorem Inv.after {Q : VK} {u : Value} (I : Inv X pins σ H s) (h : CE X.stack X.prog X.w H s Q u s') : EP X pins σ Q u s' := by
  obtain ⟨v, H', os, bare, un, hok, r, q⟩ := h
  obtain ⟨hh, g, d, t, os'⟩ := s'
  obtain rfl : os' = s.os := os
  exact ⟨v, H', I.call (h' := hh) (g' := g) (d' := d) (t' := t) (ch := []) un hok bare (fun b z => absurd z (by simp)), r, q⟩
end
def tCall (sp : Sp) (dvs : List V) (E : XK) (t : TA) : TE := fun σ H Q => t σ H fun vs H1 => sp (vs ++ dvs) H1 Q E
def tMeth (C : Addr) (m : Str) (sp : Sp) (dvs : List V) (E : XK) (ta : TE) (t : TA) : TE := fun σ H Q => ta σ H fun x H1 => ∃ a dx fs, x = .ref a ∧ H1 a = some (.ins C dx fs) ∧ fs.lookup m = none ∧
  t σ H1 fun vs H2 => sp (x :: (vs ++ dvs)) H2 Q E
def tMake (C : Addr) (sp : Sp) (dvs : List V) (E : XK) (t : TA) : TE := fun σ H Q => t σ H fun vs H1 => ∀ x dx, H1 x = none → H1 dx = none → dx ≠ x →
  sp (.ref x :: (vs ++ dvs)) (upd (upd H1 dx (.own x)) x (.ins C dx [])) (fun v H2 => v = .non ∧ Q (.ref x) H2) E
def Binds (K : PySem.W.Frag) (fd : FuncData) (ps : List Str) (ds : List Value) : Prop :=
  ∀ (s : Shared) (us : List Value), K.In s.heap → (us ++ ds).length = ps.length → BindsTo s fd ⟨us, []⟩ (ps.zip (us ++ ds))
theorem Binds.all {K : PySem.W.Frag} {fd : FuncData} {ps : List Str} (h : ∀ us : List Value, us.length = ps.length → bindArgs fd ⟨us, []⟩ = pure (ps.zip us)) : Binds K fd ps [] := fun s us _ hl => by
  rw [List.append_nil] at hl ⊢
  exact .of_eq (h us hl)
def Passes (CX : CXT) (X : Cx) (E : XK) : Prop := ∀ (pins : List (Addr × Obj)) (σ : St) (H : Hp) (s : Shared) (e : Value) (s' : Shared), Inv X pins σ H s → CX X.stack H s E e s' → X.xe e s'
section
variable {X : Cx} {CX : CXT} {k : Nat} {f C : Addr} {fd : FuncData} {ps : List Str} {sp : Sp} {dvs : List V} {ds : List Value} {E : XK} {x m : Str} {p pos apos : Pos} {e o : Expr} {es : List Expr} {ta : TE} {t : TA}
theorem run_fn {pins : List (Addr × Obj)} {σ : St} {H : Hp} {s : Shared} {Q : VK} {us : List Value} {vs : List V} (F : FnOk X.prog X.w X.K X.mg X.base CX k f fd ps sp) (hr : Room k X.A) (hb : Binds X.K fd ps ds) (hd : Vals dvs ds) (hx : Passes CX X E)
    (I : Inv X pins σ H s) (r : Vals vs us) (h : sp (vs ++ dvs) H Q E) : wpAny (model X.prog X.w) X.A (call (.ref f) us) (EP X pins σ Q) X.xe s := by
  have r2 : Vals (vs ++ dvs) (us ++ ds) := r.append hd
  have hl : (us ++ ds).length = ps.length := by rw [← r2.length]; exact F.len _ _ _ _ h
  refine wpAny_call (codeAny_mono (F.run X.A X.stack s H ⟨us, []⟩ (us ++ ds) (vs ++ dvs) Q E hr I.env0 (hb s us I.kIn hl) r2 h) fun r s' hq => ?_)
  cases r with
  | error e => exact hx pins σ H s e s' I hq
  | ok fl =>
    cases fl with
    | ret u => exact I.after hq
    | next => exact False.elim hq
    | brk => exact False.elim hq
    | cont => exact False.elim hq
theorem pe_call (F : FnOk X.prog X.w X.K X.mg X.base CX k f fd ps sp) (hr : Room k X.A) (hg : Gl X x) (hm : X.mg x = some (.ref f)) (hk : PySem.W.keepIn X.K (.ref f) = true) (hb : Binds X.K fd ps ds) (hd : Vals dvs ds) (hx : Passes CX X E)
    (ha : PA X (e :: es) t) (hdb : (x == ("__debug__" : Str)) = false := by decide) (he : starEach (e :: es) X.env = (false, eval e X.env) :: starEach es X.env := by rfl) (hpl : (backTo pos (starEach es X.env)).any (·.1) = false := by rfl) :
    PE X (.Call (.Name x p) (e :: es) [] pos) (tCall sp dvs E t) := by
  intro pins s σ H Q I h
  refine wpAny_Call_Name_kw (ld_glob I hg hm ?_ hdb)
  refine PySem.W.callWith_K (h₀ := X.base) I.ok.mod.kin hk (thn (ha pos pins s σ H _ I h) fun us s1 ⟨vs, H1, I1, r, q⟩ => ⟨I1.kIn, ?_⟩) he hpl
  exact run_fn F hr hb hd hx I1 r q
structure Mk (K : PySem.W.Frag) (C f : Addr) : Prop where
  makes : PySem.W.makesIn K C = true
  init : PySem.W.findIn K (.ref C) "__init__" = some (some (.ref f))
  fn : PySem.W.isFn K (.ref f) = true
  kp : PySem.W.keepIn K (.ref C) = true
end
def PK (X : Cx) (kws : List Keyword) (t : TA) : Prop :=
  ∀ (pos : Pos) (pins : List (Addr × Obj)) (s : Shared) (σ : St) (H : Hp) (Q : List V → Hp → Prop), Inv X pins σ H s → t σ H Q → wpAny (model X.prog X.w) X.A (evalAll ((backToKw pos (keywordEach kws X.env)).map (·.2))) (AP X pins σ Q) X.xe s
section
variable {X : Cx} {CX : CXT} {k : Nat} {f C : Addr} {fd : FuncData} {ps ks : List Str} {sp : Sp} {E : XK} {x m : Str} {p pos apos kpos : Pos} {e o : Expr} {es : List Expr} {kws : List Keyword} {te ta : TE} {t tk : TA} {nm : Option Str}
theorem pk_nil : PK X [] tNil := fun _ _ _ _ H Q I h => wpAny_evalAll_nil ⟨[], H, I, .nil, h⟩
theorem pk_cons (ha : PE X e te) (hr : PK X kws t) : PK X (⟨nm, e, kpos⟩ :: kws) (tCons te t) := by
  intro pos pins s σ H Q I h
  show wpAny _ _ (evalAll ((do let v ← eval e X.env; standAt pos; pure v) :: (backToKw pos (keywordEach kws X.env)).map (·.2))) _ _ s
  refine wpAny_evalAll_cons (wpAny_bind (thn (ha pins s σ H _ I h) fun u s1 ⟨x, H1, I1, r1, q1⟩ => wpAny_bind (wpAny_standAt (wpAny_pure ?_))))
  exact thn (hr pos pins s1 σ H1 _ I1 q1) fun us s2 ⟨xs, H2, I2, r2, q2⟩ => ⟨x :: xs, H2, I2, .cons r1 r2, q2⟩
structure KBinds (K : PySem.W.Frag) (fd : FuncData) (ps ks : List Str) (g : List Value → List Value → List Value) (gV : List V → List V → List V) : Prop where
  to : ∀ (s : Shared) (us ws : List Value), K.In s.heap → (g us ws).length = ps.length → BindsTo s fd ⟨us, ks.zip ws⟩ (ps.zip (g us ws))
  rel : ∀ {vs : List V} {us : List Value} {zs : List V} {ws : List Value}, Vals vs us → Vals zs ws → Vals (gV vs zs) (g us ws)
def tCallK (sp : Sp) (gV : List V → List V → List V) (E : XK) (t tk : TA) : TE := fun σ H Q => t σ H fun vs H1 => tk σ H1 fun zs H2 => sp (gV vs zs) H2 Q E
variable {g : List Value → List Value → List Value} {gV : List V → List V → List V}
end
structure FnScope (N P : List Str) (sc : Scope) : Prop where
  kind : sc.kind = .function
  co : sc.isCoroutine = false
  gen : sc.isGenerator = false
  nd : N.Nodup
  pre : N.take P.length = P
  par : ∀ x ∈ P, sc.names.lookup x = some .local ∨ sc.names.lookup x = some .cell
  nofree : ∀ y ∈ sc.names, y.2 ≠ .free
theorem bindL_out {kindOf : Str → Option NameKind} {x : Str} : ∀ {binds : List (Str × Value)} {m : Str → Option Value}, (∀ v, (x, v) ∉ binds) → bindL kindOf binds m x = m x
  | [], _, _ => rfl
  | (n, v) :: r, m, h => by
    unfold bindL
    rw [bindL_out fun w hw => h w (List.mem_cons_of_mem _ hw)]
    split
    · have : x ≠ n := by rintro rfl; exact h v List.mem_cons_self
      simp [this]
    · rfl
theorem bindC_out {kindOf : Str → Option NameKind} {x : Str} : ∀ {binds : List (Str × Value)} {m : Str → Option Value}, (∀ v, (x, v) ∉ binds) → bindC kindOf binds m x = m x
  | [], _, _ => rfl
  | (n, v) :: r, m, h => by
    unfold bindC
    rw [bindC_out fun w hw => h w (List.mem_cons_of_mem _ hw)]
    split
    · rfl
    · have : x ≠ n := by rintro rfl; exact h v List.mem_cons_self
      simp [this]
theorem bindL_get {kindOf : Str → Option NameKind} {x : Str} {v : Value} : ∀ {P : List Str} {vs : List Value} {i : Nat} {m : Str → Option Value}, P.Nodup → P[i]? = some x → vs[i]? = some v → kindOf x = some .local →
    bindL kindOf (P.zip vs) m x = some v
  | [], _, _, _, _, h, _, _ => by simp at h
  | _ :: _, [], _, _, _, _, h, _ => by simp at h
  | p :: P, w :: vs, 0, m, nd, h1, h2, hk => by
    simp at h1 h2; subst h1; subst h2
    show bindL kindOf ((p, w) :: P.zip vs) m p = _
    unfold bindL
    rw [bindL_out fun v hv => (List.nodup_cons.mp nd).1 (List.of_mem_zip hv).1, if_pos hk]
    simp
  | p :: P, w :: vs, i + 1, m, nd, h1, h2, hk => by
    show bindL kindOf ((p, w) :: P.zip vs) m x = _
    unfold bindL
    exact bindL_get (i := i) (List.nodup_cons.mp nd).2 (by simpa using h1) (by simpa using h2) hk
theorem bindC_get {kindOf : Str → Option NameKind} {x : Str} {v : Value} : ∀ {P : List Str} {vs : List Value} {i : Nat} {m : Str → Option Value}, P.Nodup → P[i]? = some x → vs[i]? = some v → kindOf x ≠ some .local →
    bindC kindOf (P.zip vs) m x = some v
  | [], _, _, _, _, h, _, _ => by simp at h
  | _ :: _, [], _, _, _, _, h, _ => by simp at h
  | p :: P, w :: vs, 0, m, nd, h1, h2, hk => by
    simp at h1 h2; subst h1; subst h2
    show bindC kindOf ((p, w) :: P.zip vs) m p = _
    unfold bindC
    rw [bindC_out fun v hv => (List.nodup_cons.mp nd).1 (List.of_mem_zip hv).1, if_neg hk]
    simp
  | p :: P, w :: vs, i + 1, m, nd, h1, h2, hk => by
    show bindC kindOf ((p, w) :: P.zip vs) m x = _
    unfold bindC
    exact bindC_get (i := i) (List.nodup_cons.mp nd).2 (by simpa using h1) (by simpa using h2) hk
def start (N : List Str) (vs : List V) : St := vs.map some ++ List.replicate (N.length - vs.length) none
def cxOf (CX : CXT) (P : Program) (w : World) (K : PySem.W.Frag) (mg : Str → Option Value) (base : Heap) (N : List Str) (qual : Str) (scope : Scope) (f : Addr) (cd : Value) (A : Around) (outer : List Env) (s : Shared) (H : Hp) (E : XK) : Cx where
  prog := P
  w := w
  K := K
  mg := mg
  base := base
  A := A.deeper (envOfC qual scope s.heap.objs.size f cd)
  N := N
  s₀ := s
  H₀ := H
  env := envOfC qual scope s.heap.objs.size f cd
  outer := outer
  stack := envOfC qual scope s.heap.objs.size f cd :: outer
  ex := []
  calm := true
  fn := fun _ => true
  pn := []
  xe := fun e s' => wpAny (model P w) (A.deeper (envOfC qual scope s.heap.objs.size f cd)) (leaving (envOfC qual scope s.heap.objs.size f cd) e) (fun _ s'' => CX outer H s E e s'') (fun e' s'' => CX outer H s E e' s'') s'
theorem cell_has {sc : Scope} {n : Nat} {x : Str} (h : sc.names.lookup x = some .cell) : ∃ c, (cellsFrom n sc.names []).lookup x = some c := by
  have q := PySem.W.cellsFrom_some sc.names n [] (.inl h)
  exact Option.isSome_iff_exists.mp q
theorem inv_start {CX : CXT} {P : Program} {w : World} {K : PySem.W.Frag} {mg : Str → Option Value} {base : Heap} {N ps : List Str} {qual : Str} {scope : Scope} {f : Addr} {cd : Value} {A : Around} {outer : List Env} {s s1 : Shared} {H : Hp} {E : XK} {us : List Value} {vs : List V}
    (S : FnScope N ps scope) (hd : A.handled = none) (e0 : Env0 P w K mg base A outer s H) (hl : vs.length = ps.length) (r : Vals vs us)
    (x : InCallC s s.heap.objs.size (bindL (envOfC qual scope s.heap.objs.size f cd).kindOf (ps.zip us) fun _ => none) (cellsFrom (s.heap.objs.size + 1) scope.names []) (bindC (envOfC qual scope s.heap.objs.size f cd).kindOf (ps.zip us) fun _ => none) s1) :
    Inv (cxOf CX P w K mg base N qual scope f cd A outer s H E) [] (start N vs) H s1 := by
  have hpl : ps.length ≤ N.length := by have := congrArg List.length S.pre; rw [List.length_take] at this; omega
  obtain ⟨h1, tk, rfl, hk⟩ := x.done
  have noA : ∀ b : Addr, b ∉ (cxOf CX P w K mg base N qual scope f cd A outer s H E).ex := fun b z => absurd (show b ∈ ([] : List Addr) from z) (by simp)
  refine ⟨⟨e0.mod, S.kind, rfl, rfl, Nat.le_refl _, fun y z c h1 h2 => ?_, fun y hy => ?_, fun y c _ h => ?_, fun _ => hd, Around.frames_deeper e0.frames, .inr ⟨rfl, rfl⟩, fun b z => absurd z (noA b), e0.bs, e0.bsz, fun b _ _ => noA b, fun b z => absurd z (noA b), e0.funs, e0.frf⟩,
    rfl, e0.bare, Un.kept hk, ⟨_, x.toInCall.ns, fun i y v h1 h2 h3 => ?_⟩, fun y c h => ⟨_, x.cell y c h⟩, e0.hok.fresh (Nat.le_refl _), fun y c h => ?_, fun p hp => absurd (show p ∈ ([] : List (Addr × Obj)) from hp) (by simp), e0.hok.kept hk, ?_⟩
  · exact name_of_addr x.apart (PySem.mem_of_lookup h1) (PySem.mem_of_lookup h2)
  · have hy : scope.names.lookup y = some .cell ∨ scope.names.lookup y = some .free := hy
    rcases hy with hy | hy
    · exact cell_has hy
    · exact absurd rfl (S.nofree _ (PySem.mem_of_lookup hy))
  · exact Nat.le_of_lt (x.above y c (PySem.mem_of_lookup h))
  · have hi : i < vs.length := by
      unfold start at h2
      by_cases hi : i < vs.length
      · exact hi
      · rw [List.getElem?_append_right (by simpa using hi)] at h2
        rw [List.getElem?_replicate] at h2
        split at h2 <;> cases h2
    have ha : vs[i]? = some v := by
      unfold start at h2
      rw [List.getElem?_append_left (by simpa using hi), List.getElem?_map] at h2
      cases e : vs[i]? with
      | none => rw [e] at h2; cases h2
      | some a => rw [e] at h2; cases h2; rfl
    obtain ⟨u, hu, rv⟩ := r.get ha
    have hp : ps[i]? = some y := by
      rw [← S.pre, List.getElem?_take_of_lt (by omega)]; exact h1
    have ndP : ps.Nodup := by rw [← S.pre]; exact S.nd.sublist (List.take_sublist _ _)
    refine ⟨u, rv, ?_⟩
    rcases S.par y (List.mem_of_getElem? hp) with k | k
    · exact .inl ⟨k, bindL_get ndP hp hu k⟩
    · obtain ⟨c, e⟩ := cell_has (n := s.heap.objs.size + 1) k
      refine .inr ⟨.inl k, c, e, ?_⟩
      have q := x.cell y c e
      rw [bindC_get ndP hp hu (by show scope.names.lookup y ≠ _; rw [k]; decide)] at q
      exact q
  · exact e0.hok.fresh (Nat.le_of_lt (x.above y c (PySem.mem_of_lookup h)))
  · unfold start
    show _ = N.length
    rw [List.length_append, List.length_map, List.length_replicate]
    omega
theorem fn_of {CX : CXT} {P : Program} {w : World} {K : PySem.W.Frag} {mg : Str → Option Value} {base : Heap} {k : Nat} {f : Addr} {name qual : Str} {params : Arguments} {body : List Stmt} {scope : Scope} {dV kV doc pm cdv ct oc : Value} {an od : Option Addr}
    {osl : Array (Option Value)} {N ps : List Str} {sp : Sp} (lk : K.lookup f = some ⟨oc, od, .func (PySem.W.fnOf name qual params body scope dV kV doc pm an cdv ct), osl⟩) (hcd : PySem.W.codeIn K cdv qual = true) (S : FnScope N ps scope)
    (len : ∀ vs H Q E, sp vs H Q E → vs.length = ps.length)
    (hbody : ∀ (A : Around) (outer : List Env) (s : Shared) (H : Hp) (vs : List V) (Q : VK) (E : XK), Room k (A.deeper (envOfC qual scope s.heap.objs.size f cdv)) → sp vs H Q E →
      ∃ t, PSs (cxOf CX P w K mg base N qual scope f cdv A outer s H E) body t ∧ t { nx := fun _ H' => Q .non H', rt := Q } (start N vs) H) :
    FnOk P w K mg base CX (k + 1) f (PySem.W.fnOf name qual params body scope dV kV doc pm an cdv ct) ps sp := by
  refine ⟨len, fun A outer s H args us vs Q E hr e0 hb r hsp => ?_⟩
  have hl := len _ _ _ _ hsp
  have KX : K.In s.heap := e0.mod.kin.keeps fun b o e => (e0.bs b o e).1
  have lim : s.heap.NoLimit := e0.mod.nolimit.keeps fun b o e => (e0.bs b o e).1
  have hkind : ∀ y ∈ ps.zip us, scope.names.lookup y.1 = some .local ∨ (scope.names.lookup y.1 = some .cell ∧ ((cellsFrom (s.heap.objs.size + 1) scope.names []).lookup y.1).isSome = true) := fun ⟨n, v⟩ hy => by
    rcases S.par n (List.of_mem_zip hy).1 with q | q
    · exact .inl q
    · exact .inr ⟨q, PySem.W.cellsFrom_some _ _ _ (.inl q)⟩
  refine codeAny_call_function hr.depth (KX _ _ lk) rfl S.co S.gen rfl (PySem.W.codeRec_of KX hcd) (hb _ _ _ _ ?_)
  refine wpAny_newFunctionEnv_cells S.kind hkind fun env he s1 x => ?_
  subst he
  refine ⟨lim.keeps x.toInCall.keep, codeAny_func ?_⟩
  obtain ⟨t, ht, hq⟩ := hbody A outer s H vs Q E (hr.deeper _) hsp
  have I : Inv (cxOf CX P w K mg base N qual scope f cdv A outer s H E) [] (start N vs) H s1 := inv_start S hr.hd e0 hl r x
  refine wpAny_mono (ht [] s1 (start N vs) H _ I hq) (fun fl s' hs => ?_) fun e s' hs => hs
  have fin : ∀ {σ' : St} {H' : Hp} {v : V} {u : Value}, Inv (cxOf CX P w K mg base N qual scope f cdv A outer s H E) [] σ' H' s' → RelV v u → Q v H' → CE outer P w H s Q u s' :=
    fun {σ' H' v u} J rv q => ⟨v, H', J.os, J.bare, J.base, J.hok, rv, q⟩
  cases fl with
  | ret u =>
    obtain ⟨v, σ', H', J, rv, q⟩ := hs
    exact fin J rv q
  | next =>
    obtain ⟨σ', H', J, q⟩ := hs
    exact fin (v := V.non) (u := Value.none) J rfl q
  | brk =>
    obtain ⟨_, _, _, q⟩ := hs
    exact False.elim q
  | cont =>
    obtain ⟨_, _, _, q⟩ := hs
    exact False.elim q
end L2
namespace L2
open PySem PySem.Spec PyProof.Rows
section
variable {X : Cx} {x : Str} {p pos : Pos} {e : Expr} {es : List Expr} {t : TA} {id T : String} {r : List V → Hp → VK → Prop}
def tCB (r : List V → Hp → VK → Prop) (t : TA) : TE := fun σ H Q => t σ H fun vs H1 => r vs H1 Q
theorem pe_callB (hc : CallR X (.builtin id) r) (hg : Gl X x) (hm : X.mg x = none) (hv : bootBuiltins x = some (.builtin id)) (ha : PA X (e :: es) t) (hn : x ≠ "__name__" := by decide) (hdb : (x == ("__debug__" : Str)) = false := by decide)
    (he : starEach (e :: es) X.env = (false, eval e X.env) :: starEach es X.env := by rfl) (hpl : (backTo pos (starEach es X.env)).any (·.1) = false := by rfl) : PE X (.Call (.Name x p) (e :: es) [] pos) (tCB r t) := by
  intro pins s σ H Q I h
  refine wpAny_Call_Name_kw (ld_blt I hg hm hv ?_ hn hdb)
  exact PyProof.Rows.callWith_builtin1 (thn (ha pos pins s σ H _ I h) fun us s1 ⟨vs, H1, I1, r1, q1⟩ => hc pins s1 σ H1 vs us Q I1 r1 q1) he hpl
theorem pe_callTy (hc : CallR X (.type T) r) (hg : Gl X x) (hm : X.mg x = none) (hv : bootBuiltins x = some (.type T)) (ha : PA X (e :: es) t) (hn : x ≠ "__name__" := by decide) (hdb : (x == ("__debug__" : Str)) = false := by decide)
    (he : starEach (e :: es) X.env = (false, eval e X.env) :: starEach es X.env := by rfl) (hpl : (backTo pos (starEach es X.env)).any (·.1) = false := by rfl) : PE X (.Call (.Name x p) (e :: es) [] pos) (tCB r t) := by
  intro pins s σ H Q I h
  refine wpAny_Call_Name_kw (ld_blt I hg hm hv ?_ hn hdb)
  exact PyProof.Rows.callWith_type1 (thn (ha pos pins s σ H _ I h) fun us s1 ⟨vs, H1, I1, r1, q1⟩ => hc pins s1 σ H1 vs us Q I1 r1 q1) he hpl
end
end L2
namespace HT
open PySem PyProof.Rows
def lexLt : List Int → List Int → Bool
  | [], [] => false
  | [], _ :: _ => true
  | _ :: _, [] => false
  | x :: xs, y :: ys => if x = y then lexLt xs ys else decide (x < y)
section
open PySem.SeqAt
open PySem.AutoSeq1 (wpAny_loadPart')
open PySem.MeetsSeq PySem.MeetsSeq2 PySem.MeetsSeq3
end
section
variable {prog : Program} {w : World} {A : Around} {E : Value → Shared → Prop} {s : Shared}
theorem cat_tup {t b : Addr} {vs ws : List Value} {Q : Value → Shared → Prop} (ht : IsTup s.heap t vs.toArray) (hb : IsTup s.heap b ws.toArray) (hv : vs ≠ [])
    (h1 : ws = [] → Q (.ref t) s) (h2 : ws ≠ [] → Q (.ref s.heap.objs.size) { s with heap := s.heap.push { cls := .type "tuple", data := .seq (vs ++ ws).toArray } })
    (hsz : vs.length + ws.length ≤ sizeLine) : wpAny (model prog w) A (binaryOp .Add (.ref t) (.ref b)) Q E s := by
  obtain ⟨⟨cls, dd, data, sl⟩, ho, hc, n, hd⟩ := id ht
  obtain ⟨⟨cls2, dd2, data2, sl2⟩, ho2, hc2, n2, hd2⟩ := id hb
  simp only at hc hd hc2 hd2
  subst hc hd hc2 hd2
  have e : vs.toArray ++ ws.toArray = (vs ++ ws).toArray := by simp
  by_cases hw : ws = []
  · exact concat_meets ⟨_, ho, rfl⟩ ⟨_, ho2, rfl⟩ noFill_tuple_add seq_tuple_add PySem.F.slot_tuple_add PySem.F.entry_tuple_add (PySem.F.args_tuple_add_2 _ _)
      (tuple_addW1 t b vs.toArray ws.toArray n n2 dd dd2 sl sl2 (by simpa using hv) (by simp [hw])) ⟨ho, ho2, h1 hw⟩
  · refine concat_meets ⟨_, ho, rfl⟩ ⟨_, ho2, rfl⟩ noFill_tuple_add seq_tuple_add PySem.F.slot_tuple_add PySem.F.entry_tuple_add (PySem.F.args_tuple_add_2 _ _)
      (tuple_addW2 t b vs.toArray ws.toArray n n2 dd dd2 sl sl2 (by simpa using hv) (by simpa using hw) (by rw [List.size_toArray, List.size_toArray]; exact hsz)) ⟨ho, ho2, ?_⟩
    rw [e]
    exact h2 hw
def sIx (n d : Nat) : Option Int → Nat
  | none => d
  | some v => if v < 0 then (v + (n : Int)).toNat else min v.toNat n
theorem sIx_none (n d : Nat) : sIx n d none = d := rfl
theorem sIx_nat (n d k : Nat) : sIx n d (some (k : Int)) = min k n := by
  show (if (k : Int) < 0 then ((k : Int) + (n : Int)).toNat else min (k : Int).toNat n) = min k n
  rw [if_neg (by omega), Int.toNat_natCast]
theorem sIx_le (n d : Nat) (hd : d ≤ n) (o : Option Int) : sIx n d o ≤ n := by
  cases o with
  | none => exact hd
  | some v =>
    show (if v < 0 then (v + (n : Int)).toNat else min v.toNat n) ≤ n
    by_cases hv : v < 0
    · rw [if_pos hv]; omega
    · rw [if_neg hv]; exact Nat.min_le_right _ _
theorem clip_eq (v : Int) (n d : Nat) : (if v < 0 then max (v + (n : Int)) 0 else min v (n : Int)) = ((sIx n d (some v) : Nat) : Int) := by
  show (if v < 0 then max (v + (n : Int)) 0 else min v (n : Int)) = (((if v < 0 then (v + (n : Int)).toNat else min v.toNat n) : Nat) : Int)
  by_cases hv : v < 0
  · simp only [if_pos hv]; omega
  · simp only [if_neg hv]; omega
theorem adjust_gen (lo hi : Option Int) (n : Nat) : Builtin.Slice.sliceAdjust lo hi 1 (n : Int) = (((sIx n 0 lo : Nat) : Int), ((sIx n n hi : Nat) : Int)) := by
  have h1 : ¬ ((1 : Int) < 0) := by omega
  unfold Builtin.Slice.sliceAdjust
  simp only [h1, if_false]
  refine Prod.ext ?_ ?_
  · cases lo with
    | none => rfl
    | some v => exact clip_eq v n 0
  · cases hi with
    | none => rfl
    | some v => exact clip_eq v n n
theorem places_gen (i j : Nat) : Builtin.Slice.slicePlaces (i : Int) (j : Int) 1 = j - i := by
  unfold Builtin.Slice.slicePlaces
  have h1 : (1 : Int) > 0 := by omega
  simp only [h1, if_true, Int.ediv_one]
  split <;> omega
theorem slicePart_ {v : Value} {o : Option Int} {Q : Option Int → Shared → Prop} (p : IsPart v o) (h : Q o s) : wpAny (model prog w) A (Builtin.Slice.slicePartIndex v) Q E s := by
  cases p with
  | none => exact slicePart_none h
  | int i t => exact slicePart_int h
theorem sliceApplied_gen {sl : Addr} {vl vu : Value} {lo hi : Option Int} {n : Nat} {Q : Int × Int × Nat → Shared → Prop} (hs : s.heap.IsSliceOf sl vl vu .none) (pl : IsPart vl lo) (pu : IsPart vu hi)
    (h : Q (((sIx n 0 lo : Nat) : Int), 1, sIx n n hi - sIx n 0 lo) s) : wpAny (model prog w) A (Builtin.Slice.sliceApplied (.ref sl) (pure (n : Int))) Q E s := by
  obtain ⟨os, hos, hcs, hds⟩ := id hs
  unfold Builtin.Slice.sliceApplied Builtin.Slice.sliceFields
  refine wpAny_bind (wpAny_bind (wpAny_field hos hds (x := vl) rfl (wpAny_bind (wpAny_field hos hds (x := vu) rfl (wpAny_bind (wpAny_field hos hds (x := .none) rfl (wpAny_pure ?_)))))))
  refine wpAny_bind (slicePart_none ?_)
  show wpAny _ _ (if ((1 : Int) == 0) = true then _ else _) _ _ s
  rw [if_neg (by decide)]
  refine wpAny_bind (slicePart_ pl (wpAny_bind (slicePart_ pu (wpAny_bind (wpAny_pure ?_)))))
  show wpAny _ _ (match Builtin.Slice.sliceAdjust lo hi 1 (n : Int) with | (lo, hi) => pure (lo, (1 : Int), Builtin.Slice.slicePlaces lo hi 1)) _ _ s
  rw [adjust_gen lo hi n]
  show wpAny _ _ (pure (((sIx n 0 lo : Nat) : Int), (1 : Int), Builtin.Slice.slicePlaces ((sIx n 0 lo : Nat) : Int) ((sIx n n hi : Nat) : Int) 1)) _ _ s
  rw [places_gen]
  exact wpAny_pure h
theorem pick_gen (xs : Array Value) (i k : Nat) : ((List.range k).filterMap fun (m : Nat) => xs[((i : Int) + (m : Int) * 1).toNat]?).toArray = ((xs.toList.drop i).take k).toArray := by
  have e : (fun (m : Nat) => xs[((i : Int) + (m : Int) * 1).toNat]?) = fun m => xs[i + m]? := by
    funext m
    have : ((i : Int) + (m : Int) * 1).toNat = i + m := by omega
    rw [this]
  rw [e]
  have := pick_run xs i k
  rw [List.filterMap_map] at this
  have e2 : ((fun x => xs[x]?) ∘ fun x => i + x) = fun m => xs[i + m]? := rfl
  rw [e2] at this
  rw [this]
theorem getItem_tuple_cut {t sl : Addr} {items : Array Value} {vl vu : Value} {lo hi : Option Int} {Q : Value → Shared → Prop} (ht : IsTup s.heap t items) (hs : s.heap.IsSliceOf sl vl vu .none) (pl : IsPart vl lo) (pu : IsPart vu hi)
    (hw : ¬ (sIx items.size 0 lo = 0 ∧ sIx items.size items.size hi = items.size))
    (h : Q (.ref s.heap.objs.size) { s with heap := s.heap.push { cls := .type "tuple", data := .seq ((items.toList.drop (sIx items.size 0 lo)).take (sIx items.size items.size hi - sIx items.size 0 lo)).toArray } })
    (hsz : items.size ≤ sizeLine) : wpAny (model prog w) A (getItem (.ref t) (.ref sl)) Q E s := by
  have htake : sizeOk (.seq ((items.toList.drop (sIx items.size 0 lo)).take (sIx items.size items.size hi - sIx items.size 0 lo)).toArray) := by
    show ((items.toList.drop (sIx items.size 0 lo)).take (sIx items.size items.size hi - sIx items.size 0 lo)).toArray.size ≤ sizeLine
    rw [List.size_toArray, List.length_take, List.length_drop, Array.length_toList]
    omega
  have hj : sIx items.size items.size hi ≤ items.size := sIx_le _ _ (Nat.le_refl _) hi
  obtain ⟨os, hos, hcs, hds⟩ := id hs
  have hTs : s.TypeIs (.ref sl) "slice" := ⟨os, hos, hcs⟩
  unfold getItem
  try with_reducible refine wpAny_holding ?_
  first | refine wpAny_bind (wpAny_pure ?_) | skip
  refine wpAny_bind (wpAny_sequenceKey ht.typeIs (by decide) ?_)
  refine wpAny_bind (wpAny_callSpecial?_slot (name := Str.ofString "__getitem__") ht.typeIs PyProof.Rows.slot_tuple_getitem
    (wpAny_call_entry PyProof.Rows.slot_tuple_getitem ht.typeIs entry_tuple_getitem ?_ (args_tuple_getitem _ _)))
  show wpAny _ _ (Builtin.Tuple.tupleItemsOf (.ref t) >>= _) _ _ s
  refine wpAny_bind (tupleItemsOf_ ht ?_)
  refine wpAny_bind (wpAny_typeOf hTs ?_)
  rw [if_pos (by decide)]
  refine wpAny_bind (sliceApplied_gen hs pl pu ?_)
  have hno : ¬ ((((sIx items.size 0 lo : Nat) : Int) == 0 && (1 : Int) == 1 && (sIx items.size items.size hi - sIx items.size 0 lo) == items.size) = true) := by
    intro q
    rw [Bool.and_eq_true, Bool.and_eq_true] at q
    have q1 : ((sIx items.size 0 lo : Nat) : Int) = 0 := eq_of_beq q.1.1
    have q2 : sIx items.size items.size hi - sIx items.size 0 lo = items.size := eq_of_beq q.2
    exact hw ⟨by omega, by omega⟩
  show wpAny _ _ (if (((sIx items.size 0 lo : Nat) : Int) == 0 && (1 : Int) == 1 && (sIx items.size items.size hi - sIx items.size 0 lo) == items.size) = true then _ else _) _ _ s
  rw [if_neg hno, pick_gen]
  first
    | exact wpAny_bind (m := Builtin.Tuple.tupleExact _) (wpAny_newObj_type (wpAny_pure ⟨_, rfl, wpAny_pure h⟩) htake)
    | exact wpAny_bind (m := Builtin.Tuple.tupleExact _) (wpAny_newObj_type (wpAny_bind (wpAny_pure (wpAny_pure ⟨_, rfl, wpAny_pure h⟩))) htake)
    | exact wpAny_bind (wpAny_bind (m := Builtin.Tuple.tupleExact _) (wpAny_newObj_type (wpAny_pure (wpAny_pure ⟨_, rfl, wpAny_pure h⟩)) htake))
    | exact wpAny_bind (wpAny_bind (m := Builtin.Tuple.tupleExact _) (wpAny_newObj_type (wpAny_pure ⟨_, rfl, wpAny_pure h⟩) htake))
end
end HT
namespace L2
open PySem PySem.Spec PyProof.Rows
abbrev TO := St → Hp → (Option Int → Hp → Prop) → Prop
def PO (X : Cx) (e : Option Expr) (t : TO) : Prop :=
  ∀ (pins : List (Addr × Obj)) (s : Shared) (σ : St) (H : Hp) (Q : Option Int → Hp → Prop), Inv X pins σ H s → t σ H Q →
    wpAny (model X.prog X.w) X.A (evalPart e X.env) (fun u s' => ∃ o H', Inv X pins σ H' s' ∧ IsPart u o ∧ Q o H') X.xe s
def tNoPart : TO := fun _ H Q => Q none H
def tPart (t : TE) : TO := fun σ H Q => t σ H fun x H1 => ∃ i, x = .int i ∧ Q (some i) H1
theorem intsAre_of {ns : List Int} : ∀ {us : List Value}, Vals (ns.map V.int) us → IntsAre us ns := by
  induction ns with
  | nil => intro us r; rw [List.map_nil] at r; cases r; exact .nil
  | cons n ns ih =>
    intro us r
    rw [List.map_cons] at r
    cases r with
    | cons r1 r2 =>
      obtain ⟨t, e⟩ := r1
      subst e
      exact .cons n t (ih r2)
section
variable {X : Cx} {e : Expr} {te : TE} {lo hi : Option Expr} {tl th : TO} {pos p2 : Pos}
theorem po_none : PO X none tNoPart := by
  intro pins s σ H Q I h
  rw [evalPart_none]
  exact wpAny_pure ⟨none, H, I, .none, h⟩
theorem po_some (h : PE X e te) : PO X (some e) (tPart te) := by
  intro pins s σ H Q I hw
  rw [evalPart_some]
  refine thn (h pins s σ H _ I hw) fun u s1 ⟨x, H1, I1, r1, q1⟩ => ?_
  obtain ⟨i, rfl, q⟩ := q1
  obtain ⟨t, rfl⟩ := r1
  exact ⟨some i, H1, I1, .int i t, q⟩
def SlR (X : Cx) (r : V → Option Int → Option Int → Hp → VK → Prop) : Prop :=
  ∀ (pins : List (Addr × Obj)) (s : Shared) (σ : St) (H : Hp) (x : V) (v vl vu : Value) (lo hi : Option Int) (sl : Addr) (Q : VK), Inv X pins σ H s → RelV x v → s.heap.IsSliceOf sl vl vu .none → IsPart vl lo → IsPart vu hi → r x lo hi H Q →
    ∃ T id, typeLookup (.type T) "__getitem__" = pure (some (.builtin id)) ∧ s.TypeIs v T ∧ wpAny (model X.prog X.w) X.A (getItem v (.ref sl)) (EP X pins σ Q) X.xe s
def tSl (r : V → Option Int → Option Int → Hp → VK → Prop) (te : TE) (tl th : TO) : TE := fun σ H Q => te σ H fun x H1 => tl σ H1 fun l H2 => th σ H2 fun u H3 => r x l u H3 Q
theorem pe_slice {r : V → Option Int → Option Int → Hp → VK → Prop} (hr : SlR X r) (he : PE X e te) (hl : PO X lo tl) (hu : PO X hi th) : PE X (.Subscript e (.Slice lo hi none p2) pos) (tSl r te tl th) := by
  intro pins s σ H Q I h
  refine Subscript_ (thn (he pins s σ H _ I h) fun v s1 ⟨x, H1, I1, r1, q1⟩ => ?_)
  refine wpAny_Slice (thn (hl pins s1 σ H1 _ I1 q1) fun vl s2 ⟨l, H2, I2, pl, q2⟩ => thn (hu pins s2 σ H2 _ I2 q2) fun vu s3 ⟨u, H3, I3, pu, q3⟩ => ?_)
  rw [evalPart_none]
  refine wpAny_pure ?_
  have I4 : Inv X pins σ H3 { s3 with heap := s3.heap.push { cls := .type "slice", data := .fields #[vl, vu, .none] } } := I3.kept (t' := s3.toks) fun b ob q => Heap.get?_push_of_some _ q
  obtain ⟨T, id, hT, ht, hg⟩ := hr pins { s3 with heap := s3.heap.push { cls := .type "slice", data := .fields #[vl, vu, .none] } } σ H3 x v vl vu l u s3.heap.objs.size Q I4 r1 (Heap.IsSliceOf.new ..) pl pu q3
  show wpAny (model X.prog X.w) X.A (subscriptTail e (.Slice lo hi none p2) v (.ref s3.heap.objs.size)) (EP X pins σ Q) X.xe { s3 with heap := s3.heap.push { cls := .type "slice", data := .fields #[vl, vu, .none] } }
  exact tail_any (ops := [.ref s3.heap.objs.size, v]) ht hT hg (by with_unfolding_all rfl)
def cutV (xs : List V) (lo hi : Option Int) : List V := (xs.drop (HT.sIx xs.length 0 lo)).take (HT.sIx xs.length xs.length hi - HT.sIx xs.length 0 lo)
theorem cutV_length (xs : List V) (lo hi : Option Int) : (cutV xs lo hi).length ≤ xs.length := by
  unfold cutV
  rw [List.length_take, List.length_drop]
  omega
def rSlT (K : PySem.W.Frag) : V → Option Int → Option Int → Hp → VK → Prop := fun x lo hi H Q => ∃ a xs, x = .ref a ∧ SqT K H a xs ∧
  ¬ (HT.sIx xs.length 0 lo = 0 ∧ HT.sIx xs.length xs.length hi = xs.length) ∧ ∀ p, H p = none → Q (.ref p) (upd H p (.tup (cutV xs lo hi)))
theorem sl_tup : SlR X (rSlT X.K) := by
  intro pins s σ H x v vl vu lo hi sl Q I rx hs pl pu h
  obtain ⟨a, xs, rfl, hx, hw, q⟩ := h
  cases rx
  obtain ⟨its, r, ht, hz⟩ := I.tuple hx
  have hlen : its.toArray.size = xs.length := by rw [List.size_toArray]; exact r.length.symm
  refine ⟨"tuple", _, PyProof.Rows.slot_tuple_getitem.lookup, ht.typeIs, ?_⟩
  refine HT.getItem_tuple_cut ht hs pl pu (by rw [hlen]; exact hw) ?_ (by rw [hlen]; exact hz)
  rw [hlen]
  refine ⟨.ref s.heap.objs.size, _, I.laid (t' := s.toks) (o := .tup (cutV xs lo hi)) (fun b ob q => Heap.get?_push_of_some _ q) (Nat.le_refl _) ?_, rfl, q _ (I.hok.fresh (Nat.le_refl _))⟩
  exact ⟨Nat.le_trans (cutV_length xs lo hi) hz, _, (r.drop (HT.sIx xs.length 0 lo)).take (HT.sIx xs.length xs.length hi - HT.sIx xs.length 0 lo), IsTup.new _ _⟩
def rLtT (K : PySem.W.Frag) : R2 := fun x y H Q => ∃ a b ns ms, x = .ref a ∧ y = .ref b ∧ SqT K H a (ns.map V.int) ∧ SqT K H b (ms.map V.int) ∧ Q (.bl (HT.lexLt ns ms)) H
def rCatT (K : PySem.W.Frag) : R2 := fun x y H Q => ∃ a b xs ys, x = .ref a ∧ y = .ref b ∧ SqT K H a xs ∧ SqT K H b ys ∧ xs ≠ [] ∧ xs.length + ys.length ≤ sizeLine ∧
  (ys = [] → Q (.ref a) H) ∧ (ys ≠ [] → ∀ p, H p = none → Q (.ref p) (upd H p (.tup (xs ++ ys))))
theorem Vals.nil_iff {xs : List V} {us : List Value} (r : Vals xs us) : us = [] ↔ xs = [] := by
  cases r with
  | nil => simp
  | cons _ _ => simp
theorem op_catT : OpR X (binaryOp .Add) (rCatT X.K) := by
  intro pins s σ H x y v u Q I rx ry h
  obtain ⟨a, b, xs, ys, rfl, rfl, ha, hb, hx, hz, q1, q2⟩ := h
  cases rx
  cases ry
  obtain ⟨its, r1, p1, _⟩ := I.tuple ha
  obtain ⟨its2, r2, p2, _⟩ := I.tuple hb
  refine HT.cat_tup p1 p2 (fun z => hx (r1.nil_iff.mp z)) (fun z => ⟨.ref a, H, I, rfl, q1 (r2.nil_iff.mp z)⟩) (fun z => ?_) (by rw [← r1.length, ← r2.length]; exact hz)
  refine ⟨.ref s.heap.objs.size, _, I.laid (t' := s.toks) (o := .tup (xs ++ ys)) (fun b ob q => Heap.get?_push_of_some _ q) (Nat.le_refl _) ?_, rfl, q2 (fun w => z (r2.nil_iff.mpr w)) _ (I.hok.fresh (Nat.le_refl _))⟩
  exact ⟨by rw [List.length_append]; exact hz, _, r1.append r2, IsTup.new _ _⟩
end
end L2
namespace L2
open PySem PySem.Spec PyProof.Rows
def ixN (n : Nat) (i : Int) : Option Nat := if 0 ≤ i then (if i < n then some i.toNat else none) else if -(n : Int) ≤ i then some (i + n).toNat else none
def atI {α : Type} (xs : List α) (i : Int) : Option α := (ixN xs.length i).bind fun j => xs[j]?
theorem ixN_seq {n : Nat} {i : Int} {j : Nat} (h : ixN n i = some j) : seqIndex? i n = some j ∧ j < n ∧ -(n : Int) ≤ i ∧ i < n := by
  unfold ixN at h
  by_cases h0 : 0 ≤ i
  · rw [if_pos h0] at h
    by_cases h1 : i < n
    · rw [if_pos h1] at h
      have e : i.toNat = j := Option.some.inj h
      exact ⟨by rw [seqIndex_of h0 h1, e], by omega, by omega, h1⟩
    · rw [if_neg h1] at h; cases h
  · rw [if_neg h0] at h
    by_cases h1 : -(n : Int) ≤ i
    · rw [if_pos h1] at h
      have e : (i + n).toNat = j := Option.some.inj h
      exact ⟨by rw [seqIndex_neg (by omega) h1, e], by omega, h1, by omega⟩
    · rw [if_neg h1] at h; cases h
theorem atI_get {α : Type} {xs : List α} {i : Int} {v : α} (h : atI xs i = some v) : ∃ j, seqIndex? i xs.length = some j ∧ xs[j]? = some v ∧ j < xs.length ∧ -(xs.length : Int) ≤ i ∧ i < xs.length := by
  unfold atI at h
  cases e : ixN xs.length i with
  | none => rw [e] at h; cases h
  | some j =>
    rw [e] at h
    obtain ⟨h1, h2, h3, h4⟩ := ixN_seq e
    exact ⟨j, h1, h, h2, h3, h4⟩
theorem atI_nat {α : Type} {xs : List α} {j : Nat} {v : α} (h : xs[j]? = some v) : atI xs (j : Int) = some v := by
  have hj : j < xs.length := (List.getElem?_eq_some_iff.mp h).1
  have e : ixN xs.length (j : Int) = some j := by
    unfold ixN
    rw [if_pos (by omega), if_pos (by omega)]; simp
  unfold atI; rw [e]; exact h
theorem atI_last {α : Type} (xs : List α) (v : α) : atI (xs ++ [v]) (-1) = some v := by
  have hl : (xs ++ [v]).length = xs.length + 1 := by simp
  have e : ixN (xs ++ [v]).length (-1) = some xs.length := by
    unfold ixN
    rw [hl, if_neg (by decide), if_pos (by omega)]
    congr 1
    omega
  unfold atI
  rw [e]
  show (xs ++ [v])[xs.length]? = some v
  simp
def PlainIx (b : Expr) : Prop := ∀ o i, subscripted b false o i = operate [o, i] (getItem o i)
def IxR (X : Cx) (r : R2) : Prop :=
  ∀ (value slice : Expr) (pins : List (Addr × Obj)) (s : Shared) (σ : St) (H : Hp) (x y : V) (v u : Value) (Q : VK), Inv X pins σ H s → RelV x v → RelV y u → r x y H Q →
    subscripted slice false v u = operate [v, u] (getItem v u) → wpAny (model X.prog X.w) X.A (subscriptTail value slice v u) (EP X pins σ Q) X.xe s
def MtR (X : Cx) (id : String) (r : V → List V → Hp → VK → Prop) : Prop :=
  ∀ (pins : List (Addr × Obj)) (s : Shared) (σ : St) (H : Hp) (x : V) (xs : List V) (v : Value) (us : List Value) (Q : VK), Inv X pins σ H s → RelV x v → Vals xs us → r x xs H Q →
    wpAny (model X.prog X.w) X.A (call (.builtin id) (v :: us)) (EP X pins σ Q) X.xe s
section
variable {X : Cx} {a b : Expr} {ta tb : TE} {pos : Pos}
theorem pe_ix {r : R2} (hr : IxR X r) (ha : PE X a ta) (hb : PE X b tb) (hs : PlainIx b) : PE X (.Subscript a b pos) (tOp r ta tb) := by
  intro pins s σ H Q I h
  exact Subscript_ (binT ha hb I h fun v u s2 x y H2 I2 rx ry q => hr a b pins s2 σ H2 x y v u Q I2 rx ry q (hs _ _))
def rIxL (K : PySem.W.Frag) : R2 := fun x y H Q => ∃ p xs i v, x = .ref p ∧ y = .int i ∧ SqL K H p xs ∧ atI xs i = some v ∧ Q v H
def rIxT (K : PySem.W.Frag) : R2 := fun x y H Q => ∃ p xs i v, x = .ref p ∧ y = .int i ∧ SqT K H p xs ∧ atI xs i = some v ∧ Q v H
def rIxS : R2 := fun x y H Q => ∃ z i c, x = .str z ∧ y = .int i ∧ z.length ≤ sizeLine ∧ atI z.cps.toList i = some c ∧ Q (.str ⟨#[c]⟩) H
theorem ix_list : IxR X (rIxL X.K) := by
  intro value slice pins s σ H x y v u Q I rx ry h hs
  obtain ⟨p, xs, i, z, rfl, rfl, hq, he, q⟩ := h
  cases rx
  obtain ⟨t, rfl⟩ := ry
  obtain ⟨its, r, pl, hz⟩ := I.list hq
  obtain ⟨j, h1, h2, h3, h4, h5⟩ := atI_get he
  obtain ⟨w, ew, rw'⟩ := r.get h2
  have hl := r.length
  have hn := line63
  have fin : EP X pins σ Q w s := ⟨z, H, I, rw', q⟩
  by_cases h0 : 0 ≤ i
  · have hj : i.toNat = j := by
      rw [seqIndex_of h0 h5] at h1
      exact Option.some.inj h1
    exact item_listR pl.isList h0 (by omega) (by rw [hj]; simpa using ew) fin hs
  · have hj : (i + (its.toArray.size : Int)).toNat = j := by
      rw [seqIndex_neg (by omega) h4] at h1
      rw [List.size_toArray, ← hl]
      exact Option.some.inj h1
    exact subscriptTail_builtinR (x := w) pl.isList.typeIs slot_list_getitem.lookup
      (wpAny_getItem_list_neg (Q := fun r s' => r = w ∧ EP X pins σ Q r s') pl.isList (by omega) (by rw [List.size_toArray] <;> omega) (by omega) (by rw [hj]; simpa using ew) ⟨rfl, fin⟩) hs
theorem ix_tup : IxR X (rIxT X.K) := by
  intro value slice pins s σ H x y v u Q I rx ry h hs
  obtain ⟨p, xs, i, z, rfl, rfl, hq, he, q⟩ := h
  cases rx
  obtain ⟨t, rfl⟩ := ry
  obtain ⟨its, r, pl, hz⟩ := I.tuple hq
  obtain ⟨j, h1, h2, h3, h4, h5⟩ := atI_get he
  obtain ⟨w, ew, rw'⟩ := r.get h2
  have hl := r.length
  have hn := line63
  have fin : EP X pins σ Q w s := ⟨z, H, I, rw', q⟩
  exact subscriptTail_builtinR (x := w) pl.typeIs slot_tuple_getitem.lookup
    (getItem_tuple (j := j) (Q := fun r s' => r = w ∧ EP X pins σ Q r s') pl (by omega) (by omega) (by rw [List.size_toArray, ← hl]; exact h1) (by simpa using ew) ⟨rfl, fin⟩) hs
def rIx (K : PySem.W.Frag) : R2 := fun x y H Q => rIxL K x y H Q ∨ rIxT K x y H Q ∨ rIxS x y H Q
theorem mapSeq_set (its : List Value) (n j : Nat) (u : Value) : Obj.mapSeq (·.setIfInBounds j u) { cls := .type "list", data := .seq its.toArray n } = { cls := .type "list", data := .seq (its.set j u).toArray n } := by
  simp [Obj.mapSeq]
theorem Inv.lst {pins : List (Addr × Obj)} {σ : St} {H : Hp} {s : Shared} {p : Addr} {xs : List V} (I : Inv X pins σ H s) (h : H p = some (.lst xs)) :
    ∃ (its : List Value) (n : Nat), Vals xs its ∧ s.heap.get? p = some { cls := .type "list", data := .seq its.toArray n } ∧ xs.length ≤ sizeLine := by
  obtain ⟨z, its, n, r, e⟩ := I.hok p _ h
  exact ⟨its, n, r, e, z⟩
theorem Inv.lstUpd {pins : List (Addr × Obj)} {σ : St} {H : Hp} {s : Shared} {p : Addr} {xs ys : List V} {its its' : List Value} {n n' : Nat} {f : Obj → Obj} (I : Inv X pins σ H s) (h : H p = some (.lst xs))
    (ho : s.heap.get? p = some { cls := .type "list", data := .seq its.toArray n }) (hf : f { cls := .type "list", data := .seq its.toArray n } = { cls := .type "list", data := .seq its'.toArray n' }) (r : Vals ys its') (hz : ys.length ≤ sizeLine) (t : Nat) :
    Inv X pins σ (upd H p (.lst ys)) { s with heap := s.heap.update p f, toks := t } := by
  have e : (s.heap.update p f).get? p = some { cls := .type "list", data := .seq its'.toArray n' } := by
    rw [Heap.get?_update_self f ho (by rw [hf] <;> rfl), hf]
  refine I.write (x := p) (e := p) (by rw [h]; trivial) (.inl rfl) (fun b u hb q => (Heap.get?_update_other _ _ (Ne.symm hb)).trans q) ⟨_, e⟩ ?_
  exact ⟨hz, its', n', r, e⟩
def rSetL : V → V → V → Hp → (Hp → Prop) → Prop := fun o i v H Q => ∃ p xs k j, o = .ref p ∧ i = .int k ∧ H p = some (.lst xs) ∧ ixN xs.length k = some j ∧ Q (upd H p (.lst (xs.set j v)))
theorem set_list : PSet X rSetL := by
  intro pins s σ H o i v ov iv u Q I ro ri rv h
  obtain ⟨p, xs, k, j, rfl, rfl, hp, hj, q⟩ := h
  cases ro
  obtain ⟨t, rfl⟩ := ri
  obtain ⟨its, n, r, ho, hz⟩ := I.lst hp
  obtain ⟨h1, h2, h3, h4⟩ := ixN_seq hj
  have hl := r.length
  have hn := line63
  have I' : Inv X pins σ (upd H p (.lst (xs.set j v))) { s with heap := s.heap.update p (Obj.mapSeq (·.setIfInBounds j u)) } :=
    I.lstUpd hp ho (mapSeq_set its n j u) (r.set rv j) (by rw [List.length_set]; exact hz) s.toks
  by_cases h0 : 0 ≤ k
  · have hk : k.toNat = j := by
      rw [seqIndex_of h0 h4] at h1
      exact Option.some.inj h1
    exact PySem.W.ki_setAt ho h0 (by omega) (by rw [List.size_toArray, ← hl]; exact h4) (by rw [hk]; exact ⟨_, I', q⟩)
  · have hk : (k + (its.toArray.size : Int)).toNat = j := by
      rw [seqIndex_neg (by omega) h3] at h1
      rw [List.size_toArray, ← hl]
      exact Option.some.inj h1
    exact PySem.W.ki_setBack ho (by omega) (by rw [List.size_toArray, ← hl]; exact h3) (by omega) (by rw [hk]; exact ⟨_, I', q⟩)
def rSlL (K : PySem.W.Frag) : V → Option Int → Option Int → Hp → VK → Prop := fun x lo hi H Q => ∃ a xs, x = .ref a ∧ SqL K H a xs ∧ ∀ p, H p = none → Q (.ref p) (upd H p (.lst (cutV xs lo hi)))
def flatV : V → Bool
  | .non => true
  | .bl _ => true
  | .int _ => true
  | .str _ => true
  | _ => false
def eqV : V → V → Bool
  | .non, .non => true
  | .bl a, .bl b => a == b
  | .bl a, .int b => (if a then 1 else 0) == b
  | .int a, .bl b => a == (if b then 1 else 0)
  | .int a, .int b => a == b
  | .str a, .str b => a == b
  | _, _ => false
theorem eqAt_V {A : Around} {s : Shared} {y x : V} {u v : Value} (ry : RelV y u) (rx : RelV x v) (fy : flatV y = true) (fx : flatV x = true) : SeqAt.EqAt A s u v (eqV y x) := by
  cases y with
  | non =>
    cases ry
    cases x with
    | non => cases rx; exact SeqAt.EqAt.same _
    | bl b => cases rx; exact SeqAt.EqAt.none_bool b
    | int b => obtain ⟨t, rfl⟩ := rx; exact SeqAt.EqAt.none_int b t
    | str b => obtain ⟨t, rfl⟩ := rx; exact SeqAt.EqAt.none_str b t
    | _ => exact absurd (show false = true from fx) Bool.false_ne_true
  | bl a =>
    cases ry
    cases x with
    | non => cases rx; exact SeqAt.EqAt.bool_none a
    | bl b => cases rx; exact SeqAt.EqAt.bool_bool a b
    | int b => obtain ⟨t, rfl⟩ := rx; exact SeqAt.EqAt.bool_int a b t
    | str b => obtain ⟨t, rfl⟩ := rx; exact SeqAt.EqAt.bool_str a b t
    | _ => exact absurd (show false = true from fx) Bool.false_ne_true
  | int a =>
    obtain ⟨t', rfl⟩ := ry
    cases x with
    | non => cases rx; exact SeqAt.EqAt.int_none a t'
    | bl b => cases rx; exact SeqAt.EqAt.int_bool a t' b
    | int b => obtain ⟨t, rfl⟩ := rx; exact SeqAt.EqAt.int_int a t' b t
    | str b => obtain ⟨t, rfl⟩ := rx; exact SeqAt.EqAt.int_str a t' b t
    | _ => exact absurd (show false = true from fx) Bool.false_ne_true
  | str a =>
    obtain ⟨t', rfl⟩ := ry
    cases x with
    | non => cases rx; exact SeqAt.EqAt.str_none a t'
    | bl b => cases rx; exact SeqAt.EqAt.str_bool a t' b
    | int b => obtain ⟨t, rfl⟩ := rx; exact SeqAt.EqAt.str_int a t' b t
    | str b => obtain ⟨t, rfl⟩ := rx; exact SeqAt.EqAt.str_str a t' b t
    | _ => exact absurd (show false = true from fx) Bool.false_ne_true
  | _ => exact absurd (show false = true from fy) Bool.false_ne_true
def eqU (x : V) (u : Value) : Bool := match u with
  | .none => eqV .non x
  | .bool b => eqV (.bl b) x
  | .int i _ => eqV (.int i) x
  | .str z _ => eqV (.str z) x
  | _ => false
theorem eqU_of {x y : V} {u : Value} (r : RelV y u) (f : flatV y = true) : eqU x u = eqV y x := by
  cases y with
  | non => cases r; rfl
  | bl b => cases r; rfl
  | int i => obtain ⟨t, rfl⟩ := r; rfl
  | str z => obtain ⟨t, rfl⟩ := r; rfl
  | _ => exact absurd (show false = true from f) Bool.false_ne_true
theorem any_eqU {x : V} : ∀ {xs : List V} {us : List Value}, Vals xs us → xs.all flatV = true → us.any (eqU x) = xs.any fun y => eqV y x
  | _, _, .nil, _ => rfl
  | y :: xs, u :: us, .cons r t, f => by
    rw [List.all_cons, Bool.and_eq_true] at f
    rw [List.any_cons, List.any_cons, eqU_of r f.1, any_eqU t f.2]
theorem mem_eqAt {A : Around} {s : Shared} {x : V} {v : Value} (rx : RelV x v) (fx : flatV x = true) : ∀ {xs : List V} {us : List Value}, Vals xs us → xs.all flatV = true → ∀ u ∈ us, SeqAt.EqAt A s u v (eqU x u)
  | _, _, .nil, _ => fun u hu => by cases hu
  | y :: xs, u :: us, .cons r t, f => fun u' hu => by
    rw [List.all_cons, Bool.and_eq_true] at f
    rcases List.mem_cons.mp hu with rfl | hu
    · rw [eqU_of r f.1]; exact eqAt_V r rx f.1 fx
    · exact mem_eqAt rx fx t f.2 u' hu
def inV (x : V) (xs : List V) : Bool := xs.any fun y => eqV y x
def rIn (K : PySem.W.Frag) (neg : Bool) : R2 := fun x y H Q => ∃ p xs, y = .ref p ∧ (SqL K H p xs ∨ SqT K H p xs) ∧ flatV x = true ∧ xs.all flatV = true ∧ Q (.bl (if neg then !inV x xs else inV x xs)) H
theorem op_in_seq : OpR X (compareOp .In) (rIn X.K false) := by
  intro pins s σ H x y v u Q I rx ry h
  obtain ⟨p, xs, rfl, hq, fx, fs, q⟩ := h
  cases ry
  rcases hq with hq | hq
  · obtain ⟨its, r, pl, hz⟩ := I.list hq
    refine SeqAt.in_listAt (eqU x) pl.isList (fun w hw => mem_eqAt rx fx r fs w (by simpa using hw)) ⟨.bl _, H, I, rfl, ?_⟩
    rw [show its.toArray.any (eqU x) = its.any (eqU x) by simp, any_eqU r fs]
    exact q
  · obtain ⟨its, r, pl, hz⟩ := I.tuple hq
    refine SeqAt.in_tupleAt (eqU x) pl (fun w hw => mem_eqAt rx fx r fs w (by simpa using hw)) ⟨.bl _, H, I, rfl, ?_⟩
    rw [show its.toArray.any (eqU x) = its.any (eqU x) by simp, any_eqU r fs]
    exact q
theorem op_notIn_seq : OpR X (compareOp .NotIn) (rIn X.K true) := by
  intro pins s σ H x y v u Q I rx ry h
  obtain ⟨p, xs, rfl, hq, fx, fs, q⟩ := h
  cases ry
  rcases hq with hq | hq
  · obtain ⟨its, r, pl, hz⟩ := I.list hq
    refine SeqAt.notIn_listAt (eqU x) pl.isList (fun w hw => mem_eqAt rx fx r fs w (by simpa using hw)) ⟨.bl _, H, I, rfl, ?_⟩
    rw [show its.toArray.any (eqU x) = its.any (eqU x) by simp, any_eqU r fs]
    exact q
  · obtain ⟨its, r, pl, hz⟩ := I.tuple hq
    refine SeqAt.notIn_tupleAt (eqU x) pl (fun w hw => mem_eqAt rx fx r fs w (by simpa using hw)) ⟨.bl _, H, I, rfl, ?_⟩
    rw [show its.toArray.any (eqU x) = its.any (eqU x) by simp, any_eqU r fs]
    exact q
theorem call_len_seq : CallR X (.builtin "len") (fun xs H Q => ∃ p ys, xs = [.ref p] ∧ (SqL X.K H p ys ∨ SqT X.K H p ys) ∧ Q (.int ys.length) H) := by
  intro pins s σ H xs us Q I r h
  obtain ⟨p, ys, rfl, hq, q⟩ := h
  obtain ⟨u, rfl, rx⟩ := vals1 r
  cases rx
  have hn := line63
  rcases hq with hq | hq
  · obtain ⟨its, r', pl, hz⟩ := I.list hq
    have hlen := r'.length
    exact Calls.call_len_list pl.isList (by simp only [List.size_toArray] <;> omega) ⟨.int ys.length, H, I.tok _, ⟨s.toks + 1, by rw [List.size_toArray, hlen]⟩, q⟩
  · obtain ⟨its, r', pl, hz⟩ := I.tuple hq
    have hlen := r'.length
    exact len_tuple pl (by simp only [List.size_toArray] <;> omega) ⟨.int ys.length, H, I.tok _, ⟨s.toks + 1, by rw [List.size_toArray, hlen]⟩, q⟩
theorem call_list_of : CallR X (.type "list") (fun xs H Q => ∃ p ys, xs = [.ref p] ∧ (SqL X.K H p ys ∨ SqT X.K H p ys) ∧ ∀ l, H l = none → Q (.ref l) (upd H l (.lst ys))) := by
  intro pins s σ H xs us Q I r h
  obtain ⟨p, ys, rfl, hq, q⟩ := h
  obtain ⟨u, rfl, rx⟩ := vals1 r
  cases rx
  have fin : ∀ (its : List Value), Vals ys its → ys.length ≤ sizeLine → ∀ (h' : Heap) (c' : Nat), (∀ b o', s.heap.get? b = some o' → h'.get? b = some o') →
      h'.get? s.heap.objs.size = some { cls := .type "list", dict := none, data := .seq its.toArray c', slots := #[] } → EP X pins σ Q (.ref s.heap.objs.size) { s with heap := h' } := fun its r' hz h' c' kp e =>
    ⟨.ref s.heap.objs.size, _, I.laid (t' := s.toks) kp (Nat.le_refl _) (show ObjOk X.prog X.w _ h' _ (.lst ys) from ⟨hz, its, c', r', e⟩), rfl, q _ (I.hok.fresh (Nat.le_refl _))⟩
  rcases hq with hq | hq
  · obtain ⟨its, r', pl, hz⟩ := I.list hq
    have hlen := r'.length
    obtain ⟨o, ho, hc, n, hd⟩ := pl.isList
    exact call_list_seq p (.inl rfl) ho hc hd (fun h' c' kp e => fin its r' hz h' c' kp e) (by simp only [List.size_toArray] <;> omega)
  · obtain ⟨its, r', pl, hz⟩ := I.tuple hq
    have hlen := r'.length
    obtain ⟨o, ho, hc, n, hd⟩ := pl
    exact call_list_seq p (.inr rfl) ho hc hd (fun h' c' kp e => fin its r' hz h' c' kp e) (by simp only [List.size_toArray] <;> omega)
theorem call_tuple_of : CallR X (.type "tuple") (fun xs H Q => ∃ p ys, xs = [.ref p] ∧ ((SqL X.K H p ys ∧ ∀ l, H l = none → Q (.ref l) (upd H l (.tup ys))) ∨ (SqT X.K H p ys ∧ Q (.ref p) H))) := by
  intro pins s σ H xs us Q I r h
  obtain ⟨p, ys, rfl, h⟩ := h
  obtain ⟨u, rfl, rx⟩ := vals1 r
  cases rx
  rcases h with ⟨hq, q⟩ | ⟨hq, q⟩
  · obtain ⟨its, r', pl, hz⟩ := I.list hq
    have hlen := r'.length
    refine call_tuple_list pl.isList (fun h' kp => ?_) (by simp only [List.size_toArray] <;> omega)
    have I1 : Inv X pins σ H { s with heap := h' } := I.kept (t' := s.toks) kp
    have I2 : Inv X pins σ (upd H h'.objs.size (.tup ys)) { s with heap := h'.push { cls := .type "tuple", data := .seq its.toArray } } :=
      I1.laid (t' := s.toks) (fun b o e => Heap.get?_push_of_some _ e) (Nat.le_refl _) (show ObjOk X.prog X.w _ _ _ (.tup ys) from ⟨hz, its, r', IsTup.new _ _⟩)
    exact ⟨.ref h'.objs.size, _, I2, rfl, q _ (I1.hok.fresh (Nat.le_refl _))⟩
  · obtain ⟨its, r', pl, hz⟩ := I.tuple hq
    exact call_tuple_same pl ⟨.ref p, H, I, rfl, q⟩
def tyV (K : PySem.W.Frag) (T : String) (x : V) (H : Hp) : Prop := match x with
  | .str _ => T = "str"
  | .int _ => T = "int"
  | .ref p => (T = "list" ∧ ∃ xs, SqL K H p xs) ∨ (T = "tuple" ∧ ∃ o, K.lookup p = some o ∧ o.cls = .type "tuple" ∧ o.dict = none) ∨
      (T = "dict" ∧ ((∃ kvs, H p = some (.dK kvs)) ∨ ∃ kvs, H p = some (.dT kvs))) ∨ (T = "set" ∧ ∃ S n, H p = some (.set S n))
  | _ => False
theorem tyV_is {pins : List (Addr × Obj)} {σ : St} {H : Hp} {s : Shared} {T : String} {x : V} {v : Value} (I : Inv X pins σ H s) (r : RelV x v) (ty : tyV X.K T x H) :
    s.TypeIs v T ∧ ∀ a, v = .ref a → ∃ ob, s.heap.get? a = some ob ∧ ob.dict = none := by
  cases x with
  | str z =>
    obtain ⟨t, rfl⟩ := r
    cases (show T = "str" from ty)
    exact ⟨typeIs_str s z t, fun _ e => nomatch e⟩
  | int i =>
    obtain ⟨t, rfl⟩ := r
    cases (show T = "int" from ty)
    exact ⟨typeIs_int s i t, fun _ e => nomatch e⟩
  | ref p =>
    cases r
    rcases ty with ⟨rfl, xs, hq⟩ | ⟨rfl, o, hk, hc, hd⟩ | ⟨rfl, hk⟩ | ⟨rfl, S, n, hk⟩
    · obtain ⟨its, _, pl, _⟩ := I.list hq
      refine ⟨pl.isList.typeIs, fun a e => ?_⟩
      cases e
      obtain ⟨o, n, e, c, hd, _⟩ := pl
      exact ⟨o, e, hd⟩
    · refine ⟨⟨o, I.kIn p o hk, hc⟩, fun a e => ?_⟩
      cases e
      exact ⟨o, I.kIn _ o hk, hd⟩
    · have z : ∃ o, s.heap.get? p = some o ∧ o.ExactDict := by
        rcases hk with ⟨kvs, hk⟩ | ⟨kvs, hk⟩
        · obtain ⟨_, _, _, _, o, _, _, e, ex, _⟩ := I.hok p _ hk
          exact ⟨o, e, ex⟩
        · obtain ⟨_, _, _, _, o, _, _, e, ex, _⟩ := I.hok p _ hk
          exact ⟨o, e, ex⟩
      obtain ⟨o, e, ex⟩ := z
      refine ⟨⟨o, e, ex.1⟩, fun a e2 => ?_⟩
      cases e2
      exact ⟨o, e, ex.2.1⟩
    · obtain ⟨o, _, _, _, e, ex, _⟩ := I.hok p _ hk
      refine ⟨⟨o, e, ex.1⟩, fun a e2 => ?_⟩
      cases e2
      exact ⟨o, e, ex.2.1⟩
  | _ => exact False.elim ty
def tBM0 (K : PySem.W.Frag) (T : String) (r : V → List V → Hp → VK → Prop) (to : TE) : TE := fun σ H Q => to σ H fun x H1 => tyV K T x H1 ∧ r x [] H1 Q
def tBM (K : PySem.W.Frag) (T : String) (r : V → List V → Hp → VK → Prop) (to : TE) (t : TA) : TE := fun σ H Q => to σ H fun x H1 => tyV K T x H1 ∧ t σ H1 fun xs H2 => r x xs H2 Q
variable {o e : Expr} {es : List Expr} {to : TE} {t : TA} {name : Str} {apos cpos : Pos} {T id : String} {r : V → List V → Hp → VK → Prop}
theorem pe_bm (pa : PlainAttrs T) (slot : Slot T name id) (hty : typeOf (.builtin id) = pure (.type "method_descriptor")) (hm : MtR X id r) (ho : PE X o to) (ha : PA X (e :: es) t)
    (hbase : attributeBase o name X.env (eval o X.env) = eval o X.env := by rfl)
    (hfew : ((backTo cpos (starEach (e :: es) X.env)).all (fun x => !x.1) && (backToKw cpos (keywordEach [] X.env)).all (fun x => x.1.isSome)
      && decide ((e :: es).length + ([] : List Keyword).length + (if ([] : List Keyword).isEmpty then 0 else 1) < 30)) = true := by rfl)
    (hline : (apos.endLine == cpos.line) = true := by rfl) (hs : starEach (e :: es) X.env = (false, eval e X.env) :: starEach es X.env := by rfl) (hplain : (backTo cpos (starEach es X.env)).any (·.1) = false := by rfl) :
    PE X (.Call (.Attribute o name apos) (e :: es) [] cpos) (tBM X.K T r to t) := by
  intro pins s σ H Q I h
  refine wpAny_Call_method_late hbase hfew hline rfl (thn (ho pins s σ H _ I h) fun v s1 ⟨x, H1, I1, r1, ty, q1⟩ => ?_)
  obtain ⟨h1, h2⟩ := tyV_is I1 r1 ty
  refine ⟨T, id, pa, slot, hty, h1, h2, ?_⟩
  have hA := ha cpos pins s1 σ H1 _ I1 q1
  rw [hs] at hA ⊢
  refine Calls.callWith_builtin (by show (false || (backTo cpos (starEach es X.env)).any (·.1)) = false; rw [hplain] <;> rfl) (Calls.evalArgs_plain ?_)
  exact thn hA fun us s2 ⟨vs, H2, I2, r2, q2⟩ => hm pins s2 σ H2 x vs v us Q I2 r1 r2 q2
end
end L2
namespace L2
open PySem PySem.Spec PyProof.Rows
def MtM (X : Cx) (id : String) (r : V → List V → Hp → VK → Prop) : Prop :=
  ∀ (pins : List (Addr × Obj)) (s : Shared) (σ : St) (H : Hp) (x : V) (xs : List V) (v : Value) (us : List Value) (Q : VK), Inv X pins σ H s → RelV x v → Vals xs us → r x xs H Q →
    wpAny (model X.prog X.w) X.A (call (.builtin id) (v :: us)) (EP X pins σ Q) X.xe s
theorem Vals.one : ∀ {x : V} {us : List Value}, Vals [x] us → ∃ u, us = [u] ∧ RelV x u
  | _, _, .cons r .nil => ⟨_, rfl, r⟩
theorem Vals.rep {xs : List V} {us : List Value} (h : Vals xs us) : ∀ k : Nat, Vals (List.replicate k xs).flatten (List.replicate k us).flatten
  | 0 => .nil
  | k + 1 => by
    rw [List.replicate_succ, List.replicate_succ, List.flatten_cons, List.flatten_cons]
    exact Vals.append h (Vals.rep h k)
theorem foldl_rep (its : List Value) : ∀ (k : Nat) (acc : List Value),
    List.foldl (fun x1 x2 => x1 ++ x2) acc.toArray (List.replicate k its.toArray) = (acc ++ (List.replicate k its).flatten).toArray
  | 0, acc => by simp
  | k + 1, acc => by
    have e : acc.toArray ++ its.toArray = (acc ++ its).toArray := by simp
    have e2 : (acc ++ its) ++ (List.replicate k its).flatten = acc ++ (List.replicate (k + 1) its).flatten := by
      rw [List.replicate_succ, List.flatten_cons, List.append_assoc]
    rw [← e2, ← foldl_rep its k (acc ++ its), ← e, List.replicate_succ, List.foldl_cons]
section
variable {X : Cx} {pins : List (Addr × Obj)} {σ : St} {H : Hp} {s : Shared} {l b : Addr} {xs ys zs : List V}
theorem Inv.lset {its its' : List Value} {n : Nat} {f : Array Value → Array Value} {t' : Nat} (I : Inv X pins σ H s) (hH : H l = some (.lst xs))
    (e : s.heap.get? l = some { cls := .type "list", data := .seq its.toArray n }) (hf : f its.toArray = its'.toArray) (hv : Vals ys its') (hz : ys.length ≤ sizeLine) :
    Inv X pins σ (upd H l (.lst ys)) { s with heap := s.heap.update l (Obj.mapSeq f), toks := t' } := by
  have q := PySem.IsL.update e f
  rw [hf] at q
  refine I.write (x := l) (e := l) (by rw [hH]; exact trivial) (.inl rfl) (fun b' u hb hu => (Heap.get?_update_other s.heap (Obj.mapSeq f) (Ne.symm hb)).trans hu) ⟨_, q⟩ ?_
  exact ⟨hz, its', _, hv, q⟩
theorem Inv.lnew {its : List Value} {t' : Nat} (I : Inv X pins σ H s) (hv : Vals ys its) (hz : ys.length ≤ sizeLine) :
    Inv X pins σ (upd H s.heap.objs.size (.lst ys)) { s with heap := s.heap.push { cls := .type "list", data := .seq its.toArray }, toks := t' } :=
  I.laid (fun _ _ q => Heap.get?_push_of_some _ q) (Nat.le_refl _) ⟨hz, its, 0, hv, Heap.get?_push_size _ rfl⟩
theorem Inv.fresh (I : Inv X pins σ H s) : H s.heap.objs.size = none := I.hok.fresh (Nat.le_refl _)
theorem Inv.lstM (I : Inv X pins σ H s) (hH : H l = some (.lst xs)) : xs.length ≤ sizeLine ∧ ∃ (its : List Value) (n : Nat), Vals xs its ∧ xs.length = its.length ∧ s.heap.get? l = some { cls := .type "list", data := .seq its.toArray n } := by
  obtain ⟨z, its, n, r, e⟩ := I.hok l _ hH
  exact ⟨z, its, n, r, r.length, e⟩
end
section
variable {X : Cx}
def rAppend : V → List V → Hp → VK → Prop := fun x vs H Q => ∃ l xs y, x = .ref l ∧ vs = [y] ∧ H l = some (.lst xs) ∧ xs.length < sizeLine ∧ Q .non (upd H l (.lst (xs ++ [y])))
theorem mt_append : MtM X "list.append" rAppend := by
  intro pins s σ H x vs v us Q I rx rv h
  obtain ⟨l, xs, y, rfl, rfl, hH, hz, q⟩ := h
  cases rx
  obtain ⟨u, rfl, ru⟩ := rv.one
  obtain ⟨z, its, n, r, hl, e⟩ := I.lstM hH
  refine call_meets F.slot_list_append ⟨_, e, rfl⟩ F.entry_list_append (F.args_list_append_2 _ _) (PySem.list_append l its.toArray n u (by rw [List.size_toArray]; omega)) ⟨e, ?_⟩
  refine ⟨.non, _, I.lset (its' := its ++ [u]) hH e (by simp) (r.append (.cons ru .nil)) ?_, rfl, q⟩
  rw [List.length_append, List.length_singleton]
  omega
def rExtend : V → List V → Hp → VK → Prop := fun x vs H Q => ∃ l b xs zs, x = .ref l ∧ vs = [.ref b] ∧ H l = some (.lst xs) ∧ H b = some (.lst zs) ∧ xs.length + zs.length ≤ sizeLine ∧ Q .non (upd H l (.lst (xs ++ zs)))
def rPop : V → List V → Hp → VK → Prop := fun x vs H Q => ∃ l xs y, x = .ref l ∧ vs = [] ∧ H l = some (.lst xs) ∧ xs[xs.length - 1]? = some y ∧ Q y (upd H l (.lst xs.dropLast))
def rPopAt : V → List V → Hp → VK → Prop := fun x vs H Q => ∃ l xs i k y, x = .ref l ∧ vs = [.int i] ∧ H l = some (.lst xs) ∧ -(2 ^ 63) ≤ i ∧ i < 2 ^ 63 ∧ seqIndex? i xs.length = some k ∧ xs[k]? = some y ∧ Q y (upd H l (.lst (xs.eraseIdx k)))
def rReverse : V → List V → Hp → VK → Prop := fun x vs H Q => ∃ l xs, x = .ref l ∧ vs = [] ∧ H l = some (.lst xs) ∧ Q .non (upd H l (.lst xs.reverse))
def rClear : V → List V → Hp → VK → Prop := fun x vs H Q => ∃ l xs, x = .ref l ∧ vs = [] ∧ H l = some (.lst xs) ∧ Q .non (upd H l (.lst []))
def rCat : R2 := fun x y H Q => ∃ l b xs zs, x = .ref l ∧ y = .ref b ∧ H l = some (.lst xs) ∧ H b = some (.lst zs) ∧ xs.length + zs.length ≤ sizeLine ∧ ∀ p, H p = none → Q (.ref p) (upd H p (.lst (xs ++ zs)))
theorem op_cat : OpR X (binaryOp .Add) rCat := by
  intro pins s σ H x y v u Q I rx ry h
  obtain ⟨l, b, xs, zs, rfl, rfl, hH, hB, hz, q⟩ := h
  cases rx
  cases ry
  obtain ⟨z, its, n, r, hl, e⟩ := I.lstM hH
  obtain ⟨z2, its2, n2, r2, hl2, e2⟩ := I.lstM hB
  refine PySem.P.add_list e e2 ?_ (by rw [List.size_toArray, List.size_toArray]; omega)
  have ea : its.toArray ++ its2.toArray = (its ++ its2).toArray := by simp
  rw [ea]
  exact ⟨.ref _, _, I.lnew (t' := s.toks) (r.append r2) (by rw [List.length_append]; omega), rfl, q _ I.fresh⟩
def rRep : R2 := fun x y H Q => ∃ l k xs, x = .ref l ∧ y = .int k ∧ H l = some (.lst xs) ∧ -(2 ^ 63) ≤ k ∧ k < 2 ^ 63 ∧ xs.length * k.toNat ≤ sizeLine ∧
  ∀ p, H p = none → Q (.ref p) (upd H p (.lst (List.replicate k.toNat xs).flatten))
theorem len_rep {α : Type} (xs : List α) (k : Nat) : (List.replicate k xs).flatten.length = k * xs.length := by
  induction k with
  | zero => simp
  | succ k ih => rw [List.replicate_succ, List.flatten_cons, List.length_append, ih, Nat.succ_mul, Nat.add_comm]
end
section
variable {prog : Program} {w : World} {A : Around} {E : Value → Shared → Prop} {s : Shared}
set_option maxRecDepth 100000 in
end
section
variable {X : Cx}
end
end L2
namespace Att
open PySem PySem.W PySem.Calls PyProof.Rows
theorem ints_of_wellAll {P : Params} {h : Heap} : ∀ (ns : List Int) (vs : List Value), WellAll P h vs (ns.map WData.int) → IntsAre vs ns := by
  intro ns
  induction ns with
  | nil =>
    intro vs w
    rw [List.map_nil] at w
    cases w
    exact .nil
  | cons n ns ih =>
    intro vs w
    rw [List.map_cons] at w
    cases w with
    | cons a b =>
      cases a
      exact .cons _ _ (ih _ b)
theorem script_of {l : OpenLaw} {n : Nat} (hn : l.most = some n) {P : Params} {h : Heap} {args : List WData} {vals : List Value}
    (hpre : l.row.toRowW.claim.pre args = true) (hwl : WellAll P h vals args) :
    ∃ a vs ns, vals = [Value.ref a] ∧ args = [WData.list (ns.map WData.int)] ∧ h.get? a = some { cls := .type "list", data := .seq vs.toArray } ∧ IntsAre vs ns ∧ ns.length ≤ n := by
  have hsh : WShape.hasAll [] args [.list .int] = true := (pre_splitW hpre).1
  have hc : l.pre.holds [] { args := args } = true := (pre_splitW hpre).2
  obtain ⟨d, r, rfl, h1, h2⟩ := hasAllW_cons hsh
  obtain rfl := hasAllW_nil h2
  obtain ⟨xs, rfl, h3⟩ := hasW_list h1
  obtain ⟨ns, rfl⟩ := items_int h3
  have hlen : ns.length ≤ n := by
    unfold OpenLaw.pre at hc
    have h4 : (WTm.not (.lt (.lit (.int (n : Int))) (.len (.arg 0)))).holds [] { args := [.list (ns.map .int)] } = true := by
      have h4 := (holds_andW hc).1
      rw [hn] at h4
      exact h4
    have h5 := condW_of h4 (w_not (w_lt w_lit (w_len_list (w_arg rfl))))
    rw [List.length_map] at h5
    refine Nat.le_of_not_lt fun q => ?_
    have q' : (n : Int) < ((ns.length : Nat) : Int) := by omega
    first
      | (rw [decide_eq_true q'] at h5; exact absurd h5 (by decide))
      | (simp at h5; omega)
  cases hwl with
  | cons w1 w2 =>
    cases w2
    cases w1 with
    | list ho hall => exact ⟨_, _, ns, rfl, rfl, ho, ints_of_wellAll ns _ hall, hlen⟩
theorem post_true (l : OpenLaw) (args : List WData) : l.row.toRowW.claim.post args (.bool true) args = true :=
  postW_of (r := l.row.toRowW) (X := (true == true))
    (show WShape.has [] (.bool true) .bool = true by first | rfl | decide | simp [WShape.has, WShape.arms, WShape.armsAll])
    (show (WTm.eq .res (.lit (.bool true))).value [] { args := args, res := some (.bool true), after := args } = some (.bool (true == true)) from w_eq_bool (w_res rfl) w_lit) rfl
theorem attach_call {l : OpenLaw} {n : Nat} {q : Program} {loose : List Str} {XP : (Str → Option Value) → Heap → Prop} {YP : World → Heap → Prop} {d : DefRec}
    (hn : l.most = some n) (hdf : d.params.defaults = [])
    (call : ∀ (w : World) (s₀ s₁ : Shared) (mg mb : Str → Option Value) (fa : Addr) (o : Obj) (pm cd doc : Value) (a : Addr) (vs : List Value) (ns : List Int),
      Ground q loose [] XP w s₀ mg mb s₁.heap → YP w s₁.heap →
      s₁.heap.get? fa = some o → o.data = .func (docDef d.name d.params d.body d.scope pm cd doc) → s₁.heap.CodeRec cd d.name → mg d.name = some (.ref fa) →
      s₁.heap.get? a = some { cls := .type "list", data := .seq vs.toArray } → IntsAre vs ns → ns.length ≤ n → s₁.gens = #[] →
      codeAny (model l.prog w) callerA (.call (.ref fa) ⟨[.ref a], []⟩) (fun r s' => r = .ok (.ret (.bool true)) ∧ OldK s₁.heap s'.heap ∧ s'.os = s₁.os ∧ AllBare s'.gens) s₁) :
    WalkO q loose XP YP l.row.toRowW d [] (fun f vs => PySem.call f vs) := by
  intro w s₀ s₁ mg mb G Y fa o pm cd doc dV kV ho hd hcd hD hmg hg args vals as hpre hlay hrd hwl hlo
  obtain rfl : dV = .none := Dflts.none hD hdf
  obtain rfl : kV = .none := Dflts.noKw hD
  obtain ⟨a, vs, ns, rfl, rfl, hobj, hints, hlen⟩ := script_of hn hpre hwl
  refine enter_call (codeAny_mono (call w s₀ s₁ mg mb fa o pm cd doc a vs ns G Y ho (fd_plain hd) hcd hmg hobj hints hlen hg) fun r s' hq => ?_)
  obtain ⟨rfl, h2, h3, h4⟩ := hq
  exact ⟨.inl ⟨.bool true, .bool true, [], rfl, fun _ => rfl, .bool true, post_true l _, fun _ => ⟨List.Pairwise.nil, fun _ hm => (nomatch hm)⟩⟩, h2, h3, h4⟩
section
variable {prog : Program} {w : World} {A : Around} {E : Value → Shared → Prop} {s : Shared} {K : Frag}
def noObjs (h : Heap) : Heap := { h with objs := #[] }
def ledger (h : Heap) (L d : Addr) : List (Addr × Obj) := (List.range h.objs.size).filterMap fun a => if a = L ∨ a = d then none else (h.get? a).map fun o => (a, o)
end
end Att
namespace L2
open PySem PySem.Spec PyProof.Rows
theorem vals_ints : ∀ {vs : List Value} {ns : List Int}, IntsAre vs ns → Vals (ns.map V.int) vs
  | _, _, .nil => .nil
  | _, _, .cons n t h => .cons ⟨t, rfl⟩ (vals_ints h)
def Only (H : Hp) : Prop := ∀ b, H b = none ∨ ∃ o xs, H b = some (.frz o (.lst xs))
theorem law_call {P : Program} {w : World} {K : PySem.W.Frag} {mg mb : Str → Option Value} {CX : CXT} {k : Nat} {fa a : Addr} {fd : FuncData} {x : Str} {sp : Sp} {s₁ : Shared} {vs : List Value} {ns : List Int}
    (KX : K.In s₁.heap) (hns : s₁.heap.Ns mainGlobals mg) (hb : s₁.heap.Ns builtinsNs mb) (hbb : ∀ x : Str, x ≠ "__name__" → mb x = bootBuiltins x) (hlim : s₁.heap.NoLimit) (hg : s₁.gens = #[])
    (ha : s₁.heap.get? a = some { cls := .type "list", data := .seq vs.toArray }) (hi : IntsAre vs ns) (hl : ns.length ≤ sizeLine) (hr : Room k callerA)
    (F : ∀ base : Heap, K.In base → base.Ns mainGlobals mg → FnOk P w K mg base CX k fa fd [x] sp) (hbind : ∀ (s : Shared) (u : Value), BindsTo s fd ⟨[u], []⟩ [(x, u)])
    (hsp : ∀ H : Hp, Only H → SqL K H a (ns.map V.int) → sp [.ref a] H (fun v _ => v = .bl true) fun _ _ _ => False)
    (hCX : ∀ H e s', CX [] H s₁ (fun _ _ _ => False) e s' → False) :
    codeAny (model P w) callerA (.call (.ref fa) ⟨[.ref a], []⟩) (fun r s' => r = .ok (.ret (.bool true)) ∧ OldK s₁.heap s'.heap ∧ s'.os = s₁.os ∧ AllBare s'.gens) s₁ := by
  have rv := vals_ints hi
  have lenV := hi.length
  have core : ∀ H : Hp, Only H → SqL K H a (ns.map V.int) → HOk P w H s₁.heap → (∀ b, H b ≠ none → b = a) → (H a ≠ none → K.lookup a = none) →
      codeAny (model P w) callerA (.call (.ref fa) ⟨[.ref a], []⟩) (fun r s' => r = .ok (.ret (.bool true)) ∧ OldK s₁.heap s'.heap ∧ s'.os = s₁.os ∧ AllBare s'.gens) s₁ := by
    intro H hO hS hok hA hK
    have base_of : ∀ {b : Addr} {o : Obj}, s₁.heap.get? b = some o → H b = none → (hidT s₁.heap H).get? b = some o := fun e n => hidT_get e n
    have noA : ∀ {b : Addr} {o : Obj} {es : Array DictEntry} {ep : Nat}, s₁.heap.get? b = some o → o.data = .dict es ep → H b = none := fun {b o es ep} e d => by
      cases q : H b with
      | none => rfl
      | some u =>
        have e' : b = a := hA b (by rw [q]; simp)
        subst e'
        rw [ha] at e; cases e
        have d' : Data.seq vs.toArray _ = Data.dict es ep := d
        cases d'
    have nsK : ∀ {b : Addr} {m : Str → Option Value}, s₁.heap.Ns b m → (hidT s₁.heap H).Ns b m := fun {b m} ⟨o, es, ep, e, d, r⟩ => ⟨o, es, ep, base_of e (noA e d), d, r⟩
    have hKb : K.In (hidT s₁.heap H) := fun b o e => base_of (KX b o e) (by
      cases q : H b with
      | none => rfl
      | some u =>
        have e' : b = a := hA b (by rw [q]; simp)
        subst e'
        rw [hK (by rw [q]; simp)] at e; cases e)
    have hM : Mod K mg (hidT s₁.heap H) := ⟨hKb, nsK hns, ⟨mb, nsK hb, hbb⟩, let ⟨mc, h1, h2⟩ := hlim; ⟨mc, nsK h1, h2⟩⟩
    have e0 : Env0 P w K mg (hidT s₁.heap H) callerA [] s₁ H := ⟨rfl, hM, fun b o e => of_hidT e, Nat.le_of_eq (hidT_size _ _), trivial, fun b hb => absurd (show b ∈ ([] : List Addr) from hb) (by simp), hok, .of_eq hg⟩
    refine codeAny_mono ((F _ hKb (nsK hns)).run callerA [] s₁ H ⟨[.ref a], []⟩ [.ref a] [.ref a] _ _ hr e0 (hbind s₁ (.ref a)) (.cons rfl .nil) (hsp H hO hS)) fun r s' h => ?_
    cases r with
    | error e => exact (hCX H e s' h).elim
    | ok fl =>
      cases fl with
      | next => exact False.elim h
      | brk => exact False.elim h
      | cont => exact False.elim h
      | ret u =>
        obtain ⟨v, H', os, bare, un, hok', r', q⟩ := h
        have q' : v = .bl true := q
        subst q'
        obtain rfl : u = Value.bool true := r'
        refine ⟨rfl, OldK.of_keep fun b o e => ?_, os, bare⟩
        cases q : H b with
        | none => exact un.keep b o e q (by intro z; exact absurd (show b ∈ ([] : List Addr) from z) (by simp)) (by simp)
        | some u =>
          rcases hO b with z | ⟨ob, xs, z⟩
          · rw [q] at z; cases z
          · have z2 := un.frzs b ob _ z
            obtain ⟨e1, _⟩ := hok b _ z
            obtain ⟨e2, _⟩ := hok' b _ z2
            rw [e] at e1; cases e1
            exact e2
  cases hk : K.lookup a with
  | some o =>
    have e := KX a o hk
    rw [ha] at e
    cases e
    refine core (fun _ => none) (fun _ => .inl rfl) (.inr ⟨_, vs.toArray, _, hk, rfl, rfl, rfl, by rw [List.size_toArray, lenV]; exact hl, by simpa using rv⟩) (fun b u z => by have z' : (none : Option HO) = some u := z; cases z') (fun b z => absurd rfl z) fun z => absurd rfl z
  | none =>
    refine core (fun b => if b = a then some (.frz { cls := .type "list", data := .seq vs.toArray } (.lst (ns.map V.int))) else none) (fun b => ?_) (.inl (.inr ⟨{ cls := .type "list", data := .seq vs.toArray }, if_pos rfl⟩)) (fun b u z => ?_) (fun b z => ?_) fun _ => hk
    · by_cases hb : b = a
      · exact .inr ⟨_, _, if_pos hb⟩
      · exact .inl (if_neg hb)
    · by_cases hb : b = a
      · have z' := (if_pos hb).symm.trans z
        cases z'
        subst hb
        exact ⟨ha, by rw [List.length_map]; exact hl, vs, _, rv, ha⟩
      · have z' := (if_neg hb).symm.trans z
        cases z'
    · by_cases hb : b = a
      · exact hb
      · exact absurd (if_neg hb) z
end L2
namespace L2
open PySem PySem.Spec PyProof.Rows
abbrev KOf {K : PySem.W.Frag} {h : Heap} (_ : K.In h) : PySem.W.Frag := K
theorem walk_of {l : PySem.W.OpenLaw} {n k : Nat} {q : Program} {loose : List Str} {XP : (Str → Option Value) → Heap → Prop} {YP : World → Heap → Prop} {d : DefRec} {K : Params → PySem.W.Frag} {CX : World → CXT} {sp : World → Sp} {x : Str}
    (hn : l.most = some n) (hn2 : n ≤ sizeLine) (hdf : d.params.defaults = []) (hr : Room k callerA)
    (hY : ∀ (w : World) (h : Heap), YP w h → (K w.params).In h)
    (F : ∀ (w : World) (mg : Str → Option Value) (fa : Addr) (h : Heap), (K w.params).In h → h.Ns mainGlobals mg → mg d.name = some (.ref fa) →
      ∃ fd : FuncData, (∀ (s : Shared) (u : Value), BindsTo s fd ⟨[u], []⟩ [(x, u)]) ∧
        ∀ base : Heap, (K w.params).In base → base.Ns mainGlobals mg → FnOk l.prog w (K w.params) mg base (CX w) k fa fd [x] (sp w))
    (hsp : ∀ (w : World) (H : Hp) (a : Addr) (ns : List Int), ns.length ≤ n → Only H → SqL (K w.params) H a (ns.map V.int) → sp w [.ref a] H (fun v _ => v = .bl true) fun _ _ _ => False)
    (hCX : ∀ (w : World) (H : Hp) (s : Shared) (e : Value) (s' : Shared), CX w [] H s (fun _ _ _ => False) e s' → False) :
    PySem.W.WalkO q loose XP YP l.row.toRowW d [] (fun f vs => PySem.call f vs) := by
  refine Att.attach_call hn hdf fun w s₀ s₁ mg mb fa o pm cd doc a vs ns G Y ho hd hcd hmg hobj hints hlen hg => ?_
  have KX := hY w _ Y
  obtain ⟨fd, hb, hF⟩ := F w mg fa _ KX G.T.g hmg
  exact law_call KX G.T.g G.T.b G.T.builtins G.T.nolimit hg hobj hints (Nat.le_trans hlen hn2) hr hF hb (fun H hO hS => hsp w H a ns hlen hO hS) fun H e s' => hCX w H s₁ e s'
end L2
namespace L2
open PySem PySem.Spec PyProof.Rows
def inClass (s : Stmt) (j : Nat) : Stmt := match s with
  | .ClassDef _ _ _ body _ _ _ _ _ _ _ => body.getD j (.Pass ⟨0, 0, 0, 0⟩)
  | _ => .Pass ⟨0, 0, 0, 0⟩
def defArgs (s : Stmt) : Arguments := match s with
  | .FunctionDef _ a _ _ _ _ _ _ _ _ => a
  | _ => { posonlyargs := [], args := [], vararg := none, kwonlyargs := [], kw_defaults := [], kwarg := none, defaults := [] }
def defBody (s : Stmt) : List Stmt := match s with
  | .FunctionDef _ _ b _ _ _ _ _ _ _ => b
  | _ => []
def defScope (s : Stmt) : Scope := match s with
  | .FunctionDef _ _ _ _ _ _ sc _ _ _ => sc
  | _ => { kind := .function, names := [], isGenerator := false, isCoroutine := false }
abbrev CX0 : CXT := fun _ _ _ _ _ _ => False
abbrev E0 : XK := fun _ _ _ => False
theorem pass0 {X : Cx} : Passes CX0 X E0 := fun _ _ _ _ _ _ _ h => h.elim
structure Fun (K : PySem.W.Frag) (x qual : Str) (st : Stmt) (f : Addr) (fd : FuncData) : Prop where
  ex : ∃ (oc : Value) (od : Option Addr) (kV doc pm : Value) (an : Option Addr) (cdv ct : Value) (osl : Array (Option Value)),
    fd = PySem.W.fnOf x qual (defArgs st) (defBody st) (defScope st) .none kV doc pm an cdv ct ∧ K.lookup f = some ⟨oc, od, .func fd, osl⟩ ∧ PySem.W.codeIn K cdv qual = true
  kp : PySem.W.keepIn K (.ref f) = true
section
variable {P : Program} {w : World} {K : PySem.W.Frag} {mg : Str → Option Value} {base : Heap}
theorem Fun.ok {x qual : Str} {st : Stmt} {f : Addr} {fd : FuncData} {N ps : List Str} {k : Nat} {sp : Sp} (F : Fun K x qual st f fd) (S : FnScope N ps (defScope st)) (len : ∀ vs H Q E, sp vs H Q E → vs.length = ps.length)
    (hbody : ∀ (cdv : Value) (A : Around) (outer : List Env) (s : Shared) (H : Hp) (vs : List V) (Q : VK) (E : XK), Room k (A.deeper (envOfC qual (defScope st) s.heap.objs.size f cdv)) → sp vs H Q E →
      ∃ t, PSs (cxOf CX0 P w K mg base N qual (defScope st) f cdv A outer s H E).nox (defBody st) t ∧ t { nx := fun _ H' => Q .non H', rt := Q } (start N vs) H) : FnOk P w K mg base CX0 (k + 1) f fd ps sp := by
  obtain ⟨oc, od, kV, doc, pm, an, cdv, ct, osl, rfl, lk, hcd⟩ := F.ex
  refine fn_of lk hcd S len fun A outer s H vs Q E hr hsp => ?_
  obtain ⟨t, h, q⟩ := hbody cdv A outer s H vs Q E hr hsp
  exact ⟨t, h.nox, q⟩
theorem Fun.binds {x qual : Str} {st : Stmt} {f : Addr} {fd : FuncData} {ps : List Str} (F : Fun K x qual st f fd)
    (h : ∀ (kV doc pm : Value) (an : Option Addr) (cdv ct : Value) (us : List Value), us.length = ps.length → bindArgs (PySem.W.fnOf x qual (defArgs st) (defBody st) (defScope st) .none kV doc pm an cdv ct) ⟨us, []⟩ = pure (ps.zip us)) : Binds K fd ps [] := by
  obtain ⟨oc, od, kV, doc, pm, an, cdv, ct, osl, rfl, lk, hcd⟩ := F.ex
  exact .all (h kV doc pm an cdv ct)
theorem fun_mk {x qual : Str} {st : Stmt} {f : Addr} {oc : Value} {od an : Option Addr} {osl : Array (Option Value)} {kV doc pm cdv ct : Value} (l : K.lookup f = some ⟨oc, od, .func (PySem.W.fnOf x qual (defArgs st) (defBody st) (defScope st) .none kV doc pm an cdv ct), osl⟩)
    (c : PySem.W.codeIn K cdv qual = true) (k : PySem.W.keepIn K (.ref f) = true) : Fun K x qual st f (PySem.W.fnOf x qual (defArgs st) (defBody st) (defScope st) .none kV doc pm an cdv ct) := ⟨⟨oc, od, kV, doc, pm, an, cdv, ct, osl, rfl, l, c⟩, k⟩
end
section
variable {X : Cx}
theorem pv (i : Nat) {x : Str} {pos : Pos} (hN : X.N[i]? = some x := by rfl) (hv : Vis X.env.scope x := by first | exact Or.inl rfl | exact Or.inr (Or.inl rfl) | exact Or.inr (Or.inr rfl)) (hd : (x == ("__debug__" : Str)) = false := by decide)
    (hcd : (x == ("__classdict__" : Str)) = false := by decide) : PE X (.Name x pos) (tVar i) := pe_var hN hv hd hcd
end
theorem iteF {A B : Prop} (h : B) : if false = true then A else B := by
  rw [if_neg Bool.false_ne_true]
  exact h
theorem iteT {A B : Prop} (h : A) : if true = true then A else B := by
  rw [if_pos rfl]
  exact h
theorem ite2 {c A B : Prop} [Decidable c] (h1 : c → A) (h2 : ¬ c → B) : if c then A else B := by
  by_cases h : c
  · rw [if_pos h]
    exact h1 h
  · rw [if_neg h]
    exact h2 h
def Same (H H' : Hp) : Prop := ∀ b o, H b = some o → H' b = some o
theorem Same.refl (H : Hp) : Same H H := fun _ _ h => h
theorem Same.trans {H H1 H2 : Hp} (a : Same H H1) (b : Same H1 H2) : Same H H2 := fun c o h => b c o (a c o h)
theorem Same.free {H H' : Hp} (e : Same H H') {l : Addr} (h : H' l = Option.none) : H l = Option.none := by
  cases q : H l with
  | none => rfl
  | some o =>
    rw [e l o q] at h
    cases h
theorem Same.seq {K : PySem.W.Frag} {H H' : Hp} {a : Addr} {xs : List V} (e : Same H H') (h : SqL K H a xs) : SqL K H' a xs := by
  rcases h with (h | ⟨o, h⟩) | h
  · exact .inl (.inl (e _ _ h))
  · exact .inl (.inr ⟨o, e _ _ h⟩)
  · exact .inr h
end L2

set_option Elab.async false
set_option linter.all false
set_option maxRecDepth 100000
set_option maxHeartbeats 4000000
namespace L2
open PySem PySem.Spec PyProof.Rows
theorem comp_turns {P : Program} {w : World} {A : Around} {R : Result → Shared → Prop} {s : Shared} {el tg src : Expr} {tests : List Expr} {sc : Scope} {ps : Pos} {itv av : Value} {ce : Env} (J : Nat → Shared → Prop)
    (turn : ∀ n s, J n s → wpAny (model P w) A (pyNext itv) (fun r s1 => match r with
      | none => R (.ok .next) s1
      | some v => wpAny (model P w) A (letOwnedTupleGo tg itv v) (fun _ s2 => wpAny (model P w) A (assign tg ce v) (fun _ s3 =>
          wpAny (model P w) A (forIn tests true fun c r => if r = true then do let ok ← isTrue c ce (eval c ce); pure (ForInStep.yield ok) else pure (ForInStep.yield r)) (fun ok s4 =>
            if ok = true then wpAny (model P w) A (eval el ce) (fun y s5 => wpAny (model P w) A (call (.builtin "list.append") [av, y]) (fun _ s6 => ∃ m, m < n ∧ J m s6) (fun _ _ => False) s5) (fun _ _ => False) s4
            else ∃ m, m < n ∧ J m s4) (fun _ _ => False) s3) (fun _ _ => False) s2) (fun _ _ => False) s1) (fun _ _ => False) s)
    (n : Nat) (h : J n s) : codeAny (model P w) A (.compLoop (.ListComp el [⟨tg, src, tests, 0⟩] sc ps) 0 itv av ce) R s := by
  refine codeAny_loop rfl J (fun n s hJ => ?_) n h
  show wpAny _ A ((compTurn (.ListComp el [⟨tg, src, tests, 0⟩] sc ps) 0 itv av ce).onRaise (fun x => do noteFrame x ce; theTreesLotGoes x)) _ _ s
  refine wpAny_noted ?_
  rw [compTurn_list]
  refine wpAny_bind (wpAny_standAt (wpAny_bind (wpAny_mono (turn n s hJ) (fun r s1 h1 => ?_) fun _ _ z => z.elim)))
  cases r with
  | none => exact wpAny_pure h1
  | some v =>
    refine wpAny_bind (wpAny_mono h1 (fun _ s2 h2 => ?_) fun _ _ z => z.elim)
    refine wpAny_bind (wpAny_mono h2 (fun _ s3 h3 => wpAny_bind (wpAny_mono h3 (fun ok s4 h4 => ?_) fun _ _ z => z.elim)) fun _ _ z => z.elim)
    cases ok with
    | false => exact wpAny_pure ⟨rfl, h4⟩
    | true =>
      exact wpAny_bind (wpAny_bind (wpAny_mono h4 (fun y s5 h5 => wpAny_bind (wpAny_mono h5 (fun _ s6 h6 => wpAny_pure (wpAny_pure ⟨rfl, h6⟩)) fun _ _ z => z.elim)) fun _ _ z => z.elim))
theorem clo_step (env : Env) : ∀ (l : List (Str × NameKind)) (acc : List (Str × Addr)), (∀ n, (n, NameKind.free) ∈ l → ∃ c, env.cells.lookup n = some c) →
    ∃ cl, (forIn l acc (fun (p : Str × NameKind) (cs : List (Str × Addr)) => (do
      if (p.2 == NameKind.free) = true then do let c ← cellOf env p.1; pure (ForInStep.yield ((p.1, c) :: cs)) else pure (ForInStep.yield cs) : Sem (ForInStep (List (Str × Addr)))))) = pure cl ∧
      ∀ n c, cl.lookup n = some c ↔ (((n, NameKind.free) ∈ l ∧ env.cells.lookup n = some c) ∨ ((n, NameKind.free) ∉ l ∧ acc.lookup n = some c))
  | [], acc, _ => ⟨acc, rfl, fun n c => by simp⟩
  | (x, k) :: r, acc, h => by
    rw [List.forIn_cons]
    cases hk : (k == NameKind.free) with
    | false =>
      have hne : k ≠ .free := by intro e; rw [e] at hk; cases hk
      obtain ⟨cl, e, q⟩ := clo_step env r acc fun n hn => h n (List.mem_cons_of_mem _ hn)
      refine ⟨cl, ?_, fun n c => ?_⟩
      · simp only [Bool.false_eq_true, if_false]
        exact e
      · rw [q n c]
        have : (n, NameKind.free) ∈ (x, k) :: r ↔ (n, NameKind.free) ∈ r := by
          constructor
          · intro hm
            rcases List.mem_cons.mp hm with z | z
            · injection z with _ z2
              exact absurd z2.symm hne
            · exact z
          · exact List.mem_cons_of_mem _
        rw [this]
    | true =>
      have he : k = .free := by cases k <;> first | rfl | cases hk
      subst he
      obtain ⟨c0, hc0⟩ := h x List.mem_cons_self
      obtain ⟨cl, e, q⟩ := clo_step env r ((x, c0) :: acc) fun n hn => h n (List.mem_cons_of_mem _ hn)
      refine ⟨cl, ?_, fun n c => ?_⟩
      · simp only [if_true, cellOf, hc0]
        exact e
      · rw [q n c]
        by_cases hx : n = x
        · subst hx
          constructor
          · rintro (⟨_, z⟩ | ⟨_, z⟩)
            · exact .inl ⟨List.mem_cons_self, z⟩
            · rw [List.lookup_cons, beq_self_eq_true] at z
              exact .inl ⟨List.mem_cons_self, hc0.trans z⟩
          · rintro (⟨_, z⟩ | ⟨z, _⟩)
            · by_cases hm : (n, NameKind.free) ∈ r
              · exact .inl ⟨hm, z⟩
              · refine .inr ⟨hm, ?_⟩
                rw [List.lookup_cons, beq_self_eq_true]
                exact hc0.symm.trans z
            · exact absurd List.mem_cons_self z
        · have : (n, NameKind.free) ∈ (x, NameKind.free) :: r ↔ (n, NameKind.free) ∈ r := by
            constructor
            · intro hm
              rcases List.mem_cons.mp hm with z | z
              · injection z with z1 _
                exact absurd z1 hx
              · exact z
            · exact List.mem_cons_of_mem _
          rw [this, List.lookup_cons, beq_false_of_ne hx]
theorem clo_of {env : Env} {sc : Scope} (h : ∀ n, (n, NameKind.free) ∈ sc.names → ∃ c, env.cells.lookup n = some c) :
    ∃ cl, closureFor sc env = pure cl ∧ ∀ n c, cl.lookup n = some c ↔ ((n, NameKind.free) ∈ sc.names ∧ env.cells.lookup n = some c) := by
  obtain ⟨cl, e, q⟩ := clo_step env sc.names [] h
  refine ⟨cl, ?_, fun n c => ?_⟩
  · unfold closureFor
    exact (congrArg (fun z : Sem (List (Str × Addr)) => z >>= fun r => pure r) e)
  · rw [q n c]
    simp
theorem look_map (f : Str → NameKind → NameKind) (x : Str) : ∀ l : List (Str × NameKind), (l.map fun p => (p.1, f p.1 p.2)).lookup x = (l.lookup x).map (f x)
  | [] => rfl
  | (n, k) :: r => by
    rw [List.map_cons, List.lookup_cons, List.lookup_cons]
    cases h : x == n with
    | true =>
      have e : x = n := by simpa using h
      subst e
      rfl
    | false => exact look_map f x r
theorem look_relabel (sc : Scope) (env : Env) (x : Str) : (relabel sc env).names.lookup x = (sc.names.lookup x).map fun k => if (k == NameKind.free && env.scope.kind == .function && env.kindOf x == some .cell) = true then NameKind.cell else k := by
  rw [← look_map (fun x k => if (k == NameKind.free && env.scope.kind == .function && env.kindOf x == some .cell) = true then NameKind.cell else k)]
  show List.lookup x (sc.names.map _) = _
  congr 1
  apply List.map_congr_left
  rintro ⟨n, k⟩ _
  dsimp only
  split <;> rfl
abbrev cxC (X : Cx) (N : List Str) (sc : Scope) (cl : List (Str × Addr)) (C : Addr) (s : Shared) (H : Hp) (ex : List Addr) (pn : List (Addr × Obj)) : Cx where
  prog := X.prog
  w := X.w
  K := X.K
  mg := X.mg
  base := X.base
  A := X.A
  N := N
  s₀ := s
  H₀ := H
  env := compEnvC sc cl C X.env
  outer := X.stack
  stack := X.stack
  ex := ex
  fn := fun _ => false
  calm := X.calm
  pn := pn
  xe := fun _ _ => False
structure CScope (X : Cx) (sc : Scope) (N : List Str) (nt : Nat) (cap : List Nat) : Prop where
  kind : sc.kind = .function
  nocell : ∀ x ∈ sc.names, x.2 ≠ .cell
  names : ∀ x ∈ sc.names, x.2 = .local → sc.names.lookup x.1 = some .local
  frees : ∀ x ∈ sc.names, x.2 = .free → sc.names.lookup x.1 = some .free ∧ (X.env.scope.names.lookup x.1 = some .cell ∨ X.env.scope.names.lookup x.1 = some .free)
  len : N.length = nt + cap.length
  capN : ∀ (k : Nat) j, cap[k]? = some j → ∃ x, X.N[j]? = some x ∧ N[nt + k]? = some x ∧ (x, NameKind.free) ∈ sc.names
def startC (nt : Nat) (cap : List Nat) (σ : St) : St := List.replicate nt none ++ cap.map fun j => (σ[j]?).getD none
def PF (X : Cx) (tests : List Expr) (t : TT) : Prop :=
  ∀ (pins : List (Addr × Obj)) (s : Shared) (σ : St) (H : Hp) (Q : Bool → Hp → Prop), Inv X pins σ H s → t σ H Q →
    wpAny (model X.prog X.w) X.A (forIn tests true fun c r => if r = true then do let ok ← isTrue c X.env (eval c X.env); pure (ForInStep.yield ok) else pure (ForInStep.yield r)) (TP X pins σ Q) X.xe s
def tYes : TT := fun _ H Q => Q true H
theorem pf_nil {X : Cx} : PF X [] tYes := fun _ _ _ H _ I h => wpAny_tests_nil ⟨H, I, h⟩
theorem pf_one {X : Cx} {c : Expr} {t : TT} (h : PT X c t) : PF X [c] t := fun pins s σ H Q I hw => wpAny_tests_one (h pins s σ H Q I hw)
def GOk (g : TG) (nt : Nat) : Prop := ∀ (x : V) (o caps : St) (H : Hp) (R : St → Hp → Prop), o.length = nt → g x (o ++ caps) H R → g x (o ++ caps) H fun τ H2 => (∃ o2 : St, o2.length = nt ∧ τ = o2 ++ caps) ∧ R τ H2
theorem gok_name : GOk (gName 0) 1 := by
  intro x o caps H R ho h
  match o, ho with
  | [a], _ => exact ⟨⟨[some x], rfl, rfl⟩, h⟩
theorem gok_pair {K : PySem.W.Frag} : GOk (gTup K 2 (gCons (gName 0) (gCons (gName 1) gNil))) 2 := by
  intro x o caps H R ho h
  match o, ho with
  | [a, b], _ =>
    obtain ⟨p, xs, e, hq, hl, v, r, e1, v2, r2, e2, e3, q⟩ := h
    exact ⟨p, xs, e, hq, hl, v, r, e1, v2, r2, e2, e3, ⟨[some v, some v2], rfl, rfl⟩, q⟩
def capsC (cap : List Nat) (σ : St) : St := cap.map fun j => (σ[j]?).getD none
def CW (J : It) (nt : Nat) (caps : St) (g : TG) (tf : TT) (te : TE) (H : Hp) (Q : VK) : Prop := ∃ W : Nat → Nat → List V → Hp → Prop, (∃ m, W 0 m [] H) ∧
  ∀ i m acc H2, W i m acc H2 → (J.stop i H2 ∧ acc.length ≤ sizeLine ∧ ∀ D, H2 D = none → Q (.ref D) (upd H2 D (.lst acc))) ∨
    (J.go i H2 ∧ acc.length ≤ sizeLine ∧ ∃ N : List V → Hp → Prop, (∀ acc' H', N acc' H' → ∃ m', m' < m ∧ W (i + 1) m' acc' H') ∧
      ∀ o x H3, o.length = nt → J.yld i H2 x H3 → g x (o ++ caps) H3 fun τ2 H4 => tf τ2 H4 fun b H5 => if b = true then te τ2 H5 fun v H6 => N (acc ++ [v]) H6 else N acc H5)
def tComp (wi : TI) (nt : Nat) (cap : List Nat) (g : TG) (tf : TT) (te : TE) : TE := fun σ H Q => wi σ H fun J H1 => CW J nt (capsC cap σ) g tf te H1 Q
section
variable {fs ex : List Addr} {H H' : Hp} {h h1 h2 : Heap} {P : Program} {w : World}
theorem Un.adopt {D : Addr} {o : HO} (u : Un fs ex H H' h h1) (hp : h.objs.size ≤ D) (hn : H' D = none) : Un fs ex H (upd H' D o) h h1 where
  keep := u.keep
  slot := u.slot
  free := fun b ob q n hx => by rw [upd_ne (Nat.ne_of_lt (Nat.lt_of_lt_of_le (Heap.lt_size q) hp))]; exact u.free b ob q n hx
  there := u.there
  tups := fun b xs q => by rw [upd_ne (ne_of_none (u.tups b xs q) hn)]; exact u.tups b xs q
  frzs := fun b ob xs q => by rw [upd_ne (ne_of_none (u.frzs b ob xs q) hn)]; exact u.frzs b ob xs q
  tbls := fun b ps q => by
    obtain ⟨more, e⟩ := u.tbls b ps q
    exact ⟨more, by rw [upd_ne (ne_of_none e hn)]; exact e⟩
theorem Un.but {C : Addr} (u : Un fs ex H H' h h1) (hp : h.objs.size ≤ C) (sb : Heap.SameBut C h1 h2) : Un fs ex H H' h h2 := by
  have ne : ∀ b ob, h.get? b = some ob → b ≠ C := fun b ob q => Nat.ne_of_lt (Nat.lt_of_lt_of_le (Heap.lt_size q) hp)
  refine ⟨fun b ob q n hb hx => (sb.2 b (ne b ob q)).trans (u.keep b ob q n hb hx), fun b ob q n hb hx => ?_, u.free, fun b ob q hx => ?_, u.tups, u.frzs, u.tbls⟩
  · obtain ⟨sl, e⟩ := u.slot b ob q n hb hx
    exact ⟨sl, (sb.2 b (ne b ob q)).trans e⟩
  · obtain ⟨o', e⟩ := u.there b ob q hx
    exact ⟨o', (sb.2 b (ne b ob q)).trans e⟩
theorem HOk.but {C : Addr} (x : HOk P w H h1) (hn : H C = none) (sb : Heap.SameBut C h1 h2) : HOk P w H h2 := fun a o e =>
  (x a o e).stay (fun b u hb q => (sb.2 b (by
    rintro rfl
    rcases hb with z | z
    · subst z; rw [hn] at e; cases e
    · rw [hn] at z; cases z)).trans q) (fun _ q => q) fun _ _ q => q
theorem HOk.adopt {D : Addr} {o : HO} (x : HOk P w H h) (hn : H D = none) (new : ObjOk P w (upd H D o) h D o) : HOk P w (upd H D o) h := fun b u e => by
  by_cases hb : b = D
  · subst hb; rw [upd_same] at e; cases e; exact new
  · rw [upd_ne hb] at e
    exact (x b u e).stay (fun c v _ q => q) (fun c q => by rw [upd_ne (ne_of_none q hn)]; exact q) fun c xs q => by rw [upd_ne (ne_of_none q hn)]; exact q
end
section
variable {X : Cx} {sc : Scope} {N : List Str} {nt : Nat} {cap : List Nat} {cl : List (Str × Addr)} {s : Shared} {h1 : Heap} {H : Hp} {σ : St} {pins : List (Addr × Obj)} {fp : List Addr} {C : Addr} {t' : Nat}
theorem Inv.block (I : Inv X pins σ H s) (S : CScope X sc N nt cap) (hcl : ∀ n c, cl.lookup n = some c ↔ ((n, NameKind.free) ∈ sc.names ∧ X.env.cells.lookup n = some c)) (hf : ∀ b ∈ fp, FpOk X pins H b) (hfs : ∀ b ∈ fp, b < s.heap.objs.size)
    (hk : ∀ b o, s.heap.get? b = some o → h1.get? b = some o) (hC : s.heap.objs.size ≤ C) (hns : ∃ m, h1.Ns C m) : Inv (cxC X N sc cl C s H fp (X.pn ++ pins)) [] (startC nt cap σ) H { s with heap := h1, toks := t' } := by
  have hfsub : ∀ b ∈ frs X.stack, b ∈ X.env.locals :: X.fs := I.stkSub
  have hCs : C ∉ frs X.stack := fun z => by
    rcases List.mem_cons.mp (I.stkSub C z) with e | e
    · exact absurd (Nat.lt_of_lt_of_le I.lt hC) (by rw [e]; exact Nat.lt_irrefl _)
    · exact I.nofs hC e
  have kindC : ∀ x, (relabel sc X.env).names.lookup x = some .cell ∨ (relabel sc X.env).names.lookup x = some .free → (x, NameKind.free) ∈ sc.names := fun x hx => by
    rw [look_relabel] at hx
    cases e : sc.names.lookup x with
    | none => rw [e] at hx; rcases hx with z | z <;> cases z
    | some k =>
      have hm : (x, k) ∈ sc.names := by
        obtain ⟨l1, l2, e1, _⟩ := List.lookup_eq_some_iff.mp e
        rw [e1]
        simp
      rw [e] at hx
      cases k with
      | free => exact hm
      | cell => exact absurd rfl (S.nocell _ hm)
      | _ => exfalso; revert hx; simp
  have hasCell : ∀ x, (x, NameKind.free) ∈ sc.names → ∃ c, X.env.cells.lookup x = some c := fun x hx => I.ok.has x (S.frees _ hx rfl).2
  have ok : Cx.Ok (cxC X N sc cl C s H fp (X.pn ++ pins)) := by
    refine ⟨I.ok.mod, ?_, I.ok.glob, I.ok.blt, hC, ?_, ?_, ?_, I.ok.hd, I.ok.frames, .inl rfl, ?_, I.bs, Nat.le_trans I.ok.bsz I.sz, ?_, ?_, I.stack, I.stkFree⟩
    · exact S.kind
    · intro x y c hx hy
      exact I.ok.inj x y c ((hcl x c).mp hx).2 ((hcl y c).mp hy).2
    · intro x hx
      have hm := kindC x hx
      obtain ⟨c, e⟩ := hasCell x hm
      exact ⟨c, (hcl x c).mpr ⟨hm, e⟩⟩
    · intro x c hx
      cases hx
    · intro b hb
      refine ⟨Nat.ne_of_lt (Nat.lt_of_lt_of_le (hfs b hb) hC), fun x c e => ?_⟩
      exact (hf b hb).2.2.2.2.1 x c ((hcl x c).mp e).2
    · intro b o e hb
      rcases (hf b hb).2.2.2.1 with z | z
      · exact I.ok.noex b o e z
      · exact absurd (Nat.lt_of_lt_of_le (Heap.lt_size e) (Nat.le_trans I.ok.bsz z)) (Nat.lt_irrefl _)
    · intro b hb z
      rcases List.mem_cons.mp (hfsub b z) with e | e
      · exact (hf b hb).2.1 e
      · exact (hf b hb).2.2.1 e
  obtain ⟨m, hm⟩ := hns
  obtain ⟨mX, hnX, hlX⟩ := I.loc
  refine ⟨ok, rfl, I.bare, Un.kept hk, ⟨m, hm, fun i x v e1 e2 e3 => ?_⟩, fun x c e => ?_, I.hok.fresh hC, fun x c e => I.freeC x c ((hcl x c).mp e).2, fun p hp => ?_, I.hok.kept hk, ?_⟩
  ·
    have hi : nt ≤ i := by
      apply Nat.le_of_not_lt
      intro hlt
      have : (startC nt cap σ)[i]? = some none := by
        unfold startC
        rw [List.getElem?_append_left (by simpa using hlt), List.getElem?_replicate, if_pos hlt]
      rw [this] at e2
      cases e2
    have e2' : (cap.map fun j => (σ[j]?).getD none)[i - nt]? = some (some v) := by
      have e := e2
      unfold startC at e
      rw [List.getElem?_append_right (by simpa using hi)] at e
      simpa using e
    rw [List.getElem?_map] at e2'
    cases ej : cap[i - nt]? with
    | none => rw [ej] at e2'; cases e2'
    | some j =>
      rw [ej] at e2'
      have ev : (σ[j]?).getD none = some v := Option.some.inj e2'
      have ev' : σ[j]? = some (some v) := by
        cases q : σ[j]? with
        | none => rw [q] at ev; cases ev
        | some z => rw [q] at ev; exact congrArg some ev
      obtain ⟨y, f1, f2, f3⟩ := S.capN _ _ ej
      rw [Nat.add_sub_cancel' hi] at f2
      have exy : y = x := Option.some.inj (f2.symm.trans e1)
      subst exy
      obtain ⟨g1, g2⟩ := S.frees _ f3 rfl
      have vis : Vis X.env.scope y := .inr g2
      obtain ⟨u, r, l⟩ := hlX j y v f1 ev' vis
      refine ⟨u, r, .inr ⟨?_, ?_⟩⟩
      · show (relabel sc X.env).names.lookup y = some .cell ∨ (relabel sc X.env).names.lookup y = some .free
        rw [look_relabel, g1]
        simp only [Option.map_some]
        split
        · exact .inl rfl
        · exact .inr rfl
      · rcases l with ⟨k, _⟩ | ⟨_, c, hc, hcell⟩
        · exfalso
          have k' : X.env.scope.names.lookup y = some .local := k
          dsimp only at g2
          rw [k'] at g2
          rcases g2 with z | z <;> cases z
        · obtain ⟨oc, ho, hd⟩ := hcell
          exact ⟨c, (hcl y c).mpr ⟨f3, hc⟩, oc, hk _ _ ho, hd⟩
  · obtain ⟨v, oc, ho, hd⟩ := I.cell x c ((hcl x c).mp e).2
    exact ⟨v, oc, hk _ _ ho, hd⟩
  · have hp' : p ∈ X.pn ++ pins := by simpa using hp
    obtain ⟨e, n, ne, nf, d⟩ := I.pin p hp'
    refine ⟨hk _ _ e, n, Nat.ne_of_lt (Nat.lt_of_lt_of_le (Heap.lt_size e) hC), fun z => ?_, d⟩
    rcases List.mem_cons.mp (hfsub p.1 z) with q | q
    · exact ne q
    · exact nf q
  · unfold startC
    rw [List.length_append, List.length_replicate, List.length_map]
    exact S.len.symm
end
section
variable {X : Cx}
theorem pe_comp {el tg src : Expr} {tests : List Expr} {sc : Scope} {ps : Pos} {N : List Str} {nt : Nat} {cap : List Nat} {wi : TI} {g : TG} {tf : TT} {te : TE} (hc : X.calm = true) (S : CScope X sc N nt cap) (hgo : GOk g nt) (hi : PI X tg src wi)
    (hY : ∀ (cl : List (Str × Addr)) (C : Addr) (s : Shared) (H : Hp) (ex : List Addr) (pn : List (Addr × Obj)), PG (cxC X N sc cl C s H ex pn) tg g ∧ PF (cxC X N sc cl C s H ex pn) tests tf ∧ PE (cxC X N sc cl C s H ex pn) el te)
    (hs : ∀ x, foldedSetIterable src X.env x = pure x := by intro _; rfl) : PE X (.ListComp el [⟨tg, src, tests, 0⟩] sc ps) (tComp wi nt cap g tf te) := by
  intro pins s σ H Q I h
  obtain ⟨cl, hclos, hcl⟩ := clo_of (env := X.env) (sc := sc) fun n hn => I.ok.has n (S.frees _ hn rfl).2
  rw [eval_ListComp]
  refine wpAny_comprehension_free (use := none) rfl hs hclos S.kind S.names (thn (hi pins s σ H _ I h) fun xv s1 h1 => thn h1 fun itv s2 h2 => ?_)
  obtain ⟨it, fp, tn, J, H2, e, I2, T, st2, f2, W, ⟨m0, w0⟩, turn⟩ := h2
  subst e
  refine wpAny_newObj_type (wpAny_newFunctionEnv S.nocell (by intro y hy; simp at hy) (fun h3 hns3 hsb3 => ?_) S.kind)
  dsimp only at hns3 hsb3 ⊢
  generalize hD : s2.heap.objs.size = D at hns3 hsb3 ⊢
  generalize hG : s2.heap.push { cls := .type "list", dict := none, data := .seq ([] : List Value).toArray } = G at hns3 hsb3 ⊢
  generalize hCe : G.objs.size = C at hns3 hsb3 ⊢
  have hC : C = D + 1 := by rw [← hCe, ← hG, Heap.size_push, hD]
  have hDC : D ≠ C := by omega
  have hDle : s2.heap.objs.size ≤ D := Nat.le_of_eq hD
  have hCle : s2.heap.objs.size ≤ C := by omega
  have old : ∀ b o, s2.heap.get? b = some o → h3.get? b = some o := fun b o e => hsb3.extBut b o (Nat.ne_of_lt (Nat.lt_of_lt_of_le (Heap.lt_size e) hCle)) (Heap.get?_push_of_some _ (hG ▸ Heap.get?_push_of_some _ e))
  have hacc : h3.PlainList D #[] := ⟨_, hsb3.extBut _ _ hDC (Heap.get?_push_of_some _ (hG ▸ hD ▸ Heap.get?_push_size _ rfl))⟩
  have hfs : ∀ b ∈ fp, b < s2.heap.objs.size := fun b hb => by
    obtain ⟨o, e, _⟩ := T.obj _ _ st2 b hb
    exact Heap.lt_size e
  have IB := I2.block (t' := s2.toks + ([] : List (Str × Value)).length) S hcl f2 hfs old hCle ⟨_, hns3⟩
  have hDs : D ∉ frs X.stack := fun z => by
    rcases List.mem_cons.mp (I2.stkSub D z) with e | e
    · exact absurd (Nat.lt_of_lt_of_le I2.lt hDle) (by rw [e]; exact Nat.lt_irrefl _)
    · exact I2.nofs hDle e
  have hDf : D ∉ fp := fun z => absurd (Nat.lt_of_lt_of_le (hfs D z) hDle) (Nat.lt_irrefl _)
  have hDcell : ∀ x c, cl.lookup x = some c → c ≠ D := fun x c e z => by
    obtain ⟨v, o, ho, _⟩ := I2.cell x c ((hcl x c).mp e).2
    exact absurd (Nat.lt_of_lt_of_le (Heap.lt_size ho) (by rw [z]; exact hDle)) (Nat.lt_irrefl _)
  have hDpin : ∀ p ∈ X.pn ++ pins, p.1 ≠ D := fun p hp z => absurd (Nat.lt_of_lt_of_le (Heap.lt_size (I2.pin p hp).1) (by rw [z]; exact hDle)) (Nat.lt_irrefl _)
  generalize hYe : cxC X N sc cl C s2 H2 fp (X.pn ++ pins) = Y at IB
  have fpY : ∀ {H' : Hp} {pl : List (Addr × Obj)}, (∀ b ∈ fp, H' b = none) → (∀ p ∈ pl, p.1 ∉ fp) → ∀ b ∈ fp, FpOk Y pl H' b := fun {H' pl} hn hp b hb => by
    subst hYe
    obtain ⟨_, f1, f2', f3, f4, f5⟩ := f2 b hb
    refine ⟨hn b hb, Nat.ne_of_lt (Nat.lt_of_lt_of_le (hfs b hb) hCle), fun z => ?_, .inl hb, fun x c e => f4 x c ((hcl x c).mp e).2, fun p hpp => ?_⟩
    · rcases List.mem_cons.mp (I2.stkSub b z) with e | e
      · exact f1 e
      · exact f2' e
    · rcases List.mem_append.mp hpp with z | z
      · exact f5 p z
      · exact fun e => hp p z (e ▸ hb)
  have hG1 : PG Y tg g := by subst hYe; exact (hY _ _ _ _ _ _).1
  have hF1 : PF Y tests tf := by subst hYe; exact (hY _ _ _ _ _ _).2.1
  have hE1 : PE Y el te := by subst hYe; exact (hY _ _ _ _ _ _).2.2
  have eP : Y.prog = X.prog := by subst hYe; rfl
  have eW : Y.w = X.w := by subst hYe; rfl
  have eA : Y.A = X.A := by subst hYe; rfl
  have eK : Y.K = X.K := by subst hYe; rfl
  have eE : Y.env = compEnvC sc cl C X.env := by subst hYe; rfl
  have eX : Y.xe = fun _ _ => False := by subst hYe; rfl
  have eC : Y.calm = true := by subst hYe; exact hc
  have eS : Y.s₀.heap.objs.size ≤ D := by subst hYe; exact hDle
  have eF : D ∉ Y.fs := by subst hYe; exact hDs
  have eL : D ≠ Y.env.locals := by subst hYe; exact hDC
  have eCl : ∀ x c, Y.env.cells.lookup x = some c → c ≠ D := by subst hYe; exact hDcell
  have eN : ∀ p ∈ Y.pn, p.1 ≠ D := by subst hYe; exact hDpin
  have fin : ∀ (s' : Shared) (τ : St) (H' : Hp) (acc : List V) (ys : Array Value), Inv Y [] τ H' s' → s'.heap.PlainList D ys → Vals acc ys.toList → H' D = none → acc.length ≤ sizeLine → (∀ D, H' D = none → Q (.ref D) (upd H' D (.lst acc))) →
      compPost (model X.prog X.w) X.A X.xe none (EP X pins σ Q) (.ref D) C (.ok .next) s' := by
    intro s' τ H' acc ys I' pl rv hn hz q
    subst hYe
    obtain ⟨m, hm, _⟩ := id I'.loc
    refine ⟨m, hm, fun h' sb => ?_⟩
    have hokD : HOk X.prog X.w H' h' := I'.hok.but I'.free sb
    obtain ⟨n, ho⟩ := pl
    have ho' : h'.get? D = some { cls := .type "list", data := .seq ys n } := (sb.2 D hDC).trans ho
    have new : ObjOk X.prog X.w (upd H' D (.lst acc)) h' D (.lst acc) := ⟨hz, ys.toList, n, rv, by simpa using ho'⟩
    have u := (I'.base.but hCle sb).adopt (o := .lst acc) hDle hn
    refine ⟨.ref D, upd H' D (.lst acc), I2.call' (s' := { s' with heap := h' }) (ch := fp) I'.os u (hokD.adopt hn new) I'.bare (fun b hb => ?_), rfl, q D hn⟩
    obtain ⟨_, f1, _, f3, f4, f5⟩ := f2 b hb
    exact ⟨f3, f1, f4, f5⟩
  have loop : codeAny (model X.prog X.w) X.A (.compLoop (.ListComp el [⟨tg, src, tests, 0⟩] sc ps) 0 (.ref it) (.ref D) (compEnvC sc cl C X.env)) (compPost (model X.prog X.w) X.A X.xe none (EP X pins σ Q) (.ref D) C)
      { s2 with heap := h3, toks := s2.toks + ([] : List (Str × Value)).length } := by
    refine comp_turns (fun n s' => ∃ i acc o H' ys, Inv Y [] (o ++ capsC cap σ) H' s' ∧ o.length = nt ∧ tn i s'.heap ∧ (∀ b ∈ fp, H' b = none) ∧ s'.heap.PlainList D ys ∧ Vals acc ys.toList ∧ H' D = none ∧ W i n acc H') ?_ m0
      ⟨0, [], List.replicate nt none, H2, #[], IB, by simp, T.keep _ _ _ st2 fun b _ o e => old b o e, fun b hb => (f2 b hb).1, hacc, .nil, I2.hok.fresh hDle, w0⟩
    rintro n s3 ⟨i, acc, o3, H3, ys, I3, ho3, st3, fr3, pl3, rv3, nD3, w3⟩
    generalize hτ : o3 ++ capsC cap σ = τ at I3
    obtain ⟨nn, ho⟩ := id pl3
    generalize hoD : ({ cls := .type "list", data := .seq ys nn } : Obj) = oD at ho
    have cellD : ∀ v, oD.data ≠ .cell v := fun v z => by subst hoD; cases z
    have I3' : Inv Y [(D, oD)] τ H3 s3 := I3.pins_of fun p hp => by
      have e : p = (D, oD) := by simpa using hp
      subst e
      exact ⟨ho, nD3, eL, eF, cellD⟩
    have nfp : ∀ p ∈ [(D, oD)], p.1 ∉ fp := fun p hp => by
      have e : p = (D, oD) := by simpa using hp
      subst e
      exact hDf
    have atD : ∀ {pl : List (Addr × Obj)} {τ' : St} {H' : Hp} {s' : Shared}, Inv Y ([(D, oD)] ++ pl) τ' H' s' → s'.heap.PlainList D ys ∧ H' D = none := fun {pl τ' H' s'} I' => by
      have q := I'.pin (D, oD) (List.mem_append_right _ (List.mem_append_left _ (by simp)))
      exact ⟨⟨nn, by rw [hoD]; exact q.1⟩, q.2.1⟩
    rcases turn i n acc H3 w3 with ⟨stop, hz, q⟩ | ⟨go, hz, N', hN, step⟩
    · have hd := T.done Y eP eW eK eC i [(D, oD)] s3 τ H3 (fun _ _ => False) I3' (fpY fr3 nfp) st3 stop
      rw [eA] at hd
      refine thn hd fun r s4 h4 => ?_
      obtain ⟨hr, I4⟩ := h4
      subst hr
      obtain ⟨pl4, n4⟩ := atD (pl := []) (by simpa using I4)
      exact fin s4 τ H3 acc ys (Inv.unpinned (pins := []) I4) pl4 rv3 n4 hz q
    · have hd := T.item Y eP eW eK eC i [(D, oD)] s3 τ H3 (fun _ _ => False) I3' (fpY fr3 nfp) st3 go
      rw [eA] at hd
      refine thn hd fun r s4 h4 => ?_
      obtain ⟨u, hr, h4⟩ := h4
      subst hr
      refine thn h4 fun _ s5 h5 => ?_
      obtain ⟨x, H5, I5, r5, y5, st5, fr5⟩ := h5
      have I5' := I5.pinned (fpY fr5 nfp) (T.obj _ _ st5)
      have q5 := hG1 _ s5 τ H5 x u _ I5' r5 (hτ ▸ hgo x o3 _ H5 _ ho3 (step o3 x H5 ho3 y5))
      rw [eP, eW, eA, eE, eX] at q5
      refine thn q5 fun _ s6 h6 => ?_
      obtain ⟨τ6, H6, I6, ⟨o6, ho6, eτ6⟩, q6⟩ := h6
      have q7 := hF1 _ s6 τ6 H6 _ I6 q6
      rw [eP, eW, eA, eE, eX] at q7
      refine thn q7 fun b s7 h7 => ?_
      obtain ⟨H7, I7, q7⟩ := h7
      have frAt : ∀ {τ' : St} {H' : Hp} {s' : Shared}, Inv Y ([(D, oD)] ++ pinsAt fp s5.heap) τ' H' s' → tn (i + 1) s'.heap ∧ ∀ b ∈ fp, H' b = none := fun {τ' H' s'} I' => by
        refine ⟨T.keep _ _ _ st5 fun b hb o e => (I'.pin (b, o) (List.mem_append_right _ (List.mem_append_right _ (mem_pinsAt hb e)))).1, fun b hb => ?_⟩
        obtain ⟨o, e, _⟩ := T.obj _ _ st5 b hb
        exact (I'.pin (b, o) (List.mem_append_right _ (List.mem_append_right _ (mem_pinsAt hb e)))).2.1
      cases b with
      | false =>
        rw [if_neg Bool.false_ne_true] at q7 ⊢
        obtain ⟨m', hm, w7⟩ := hN _ _ q7
        obtain ⟨pl7, n7⟩ := atD I7
        obtain ⟨t7, f7⟩ := frAt I7
        exact ⟨m', hm, i + 1, acc, o6, H7, ys, eτ6 ▸ I7.pins_of (fun p hp => by simp at hp), ho6, t7, f7, pl7, rv3, n7, w7⟩
      | true =>
        rw [if_pos rfl] at q7 ⊢
        have q8 := hE1 _ s7 τ6 H7 _ I7 q7
        rw [eP, eW, eA, eE, eX] at q8
        refine thn q8 fun y s8 h8 => ?_
        obtain ⟨v, H8, I8, r8, q9⟩ := h8
        obtain ⟨m', hm, w8⟩ := hN _ _ q9
        obtain ⟨pl8, n8⟩ := atD I8
        obtain ⟨t8, f8⟩ := frAt I8
        have hys : ys.size ≤ sizeLine := by
          have e := rv3.length
          simp only [Array.length_toList] at e
          omega
        refine wpAny_list_append_plain (hsz := hys) pl8 fun h9 pl9 sb9 => ?_
        have I8' : Inv Y [] τ6 H8 s8 := I8.pins_of (fun p hp => by simp at hp)
        have I9 : Inv Y [] τ6 H8 { s8 with heap := h9, toks := s8.toks } := I8'.turned (it := D) (fun b o hb e => (sb9.2 b hb).trans e) n8 eL (.inr eS) eCl (fun p hp => eN p (by simpa using hp))
        refine ⟨m', hm, i + 1, acc ++ [v], o6, H8, ys.push y, eτ6 ▸ I9, ho6, T.keep _ _ _ t8 fun b hb o e => (sb9.2 b (fun z => hDf (z ▸ hb))).trans e, f8, pl9, ?_, n8, w8⟩
        rw [Array.toList_push]
        exact Vals.append rv3 (.cons r8 .nil)
  exact codeAny_compStart_list loop (T.self _ _ _ _ _ (T.keep _ _ _ st2 fun b _ o e => old b o e) loop)
end
end L2

set_option Elab.async false
set_option linter.all false
set_option maxRecDepth 100000
set_option maxHeartbeats 4000000
namespace L2
open PySem PySem.Spec PyProof.Rows
inductive Kn where
  | non | bl | int | str | tup | lst | dct
  deriving DecidableEq
def KdV (K : PySem.W.Frag) (H : Hp) : V → Kn → Prop
  | .non, .non => True
  | .bl _, .bl => True
  | .int _, .int => True
  | .str _, .str => True
  | .ref a, .tup => ∃ xs, SqT K H a xs
  | .ref a, .lst => ∃ xs, SqL K H a xs
  | .ref a, .dct => ∃ kvs, H a = some (.dK kvs)
  | _, _ => False
def isiK : Kn → String → Bool
  | .int, "int" => true
  | .bl, "int" => true
  | .bl, "bool" => true
  | .str, "str" => true
  | .tup, "tuple" => true
  | .lst, "list" => true
  | _, _ => false
section
variable {X : Cx}
theorem Inv.tupObj {pins : List (Addr × Obj)} {σ : St} {H : Hp} {s : Shared} {a : Addr} {xs : List V} (I : Inv X pins σ H s) (h : SqT X.K H a xs) : ∃ o, s.heap.get? a = some o ∧ o.cls = .type "tuple" := by
  obtain ⟨its, r, ⟨o, e, c, _⟩, _⟩ := I.tuple h
  exact ⟨o, e, c⟩
theorem Inv.lstObj {pins : List (Addr × Obj)} {σ : St} {H : Hp} {s : Shared} {a : Addr} {xs : List V} (I : Inv X pins σ H s) (h : SqL X.K H a xs) : ∃ o, s.heap.get? a = some o ∧ o.cls = .type "list" := by
  obtain ⟨its, r, ⟨o, n, e, c, _⟩, _⟩ := I.list h
  exact ⟨o, e, c⟩
theorem Inv.dctObj {pins : List (Addr × Obj)} {σ : St} {H : Hp} {s : Shared} {a : Addr} {kvs : List (Key × V)} (I : Inv X pins σ H s) (h : H a = some (.dK kvs)) : ∃ o, s.heap.get? a = some o ∧ o.cls = .type "dict" := by
  obtain ⟨_, _, vs, _, p⟩ := (show ObjOk X.prog X.w H s.heap a (.dK kvs) from I.hok a _ h)
  obtain ⟨o, es, ep, h1, h2, _⟩ := p
  exact ⟨o, h1, h2.1⟩
theorem call_isi_int : CallR X (.builtin "isinstance") (fun xs H Q => ∃ x k, xs = [x, .ty "int"] ∧ KdV X.K H x k ∧ Q (.bl (isiK k "int")) H) := by
  intro pins s σ H xs us Q I r h
  obtain ⟨x, k, rfl, hk, q⟩ := h
  obtain ⟨u, c, rfl, ru, rc⟩ := vals2 r
  cases rc
  cases k with
  | non =>
    cases x with
    | non =>
      cases ru
      exact IsiPair.NoneType_int ⟨.bl false, H, I.tok _, rfl, q⟩
    | _ => exact hk.elim
  | bl =>
    cases x with
    | bl b =>
      cases ru
      exact IsiPair.bool_int ⟨.bl true, H, I, rfl, q⟩
    | _ => exact hk.elim
  | int =>
    cases x with
    | int i =>
      obtain ⟨t, rfl⟩ := ru
      exact IsiPair.int_int ⟨.bl true, H, I, rfl, q⟩
    | _ => exact hk.elim
  | str =>
    cases x with
    | str y =>
      obtain ⟨t, rfl⟩ := ru
      exact IsiPair.str_int ⟨.bl false, H, I.tok _, rfl, q⟩
    | _ => exact hk.elim
  | tup =>
    cases x with
    | ref a =>
      cases ru
      obtain ⟨z, hz⟩ := hk
      obtain ⟨o, ho, hc⟩ := I.tupObj hz
      exact IsiPair.tuple_int ho hc ⟨.bl false, H, I.tok _, rfl, q⟩
    | _ => exact hk.elim
  | lst =>
    cases x with
    | ref a =>
      cases ru
      obtain ⟨z, hz⟩ := hk
      obtain ⟨o, ho, hc⟩ := I.lstObj hz
      exact IsiPair.list_int ho hc ⟨.bl false, H, I.tok _, rfl, q⟩
    | _ => exact hk.elim
  | dct =>
    cases x with
    | ref a =>
      cases ru
      obtain ⟨z, hz⟩ := hk
      obtain ⟨o, ho, hc⟩ := I.dctObj hz
      exact IsiPair.dict_int ho hc ⟨.bl false, H, I.tok _, rfl, q⟩
    | _ => exact hk.elim
theorem call_isi_bool : CallR X (.builtin "isinstance") (fun xs H Q => ∃ x k, xs = [x, .ty "bool"] ∧ KdV X.K H x k ∧ Q (.bl (isiK k "bool")) H) := by
  intro pins s σ H xs us Q I r h
  obtain ⟨x, k, rfl, hk, q⟩ := h
  obtain ⟨u, c, rfl, ru, rc⟩ := vals2 r
  cases rc
  cases k with
  | non =>
    cases x with
    | non =>
      cases ru
      exact IsiPair.NoneType_bool ⟨.bl false, H, I.tok _, rfl, q⟩
    | _ => exact hk.elim
  | bl =>
    cases x with
    | bl b =>
      cases ru
      exact IsiPair.bool_bool ⟨.bl true, H, I, rfl, q⟩
    | _ => exact hk.elim
  | int =>
    cases x with
    | int i =>
      obtain ⟨t, rfl⟩ := ru
      exact IsiPair.int_bool ⟨.bl false, H, I.tok _, rfl, q⟩
    | _ => exact hk.elim
  | str =>
    cases x with
    | str y =>
      obtain ⟨t, rfl⟩ := ru
      exact IsiPair.str_bool ⟨.bl false, H, I.tok _, rfl, q⟩
    | _ => exact hk.elim
  | tup =>
    cases x with
    | ref a =>
      cases ru
      obtain ⟨z, hz⟩ := hk
      obtain ⟨o, ho, hc⟩ := I.tupObj hz
      exact IsiPair.tuple_bool ho hc ⟨.bl false, H, I.tok _, rfl, q⟩
    | _ => exact hk.elim
  | lst =>
    cases x with
    | ref a =>
      cases ru
      obtain ⟨z, hz⟩ := hk
      obtain ⟨o, ho, hc⟩ := I.lstObj hz
      exact IsiPair.list_bool ho hc ⟨.bl false, H, I.tok _, rfl, q⟩
    | _ => exact hk.elim
  | dct =>
    cases x with
    | ref a =>
      cases ru
      obtain ⟨z, hz⟩ := hk
      obtain ⟨o, ho, hc⟩ := I.dctObj hz
      exact IsiPair.dict_bool ho hc ⟨.bl false, H, I.tok _, rfl, q⟩
    | _ => exact hk.elim
theorem call_isi_tuple : CallR X (.builtin "isinstance") (fun xs H Q => ∃ x k, xs = [x, .ty "tuple"] ∧ KdV X.K H x k ∧ Q (.bl (isiK k "tuple")) H) := by
  intro pins s σ H xs us Q I r h
  obtain ⟨x, k, rfl, hk, q⟩ := h
  obtain ⟨u, c, rfl, ru, rc⟩ := vals2 r
  cases rc
  cases k with
  | non =>
    cases x with
    | non =>
      cases ru
      exact IsiPair.NoneType_tuple ⟨.bl false, H, I.tok _, rfl, q⟩
    | _ => exact hk.elim
  | bl =>
    cases x with
    | bl b =>
      cases ru
      exact IsiPair.bool_tuple ⟨.bl false, H, I.tok _, rfl, q⟩
    | _ => exact hk.elim
  | int =>
    cases x with
    | int i =>
      obtain ⟨t, rfl⟩ := ru
      exact IsiPair.int_tuple ⟨.bl false, H, I.tok _, rfl, q⟩
    | _ => exact hk.elim
  | str =>
    cases x with
    | str y =>
      obtain ⟨t, rfl⟩ := ru
      exact IsiPair.str_tuple ⟨.bl false, H, I.tok _, rfl, q⟩
    | _ => exact hk.elim
  | tup =>
    cases x with
    | ref a =>
      cases ru
      obtain ⟨z, hz⟩ := hk
      obtain ⟨o, ho, hc⟩ := I.tupObj hz
      exact IsiPair.tuple_tuple ho hc ⟨.bl true, H, I, rfl, q⟩
    | _ => exact hk.elim
  | lst =>
    cases x with
    | ref a =>
      cases ru
      obtain ⟨z, hz⟩ := hk
      obtain ⟨o, ho, hc⟩ := I.lstObj hz
      exact IsiPair.list_tuple ho hc ⟨.bl false, H, I.tok _, rfl, q⟩
    | _ => exact hk.elim
  | dct =>
    cases x with
    | ref a =>
      cases ru
      obtain ⟨z, hz⟩ := hk
      obtain ⟨o, ho, hc⟩ := I.dctObj hz
      exact IsiPair.dict_tuple ho hc ⟨.bl false, H, I.tok _, rfl, q⟩
    | _ => exact hk.elim
end
end L2

set_option Elab.async false
set_option linter.all false
set_option maxRecDepth 100000
set_option maxHeartbeats 4000000
namespace L2
open PySem PySem.Spec PyProof.Rows
def TyTup (p : Addr) (Ts : List String) : Heap → Prop := fun h => h.get? p = some { cls := .type "tuple", data := .seq (Ts.map Value.type).toArray }
theorem vals_ty : ∀ {Ts : List String} {us : List Value}, Vals (Ts.map V.ty) us → us = Ts.map Value.type
  | [], _, .nil => rfl
  | _ :: r, _, .cons h t => by
    cases h
    rw [vals_ty t]
    rfl
def tTyTup (t : TA) : TE := fun σ H Q => t σ H fun xs H1 => ∃ Ts : List String, xs = Ts.map V.ty ∧ xs.length ≤ sizeLine ∧ ∀ p, H1 p = none → Q (.ref p) (upd H1 p (.ext (TyTup p Ts)))
section
variable {X : Cx} {es : List Expr} {t : TA} {pos : Pos}
theorem pe_tytup {x1} (h : PA X es t) : PE X (.Tuple es x1 pos) (tTyTup t) := by
  intro pins s σ H Q I hq
  refine wpAny_Tuple_spliced (thn (h pos pins s σ H _ I hq) fun us s1 ⟨xs, H1, I1, r, Ts, e, z, q⟩ => ⟨by rw [← r.length]; exact z, ?_⟩)
  subst e
  have eu := vals_ty r
  subst eu
  have hf : H1 s1.heap.objs.size = none := I1.hok.fresh (Nat.le_refl _)
  refine ⟨.ref s1.heap.objs.size, upd H1 s1.heap.objs.size (.ext (TyTup s1.heap.objs.size Ts)), I1.laid (t' := s1.toks) (fun b u e => Heap.get?_push_of_some _ e) (Nat.le_refl _) ?_, rfl, q _ hf⟩
  refine ⟨Heap.get?_push_size _ rfl, ⟨_, Heap.get?_push_size _ rfl⟩, fun h1 h2 e k => k _ e⟩
theorem ans_tl {K : PySem.W.Frag} {pins : List (Addr × Obj)} {σ : St} {H : Hp} {s : Shared} {x : V} {u : Value} {k : Kn} (I : Inv X pins σ H s) (hk : KdV X.K H x k) (r : RelV x u) :
    ∃ Tx vs, AnswersAll (fun s => s.TypeIs u Tx) u [.type "tuple", .type "list"] vs ∧ s.TypeIs u Tx ∧ vs.any id = (decide (k = .tup) || decide (k = .lst)) := by
  cases k with
  | non =>
    cases x with
    | non => cases r; exact ⟨"NoneType", [false, false], .cons (.of_false_none (by decide +kernel) F.isi_meta_tuple F.sub_NoneType_tuple) (.cons (.of_false_none (by decide +kernel) F.isi_meta_list F.sub_NoneType_list) .nil), rfl, rfl⟩
    | _ => exact hk.elim
  | bl =>
    cases x with
    | bl b => cases r; exact ⟨"bool", [false, false], .cons (.of_false_bool (by decide +kernel) F.isi_meta_tuple F.sub_bool_tuple) (.cons (.of_false_bool (by decide +kernel) F.isi_meta_list F.sub_bool_list) .nil), rfl, rfl⟩
    | _ => exact hk.elim
  | int =>
    cases x with
    | int b => obtain ⟨t, rfl⟩ := r; exact ⟨"int", [false, false], .cons (.of_false_int (by decide +kernel) F.isi_meta_tuple F.sub_int_tuple) (.cons (.of_false_int (by decide +kernel) F.isi_meta_list F.sub_int_list) .nil), rfl, rfl⟩
    | _ => exact hk.elim
  | str =>
    cases x with
    | str b => obtain ⟨t, rfl⟩ := r; exact ⟨"str", [false, false], .cons (.of_false_str (by decide +kernel) F.isi_meta_tuple F.sub_str_tuple) (.cons (.of_false_str (by decide +kernel) F.isi_meta_list F.sub_str_list) .nil), rfl, rfl⟩
    | _ => exact hk.elim
  | tup =>
    cases x with
    | ref a =>
      cases r
      obtain ⟨z, hz⟩ := hk
      exact ⟨"tuple", [true, false], .cons (.of_true F.isi_meta_tuple F.sub_tuple_tuple) (.cons (.of_false_tuple (by decide +kernel) F.isi_meta_list F.sub_tuple_list) .nil), I.tupObj hz, rfl⟩
    | _ => exact hk.elim
  | lst =>
    cases x with
    | ref a =>
      cases r
      obtain ⟨z, hz⟩ := hk
      exact ⟨"list", [false, true], .cons (.of_false_list (by decide +kernel) F.isi_meta_tuple F.sub_list_tuple) (.cons (.of_true F.isi_meta_list F.sub_list_list) .nil), I.lstObj hz, rfl⟩
    | _ => exact hk.elim
  | dct =>
    cases x with
    | ref a =>
      cases r
      obtain ⟨z, hz⟩ := hk
      exact ⟨"dict", [false, false], .cons (.of_false_dict (by decide +kernel) F.isi_meta_tuple F.sub_dict_tuple) (.cons (.of_false_dict (by decide +kernel) F.isi_meta_list F.sub_dict_list) .nil), I.dctObj hz, rfl⟩
    | _ => exact hk.elim
theorem call_isi_tl : CallR X (.builtin "isinstance") (fun xs H Q => ∃ x k p, xs = [x, .ref p] ∧ KdV X.K H x k ∧ H p = some (.ext (TyTup p ["tuple", "list"])) ∧ Q (.bl (decide (k = .tup) || decide (k = .lst))) H) := by
  intro pins s σ H xs us Q I r h
  obtain ⟨x, k, p, rfl, hk, hp, q⟩ := h
  obtain ⟨u, c, rfl, ru, rc⟩ := vals2 r
  cases rc
  obtain ⟨Tx, vs, ha, ht, hv⟩ := ans_tl (K := X.K) I hk ru
  have ho : ObjOk X.prog X.w H s.heap p (.ext (TyTup p ["tuple", "list"])) := I.hok p _ hp
  exact IsiPair.tupleOfB ha ht ho.1 hv fun tk => ⟨.bl _, H, I.tok _, rfl, q⟩
theorem truth_bl {A : Around} {bs : List Bool} {its : List Value} (r : Vals (bs.map V.bl) its) : TruthOf X.prog X.w A (fun i v => its.toArray[i]? = some v) (fun i => bs.getD i false) := by
  intro i v s Q E hv hQ
  have hv' : its[i]? = some v := by simpa using hv
  have hi : i < its.length := (List.getElem?_eq_some_iff.mp hv').1
  have hb : i < bs.length := by
    have e := r.length
    rw [List.length_map] at e
    omega
  have hx : (bs.map V.bl)[i]? = some (.bl (bs[i])) := by rw [List.getElem?_map, List.getElem?_eq_getElem hb]; rfl
  obtain ⟨u, hu, ru⟩ := Vals.get r hx
  rw [hv'] at hu
  cases hu
  cases ru
  have e : bs.getD i false = bs[i] := by simp [List.getD, List.getElem?_eq_getElem hb]
  have hQ' : Q (bs.getD i false) s := hQ
  rw [e] at hQ'
  exact wpAny_truthy_bool hQ'
theorem range_all (bs : List Bool) : (List.range bs.length).all (fun i => bs.getD i false) = bs.all id := by
  rw [Bool.eq_iff_iff, List.all_eq_true, List.all_eq_true]
  constructor
  · intro h b hb
    obtain ⟨i, hi, e⟩ := List.getElem_of_mem hb
    have := h i (List.mem_range.mpr hi)
    simpa [List.getD, List.getElem?_eq_getElem hi, e] using this
  · intro h i hi
    have hi := List.mem_range.mp hi
    have := h _ (List.getElem_mem hi)
    simpa [List.getD, List.getElem?_eq_getElem hi] using this
theorem call_all (hc : X.calm = true) : CallR X (.builtin "all") (fun xs H Q => ∃ (p : Addr) (bs : List Bool), xs = [.ref p] ∧ SqL X.K H p (bs.map V.bl) ∧ Q (.bl (bs.all id)) H) := by
  intro pins s σ H xs us Q I r h
  obtain ⟨p, bs, rfl, hp, q⟩ := h
  obtain ⟨u, rfl, ru⟩ := vals1 r
  cases ru
  obtain ⟨its, rv, pl, hz⟩ := I.list hp
  have hn : its.toArray.size = bs.length := by
    have e := rv.length
    rw [List.length_map] at e
    simpa using e.symm
  have hh : X.A.in1.handled = none := I.ok.hd hc
  refine call_all_walk (wpAny_pyIter_list pl.isList ?_)
  have old : p ≠ s.heap.objs.size := Nat.ne_of_lt (by obtain ⟨o, n, e, _⟩ := pl; exact Heap.lt_size e)
  refine ⟨s.heap.objs.size, [s.heap.objs.size, p], [s.heap.objs.size], its.toArray.size, _, _, fun i => bs.getD i false, rfl, Walks.list hh s.heap.objs.size p old its.toArray, ⟨⟨_, Heap.get?_push_size _ rfl, rfl, rfl⟩, pl.isList.at fun o e => Heap.get?_push_of_some _ e⟩, truth_bl rv, fun h' tk hk => ?_⟩
  rw [hn, range_all]
  exact ⟨.bl _, H, I.kept (t' := tk) fun b o e => hk b o (by simpa using Nat.ne_of_lt (Heap.lt_size e)) (Heap.get?_push_of_some _ e), rfl, q⟩
end
end L2

set_option Elab.async false
set_option linter.all false
set_option maxRecDepth 100000
set_option maxHeartbeats 4000000
namespace L2
open PySem PySem.Spec PyProof.Rows
def keyD : Key → PyData
  | .inl i => .int i
  | .inr x => .str x
mutual
def DV (K : PySem.W.Frag) (Z : Addr → Prop) (H : Hp) : PyData → V → Prop
  | .none, v => v = .non
  | .bool b, v => v = .bl b
  | .int i, v => v = .int i
  | .str x, v => v = .str x
  | .tuple ds, v => ∃ a xs, v = .ref a ∧ SqT K H a xs ∧ DVs K Z H ds xs
  | .list ds, v => ∃ a xs, v = .ref a ∧ ¬ Z a ∧ H a = some (.lst xs) ∧ DVs K Z H ds xs
  | .dict kvs, v => ∃ a es, v = .ref a ∧ ¬ Z a ∧ H a = some (.dK es) ∧ ∃ l : List (Key × Int), es = l.map (fun p => (p.1, V.int p.2)) ∧ kvs = l.map fun p => (keyD p.1, PyData.int p.2)
def DVs (K : PySem.W.Frag) (Z : Addr → Prop) (H : Hp) : List PyData → List V → Prop
  | [], vs => vs = []
  | d :: ds, vs => ∃ v r, vs = v :: r ∧ DV K Z H d v ∧ DVs K Z H ds r
end
structure Stay (K : PySem.W.Frag) (Z : Addr → Prop) (H H' : Hp) : Prop where
  tup : ∀ b xs, SqT K H b xs → SqT K H' b xs
  lst : ∀ b xs, ¬ Z b → H b = some (.lst xs) → H' b = some (.lst xs)
  dct : ∀ b es, ¬ Z b → H b = some (.dK es) → H' b = some (.dK es)
mutual
theorem DV.stay {K : PySem.W.Frag} {Z : Addr → Prop} {H H' : Hp} (S : Stay K Z H H') : ∀ {d : PyData} {v : V}, DV K Z H d v → DV K Z H' d v
  | .none, _, h => h
  | .bool _, _, h => h
  | .int _, _, h => h
  | .str _, _, h => h
  | .tuple ds, v, h => by
    simp only [DV] at h ⊢
    obtain ⟨a, xs, e, hq, r⟩ := h
    exact ⟨a, xs, e, S.tup a xs hq, DVs.stay S r⟩
  | .list ds, v, h => by
    simp only [DV] at h ⊢
    obtain ⟨a, xs, e, hz, hq, r⟩ := h
    exact ⟨a, xs, e, hz, S.lst a xs hz hq, DVs.stay S r⟩
  | .dict kvs, v, h => by
    simp only [DV] at h ⊢
    obtain ⟨a, es, e, hz, hq, r⟩ := h
    exact ⟨a, es, e, hz, S.dct a es hz hq, r⟩
theorem DVs.stay {K : PySem.W.Frag} {Z : Addr → Prop} {H H' : Hp} (S : Stay K Z H H') : ∀ {ds : List PyData} {vs : List V}, DVs K Z H ds vs → DVs K Z H' ds vs
  | [], _, h => h
  | d :: ds, vs, h => by
    simp only [DVs] at h ⊢
    obtain ⟨v, r, e, h1, h2⟩ := h
    exact ⟨v, r, e, DV.stay S h1, DVs.stay S h2⟩
end
mutual
theorem DV.more {K : PySem.W.Frag} {Z : Addr → Prop} {H : Hp} {p : Addr} (hp : H p = none) : ∀ {d : PyData} {v : V}, DV K Z H d v → DV K (fun a => Z a ∨ a = p) H d v
  | .none, _, h => h
  | .bool _, _, h => h
  | .int _, _, h => h
  | .str _, _, h => h
  | .tuple ds, v, h => by
    simp only [DV] at h ⊢
    obtain ⟨a, xs, e, hq, r⟩ := h
    exact ⟨a, xs, e, hq, DVs.more hp r⟩
  | .list ds, v, h => by
    simp only [DV] at h ⊢
    obtain ⟨a, xs, e, hz, hq, r⟩ := h
    exact ⟨a, xs, e, (fun z => z.elim hz fun e => by subst e; rw [hp] at hq; cases hq), hq, DVs.more hp r⟩
  | .dict kvs, v, h => by
    simp only [DV] at h ⊢
    obtain ⟨a, es, e, hz, hq, r⟩ := h
    exact ⟨a, es, e, (fun z => z.elim hz fun e => by subst e; rw [hp] at hq; cases hq), hq, r⟩
theorem DVs.more {K : PySem.W.Frag} {Z : Addr → Prop} {H : Hp} {p : Addr} (hp : H p = none) : ∀ {ds : List PyData} {vs : List V}, DVs K Z H ds vs → DVs K (fun a => Z a ∨ a = p) H ds vs
  | [], _, h => h
  | d :: ds, vs, h => by
    simp only [DVs] at h ⊢
    obtain ⟨v, r, e, h1, h2⟩ := h
    exact ⟨v, r, e, DV.more hp h1, DVs.more hp h2⟩
end
mutual
theorem DV.less {K : PySem.W.Frag} {Z Z' : Addr → Prop} {H : Hp} (hz' : ∀ a, Z' a → Z a) : ∀ {d : PyData} {v : V}, DV K Z H d v → DV K Z' H d v
  | .none, _, h => h
  | .bool _, _, h => h
  | .int _, _, h => h
  | .str _, _, h => h
  | .tuple ds, v, h => by
    simp only [DV] at h ⊢
    obtain ⟨a, xs, e, hq, r⟩ := h
    exact ⟨a, xs, e, hq, DVs.less hz' r⟩
  | .list ds, v, h => by
    simp only [DV] at h ⊢
    obtain ⟨a, xs, e, hz, hq, r⟩ := h
    exact ⟨a, xs, e, fun z => hz (hz' _ z), hq, DVs.less hz' r⟩
  | .dict kvs, v, h => by
    simp only [DV] at h ⊢
    obtain ⟨a, es, e, hz, hq, r⟩ := h
    exact ⟨a, es, e, fun z => hz (hz' _ z), hq, r⟩
theorem DVs.less {K : PySem.W.Frag} {Z Z' : Addr → Prop} {H : Hp} (hz' : ∀ a, Z' a → Z a) : ∀ {ds : List PyData} {vs : List V}, DVs K Z H ds vs → DVs K Z' H ds vs
  | [], _, h => h
  | d :: ds, vs, h => by
    simp only [DVs] at h ⊢
    obtain ⟨v, r, e, h1, h2⟩ := h
    exact ⟨v, r, e, DV.less hz' h1, DVs.less hz' h2⟩
end
theorem DVs.length {K : PySem.W.Frag} {Z : Addr → Prop} {H : Hp} : ∀ {ds : List PyData} {vs : List V}, DVs K Z H ds vs → ds.length = vs.length
  | [], vs, h => by
    have e : vs = [] := h
    subst e
    rfl
  | d :: ds, vs, h => by
    obtain ⟨v, r, e, _, h2⟩ := h
    subst e
    simp [DVs.length h2]
theorem DVs.get {K : PySem.W.Frag} {Z : Addr → Prop} {H : Hp} : ∀ {ds : List PyData} {vs : List V}, DVs K Z H ds vs → ∀ (i : Nat) v, vs[i]? = some v → ∃ d, ds[i]? = some d ∧ DV K Z H d v
  | [], vs, h, i, v, e => by
    have e' : vs = [] := h
    subst e'
    simp at e
  | d :: ds, vs, h, i, v, e => by
    obtain ⟨w, r, e', h1, h2⟩ := h
    subst e'
    cases i with
    | zero =>
      have : w = v := by simpa using e
      subst this
      exact ⟨d, rfl, h1⟩
    | succ i => exact DVs.get h2 i v (by simpa using e)
theorem DVs.append {K : PySem.W.Frag} {Z : Addr → Prop} {H : Hp} : ∀ {ds es : List PyData} {vs ws : List V}, DVs K Z H ds vs → DVs K Z H es ws → DVs K Z H (ds ++ es) (vs ++ ws)
  | [], es, vs, ws, h, h' => by
    have e : vs = [] := h
    subst e
    exact h'
  | d :: ds, es, vs, ws, h, h' => by
    obtain ⟨v, r, e, h1, h2⟩ := h
    subst e
    exact ⟨v, r ++ ws, rfl, h1, DVs.append h2 h'⟩
theorem DVs.take {K : PySem.W.Frag} {Z : Addr → Prop} {H : Hp} : ∀ {ds : List PyData} {vs : List V} (n : Nat), DVs K Z H ds vs → DVs K Z H (ds.take n) (vs.take n)
  | [], vs, n, h => by
    have e : vs = [] := h
    subst e
    simp [DVs]
  | d :: ds, vs, 0, h => by simp [DVs]
  | d :: ds, vs, n + 1, h => by
    obtain ⟨v, r, e, h1, h2⟩ := h
    subst e
    exact ⟨v, r.take n, rfl, h1, DVs.take n h2⟩
theorem DVs.drop {K : PySem.W.Frag} {Z : Addr → Prop} {H : Hp} : ∀ {ds : List PyData} {vs : List V} (n : Nat), DVs K Z H ds vs → DVs K Z H (ds.drop n) (vs.drop n)
  | [], vs, n, h => by
    have e : vs = [] := h
    subst e
    simp [DVs]
  | d :: ds, vs, 0, h => h
  | d :: ds, vs, n + 1, h => by
    obtain ⟨v, r, e, h1, h2⟩ := h
    subst e
    exact DVs.drop n h2
theorem DVs.reverse {K : PySem.W.Frag} {Z : Addr → Prop} {H : Hp} : ∀ {ds : List PyData} {vs : List V}, DVs K Z H ds vs → DVs K Z H ds.reverse vs.reverse
  | [], vs, h => by
    have e : vs = [] := h
    subst e
    simp [DVs]
  | d :: ds, vs, h => by
    obtain ⟨v, r, e, h1, h2⟩ := h
    subst e
    rw [List.reverse_cons, List.reverse_cons]
    exact DVs.append (DVs.reverse h2) ⟨v, [], rfl, h1, rfl⟩
def kdD : PyData → Kn
  | .none => .non
  | .bool _ => .bl
  | .int _ => .int
  | .str _ => .str
  | .tuple _ => .tup
  | .list _ => .lst
  | .dict _ => .dct
theorem DV.kd {K : PySem.W.Frag} {Z : Addr → Prop} {H : Hp} {d : PyData} {v : V} (h : DV K Z H d v) : KdV K H v (kdD d) := by
  cases d with
  | none => have e : v = .non := h; subst e; trivial
  | bool _ => have e : v = .bl _ := h; subst e; trivial
  | int _ => have e : v = .int _ := h; subst e; trivial
  | str _ => have e : v = .str _ := h; subst e; trivial
  | tuple ds =>
    simp only [DV] at h
    obtain ⟨a, xs, e, hq, _⟩ := h
    subst e
    exact ⟨xs, hq⟩
  | list ds =>
    simp only [DV] at h
    obtain ⟨a, xs, e, _, hq, _⟩ := h
    subst e
    exact ⟨xs, SqL.of hq⟩
  | dict kvs =>
    simp only [DV] at h
    obtain ⟨a, es, e, _, hq, _⟩ := h
    subst e
    exact ⟨es, hq⟩
section
variable {X : Cx} {pins : List (Addr × Obj)} {σ : St} {H : Hp} {s : Shared} {Z : Addr → Prop}
theorem pairs_reads {h : Heap} {P : Program} {w : World} : ∀ {l : List (Key × Int)} {vs : List (Key × Value)} {es : List DictEntry}, KV (l.map fun p => (p.1, V.int p.2)) vs → Pairs (mixKind P w) es vs →
    ReadsAll h (es.map (·.key)) ((l.map fun p => (keyD p.1, PyData.int p.2)).map (·.1)) [] ∧ ReadsAll h (es.map (·.val)) ((l.map fun p => (keyD p.1, PyData.int p.2)).map (·.2)) []
  | [], _, _, .nil, .nil => ⟨.nil, .nil⟩
  | (k, i) :: l, _, _, .cons (b := q) r t, .cons (e := e) h1 h2 h3 => by
    obtain ⟨a1, a2⟩ := pairs_reads (h := h) t h3
    obtain ⟨r1, t', r2⟩ := r
    have r1 : k = q.1 := r1
    have r2 : q.2 = Value.int i t' := r2
    refine ⟨?_, ?_⟩
    · have hk : keyIs q.1 e.key = true := h1
      rw [← r1] at hk
      have : Reads h e.key (keyD k) [] := by
        rcases keyIs_shape hk with ⟨j, u, e1, e2⟩ | ⟨x, u, e1, e2⟩
        · rw [e1, e2]; exact .int j u
        · rw [e1, e2]; exact .str x u
      exact ReadsAll.cons (as := []) (bs := []) this a1
    · have : Reads h e.val (.int i) [] := by rw [h2, r2]; exact .int i t'
      exact ReadsAll.cons (as := []) (bs := []) this a2
mutual
theorem DV.reads (I : Inv X pins σ H s) : ∀ {d : PyData} {v : V} {u : Value}, DV X.K Z H d v → RelV v u → ∃ as, Reads s.heap u d as
  | .none, v, u, h, r => by
    have e : v = .non := h
    subst e; cases r
    exact ⟨[], .none⟩
  | .bool b, v, u, h, r => by
    have e : v = .bl b := h
    subst e; cases r
    exact ⟨[], .bool b⟩
  | .int i, v, u, h, r => by
    have e : v = .int i := h
    subst e; obtain ⟨t, rfl⟩ := r
    exact ⟨[], .int i t⟩
  | .str x, v, u, h, r => by
    have e : v = .str x := h
    subst e; obtain ⟨t, rfl⟩ := r
    exact ⟨[], .str x t⟩
  | .tuple ds, v, u, h, r => by
    simp only [DV] at h
    obtain ⟨a, xs, e, hq, hr⟩ := h
    subst e; cases r
    obtain ⟨its, rv, ⟨o, e, c, n, hd⟩, _⟩ := I.tuple hq
    obtain ⟨as, rs⟩ := DVs.reads I hr rv
    exact ⟨as, .tuple e c hd (by simpa using rs)⟩
  | .list ds, v, u, h, r => by
    simp only [DV] at h
    obtain ⟨a, xs, e, _, hq, hr⟩ := h
    subst e; cases r
    obtain ⟨its, rv, ⟨o, n, e, c, _, hd⟩, _⟩ := I.list (SqL.of hq)
    obtain ⟨as, rs⟩ := DVs.reads I hr rv
    exact ⟨a :: as, .list e c hd (by simpa using rs)⟩
  | .dict kvs, v, u, h, r => by
    simp only [DV] at h
    obtain ⟨a, es, e, _, hq, l, e1, e2⟩ := h
    subst e e1 e2; cases r
    obtain ⟨_, _, vs, kv, o, es', ep, g1, g2, g3, _, g5, _⟩ := (show ObjOk X.prog X.w H s.heap a (.dK _) from I.hok a _ hq)
    obtain ⟨r1, r2⟩ := pairs_reads (h := s.heap) kv g5
    exact ⟨a :: [] ++ [], .dict g1 g2.1 g3 r1 r2⟩
theorem DVs.reads (I : Inv X pins σ H s) : ∀ {ds : List PyData} {vs : List V} {us : List Value}, DVs X.K Z H ds vs → Vals vs us → ∃ as, ReadsAll s.heap us ds as
  | [], vs, us, h, r => by
    have e : vs = [] := h
    subst e; cases r
    exact ⟨[], .nil⟩
  | d :: ds, vs, us, h, r => by
    obtain ⟨v, rr, e, h1, h2⟩ := h
    subst e
    cases r with
    | cons ru rt =>
      obtain ⟨as, a1⟩ := DV.reads I h1 ru
      obtain ⟨bs, a2⟩ := DVs.reads I h2 rt
      exact ⟨as ++ bs, .cons a1 a2⟩
end
def rEqD (K : PySem.W.Frag) (neg : Bool) : R2 := fun x y H Q => ∃ (d e : PyData) (Z : Addr → Prop), DV K Z H d x ∧ DV K Z H e y ∧ d.canLay0 = true ∧ e.canLay0 = true ∧ min d.depth e.depth ≤ 100 ∧ Q (.bl (if neg then !PyData.eqv d e else PyData.eqv d e)) H
theorem op_eqD {k : Nat} (hr : Room k X.A) : OpR X (compareOp .Eq) (rEqD X.K false) := by
  intro pins s σ H x y v u Q I rx ry h
  obtain ⟨d, e, Z, h1, h2, l1, l2, hd, q⟩ := h
  obtain ⟨as, r1⟩ := h1.reads I rx
  obtain ⟨bs, r2⟩ := h2.reads I ry
  exact SeqAt.eqOverData _ _ _ _ _ _ _ _ _ _ _ _ r1 r2 l1 l2 (by have := hr.un; omega) ⟨.bl _, H, I, rfl, q⟩
theorem op_neD {k : Nat} (hr : Room k X.A) : OpR X (compareOp .NotEq) (rEqD X.K true) := by
  intro pins s σ H x y v u Q I rx ry h
  obtain ⟨d, e, Z, h1, h2, l1, l2, hd, q⟩ := h
  obtain ⟨as, r1⟩ := h1.reads I rx
  obtain ⟨bs, r2⟩ := h2.reads I ry
  exact SeqAt.neOverData _ _ _ _ _ _ _ _ _ _ _ _ r1 r2 l1 l2 (by have := hr.un; omega) ⟨.bl _, H, I, rfl, q⟩
end
end L2

set_option Elab.async false
set_option linter.all false
set_option maxRecDepth 100000
set_option maxHeartbeats 4000000
namespace HT
open PySem PySem.Spec PyProof.Rows
section
variable {prog : Program} {w : World} {A : Around} {E : Value → Shared → Prop} {s : Shared}
theorem exact_tup {t : Addr} {items : Array Value} {Q : Bool → Shared → Prop} (ht : IsTup s.heap t items) (h : Q true s) : wpAny (model prog w) A (Builtin.Tuple.tupleIsExact (.ref t)) Q E s := by
  unfold Builtin.Tuple.tupleIsExact
  exact wpAny_bind (wpAny_typeOf ht.typeIs (wpAny_pure h))
theorem item_tuple_all {t sl : Addr} {items : Array Value} {vl vu : Value} {lo hi : Option Int} {Q : Value → Shared → Prop} (ht : IsTup s.heap t items) (hs : s.heap.IsSliceOf sl vl vu .none) (pl : IsPart vl lo) (pu : IsPart vu hi)
    (hw : sIx items.size 0 lo = 0 ∧ sIx items.size items.size hi = items.size) (h : Q (.ref t) s) : wpAny (model prog w) A (getItem (.ref t) (.ref sl)) Q E s := by
  obtain ⟨os, hos, hcs, hds⟩ := id hs
  have hTs : s.TypeIs (.ref sl) "slice" := ⟨os, hos, hcs⟩
  unfold getItem
  try with_reducible refine wpAny_holding ?_
  first | refine wpAny_bind (wpAny_pure ?_) | skip
  refine wpAny_bind (wpAny_sequenceKey ht.typeIs (by decide) ?_)
  refine wpAny_bind (wpAny_callSpecial?_slot (name := Str.ofString "__getitem__") ht.typeIs PyProof.Rows.slot_tuple_getitem
    (wpAny_call_entry PyProof.Rows.slot_tuple_getitem ht.typeIs entry_tuple_getitem ?_ (args_tuple_getitem _ _)))
  show wpAny _ _ (Builtin.Tuple.tupleItemsOf (.ref t) >>= _) _ _ s
  refine wpAny_bind (tupleItemsOf_ ht ?_)
  refine wpAny_bind (wpAny_typeOf hTs ?_)
  rw [if_pos (by decide)]
  refine wpAny_bind (sliceApplied_gen hs pl pu ?_)
  obtain ⟨w1, w2⟩ := hw
  show wpAny _ _ (if (((sIx items.size 0 lo : Nat) : Int) == 0 && (1 : Int) == 1 && (sIx items.size items.size hi - sIx items.size 0 lo) == items.size) = true then _ else _) _ _ s
  rw [w1, w2, if_pos (by simp)]
  first
    | exact wpAny_bind (exact_tup ht (by simp only [if_true]; exact wpAny_bind (wpAny_rule (wpAny_pure ⟨_, rfl, wpAny_pure h⟩))))
    | exact wpAny_bind (exact_tup ht (by simp only [if_true]; exact wpAny_bind (wpAny_rule (wpAny_bind (wpAny_pure (wpAny_pure ⟨_, rfl, wpAny_pure h⟩))))))
theorem adjust_back (n : Nat) : Builtin.Slice.sliceAdjust none none (-1) (n : Int) = ((n : Int) - 1, -1) := by
  unfold Builtin.Slice.sliceAdjust
  simp
theorem places_back (n : Nat) : Builtin.Slice.slicePlaces ((n : Int) - 1) (-1) (-1) = n := by
  unfold Builtin.Slice.slicePlaces
  have h1 : ¬ ((-1 : Int) > 0) := by omega
  simp only [h1, if_false]
  split
  · simp
  · simp; omega
theorem fm_map {α β : Type} {f : α → Option β} {g : α → β} : ∀ {l : List α}, (∀ x ∈ l, f x = some (g x)) → l.filterMap f = l.map g
  | [], _ => rfl
  | x :: r, h => by
    rw [List.filterMap_cons, h x List.mem_cons_self, List.map_cons]
    exact congrArg _ (fm_map fun y hy => h y (List.mem_cons_of_mem _ hy))
theorem pick_back (xs : Array Value) : ((List.range xs.size).filterMap fun (m : Nat) => xs[(((xs.size : Int) - 1) + (m : Int) * (-1)).toNat]?).toArray = xs.toList.reverse.toArray := by
  congr 1
  apply List.ext_getElem?
  intro i
  have e : ((List.range xs.size).filterMap fun (m : Nat) => xs[(((xs.size : Int) - 1) + (m : Int) * (-1)).toNat]?) = (List.range xs.size).map fun (m : Nat) => xs.getD (xs.size - 1 - m) .none := by
    apply fm_map
    intro m hm
    have hm := List.mem_range.mp hm
    have : (((xs.size : Int) - 1) + (m : Int) * (-1)).toNat = xs.size - 1 - m := by omega
    rw [this, Array.getElem?_eq_getElem (by omega)]
    simp [Array.getD, show xs.size - 1 - m < xs.size by omega]
  rw [e, List.getElem?_map]
  by_cases hi : i < xs.size
  · rw [List.getElem?_range hi, List.getElem?_reverse (by simpa using hi)]
    simp [Array.getD, show xs.size - 1 - i < xs.size by omega]
  · rw [List.getElem?_eq_none (by simpa using hi), List.getElem?_eq_none (by simpa using hi)]
    rfl
theorem item_tuple_back {t sl : Addr} {items : Array Value} {tk : Tok} {Q : Value → Shared → Prop} (ht : IsTup s.heap t items) (hs : s.heap.IsSliceOf sl .none .none (.int (-1) tk))
    (h : Q (.ref s.heap.objs.size) { s with heap := s.heap.push { cls := .type "tuple", data := .seq items.toList.reverse.toArray } })
    (hsz : items.size ≤ sizeLine) : wpAny (model prog w) A (getItem (.ref t) (.ref sl)) Q E s := by
  have hz : sizeOk (.seq items.toList.reverse.toArray) := by
    show items.toList.reverse.toArray.size ≤ sizeLine
    rw [List.size_toArray, List.length_reverse, Array.length_toList]
    exact hsz
  obtain ⟨os, hos, hcs, hds⟩ := id hs
  have hTs : s.TypeIs (.ref sl) "slice" := ⟨os, hos, hcs⟩
  unfold getItem
  try with_reducible refine wpAny_holding ?_
  first | refine wpAny_bind (wpAny_pure ?_) | skip
  refine wpAny_bind (wpAny_sequenceKey ht.typeIs (by decide) ?_)
  refine wpAny_bind (wpAny_callSpecial?_slot (name := Str.ofString "__getitem__") ht.typeIs PyProof.Rows.slot_tuple_getitem
    (wpAny_call_entry PyProof.Rows.slot_tuple_getitem ht.typeIs entry_tuple_getitem ?_ (args_tuple_getitem _ _)))
  show wpAny _ _ (Builtin.Tuple.tupleItemsOf (.ref t) >>= _) _ _ s
  refine wpAny_bind (tupleItemsOf_ ht ?_)
  refine wpAny_bind (wpAny_typeOf hTs ?_)
  rw [if_pos (by decide)]
  refine wpAny_bind ?_
  unfold Builtin.Slice.sliceApplied Builtin.Slice.sliceFields
  refine wpAny_bind (wpAny_bind (wpAny_field hos hds (x := .none) rfl (wpAny_bind (wpAny_field hos hds (x := .none) rfl (wpAny_bind (wpAny_field hos hds (x := .int (-1) tk) rfl (wpAny_pure ?_)))))))
  refine wpAny_bind (slicePart_int ?_)
  show wpAny _ _ (if ((-1 : Int) == 0) = true then _ else _) _ _ s
  rw [if_neg (by decide)]
  refine wpAny_bind (slicePart_none (wpAny_bind (slicePart_none (wpAny_bind (wpAny_pure ?_)))))
  show wpAny _ _ (match Builtin.Slice.sliceAdjust none none (-1) (items.size : Int) with | (lo, hi) => pure (lo, (-1 : Int), Builtin.Slice.slicePlaces lo hi (-1))) _ _ s
  rw [adjust_back]
  show wpAny _ _ (pure (((items.size : Int) - 1), (-1 : Int), Builtin.Slice.slicePlaces ((items.size : Int) - 1) (-1) (-1))) _ _ s
  rw [places_back]
  refine wpAny_pure ?_
  show wpAny _ _ (if (((items.size : Int) - 1) == 0 && (-1 : Int) == 1 && items.size == items.size) = true then _ else _) _ _ s
  rw [if_neg (by simp), pick_back]
  first
    | exact wpAny_bind (m := Builtin.Tuple.tupleExact _) (wpAny_newObj_type (wpAny_pure ⟨_, rfl, wpAny_pure h⟩) hz)
    | exact wpAny_bind (m := Builtin.Tuple.tupleExact _) (wpAny_newObj_type (wpAny_bind (wpAny_pure (wpAny_pure ⟨_, rfl, wpAny_pure h⟩))) hz)
    | exact wpAny_bind (wpAny_bind (m := Builtin.Tuple.tupleExact _) (wpAny_newObj_type (wpAny_pure (wpAny_pure ⟨_, rfl, wpAny_pure h⟩)) hz))
end
end HT
namespace L2
open PySem PySem.Spec PyProof.Rows
theorem Same.sqT {K : PySem.W.Frag} {H H' : Hp} {a : Addr} {xs : List V} (e : Same H H') (h : SqT K H a xs) : SqT K H' a xs := by
  rcases h with (h | ⟨o, h⟩) | h
  · exact .inl (.inl (e _ _ h))
  · exact .inl (.inr ⟨o, e _ _ h⟩)
  · exact .inr h
theorem Same.upd {H : Hp} {p : Addr} {o : HO} (hn : H p = none) : Same H (upd H p o) := fun b u e => by rw [upd_ne (ne_of_none e hn)]; exact e
theorem Same.stay {K : PySem.W.Frag} {Z : Addr → Prop} {H H' : Hp} (e : Same H H') : Stay K Z H H' := ⟨fun _ _ h => e.sqT h, fun _ _ _ h => e _ _ h, fun _ _ _ h => e _ _ h⟩
def NewT (K : PySem.W.Frag) (H : Hp) (ys : List V) (Q : VK) : Prop := ∀ a H', Same H H' → SqT K H' a ys → Q (.ref a) H'
theorem NewT.here {K : PySem.W.Frag} {H : Hp} {ys : List V} {Q : VK} {a : Addr} (h : NewT K H ys Q) (hs : SqT K H a ys) : Q (.ref a) H := h a H (Same.refl H) hs
theorem NewT.new {K : PySem.W.Frag} {H : Hp} {ys : List V} {Q : VK} {p : Addr} (h : NewT K H ys Q) (hn : H p = none) : Q (.ref p) (L2.upd H p (.tup ys)) := h p _ (Same.upd hn) (SqT.of upd_same)
section
variable {X : Cx} {e : Expr} {te : TE} {pos p2 p3 p4 : Pos}
theorem drop_all {xs : List V} {lo hi : Option Int} (h : HT.sIx xs.length 0 lo = 0 ∧ HT.sIx xs.length xs.length hi = xs.length) : cutV xs lo hi = xs := by
  unfold cutV
  rw [h.1, h.2]
  simp
def rSlG (K : PySem.W.Frag) : V → Option Int → Option Int → Hp → VK → Prop := fun x lo hi H Q => ∃ a xs, x = .ref a ∧ SqT K H a xs ∧ NewT K H (cutV xs lo hi) Q
theorem sl_tupG : SlR X (rSlG X.K) := by
  intro pins s σ H x v vl vu lo hi sl Q I rx hs pl pu h
  obtain ⟨a, xs, rfl, hx, q⟩ := h
  by_cases hw : HT.sIx xs.length 0 lo = 0 ∧ HT.sIx xs.length xs.length hi = xs.length
  · cases rx
    obtain ⟨its, r, ht, hz⟩ := I.tuple hx
    have hlen : its.toArray.size = xs.length := by rw [List.size_toArray]; exact r.length.symm
    rw [drop_all hw] at q
    exact ⟨"tuple", _, PyProof.Rows.slot_tuple_getitem.lookup, ht.typeIs, HT.item_tuple_all ht hs pl pu (by rw [hlen]; exact hw) ⟨.ref a, H, I, rfl, q.here hx⟩⟩
  · exact sl_tup pins s σ H _ v vl vu lo hi sl Q I rx hs pl pu ⟨a, xs, rfl, hx, hw, fun p hp => q.new hp⟩
def tRev (K : PySem.W.Frag) (te : TE) : TE := fun σ H Q => te σ H fun x H1 => ∃ a xs, x = .ref a ∧ SqT K H1 a xs ∧ NewT K H1 xs.reverse Q
theorem pe_rev (he : PE X e te) : PE X (.Subscript e (.Slice none none (some (.UnaryOp .USub (.Constant (.int 1) 0 p4) p3)) p2) pos) (tRev X.K te) := by
  intro pins s σ H Q I h
  refine Subscript_ (thn (he pins s σ H _ I h) fun v s1 ⟨x, H1, I1, r1, q1⟩ => ?_)
  obtain ⟨a, xs, rfl, hx, q⟩ := q1
  cases r1
  refine wpAny_Slice ?_
  rw [evalPart_none]
  refine wpAny_pure (wpAny_pure ?_)
  have step : PE X (.UnaryOp .USub (.Constant (.int 1) 0 p4) p3) (tUn (rU fun i => .int (-i)) (tC (.int 1))) := pe_un un_neg pe_int
  rw [evalPart_some]
  refine thn (step pins s1 σ H1 (fun y H2 => y = .int (-1) ∧ H2 = H1) I1 ⟨1, rfl, rfl, rfl⟩) fun u s2 ⟨y, H2, I2, r2, e1, e2⟩ => ?_
  subst e1 e2
  obtain ⟨tk, rfl⟩ := r2
  have I4 : Inv X pins σ H2 { s2 with heap := s2.heap.push { cls := .type "slice", data := .fields #[.none, .none, .int (-1) tk] } } := I2.kept (t' := s2.toks) fun b ob q => Heap.get?_push_of_some _ q
  obtain ⟨its, r, ht, hz⟩ := I4.tuple hx
  have hlen : its.toArray.size = xs.length := by rw [List.size_toArray]; exact r.length.symm
  have hsl : Heap.IsSliceOf (s2.heap.push { cls := .type "slice", data := .fields #[.none, .none, .int (-1) tk] }) s2.heap.objs.size .none .none (.int (-1) tk) := Heap.IsSliceOf.new ..
  refine tail_any (ops := [.ref a, .ref s2.heap.objs.size]) ht.typeIs PyProof.Rows.slot_tuple_getitem.lookup (HT.item_tuple_back ht hsl ?_ (by rw [hlen]; exact hz)) (by with_unfolding_all rfl)
  refine ⟨.ref _, _, I4.laid (t' := s2.toks) (o := .tup xs.reverse) (fun b ob q => Heap.get?_push_of_some _ q) (Nat.le_refl _) ?_, rfl, q.new (I4.hok.fresh (Nat.le_refl _))⟩
  refine ⟨by rw [List.length_reverse]; exact hz, its.reverse, ?_, IsTup.new _ _⟩
  clear q ht hlen hx hsl hz
  induction r with
  | nil => exact .nil
  | cons h t ih =>
    rw [List.reverse_cons, List.reverse_cons]
    exact Vals.append ih (.cons h .nil)
def rCatG (K : PySem.W.Frag) : R2 := fun x y H Q => ∃ a b xs ys, x = .ref a ∧ y = .ref b ∧ SqT K H a xs ∧ SqT K H b ys ∧ xs.length + ys.length ≤ sizeLine ∧ NewT K H (xs ++ ys) Q
theorem op_catG : OpR X (binaryOp .Add) (rCatG X.K) := by
  intro pins s σ H x y v u Q I rx ry h
  obtain ⟨a, b, xs, ys, rfl, rfl, ha, hb, hz, q⟩ := h
  by_cases hx : xs = []
  · subst hx
    cases rx
    cases ry
    obtain ⟨its, r1, p1, _⟩ := I.tuple ha
    obtain ⟨its2, r2, p2, _⟩ := I.tuple hb
    cases r1
    obtain ⟨⟨cls, dd, data, sl⟩, ho, hc, n, hd⟩ := id p1
    obtain ⟨⟨cls2, dd2, data2, sl2⟩, ho2, hc2, n2, hd2⟩ := id p2
    simp only at hc hd hc2 hd2
    subst hc hd hc2 hd2
    exact concat_meets ⟨_, ho, rfl⟩ ⟨_, ho2, rfl⟩ noFill_tuple_add seq_tuple_add PySem.F.slot_tuple_add PySem.F.entry_tuple_add (PySem.F.args_tuple_add_2 _ _)
      (tuple_addW0 a b _ its2.toArray n n2 dd dd2 sl sl2 (by simp)) ⟨ho, ho2, ⟨.ref b, H, I, rfl, q.here hb⟩⟩
  · refine op_catT pins s σ H _ _ v u Q I rx ry ⟨a, b, xs, ys, rfl, rfl, ha, hb, hx, hz, fun e => ?_, fun _ p hp => q.new hp⟩
    subst e
    rw [List.append_nil] at q
    exact q.here ha
end
end L2

set_option Elab.async false
set_option linter.all false
set_option maxRecDepth 100000
set_option maxHeartbeats 4000000
namespace HZ
open PySem PySem.Spec PyProof.Rows
structure Stp (P : Program) (w : World) (A : Around) (i l : Addr) (tn : Nat → Heap → Prop) (val : Nat → Option Value) : Prop where
  keep : ∀ k h h', tn k h → (∀ o, h.get? i = some o → h'.get? i = some o) → (∀ o, h.get? l = some o → h'.get? l = some o) → tn k h'
  item : ∀ k (s : Shared) (Q : Value → Shared → Prop) (E : Value → Shared → Prop) x, tn k s.heap → val k = some x → (∀ h', tn (k + 1) h' → Heap.SameBut i s.heap h' → Q x { s with heap := h' }) → wpAny (model P w) A (Builtin.SmallTypes.nextOf (.ref i)) Q E s
  stop : ∀ k (s : Shared) (Q : Value → Shared → Prop) (E : Value → Shared → Prop), tn k s.heap → val k = none → (∀ h' e, Heap.ExtBut i s.heap h' → (∃ o, h'.get? e = some o ∧ o.cls = .type "StopIteration") → E (.ref e) { s with heap := h' }) → wpAny (model P w) A (Builtin.SmallTypes.nextOf (.ref i)) Q E s
  obj : ∀ k h, tn k h → ∃ o, h.get? i = some o ∧ ∀ v, o.data ≠ .cell v
section
variable {P : Program} {w : World} {A : Around} {E : Value → Shared → Prop} {s : Shared}
theorem nextOf_tup {it t : Addr} {k : Nat} {its : Array Value} {x : Value} {Q : Value → Shared → Prop} (g : s.heap.IsTupleIter it t k) (gt : s.heap.IsTuple t its) (gx : its[k]? = some x)
    (q : ∀ h', h'.IsTupleIter it t (k + 1) → Heap.SameBut it s.heap h' → Q x { s with heap := h' }) : wpAny (model P w) A (Builtin.SmallTypes.nextOf (.ref it)) Q E s := by
  obtain ⟨o, go, gc, gd⟩ := id g
  obtain ⟨ol, gol, _, nl, gdl⟩ := gt
  unfold Builtin.SmallTypes.nextOf
  refine wpAny_bind (wpAny_callSpecial?_slot (name := Str.ofString "__next__") g.typeIs F.slot_tuple_iterator_next
    (wpAny_call_entry F.slot_tuple_iterator_next g.typeIs F.entry_tuple_iterator_next ?_ (F.args_tuple_iterator_next_1 _)))
  show wpAny _ _ (field (.ref it) 0 >>= _) _ _ _
  refine wpAny_bind (wpAny_field go gd (x := .ref t) rfl ?_)
  show wpAny _ _ (if (Value.ref t == Value.none) = true then _ else _) _ _ _
  rw [if_neg (fun z : (Value.ref t == Value.none) = true => Bool.false_ne_true z)]
  show wpAny _ _ (field (.ref it) 1 >>= _) _ _ _
  refine wpAny_bind (wpAny_field go gd (x := .int k 0) rfl ?_)
  show wpAny _ _ (seqItems? (.ref t) >>= _) _ _ _
  refine wpAny_bind (wpAny_seqItems gol gdl ?_)
  simp only [Int.toNat_natCast, gx]
  refine wpAny_bind (wpAny_setField go gd (by simp) (wpAny_pure ⟨x, rfl, wpAny_pure (q _ ?_ (Heap.SameBut.update ..))⟩))
  exact ⟨_, Heap.get?_update_self _ go (Obj.isFreed_of_fields (Obj.data_mapFields gd _)), (Obj.cls_mapFields ..).trans gc, by rw [Obj.data_mapFields gd]; simp [rawInt]⟩
theorem nextOf_tup_end {it t : Addr} {k : Nat} {its : Array Value} {Q : Value → Shared → Prop} (gh : A.handled = none) (g : s.heap.IsTupleIter it t k) (gt : s.heap.IsTuple t its) (gx : its[k]? = none)
    (q : ∀ h' e, Heap.ExtBut it s.heap h' → (∃ o, h'.get? e = some o ∧ o.cls = .type "StopIteration") → E (.ref e) { s with heap := h' }) : wpAny (model P w) A (Builtin.SmallTypes.nextOf (.ref it)) Q E s := by
  obtain ⟨o, go, gc, gd⟩ := id g
  obtain ⟨ol, gol, _, nl, gdl⟩ := gt
  unfold Builtin.SmallTypes.nextOf
  refine wpAny_bind (wpAny_callSpecial?_slot (name := Str.ofString "__next__") g.typeIs F.slot_tuple_iterator_next
    (wpAny_call_entry F.slot_tuple_iterator_next g.typeIs F.entry_tuple_iterator_next ?_ (F.args_tuple_iterator_next_1 _)))
  show wpAny _ _ (field (.ref it) 0 >>= _) _ _ _
  refine wpAny_bind (wpAny_field go gd (x := .ref t) rfl ?_)
  show wpAny _ _ (if (Value.ref t == Value.none) = true then _ else _) _ _ _
  rw [if_neg (fun z : (Value.ref t == Value.none) = true => Bool.false_ne_true z)]
  show wpAny _ _ (field (.ref it) 1 >>= _) _ _ _
  refine wpAny_bind (wpAny_field go gd (x := .int k 0) rfl ?_)
  show wpAny _ _ (seqItems? (.ref t) >>= _) _ _ _
  refine wpAny_bind (wpAny_seqItems gol gdl ?_)
  simp only [Int.toNat_natCast, gx]
  refine wpAny_bind (wpAny_rule (wpAny_bind (wpAny_setField go gd (by simp) ?_)))
  show wpAny _ _ (newExc (.type "StopIteration") [] >>= _) _ _ (_ : Shared)
  refine wpAny_bind ?_
  simp only [newExc, newTuple]
  refine wpAny_bind (wpAny_newObj_type ?_ (by size_fits))
  refine wpAny_bind (m := firstArgMember _ _) (wpAny_of_eq (a := Value.none) (by first | rfl | (unfold firstArgMember; rfl)) ?_)
  refine wpAny_newObj_type ?_ (by size_fits)
  simp only [raiseNew]
  refine wpAny_bind (wpAny_handled ?_)
  first | rw [gh] | rw [show A.in1.handled = none from gh]
  refine wpAny_bind (wpAny_pure (wpAny_throw ?_))
  exact q _ _ (((Heap.SameBut.update ..).extBut.push _).push _) ⟨_, Heap.get?_push_size _ rfl, rfl⟩
theorem stp_tup (gh : A.handled = none) (i l : Addr) (its : Array Value) : Stp P w A i l (fun k h => h.IsTupleIter i l k ∧ h.IsTuple l its) (fun k => its[k]?) where
  keep := fun k h h' st k1 k2 => ⟨st.1.at k1, by obtain ⟨o, e, r⟩ := st.2; exact ⟨o, k2 o e, r⟩⟩
  item := fun k s Q E x st e q => nextOf_tup st.1 st.2 e fun h' g sb => by
    by_cases hl : l = i
    · exfalso
      subst hl
      obtain ⟨o, e1, c1, _⟩ := st.1
      obtain ⟨o', e2, c2, _⟩ := st.2
      rw [e1] at e2; cases e2; rw [c1] at c2; simp at c2
    · obtain ⟨o, e2, r⟩ := st.2
      exact q h' ⟨g, o, (sb.2 l hl).trans e2, r⟩ sb
  stop := fun k s Q E st e q => nextOf_tup_end gh st.1 st.2 e q
  obj := fun k h st => by
    obtain ⟨o, e, _, d⟩ := st.1
    exact ⟨o, e, fun v z => by rw [d] at z; cases z⟩
structure Apart (z ti to j1 j2 m1 m2 : Addr) : Prop where
  a1 : ti ≠ z
  a2 : to ≠ z
  a3 : j1 ≠ z
  a4 : j2 ≠ z
  a5 : ti ≠ to
  a6 : ti ≠ j1
  a7 : ti ≠ j2
  a8 : to ≠ j1
  a9 : to ≠ j2
  b0 : j1 ≠ j2
  b1 : m1 ≠ z
  b2 : m1 ≠ to
  b3 : m1 ≠ j1
  b4 : m1 ≠ j2
  b5 : m2 ≠ z
  b6 : m2 ≠ to
  b7 : m2 ≠ j1
  b8 : m2 ≠ j2
theorem zip_item {z ti to j1 j2 m1 m2 : Addr} {t1 t2 : Nat → Heap → Prop} {v1 v2 : Nat → Option Value} {k : Nat} {x y a b : Value} {Q : Value → Shared → Prop} (D : Apart z ti to j1 j2 m1 m2) (S1 : Stp P w A j1 m1 t1 v1) (S2 : Stp P w A j2 m2 t2 v2)
    (gz : IsZip s.heap z ti to .none) (gi : IsPair s.heap ti (.ref j1) (.ref j2)) (go : IsPair s.heap to a b) (h1 : t1 k s.heap) (h2 : t2 k s.heap) (hx : v1 k = some x) (hy : v2 k = some y)
    (q : ∀ h', IsZip h' z ti to (rawInt s.heap.objs.size) → IsPair h' to x y → t1 (k + 1) h' → t2 (k + 1) h' → IsPair h' s.heap.objs.size x y → h'.objs.size = s.heap.objs.size + 1 →
      (∀ c o, c ≠ z → c ≠ to → c ≠ j1 → c ≠ j2 → s.heap.get? c = some o → h'.get? c = some o) → Q (.ref s.heap.objs.size) { s with heap := h' }) :
    wpAny (model P w) A (Builtin.«zip.__next__» ⟨[.ref z], []⟩) (fun fin s' => ∃ v, fin = .done (.ret v) ∧ Q v s') E s := by
  show wpAny _ _ (field (.ref z) 2 >>= _) _ _ (_ : Shared)
  refine wpAny_bind (wpAny_field gz rfl (x := .bool false) rfl ?_)
  show wpAny _ _ (field (.ref z) 3 >>= _) _ _ (_ : Shared)
  refine wpAny_bind (wpAny_field gz rfl (x := .ref ti) rfl ?_)
  refine wpAny_bind (wpAny_seqItems gi rfl ?_)
  show wpAny _ _ (Builtin.SmallTypes.ownedTupleIsFree (.ref z) >>= _) _ _ (_ : Shared)
  refine wpAny_bind ?_
  unfold Builtin.SmallTypes.ownedTupleIsFree
  refine wpAny_bind (wpAny_field gz rfl (x := .none) rfl (wpAny_pure ?_))
  simp only [if_true]
  refine wpAny_bind (wpAny_rule ?_)
  refine wpAny_bind (wpAny_field gz rfl (x := .ref to) rfl ?_)
  refine wpAny_bind (wpAny_setField_rec gz (by simp) fun p1 z1 s1 => ?_)
  replace z1 : IsZip p1 z ti to .ellipsis := z1
  refine wpAny_bind ?_
  simp only [List.zipIdx_cons, List.zipIdx_nil, List.forIn_cons, List.forIn_nil]
  refine wpAny_bind (wpAny_bind (wpAny_onRaise ?_))
  show wpAny _ _ (Builtin.SmallTypes.nextOf (.ref j1) >>= _) _ _ (_ : Shared)
  refine wpAny_bind (S1.item k _ _ _ x (S1.keep k _ _ h1 (fun o e => s1.extBut _ _ D.a3 e) (fun o e => s1.extBut _ _ D.b1 e)) hx fun p2 h12 s2 => wpAny_pure ?_)
  have o2 : IsPair p2 to a b := s2.extBut _ _ D.a8 (s1.extBut _ _ D.a2 go)
  refine wpAny_bind (wpAny_seqItems o2 rfl ?_)
  refine wpAny_bind (wpAny_updateSeq_pair o2 fun p3 o3 s3 => ?_)
  replace o3 : IsPair p3 to x b := o3
  refine wpAny_bind (wpAny_letGo (wpAny_pure ?_))
  refine wpAny_bind (wpAny_bind (wpAny_onRaise ?_))
  show wpAny _ _ (Builtin.SmallTypes.nextOf (.ref j2) >>= _) _ _ (_ : Shared)
  refine wpAny_bind (S2.item k _ _ _ y (S2.keep k _ _ h2 (fun o e => s3.extBut _ _ D.a9.symm (s2.extBut _ _ D.b0.symm (s1.extBut _ _ D.a4 e))) (fun o e => s3.extBut _ _ D.b6 (s2.extBut _ _ D.b7 (s1.extBut _ _ D.b5 e)))) hy fun p4 h24 s4 => wpAny_pure ?_)
  have o4 : IsPair p4 to x b := s4.extBut _ _ D.a9 o3
  refine wpAny_bind (wpAny_seqItems o4 rfl ?_)
  refine wpAny_bind (wpAny_updateSeq_pair o4 fun p5 o5 s5 => ?_)
  replace o5 : IsPair p5 to x y := o5
  refine wpAny_bind (wpAny_letGo (wpAny_pure (wpAny_pure ?_)))
  refine wpAny_bind (wpAny_seqItems o5 rfl ?_)
  refine wpAny_bind (wpAny_newTuple ?_)
  have gs : p5.objs.size = s.heap.objs.size := by rw [s5.1, s4.1, s3.1, s2.1, s1.1]
  have z5 : IsZip p5 z ti to .ellipsis := s5.extBut _ _ D.a2.symm (s4.extBut _ _ D.a4.symm (s3.extBut _ _ D.a2.symm (s2.extBut _ _ D.a3.symm z1)))
  have k5 : ∀ c o, c ≠ z → c ≠ to → c ≠ j1 → c ≠ j2 → s.heap.get? c = some o → p5.get? c = some o := fun c o c1 c2 c3 c4 e => s5.extBut _ _ c2 (s4.extBut _ _ c4 (s3.extBut _ _ c2 (s2.extBut _ _ c3 (s1.extBut _ _ c1 e))))
  have h15 : t1 (k + 1) p5 := S1.keep _ _ _ h12 (fun o e => s5.extBut _ _ D.a8.symm (s4.extBut _ _ D.b0 (s3.extBut _ _ D.a8.symm e))) (fun o e => s5.extBut _ _ D.b2 (s4.extBut _ _ D.b4 (s3.extBut _ _ D.b2 e)))
  have h25 : t2 (k + 1) p5 := S2.keep _ _ _ h24 (fun o e => s5.extBut _ _ D.a9.symm e) (fun o e => s5.extBut _ _ D.b6 e)
  have lz : z < p5.objs.size := Heap.lt_size z5
  show wpAny _ _ (Builtin.SmallTypes.ownedTupleHandOut (.ref z) (.ref p5.objs.size) >>= _) _ _ (_ : Shared)
  refine wpAny_bind ?_
  unfold Builtin.SmallTypes.ownedTupleHandOut
  have z6 : IsZip (p5.push { cls := .type "tuple", data := .seq #[x, y] }) z ti to .ellipsis := Heap.get?_push_of_some _ z5
  refine wpAny_bind (wpAny_setField_rec z6 (by simp) fun p7 z7 s7 => ?_)
  replace z7 : IsZip p7 z ti to (rawInt p5.objs.size) := z7
  refine wpAny_setField_rec z7 (by simp) fun p8 z8 s8 => ?_
  replace z8 : IsZip p8 z ti to (rawInt p5.objs.size) := z8
  have up : ∀ c o, c ≠ z → p5.get? c = some o → p8.get? c = some o := fun c o c1 e => s8.extBut _ _ c1 (s7.extBut _ _ c1 (Heap.get?_push_of_some _ e))
  have w8 : IsPair p8 p5.objs.size x y := s8.extBut _ _ (Nat.ne_of_gt lz) (s7.extBut _ _ (Nat.ne_of_gt lz) (Heap.get?_push_size _ rfl))
  have n8 : p8.objs.size = p5.objs.size + 1 := by rw [s8.1, s7.1, Heap.size_push]
  rw [gs] at z8 w8 n8
  refine wpAny_pure ⟨_, rfl, ?_⟩
  show Q (.ref p5.objs.size) _
  rw [gs]
  exact q p8 z8 (up _ _ D.a2 o5) (S1.keep _ _ _ h15 (fun o e => up _ o D.a3 e) (fun o e => up _ o D.b1 e)) (S2.keep _ _ _ h25 (fun o e => up _ o D.a4 e) (fun o e => up _ o D.b5 e)) w8 n8 fun c o c1 c2 c3 c4 e => up c o c1 (k5 c o c1 c2 c3 c4 e)
theorem zip_end {z ti to j1 j2 m1 m2 : Addr} {t1 t2 : Nat → Heap → Prop} {v1 v2 : Nat → Option Value} {k : Nat} {a b : Value} {Q : Fin → Shared → Prop} (D : Apart z ti to j1 j2 m1 m2) (S1 : Stp P w A j1 m1 t1 v1) (S2 : Stp P w A j2 m2 t2 v2)
    (gz : IsZip s.heap z ti to .none) (gi : IsPair s.heap ti (.ref j1) (.ref j2)) (go : IsPair s.heap to a b) (h1 : t1 k s.heap) (h2 : t2 k s.heap) (hend : v1 k = none ∨ v2 k = none)
    (q : ∀ h' e, (∀ c o, c ≠ z → c ≠ to → c ≠ j1 → c ≠ j2 → s.heap.get? c = some o → h'.get? c = some o) → (∃ o, h'.get? e = some o ∧ o.cls = .type "StopIteration") → E (.ref e) { s with heap := h' }) :
    wpAny (model P w) A (Builtin.«zip.__next__» ⟨[.ref z], []⟩) Q E s := by
  show wpAny _ _ (field (.ref z) 2 >>= _) _ _ (_ : Shared)
  refine wpAny_bind (wpAny_field gz rfl (x := .bool false) rfl ?_)
  show wpAny _ _ (field (.ref z) 3 >>= _) _ _ (_ : Shared)
  refine wpAny_bind (wpAny_field gz rfl (x := .ref ti) rfl ?_)
  refine wpAny_bind (wpAny_seqItems gi rfl ?_)
  show wpAny _ _ (Builtin.SmallTypes.ownedTupleIsFree (.ref z) >>= _) _ _ (_ : Shared)
  refine wpAny_bind ?_
  unfold Builtin.SmallTypes.ownedTupleIsFree
  refine wpAny_bind (wpAny_field gz rfl (x := .none) rfl (wpAny_pure ?_))
  simp only [if_true]
  refine wpAny_bind (wpAny_rule ?_)
  refine wpAny_bind (wpAny_field gz rfl (x := .ref to) rfl ?_)
  refine wpAny_bind (wpAny_setField_rec gz (by simp) fun p1 z1 s1 => ?_)
  replace z1 : IsZip p1 z ti to .ellipsis := z1
  refine wpAny_bind ?_
  simp only [List.zipIdx_cons, List.zipIdx_nil, List.forIn_cons, List.forIn_nil]
  refine wpAny_bind (wpAny_bind (wpAny_onRaise ?_))
  show wpAny _ _ (Builtin.SmallTypes.nextOf (.ref j1) >>= _) _ _ (_ : Shared)
  have h11 : t1 k p1 := S1.keep k _ _ h1 (fun o e => s1.extBut _ _ D.a3 e) (fun o e => s1.extBut _ _ D.b1 e)
  cases hx : v1 k with
  | none =>
    refine wpAny_bind (S1.stop k _ _ _ h11 hx fun p2 e s2 he => ?_)
    obtain ⟨oe, g1, g2⟩ := he
    have z2 : IsZip p2 z ti to .ellipsis := s2 _ _ D.a3.symm z1
    have ne : e ≠ z := fun u => by subst u; rw [z2] at g1; cases g1; simp at g2
    refine wpAny_setField_rec z2 (by simp) fun p3 _ s3 => q p3 e (fun c o c1 _ c3 _ u => s3.extBut _ _ c1 (s2 _ _ c3 (s1.extBut _ _ c1 u))) ⟨oe, s3.extBut _ _ ne g1, g2⟩
  | some x =>
    have hy : v2 k = none := by
      rcases hend with h | h
      · rw [hx] at h; cases h
      · exact h
    refine wpAny_bind (S1.item k _ _ _ x h11 hx fun p2 h12 s2 => wpAny_pure ?_)
    have o2 : IsPair p2 to a b := s2.extBut _ _ D.a8 (s1.extBut _ _ D.a2 go)
    refine wpAny_bind (wpAny_seqItems o2 rfl ?_)
    refine wpAny_bind (wpAny_updateSeq_pair o2 fun p3 o3 s3 => ?_)
    refine wpAny_bind (wpAny_letGo (wpAny_pure ?_))
    refine wpAny_bind (wpAny_bind (wpAny_onRaise ?_))
    show wpAny _ _ (Builtin.SmallTypes.nextOf (.ref j2) >>= _) _ _ (_ : Shared)
    refine wpAny_bind (S2.stop k _ _ _ (S2.keep k _ _ h2 (fun o e => s3.extBut _ _ D.a9.symm (s2.extBut _ _ D.b0.symm (s1.extBut _ _ D.a4 e))) (fun o e => s3.extBut _ _ D.b6 (s2.extBut _ _ D.b7 (s1.extBut _ _ D.b5 e)))) hy fun p4 e s4 he => ?_)
    obtain ⟨oe, g1, g2⟩ := he
    have z4 : IsZip p4 z ti to .ellipsis := s4 _ _ D.a4.symm (s3.extBut _ _ D.a2.symm (s2.extBut _ _ D.a3.symm z1))
    have ne : e ≠ z := fun u => by subst u; rw [z4] at g1; cases g1; simp at g2
    refine wpAny_setField_rec z4 (by simp) fun p5 _ s5 => q p5 e (fun c o c1 c2 c3 c4 u => s5.extBut _ _ c1 (s4 _ _ c4 (s3.extBut _ _ c2 (s2.extBut _ _ c3 (s1.extBut _ _ c1 u))))) ⟨oe, s5.extBut _ _ ne g1, g2⟩
theorem next_item {z ti to j1 j2 m1 m2 : Addr} {t1 t2 : Nat → Heap → Prop} {v1 v2 : Nat → Option Value} {k : Nat} {x y a b : Value} {Q : Option Value → Shared → Prop} (D : Apart z ti to j1 j2 m1 m2) (S1 : Stp P w A.in1 j1 m1 t1 v1) (S2 : Stp P w A.in1 j2 m2 t2 v2)
    (gz : IsZip s.heap z ti to .none) (gi : IsPair s.heap ti (.ref j1) (.ref j2)) (go : IsPair s.heap to a b) (h1 : t1 k s.heap) (h2 : t2 k s.heap) (hx : v1 k = some x) (hy : v2 k = some y)
    (q : ∀ h', IsZip h' z ti to (rawInt s.heap.objs.size) → IsPair h' to x y → t1 (k + 1) h' → t2 (k + 1) h' → IsPair h' s.heap.objs.size x y → h'.objs.size = s.heap.objs.size + 1 →
      (∀ c o, c ≠ z → c ≠ to → c ≠ j1 → c ≠ j2 → s.heap.get? c = some o → h'.get? c = some o) → Q (some (.ref s.heap.objs.size)) { s with heap := h' }) : wpAny (model P w) A (pyNext (.ref z)) Q E s := by
  have hT : s.TypeIs (.ref z) "zip" := ⟨_, gz, rfl⟩
  unfold pyNext
  exact wpAny_bind (wpAny_attempt (wpAny_callSpecial?_slot (name := Str.ofString "__next__") hT F.slot_zip_next
    (wpAny_call_entry F.slot_zip_next hT F.entry_zip_next (zip_item D S1 S2 gz gi go h1 h2 hx hy fun h' a1 a2 a3 a4 a5 a6 a7 => wpAny_pure (q h' a1 a2 a3 a4 a5 a6 a7)) (F.args_zip_next_1 _))))
theorem next_end {z ti to j1 j2 m1 m2 : Addr} {t1 t2 : Nat → Heap → Prop} {v1 v2 : Nat → Option Value} {k : Nat} {a b : Value} {Q : Option Value → Shared → Prop} (D : Apart z ti to j1 j2 m1 m2) (S1 : Stp P w A.in1 j1 m1 t1 v1) (S2 : Stp P w A.in1 j2 m2 t2 v2)
    (gz : IsZip s.heap z ti to .none) (gi : IsPair s.heap ti (.ref j1) (.ref j2)) (go : IsPair s.heap to a b) (h1 : t1 k s.heap) (h2 : t2 k s.heap) (hend : v1 k = none ∨ v2 k = none)
    (q : ∀ h', (∀ c o, c ≠ z → c ≠ to → c ≠ j1 → c ≠ j2 → s.heap.get? c = some o → h'.get? c = some o) → Q none { s with heap := h' }) : wpAny (model P w) A (pyNext (.ref z)) Q E s := by
  have hT : s.TypeIs (.ref z) "zip" := ⟨_, gz, rfl⟩
  unfold pyNext
  refine wpAny_bind (wpAny_attempt (wpAny_callSpecial?_slot (name := Str.ofString "__next__") hT F.slot_zip_next
    (wpAny_call_entry F.slot_zip_next hT F.entry_zip_next (zip_end D S1 S2 gz gi go h1 h2 hend fun h' e hk he => ?_) (F.args_zip_next_1 _))))
  obtain ⟨o, ho, hc⟩ := he
  exact wpAny_bind (wpAny_isInstance (T := "StopIteration") (b := true) ⟨o, ho, hc⟩ isSubtype_stop (wpAny_pure (q _ hk)))
end
end HZ

set_option Elab.async false
set_option linter.all false
set_option maxRecDepth 100000
set_option maxHeartbeats 4000000
namespace L2
open PySem PySem.Spec PyProof.Rows
theorem sqT_ne {X : Cx} {pins : List (Addr × Obj)} {σ : St} {H : Hp} {s : Shared} {a b : Addr} {xs : List V} (I : Inv X pins σ H s) (h : SqT X.K H a xs) (f : FpOk X pins H b) : a ≠ b := by
  rintro rfl
  obtain ⟨f0, _, _, f3, _⟩ := f
  rcases h with (h | ⟨o, h⟩) | ⟨o, its, n, hk, _⟩
  · rw [f0] at h; cases h
  · rw [f0] at h; cases h
  · have hb := I.mod.kin a o hk
    rcases f3 with z | z
    · exact I.ok.noex a o hb z
    · exact absurd (Nat.lt_of_lt_of_le (Heap.lt_size hb) (Nat.le_trans I.ok.bsz z)) (Nat.lt_irrefl _)
theorem Inv.turnedAll {X : Cx} {pins : List (Addr × Obj)} {σ : St} {H : Hp} {s : Shared} {h' : Heap} {t' : Nat} {ch : List Addr} (I : Inv X pins σ H s) (k : ∀ b o, b ∉ ch → s.heap.get? b = some o → h'.get? b = some o) (hf : ∀ b ∈ ch, FpOk X pins H b) :
    Inv X pins σ H { s with heap := h', toks := t' } := by
  have nin : ∀ b u, H b = some u → b ∉ ch := fun b u e z => by rw [(hf b z).1] at e; cases e
  refine I.step (g' := s.gens) (d' := s.drawn) (ch := ch) (fun b hb => ?_) (fun b o _ _ hc e _ => k b o hc e) (fun b o _ _ hc e _ => ⟨o.slots, k b o hc e⟩) (fun _ _ _ _ n => n) (fun b o hc e => ⟨o, k b o hc e⟩) (fun _ _ e => e) (fun _ _ _ e => e)
    (fun b ps e => ⟨#[], by rw [e]; simp⟩) (fun m hm => ?_) (fun b u e => ?_) I.bare
  · obtain ⟨_, f1, _, f3, f4, f5⟩ := hf b hb
    exact ⟨f3, f1, f4, f5⟩
  · obtain ⟨o, es, ep, ho, r⟩ := hm
    exact ⟨o, es, ep, k _ o (fun z => (hf _ z).2.1 rfl) ho, r⟩
  · refine (I.hok b u e).stay (fun c v hc q => k c v ?_ q) (fun _ q => q) fun _ _ q => q
    rcases hc with z | z
    · rw [z]; exact nin b u e
    · exact nin c _ z
theorem Inv.turnedLay {X : Cx} {pins : List (Addr × Obj)} {σ : St} {H : Hp} {s : Shared} {h' : Heap} {t' : Nat} {ch : List Addr} {p : Addr} {u : HO} (I : Inv X pins σ H s) (k : ∀ b o, b ∉ ch → s.heap.get? b = some o → h'.get? b = some o) (hf : ∀ b ∈ ch, FpOk X pins H b)
    (hp : s.heap.objs.size ≤ p) (new : ObjOk X.prog X.w (upd H p u) h' p u) : Inv X pins σ (upd H p u) { s with heap := h', toks := t' } := by
  have hn : H p = none := I.hok.fresh hp
  have hok : HOk X.prog X.w (upd H p u) h' := (I.turnedAll (t' := t') k hf).hok.adopt hn new
  refine I.step (g' := s.gens) (d' := s.drawn) (ch := ch) (fun b hb => ?_) (fun b o _ _ hc e _ => k b o hc e) (fun b o _ _ hc e _ => ⟨o.slots, k b o hc e⟩) (fun b o _ e n => ?_) (fun b o hc e => ⟨o, k b o hc e⟩) (fun c xs e => by rw [upd_ne (ne_of_none e hn)]; exact e) (fun c o v e => by rw [upd_ne (ne_of_none e hn)]; exact e)
    (fun c ps e => ⟨#[], by rw [upd_ne (ne_of_none e hn), e]; simp⟩) (fun m hm => ?_) hok I.bare
  · obtain ⟨_, f1, _, f3, f4, f5⟩ := hf b hb
    exact ⟨f3, f1, f4, f5⟩
  · rw [upd_ne (Nat.ne_of_lt (Nat.lt_of_lt_of_le (Heap.lt_size e) hp))]
    exact n
  · obtain ⟨o, es, ep, ho, r⟩ := hm
    exact ⟨o, es, ep, k _ o (fun z => (hf _ z).2.1 rfl) ho, r⟩
def ItzT (K : PySem.W.Frag) (a b : Addr) : It :=
  ⟨fun i H => ∃ xs ys x y, SqT K H a xs ∧ SqT K H b ys ∧ xs[i]? = some x ∧ ys[i]? = some y, fun i H v H' => ∃ p x y, H p = none ∧ v = .ref p ∧ H' = upd H p (.tup [x, y]) ∧ ∀ xs ys, SqT K H a xs → SqT K H b ys → xs[i]? = some x ∧ ys[i]? = some y,
    fun i H => ∃ xs ys, SqT K H a xs ∧ SqT K H b ys ∧ (xs.length ≤ i ∨ ys.length ≤ i)⟩
def ItzL (K : PySem.W.Frag) (a b : Addr) : It :=
  ⟨fun i H => ∃ xs ys x y, SqL K H a xs ∧ SqL K H b ys ∧ xs[i]? = some x ∧ ys[i]? = some y, fun i H v H' => ∃ p x y, H p = none ∧ v = .ref p ∧ H' = upd H p (.tup [x, y]) ∧ ∀ xs ys, SqL K H a xs → SqL K H b ys → xs[i]? = some x ∧ ys[i]? = some y,
    fun i H => ∃ xs ys, SqL K H a xs ∧ SqL K H b ys ∧ (xs.length ≤ i ∨ ys.length ≤ i)⟩
structure ZipSt (it : Nat → Heap → Prop) (it2 : Nat → Heap → Prop) (z ti to j1 j2 : Addr) (i : Nat) (h : Heap) : Prop where
  z : IsZip h z ti to .none
  ti : IsPair h ti (.ref j1) (.ref j2)
  to : ∃ u v, IsPair h to u v
  h1 : it i h
  h2 : it2 i h
structure Five (z ti to j1 j2 : Addr) : Prop where
  a1 : ti ≠ z
  a2 : to ≠ z
  a3 : j1 ≠ z
  a4 : j2 ≠ z
  a5 : ti ≠ to
  a6 : ti ≠ j1
  a7 : ti ≠ j2
  a8 : to ≠ j1
  a9 : to ≠ j2
  b0 : j1 ≠ j2
theorem turn_zipT {P : Program} {w : World} {K : PySem.W.Frag} {elts : List Expr} {kk : Nat} {pos : Pos} (a b z ti to j1 j2 : Addr) (F : Five z ti to j1 j2) :
    Turn P w K (.Tuple elts kk pos) (ItzT K a b) [z, ti, to, j1, j2] z (ZipSt (fun i h => h.IsTupleIter j1 a i) (fun i h => h.IsTupleIter j2 b i) z ti to j1 j2) where
  mem := by simp
  obj := fun i h st c hc => by
    have hc' : c = z ∨ c = ti ∨ c = to ∨ c = j1 ∨ c = j2 := by simpa using hc
    rcases hc' with rfl | rfl | rfl | rfl | rfl
    · exact ⟨_, st.z, fun v q => nomatch q⟩
    · exact ⟨_, st.ti, fun v q => nomatch q⟩
    · obtain ⟨u, v, q⟩ := st.to; exact ⟨_, q, fun v q => nomatch q⟩
    · obtain ⟨o, e, _, d⟩ := st.h1; exact ⟨o, e, fun v q => by rw [d] at q; cases q⟩
    · obtain ⟨o, e, _, d⟩ := st.h2; exact ⟨o, e, fun v q => by rw [d] at q; cases q⟩
  keep := fun i h h' st k => ⟨k z (by simp) _ st.z, k ti (by simp) _ st.ti, by obtain ⟨u, v, q⟩ := st.to; exact ⟨u, v, k to (by simp) _ q⟩, st.h1.at fun o e => k j1 (by simp) o e, st.h2.at fun o e => k j2 (by simp) o e⟩
  item := by
    intro X hP hw hK hc i pins s σ H E I hf st hg
    subst hP hw hK
    obtain ⟨xs, ys, x, y, hx, hy, ex, ey⟩ := hg
    obtain ⟨i1, r1, p1, z1⟩ := I.tuple hx
    obtain ⟨i2, r2, p2, z2⟩ := I.tuple hy
    obtain ⟨u, eu, ru⟩ := r1.get ex
    obtain ⟨v, ev, rv⟩ := r2.get ey
    have ne : ∀ c ∈ [z, ti, to, j1, j2], a ≠ c ∧ b ≠ c := fun c hcm => ⟨sqT_ne I hx (hf c hcm), sqT_ne I hy (hf c hcm)⟩
    have D : HZ.Apart z ti to j1 j2 a b := ⟨F.a1, F.a2, F.a3, F.a4, F.a5, F.a6, F.a7, F.a8, F.a9, F.b0, (ne z (by simp)).1, (ne to (by simp)).1, (ne j1 (by simp)).1, (ne j2 (by simp)).1, (ne z (by simp)).2, (ne to (by simp)).2, (ne j1 (by simp)).2, (ne j2 (by simp)).2⟩
    obtain ⟨w1, w2, hto⟩ := st.to
    have hh : X.A.in1.handled = none := I.ok.hd hc
    refine HZ.next_item D (HZ.stp_tup hh j1 a i1.toArray) (HZ.stp_tup hh j2 b i2.toArray) st.z st.ti hto ⟨st.h1, p1⟩ ⟨st.h2, p2⟩ (by simpa using eu) (by simpa using ev) fun h' c1 c2 c3 c4 c5 c6 c7 => ⟨_, rfl, ?_⟩
    refine wpAny_letOwnedTupleGo_zip c1 fun h2 d1 d2 => ?_
    have hn : H s.heap.objs.size = none := I.hok.fresh (Nat.le_refl _)
    have zlt : z < s.heap.objs.size := Heap.lt_size st.z
    have newT : IsTup h2 s.heap.objs.size #[u, v] := ⟨_, d2.extBut _ _ (Nat.ne_of_gt zlt) c5, rfl, _, rfl⟩
    have I2 : Inv X pins σ (upd H s.heap.objs.size (.tup [x, y])) { s with heap := h2, toks := s.toks } := I.turnedLay (ch := [z, ti, to, j1, j2]) (fun c o hcn e => by
      have q : c ≠ z ∧ c ≠ ti ∧ c ≠ to ∧ c ≠ j1 ∧ c ≠ j2 := by simpa using hcn
      exact d2.extBut c o q.1 (c7 c o q.1 q.2.2.1 q.2.2.2.1 q.2.2.2.2 e)) hf (Nat.le_refl _) ⟨by show 2 ≤ sizeLine; decide, [u, v], .cons ru (.cons rv .nil), newT⟩
    refine ⟨.ref s.heap.objs.size, _, I2, rfl, ⟨_, x, y, hn, rfl, rfl, fun xs' ys' q1 q2 => ?_⟩, ?_, fun c hcm => ?_⟩
    · rw [I.tuple_inj q1 hx, I.tuple_inj q2 hy]; exact ⟨ex, ey⟩
    · refine ⟨d1, d2.extBut _ _ F.a1 (c7 _ _ F.a1 F.a5 F.a6 F.a7 st.ti), ⟨_, _, d2.extBut _ _ F.a2 c2⟩, c3.1.extBut d2.extBut F.a3, c4.1.extBut d2.extBut F.a4⟩
    · rw [upd_ne]
      · exact (hf c hcm).1
      · intro e
        obtain ⟨o, eo⟩ : ∃ o, s.heap.get? c = some o := by
          have hc' : c = z ∨ c = ti ∨ c = to ∨ c = j1 ∨ c = j2 := by simpa using hcm
          rcases hc' with q | q | q | q | q
          · rw [q]; exact ⟨_, st.z⟩
          · rw [q]; exact ⟨_, st.ti⟩
          · rw [q]; exact ⟨_, hto⟩
          · rw [q]; obtain ⟨o, e, _⟩ := st.h1; exact ⟨o, e⟩
          · rw [q]; obtain ⟨o, e, _⟩ := st.h2; exact ⟨o, e⟩
        exact absurd (Heap.lt_size eo) (by rw [e]; exact Nat.lt_irrefl _)
  done := by
    intro X hP hw hK hc i pins s σ H E I hf st hg
    subst hP hw hK
    obtain ⟨xs, ys, hx, hy, hle⟩ := hg
    obtain ⟨i1, r1, p1, z1⟩ := I.tuple hx
    obtain ⟨i2, r2, p2, z2⟩ := I.tuple hy
    have ne : ∀ c ∈ [z, ti, to, j1, j2], a ≠ c ∧ b ≠ c := fun c hcm => ⟨sqT_ne I hx (hf c hcm), sqT_ne I hy (hf c hcm)⟩
    have D : HZ.Apart z ti to j1 j2 a b := ⟨F.a1, F.a2, F.a3, F.a4, F.a5, F.a6, F.a7, F.a8, F.a9, F.b0, (ne z (by simp)).1, (ne to (by simp)).1, (ne j1 (by simp)).1, (ne j2 (by simp)).1, (ne z (by simp)).2, (ne to (by simp)).2, (ne j1 (by simp)).2, (ne j2 (by simp)).2⟩
    obtain ⟨w1, w2, hto⟩ := st.to
    have hh : X.A.in1.handled = none := I.ok.hd hc
    have l1 := r1.length
    have l2 := r2.length
    refine HZ.next_end D (HZ.stp_tup hh j1 a i1.toArray) (HZ.stp_tup hh j2 b i2.toArray) st.z st.ti hto ⟨st.h1, p1⟩ ⟨st.h2, p2⟩ ?_ fun h' c7 => ⟨rfl, I.turnedAll (t' := s.toks) (ch := [z, ti, to, j1, j2]) (fun c o hcn e => by
      have q : c ≠ z ∧ c ≠ ti ∧ c ≠ to ∧ c ≠ j1 ∧ c ≠ j2 := by simpa using hcn
      exact c7 c o q.1 q.2.2.1 q.2.2.2.1 q.2.2.2.2 e) hf⟩
    rcases hle with q | q
    · left; simp; omega
    · right; simp; omega
  self := fun A i s Q E st h => wpAny_pyIter_zip st.z h
end L2
namespace HZ
open PySem PySem.Spec PyProof.Rows
abbrev y1 (h : Heap) (m1 : Addr) : Heap := h.push { cls := .type "tuple_iterator", data := .fields #[.ref m1, .int 0 0] }
abbrev y2 (h : Heap) (m1 m2 : Addr) : Heap := (y1 h m1).push { cls := .type "tuple_iterator", data := .fields #[.ref m2, .int 0 0] }
abbrev y3 (h : Heap) (m1 m2 : Addr) : Heap := (y2 h m1 m2).push { cls := .type "tuple", data := .seq #[.ref h.objs.size, .ref (y1 h m1).objs.size] }
abbrev y4 (h : Heap) (m1 m2 : Addr) : Heap := (y3 h m1 m2).push { cls := .type "tuple", data := .seq #[.none, .none] }
abbrev y5 (h : Heap) (m1 m2 : Addr) : Heap := (y4 h m1 m2).push { cls := .type "zip", data := .fields #[.none, .bool false, .bool false, .ref (y2 h m1 m2).objs.size, .ref (y3 h m1 m2).objs.size] }
theorem meets_tups (m1 m2 : Addr) (xs ys : Array Value) :
    Meets (Builtin.«zip.__new__» ⟨[.type "zip", .ref m1, .ref m2], []⟩) (fun _ R s => s.heap.IsTuple m1 xs ∧ s.heap.IsTuple m2 ys ∧ R (.ok (.ret (.ref (y4 s.heap m1 m2).objs.size))) { s with heap := y5 s.heap m1 m2 }) :=
  .of_wp fun prog w A R s h => by
    obtain ⟨hp, g, d, tk, os⟩ := s; obtain ⟨h1, h2, h⟩ := h
    have hsub := sub_zip
    have L1 : Heap.IsTuple (Shared.heap ⟨hp, g, d, tk, os⟩) m1 xs := h1
    have L2 : Heap.IsTuple (Shared.heap ⟨hp.push { cls := .type "tuple_iterator", data := .fields #[.ref m1, .int 0 0] }, g, d, tk, os⟩) m2 ys := Heap.IsTuple.push h2 _
    wp_walk using wpAny_pyIter_tuple L1, wpAny_pyIter_tuple L2
    exact ⟨_, rfl, h⟩
section
variable {P : Program} {w : World} {A : Around} {E : Value → Shared → Prop} {s : Shared}
theorem call_zip_tups {m1 m2 : Addr} {xs ys : Array Value} {Q : Value → Shared → Prop} (h1 : s.heap.IsTuple m1 xs) (h2 : s.heap.IsTuple m2 ys)
    (h : ∀ h', IsZip h' (s.heap.objs.size + 4) (s.heap.objs.size + 2) (s.heap.objs.size + 3) .none → IsPair h' (s.heap.objs.size + 2) (.ref s.heap.objs.size) (.ref (s.heap.objs.size + 1)) →
      IsPair h' (s.heap.objs.size + 3) .none .none → h'.IsTupleIter s.heap.objs.size m1 0 → h'.IsTupleIter (s.heap.objs.size + 1) m2 0 → h'.objs.size = s.heap.objs.size + 5 →
      (∀ c o, s.heap.get? c = some o → h'.get? c = some o) → Q (.ref (s.heap.objs.size + 4)) { s with heap := h' }) : wpAny (model P w) A (call (.type "zip") [.ref m1, .ref m2]) Q E s := by
  refine callType_new F.called_zip (by decide) (F.typeCall_zip_2 _ _) (F.newCall_zip_2 _ _) (fun obj => F.args_object_init_3 obj _ _) F.entry_zip_new (meets_tups m1 m2 xs ys) ⟨h1, h2, ?_⟩
  have e1 : (y1 s.heap m1).objs.size = s.heap.objs.size + 1 := Heap.size_push ..
  have e2 : (y2 s.heap m1 m2).objs.size = s.heap.objs.size + 2 := by rw [Heap.size_push, e1]
  have e3 : (y3 s.heap m1 m2).objs.size = s.heap.objs.size + 3 := by rw [Heap.size_push, e2]
  have e4 : (y4 s.heap m1 m2).objs.size = s.heap.objs.size + 4 := by rw [Heap.size_push, e3]
  have e5 : (y5 s.heap m1 m2).objs.size = s.heap.objs.size + 5 := by rw [Heap.size_push, e4]
  have g5 : (y5 s.heap m1 m2).get? (y4 s.heap m1 m2).objs.size = some _ := Heap.get?_push_size _ rfl
  have g4 : (y5 s.heap m1 m2).get? (y3 s.heap m1 m2).objs.size = some _ := Heap.get?_push_of_some _ (Heap.get?_push_size _ rfl)
  have g3 : (y5 s.heap m1 m2).get? (y2 s.heap m1 m2).objs.size = some _ := Heap.get?_push_of_some _ (Heap.get?_push_of_some _ (Heap.get?_push_size _ rfl))
  have g2 : (y5 s.heap m1 m2).get? (y1 s.heap m1).objs.size = some _ := Heap.get?_push_of_some _ (Heap.get?_push_of_some _ (Heap.get?_push_of_some _ (Heap.get?_push_size _ rfl)))
  have g1 : (y5 s.heap m1 m2).get? s.heap.objs.size = some _ := Heap.get?_push_of_some _ (Heap.get?_push_of_some _ (Heap.get?_push_of_some _ (Heap.get?_push_of_some _ (Heap.get?_push_size _ rfl))))
  show _ ∧ _
  rw [e2, e3, e4] at g5
  rw [e1, e2] at g3
  rw [e3] at g4
  rw [e1] at g2
  rw [e4]
  exact ⟨⟨_, g5, rfl⟩, h _ g5 g3 g4 ⟨_, g1, rfl, rfl⟩ ⟨_, g2, rfl, rfl⟩ e5 fun c o q => Heap.get?_push_of_some _ (Heap.get?_push_of_some _ (Heap.get?_push_of_some _ (Heap.get?_push_of_some _ (Heap.get?_push_of_some _ q))))⟩
end
end HZ
namespace L2
open PySem PySem.Spec PyProof.Rows
theorem five_new (n : Nat) : Five (n + 4) (n + 2) (n + 3) n (n + 1) := by constructor <;> (show (_ : Nat) ≠ _) <;> omega
section
variable {X : Cx} {elts : List Expr} {kk : Nat} {tp : Pos}
def iZipT (K : PySem.W.Frag) (ta : TA) : TI := fun σ H R => ta σ H fun vs H1 => ∃ a b xs ys, vs = [.ref a, .ref b] ∧ SqT K H1 a xs ∧ SqT K H1 b ys ∧ R (ItzT K a b) H1
def iZipL (K : PySem.W.Frag) (ta : TA) : TI := fun σ H R => ta σ H fun vs H1 => ∃ a b xs ys, vs = [.ref a, .ref b] ∧ SqL K H1 a xs ∧ SqL K H1 b ys ∧ R (ItzL K a b) H1
theorem boot_zip' : bootBuiltins "zip" = some (.type "zip") := by decide +kernel
theorem fp_new {pins : List (Addr × Obj)} {σ : St} {H : Hp} {s : Shared} (I : Inv X pins σ H s) : ∀ b ∈ [s.heap.objs.size + 4, s.heap.objs.size + 2, s.heap.objs.size + 3, s.heap.objs.size, s.heap.objs.size + 1], FpOk X pins H b := fun b hb => by
  have hb' : s.heap.objs.size ≤ b := by
    have q : b = s.heap.objs.size + 4 ∨ b = s.heap.objs.size + 2 ∨ b = s.heap.objs.size + 3 ∨ b = s.heap.objs.size ∨ b = s.heap.objs.size + 1 := by simpa using hb
    omega
  exact I.fpOk hb' (I.hok.fresh hb')
theorem pi_zipT {a b : Expr} {ta : TA} {p pos : Pos} (hg : Gl X "zip") (hm : X.mg "zip" = none) (ha : PA X [a, b] ta) (hs : starEach [a, b] X.env = [(false, eval a X.env), (false, eval b X.env)] := by rfl) (hs2 : starEach [b] X.env = [(false, eval b X.env)] := by rfl) :
    PI X (.Tuple elts kk tp) (.Call (.Name "zip" p) [a, b] [] pos) (iZipT X.K ta) := by
  intro pins s σ H R I h
  refine Call_ (ld_blt I hg hm boot_zip' (PyProof.Rows.callWith_type1 (thn (ha pos pins s σ H _ I h) fun us s1 ⟨vs, H1, I1, r1, q1⟩ => ?_) (by rw [hs, hs2]) (by rw [hs2]; rfl)))
  obtain ⟨a, b, xs, ys, e, hx, hy, q⟩ := q1
  subst e
  obtain ⟨u, v, rfl, ru, rv⟩ := vals2 r1
  cases ru
  cases rv
  obtain ⟨i1, _, p1, _⟩ := I1.tuple hx
  obtain ⟨i2, _, p2, _⟩ := I1.tuple hy
  refine HZ.call_zip_tups (xs := i1.toArray) (ys := i2.toArray) p1 p2 fun h' c1 c2 c3 c4 c5 c6 c7 => ?_
  refine wpAny_pyIter_zip (s := { s1 with heap := h' }) c1 ?_
  exact ⟨_, [s1.heap.objs.size + 4, s1.heap.objs.size + 2, s1.heap.objs.size + 3, s1.heap.objs.size, s1.heap.objs.size + 1], _, _, H1, rfl, I1.kept (t' := s1.toks) c7, turn_zipT a b _ _ _ _ _ (five_new _), ⟨c1, c2, ⟨_, _, c3⟩, c4, c5⟩, fp_new I1, q⟩
end
end L2

set_option Elab.async false
set_option linter.all false
set_option maxRecDepth 100000
set_option maxHeartbeats 4000000
namespace PySem
section
variable {P : Program} {w : World} {A : Around} {E : Value → Shared → Prop} {s : Shared}
end
end PySem
namespace L2
open PySem PySem.Spec PyProof.Rows
def nDiff (ns : List Int) : Nat := (ns.foldl step_dedup []).length
theorem map_getD (ns : List Int) : (List.range ns.length).map (fun i => ns.getD i 0) = ns := by
  apply List.ext_getElem?
  intro i
  rw [List.getElem?_map]
  by_cases h : i < ns.length
  · rw [List.getElem?_range h, List.getElem?_eq_getElem h]
    simp [List.getD, List.getElem?_eq_getElem h]
  · rw [List.getElem?_eq_none (by simpa using h), List.getElem?_eq_none (by omega)]
    rfl
section
variable {X : Cx}
end
end L2

set_option Elab.async false
set_option linter.all false
set_option maxRecDepth 100000
set_option maxHeartbeats 4000000
namespace L2
open PySem PySem.Spec PyProof.Rows
section
variable {κ : Type} [DecidableEq κ]
def valV (kvs : List (κ × V)) (k : κ) : Option V := (kvs.find? fun kv => decide (kv.1 = k)).map (·.2)
def putK (kvs : List (κ × V)) (k : κ) (v : V) : List (κ × V) :=
  if (kvs.any fun kv => decide (kv.1 = k)) = true then kvs.map (fun kv => if kv.1 = k then (kv.1, v) else kv) else kvs ++ [(k, v)]
def dropK (kvs : List (κ × V)) (k : κ) : List (κ × V) := kvs.filter fun kv => decide (kv.1 ≠ k)
theorem length_putK (kvs : List (κ × V)) (k : κ) (v : V) : (putK kvs k v).length ≤ kvs.length + 1 := by
  unfold putK
  split
  · rw [List.length_map]; omega
  · rw [List.length_append, List.length_cons, List.length_nil]; omega
theorem KV.any {kvs : List (κ × V)} {vs : List (κ × Value)} (r : KV kvs vs) (k : κ) : (kvs.any fun kv => decide (kv.1 = k)) = vs.any fun kv => decide (kv.1 = k) := by
  unfold KV at r
  induction r with
  | nil => rfl
  | cons h t ih => rw [List.any_cons, List.any_cons, ih, h.1]
theorem KV.repl {kvs : List (κ × V)} {vs : List (κ × Value)} (r : KV kvs vs) (k : κ) {y : V} {u : Value} (ry : RelV y u) :
    KV (kvs.map fun kv => if kv.1 = k then (kv.1, y) else kv) (vs.map fun kv => if kv.1 = k then (kv.1, u) else kv) := by
  unfold KV at r ⊢
  induction r with
  | nil => exact .nil
  | @cons p q ps qs h t ih =>
    rw [List.map_cons, List.map_cons]
    refine .cons ?_ ih
    obtain ⟨h1, h2⟩ := h
    by_cases e : p.1 = k
    · rw [if_pos e, if_pos (h1.symm.trans e)]; exact ⟨h1, ry⟩
    · rw [if_neg e, if_neg (fun z => e (h1.trans z))]; exact ⟨h1, h2⟩
theorem KV.put {kvs : List (κ × V)} {vs : List (κ × Value)} (r : KV kvs vs) (k : κ) {y : V} {u : Value} (ry : RelV y u) : KV (putK kvs k y) (stored vs k u) := by
  unfold putK stored
  rw [r.any k]
  by_cases e : (vs.any fun kv => decide (kv.1 = k)) = true
  · rw [if_pos e, if_pos e]; exact r.repl k ry
  · rw [if_neg e, if_neg e]; exact Paired.snoc r ⟨rfl, ry⟩
end
theorem kV_is {P : Program} {w : World} {k : Key} {u : Value} (r : RelV (kV k) u) : (mixKind P w).is k u = true := by
  cases k with
  | inl i => obtain ⟨t, e⟩ := (show ∃ t, u = Value.int i t from r); subst e; exact mixKind_int P w i t
  | inr x => obtain ⟨t, e⟩ := (show ∃ t, u = Value.str x t from r); subst e; exact mixKind_str P w x t
abbrev KT (H : Hp) : List (List Key × V) → List (List Key × Addr × Value) → Prop := Paired fun p q => p.1 = q.1 ∧ H q.2.1 = some (.tup (p.1.map kV)) ∧ RelV p.2 q.2.2
section
variable {P : Program} {w : World} {H : Hp} {h : Heap} {a : Addr}
theorem rd_of {u : HO} (ok : HOk P w H h) (e : Rd H a u) : ObjOk P w H h a u := e.ok ok
theorem dk_rd {kvs : List (Key × V)} (ok : HOk P w H h) (e : Rd H a (.dK kvs)) : kvs.length ≤ sizeLine ∧ (a == sysModules) = false ∧ ∃ vs, KV kvs vs ∧ h.DictOf (mixKind P w) a vs :=
  show ObjOk P w H h a (.dK kvs) from rd_of ok e
theorem dk_of {kvs : List (Key × V)} (ok : HOk P w H h) (e : H a = some (.dK kvs)) : kvs.length ≤ sizeLine ∧ (a == sysModules) = false ∧ ∃ vs, KV kvs vs ∧ h.DictOf (mixKind P w) a vs := dk_rd ok (.inl e)
end
def DGet (H : Hp) (a : Addr) (y : V) (r : Option V) : Prop :=
  (∃ kvs k, Rd H a (.dK kvs) ∧ y = kV k ∧ r = valV kvs k) ∨ ∃ kvs k b, Rd H a (.dT kvs) ∧ y = .ref b ∧ H b = some (.tup (k.map kV)) ∧ r = valV kvs k
def DPut (H : Hp) (a : Addr) (y v : V) (H' : Hp) : Prop :=
  (∃ kvs k, H a = some (.dK kvs) ∧ y = kV k ∧ kvs.length < sizeLine ∧ H' = upd H a (.dK (putK kvs k v))) ∨
  ∃ kvs k b, H a = some (.dT kvs) ∧ y = .ref b ∧ H b = some (.tup (k.map kV)) ∧ kvs.length < sizeLine ∧ H' = upd H a (.dT (putK kvs k v))
section
variable {X : Cx} {pins : List (Addr × Obj)} {σ : St} {H : Hp} {s : Shared} {a : Addr} {y v : V} {u r : Value} {o : Option V} {A : Around} {E : Value → Shared → Prop}
theorem Inv.big (I : Inv X pins σ H s) : sysModules < s.heap.objs.size := by
  have h : mainGlobals < s.heap.objs.size := (I.mod.glob.keeps I.bk).lt
  exact Nat.lt_trans (by decide) h
theorem d_write {h' : Heap} {t' : Nat} {ob : HO} (I : Inv X pins σ H s) (mu : Mut (H a)) (hs : Heap.SameBut a s.heap h') (he : ∃ q, h'.get? a = some q) (new : ObjOk X.prog X.w (upd H a ob) h' a ob) :
    Inv X pins σ (upd H a ob) { s with heap := h', toks := t' } :=
  I.write (x := a) (e := a) mu (.inl rfl) (fun b q hb z => (hs.2 b hb).trans z) he new
theorem dk_new {P : Program} {w : World} {H' : Hp} {h' : Heap} {kvs : List (Key × V)} {vs : List (Key × Value)} (z : kvs.length ≤ sizeLine) (hd : (a == sysModules) = false) (rel : KV kvs vs) (dd : h'.DictOf (mixKind P w) a vs) :
    ObjOk P w H' h' a (.dK kvs) := ⟨z, hd, vs, rel, dd⟩
end
section
variable {X : Cx} {pins : List (Addr × Obj)} {σ : St} {H : Hp} {s : Shared} {a : Addr} {kvs : List (Key × V)} {k : Key} {u : Value} {A : Around} {E : Value → Shared → Prop}
end
def NoSl (i : Expr) : Prop := ∀ ov iv, subscripted i false ov iv = operate [ov, iv] (getItem ov iv)
def tDGet (td ty : TE) : TE := fun σ H Q => td σ H fun x H1 => ty σ H1 fun y H2 => ∃ a v, x = .ref a ∧ DGet H2 a y (some v) ∧ Q v H2
def tDIn (ty td : TE) : TE := fun σ H Q => ty σ H fun y H1 => td σ H1 fun x H2 => ∃ a o, x = .ref a ∧ DGet H2 a y o ∧ Q (.bl o.isSome) H2
def tDNotIn (ty td : TE) : TE := fun σ H Q => ty σ H fun y H1 => td σ H1 fun x H2 => ∃ a o, x = .ref a ∧ DGet H2 a y o ∧ Q (.bl (!o.isSome)) H2
def sDPut (td ty tv : TE) : TS := fun D σ H => tv σ H fun v H1 => td σ H1 fun x H2 => ty σ H2 fun y H3 => ∃ a H4, x = .ref a ∧ DPut H3 a y v H4 ∧ D.nx σ H4
def sDAug (td ty tv : TE) (rd : V → V → Hp → VK → Prop) : TS := fun D σ H => td σ H fun x H1 => ty σ H1 fun y H2 => ∃ a v, x = .ref a ∧ DGet H2 a y (some v) ∧
  tv σ H2 fun y2 H3 => rd v y2 H3 fun z H4 => ∃ H5, DPut H4 a y z H5 ∧ D.nx σ H5
def sDDel (td ty : TE) : TS := fun D σ H => td σ H fun x H1 => ty σ H1 fun y H2 => ∃ a kvs k, x = .ref a ∧ H2 a = some (.dK kvs) ∧ y = kV k ∧ (valV kvs k).isSome = true ∧ D.nx σ (upd H2 a (.dK (dropK kvs k)))
section
variable {X : Cx} {o i e value : Expr} {pos pos' tpos : Pos} {td ty tv : TE}
end
theorem dk_empty {P : Program} {w : World} {H : Hp} (h : Heap) (hb : sysModules < h.objs.size) : ObjOk P w H (h.push { cls := .type "dict", data := .dict #[] }) h.objs.size (.dK []) :=
  ⟨Nat.zero_le _, beq_eq_false_iff_ne.mpr (Ne.symm (Nat.ne_of_lt hb)), [], .nil, Heap.DictOf.new h⟩
def tDNewK : TE := fun _ H Q => ∀ p, H p = none → Q (.ref p) (upd H p (.dK []))
def tDNewT : TE := fun _ H Q => ∀ p, H p = none → Q (.ref p) (upd H p (.dT []))
section
variable {X : Cx} {pos : Pos}
theorem pe_dnewK : PE X (.Dict [] [] pos) tDNewK := fun pins s σ H Q I h =>
  wpAny_Dict_empty ⟨.ref s.heap.objs.size, _, I.laid (a := s.heap.objs.size) (o := .dK []) (t' := s.toks) (fun _ _ q => Heap.get?_push_of_some _ q) (Nat.le_refl _) (dk_empty s.heap I.big), rfl, h _ (I.hok.fresh (Nat.le_refl _))⟩
end
def tPairs : List (TE × TE) → St → Hp → (List (V × V) → Hp → Prop) → Prop
  | [], _, H, Q => Q [] H
  | (tk, tv) :: r, σ, H, Q => tk σ H fun x H1 => tv σ H1 fun y H2 => tPairs r σ H2 fun ps H3 => Q ((x, y) :: ps) H3
abbrev VV : List (V × V) → List (Value × Value) → Prop := Paired fun p q => RelV p.1 q.1 ∧ RelV p.2 q.2
def PPs (X : Cx) (pos : Pos) (keys : List (Option Expr)) (values : List Expr) (trs : List (TE × TE)) : Prop :=
  ∀ (pins : List (Addr × Obj)) (s : Shared) (σ : St) (H : Hp) (Q : List (V × V) → Hp → Prop), Inv X pins σ H s → tPairs trs σ H Q →
    wpAny (model X.prog X.w) X.A (evalPairs (pairTrees keys values X.env pos)) (fun vs s' => ∃ ps H', Inv X pins σ H' s' ∧ VV ps vs ∧ Q ps H') X.xe s
theorem pps_nil {X : Cx} {pos : Pos} : PPs X pos [] [] [] := fun pins s σ H Q I h => pairTrees_nil_walk ⟨[], H, I, .nil, h⟩
theorem pps_cons {X : Cx} {pos : Pos} {k v : Expr} {ks : List (Option Expr)} {vs : List Expr} {tk tv : TE} {trs : List (TE × TE)} (hk : PE X k tk) (hv : PE X v tv) (hr : PPs X pos ks vs trs) :
    PPs X pos (some k :: ks) (v :: vs) ((tk, tv) :: trs) := fun pins s σ H Q I h =>
  pairTrees_cons_walk (thn (hk pins s σ H _ I h) fun u s1 ⟨x, H1, I1, rx, q1⟩ => thn (hv pins s1 σ H1 _ I1 q1) fun w2 s2 ⟨y, H2, I2, ry, q2⟩ =>
    thn (hr pins s2 σ H2 _ I2 q2) fun ws s3 ⟨ps, H3, I3, rel, q3⟩ => ⟨(x, y) :: ps, H3, I3, .cons ⟨rx, ry⟩ rel, q3⟩)
def mergeK (kvs more : List (Key × V)) : List (Key × V) := more.foldl (fun acc kv => putK acc kv.1 kv.2) kvs
theorem KV.merge : ∀ {more : List (Key × V)} {rs : List (Key × Value)} {kvs : List (Key × V)} {vs : List (Key × Value)}, KV more rs → KV kvs vs → KV (mergeK kvs more) (merged vs rs) := by
  intro more rs kvs vs r
  unfold KV at r
  induction r generalizing kvs vs with
  | nil => intro q; exact q
  | @cons p q ps qs h t ih =>
    intro r0
    have e : KV (putK kvs p.1 p.2) (stored vs q.1 q.2) := by
      have := r0.put p.1 h.2
      rw [← h.1]; exact this
    exact ih e
theorem length_mergeK : ∀ (more kvs : List (Key × V)), (mergeK kvs more).length ≤ kvs.length + more.length
  | [], kvs => by show kvs.length ≤ kvs.length + 0; omega
  | p :: r, kvs => by
    have h1 := length_mergeK r (putK kvs p.1 p.2)
    have h2 := length_putK kvs p.1 p.2
    show (mergeK (putK kvs p.1 p.2) r).length ≤ _
    rw [List.length_cons]; omega
theorem carries_of {P : Program} {w : World} : ∀ {kvs : List (Key × V)} {ws : List (Value × Value)}, VV (kvs.map fun kv => (kV kv.1, kv.2)) ws → ∃ rs, Carries (mixKind P w) ws rs ∧ KV kvs rs
  | [], _, r => by rw [List.map_nil] at r; cases r; exact ⟨[], True.intro, .nil⟩
  | p :: kvs, _, r => by
    rw [List.map_cons] at r
    cases r with
    | @cons a b as bs h t =>
      obtain ⟨rs, c, q⟩ := carries_of (P := P) (w := w) t
      obtain ⟨b1, b2⟩ := b
      exact ⟨(p.1, b2) :: rs, ⟨kV_is h.1, rfl, c⟩, .cons ⟨rfl, h.2⟩ q⟩
def tDisp (trs : List (TE × TE)) : TE := fun σ H Q => ∀ p, H p = none → tPairs trs σ (upd H p (.dK [])) fun ps H2 => H2 p = some (.dK []) ∧ ∃ kvs : List (Key × V), ps = kvs.map (fun kv => (kV kv.1, kv.2)) ∧ kvs.length ≤ 15 ∧ Q (.ref p) (upd H2 p (.dK (mergeK [] kvs)))
theorem pe_disp {X : Cx} {pos : Pos} {keys : List (Option Expr)} {values : List Expr} {trs : List (TE × TE)} (h : PPs X pos keys values trs) (hall : keys.all (·.isSome) = true) (hl : keys.length = values.length) (h0 : keys ≠ [])
    (h15 : keys.length ≤ 15) : PE X (.Dict keys values pos) (tDisp trs) := by
  intro pins s σ H Q I q
  have hn := I.hok.fresh (Nat.le_refl s.heap.objs.size)
  have I1 := I.laid (a := s.heap.objs.size) (o := .dK []) (h' := s.heap.push { cls := .type "dict", data := .dict #[] }) (t' := s.toks) (fun _ _ q => Heap.get?_push_of_some _ q) (Nat.le_refl _) (dk_empty s.heap I.big)
  refine wpAny_Dict_walk (knd := mixKind X.prog X.w) hall hl h0 h15 (thn (h pins _ σ _ _ I1 (q _ hn)) fun ws s2 ⟨ps, H2, I2, rel, e, kvs, ep, lk, q2⟩ => ?_)
  subst ep
  obtain ⟨rs, c, rk⟩ := carries_of (P := X.prog) (w := X.w) rel
  obtain ⟨z, hd, vs0, r0, dd⟩ := dk_of I2.hok e
  cases r0
  refine ⟨rs, c, dd, fun h' dd' hs => ⟨.ref s.heap.objs.size, _, ?_, rfl, q2⟩⟩
  have hz : (mergeK [] kvs).length ≤ sizeLine := by
    have h1 := length_mergeK kvs []
    rw [List.length_nil] at h1
    rw [sizeLine_eq]; omega
  have he : ∃ q, h'.get? s.heap.objs.size = some q := let ⟨q, _, _, hq, _⟩ := dd'; ⟨q, hq⟩
  exact d_write I2 (by rw [e]; exact True.intro) hs he (dk_new hz hd (rk.merge .nil) dd')
structure M1 (X : Cx) (o : Expr) (m : Str) (apos : Pos) (e : Expr) (cpos : Pos) : Prop where
  base : attributeBase o m X.env (eval o X.env) = eval o X.env
  few : ((backTo cpos (starEach [e] X.env)).all (fun x => !x.1) && (backToKw cpos (keywordEach [] X.env)).all (fun x => x.1.isSome)
    && decide (([e] : List Expr).length + ([] : List Keyword).length + (if ([] : List Keyword).isEmpty then 0 else 1) < 30)) = true
  line : (apos.endLine == cpos.line) = true
  trees : backTo cpos (starEach [e] X.env) = [(false, eval e X.env)]
structure M2 (X : Cx) (o : Expr) (m : Str) (apos : Pos) (e f : Expr) (cpos : Pos) : Prop where
  base : attributeBase o m X.env (eval o X.env) = eval o X.env
  few : ((backTo cpos (starEach [e, f] X.env)).all (fun x => !x.1) && (backToKw cpos (keywordEach [] X.env)).all (fun x => x.1.isSome)
    && decide (([e, f] : List Expr).length + ([] : List Keyword).length + (if ([] : List Keyword).isEmpty then 0 else 1) < 30)) = true
  line : (apos.endLine == cpos.line) = true
  trees : backTo cpos (starEach [e, f] X.env) = [(false, eval e X.env), (false, eval f X.env)]
def IsD (H : Hp) (a : Addr) : Prop := (∃ kvs, Rd H a (.dK kvs)) ∨ ∃ kvs, Rd H a (.dT kvs)
section
variable {X : Cx} {pins : List (Addr × Obj)} {σ : St} {H : Hp} {s : Shared} {a : Addr} {y d : V} {u r : Value} {o : Option V} {A : Around} {E : Value → Shared → Prop}
end
def tDGet1 (td ty : TE) : TE := fun σ H Q => td σ H fun x H1 => ∃ a, x = .ref a ∧ IsD H1 a ∧ ty σ H1 fun y H2 => ∃ o, DGet H2 a y o ∧ Q (o.getD .non) H2
def tDGet2 (td ty tx : TE) : TE := fun σ H Q => td σ H fun x H1 => ∃ a, x = .ref a ∧ IsD H1 a ∧ ty σ H1 fun y H2 => tx σ H2 fun z H3 => ∃ o, DGet H3 a y o ∧ Q (o.getD z) H3
def tDPop1 (td ty : TE) : TE := fun σ H Q => td σ H fun x H1 => ∃ a, x = .ref a ∧ IsD H1 a ∧ ty σ H1 fun y H2 => ∃ kvs k v, H2 a = some (.dK kvs) ∧ y = kV k ∧ valV kvs k = some v ∧ Q v (upd H2 a (.dK (dropK kvs k)))
def tDPop2 (td ty tx : TE) : TE := fun σ H Q => td σ H fun x H1 => ∃ a, x = .ref a ∧ IsD H1 a ∧ ty σ H1 fun y H2 => tx σ H2 fun z H3 => ∃ kvs k, H3 a = some (.dK kvs) ∧ y = kV k ∧
  (∀ v, valV kvs k = some v → Q v (upd H3 a (.dK (dropK kvs k)))) ∧ (valV kvs k = none → Q z H3)
section
variable {X : Cx} {o e f : Expr} {apos cpos : Pos} {td ty tx : TE}
end
section
variable {X : Cx} {pins : List (Addr × Obj)} {σ : St} {H : Hp} {s : Shared} {a : Addr} {kvs : List (Key × V)} {A : Around} {E : Value → Shared → Prop}
end
section
variable {X : Cx} {pins : List (Addr × Obj)} {σ : St} {H : Hp} {s : Shared} {a : Addr} {y : V} {u : Value} {A : Around} {E : Value → Shared → Prop}
end
end L2

set_option Elab.async false
set_option linter.all false
set_option maxRecDepth 100000
set_option maxHeartbeats 4000000
namespace L2
open PySem PySem.Spec PyProof.Rows
section
variable {K : PySem.W.Frag} {caps : St} {H : Hp} {tf : TT} {te : TE} {Q : VK}
theorem cw1 {J : It} {n : Nat} {f : Nat → V} (Pv : Nat → List V → Hp → Prop) (h0 : Pv 0 [] H) (hz : ∀ i acc H', i ≤ n → Pv i acc H' → acc.length ≤ sizeLine) (hgo : ∀ i acc H', i < n → Pv i acc H' → J.go i H' ∧ ∀ x H3, J.yld i H' x H3 → H3 = H' ∧ x = f i)
    (hst : ∀ acc H', Pv n acc H' → J.stop n H') (hs : ∀ i acc H', i < n → Pv i acc H' → tf (some (f i) :: caps) H' fun b H5 => if b = true then te (some (f i) :: caps) H5 fun v H6 => Pv (i + 1) (acc ++ [v]) H6 else Pv (i + 1) acc H5)
    (hd : ∀ acc H', Pv n acc H' → ∀ D, H' D = none → Q (.ref D) (upd H' D (.lst acc))) : CW J 1 caps (gName 0) tf te H Q := by
  refine ⟨fun i m acc H' => m = n - i ∧ i ≤ n ∧ Pv i acc H', ⟨n, by omega, Nat.zero_le _, h0⟩, ?_⟩
  rintro i m acc H2 ⟨rfl, hi, p⟩
  by_cases hlt : i < n
  · obtain ⟨g1, g2⟩ := hgo i acc H2 hlt p
    refine .inr ⟨g1, hz i acc H2 hi p, fun acc' H' => Pv (i + 1) acc' H', fun acc' H' q => ⟨n - (i + 1), by omega, rfl, hlt, q⟩, fun o x H3 ho y => ?_⟩
    obtain ⟨e1, e2⟩ := g2 x H3 y
    subst e1 e2
    match o, ho with
    | [a], _ => exact hs i acc _ hlt p
  · have e : i = n := by omega
    subst e
    exact .inl ⟨hst acc H2 p, hz _ acc H2 (Nat.le_refl _) p, hd acc H2 p⟩
theorem cw_tup {a : Addr} {xs : List V} (Pv : Nat → List V → Hp → Prop) (h0 : Pv 0 [] H) (hl : ∀ i acc H', i ≤ xs.length → Pv i acc H' → acc.length ≤ sizeLine ∧ SqT K H' a xs)
    (hs : ∀ i x acc H', xs[i]? = some x → Pv i acc H' → tf (some x :: caps) H' fun b H5 => if b = true then te (some x :: caps) H5 fun v H6 => Pv (i + 1) (acc ++ [v]) H6 else Pv (i + 1) acc H5)
    (hd : ∀ acc H', Pv xs.length acc H' → ∀ D, H' D = none → Q (.ref D) (upd H' D (.lst acc))) : CW (Itt K a) 1 caps (gName 0) tf te H Q := by
  refine cw1 (n := xs.length) (f := fun i => xs.getD i .non) Pv h0 (fun i acc H' hi p => (hl i acc H' hi p).1) (fun i acc H' hi p => ?_) (fun acc H' p => ⟨xs, (hl _ acc H' (Nat.le_refl _) p).2, Nat.le_refl _⟩) (fun i acc H' hi p => ?_) hd
  · have e : xs[i]? = some (xs.getD i .non) := by simp [List.getD, List.getElem?_eq_getElem hi]
    refine ⟨⟨xs, _, (hl i acc H' (Nat.le_of_lt hi) p).2, e⟩, fun x H3 y => ⟨y.1, ?_⟩⟩
    have := y.2 xs (hl i acc H' (Nat.le_of_lt hi) p).2
    rw [e] at this
    exact (Option.some.inj this).symm
  · exact hs i _ acc H' (by simp [List.getD, List.getElem?_eq_getElem hi]) p
theorem cw_list {a : Addr} {xs : List V} (Pv : Nat → List V → Hp → Prop) (h0 : Pv 0 [] H) (hl : ∀ i acc H', i ≤ xs.length → Pv i acc H' → acc.length ≤ sizeLine ∧ SqL K H' a xs)
    (hs : ∀ i x acc H', xs[i]? = some x → Pv i acc H' → tf (some x :: caps) H' fun b H5 => if b = true then te (some x :: caps) H5 fun v H6 => Pv (i + 1) (acc ++ [v]) H6 else Pv (i + 1) acc H5)
    (hd : ∀ acc H', Pv xs.length acc H' → ∀ D, H' D = none → Q (.ref D) (upd H' D (.lst acc))) : CW (Itl K a) 1 caps (gName 0) tf te H Q := by
  refine cw1 (n := xs.length) (f := fun i => xs.getD i .non) Pv h0 (fun i acc H' hi p => (hl i acc H' hi p).1) (fun i acc H' hi p => ?_) (fun acc H' p => ⟨xs, (hl _ acc H' (Nat.le_refl _) p).2, Nat.le_refl _⟩) (fun i acc H' hi p => ?_) hd
  · have e : xs[i]? = some (xs.getD i .non) := by simp [List.getD, List.getElem?_eq_getElem hi]
    refine ⟨⟨xs, _, (hl i acc H' (Nat.le_of_lt hi) p).2, e⟩, fun x H3 y => ⟨y.1, ?_⟩⟩
    have := y.2 xs (hl i acc H' (Nat.le_of_lt hi) p).2
    rw [e] at this
    exact (Option.some.inj this).symm
  · exact hs i _ acc H' (by simp [List.getD, List.getElem?_eq_getElem hi]) p
theorem cw_range {lo : Int} {n : Nat} (Pv : Nat → List V → Hp → Prop) (h0 : Pv 0 [] H) (hl : ∀ i acc H', i ≤ n → Pv i acc H' → acc.length ≤ sizeLine)
    (hs : ∀ i acc H', i < n → Pv i acc H' → tf (some (.int (lo + i)) :: caps) H' fun b H5 => if b = true then te (some (.int (lo + i)) :: caps) H5 fun v H6 => Pv (i + 1) (acc ++ [v]) H6 else Pv (i + 1) acc H5)
    (hd : ∀ acc H', Pv n acc H' → ∀ D, H' D = none → Q (.ref D) (upd H' D (.lst acc))) : CW (Itr lo n) 1 caps (gName 0) tf te H Q :=
  cw1 (n := n) (f := fun (i : Nat) => .int (lo + i)) Pv h0 hl (fun i acc H' hi p => ⟨hi, fun x H3 y => y⟩) (fun acc H' p => Nat.le_refl _) hs hd
theorem cw_zipT {a b : Addr} {xs ys : List V} (Pv : Nat → List V → Hp → Prop) (h0 : Pv 0 [] H) (hl : ∀ i acc H', i ≤ min xs.length ys.length → Pv i acc H' → acc.length ≤ sizeLine ∧ SqT K H' a xs ∧ SqT K H' b ys)
    (hs : ∀ i x y acc H' p, xs[i]? = some x → ys[i]? = some y → Pv i acc H' → H' p = none → tf (some x :: some y :: caps) (upd H' p (.tup [x, y])) fun b H5 => if b = true then te (some x :: some y :: caps) H5 fun v H6 => Pv (i + 1) (acc ++ [v]) H6 else Pv (i + 1) acc H5)
    (hd : ∀ acc H', Pv (min xs.length ys.length) acc H' → ∀ D, H' D = none → Q (.ref D) (upd H' D (.lst acc))) : CW (ItzT K a b) 2 caps (gTup K 2 (gCons (gName 0) (gCons (gName 1) gNil))) tf te H Q := by
  refine ⟨fun i m acc H' => m = min xs.length ys.length - i ∧ i ≤ min xs.length ys.length ∧ Pv i acc H', ⟨min xs.length ys.length, by omega, Nat.zero_le _, h0⟩, ?_⟩
  rintro i m acc H2 ⟨rfl, hi, p⟩
  obtain ⟨z1, z2, z3⟩ := hl i acc H2 hi p
  by_cases hlt : i < min xs.length ys.length
  · have hx : xs[i]? = some (xs[i]'(by omega)) := List.getElem?_eq_getElem _
    have hy : ys[i]? = some (ys[i]'(by omega)) := List.getElem?_eq_getElem _
    refine .inr ⟨⟨xs, ys, _, _, z2, z3, hx, hy⟩, z1, fun acc' H' => Pv (i + 1) acc' H', fun acc' H' q => ⟨_, by omega, rfl, hlt, q⟩, fun o x H3 ho y => ?_⟩
    obtain ⟨q, u, v, hn, e1, e2, s1⟩ := y
    obtain ⟨e3, e4⟩ := s1 xs ys z2 z3
    subst e1 e2
    match o, ho with
    | [o1, o2], _ => exact ⟨q, [u, v], rfl, SqT.of upd_same, rfl, u, [v], rfl, v, [], rfl, rfl, hs i u v acc H2 q e3 e4 p hn⟩
  · have e : i = min xs.length ys.length := by omega
    subst e
    exact .inl ⟨⟨xs, ys, z2, z3, by omega⟩, z1, hd acc H2 p⟩
end
def checkC (sc : Scope) (on : List (Str × NameKind)) (oN N : List Str) (nt : Nat) (cap : List Nat) : Bool :=
  decide (sc.kind = .function) && sc.names.all (fun x => decide (x.2 ≠ .cell)) && sc.names.all (fun x => decide (x.2 = .local → sc.names.lookup x.1 = some .local)) &&
  sc.names.all (fun x => decide (x.2 = .free → sc.names.lookup x.1 = some .free ∧ (on.lookup x.1 = some .cell ∨ on.lookup x.1 = some .free))) && decide (N.length = nt + cap.length) &&
  (List.range cap.length).all (fun k => match cap[k]? with
    | some j => match oN[j]? with
      | some x => decide (N[nt + k]? = some x) && decide ((x, NameKind.free) ∈ sc.names)
      | none => false
    | none => true)
theorem cs_of {X : Cx} {sc : Scope} {N : List Str} {nt : Nat} {cap : List Nat} (h : checkC sc X.env.scope.names X.N N nt cap = true) : CScope X sc N nt cap := by
  unfold checkC at h
  simp only [Bool.and_eq_true, List.all_eq_true, decide_eq_true_eq] at h
  obtain ⟨⟨⟨⟨⟨h1, h2⟩, h3⟩, h4⟩, h5⟩, h6⟩ := h
  refine ⟨h1, h2, h3, fun x hx e => h4 x hx e, h5, fun k j e => ?_⟩
  have hk : k < cap.length := (List.getElem?_eq_some_iff.mp e).1
  have := h6 k (List.mem_range.mpr hk)
  rw [e] at this
  dsimp only at this
  cases ex : X.N[j]? with
  | none => rw [ex] at this; cases this
  | some x =>
    rw [ex] at this
    simp only [Bool.and_eq_true, decide_eq_true_eq] at this
    exact ⟨x, rfl, this.1, this.2⟩
end L2

set_option Elab.async false
set_option linter.all false
set_option maxRecDepth 100000
set_option maxHeartbeats 4000000
namespace HZ
open PySem PySem.Spec PyProof.Rows
open AutoSeq1 (wpAny_loadPart')
section
variable {P : Program} {w : World} {A : Around} {E : Value → Shared → Prop} {s : Shared}
theorem enum_step {e it l : Addr} {tn : Nat → Heap → Prop} {val : Nat → Option Value} {k : Nat} {x old : Value} {Q : Value → Shared → Prop} (S1 : Stp P w A it l tn val) (ge : IsEnum s.heap e it k old) (h1 : tn k s.heap) (hx : val k = some x) (hne : it ≠ e) (hle : l ≠ e)
    (q : ∀ h', IsEnumOut h' e it ((k : Int) + 1) x s.heap.objs.size → tn (k + 1) h' → h'.get? s.heap.objs.size = some { cls := .type "tuple", data := .seq #[.int k s.toks, x] } → h'.objs.size = s.heap.objs.size + 1 →
      (∀ c o, c ≠ e → c ≠ it → s.heap.get? c = some o → h'.get? c = some o) → Q (.ref s.heap.objs.size) { s with heap := h', toks := s.toks + 1 }) :
    wpAny (model P w) A (Builtin.«enumerate.__next__» ⟨[.ref e], []⟩) (fun fin s' => ∃ v, fin = .done (.ret v) ∧ Q v s') E s := by
  obtain ⟨hp, gn, dr, tk, os⟩ := s
  show wpAny _ _ (field (.ref e) 2 >>= _) _ _ (_ : Shared)
  refine wpAny_bind (wpAny_field ge rfl (x := .ref it) rfl ?_)
  refine wpAny_bind (S1.item k _ _ _ x h1 hx fun p1 t1 s1 => ?_)
  have e1 : IsEnum p1 e it k old := s1.extBut _ _ hne.symm ge
  show wpAny _ _ (field (.ref e) 3 >>= _) _ _ (_ : Shared)
  refine wpAny_bind (wpAny_field e1 rfl (x := rawInt k) rfl ?_)
  show wpAny _ _ (field (.ref e) 4 >>= _) _ _ (_ : Shared)
  refine wpAny_bind (wpAny_field e1 rfl (x := .none) rfl ?_)
  show wpAny _ _ (mkInt k >>= _) _ _ (_ : Shared)
  refine wpAny_bind (wpAny_mkInt ?_)
  show wpAny _ _ (setField (.ref e) 3 (rawInt ((k : Int) + 1)) >>= _) _ _ (_ : Shared)
  refine wpAny_bind (wpAny_setField_rec e1 (by simp) fun p2 e2 s2 => ?_)
  replace e2 : IsEnum p2 e it ((k : Int) + 1) old := e2
  show wpAny _ _ (setField (.ref e) 4 .none >>= _) _ _ (_ : Shared)
  refine wpAny_bind (wpAny_setField_rec e2 (by simp) fun p3 e3 s3 => ?_)
  replace e3 : IsEnum p3 e it ((k : Int) + 1) old := e3
  show wpAny _ _ (newTuple [.int k tk, x] >>= _) _ _ (_ : Shared)
  refine wpAny_bind (wpAny_newTuple ?_)
  have e4 : IsEnum (p3.push { cls := .type "tuple", data := .seq #[.int k tk, x] }) e it ((k : Int) + 1) old := Heap.get?_push_of_some _ e3
  have gs : p3.objs.size = hp.objs.size := by rw [s3.1, s2.1, s1.1]
  have lz : e < p3.objs.size := Heap.lt_size e3
  show wpAny _ _ (Builtin.SmallTypes.ownedTupleIsFree (.ref e) >>= _) _ _ (_ : Shared)
  refine wpAny_bind ?_
  unfold Builtin.SmallTypes.ownedTupleIsFree
  refine wpAny_bind (wpAny_field e4 rfl (x := .none) rfl (wpAny_pure ?_))
  simp only [if_true]
  refine wpAny_bind (wpAny_rule ?_)
  refine wpAny_bind (wpAny_field e4 rfl (x := old) rfl ?_)
  refine wpAny_bind (wpAny_setField_rec e4 (by simp) fun p5 e5 s5 => ?_)
  replace e5 : IsEnum p5 e it ((k : Int) + 1) x := e5
  show wpAny _ _ (Builtin.SmallTypes.ownedTupleHandOut (.ref e) (.ref p3.objs.size) >>= _) _ _ (_ : Shared)
  refine wpAny_bind ?_
  unfold Builtin.SmallTypes.ownedTupleHandOut
  refine wpAny_bind (wpAny_setField_rec e5 (by simp) fun p6 e6 s6 => ?_)
  replace e6 : IsEnumOut p6 e it ((k : Int) + 1) x p3.objs.size := e6
  refine wpAny_setField_rec e6 (by simp) fun p7 e7 s7 => ?_
  replace e7 : IsEnumOut p7 e it ((k : Int) + 1) x p3.objs.size := e7
  have up : ∀ c o, c ≠ e → p3.get? c = some o → p7.get? c = some o := fun c o c1 h => s7.extBut _ _ c1 (s6.extBut _ _ c1 (s5.extBut _ _ c1 (Heap.get?_push_of_some _ h)))
  have t7 : p7.get? p3.objs.size = some { cls := .type "tuple", data := .seq #[.int k tk, x] } := s7.extBut _ _ (Nat.ne_of_gt lz) (s6.extBut _ _ (Nat.ne_of_gt lz) (s5.extBut _ _ (Nat.ne_of_gt lz) (Heap.get?_push_size _ rfl)))
  have n7 : p7.objs.size = p3.objs.size + 1 := by rw [s7.1, s6.1, s5.1, Heap.size_push]
  have k1 : ∀ c o, c ≠ e → p1.get? c = some o → p3.get? c = some o := fun c o c1 h => s3.extBut _ _ c1 (s2.extBut _ _ c1 h)
  rw [gs] at e7 t7 n7
  refine wpAny_bind (wpAny_letGo (wpAny_pure ⟨_, rfl, ?_⟩))
  show Q (.ref p3.objs.size) _
  rw [gs]
  exact q p7 e7 (S1.keep _ _ _ t1 (fun o h => up _ o hne (k1 _ o hne h)) (fun o h => up _ o hle (k1 _ o hle h))) t7 n7 fun c o c1 c2 h => up c o c1 (k1 c o c1 (s1.extBut _ _ c2 h))
theorem enum_next {e it l : Addr} {tn : Nat → Heap → Prop} {val : Nat → Option Value} {k : Nat} {x old : Value} {Q : Option Value → Shared → Prop} (S1 : Stp P w A.in1 it l tn val) (ge : IsEnum s.heap e it k old) (h1 : tn k s.heap) (hx : val k = some x) (hne : it ≠ e) (hle : l ≠ e)
    (q : ∀ h', IsEnumOut h' e it ((k : Int) + 1) x s.heap.objs.size → tn (k + 1) h' → h'.get? s.heap.objs.size = some { cls := .type "tuple", data := .seq #[.int k s.toks, x] } → h'.objs.size = s.heap.objs.size + 1 →
      (∀ c o, c ≠ e → c ≠ it → s.heap.get? c = some o → h'.get? c = some o) → Q (some (.ref s.heap.objs.size)) { s with heap := h', toks := s.toks + 1 }) : wpAny (model P w) A (pyNext (.ref e)) Q E s := by
  have hT : s.TypeIs (.ref e) "enumerate" := ⟨_, ge, rfl⟩
  unfold pyNext
  exact wpAny_bind (wpAny_attempt (wpAny_callSpecial?_slot (name := Str.ofString "__next__") hT F.slot_enumerate_next
    (wpAny_call_entry F.slot_enumerate_next hT F.entry_enumerate_next (enum_step S1 ge h1 hx hne hle fun h' a1 a2 a3 a4 a5 => wpAny_pure (q h' a1 a2 a3 a4 a5)) (F.args_enumerate_next_1 _))))
theorem enum_end {e it l : Addr} {tn : Nat → Heap → Prop} {val : Nat → Option Value} {k : Nat} {old : Value} {Q : Option Value → Shared → Prop} (S1 : Stp P w A.in1 it l tn val) (ge : IsEnum s.heap e it k old) (h1 : tn k s.heap) (hx : val k = none)
    (q : ∀ h', Heap.ExtBut it s.heap h' → Q none { s with heap := h' }) : wpAny (model P w) A (pyNext (.ref e)) Q E s := by
  have hT : s.TypeIs (.ref e) "enumerate" := ⟨_, ge, rfl⟩
  unfold pyNext
  refine wpAny_bind (wpAny_attempt (wpAny_callSpecial?_slot (name := Str.ofString "__next__") hT F.slot_enumerate_next
    (wpAny_call_entry F.slot_enumerate_next hT F.entry_enumerate_next ?_ (F.args_enumerate_next_1 _))))
  show wpAny _ _ (field (.ref e) 2 >>= _) _ _ (_ : Shared)
  refine wpAny_bind (wpAny_field ge rfl (x := .ref it) rfl ?_)
  refine wpAny_bind (S1.stop k _ _ _ h1 hx fun h' x he hx' => ?_)
  obtain ⟨o, ho, hc⟩ := hx'
  exact wpAny_bind (wpAny_isInstance (T := "StopIteration") (b := true) ⟨o, ho, hc⟩ isSubtype_stop (wpAny_pure (q _ he)))
theorem new_enum (l : Addr) (items : Array Value) (n : Nat) (dct : Option Addr) (sl : Array (Option Value)) :
    Meets (Builtin.«enumerate.__new__» ⟨[.type "enumerate", .ref l], []⟩) (fun _ R s => s.heap.get? l = some { cls := .type "tuple", dict := dct, data := .seq items n, slots := sl } ∧
      R (.ok (.ret (.ref (s.heap.push { cls := .type "tuple_iterator", data := .fields #[.ref l, .int 0 0] }).objs.size)))
        { s with heap := (s.heap.push { cls := .type "tuple_iterator", data := .fields #[.ref l, .int 0 0] }).push { cls := .type "enumerate", data := .fields #[.none, .bool false, .ref s.heap.objs.size, rawInt 0, .none, .none] } }) :=
  .of_wp fun prog w A R s h => by
    obtain ⟨h1, h2, h3, h4, h5⟩ := s; obtain ⟨hl, h⟩ := h
    have ss := sub_enumerate
    have hL : Heap.IsTuple (Shared.heap ⟨h1, h2, h3, h4, h5⟩) l items := ⟨_, hl, rfl, n, rfl⟩
    wp_walk using wpAny_loadPart' hl
    refine wpAny_stack_any fun st => wpAny_pure ?_
    split
    · rename_i c _ _ _ _ _
      cases (c == Value.type "enumerate")
      · wp_walk using wpAny_loadPart' hl, wpAny_pyIter_tuple hL
        exact ⟨_, rfl, h⟩
      · wp_walk using wpAny_loadPart' hl, wpAny_pyIter_tuple hL
        exact ⟨_, rfl, h⟩
    · wp_walk using wpAny_loadPart' hl, wpAny_pyIter_tuple hL
      exact ⟨_, rfl, h⟩
theorem call_enum_tup {l : Addr} {items : Array Value} {Q : Value → Shared → Prop} (hL : s.heap.IsTuple l items)
    (h : ∀ h', IsEnum h' (s.heap.objs.size + 1) s.heap.objs.size 0 .none → h'.IsTupleIter s.heap.objs.size l 0 → h'.objs.size = s.heap.objs.size + 2 →
      (∀ b o, s.heap.get? b = some o → h'.get? b = some o) → Q (.ref (s.heap.objs.size + 1)) { s with heap := h' }) :
    wpAny (model P w) A (call (.type "enumerate") [.ref l]) Q E s := by
  obtain ⟨⟨c, dct, dt, sl⟩, hl, hc, n, hd⟩ := hL
  replace hc : c = .type "tuple" := hc
  replace hd : dt = .seq items n := hd
  subst hc hd
  refine callType_new F.called_enumerate (by decide) (F.typeCall_enumerate_1 _) (F.newCall_enumerate_1 _) (fun obj => F.args_object_init_2 obj _) F.entry_enumerate_new
    (new_enum l items n dct sl) ⟨hl, ?_⟩
  have hz : (s.heap.push { cls := .type "tuple_iterator", data := .fields #[.ref l, .int 0 0] }).objs.size = s.heap.objs.size + 1 := Heap.size_push ..
  have he := Heap.get?_push_size (s.heap.push { cls := .type "tuple_iterator", data := .fields #[.ref l, .int 0 0] })
      (o := { cls := .type "enumerate", data := .fields #[.none, .bool false, .ref s.heap.objs.size, rawInt 0, .none, .none] }) rfl
  show _ ∧ _
  rw [hz] at he ⊢
  exact ⟨⟨_, he, rfl⟩, h _ he ⟨_, Heap.get?_push_of_some _ (Heap.get?_push_size _ rfl), rfl, rfl⟩ (by rw [Heap.size_push, hz]) fun b o x => Heap.get?_push_of_some _ (Heap.get?_push_of_some _ x)⟩
end
end HZ
namespace L2
open PySem PySem.Spec PyProof.Rows
def IteT (K : PySem.W.Frag) (a : Addr) : It :=
  ⟨fun i H => ∃ xs x, SqT K H a xs ∧ xs[i]? = some x, fun i H v H' => ∃ p x, H p = none ∧ v = .ref p ∧ H' = upd H p (.tup [.int i, x]) ∧ ∀ xs, SqT K H a xs → xs[i]? = some x, fun i H => ∃ xs, SqT K H a xs ∧ xs.length ≤ i⟩
theorem turn_enumT {P : Program} {w : World} {K : PySem.W.Frag} {elts : List Expr} {kk : Nat} {pos : Pos} (a e it : Addr) (hne : it ≠ e) :
    Turn P w K (.Tuple elts kk pos) (IteT K a) [e, it] e (fun i h => (∃ old, IsEnum h e it i old) ∧ h.IsTupleIter it a i) where
  mem := by simp
  obj := fun i h st c hc => by
    have hc' : c = e ∨ c = it := by simpa using hc
    rcases hc' with rfl | rfl
    · obtain ⟨old, q⟩ := st.1; exact ⟨_, q, fun v q => nomatch q⟩
    · obtain ⟨o, e, _, d⟩ := st.2; exact ⟨o, e, fun v q => by rw [d] at q; cases q⟩
  keep := fun i h h' st k => ⟨by obtain ⟨old, q⟩ := st.1; exact ⟨old, k e (by simp) _ q⟩, st.2.at fun o q => k it (by simp) o q⟩
  item := by
    intro X hP hw hK hc i pins s σ H E I hf st hg
    subst hP hw hK
    obtain ⟨xs, x, hx, ex⟩ := hg
    obtain ⟨i1, r1, p1, z1⟩ := I.tuple hx
    obtain ⟨u, eu, ru⟩ := r1.get ex
    have hh : X.A.in1.handled = none := I.ok.hd hc
    obtain ⟨old, he⟩ := st.1
    refine HZ.enum_next (HZ.stp_tup hh it a i1.toArray) he ⟨st.2, p1⟩ (by simpa using eu) hne (sqT_ne I hx (hf e (by simp))) fun h' c1 c2 c3 c4 c5 => ⟨_, rfl, ?_⟩
    refine wpAny_letOwnedTupleGo_enum c1 fun h2 d1 d2 => ?_
    have hn : H s.heap.objs.size = none := I.hok.fresh (Nat.le_refl _)
    have zlt : e < s.heap.objs.size := Heap.lt_size he
    have newT : IsTup h2 s.heap.objs.size #[.int i s.toks, u] := ⟨_, d2.extBut _ _ (Nat.ne_of_gt zlt) c3, rfl, _, rfl⟩
    have I2 : Inv X pins σ (upd H s.heap.objs.size (.tup [.int i, x])) { s with heap := h2, toks := s.toks + 1 } := I.turnedLay (ch := [e, it]) (fun c o hcn q => by
      have z : c ≠ e ∧ c ≠ it := by simpa using hcn
      exact d2.extBut c o z.1 (c5 c o z.1 z.2 q)) hf (Nat.le_refl _) ⟨by show 2 ≤ sizeLine; decide, [.int i s.toks, u], .cons ⟨_, rfl⟩ (.cons ru .nil), newT⟩
    refine ⟨.ref s.heap.objs.size, _, I2, rfl, ⟨_, x, hn, rfl, rfl, fun xs' q1 => ?_⟩, ?_, fun c hcm => ?_⟩
    · rw [I.tuple_inj q1 hx]; exact ex
    · exact ⟨⟨_, d1⟩, c2.1.extBut d2.extBut hne⟩
    · rw [upd_ne]
      · exact (hf c hcm).1
      · intro z
        have hc' : c = e ∨ c = it := by simpa using hcm
        have : c < s.heap.objs.size := by
          rcases hc' with q | q
          · rw [q]; exact zlt
          · rw [q]; obtain ⟨o, g, _⟩ := st.2; exact Heap.lt_size g
        rw [z] at this
        exact Nat.lt_irrefl _ this
  done := by
    intro X hP hw hK hc i pins s σ H E I hf st hg
    subst hP hw hK
    obtain ⟨xs, hx, hle⟩ := hg
    obtain ⟨i1, r1, p1, z1⟩ := I.tuple hx
    have hh : X.A.in1.handled = none := I.ok.hd hc
    have l1 := r1.length
    obtain ⟨old, he⟩ := st.1
    refine HZ.enum_end (HZ.stp_tup hh it a i1.toArray) he ⟨st.2, p1⟩ (by simp; omega) fun h' c7 => ⟨rfl, I.turnedAll (t' := s.toks) (ch := [e, it]) (fun c o hcn q => by
      have z : c ≠ e ∧ c ≠ it := by simpa using hcn
      exact c7 c o z.2 q) hf⟩
  self := fun A i s Q E st h => by
    obtain ⟨old, he⟩ := st.1
    exact wpAny_pyIter_enum he h
section
variable {X : Cx} {elts : List Expr} {kk : Nat} {tp : Pos}
def iEnT (K : PySem.W.Frag) (ta : TA) : TI := fun σ H R => ta σ H fun vs H1 => ∃ a xs, vs = [.ref a] ∧ SqT K H1 a xs ∧ R (IteT K a) H1
theorem boot_enum : bootBuiltins "enumerate" = some (.type "enumerate") := by decide +kernel
theorem pi_enumT {a : Expr} {ta : TA} {p pos : Pos} (hg : Gl X "enumerate") (hm : X.mg "enumerate" = none) (ha : PA X [a] ta) (hs : starEach [a] X.env = [(false, eval a X.env)] := by rfl) :
    PI X (.Tuple elts kk tp) (.Call (.Name "enumerate" p) [a] [] pos) (iEnT X.K ta) := by
  intro pins s σ H R I h
  refine Call_ (ld_blt I hg hm boot_enum (PyProof.Rows.callWith_type1 (thn (ha pos pins s σ H _ I h) fun us s1 ⟨vs, H1, I1, r1, q1⟩ => ?_) hs rfl))
  obtain ⟨a, xs, e, hx, q⟩ := q1
  subst e
  obtain ⟨u, rfl, ru⟩ := vals1 r1
  cases ru
  obtain ⟨i1, _, p1, _⟩ := I1.tuple hx
  refine HZ.call_enum_tup (items := i1.toArray) p1 fun h' c1 c2 c3 c4 => ?_
  refine wpAny_pyIter_enum (s := { s1 with heap := h' }) c1 ?_
  refine ⟨_, [s1.heap.objs.size + 1, s1.heap.objs.size], _, _, H1, rfl, I1.kept (t' := s1.toks) c4, turn_enumT a _ _ (Nat.ne_of_lt (Nat.lt_succ_self _)), ⟨⟨_, c1⟩, c2⟩, fun b hb => ?_, q⟩
  have hb' : s1.heap.objs.size ≤ b := by
    have z : b = s1.heap.objs.size + 1 ∨ b = s1.heap.objs.size := by simpa using hb
    rcases z with z | z
    · rw [z]; exact Nat.le_succ _
    · rw [z]; exact Nat.le_refl _
  exact I1.fpOk hb' (I1.hok.fresh hb')
end
end L2

set_option Elab.async false
set_option linter.all false
set_option maxRecDepth 100000
set_option maxHeartbeats 4000000
namespace L2
open PySem PySem.Spec PyProof.Rows
section
variable {K : PySem.W.Frag} {caps : St} {H : Hp} {tf : TT} {te : TE} {Q : VK}
theorem cw_enumT {a : Addr} {xs : List V} (Pv : Nat → List V → Hp → Prop) (h0 : Pv 0 [] H) (hl : ∀ i acc H', i ≤ xs.length → Pv i acc H' → acc.length ≤ sizeLine ∧ SqT K H' a xs)
    (hs : ∀ i x acc H' p, xs[i]? = some x → Pv i acc H' → H' p = none → tf (some (.int i) :: some x :: caps) (upd H' p (.tup [.int i, x])) fun b H5 => if b = true then te (some (.int i) :: some x :: caps) H5 fun v H6 => Pv (i + 1) (acc ++ [v]) H6 else Pv (i + 1) acc H5)
    (hd : ∀ acc H', Pv xs.length acc H' → ∀ D, H' D = none → Q (.ref D) (upd H' D (.lst acc))) : CW (IteT K a) 2 caps (gTup K 2 (gCons (gName 0) (gCons (gName 1) gNil))) tf te H Q := by
  refine ⟨fun i m acc H' => m = xs.length - i ∧ i ≤ xs.length ∧ Pv i acc H', ⟨xs.length, by omega, Nat.zero_le _, h0⟩, ?_⟩
  rintro i m acc H2 ⟨rfl, hi, p⟩
  obtain ⟨z1, z2⟩ := hl i acc H2 hi p
  by_cases hlt : i < xs.length
  · have hx : xs[i]? = some xs[i] := List.getElem?_eq_getElem _
    refine .inr ⟨⟨xs, _, z2, hx⟩, z1, fun acc' H' => Pv (i + 1) acc' H', fun acc' H' q => ⟨_, by omega, rfl, hlt, q⟩, fun o x H3 ho y => ?_⟩
    obtain ⟨q, u, hn, e1, e2, s1⟩ := y
    have e3 := s1 xs z2
    subst e1 e2
    match o, ho with
    | [o1, o2], _ => exact ⟨q, [.int i, u], rfl, SqT.of upd_same, rfl, .int i, [u], rfl, u, [], rfl, rfl, hs i u acc H2 q e3 p hn⟩
  · have e : i = xs.length := by omega
    subst e
    exact .inl ⟨⟨xs, z2, Nat.le_refl _⟩, z1, hd acc H2 p⟩
theorem cw_listP {a : Addr} {xs : List V} (Pv : Nat → List V → Hp → Prop) (h0 : Pv 0 [] H) (hl : ∀ i acc H', i ≤ xs.length → Pv i acc H' → acc.length ≤ sizeLine ∧ SqL K H' a xs)
    (hs : ∀ i x acc H', xs[i]? = some x → Pv i acc H' → ∃ p u v, x = .ref p ∧ SqT K H' p [u, v] ∧ tf (some u :: some v :: caps) H' fun b H5 => if b = true then te (some u :: some v :: caps) H5 fun w H6 => Pv (i + 1) (acc ++ [w]) H6 else Pv (i + 1) acc H5)
    (hd : ∀ acc H', Pv xs.length acc H' → ∀ D, H' D = none → Q (.ref D) (upd H' D (.lst acc))) : CW (Itl K a) 2 caps (gTup K 2 (gCons (gName 0) (gCons (gName 1) gNil))) tf te H Q := by
  refine ⟨fun i m acc H' => m = xs.length - i ∧ i ≤ xs.length ∧ Pv i acc H', ⟨xs.length, by omega, Nat.zero_le _, h0⟩, ?_⟩
  rintro i m acc H2 ⟨rfl, hi, p⟩
  obtain ⟨z1, z2⟩ := hl i acc H2 hi p
  by_cases hlt : i < xs.length
  · have hx : xs[i]? = some xs[i] := List.getElem?_eq_getElem _
    refine .inr ⟨⟨xs, _, z2, hx⟩, z1, fun acc' H' => Pv (i + 1) acc' H', fun acc' H' q => ⟨_, by omega, rfl, hlt, q⟩, fun o x H3 ho y => ?_⟩
    obtain ⟨e1, s1⟩ := y
    have e3 := s1 xs z2
    subst e1
    obtain ⟨q, u, v, e4, e5, e6⟩ := hs i x acc H3 e3 p
    subst e4
    match o, ho with
    | [o1, o2], _ => exact ⟨q, [u, v], rfl, e5, rfl, u, [v], rfl, v, [], rfl, rfl, e6⟩
  · have e : i = xs.length := by omega
    subst e
    exact .inl ⟨⟨xs, z2, Nat.le_refl _⟩, z1, hd acc H2 p⟩
end
theorem for_enumT {K : PySem.W.Frag} {a : Addr} {xs : List V} {g : TG} {tb : TS} {D : Ends} {σ : St} {H : Hp} (Pv : Nat → St → Hp → Prop) (h0 : Pv 0 σ H) (hl : ∀ i σ H, i ≤ xs.length → Pv i σ H → SqT K H a xs)
    (hs : ∀ i x σ H p, xs[i]? = some x → Pv i σ H → H p = none → g (.ref p) σ (upd H p (.tup [.int i, x])) fun σ2 H2 => tb { D with nx := Pv (i + 1), ct := Pv (i + 1), bk := D.nx } σ2 H2) (hd : ∀ σ H, Pv xs.length σ H → D.nx σ H) :
    ∃ W : Nat → Nat → St → Hp → Prop, (∃ m, W 0 m σ H) ∧ ∀ i m σ H, W i m σ H →
      ((IteT K a).stop i H ∧ D.nx σ H) ∨ ((IteT K a).go i H ∧ ∃ N : St → Hp → Prop, (∀ σ' H', N σ' H' → ∃ m', m' < m ∧ W (i + 1) m' σ' H') ∧ ∀ x H', (IteT K a).yld i H x H' → g x σ H' fun σ2 H2 => tb { D with nx := N, ct := N, bk := D.nx } σ2 H2) := by
  refine ⟨fun i m σ H => m = xs.length - i ∧ i ≤ xs.length ∧ Pv i σ H, ⟨xs.length, by simp, Nat.zero_le _, h0⟩, ?_⟩
  rintro i m σ H ⟨rfl, hi, p⟩
  have q := hl i σ H hi p
  by_cases hlt : i < xs.length
  · refine .inr ⟨⟨xs, xs[i], q, by simp [hlt]⟩, Pv (i + 1), fun σ' H' p' => ⟨xs.length - (i + 1), by omega, rfl, hlt, p'⟩, fun x H' y => ?_⟩
    obtain ⟨c, u, hn, e1, e2, s1⟩ := y
    subst e1 e2
    exact hs i u σ _ c (s1 xs q) p hn
  · have e : i = xs.length := by omega
    subst e
    exact .inl ⟨⟨xs, q, Nat.le_refl _⟩, hd σ H p⟩
end L2

set_option Elab.async false
set_option linter.all false
set_option maxRecDepth 100000
set_option maxHeartbeats 4000000
namespace HZ
open PySem PySem.Spec PyProof.Rows
theorem noFill_tuple_mul : fillsNumberSlot (.type "tuple") "mul" = pure false := by
  first | rfl | (unfold fillsNumberSlot; kernel_rfl) | kernel_rfl
theorem repeat_tuple : seqRepeat? (.type "tuple") = pure (some (.builtin "tuple.__mul__")) := by
  first | rfl | kernel_rfl
theorem rmul_tuple (a : Int) (t : Tok) (l : Addr) (items : Array Value) (n : Nat) (d : Option Addr) (sl : Array (Option Value)) :
    Meets (Builtin.«int.__rmul__» ⟨[.int a t, .ref l], []⟩) (fun _ R s => s.heap.get? l = some { cls := .type "tuple", dict := d, data := .seq items n, slots := sl } ∧ R (.ok (.ret Value.notImplemented)) s) :=
  .of_wp fun prog w A R s h => by
    obtain ⟨h1, h2, h3, h4, h5⟩ := s; obtain ⟨hl, h⟩ := h; wp_walk; exact ⟨_, rfl, h⟩
section
variable {P : Program} {w : World} {A : Around} {E : Value → Shared → Prop} {s : Shared}
theorem mul_tup {t : Addr} {vs : List Value} {k : Int} {tk : Tok} {Q : Value → Shared → Prop} (ht : IsTup s.heap t vs.toArray) (hv : vs ≠ []) (hk : 1 ≤ k) (hz : vs.length * k.toNat ≤ sizeLine)
    (h1 : k = 1 → Q (.ref t) s) (h2 : k ≠ 1 → Q (.ref s.heap.objs.size) { s with heap := s.heap.push { cls := .type "tuple", data := .seq (List.replicate k.toNat vs).flatten.toArray } }) :
    wpAny (model P w) A (binaryOp .Mult (.ref t) (.int k tk)) Q E s := by
  obtain ⟨⟨cls, dd, data, sl⟩, ho, hc, n, hd⟩ := id ht
  simp only at hc hd
  subst hc hd
  have hk2 : k ≤ 16777216 := by
    have hl : 1 ≤ vs.length := by
      cases vs with
      | nil => exact absurd rfl hv
      | cons a r => simp
    have hz' : vs.length * k.toNat ≤ 16777216 := by rw [← sizeLine_eq]; exact hz
    have : 1 * k.toNat ≤ vs.length * k.toNat := Nat.mul_le_mul_right _ hl
    omega
  refine wpAny_binaryOp_repeat_ref (T := "tuple") (U := "int") (by decide) ⟨_, ho, rfl⟩ (fun s' => typeIs_int s' k tk) noFill_tuple_mul F.fills_int_mul F.slot_int_rmul repeat_tuple F.slot_int_index.lookup
    (call_meets F.slot_int_rmul (typeIs_int s k tk) F.entry_int_rmul (F.args_int_rmul_2 _ _) (rmul_tuple k tk t vs.toArray n dd sl) ⟨ho, rfl, ⟨_, ho, rfl⟩, ?_⟩)
  refine wpAny_call_entry F.slot_tuple_mul ⟨_, ho, rfl⟩ F.entry_tuple_mul ?_ (F.args_tuple_mul_2 _ _)
  show wpAny _ _ (asIndex (.int k tk) >>= _) _ _ _
  refine wpAny_bind ?_
  refine wpAny_of_eq (a := k) (by first | rfl | (unfold asIndex; rfl)) ?_
  dsimp only
  rw [if_neg (by simp; omega)]
  unfold Builtin.Tuple.tupleItemsOf
  refine wpAny_bind (wpAny_bind (wpAny_seqItems ho rfl ?_))
  refine wpAny_pure ?_
  have ne : vs.toArray.isEmpty = false := by
    cases vs with
    | nil => exact absurd rfl hv
    | cons a r => simp
  by_cases h : k = 1
  · rw [if_pos (by rw [h]; simp)]
    unfold Builtin.Tuple.tupleIsExact
    refine wpAny_bind (wpAny_bind (wpAny_typeOf (T := "tuple") ⟨_, ho, rfl⟩ (wpAny_pure ?_)))
    rw [if_pos (by decide)]
    exact wpAny_bind (wpAny_rule (wpAny_pure ⟨_, rfl, h1 h⟩))
  · rw [if_neg (by rw [ne]; simp [h])]
    rw [if_neg (by rw [ne]; simp; omega)]
    have hm : (vs.toArray.size : Int) * k = ((vs.length * k.toNat : Nat) : Int) := by
      rw [List.size_toArray, Int.natCast_mul]
      congr 1
      omega
    have hz2 : vs.length * k.toNat ≤ 16777216 := by rw [← sizeLine_eq]; exact hz
    rw [if_neg (by rw [hm]; omega)]
    rw [if_neg (by
      unfold Builtin.Tuple.tupleTooMany
      rw [hm, sizeLine_eq, decide_eq_true_eq]
      generalize vs.length * k.toNat = q at hz2
      omega)]
    unfold Builtin.Tuple.tupleExact
    have e : List.foldl (fun x1 x2 => x1 ++ x2) #[] (List.replicate k.toNat vs.toArray) = (List.replicate k.toNat vs).flatten.toArray := by
      have := L2.foldl_rep vs k.toNat []
      rw [List.nil_append] at this
      exact this
    rw [e]
    refine wpAny_bind (wpAny_newObj_type ?_ (by
      show (List.toArray _).size ≤ sizeLine
      rw [List.size_toArray, L2.len_rep, Nat.mul_comm]
      exact hz))
    exact wpAny_pure ⟨_, rfl, h2 h⟩
end
end HZ
namespace L2
open PySem PySem.Spec PyProof.Rows
section
variable {X : Cx}
def rRepT (K : PySem.W.Frag) : R2 := fun x y H Q => ∃ a xs k, x = .ref a ∧ y = .int k ∧ SqT K H a xs ∧ xs ≠ [] ∧ 1 ≤ k ∧ xs.length * k.toNat ≤ sizeLine ∧ NewT K H (List.replicate k.toNat xs).flatten Q
theorem op_repT : OpR X (binaryOp .Mult) (rRepT X.K) := by
  intro pins s σ H x y v u Q I rx ry h
  obtain ⟨a, xs, k, rfl, rfl, hs, hx, hk, hz, q⟩ := h
  cases rx
  obtain ⟨t, rfl⟩ := ry
  obtain ⟨its, r, p, z⟩ := I.tuple hs
  have hl := r.length
  refine HZ.mul_tup p (fun e => hx (by rw [e] at hl; exact List.length_eq_zero_iff.mp hl)) hk (by rw [← hl]; exact hz) (fun e => ?_) (fun _ => ?_)
  · have e1 : (List.replicate k.toNat xs).flatten = xs := by rw [e]; simp
    rw [e1] at q
    exact ⟨.ref a, H, I, rfl, q.here hs⟩
  · have hz' : (List.replicate k.toNat xs).flatten.length ≤ sizeLine := by rw [len_rep, Nat.mul_comm]; exact hz
    exact ⟨.ref _, _, I.laid (t' := s.toks) (o := .tup (List.replicate k.toNat xs).flatten) (fun b o e => Heap.get?_push_of_some _ e) (Nat.le_refl _) ⟨hz', _, r.rep k.toNat, ⟨_, Heap.get?_push_size _ rfl, rfl, _, rfl⟩⟩, rfl, q.new (I.hok.fresh (Nat.le_refl _))⟩
end
end L2

set_option Elab.async false
set_option linter.all false
set_option maxRecDepth 100000
set_option maxHeartbeats 4000000
namespace HZ
open PySem PySem.Spec PyProof.Rows
theorem mro_rev : mroOf (.type "reversed") = pure [.type "reversed", .type "object"] := by rw [mroOf_type]; kernel_rfl
theorem lookup_rev_new : typeLookup (.type "reversed") "__new__" = pure (some (.builtin "reversed.__new__")) := by rw [typeLookup_type, builtinLookup_eq_fast]; kernel_rfl
theorem made_rev : Bind.madeBy (.type "reversed") = pure (some "reversed.__new__") := madeBy_type mro_rev lookup_rev_new (by decide +kernel)
theorem entry_rev_new : entryFor table "reversed.__new__" = some Builtin.«reversed.__new__» := entryFor_of_tree (by kernel_rfl)
theorem plain_rev_new : plainId "reversed.__new__" = true := by decide +kernel
theorem typeCall_rev (a : Value) : checkTypeCall "reversed" ⟨[a], []⟩ = pure () := by kernel_rfl
theorem newCall_rev (a : Value) : checkBuiltinCall "reversed.__new__" ⟨[.type "reversed", a], []⟩ = pure () := by kernel_rfl
theorem sub_rev : isSubtype (.type "reversed") (.type "reversed") = pure true := by rw [isSubtype_type]; kernel_rfl
theorem sub_ri_rev : isSubtype (.type "range_iterator") (.type "reversed") = pure false := by rw [isSubtype_type]; kernel_rfl
theorem not_type_rev : (Value.type "reversed" == Value.type "type") = false := by decide +kernel
theorem can_rev : ((Manifest.find? "reversed").bind (·.mro.findSome? fun t => (Manifest.find? t).bind fun b => if b.noNew then some true else if b.attrs.any (·.1 == "__new__") then some false else none)).getD false = false := by decide +kernel
section
variable {P : Program} {w : World} {A : Around} {E : Value → Shared → Prop} {s : Shared}
theorem fields_range {r : Addr} {a b c : Int} {t1 t2 t3 : Tok} {Q : Int × Int × Int → Shared → Prop} (hr : s.heap.get? r = some { cls := .type "range", data := .fields #[.int a t1, .int b t2, .int c t3] }) (h : Q (a, b, c) s) : wpAny (model P w) A (Builtin.Range.rangeFields (.ref r)) Q E s := by
  unfold Builtin.Range.rangeFields
  refine wpAny_bind (wpAny_field hr rfl (x := .int a t1) rfl ?_)
  refine wpAny_bind (wpAny_of_eq (a := some a) (by rfl) ?_)
  refine wpAny_bind (wpAny_field hr rfl (x := .int b t2) rfl ?_)
  refine wpAny_bind (wpAny_of_eq (a := some b) (by rfl) ?_)
  refine wpAny_bind (wpAny_field hr rfl (x := .int c t3) rfl ?_)
  refine wpAny_bind (wpAny_of_eq (a := some c) (by rfl) ?_)
  exact wpAny_pure h
theorem new_rev {r : Addr} {n : Nat} {t1 t2 t3 : Tok} {Q : Value → Shared → Prop} (hr : s.heap.get? r = some { cls := .type "range", data := .fields #[.int 0 t1, .int n t2, .int 1 t3] }) (hn : n < 2 ^ 62)
    (h : Q (.ref s.heap.objs.size) { s with heap := s.heap.push { cls := .type "range_iterator", data := .fields #[rawInt (n - 1), rawInt n, rawInt (-1)] } }) :
    wpAny (model P w) A (Builtin.«reversed.__new__» ⟨[.type "reversed", .ref r], []⟩) (fun fin s' => ∃ v, fin = .done (.ret v) ∧ Q v s') E s := by
  have hT : s.TypeIs (.ref r) "range" := ⟨_, hr, rfl⟩
  have ss := sub_rev
  unfold Builtin.«reversed.__new__» Builtin.SmallTypes.newClass Builtin.SmallTypes.refuseKeywords
  have l1 := F.slot_range_reversed.lookup
  have l2 := F.slot_range_reversed.bind (.ref r)
  wp_walk
  refine codeAny_mono (codeAny_call_builtin (R := wants (fun v s' => v = .ref s.heap.objs.size ∧ s' = { s with heap := s.heap.push { cls := .type "range_iterator", data := .fields #[rawInt (n - 1), rawInt n, rawInt (-1)] } }) E) F.slot_range_reversed.plain F.entry_range_reversed (F.slot_range_reversed.check _ _ _ _ _ _ _ _ hT (F.args_range_reversed_1 _) ?_)) fun r2 s2 hq => ?_
  · unfold Builtin.«range.__reversed__»
    refine wpAny_bind (wpAny_of_eq (a := .ref r) (by rfl) ?_)
    refine wpAny_bind (fields_range hr ?_)
    dsimp only
    have sz : Builtin.Range.rangeSize 0 n 1 = n := by
      unfold Builtin.Range.rangeSize
      rw [if_pos (by decide)]
      split <;> omega
    rw [sz]
    have fl : (Builtin.Range.rangeFitsLong 0 && Builtin.Range.rangeFitsLong n && Builtin.Range.rangeFitsLong 1 && Builtin.Range.rangeFitsLong (-1) && Builtin.Range.rangeFitsLong (0 - 1) && Builtin.Range.rangeFitsLong n) = true := by
      have hn' : (n : Int) < 2 ^ 62 := by omega
      unfold Builtin.Range.rangeFitsLong
      simp only [Bool.and_eq_true, decide_eq_true_eq]
      refine ⟨⟨⟨⟨⟨⟨by decide, by decide⟩, by omega, by omega⟩, by decide, by decide⟩, by decide, by decide⟩, by decide, by decide⟩, by omega, by omega⟩
    rw [fl]
    rw [if_neg (by decide)]
    refine wpAny_bind (wpAny_newObj_type ?_)
    refine wpAny_pure ?_
    refine ⟨rfl, ?_⟩
    have e : (0 : Int) + ((n : Int) - 1) * 1 = n - 1 := by omega
    simp [rawInt]
  · cases r2 with
    | error e => exact hq
    | ok fl =>
      cases fl with
      | ret v =>
        obtain ⟨rfl, rfl⟩ := hq
        exact wpAny_pure ⟨_, rfl, h⟩
      | _ => exact hq
theorem call_rev {r : Addr} {n : Nat} {t1 t2 t3 : Tok} {Q : Value → Shared → Prop} (hr : s.heap.get? r = some { cls := .type "range", data := .fields #[.int 0 t1, .int n t2, .int 1 t3] }) (hn : n < 2 ^ 62)
    (h : Q (.ref s.heap.objs.size) { s with heap := s.heap.push { cls := .type "range_iterator", data := .fields #[rawInt (n - 1), rawInt n, rawInt (-1)] } }) : wpAny (model P w) A (call (.type "reversed") [.ref r]) Q E s := by
  have m1 := mro_rev
  have m2 := made_rev
  have m3 := sub_ri_rev
  have m4 := not_type_rev
  have m5 := can_rev
  have m6 := typeCall_rev (.ref r)
  refine wpAny_call (codeAny_of_tree ?_)
  show wpAny _ _ (callAny (.type "reversed") _) _ _ _
  refine wpAny_pure ⟨Code.quiet_builtin _ (by decide +kernel), codeAny_builtin F.entry_type_call ?_⟩
  rw [Around.under_plain (weight_type_call_type "reversed" [.ref r] []) rfl]
  repeat (any_goals (first | assumption | wp_step))
  refine codeAny_mono (codeAny_call_builtin (R := wants (fun v s' => v = .ref s.heap.objs.size ∧ s' = { s with heap := s.heap.push { cls := .type "range_iterator", data := .fields #[rawInt (n - 1), rawInt n, rawInt (-1)] } }) E) plain_rev_new entry_rev_new (wpAny_of_eq (newCall_rev _) ?_)) fun r2 s2 hq => ?_
  · refine wpAny_mono (new_rev (Q := fun v s' => v = .ref s.heap.objs.size ∧ s' = { s with heap := s.heap.push { cls := .type "range_iterator", data := .fields #[rawInt (n - 1), rawInt n, rawInt (-1)] } }) hr hn ⟨rfl, rfl⟩) (fun f s' hf => ?_) fun _ _ e => e
    obtain ⟨v, rfl, hv⟩ := hf
    exact hv
  · cases r2 with
    | error e => exact hq
    | ok fl =>
      cases fl with
      | ret v =>
        obtain ⟨rfl, rfl⟩ := hq
        have hT : Shared.TypeIs { s with heap := s.heap.push { cls := .type "range_iterator", data := .fields #[rawInt (n - 1), rawInt n, rawInt (-1)] } } (.ref s.heap.objs.size) "range_iterator" := ⟨_, Heap.get?_push_size _ rfl, rfl⟩
        repeat (any_goals (first | assumption | wp_step))
      | _ => exact hq.elim
end
end HZ
namespace L2
open PySem PySem.Spec PyProof.Rows
def ItRv (n : Nat) : It := ⟨fun i _ => i < n, fun i H x H' => H' = H ∧ x = .int ((n : Int) - 1 - i), fun i _ => n ≤ i⟩
theorem turn_rev {P : Program} {w : World} {K : PySem.W.Frag} {tg : Expr} (it : Addr) (n : Nat) : Turn P w K tg (ItRv n) [it] it (fun i h => IsRangeIter h it (((n : Int) - 1) + (i : Nat) * (-1)) ((n : Int) - (i : Nat)) (-1)) where
  mem := by simp
  obj := fun i h st b hb => by
    have e : b = it := by simpa using hb
    subst e
    exact ⟨_, st, fun v z => by
      have z' : Data.fields _ = Data.cell v := z
      cases z'⟩
  keep := fun i h h' st k => k it (by simp) _ st
  item := by
    intro X hP hw hK hc i pins s σ H E I hf st hg
    subst hP hw hK
    obtain ⟨f0, f1, f2, f3, f4, f5⟩ := hf it (by simp)
    have W := Walks.range (prog := X.prog) (w := X.w) (I.ok.hd hc) it ((n : Int) - 1) (-1) n
    refine W.item i s _ _ hg st fun v h' tk hv st' kk => ?_
    obtain ⟨t, rfl⟩ := hv
    have I1 : Inv X pins σ H { s with heap := h', toks := tk } := I.turned (fun b o hb e => kk b o (by simpa using hb) e) f0 f1 f3 f4 f5
    refine ⟨_, rfl, go_of (s := { s with heap := h', toks := tk }) (n := "range_iterator") st' rfl rfl (by decide) ⟨.int ((n : Int) - 1 - i), H, I1, ⟨t, ?_⟩, ⟨rfl, rfl⟩, st', fun b hb => (hf b hb).1⟩⟩
    rw [Int.mul_neg_one]
    rfl
  done := by
    intro X hP hw hK hc i pins s σ H E I hf st hg
    subst hP hw hK
    obtain ⟨f0, f1, f2, f3, f4, f5⟩ := hf it (by simp)
    exact wpAny_pyNext_range_end (I.ok.hd hc) st (by have : n ≤ i := hg; omega) fun h' eb => ⟨rfl, I.turned (t' := s.toks) (fun b o hb e => eb b o hb e) f0 f1 f3 f4 f5⟩
  self := fun _ _ _ _ _ st h => wpAny_pyIter_rangeiter st h
section
variable {X : Cx} {tg : Expr}
theorem boot_rev : bootBuiltins "reversed" = some (.type "reversed") := by decide +kernel
theorem call_rangeV : CallR X (.type "range") (fun xs H Q => ∃ j : Int, xs = [.int j] ∧ ∀ p, H p = none → Q (.ref p) (upd H p (.rng 0 j))) := by
  intro pins s σ H xs us Q I r h
  obtain ⟨j, rfl, q⟩ := h
  obtain ⟨u, rfl, ru⟩ := vals1 r
  obtain ⟨t, rfl⟩ := ru
  exact call_range_1 ⟨.ref _, _, I.laid (o := .rng 0 j) (t' := s.toks + 1 + 1) (fun b o e => Heap.get?_push_of_some _ e) (Nat.le_refl _) ⟨_, _, _, Heap.get?_push_size _ rfl⟩, rfl, q _ (I.hok.fresh (Nat.le_refl _))⟩
def iRev (ta : TA) : TI := fun σ H R => ta σ H fun vs H1 => ∃ (p : Addr) (n : Nat), vs = [.ref p] ∧ H1 p = some (.rng 0 n) ∧ n < 2 ^ 62 ∧ R (ItRv n) H1
theorem pi_rev {a : Expr} {ta : TA} {p pos : Pos} (hg : Gl X "reversed") (hm : X.mg "reversed" = none) (ha : PA X [a] ta) (hs : starEach [a] X.env = [(false, eval a X.env)] := by rfl) : PI X tg (.Call (.Name "reversed" p) [a] [] pos) (iRev ta) := by
  intro pins s σ H R I h
  refine Call_ (ld_blt I hg hm boot_rev (PyProof.Rows.callWith_type1 (thn (ha pos pins s σ H _ I h) fun us s1 ⟨vs, H1, I1, r1, q1⟩ => ?_) hs rfl))
  obtain ⟨c, n, e, hx, hn, q⟩ := q1
  subst e
  obtain ⟨u, rfl, ru⟩ := vals1 r1
  cases ru
  obtain ⟨t1, t2, t3, hr⟩ := I1.hok c _ hx
  refine HZ.call_rev hr hn ?_
  have st : IsRangeIter (s1.heap.push { cls := .type "range_iterator", data := .fields #[rawInt ((n : Int) - 1), rawInt n, rawInt (-1)] }) s1.heap.objs.size (((n : Int) - 1) + ((0 : Nat) : Int) * (-1)) ((n : Int) - ((0 : Nat) : Int)) (-1) := by
    have e1 : ((n : Int) - 1) + ((0 : Nat) : Int) * (-1) = n - 1 := by simp
    have e2 : (n : Int) - ((0 : Nat) : Int) = n := by simp
    rw [e1, e2]
    exact Heap.get?_push_size _ rfl
  refine wpAny_pyIter_rangeiter (s := { s1 with heap := _ }) st ?_
  refine ⟨s1.heap.objs.size, [s1.heap.objs.size], _, _, H1, rfl, I1.kept (t' := s1.toks) fun b o e => Heap.get?_push_of_some _ e, turn_rev _ n, st, fun b hb => ?_, q⟩
  have e : b = s1.heap.objs.size := by simpa using hb
  subst e
  exact I1.fpOk (Nat.le_refl _) (I1.hok.fresh (Nat.le_refl _))
end
theorem for_rev {n : Nat} {g : TG} {tb : TS} {D : Ends} {σ : St} {H : Hp} (Pv : Nat → St → Hp → Prop) (h0 : Pv 0 σ H)
    (hs : ∀ i σ H, i < n → Pv i σ H → g (.int ((n : Int) - 1 - i)) σ H fun σ2 H2 => tb { D with nx := Pv (i + 1), ct := Pv (i + 1), bk := D.nx } σ2 H2) (hd : ∀ σ H, Pv n σ H → D.nx σ H) :
    ∃ W : Nat → Nat → St → Hp → Prop, (∃ m, W 0 m σ H) ∧ ∀ i m σ H, W i m σ H →
      ((ItRv n).stop i H ∧ D.nx σ H) ∨ ((ItRv n).go i H ∧ ∃ N : St → Hp → Prop, (∀ σ' H', N σ' H' → ∃ m', m' < m ∧ W (i + 1) m' σ' H') ∧ ∀ x H', (ItRv n).yld i H x H' → g x σ H' fun σ2 H2 => tb { D with nx := N, ct := N, bk := D.nx } σ2 H2) := by
  refine ⟨fun i m σ H => m = n - i ∧ i ≤ n ∧ Pv i σ H, ⟨n, by simp, Nat.zero_le _, h0⟩, ?_⟩
  rintro i m σ H ⟨rfl, hi, p⟩
  by_cases hlt : i < n
  · refine .inr ⟨hlt, Pv (i + 1), fun σ' H' p' => ⟨n - (i + 1), by omega, rfl, hlt, p'⟩, fun x H' y => ?_⟩
    obtain ⟨e, y⟩ := y
    subst e y
    exact hs i σ _ hlt p
  · have e : i = n := by omega
    subst e
    exact .inl ⟨Nat.le_refl _, hd σ H p⟩
end L2

set_option Elab.async false
set_option linter.all false
set_option maxRecDepth 100000
set_option maxHeartbeats 4000000
namespace HZ
open PySem PySem.Spec PyProof.Rows
section
variable {P : Program} {w : World} {A : Around} {R : Result → Shared → Prop} {I : Addr} {fp wr : List Addr} {n : Nat} {Pv : Nat → Value → Prop} {St : Nat → Heap → Prop} {kw : List (Str × Value)}
theorem min_name : (toString "min" ++ toString ".loop" : String) = "min.loop" := by decide
theorem min_loop (W : Walks P w A.in1 I fp wr n Pv St) (bt : Nat → Nat → Bool) (hc : CmpOf P w A.in1 .Lt Pv bt) (S : Addr) (nf : S ∉ fp) :
    ∀ (k j : Nat) (s : Shared) (vb : Value) (c : Nat), n - (j + 1) = k → j + 1 ≤ n → St (j + 1) s.heap → Pv (argBest bt j) vb →
    s.heap.get? S = some { cls := .type "list", dict := none, data := .seq #[vb, vb] c, slots := #[] } →
    (∀ v h' tk, Pv (argBest bt (n - 1)) v → (∀ b o, b ∉ wr → b ≠ S → s.heap.get? b = some o → h'.get? b = some o) → R (.ok (.ret v)) { s with heap := h', toks := tk }) →
    codeAny (model P w) A (.builtin "min.loop" ⟨[.ref I, .none, .ref S], kw⟩) R s := by
  have nw : S ∉ wr := fun z => nf (W.sub _ z)
  intro k
  induction k with
  | zero =>
    intro j s vb c hk hj st pb gS hR
    have en : j + 1 = n := by omega
    refine codeAny_builtin F.entry_min_loop ?_
    rw [Around.under_plainId F.plain_min_loop _]
    show wpAny _ A.in1 (seqItems? (.ref S) >>= _) _ _ _
    refine wpAny_bind (wpAny_seqItems gS rfl ?_)
    show wpAny _ A.in1 (tryCatch (pyNext (.ref I)) _ >>= _) _ _ _
    refine wpAny_bind (wpAny_tryCatch (W.done s _ _ (en ▸ st) fun h' tk kk => ?_))
    have gS' := kk S _ nw gS
    show wpAny _ A.in1 (updateSeq S (fun _ => #[]) >>= _) _ _ (_ : Shared)
    refine wpAny_bind ?_
    refine wpAny_updateSeq gS' rfl (wpAny_bind (wpAny_letGo (wpAny_pure ?_)))
    exact hR vb _ tk (by rw [← en]; exact pb) fun b o hb hbS e => (Heap.get?_update_other _ _ (Ne.symm hbS)).trans (kk b o hb e)
  | succ k ih =>
    intro j s vb c hk hj st pb gS hR
    have lt : j + 1 < n := by omega
    refine codeAny_builtin F.entry_min_loop ?_
    rw [Around.under_plainId F.plain_min_loop _]
    show wpAny _ A.in1 (seqItems? (.ref S) >>= _) _ _ _
    refine wpAny_bind (wpAny_seqItems gS rfl ?_)
    show wpAny _ A.in1 (tryCatch (pyNext (.ref I)) _ >>= _) _ _ _
    refine wpAny_bind (wpAny_tryCatch (W.item (j + 1) s _ _ lt st fun v h' tk pv st' kk => ?_))
    have gS' := kk S _ nw gS
    show wpAny _ A.in1 (tryCatch (holding [v, v] (richCompare .Lt v vb >>= _)) _ >>= _) _ _ (_ : Shared)
    refine wpAny_bind (wpAny_tryCatch (wpAny_holding (wpAny_bind (hc (j + 1) (argBest bt j) v vb _ _ _ pv pb ?_))))
    refine wpAny_bind (wpAny_holding (wpAny_truthy_bool ?_))
    refine wpAny_bind (wpAny_letGo (wpAny_pure ?_))
    cases hb : bt (j + 1) (argBest bt j) with
    | true =>
      simp only [if_true]
      refine wpAny_bind ?_
      refine wpAny_updateSeq gS' rfl (wpAny_bind (wpAny_letGo ?_))
      rw [min_name]
      refine wpAny_pure ⟨plainId_quiet F.plain_min_loop _, ih (j + 1) _ v _ (by omega) lt (W.frame _ _ _ st' fun b hbf o e => (Heap.get?_update_other _ _ fun z : S = b => nf (by rw [z]; exact hbf)).trans e) (by simp only [argBest, hb, if_true]; exact pv) (Heap.get?_update_self _ gS' rfl) fun v' h2 t2 pv' k2 => ?_⟩
      exact hR v' h2 t2 pv' fun b o hbw hbS e => k2 b o hbw hbS ((Heap.get?_update_other _ _ (Ne.symm hbS)).trans (kk b o hbw e))
    | false =>
      simp only [Bool.false_eq_true, if_false]
      refine wpAny_bind (wpAny_letGo ?_)
      rw [min_name]
      refine wpAny_pure ⟨plainId_quiet F.plain_min_loop _, ih (j + 1) _ vb c (by omega) lt st' (by simp only [argBest, hb, Bool.false_eq_true, if_false]; exact pb) gS' fun v' h2 t2 pv' k2 => ?_⟩
      exact hR v' h2 t2 pv' fun b o hbw hbS e => k2 b o hbw hbS (kk b o hbw e)
theorem min_first (W : Walks P w A.in1 I fp wr n Pv St) (bt : Nat → Nat → Bool) (hc : CmpOf P w A.in1 .Lt Pv bt) (S : Addr) (nf : S ∉ fp) (d : Value) (dn : Str) {s : Shared} {c : Nat} (st : St 0 s.heap)
    (gS : s.heap.get? S = some { cls := .type "list", dict := none, data := .seq #[] c, slots := #[] })
    (hR : ∀ v h' tk, (n = 0 → v = d) → (0 < n → Pv (argBest bt (n - 1)) v) → (∀ b o, b ∉ wr → b ≠ S → s.heap.get? b = some o → h'.get? b = some o) → R (.ok (.ret v)) { s with heap := h', toks := tk }) :
    codeAny (model P w) A (.builtin "min.loop" ⟨[.ref I, .none, .ref S], [(dn, d)]⟩) R s := by
  have nw : S ∉ wr := fun z => nf (W.sub _ z)
  refine codeAny_builtin F.entry_min_loop ?_
  rw [Around.under_plainId F.plain_min_loop _]
  show wpAny _ A.in1 (seqItems? (.ref S) >>= _) _ _ _
  refine wpAny_bind (wpAny_seqItems gS rfl ?_)
  show wpAny _ A.in1 (tryCatch (pyNext (.ref I)) _ >>= _) _ _ _
  by_cases hn : 0 < n
  · refine wpAny_bind (wpAny_tryCatch (W.item 0 s _ _ hn st fun v h' tk pv st' kk => ?_))
    have gS' := kk S _ nw gS
    show wpAny _ A.in1 (updateSeq S (fun _ => #[v, v]) >>= _) _ _ (_ : Shared)
    refine wpAny_bind ?_
    refine wpAny_updateSeq gS' rfl ?_
    rw [min_name]
    refine wpAny_pure ⟨plainId_quiet F.plain_min_loop _, min_loop W bt hc S nf _ 0 _ v _ rfl hn (W.frame _ _ _ st' fun b hbf o e => (Heap.get?_update_other _ _ fun z : S = b => nf (by rw [z]; exact hbf)).trans e) pv (Heap.get?_update_self _ gS' rfl) fun v' h2 t2 pv' k2 => ?_⟩
    exact hR v' h2 t2 (fun z => absurd z (by omega)) (fun _ => pv') fun b o hbw hbS e => k2 b o hbw hbS ((Heap.get?_update_other _ _ (Ne.symm hbS)).trans (kk b o hbw e))
  · have en : n = 0 := by omega
    refine wpAny_bind (wpAny_tryCatch (W.done s _ _ (en ▸ st) fun h' tk kk => ?_))
    refine wpAny_bind (wpAny_rule (wpAny_pure ?_))
    exact hR d h' tk (fun _ => rfl) (fun z => absurd z hn) fun b o hbw _ e => kk b o hbw e
end
end HZ

set_option Elab.async false
set_option linter.all false
set_option maxRecDepth 100000
set_option maxHeartbeats 4000000
namespace HZ
open PySem PySem.Spec PyProof.Rows
section
variable {P : Program} {w : World} {A : Around} {E : Value → Shared → Prop} {s : Shared}
theorem args_min_d (a d : Value) : argsOk "min" ⟨[a], [(Str.ofString "default", d)]⟩ := by unfold argsOk; kernel_rfl
theorem best_min (ns : List Int) : ∀ k, k < ns.length → ns.getD (argBest (fun i j => decide (ns.getD i 0 < ns.getD j 0)) k) 0 ∈ ns ∧ argBest (fun i j => decide (ns.getD i 0 < ns.getD j 0)) k ≤ k ∧ ∀ i, i ≤ k → ns.getD (argBest (fun i j => decide (ns.getD i 0 < ns.getD j 0)) k) 0 ≤ ns.getD i 0
  | 0, h => by
    refine ⟨?_, Nat.le_refl _, fun i hi => ?_⟩
    · show ns.getD 0 0 ∈ ns
      simp [List.getD, List.getElem?_eq_getElem h]
    · have : i = 0 := by omega
      subst this
      exact Int.le_refl _
  | k + 1, h => by
    obtain ⟨h1, h2, h3⟩ := best_min ns k (by omega)
    unfold argBest
    by_cases hb : ns.getD (k + 1) 0 < ns.getD (argBest (fun i j => decide (ns.getD i 0 < ns.getD j 0)) k) 0
    · rw [if_pos (by simpa using hb)]
      refine ⟨by simp [List.getD, List.getElem?_eq_getElem h], Nat.le_refl _, fun i hi => ?_⟩
      by_cases e : i = k + 1
      · rw [e]; exact Int.le_refl _
      · have := h3 i (by omega)
        omega
    · rw [if_neg (by simpa using hb)]
      refine ⟨h1, by omega, fun i hi => ?_⟩
      by_cases e : i = k + 1
      · rw [e]; omega
      · exact h3 i (by omega)
theorem call_min_d {l : Addr} {its : Array Value} {ns : List Int} {d : Value} {Q : Value → Shared → Prop} (hh : A.handled = none) (hl : s.heap.IsList l its) (hi : IntsAre its.toList ns)
    (h : ∀ v h' tk, (ns = [] → v = d) → (ns ≠ [] → ∃ t m, v = .int m t ∧ m ∈ ns ∧ ∀ k ∈ ns, m ≤ k) → (∀ b o, s.heap.get? b = some o → h'.get? b = some o) → Q v { s with heap := h', toks := tk }) :
    wpAny (model P w) A (call (.builtin "min") [.ref l] [(Str.ofString "default", d)]) Q E s := by
  have hlt : l < s.heap.objs.size := by obtain ⟨o, ho, _⟩ := hl; exact Heap.lt_size ho
  have hn : its.size = ns.length := by
    have := hi.length
    simpa using this
  refine kmk_tree F.kind_min F.plain_min F.entry_min (args_min_d _ _) ?_
  show wpAny _ A.in1 (Builtin.Builtins.bindParams "min" ["key", "default"] 0 ⟨[], [(Str.ofString "default", d)]⟩ >>= _) _ _ s
  refine wpAny_bind (wpAny_of_eq (show Builtin.Builtins.bindParams "min" ["key", "default"] 0 ⟨[], [(Str.ofString "default", d)]⟩ = pure [none, some d] from rfl) ?_)
  refine wpAny_bind (wpAny_pure ?_)
  refine wpAny_bind (wpAny_pyIter_list hl ?_)
  refine wpAny_bind (wpAny_newList ?_ (Nat.zero_le _))
  rw [min_name]
  have zI : (s.heap.push { cls := .type "list_iterator", data := .fields #[.ref l, .int 0 0] }).objs.size = s.heap.objs.size + 1 := Heap.size_push ..
  have W := Walks.list (prog := P) (w := w) (A := A.in1) (by simp [hh]) s.heap.objs.size l (Nat.ne_of_lt hlt) its
  have nf : (s.heap.push { cls := .type "list_iterator", data := .fields #[.ref l, .int 0 0] }).objs.size ∉ [s.heap.objs.size, l] := by
    rw [zI]
    intro hm
    simp only [List.mem_cons, List.not_mem_nil, or_false] at hm
    rcases hm with e | e
    · exact Nat.succ_ne_self _ e
    · rw [← e] at hlt; exact absurd hlt (Nat.not_lt_of_le (Nat.le_succ _))
  refine wpAny_pure ⟨plainId_quiet F.plain_min_loop _, min_first W (fun i j => decide (ns.getD i 0 < ns.getD j 0)) (CmpOf.ints_lt (fun i => ns.getD i 0) fun i v hv => IntsAre.int_at hi i v (by rw [Array.getElem?_toList]; exact hv)) _ nf d _ ⟨⟨_, Heap.get?_push_of_some _ (Heap.get?_push_size _ rfl), rfl, rfl⟩, ?_⟩ (Heap.get?_push_size _ rfl) fun v h' tk c1 c2 c3 => ?_⟩
  · obtain ⟨o, ho, r⟩ := hl
    exact ⟨o, Heap.get?_push_of_some _ (Heap.get?_push_of_some _ ho), r⟩
  · refine h v h' tk (fun e => c1 (by rw [hn, e]; rfl)) (fun e => ?_) fun b o hb => ?_
    · have hpos : 0 < ns.length := List.length_pos_iff.mpr e
      have hv := c2 (by rw [hn]; exact hpos)
      obtain ⟨t, ht⟩ := IntsAre.int_at hi _ v (by rw [Array.getElem?_toList]; exact hv)
      rw [hn] at ht
      obtain ⟨b1, b2, b3⟩ := best_min ns (ns.length - 1) (by omega)
      refine ⟨t, _, ht, b1, fun k hk => ?_⟩
      obtain ⟨i, hi', e'⟩ := List.getElem_of_mem hk
      have := b3 i (by omega)
      simpa [List.getD, List.getElem?_eq_getElem hi', e'] using this
    · have hb0 := Heap.lt_size hb
      refine c3 b o (fun hm => ?_) (fun e => ?_) (Heap.get?_push_of_some _ (Heap.get?_push_of_some _ hb))
      · have e : b = s.heap.objs.size := by simpa using hm
        rw [e] at hb0; exact Nat.lt_irrefl _ hb0
      · rw [e, zI] at hb0; exact absurd hb0 (Nat.not_lt_of_le (Nat.le_succ _))
end
end HZ
namespace L2
open PySem PySem.Spec PyProof.Rows
section
variable {X : Cx} {p pos kp : Pos} {e d : Expr} {ta tk : TA}
def tMinD (K : PySem.W.Frag) (ta tk : TA) : TE := fun σ H Q => ta σ H fun vs H1 => tk σ H1 fun zs H2 => ∃ (a : Addr) (ns : List Int) (y : V), vs = [.ref a] ∧ zs = [y] ∧ SqL K H2 a (ns.map V.int) ∧ ∀ v, (ns = [] → v = y) → (ns ≠ [] → ∃ m, v = .int m ∧ m ∈ ns ∧ ∀ k ∈ ns, m ≤ k) → Q v H2
theorem boot_min' : bootBuiltins "min" = some (.builtin "min") := by decide +kernel
theorem pe_minD (hc : X.calm = true) (hg : Gl X "min") (hm : X.mg "min" = none) (ha : PA X [e] ta) (hk : PK X [⟨some "default", d, kp⟩] tk) (he : backTo pos (starEach [e] X.env) = (false, eval e X.env) :: backTo pos (starEach [] X.env) := by rfl) (hpl : (backTo pos (starEach [e] X.env)).any (·.1) = false := by rfl) :
    PE X (.Call (.Name "min" p) [e] [⟨some "default", d, kp⟩] pos) (tMinD X.K ta tk) := by
  intro pins s σ H Q I h
  refine wpAny_Call_Name_kw (ld_blt I hg hm boot_min' ?_)
  refine callWith_kw (thn (ha pos pins s σ H _ I h) fun us s1 ⟨vs, H1, I1, r1, q1⟩ => ?_) he hpl
  refine thn (hk pos pins s1 σ H1 _ I1 q1) fun ws s2 ⟨zs, H2, I2, r2, q2⟩ => ?_
  obtain ⟨a, ns, y, e1, e2, hs, q⟩ := q2
  subst e1 e2
  obtain ⟨u, rfl, ru⟩ := vals1 r1
  obtain ⟨z, rfl, rz⟩ := vals1 r2
  cases ru
  obtain ⟨its, rv, pl, _⟩ := I2.list hs
  refine HZ.call_min_d (I2.ok.hd hc) (its := its.toArray) (ns := ns) pl.isList (by simpa using intsAre_of rv) fun v h' tk c1 c2 c3 => ?_
  by_cases hn : ns = []
  · exact ⟨y, H2, I2.kept (t' := tk) c3, by rw [c1 hn]; exact rz, q y (fun _ => rfl) fun h => absurd hn h⟩
  · obtain ⟨t, m, rfl, h1, h2⟩ := c2 hn
    exact ⟨.int m, H2, I2.kept (t' := tk) c3, ⟨t, rfl⟩, q _ (fun h => absurd h hn) fun _ => ⟨m, rfl, h1, h2⟩⟩
end
end L2

set_option Elab.async false
set_option linter.all false
set_option maxRecDepth 100000
set_option maxHeartbeats 4000000
namespace TS
open PySem
abbrev Rise (l : List Nat) : Prop := l.Pairwise (· < ·)
theorem getD_arr (xs : Array Nat) (k d : Nat) : xs.getD k d = xs.toList.getD k d := by
  cases xs with
  | mk l =>
    by_cases h : k < l.length
    · simp [Array.getD, List.getD, h]
    · simp [Array.getD, List.getD, h]
theorem rise_lt {l : List Nat} (h : Rise l) {a b : Nat} (hab : a < b) (hb : b < l.length) : l.getD a 0 < l.getD b 0 := by
  have := List.pairwise_iff_getElem.mp h a b (by omega) hb hab
  simpa [List.getD, List.getElem?_eq_getElem hb, List.getElem?_eq_getElem (show a < l.length by omega)] using this
theorem getD_any (l : List Nat) {k : Nat} (hk : k < l.length) (d e : Nat) : l.getD k d = l.getD k e := by
  simp [List.getD, List.getElem?_eq_getElem hk]
theorem go_spec (xs : Array Nat) (j : Nat) (hr : Rise xs.toList) : ∀ (fuel lo hi : Nat), hi - lo ≤ fuel → lo ≤ hi → hi ≤ xs.toList.length → (∀ k, k < lo → xs.toList.getD k 0 < j) → (∀ k, hi ≤ k → k < xs.toList.length → j ≤ xs.toList.getD k 0) →
    SetTable.below.go xs j fuel lo hi ≤ xs.toList.length ∧ (∀ k, k < SetTable.below.go xs j fuel lo hi → xs.toList.getD k 0 < j) ∧ (∀ k, SetTable.below.go xs j fuel lo hi ≤ k → k < xs.toList.length → j ≤ xs.toList.getD k 0)
  | 0, lo, hi, hf, hl, hh, h1, h2 => by
    have e : lo = hi := by omega
    subst e
    exact ⟨hh, h1, h2⟩
  | fuel + 1, lo, hi, hf, hl, hh, h1, h2 => by
    unfold SetTable.below.go
    by_cases hlt : lo < hi
    · rw [if_pos hlt]
      dsimp only
      have hm : (lo + hi) / 2 < xs.toList.length := by omega
      rw [getD_arr, getD_any _ hm j 0]
      by_cases hc : xs.toList.getD ((lo + hi) / 2) 0 < j
      · rw [if_pos hc]
        refine go_spec xs j hr fuel _ _ (by omega) (by omega) hh (fun k hk => ?_) h2
        by_cases hk2 : k = (lo + hi) / 2
        · rw [hk2]; exact hc
        · exact Nat.lt_trans (rise_lt hr (by omega) hm) hc
      · rw [if_neg hc]
        refine go_spec xs j hr fuel _ _ (by omega) (by omega) (by omega) h1 (fun k hk hk2 => ?_)
        by_cases hk3 : k = (lo + hi) / 2
        · rw [hk3]; omega
        · have := rise_lt hr (show (lo + hi) / 2 < k by omega) hk2
          omega
    · rw [if_neg hlt]
      have e : lo = hi := by omega
      subst e
      exact ⟨hh, h1, h2⟩
theorem below_spec (xs : Array Nat) (j : Nat) (hr : Rise xs.toList) : SetTable.below xs j ≤ xs.toList.length ∧ (∀ k, k < SetTable.below xs j → xs.toList.getD k 0 < j) ∧ (∀ k, SetTable.below xs j ≤ k → k < xs.toList.length → j ≤ xs.toList.getD k 0) := by
  unfold SetTable.below
  exact go_spec xs j hr xs.size 0 xs.size (by omega) (Nat.zero_le _) (by simp) (fun k hk => by omega) (fun k hk hk2 => by simp at hk2; omega)
theorem mem_take_lt {l : List Nat} {p j : Nat} (h : ∀ k, k < p → l.getD k 0 < j) : ∀ x ∈ l.take p, x < j := by
  intro x hx
  obtain ⟨k, hk, e⟩ := List.getElem_of_mem hx
  have hk' : k < p ∧ k < l.length := by rw [List.length_take] at hk; omega
  have := h k hk'.1
  rw [List.getElem_take] at e
  rw [← e]
  simpa [List.getD, List.getElem?_eq_getElem hk'.2] using this
theorem mem_drop_ge {l : List Nat} {p j : Nat} (h : ∀ k, p ≤ k → k < l.length → j ≤ l.getD k 0) : ∀ x ∈ l.drop p, j ≤ x := by
  intro x hx
  obtain ⟨k, hk, e⟩ := List.getElem_of_mem hx
  have hk' : p + k < l.length := by rw [List.length_drop] at hk; omega
  have := h (p + k) (by omega) hk'
  rw [List.getElem_drop] at e
  rw [← e]
  simpa [List.getD, List.getElem?_eq_getElem hk'] using this
theorem put_rise {xs : Array Nat} {j : Nat} (hr : Rise xs.toList) (hn : xs[SetTable.below xs j]? ≠ some j) : Rise (SetTable.insertAt xs (SetTable.below xs j) j).toList := by
  obtain ⟨h0, h1, h2⟩ := below_spec xs j hr
  rw [SetTable.toList_insertAt]
  have a1 := mem_take_lt h1
  have a2 : ∀ x ∈ xs.toList.drop (SetTable.below xs j), j < x := by
    intro x hx
    have hge := mem_drop_ge h2
    have hd : Rise (xs.toList.drop (SetTable.below xs j)) := List.Pairwise.sublist (List.drop_sublist _ _) hr
    cases hc : xs.toList.drop (SetTable.below xs j) with
    | nil => rw [hc] at hx; cases hx
    | cons y r =>
      rw [hc] at hd hx hge
      have hy : j ≠ y := by
        intro e
        apply hn
        have : (xs.toList.drop (SetTable.below xs j))[0]? = some y := by rw [hc]; rfl
        rw [List.getElem?_drop] at this
        have e2 : xs.toList[SetTable.below xs j]? = some y := by simpa using this
        rw [← Array.getElem?_toList, e2, e]
      have hjy : j < y := Nat.lt_of_le_of_ne (hge y List.mem_cons_self) hy
      rcases List.mem_cons.mp hx with e | hx
      · rw [e]; exact hjy
      · exact Nat.lt_trans hjy ((List.pairwise_cons.mp hd).1 x hx)
  first
    | (refine List.pairwise_append.mpr ⟨List.Pairwise.sublist (List.take_sublist _ _) hr, List.pairwise_cons.mpr ⟨a2, List.Pairwise.sublist (List.drop_sublist _ _) hr⟩, fun x hx y hy => ?_⟩
       rcases List.mem_cons.mp hy with e | hy
       · rw [e]; exact a1 x hx
       · exact Nat.lt_trans (a1 x hx) (a2 y hy))
    | trace_state
theorem go_free (t : SetTable) (h : Int) : ∀ (fuel : Nat) (p : SetTable.Probe) (j : Nat) (dm : Option Nat), (∀ d, p.dummy = some d → t.slot d = .dummy) → SetTable.probe.go t (fun _ => h + 1) h fuel p = some (.empty j dm) → t.slot j = .empty ∧ ∀ d, dm = some d → t.slot d = .dummy
  | 0, p, j, dm, hp, e => by simp [SetTable.probe.go] at e
  | fuel + 1, p, j, dm, hp, e => by
    unfold SetTable.probe.go at e
    cases hs : t.slot p.j with
    | empty =>
      rw [hs] at e
      simp at e
      rw [← e.1, ← e.2]
      exact ⟨hs, hp⟩
    | dummy =>
      rw [hs] at e
      refine go_free t h fuel _ j dm (fun d hd => ?_) e
      unfold SetTable.advance at hd
      split at hd
      · simp at hd; rw [← hd]; exact hs
      · simp at hd; rw [← hd]; exact hs
    | live i =>
      rw [hs] at e
      have hne : (h + 1 == h) = false := by simp; omega
      simp only [hne, Bool.false_eq_true, if_false] at e
      refine go_free t h fuel _ j dm (fun d hd => ?_) e
      unfold SetTable.advance at hd
      split at hd
      · exact hp d hd
      · exact hp d hd
theorem slot_free {t : SetTable} {j : Nat} (h : t.slot j = .empty ∨ t.slot j = .dummy) : t.place[SetTable.below t.place j]? ≠ some j := by
  intro e
  have : t.slot j = .live (SetTable.below t.place j) := by
    unfold SetTable.slot
    simp [e]
  rw [this] at h
  rcases h with h | h <;> cases h
theorem free_slot {t : SetTable} {h : Int} {j : Nat} {b : Bool} (e : t.freeSlot h = some (j, b)) : t.place[SetTable.below t.place j]? ≠ some j := by
  unfold SetTable.freeSlot SetTable.probe at e
  split at e
  · rename_i j' dm hg
    have k := go_free t h _ _ j' dm (fun d hd => by simp [SetTable.probeStart] at hd) hg
    simp at e
    rw [← e.1]
    cases dm with
    | none => exact slot_free (.inl k.1)
    | some d => exact slot_free (.inr (k.2 d rfl))
  · cases e
structure TabOk (led : Bool) (t : SetTable) : Prop where
  led : t.led = led
  rise : t.plain = true → Rise t.place.toList
theorem tab_standIn {led : Bool} {t : SetTable} (h : TabOk led t) (n : Nat) : TabOk led (t.standIn n) := ⟨h.led, fun z => by simp [SetTable.standIn] at z⟩
theorem tab_layNew {led : Bool} {t : SetTable} (h : TabOk led t) (es : Array (Int × Value)) (hs : Int) (x : Value) : TabOk led (layNew t es hs x).2.1 := by
  unfold layNew
  split
  · rename_i slot wd e
    dsimp only
    unfold SetTable.orStandIn
    have hp : TabOk led (t.put slot).1 := ⟨h.led, fun z => put_rise (h.rise z) (free_slot e)⟩
    split
    · exact hp
    · exact tab_standIn hp _
  · exact tab_standIn h _
theorem tab_laid {mask finger moves : Nat} {led plain : Bool} {hs : Array Int} {t : SetTable} {o : Array Nat} (e : SetTable.laid mask finger moves led plain hs = some (t, o)) : TabOk led t ∧ t.plain = plain := by
  unfold SetTable.laid at e
  cases hl : SetTable.layClean mask hs with
  | none => rw [hl] at e; simp at e
  | some owner =>
    rw [hl] at e
    simp at e
    obtain ⟨e1, e2⟩ := e
    subst e1
    refine ⟨⟨rfl, fun _ => ?_⟩, rfl⟩
    show Rise (List.toArray _).toList
    simp only [List.map_filterMap]
    refine List.pairwise_filterMap.mpr ?_
    refine List.Pairwise.imp (R := (· < ·)) ?_ (List.pairwise_lt_range)
    intro a b hab x hx y hy
    cases ha : (owner[a]?.getD none) with
    | none => rw [ha] at hx; simp at hx
    | some q =>
      cases hb : (owner[b]?.getD none) with
      | none => rw [hb] at hy; simp at hy
      | some r =>
        rw [ha] at hx; rw [hb] at hy
        simp at hx hy
        omega
theorem tab_relay {led : Bool} {t : SetTable} (h : TabOk led t) (es : Array (Int × Value)) (n : Nat) : TabOk led (relayAll t es n).2.1 := by
  unfold relayAll
  split
  · rename_i t' o e
    dsimp only
    split
    · unfold SetTable.relaid at e
      have k := tab_laid e
      exact ⟨k.1.led.trans h.led, k.1.rise⟩
    · exact tab_standIn h _
  · exact tab_standIn h _
theorem tab_fresh (led : Bool) : TabOk led (.fresh 0 0 led) := ⟨rfl, fun _ => List.Pairwise.nil⟩
end TS

set_option Elab.async false
set_option linter.all false
set_option maxRecDepth 100000
set_option maxHeartbeats 4000000
namespace TS
open PySem PySem.Spec PyProof.Rows
section
variable {P : Program} {w : World} {A : Around} {E : Value → Shared → Prop} {s : Shared} {led : Bool}
def SetT (P : Program) (w : World) (led : Bool) (h : Heap) (a : Addr) (S : Int → Bool) (n : Nat) : Prop :=
  ∃ o es ep t, h.get? a = some o ∧ o.ExactSet ∧ o.data = .set es ep t ∧ ElemsOf (intKind P w) es.toList ∧ (∀ k, S k = true ↔ ∃ e ∈ es.toList, (intKind P w).is k e.2 = true) ∧ es.size < scanBound ∧ t.fits es.size = true ∧ es.size = n ∧ TabOk led t
theorem SetT.at {h h' : Heap} {a : Addr} {S : Int → Bool} {n : Nat} (x : SetT P w led h a S n) (k : ∀ o, h.get? a = some o → h'.get? a = some o) : SetT P w led h' a S n := by
  obtain ⟨o, es, ep, t, ho, r⟩ := x
  exact ⟨o, es, ep, t, k o ho, r⟩
theorem SetT.congr {h : Heap} {a : Addr} {S S' : Int → Bool} {n n' : Nat} (x : SetT P w led h a S n) (e : ∀ k, S k = S' k) (en : n = n') : SetT P w led h a S' n' := by
  obtain rfl : S = S' := funext e
  subst en; exact x
theorem put_set {a : Addr} {u : Obj} {es es' : Array (Int × Value)} {ep : Nat} {t t' : SetTable} {h : Heap} (hu : h.get? a = some u) (hx : u.ExactSet) (hd : u.data = .set es ep t) {S : Int → Bool}
    (c1 : ElemsOf (intKind P w) es'.toList) (c2 : ∀ k, S k = true ↔ ∃ e ∈ es'.toList, (intKind P w).is k e.2 = true) (c3 : es'.size < scanBound) (c4 : t'.fits es'.size = true) (c5 : TabOk led t') :
    (h.update a (Obj.putSet es' t')).get? a = some { u with data := .set es' (ep + 1) t' } ∧ SetT P w led (h.update a (Obj.putSet es' t')) a S es'.size := by
  have g := (SetOf_store (knd := intKind P w) hu hx hd c1 c2 c3 c4).1
  exact ⟨g, _, es', ep + 1, t', g, hx, rfl, c1, c2, c3, c4, rfl, c5⟩
theorem set_add {a : Addr} {S : Int → Bool} {n : Nat} {k : Int} {tk : Tok} {Q : Bool → Shared → Prop} (hS : SetT P w led s.heap a S n) (hroom : n + 1 < scanBound)
    (h : ∀ h', Heap.SameBut a s.heap h' → SetT P w led h' a (fun j => S j || decide (j = k)) (if S k then n else n + 1) → Q (!S k) { s with heap := h' }) :
    wpAny (model P w) A (setAddHashed a (.int k tk) ((intKind P w).hash k)) Q E s := by
  obtain ⟨u, es, ep, t, hu, hx, hd, c1, c2, c3, c4, hn, c5⟩ := hS
  have ky : (intKind P w).is k (.int k tk) = true := intKind_is _ _ _ _
  have sc : (Value.int k tk).scannable = true := rfl
  have hb1 : es.size + 1 < scanBound := by rw [hn]; exact hroom
  unfold setAddHashed setAddHashedIn
  refine wpAny_holding ?_
  refine wpAny_bind (wpAny_setState_of hu hd c4 ?_)
  dsimp only
  rw [byScan_of sc c3 c1, if_pos rfl]
  unfold setAddByScan
  refine wpAny_bind (wpAny_bind (wpAny_rule ?_))
  refine wpAny_bind (wpAny_setScan_of ky hu hd c4 c1 ?_)
  cases fnd : es.toList.findIdx? (fun e => (intKind P w).is k e.2) with
  | some j =>
    dsimp only
    obtain ⟨hj, pj, _⟩ := List.findIdx?_eq_some_iff_getElem.mp fnd
    have Sk : S k = true := (c2 k).mpr ⟨es.toList[j], List.getElem_mem hj, pj⟩
    have q := h s.heap (Heap.SameBut.refl a s.heap) ⟨u, es, ep, t, hu, hx, hd, c1, fun j' => by
      rw [Bool.or_eq_true, decide_eq_true_eq, ← c2 j']
      exact ⟨fun z => z.elim id fun e => by rw [e]; exact Sk, Or.inl⟩, c3, c4, by rw [Sk]; exact hn, c5⟩
    rw [Sk] at q
    exact wpAny_pure (wpAny_pure q)
  | none =>
    dsimp only
    have Sk : S k = false := by
      rw [← Bool.not_eq_true, c2 k]
      rintro ⟨e, he, pe⟩
      have z := List.findIdx?_eq_none_iff.mp fnd e he
      rw [pe] at z; cases z
    have way : ∀ (b : Bool) {s1 : Shared} {Q1 : Unit → Shared → Prop}, Q1 () s1 → wpAny (model P w) A (match b with | true => rule "set.scan.the-table-gave-way" | false => pure ()) Q1 E s1 :=
      fun b s1 Q1 q => by cases b <;> first | exact wpAny_pure q | exact wpAny_rule q
    have pm := layNew_perm t es ((intKind P w).hash k) (.int k tk)
    have ft := layNew_fits t es ((intKind P w).hash k) (.int k tk)
    have tb := tab_layNew c5 es ((intKind P w).hash k) (.int k tk)
    generalize layNew t es ((intKind P w).hash k) (.int k tk) = L at pm ft tb ⊢
    obtain ⟨es1, t1, wasDummy, gave⟩ := L
    dsimp only at pm ft tb ⊢
    rw [Array.toList_push] at pm
    have d1 : ElemsOf (intKind P w) es1.toList := (c1.push ky sc).perm pm
    have d2 : ∀ j, (S j || decide (j = k)) = true ↔ ∃ e ∈ es1.toList, (intKind P w).is j e.2 = true := mem_push_iff ky c2 pm
    have z1 : es1.size = n + 1 := by
      have l := pm.length_eq
      rw [List.length_append, Array.length_toList, Array.length_toList, hn] at l
      exact l
    have d3 : es1.size < scanBound := by omega
    refine wpAny_bind (way _ ?_)
    obtain ⟨g1, T1⟩ := put_set (S := fun j => S j || decide (j = k)) hu hx hd d1 d2 d3 ft tb
    have sb1 := Heap.SameBut.update s.heap a (Obj.putSet es1 t1)
    have fin : ∀ h', Heap.SameBut a s.heap h' → SetT P w led h' a (fun j => S j || decide (j = k)) es1.size → Q true { s with heap := h' } := fun h' sb T => by
      have q := h h' sb
      rw [Sk] at q
      rw [z1] at T
      exact q T
    have pm2 := relayAll_perm t1 es1 (SetTable.grown es1.size)
    have ft2 := relayAll_fits t1 es1 (SetTable.grown es1.size)
    have tb2 := tab_relay tb es1 (SetTable.grown es1.size)
    have hv : hashByValue 8 (Value.int k tk) = pure true := rfl
    split
    · refine wpAny_bind ?_
      rw [hv]
      refine wpAny_pure ?_
      simp only [if_true]
      refine wpAny_bind (wpAny_storeSet_of hu hd ?_ (fits_of_scanBound d3))
      split
      · generalize relayAll t1 es1 (SetTable.grown es1.size) = L2 at pm2 ft2 tb2 ⊢
        obtain ⟨es2, t2, gave2⟩ := L2
        dsimp only at pm2 ft2 tb2 ⊢
        have z2 : es2.size = es1.size := by
          have l := pm2.length_eq
          rwa [Array.length_toList, Array.length_toList] at l
        have f2 : ∀ j, (S j || decide (j = k)) = true ↔ ∃ e ∈ es2.toList, (intKind P w).is j e.2 = true := fun j => (d2 j).trans ⟨fun ⟨e, he, q⟩ => ⟨e, pm2.mem_iff.mpr he, q⟩, fun ⟨e, he, q⟩ => ⟨e, pm2.mem_iff.mp he, q⟩⟩
        refine wpAny_bind (way _ ?_)
        refine wpAny_bind (wpAny_storeSet_of g1 rfl ?_ (fits_of_scanBound (by rw [z2]; exact d3)))
        obtain ⟨g2, T2⟩ := put_set (S := fun j => S j || decide (j = k)) (led := led) g1 hx rfl (d1.perm pm2) f2 (by rw [z2]; exact d3) ft2 tb2
        rw [z2] at T2
        exact wpAny_pure (wpAny_pure (fin _ (sb1.trans (Heap.SameBut.update _ a _)) T2))
      · exact wpAny_pure (wpAny_pure (fin _ sb1 T1))
    · refine wpAny_bind (wpAny_pure ?_)
      simp only [if_true]
      refine wpAny_bind (wpAny_storeSet_of hu hd ?_ (fits_of_scanBound d3))
      split
      · generalize relayAll t1 es1 (SetTable.grown es1.size) = L2 at pm2 ft2 tb2 ⊢
        obtain ⟨es2, t2, gave2⟩ := L2
        dsimp only at pm2 ft2 tb2 ⊢
        have z2 : es2.size = es1.size := by
          have l := pm2.length_eq
          rwa [Array.length_toList, Array.length_toList] at l
        have f2 : ∀ j, (S j || decide (j = k)) = true ↔ ∃ e ∈ es2.toList, (intKind P w).is j e.2 = true := fun j => (d2 j).trans ⟨fun ⟨e, he, q⟩ => ⟨e, pm2.mem_iff.mpr he, q⟩, fun ⟨e, he, q⟩ => ⟨e, pm2.mem_iff.mp he, q⟩⟩
        refine wpAny_bind (way _ ?_)
        refine wpAny_bind (wpAny_storeSet_of g1 rfl ?_ (fits_of_scanBound (by rw [z2]; exact d3)))
        obtain ⟨g2, T2⟩ := put_set (S := fun j => S j || decide (j = k)) (led := led) g1 hx rfl (d1.perm pm2) f2 (by rw [z2]; exact d3) ft2 tb2
        rw [z2] at T2
        exact wpAny_pure (wpAny_pure (fin _ (sb1.trans (Heap.SameBut.update _ a _)) T2))
      · exact wpAny_pure (wpAny_pure (fin _ sb1 T1))
end
end TS

set_option Elab.async false
set_option linter.all false
set_option maxRecDepth 100000
set_option maxHeartbeats 4000000
namespace TS
open PySem PySem.Spec PyProof.Rows
def led0 (w : World) : Bool := !(w.params.followText "set-order")
section
variable {P : Program} {w : World} {A : Around} {E : Value → Shared → Prop} {s : Shared}
theorem new_set1 (a : Value) {Q₁ : Value → Shared → Prop}
    (hq : Q₁ (.ref s.heap.objs.size) { s with heap := s.heap.push { cls := .type "set", dict := none, data := .set #[] 0 (.fresh 0 0 (led0 w)) } }) :
    codeAny (model P w) A (.call (.builtin "set.__new__") ⟨[.type "set", a], []⟩) (wants Q₁ E) s := by
  refine codeAny_of_tree ?_
  show wpAny _ A.in1 (checkBuiltinCall "set.__new__" ⟨[.type "set", a], []⟩ >>= fun _ => again (.builtin "set.__new__" ⟨[.type "set", a], []⟩)) _ _ s
  refine wpAny_bind ?_
  refine wpAny_of_eq (F.newCall_set_1 a) ?_
  refine wpAny_pure ⟨plainId_quiet F.plain_set_new _, codeAny_builtin F.entry_set_new ?_⟩
  rw [Around.under_plainId F.plain_set_new _]
  unfold Builtin.«set.__new__» Builtin.Frozenset.newClass
  have ss := sub_set_self
  obtain ⟨h1, h2, h3, h4, h5⟩ := s
  dsimp only
  wp_walk
  refine wpAny_askSetting (wpAny_pure ?_)
  dsimp only
  simp only [newObj]
  refine wpAny_bind (wpAny_alloc ?_)
  exact wpAny_pure (wpAny_pure hq)
end
section
variable {P : Program} {w : World} {A : Around} {R : Result → Shared → Prop} {I : Addr} {fp wr : List Addr} {G : Array GenState → Array GenState → Prop} {n : Nat} {Pv : Nat → Value → Prop} {St : Nat → Shared → Prop} {led : Bool}
theorem set_loop (W : WalksS P w A.in1 I fp wr G n Pv St) (S : Addr) (hSf : S ∉ fp)
    (val : Nat → Int) (hval : ∀ i v, Pv i v → ∃ t, v = .int (val i) t) (hb : n + 1 < scanBound) :
    ∀ (k i : Nat) (s : Shared), n - i = k → i ≤ n → St i s →
      SetT P w led s.heap S (fun j => (firstMet val i).any (· == j)) (firstMet val i).length →
      (∀ s', Moved (S :: wr) G s s' → SetT P w led s'.heap S (fun j => (firstMet val n).any (· == j)) (firstMet val n).length → R (.ok (.ret .none)) s') →
      codeAny (model P w) A (.builtin "set.update.loop" ⟨[.ref S, .ref I], []⟩) R s := by
  have nw : S ∉ wr := fun z => hSf (W.sub _ z)
  have sw : ∀ b ∈ wr, b ∈ S :: wr := fun b z => List.mem_cons_of_mem _ z
  intro k
  induction k with
  | zero =>
    intro i s hk hi st T hR
    obtain rfl : i = n := by omega
    refine codeAny_builtin F.entry_set_update_loop ?_
    rw [Around.under_plainId F.plain_set_update_loop _]
    show wpAny _ A.in1 (pyNext (.ref I) >>= _) _ _ s
    refine wpAny_bind (W.done s _ _ st fun s' m => ?_)
    show wpAny _ A.in1 (ret Value.none) _ _ s'
    exact wpAny_pure (hR s' (m.mono sw) (T.at fun o e => m.heap S o nw e))
  | succ k ih =>
    intro i s hk hi st T hR
    have lt : i < n := by omega
    refine codeAny_builtin F.entry_set_update_loop ?_
    rw [Around.under_plainId F.plain_set_update_loop _]
    show wpAny _ A.in1 (pyNext (.ref I) >>= _) _ _ s
    refine wpAny_bind (W.item i s _ _ lt st fun v s' pv st' m => ?_)
    obtain ⟨t, rfl⟩ := hval i v pv
    have T' := T.at (h' := s'.heap) fun o e => m.heap S o nw e
    show wpAny _ A.in1 (holding [Value.int (val i) t] (setAdd S (.int (val i) t)) >>= _) _ _ s'
    refine wpAny_bind (wpAny_holding ?_)
    unfold setAdd
    refine wpAny_holding ?_
    refine wpAny_bind ((intKind P w).pyHash (k := val i) (intKind_is _ _ _ _) ?_)
    have room : (firstMet val i).length + 1 < scanBound := by have := firstMet_length_le val i; omega
    refine set_add (s := { s' with toks := s'.toks + 1 }) T' room fun h' sb T2 => ?_
    have T3 : SetT P w led h' S (fun j => (firstMet val (i + 1)).any (· == j)) (firstMet val (i + 1)).length := T2.congr (fun j => by rw [firstMet_succ, step_any]) (by rw [firstMet_succ, step_length])
    refine wpAny_pure ⟨plainId_quiet F.plain_set_update_loop _, ih (i + 1) _ (by omega) lt (W.frame _ s' _ _ st' (Nat.le_succ _) fun b hb' o e => ?_) T3 fun s'' m'' T'' => ?_⟩
    · rw [sb.2 b fun z : b = S => hSf (z ▸ hb')]; exact e
    · refine hR s'' (Moved.trans W.gtrans ((m.mono sw).then_heap (Nat.le_succ _) fun b o hb' e => ?_) m'') T''
      rw [sb.2 b fun z : b = S => hb' (by rw [z]; exact List.mem_cons_self)]; exact e
end
section
variable {P : Program} {w : World} {A : Around} {E : Value → Shared → Prop} {s : Shared}
theorem set_of_tup {l : Addr} {its : Array Value} {ns : List Int} {Q : Value → Shared → Prop}
    (hh : A.handled = none) (hl : s.heap.IsTuple l its) (hi : IntsAre its.toList ns) (hb : its.size + 1 < scanBound)
    (h : ∀ (h' : Heap) (tk : Nat), SetT P w (led0 w) h' s.heap.objs.size (fun k' => (firstMet (fun i => ns.getD i 0) its.size).any (· == k')) (firstMet (fun i => ns.getD i 0) its.size).length →
      (∀ b o, b < s.heap.objs.size → s.heap.get? b = some o → h'.get? b = some o) → Q (.ref s.heap.objs.size) { s with heap := h', toks := tk }) :
    wpAny (model P w) A (call (.type "set") [.ref l]) Q E s := by
  obtain ⟨c, tl, ur⟩ := F.called_set.mro
  have um := F.called_set.made
  have ub := F.called_set.sub
  refine wpAny_call (codeAny_of_tree ?_)
  show wpAny _ _ (callAny (.type "set") _) _ _ _
  refine wpAny_pure ⟨Code.quiet_builtin _ (by decide +kernel), codeAny_builtin F.entry_type_call ?_⟩
  rw [Around.under_plain (weight_type_call_type "set" [.ref l] []) rfl]
  have h1 := F.called_set.notType
  have h2 := F.called_set.canCreate
  have uct := F.typeCall_set_1 (.ref l)
  repeat (any_goals (first | assumption | wp_step))
  refine codeAny_mono (new_set1 (.ref l) (E := E) (Q₁ := fun obj s₁ => obj = .ref s.heap.objs.size ∧ s₁ = { s with heap := s.heap.push { cls := .type "set", dict := none, data := .set #[] 0 (.fresh 0 0 (led0 w)) } }) ⟨rfl, rfl⟩) fun r s₁ hr => ?_
  cases r with
  | error e => exact hr
  | ok fl =>
    cases fl with
    | ret obj =>
      obtain ⟨rfl, rfl⟩ := hr
      have v : (s.heap.push { cls := .type "set", dict := none, data := .set #[] 0 (.fresh 0 0 (led0 w)) }).get? s.heap.objs.size = some { cls := .type "set", dict := none, data := .set #[] 0 (.fresh 0 0 (led0 w)) } := Heap.get?_push_size _ rfl
      have vT : Shared.TypeIs { s with heap := s.heap.push { cls := .type "set", dict := none, data := .set #[] 0 (.fresh 0 0 (led0 w)) } } (.ref s.heap.objs.size) "set" := ⟨_, v, rfl⟩
      have vl := F.called_set.init.lookup
      have vb := F.called_set.init.bind (.ref s.heap.objs.size)
      repeat (any_goals (first | assumption | wp_step))
      refine codeAny_mono (codeAny_call_builtin (R := wants (fun r s₂ => r = .none ∧ ∃ h' tk, s₂ = { s with heap := h', toks := tk } ∧
          SetT P w (led0 w) h' s.heap.objs.size (fun k' => (firstMet (fun i => ns.getD i 0) its.size).any (· == k')) (firstMet (fun i => ns.getD i 0) its.size).length ∧
          (∀ b o, b < s.heap.objs.size → s.heap.get? b = some o → h'.get? b = some o)) E) F.called_set.init.plain F.entry_set_init (check_set_init_1 vT ?_)) fun r₂ s₂ vr => ?_
      · obtain ⟨ol, uo, uc, nn, ud⟩ := hl
        obtain ⟨oc, od, oa, os1⟩ := ol
        simp only at uc ud
        subst uc; subst ud
        have uo' : (s.heap.push { cls := .type "set", dict := none, data := .set #[] 0 (.fresh 0 0 (led0 w)) }).get? l = some { cls := .type "tuple", dict := od, data := .seq its nn, slots := os1 } := Heap.get?_push_of_some _ uo
        have u1 := F.sub_tuple_set
        have u2 := F.sub_tuple_frozenset
        have hne : (Value.type "tuple" == Value.type "dict") = false := by decide
        have ul : (s.heap.push { cls := .type "set", dict := none, data := .set #[] 0 (.fresh 0 0 (led0 w)) }).IsTuple l its := ⟨_, uo', rfl, nn, rfl⟩
        unfold Builtin.«set.__init__» noKeywords Builtin.Frozenset.updateFrom
        generalize vP : pyIter = PI
        wp_walk
        subst vP
        refine wpAny_pyIter_tuple ul ?_
        refine wpAny_bind (wpAny_runValue ?_)
        have uS : l < s.heap.objs.size := Heap.lt_size uo
        have v3 : A.in1.in1.in1.handled = none := by simp [hh]
        have uI : l ≠ (s.heap.push { cls := .type "set", dict := none, data := .set #[] 0 (.fresh 0 0 (led0 w)) }).objs.size := by
          rw [Heap.size_push]; exact Nat.ne_of_lt (Nat.lt_succ_of_lt uS)
        have uf : s.heap.objs.size ∉ [(s.heap.push { cls := .type "set", dict := none, data := .set #[] 0 (.fresh 0 0 (led0 w)) }).objs.size, l] := by
          rw [Heap.size_push]; simp only [List.mem_cons, List.mem_singleton, List.not_mem_nil, or_false, not_or]
          exact ⟨Nat.ne_of_lt (Nat.lt_succ_self _), Nat.ne_of_gt uS⟩
        have uv : ∀ (i : Nat) (v : Value), its[i]? = some v → ∃ t, v = .int ((fun i => ns.getD i 0) i) t := fun i v hv =>
          IntsAre.int_at hi i v (by rw [Array.getElem?_toList]; exact hv)
        refine set_loop (led := led0 w) ((Walks.tuple v3 _ l uI its).toS) s.heap.objs.size
          uf (fun i => ns.getD i 0) uv hb (its.size - 0) 0 _ (by omega) (Nat.zero_le _)
          ⟨⟨_, Heap.get?_push_size _ rfl, rfl, rfl⟩, (ul.push _)⟩ ?v0 ?vR
        case v0 =>
          have vg : ((s.heap.push { cls := .type "set", dict := none, data := .set #[] 0 (.fresh 0 0 (led0 w)) }).push { cls := .type "tuple_iterator", data := .fields #[.ref l, .int 0 0] }).get? s.heap.objs.size
              = some { cls := .type "set", dict := none, data := .set #[] 0 (.fresh 0 0 (led0 w)) } := Heap.get?_push_of_some _ v
          exact ⟨_, #[], 0, _, vg, ⟨rfl, rfl, rfl⟩, rfl, fun e he => by simp at he, fun k => by simp [firstMet_zero], by unfold scanBound; simp, by rfl, rfl, tab_fresh _⟩
        case vR =>
          intro s' hm vS
          obtain ⟨h', g', d', tq, os'⟩ := s'
          have eg : g' = s.gens := hm.gens
          have ed : d' = s.drawn := hm.drawn
          have eo : os' = s.os := hm.os
          subst eg; subst ed; subst eo
          show wpAny _ _ _ _ _ _
          refine wpAny_pure ?_
          show wpAny _ _ (ret Value.none) _ _ _
          refine wpAny_pure ⟨rfl, h', tq, rfl, vS, fun b o hb e => ?_⟩
          have v1 : b ≠ s.heap.objs.size := Nat.ne_of_lt hb
          have v2 : b ≠ (s.heap.push { cls := .type "set", dict := none, data := .set #[] 0 (.fresh 0 0 (led0 w)) }).objs.size := by
            rw [Heap.size_push]; exact Nat.ne_of_lt (Nat.lt_succ_of_lt hb)
          exact hm.heap b o (by simp only [List.mem_cons, List.mem_singleton, List.not_mem_nil, or_false, not_or]; exact ⟨v1, v2⟩) (Heap.get?_push_of_some _ (Heap.get?_push_of_some _ e))
      · cases r₂ with
        | error e => exact vr
        | ok fl₂ =>
          cases fl₂ with
          | ret r =>
            obtain ⟨rfl, h', tk, rfl, vS, vk⟩ := vr
            repeat (any_goals (first | assumption | wp_step))
            exact h _ _ vS vk
          | _ => exact vr.elim
    | _ => exact hr.elim
theorem set_of_lst {l : Addr} {its : Array Value} {ns : List Int} {Q : Value → Shared → Prop}
    (hh : A.handled = none) (hl : s.heap.IsList l its) (hi : IntsAre its.toList ns) (hb : its.size + 1 < scanBound)
    (h : ∀ (h' : Heap) (tk : Nat), SetT P w (led0 w) h' s.heap.objs.size (fun k' => (firstMet (fun i => ns.getD i 0) its.size).any (· == k')) (firstMet (fun i => ns.getD i 0) its.size).length →
      (∀ b o, b < s.heap.objs.size → s.heap.get? b = some o → h'.get? b = some o) → Q (.ref s.heap.objs.size) { s with heap := h', toks := tk }) :
    wpAny (model P w) A (call (.type "set") [.ref l]) Q E s := by
  obtain ⟨c, tl, ur⟩ := F.called_set.mro
  have um := F.called_set.made
  have ub := F.called_set.sub
  refine wpAny_call (codeAny_of_tree ?_)
  show wpAny _ _ (callAny (.type "set") _) _ _ _
  refine wpAny_pure ⟨Code.quiet_builtin _ (by decide +kernel), codeAny_builtin F.entry_type_call ?_⟩
  rw [Around.under_plain (weight_type_call_type "set" [.ref l] []) rfl]
  have h1 := F.called_set.notType
  have h2 := F.called_set.canCreate
  have uct := F.typeCall_set_1 (.ref l)
  repeat (any_goals (first | assumption | wp_step))
  refine codeAny_mono (new_set1 (.ref l) (E := E) (Q₁ := fun obj s₁ => obj = .ref s.heap.objs.size ∧ s₁ = { s with heap := s.heap.push { cls := .type "set", dict := none, data := .set #[] 0 (.fresh 0 0 (led0 w)) } }) ⟨rfl, rfl⟩) fun r s₁ hr => ?_
  cases r with
  | error e => exact hr
  | ok fl =>
    cases fl with
    | ret obj =>
      obtain ⟨rfl, rfl⟩ := hr
      have v : (s.heap.push { cls := .type "set", dict := none, data := .set #[] 0 (.fresh 0 0 (led0 w)) }).get? s.heap.objs.size = some { cls := .type "set", dict := none, data := .set #[] 0 (.fresh 0 0 (led0 w)) } := Heap.get?_push_size _ rfl
      have vT : Shared.TypeIs { s with heap := s.heap.push { cls := .type "set", dict := none, data := .set #[] 0 (.fresh 0 0 (led0 w)) } } (.ref s.heap.objs.size) "set" := ⟨_, v, rfl⟩
      have vl := F.called_set.init.lookup
      have vb := F.called_set.init.bind (.ref s.heap.objs.size)
      repeat (any_goals (first | assumption | wp_step))
      refine codeAny_mono (codeAny_call_builtin (R := wants (fun r s₂ => r = .none ∧ ∃ h' tk, s₂ = { s with heap := h', toks := tk } ∧
          SetT P w (led0 w) h' s.heap.objs.size (fun k' => (firstMet (fun i => ns.getD i 0) its.size).any (· == k')) (firstMet (fun i => ns.getD i 0) its.size).length ∧
          (∀ b o, b < s.heap.objs.size → s.heap.get? b = some o → h'.get? b = some o)) E) F.called_set.init.plain F.entry_set_init (check_set_init_1 vT ?_)) fun r₂ s₂ vr => ?_
      · obtain ⟨ol, uo, uc, nn, ud⟩ := hl
        obtain ⟨oc, od, oa, os1⟩ := ol
        simp only at uc ud
        subst uc; subst ud
        have uo' : (s.heap.push { cls := .type "set", dict := none, data := .set #[] 0 (.fresh 0 0 (led0 w)) }).get? l = some { cls := .type "list", dict := od, data := .seq its nn, slots := os1 } := Heap.get?_push_of_some _ uo
        have u1 := F.sub_list_set
        have u2 := F.sub_list_frozenset
        have hne : (Value.type "list" == Value.type "dict") = false := by decide
        have ul : (s.heap.push { cls := .type "set", dict := none, data := .set #[] 0 (.fresh 0 0 (led0 w)) }).IsList l its := ⟨_, uo', rfl, nn, rfl⟩
        unfold Builtin.«set.__init__» noKeywords Builtin.Frozenset.updateFrom
        generalize vP : pyIter = PI
        wp_walk
        subst vP
        refine wpAny_pyIter_list ul ?_
        refine wpAny_bind (wpAny_runValue ?_)
        have uS : l < s.heap.objs.size := Heap.lt_size uo
        have v3 : A.in1.in1.in1.handled = none := by simp [hh]
        have uI : l ≠ (s.heap.push { cls := .type "set", dict := none, data := .set #[] 0 (.fresh 0 0 (led0 w)) }).objs.size := by
          rw [Heap.size_push]; exact Nat.ne_of_lt (Nat.lt_succ_of_lt uS)
        have uf : s.heap.objs.size ∉ [(s.heap.push { cls := .type "set", dict := none, data := .set #[] 0 (.fresh 0 0 (led0 w)) }).objs.size, l] := by
          rw [Heap.size_push]; simp only [List.mem_cons, List.mem_singleton, List.not_mem_nil, or_false, not_or]
          exact ⟨Nat.ne_of_lt (Nat.lt_succ_self _), Nat.ne_of_gt uS⟩
        have uv : ∀ (i : Nat) (v : Value), its[i]? = some v → ∃ t, v = .int ((fun i => ns.getD i 0) i) t := fun i v hv =>
          IntsAre.int_at hi i v (by rw [Array.getElem?_toList]; exact hv)
        refine set_loop (led := led0 w) ((Walks.list v3 _ l uI its).toS) s.heap.objs.size
          uf (fun i => ns.getD i 0) uv hb (its.size - 0) 0 _ (by omega) (Nat.zero_le _)
          ⟨⟨_, Heap.get?_push_size _ rfl, rfl, rfl⟩, (ul.push _)⟩ ?v0 ?vR
        case v0 =>
          have vg : ((s.heap.push { cls := .type "set", dict := none, data := .set #[] 0 (.fresh 0 0 (led0 w)) }).push { cls := .type "list_iterator", data := .fields #[.ref l, .int 0 0] }).get? s.heap.objs.size
              = some { cls := .type "set", dict := none, data := .set #[] 0 (.fresh 0 0 (led0 w)) } := Heap.get?_push_of_some _ v
          exact ⟨_, #[], 0, _, vg, ⟨rfl, rfl, rfl⟩, rfl, fun e he => by simp at he, fun k => by simp [firstMet_zero], by unfold scanBound; simp, by rfl, rfl, tab_fresh _⟩
        case vR =>
          intro s' hm vS
          obtain ⟨h', g', d', tq, os'⟩ := s'
          have eg : g' = s.gens := hm.gens
          have ed : d' = s.drawn := hm.drawn
          have eo : os' = s.os := hm.os
          subst eg; subst ed; subst eo
          show wpAny _ _ _ _ _ _
          refine wpAny_pure ?_
          show wpAny _ _ (ret Value.none) _ _ _
          refine wpAny_pure ⟨rfl, h', tq, rfl, vS, fun b o hb e => ?_⟩
          have v1 : b ≠ s.heap.objs.size := Nat.ne_of_lt hb
          have v2 : b ≠ (s.heap.push { cls := .type "set", dict := none, data := .set #[] 0 (.fresh 0 0 (led0 w)) }).objs.size := by
            rw [Heap.size_push]; exact Nat.ne_of_lt (Nat.lt_succ_of_lt hb)
          exact hm.heap b o (by simp only [List.mem_cons, List.mem_singleton, List.not_mem_nil, or_false, not_or]; exact ⟨v1, v2⟩) (Heap.get?_push_of_some _ (Heap.get?_push_of_some _ e))
      · cases r₂ with
        | error e => exact vr
        | ok fl₂ =>
          cases fl₂ with
          | ret r =>
            obtain ⟨rfl, h', tk, rfl, vS, vk⟩ := vr
            repeat (any_goals (first | assumption | wp_step))
            exact h _ _ vS vk
          | _ => exact vr.elim
    | _ => exact hr.elim
end
end TS

set_option Elab.async false
set_option linter.all false
set_option maxRecDepth 100000
set_option maxHeartbeats 4000000
namespace TS
open PySem PySem.Spec PyProof.Rows
theorem entry_set_iter : entryFor table "set.__iter__" = some Builtin.«frozenset.__iter__» := entryFor_alias (id' := "frozenset.__iter__") (by kernel_rfl) rfl (by decide +kernel) (by kernel_rfl)
theorem slot_si_next : Slot "set_iterator" "__next__" "set_iterator.__next__" :=
  .of (owner := "set_iterator") (n := "__next__") (by rw [typeLookup_type, builtinLookup_eq_fast]; kernel_rfl) (by decide +kernel) (by decide +kernel) (by decide +kernel)
    (by first | exact .inl (by decide +kernel) | exact .inr (by decide +kernel)) (by rw [isSubtype_type]; kernel_rfl)
theorem entry_si_next : entryFor table "set_iterator.__next__" = some Builtin.«set_iterator.__next__» := entryFor_of_tree (by kernel_rfl)
theorem args_si_next (a : Value) : argsOk "set_iterator.__next__" ⟨[a], []⟩ := by unfold argsOk; kernel_rfl
theorem slot_si_iter : Slot "set_iterator" "__iter__" "set_iterator.__iter__" :=
  .of (owner := "set_iterator") (n := "__iter__") (by rw [typeLookup_type, builtinLookup_eq_fast]; kernel_rfl) (by decide +kernel) (by decide +kernel) (by decide +kernel)
    (by first | exact .inl (by decide +kernel) | exact .inr (by decide +kernel)) (by rw [isSubtype_type]; kernel_rfl)
def IsSI (h : Heap) (I a : Addr) (first : Value) (i n ep : Nat) : Prop := ∃ o, h.get? I = some o ∧ o.cls = .type "set_iterator" ∧ o.data = .fields #[first, .int i 0, .ref a, .int n 0, .int ep 0]
section
variable {P : Program} {w : World} {A : Around} {E : Value → Shared → Prop} {s : Shared}
theorem si_next {I a : Addr} {slot i n ep nx : Nat} {u : Obj} {es : Array (Int × Value)} {t : SetTable} {x : Value} {Q : Option Value → Shared → Prop} (hit : IsSI s.heap I a (.int slot 0) i n ep)
    (hu : s.heap.get? a = some u) (hd : u.data = .set es ep t) (hf : t.fits es.size = true) (hn : es.size = n)
    (hs : ∀ (A' : Around) (Q' : Option (Value × Nat) → Shared → Prop) (E' : Value → Shared → Prop), Q' (some (x, nx)) s → wpAny (model P w) A' (setNext a slot i ep) Q' E' s)
    (hQ : ∀ h', IsSI h' I a (.int nx 0) (i + 1) n ep → Heap.SameBut I s.heap h' → Q (some x) { s with heap := h' }) : wpAny (model P w) A (pyNext (.ref I)) Q E s := by
  obtain ⟨o, ho, hc, hdo⟩ := id hit
  have hT : s.TypeIs (.ref I) "set_iterator" := ⟨o, ho, hc⟩
  unfold pyNext
  refine wpAny_bind (wpAny_attempt (wpAny_callSpecial?_slot (name := Str.ofString "__next__") hT slot_si_next
    (wpAny_call_entry slot_si_next hT entry_si_next ?_ (args_si_next _))))
  unfold Builtin.«set_iterator.__next__» slotArgs
  simp only [List.isEmpty_nil, Bool.not_true, Bool.false_eq_true, ↓reduceIte, bind_assoc, List.length_nil, bne_self_eq_false]
  refine wpAny_bind (wpAny_pure ?_)
  refine wpAny_bind (wpAny_fieldsOf ho hdo ?_)
  dsimp only
  refine wpAny_bind (wpAny_setEntries_of hu hd hf ?_)
  rw [hn]
  simp only [bne_self_eq_false, Bool.false_eq_true, ↓reduceIte, Int.toNat_natCast]
  refine wpAny_bind (hs _ _ _ ?_)
  dsimp only
  refine wpAny_bind (wpAny_setField ho hdo (by simp) ?_)
  refine wpAny_bind (wpAny_setField (Heap.get?_update_self _ ho (Obj.isFreed_of_fields (Obj.data_mapFields hdo _))) (Obj.data_mapFields hdo _) (by simp) ?_)
  refine wpAny_pure ⟨x, rfl, wpAny_pure (hQ _ ⟨_, Heap.get?_update_self _ (Heap.get?_update_self _ ho (Obj.isFreed_of_fields (Obj.data_mapFields hdo _))) (Obj.isFreed_of_fields (Obj.data_mapFields (Obj.data_mapFields hdo _) _)), (Obj.cls_mapFields ..).trans ((Obj.cls_mapFields ..).trans hc), ?_⟩ ((Heap.SameBut.update ..).trans (Heap.SameBut.update ..)))⟩
  rw [Obj.data_mapFields (Obj.data_mapFields hdo _)]
  simp [rawInt]
theorem wpAny_pick {src : Source} {m : Nat} {Q : Nat → Shared → Prop} (hm : m ≠ 0) (h : Q (w.draws src (s.drawn.get src) % m) { s with drawn := s.drawn.bump src }) : wpAny (model P w) A (choose src m) Q E s := fun Γ p hΓ => by
  unfold choose
  rw [Sem.wp_choose]
  exact ⟨hm, h⟩
theorem stop_here {I : Addr} {o : Obj} {vs : Array Value} {Q : Option Value → Shared → Prop} (hh : A.handled = none) (ho : s.heap.get? I = some o) (hdo : o.data = .fields vs) (h2 : 2 < vs.size)
    (hQ : ∀ h', Heap.ExtBut I s.heap h' → Q none { s with heap := h' }) :
    wpAny (model P w) A.in1 (setField (.ref I) 2 .none >>= fun _ => newExc (.type "StopIteration") [] >>= fun e => (raiseNew e : Sem Fin)) (fun fin s' => ∃ v, fin = Fin.done (Flow.ret v) ∧ wpAny (model P w) A (pure (some v)) Q E s')
      (fun e s' => wpAny (model P w) A (isInstance e (Value.type "StopIteration") >>= fun b => if b = true then pure none else throw e) Q E s') s := by
  refine wpAny_bind (wpAny_setField ho hdo h2 ?_)
  refine wpAny_bind ?_
  simp only [newExc, newTuple]
  refine wpAny_bind (wpAny_newObj_type ?_ (by size_fits))
  refine wpAny_bind (m := firstArgMember _ _) (wpAny_of_eq (a := Value.none) (by first | rfl | (simp only [firstArgMember]; rfl)) ?_)
  refine wpAny_newObj_type ?_ (by size_fits)
  simp only [raiseNew]
  refine wpAny_bind (wpAny_handled ?_)
  first | rw [show A.in1.handled = none from hh] | rw [hh]
  refine wpAny_bind (wpAny_pure (wpAny_throw ?_))
  refine wpAny_bind (wpAny_isInstance (T := "StopIteration") (b := true) ⟨_, Heap.get?_push_size _ rfl, rfl⟩ isSubtype_stop ?_)
  exact wpAny_pure (hQ _ (((Heap.SameBut.update ..).extBut.push _).push _))
theorem si_end {I a : Addr} {slot i n ep : Nat} {u : Obj} {es : Array (Int × Value)} {t : SetTable} {Q : Option Value → Shared → Prop} (hh : A.handled = none) (hit : IsSI s.heap I a (.int slot 0) i n ep)
    (hu : s.heap.get? a = some u) (hd : u.data = .set es ep t) (hf : t.fits es.size = true) (hn : es.size = n)
    (hs : ∀ (A' : Around) (Q' : Option (Value × Nat) → Shared → Prop) (E' : Value → Shared → Prop), Q' none s → wpAny (model P w) A' (setNext a slot i ep) Q' E' s)
    (hQ : ∀ h', Heap.ExtBut I s.heap h' → Q none { s with heap := h' }) : wpAny (model P w) A (pyNext (.ref I)) Q E s := by
  obtain ⟨o, ho, hc, hdo⟩ := id hit
  have hT : s.TypeIs (.ref I) "set_iterator" := ⟨o, ho, hc⟩
  unfold pyNext
  refine wpAny_bind (wpAny_attempt (wpAny_callSpecial?_slot (name := Str.ofString "__next__") hT slot_si_next
    (wpAny_call_entry slot_si_next hT entry_si_next ?_ (args_si_next _))))
  unfold Builtin.«set_iterator.__next__» slotArgs
  simp only [List.isEmpty_nil, Bool.not_true, Bool.false_eq_true, ↓reduceIte, bind_assoc, List.length_nil, bne_self_eq_false]
  refine wpAny_bind (wpAny_pure ?_)
  refine wpAny_bind (wpAny_fieldsOf ho hdo ?_)
  dsimp only
  refine wpAny_bind (wpAny_setEntries_of hu hd hf ?_)
  rw [hn]
  simp only [bne_self_eq_false, Bool.false_eq_true, ↓reduceIte, Int.toNat_natCast]
  refine wpAny_bind (hs _ _ _ ?_)
  dsimp only
  exact stop_here hh ho hdo (by simp) hQ
theorem si_nextD {I a tp : Addr} {i n ep pl : Nat} {u : Obj} {es : Array (Int × Value)} {t : SetTable} {x : Int × Value} {places : Array Value} {tk : Tok} {Q : Option Value → Shared → Prop} (hit : IsSI s.heap I a (.ref tp) i n ep)
    (hu : s.heap.get? a = some u) (hd : u.data = .set es ep t) (hf : t.fits es.size = true) (hn : es.size = n) (htp : s.heap.IsTuple tp places) (hpl : places[i]? = some (.int pl tk)) (hx : es[pl]? = some x)
    (hQ : ∀ h', IsSI h' I a (.ref tp) (i + 1) n ep → Heap.SameBut I s.heap h' → Q (some x.2) { s with heap := h' }) : wpAny (model P w) A (pyNext (.ref I)) Q E s := by
  obtain ⟨o, ho, hc, hdo⟩ := id hit
  obtain ⟨op, hop, hcp, np, hdp⟩ := htp
  have hT : s.TypeIs (.ref I) "set_iterator" := ⟨o, ho, hc⟩
  unfold pyNext
  refine wpAny_bind (wpAny_attempt (wpAny_callSpecial?_slot (name := Str.ofString "__next__") hT slot_si_next
    (wpAny_call_entry slot_si_next hT entry_si_next ?_ (args_si_next _))))
  unfold Builtin.«set_iterator.__next__» slotArgs
  simp only [List.isEmpty_nil, Bool.not_true, Bool.false_eq_true, ↓reduceIte, bind_assoc, List.length_nil, bne_self_eq_false]
  refine wpAny_bind (wpAny_pure ?_)
  refine wpAny_bind (wpAny_fieldsOf ho hdo ?_)
  dsimp only
  refine wpAny_bind (wpAny_setEntries_of hu hd hf ?_)
  rw [hn]
  simp only [bne_self_eq_false, Bool.false_eq_true, ↓reduceIte, Int.toNat_natCast]
  refine wpAny_bind (wpAny_seqItems hop hdp ?_)
  dsimp only
  rw [hpl]
  dsimp only
  unfold setNextDrawn
  refine wpAny_bind (wpAny_bind (wpAny_setState_of hu hd hf ?_))
  dsimp only
  simp only [bne_self_eq_false, Bool.false_eq_true, ↓reduceIte, Int.toNat_natCast]
  rw [hx]
  dsimp only
  refine wpAny_pure ?_
  refine wpAny_bind (wpAny_setField ho hdo (by simp) ?_)
  refine wpAny_pure ⟨x.2, rfl, wpAny_pure (hQ _ ⟨_, Heap.get?_update_self _ ho (Obj.isFreed_of_fields (Obj.data_mapFields hdo _)), (Obj.cls_mapFields ..).trans hc, ?_⟩ (Heap.SameBut.update ..))⟩
  rw [Obj.data_mapFields hdo]
  simp [rawInt]
theorem si_endD {I a tp : Addr} {i n ep : Nat} {u : Obj} {es : Array (Int × Value)} {t : SetTable} {places : Array Value} {Q : Option Value → Shared → Prop} (hh : A.handled = none) (hit : IsSI s.heap I a (.ref tp) i n ep)
    (hu : s.heap.get? a = some u) (hd : u.data = .set es ep t) (hf : t.fits es.size = true) (hn : es.size = n) (htp : s.heap.IsTuple tp places) (hpl : places[i]? = none)
    (hQ : ∀ h', Heap.ExtBut I s.heap h' → Q none { s with heap := h' }) : wpAny (model P w) A (pyNext (.ref I)) Q E s := by
  obtain ⟨o, ho, hc, hdo⟩ := id hit
  obtain ⟨op, hop, hcp, np, hdp⟩ := htp
  have hT : s.TypeIs (.ref I) "set_iterator" := ⟨o, ho, hc⟩
  unfold pyNext
  refine wpAny_bind (wpAny_attempt (wpAny_callSpecial?_slot (name := Str.ofString "__next__") hT slot_si_next
    (wpAny_call_entry slot_si_next hT entry_si_next ?_ (args_si_next _))))
  unfold Builtin.«set_iterator.__next__» slotArgs
  simp only [List.isEmpty_nil, Bool.not_true, Bool.false_eq_true, ↓reduceIte, bind_assoc, List.length_nil, bne_self_eq_false]
  refine wpAny_bind (wpAny_pure ?_)
  refine wpAny_bind (wpAny_fieldsOf ho hdo ?_)
  dsimp only
  refine wpAny_bind (wpAny_setEntries_of hu hd hf ?_)
  rw [hn]
  simp only [bne_self_eq_false, Bool.false_eq_true, ↓reduceIte, Int.toNat_natCast]
  refine wpAny_bind (wpAny_seqItems hop hdp ?_)
  dsimp only
  rw [hpl]
  dsimp only
  refine wpAny_bind (wpAny_setField ho hdo (by simp) ?_)
  exact stop_here (s := { s with heap := _ }) hh (Heap.get?_update_self _ ho (Obj.isFreed_of_fields (Obj.data_mapFields hdo _))) (Obj.data_mapFields hdo _) (by simp) fun h' e => hQ h' (Heap.ExtBut.trans (Heap.SameBut.update ..).extBut e)
end
end TS

set_option Elab.async false
set_option linter.all false
set_option maxRecDepth 100000
set_option maxHeartbeats 4000000
namespace TS
open PySem PySem.Spec PyProof.Rows
theorem entry_si_iter : entryFor table "set_iterator.__iter__" = some Builtin.«dict_keyiterator.__iter__» := entryFor_alias (id' := "dict_keyiterator.__iter__") (by kernel_rfl) rfl (by decide +kernel) (by kernel_rfl)
theorem args_si_iter (a : Value) : argsOk "set_iterator.__iter__" ⟨[a], []⟩ := by unfold argsOk; kernel_rfl
section
variable {P : Program} {w : World} {A : Around} {E : Value → Shared → Prop} {s : Shared}
theorem si_self {I a : Addr} {f : Value} {i n ep : Nat} {Q : Value → Shared → Prop} (hit : IsSI s.heap I a f i n ep) (h : Q (.ref I) s) : wpAny (model P w) A (pyIter (.ref I)) Q E s := by
  obtain ⟨o, ho, hc, hdo⟩ := id hit
  have hT : s.TypeIs (.ref I) "set_iterator" := ⟨o, ho, hc⟩
  refine wpAny_pyIter_slot hT slot_si_iter (wpAny_call_entry slot_si_iter hT entry_si_iter ?_ (args_si_iter _))
  show wpAny _ _ (ret (.ref I)) _ _ s
  exact wpAny_pure ⟨_, rfl, "set_iterator", _, hT, slot_si_next.lookup, h⟩
theorem IsSI.at {h h' : Heap} {I a : Addr} {f : Value} {i n ep : Nat} (x : IsSI h I a f i n ep) (k : ∀ o, h.get? I = some o → h'.get? I = some o) : IsSI h' I a f i n ep := by
  obtain ⟨o, ho, r⟩ := x
  exact ⟨o, k o ho, r⟩
theorem next_text {a : Addr} {slot i ep : Nat} {u : Obj} {es : Array (Int × Value)} {t : SetTable} (hbt : w.params.followText "set-order" = true) (hu : s.heap.get? a = some u) (hd : u.data = .set es ep t) (hf : t.fits es.size = true)
    {Q' : Option (Value × Nat) → Shared → Prop} (h : Q' (((pickOrder (w.params.setOrder a ep) es)[i]?).map fun e => (e.2, slot)) s) : wpAny (model P w) A (setNext a slot i ep) Q' E s := by
  unfold setNext
  refine wpAny_bind (wpAny_setState_of hu hd hf ?_)
  dsimp only
  unfold setsByText
  refine wpAny_bind (wpAny_bind (wpAny_askSetting (wpAny_pure ?_)))
  show wpAny _ _ (if w.params.followText "set-order" = true then _ else _) _ _ _
  rw [if_pos hbt]
  simp only [bne_self_eq_false, Bool.false_eq_true, ↓reduceIte]
  unfold setWalk
  refine wpAny_bind (wpAny_bind (wpAny_setState_of hu hd hf ?_))
  dsimp only
  unfold setsByText
  refine wpAny_bind (wpAny_bind (wpAny_askSetting (wpAny_pure ?_)))
  show wpAny _ _ (if w.params.followText "set-order" = true then _ else _) _ _ _
  rw [if_pos hbt]
  refine wpAny_bind (wpAny_askSetting (wpAny_pure ?_))
  exact wpAny_pure h
theorem below_eq {xs : Array Nat} {slot i : Nat} (hr : Rise xs.toList) (hi : i ≤ xs.toList.length) (h1 : ∀ k, k < i → xs.toList.getD k 0 < slot) (h2 : ∀ k, i ≤ k → k < xs.toList.length → slot ≤ xs.toList.getD k 0) : SetTable.below xs slot = i := by
  obtain ⟨a0, a1, a2⟩ := below_spec xs slot hr
  by_cases hlt : SetTable.below xs slot < i
  · have b1 := a2 _ (Nat.le_refl _) (by omega)
    have b2 := h1 _ hlt
    omega
  · by_cases hgt : i < SetTable.below xs slot
    · have b1 := a1 i hgt
      have b2 := h2 i (Nat.le_refl _) (by omega)
      omega
    · omega
theorem next_plain {a : Addr} {slot i ep : Nat} {u : Obj} {es : Array (Int × Value)} {t : SetTable} (hbt : w.params.followText "set-order" = false) (hu : s.heap.get? a = some u) (hd : u.data = .set es ep t) (hf : t.fits es.size = true)
    (hl : t.led = true) (hp : t.plain = true ∨ es.size ≤ 1) (hb : SetTable.below t.place slot = i)
    {Q' : Option (Value × Nat) → Shared → Prop} (h : Q' (match es[i]?, t.place[i]? with | some (_, x), some j => some (x, j + 1) | _, _ => none) s) : wpAny (model P w) A (setNext a slot i ep) Q' E s := by
  unfold setNext
  refine wpAny_bind (wpAny_setState_of hu hd hf ?_)
  dsimp only
  unfold setsByText
  refine wpAny_bind (wpAny_bind (wpAny_askSetting (wpAny_pure ?_)))
  show wpAny _ _ (if w.params.followText "set-order" = true then _ else _) _ _ _
  rw [if_neg (by rw [hbt]; decide)]
  split
  · rename_i hdr
    have hdr' : (!t.plain && decide (es.size > 1)) = true := hdr
    rcases hp with hp | hp
    · rw [hp] at hdr'; cases hdr'
    · simp at hdr'; omega
  · refine wpAny_bind ?_
    show wpAny _ _ (if (!t.led && !es.isEmpty) = true then _ else _) _ _ _
    rw [hl]
    simp only [Bool.not_true, Bool.false_and, Bool.false_eq_true, ↓reduceIte]
    refine wpAny_pure ?_
    rw [hb]
    exact wpAny_pure h
theorem moved_next {I : Addr} {h' : Heap} (sb : Heap.SameBut I s.heap h') : Moved [I] (fun a b => b = a) s { s with heap := h' } := ⟨fun b o hb e => by rw [sb.2 b (fun z => hb (by simp [z]))]; exact e, rfl, rfl, rfl, Nat.le_refl _⟩
theorem moved_end {I : Addr} {h' : Heap} (sb : Heap.ExtBut I s.heap h') : Moved [I] (fun a b => b = a) s { s with heap := h' } := ⟨fun b o hb e => sb b o (fun z => hb (by simp [z])) e, rfl, rfl, rfl, Nat.le_refl _⟩
end
theorem walks_text {P : Program} {w : World} {A : Around} (hh : A.handled = none) {I a : Addr} (hne : a ≠ I) {u : Obj} {es : Array (Int × Value)} {ep : Nat} {t : SetTable} (hbt : w.params.followText "set-order" = true) (hd : u.data = .set es ep t) (hf : t.fits es.size = true) (hsz : (pickOrder (w.params.setOrder a ep) es).size = es.size) :
    WalksS P w A I [I, a] [I] (fun a b => b = a) es.size (fun i v => ((pickOrder (w.params.setOrder a ep) es).map (·.2))[i]? = some v) (fun i s => IsSI s.heap I a (.int 0 0) i es.size ep ∧ s.heap.get? a = some u) where
  sub := fun b hb => by simp at hb; simp [hb]
  grefl := fun _ => rfl
  gtrans := fun _ _ _ h1 h2 => h2.trans h1
  frame := fun i s h' tk st _ hk => ⟨st.1.at fun o e => hk I (by simp) o e, hk a (by simp) _ st.2⟩
  item := fun i s Q E hi st hQ => by
    have hx : i < (pickOrder (w.params.setOrder a ep) es).size := by rw [hsz]; exact hi
    have ex : (pickOrder (w.params.setOrder a ep) es)[i]? = some (pickOrder (w.params.setOrder a ep) es)[i] := by simp [hx]
    refine si_next (nx := 0) (x := (pickOrder (w.params.setOrder a ep) es)[i].2) (slot := 0) st.1 st.2 hd hf rfl (fun A' Q' E' q => next_text hbt st.2 hd hf (by rw [ex]; exact q)) fun h' it sb => ?_
    exact hQ _ _ (by simp [ex]) ⟨it, by rw [sb.2 a hne]; exact st.2⟩ (moved_next sb)
  done := fun s Q E st hQ => by
    refine si_end (slot := 0) hh st.1 st.2 hd hf rfl (fun A' Q' E' q => next_text hbt st.2 hd hf (by
      rw [show (pickOrder (w.params.setOrder a ep) es)[es.size]? = none by simp [hsz]]; exact q)) fun h' sb => hQ _ (moved_end sb)
  self := fun i s Q E st hQ => si_self st.1 hQ
theorem walks_plain {P : Program} {w : World} {A : Around} (hh : A.handled = none) {I a : Addr} (hne : a ≠ I) {u : Obj} {es : Array (Int × Value)} {ep : Nat} {t : SetTable} (hbt : w.params.followText "set-order" = false) (hd : u.data = .set es ep t) (hf : t.fits es.size = true) (hl : t.led = true) (hp : t.plain = true ∨ es.size ≤ 1) (hr : Rise t.place.toList) :
    WalksS P w A I [I, a] [I] (fun a b => b = a) es.size (fun i v => (es.map (·.2))[i]? = some v) (fun i s => ∃ slot : Nat, IsSI s.heap I a (.int slot 0) i es.size ep ∧ s.heap.get? a = some u ∧ i ≤ es.size ∧ (∀ k, k < i → t.place.toList.getD k 0 < slot) ∧ ∀ k, i ≤ k → k < t.place.toList.length → slot ≤ t.place.toList.getD k 0) where
  sub := fun b hb => by simp at hb; simp [hb]
  grefl := fun _ => rfl
  gtrans := fun _ _ _ h1 h2 => h2.trans h1
  frame := fun i s h' tk st _ hk => by
    obtain ⟨slot, x1, x2, x3⟩ := st
    exact ⟨slot, x1.at fun o e => hk I (by simp) o e, hk a (by simp) _ x2, x3⟩
  item := fun i s Q E hi st hQ => by
    obtain ⟨slot, x1, x2, x3, x4, x5⟩ := st
    have hpl : t.place.toList.length = es.size := by
      simp only [SetTable.fits, Bool.and_eq_true, beq_iff_eq, decide_eq_true_eq] at hf
      simpa using hf.1
    have hil : i < t.place.toList.length := by omega
    have e1 : es[i]? = some es[i] := by simp [hi]
    have e2 : t.place[i]? = some (t.place.toList.getD i 0) := by
      rw [← Array.getElem?_toList, List.getElem?_eq_getElem hil]
      simp [List.getD, List.getElem?_eq_getElem hil]
    refine si_next (nx := t.place.toList.getD i 0 + 1) (x := es[i].2) (slot := slot) x1 x2 hd hf rfl (fun A' Q' E' q => next_plain hbt x2 hd hf hl hp (below_eq hr (by omega) x4 x5) (by rw [e1, e2]; exact q)) fun h' it sb => ?_
    refine hQ _ _ (by simp [e1]) ⟨_, it, by rw [sb.2 a hne]; exact x2, hi, fun k hk => ?_, fun k hk hk2 => ?_⟩ (moved_next sb)
    · by_cases hki : k = i
      · rw [hki]; omega
      · have := rise_lt hr (show k < i by omega) hil
        omega
    · have := rise_lt hr (show i < k by omega) hk2
      omega
  done := fun s Q E st hQ => by
    obtain ⟨slot, x1, x2, x3, x4, x5⟩ := st
    have hpl : t.place.toList.length = es.size := by
      simp only [SetTable.fits, Bool.and_eq_true, beq_iff_eq, decide_eq_true_eq] at hf
      simpa using hf.1
    refine si_end (slot := slot) hh x1 x2 hd hf rfl (fun A' Q' E' q => next_plain hbt x2 hd hf hl hp (below_eq hr (by omega) x4 x5) (by
      rw [show es[es.size]? = none by simp]; exact q)) fun h' sb => hQ _ (moved_end sb)
  self := fun i s Q E st hQ => by
    obtain ⟨slot, x1, _⟩ := st
    exact si_self x1 hQ
theorem walks_drawn {P : Program} {w : World} {A : Around} (hh : A.handled = none) {I a tp : Addr} (hne : a ≠ I) (hnt : tp ≠ I) {u : Obj} {es : Array (Int × Value)} {ep : Nat} {t : SetTable} (hd : u.data = .set es ep t) (hf : t.fits es.size = true) (pl : List Nat) (hpl : pl.length = es.size) (hin : ∀ x ∈ pl, x < es.size) :
    WalksS P w A I [I, a, tp] [I] (fun a b => b = a) es.size (fun i v => (pl.map fun k => (es.getD k (0, Value.none)).2)[i]? = some v) (fun i s => IsSI s.heap I a (.ref tp) i es.size ep ∧ s.heap.get? a = some u ∧ s.heap.IsTuple tp (pl.map fun (k : Nat) => rawInt k).toArray) where
  sub := fun b hb => by simp at hb; simp [hb]
  grefl := fun _ => rfl
  gtrans := fun _ _ _ h1 h2 => h2.trans h1
  frame := fun i s h' tk st _ hk => ⟨st.1.at fun o e => hk I (by simp) o e, hk a (by simp) _ st.2.1, let ⟨o, ho, r⟩ := st.2.2; ⟨o, hk tp (by simp) o ho, r⟩⟩
  item := fun i s Q E hi st hQ => by
    have hil : i < pl.length := by omega
    have e1 : pl[i]? = some pl[i] := List.getElem?_eq_getElem hil
    have hk := hin _ (List.getElem_mem hil)
    refine si_nextD (pl := pl[i]) (x := es.getD pl[i] (0, Value.none)) (tk := 0) st.1 st.2.1 hd hf rfl st.2.2 (by simp [e1, rawInt]) (by simp [hk, Array.getD]) fun h' it sb => ?_
    refine hQ _ _ (by simp [e1]) ⟨it, by rw [sb.2 a hne]; exact st.2.1, let ⟨o, ho, r⟩ := st.2.2; ⟨o, by rw [sb.2 tp hnt]; exact ho, r⟩⟩ (moved_next sb)
  done := fun s Q E st hQ => si_endD hh st.1 st.2.1 hd hf rfl st.2.2 (by simp [hpl]) fun h' sb => hQ _ (moved_end sb)
  self := fun i s Q E st hQ => si_self st.1 hQ
end TS

set_option Elab.async false
set_option linter.all false
set_option maxRecDepth 100000
set_option maxHeartbeats 4000000
namespace TS
open PySem PySem.Spec PyProof.Rows
theorem erase_perm {α : Type} : ∀ {l : List α} {i : Nat} {x : α}, l[i]? = some x → (x :: l.eraseIdx i).Perm l
  | [], i, x, h => by simp at h
  | y :: l, 0, x, h => by
    have : y = x := by simpa using h
    subst this
    exact List.Perm.refl _
  | y :: l, i + 1, x, h => by
    have ih := erase_perm (l := l) (i := i) (x := x) (by simpa using h)
    rw [List.eraseIdx_cons_succ]
    exact (List.Perm.swap y x _).trans (List.Perm.cons y ih)
theorem pick_go {α : Type} (next : Nat → Nat) : ∀ (fuel k : Nat) (left : List α) (out : Array α), left.length = fuel → (pickOrder.go next fuel k left out).toList.Perm (out.toList ++ left)
  | 0, k, left, out, h => by
    have : left = [] := List.length_eq_zero_iff.mp h
    subst this
    unfold pickOrder.go
    simp
  | fuel + 1, k, left, out, h => by
    unfold pickOrder.go
    have hm : next k % left.length < left.length := Nat.mod_lt _ (by omega)
    rw [List.getElem?_eq_getElem hm]
    dsimp only
    have he := erase_perm (List.getElem?_eq_getElem hm)
    have ih := pick_go next fuel (k + 1) (left.eraseIdx (next k % left.length)) (out.push left[next k % left.length]) (by rw [List.length_eraseIdx_of_lt hm]; omega)
    refine ih.trans ?_
    rw [Array.toList_push, List.append_assoc]
    exact List.Perm.append_left _ he
theorem pick_perm {α : Type} (next : Nat → Nat) (xs : Array α) : (pickOrder next xs).toList.Perm xs.toList := by
  unfold pickOrder
  have := pick_go next xs.size 0 xs.toList #[] (by simp)
  simpa using this
section
variable {P : Program} {w : World} {A : Around} {E : Value → Shared → Prop}
theorem draw_order {α : Type} : ∀ (n : Nat) (xs : List α) (s : Shared) (Q : List α → Shared → Prop), xs.length = n → (∀ ys d, ys.Perm xs → Q ys { s with drawn := d }) → wpAny (model P w) A (drawOrder n xs) Q E s
  | 0, xs, s, Q, h, hQ => by
    have : xs = [] := List.length_eq_zero_iff.mp h
    subst this
    unfold drawOrder
    exact wpAny_pure (hQ [] s.drawn (List.Perm.refl _))
  | n + 1, x :: xs, s, Q, h, hQ => by
    unfold drawOrder
    refine wpAny_bind (wpAny_pick (by simp) ?_)
    have hm : w.draws .order (s.drawn.get .order) % (x :: xs).length < (x :: xs).length := Nat.mod_lt _ (by simp)
    rw [List.getElem?_eq_getElem hm]
    dsimp only
    refine wpAny_bind (draw_order n _ _ _ (by rw [List.length_eraseIdx_of_lt hm]; omega) fun ys d hp => ?_)
    refine wpAny_pure (hQ _ d ?_)
    exact (List.Perm.cons _ hp).trans (erase_perm (List.getElem?_eq_getElem hm))
theorem iter_set {s : Shared} {a : Addr} {u : Obj} {es : Array (Int × Value)} {ep : Nat} {t : SetTable} {Q : Value → Shared → Prop} (hu : s.heap.get? a = some u) (hx : u.ExactSet) (hd : u.data = .set es ep t) (hf : t.fits es.size = true) (ht : TabOk (led0 w) t)
    (hsz : es.size ≤ sizeLine)
    (hQ : ∀ (h' : Heap) (d' : Drawn) (I : Addr) (fp : List Addr) (St : Nat → Shared → Prop) (order : List Value), (∀ b o, s.heap.get? b = some o → h'.get? b = some o) → (∀ b ∈ fp, b < h'.objs.size) → (∀ b ∈ fp, b = a ∨ s.heap.objs.size ≤ b) → I ∈ fp → s.heap.objs.size ≤ I → order.Perm (es.toList.map (·.2)) →
      (∀ A' : Around, A'.handled = none → WalksS P w A' I fp [I] (fun a b => b = a) es.size (fun i v => order[i]? = some v) St) → St 0 { s with heap := h', drawn := d' } → Q (.ref I) { s with heap := h', drawn := d' }) :
    wpAny (model P w) A (pyIter (.ref a)) Q E s := by
  have hT : s.TypeIs (.ref a) "set" := ⟨u, hu, hx.1⟩
  have hlt : a < s.heap.objs.size := Heap.lt_size hu
  refine wpAny_pyIter_slot hT F.slot_set_iter (wpAny_call_entry F.slot_set_iter hT entry_set_iter ?_ (F.args_set_iter_1 _))
  unfold Builtin.«frozenset.__iter__» Builtin.Frozenset.slot0 slotArgs
  simp only [List.isEmpty_nil, Bool.not_true, Bool.false_eq_true, ↓reduceIte, bind_assoc, List.length_nil, bne_self_eq_false]
  unfold Builtin.Frozenset.addrOf Builtin.Frozenset.sizeOf
  refine wpAny_bind (wpAny_pure ?_)
  try dsimp only
  refine wpAny_bind (wpAny_pure ?_)
  refine wpAny_bind (wpAny_bind (wpAny_setEntries_of hu hd hf (wpAny_pure ?_)))
  unfold setDrawn
  refine wpAny_bind (wpAny_bind (wpAny_setState_of hu hd hf ?_))
  dsimp only
  unfold setsByText
  refine wpAny_bind (wpAny_bind (wpAny_askSetting (wpAny_pure ?_)))
  refine wpAny_pure ?_
  show wpAny _ _ (if (!(w.params.followText "set-order") && (!t.plain && decide (es.size > 1))) = true then _ else _) _ _ _
  have oth : ∀ (o1 : Obj) b o, s.heap.get? b = some o → (s.heap.push o1).get? b = some o := fun o1 b o e => Heap.get?_push_of_some _ e
  by_cases hc : (!w.params.followText "set-order" && (!t.plain && decide (es.size > 1))) = true
  · rw [if_pos hc]
    refine wpAny_bind (draw_order _ _ _ _ (by simp) fun ys d hp => ?_)
    refine wpAny_bind ?_
    simp only [newTuple]
    refine wpAny_newObj_type ?_ (by have := hp.length_eq; rw [List.length_range] at this; show (List.toArray _).size ≤ sizeLine; rw [List.size_toArray, List.length_map, this]; exact hsz)
    have hin : ∀ x ∈ ys, x < es.size := fun x hx => by simpa using hp.mem_iff.mp hx
    have hl : ys.length = es.size := by simpa using hp.length_eq
    refine wpAny_bind (wpAny_setEpoch_of (Heap.get?_push_of_some _ hu) hd hf ?_)
    refine wpAny_bind (wpAny_newObj_type ?_)
    refine wpAny_pure ⟨_, rfl, "set_iterator", _, ⟨_, Heap.get?_push_size _ rfl, rfl⟩, slot_si_next.lookup, ?_⟩
    have sz1 : (s.heap.push { cls := .type "tuple", data := .seq (ys.map fun (i : Nat) => rawInt i).toArray }).objs.size = s.heap.objs.size + 1 := by simp [Heap.size_push]
    refine hQ _ d _ [_, a, s.heap.objs.size] _ (ys.map fun k => (es.getD k (0, Value.none)).2) (fun b o e => Heap.get?_push_of_some _ (Heap.get?_push_of_some _ e)) ?_ ?_ (by simp) (by rw [sz1]; exact Nat.le_succ _) ?_ (fun A' ha => walks_drawn (u := u) (t := t) (ep := ep) ha (I := _) (a := a) (tp := s.heap.objs.size) (by rw [sz1]; exact Nat.ne_of_lt (Nat.lt_succ_of_lt hlt)) (by rw [sz1]; exact Nat.ne_of_lt (Nat.lt_succ_self _)) hd hf ys hl hin) ⟨⟨_, Heap.get?_push_size _ rfl, rfl, rfl⟩, Heap.get?_push_of_some _ (Heap.get?_push_of_some _ hu), ⟨_, Heap.get?_push_of_some _ (Heap.get?_push_size _ rfl), rfl, _, rfl⟩⟩
    · intro b hb
      simp only [List.mem_cons, List.not_mem_nil, or_false] at hb
      rw [Heap.size_push]
      rcases hb with e | e | e
      · rw [e]; exact Nat.lt_succ_self _
      · rw [e, sz1]; exact Nat.lt_succ_of_lt (Nat.lt_succ_of_lt hlt)
      · rw [e, sz1]; exact Nat.lt_succ_of_lt (Nat.lt_succ_self _)
    · intro b hb
      simp only [List.mem_cons, List.not_mem_nil, or_false] at hb
      rcases hb with e | e | e
      · right; rw [e, sz1]; exact Nat.le_succ _
      · exact .inl e
      · right; rw [e]; exact Nat.le_refl _
    · refine (List.Perm.map _ hp).trans ?_
      have : (List.range es.size).map (fun k => (es.getD k (0, Value.none)).2) = es.toList.map (·.2) := by
        apply List.ext_getElem?
        intro i
        rw [List.getElem?_map, List.getElem?_map]
        by_cases hi : i < es.size
        · rw [List.getElem?_range hi, Array.getElem?_toList]
          simp [Array.getD, hi]
        · rw [List.getElem?_eq_none (by simpa using hi), List.getElem?_eq_none (by simpa using hi)]
          rfl
      rw [this]
  · rw [if_neg hc]
    refine wpAny_bind (wpAny_pure ?_)
    refine wpAny_bind (wpAny_setEpoch_of hu hd hf ?_)
    refine wpAny_bind (wpAny_newObj_type ?_)
    refine wpAny_pure ⟨_, rfl, "set_iterator", _, ⟨_, Heap.get?_push_size _ rfl, rfl⟩, slot_si_next.lookup, ?_⟩
    have bnd : ∀ (o1 : Obj), ∀ b ∈ [s.heap.objs.size, a], b < (s.heap.push o1).objs.size := fun o1 b hb => by
      simp only [List.mem_cons, List.not_mem_nil, or_false] at hb
      rw [Heap.size_push]
      rcases hb with e | e
      · rw [e]; exact Nat.lt_succ_self _
      · rw [e]; exact Nat.lt_succ_of_lt hlt
    have bnd2 : ∀ b ∈ [s.heap.objs.size, a], b = a ∨ s.heap.objs.size ≤ b := fun b hb => by
      simp only [List.mem_cons, List.not_mem_nil, or_false] at hb
      rcases hb with e | e
      · right; rw [e]; exact Nat.le_refl _
      · exact .inl e
    cases hbt : w.params.followText "set-order" with
    | true =>
      have hps : (pickOrder (w.params.setOrder a ep) es).size = es.size := by
        have := (pick_perm (w.params.setOrder a ep) es).length_eq
        simpa using this
      have hw : ∀ A' : Around, A'.handled = none → WalksS P w A' s.heap.objs.size [s.heap.objs.size, a] [s.heap.objs.size] (fun a b => b = a) es.size (fun i v => ((pickOrder (w.params.setOrder a ep) es).toList.map (·.2))[i]? = some v) _ := fun A' ha => by
        have := walks_text (P := P) (u := u) (t := t) ha (I := s.heap.objs.size) (a := a) (Nat.ne_of_lt hlt) hbt hd hf hps
        simpa using this
      exact hQ _ s.drawn _ [_, a] _ ((pickOrder (w.params.setOrder a ep) es).toList.map (·.2)) (fun b o e => Heap.get?_push_of_some _ e) (bnd _) bnd2 (by simp) (Nat.le_refl _) (List.Perm.map _ (pick_perm _ _)) hw ⟨⟨_, Heap.get?_push_size _ rfl, rfl, rfl⟩, Heap.get?_push_of_some _ hu⟩
    | false =>
      have hp : t.plain = true ∨ es.size ≤ 1 := by
        rw [hbt] at hc
        simp at hc
        cases hpl : t.plain with
        | true => exact .inl rfl
        | false => exact .inr (hc hpl)
      have hl : t.led = true := by rw [ht.led]; unfold led0; rw [hbt]; rfl
      have hr : Rise t.place.toList := by
        rcases hp with hp | hp
        · exact ht.rise hp
        · simp only [SetTable.fits, Bool.and_eq_true, beq_iff_eq, decide_eq_true_eq] at hf
          have hle : t.place.toList.length ≤ 1 := by simp [hf.1]; exact hp
          match t.place.toList, hle with
          | [], _ => exact List.Pairwise.nil
          | [x], _ => exact List.pairwise_singleton _ _
      have hw : ∀ A' : Around, A'.handled = none → WalksS P w A' s.heap.objs.size [s.heap.objs.size, a] [s.heap.objs.size] (fun a b => b = a) es.size (fun i v => (es.toList.map (·.2))[i]? = some v) _ := fun A' ha => by
        have := walks_plain (P := P) (u := u) (t := t) (ep := ep) ha (I := s.heap.objs.size) (a := a) (Nat.ne_of_lt hlt) hbt hd hf hl hp hr
        simpa using this
      exact hQ _ s.drawn _ [_, a] _ (es.toList.map (·.2)) (fun b o e => Heap.get?_push_of_some _ e) (bnd _) bnd2 (by simp) (Nat.le_refl _) (List.Perm.refl _) hw ⟨0, ⟨_, Heap.get?_push_size _ rfl, rfl, rfl⟩, Heap.get?_push_of_some _ hu, Nat.zero_le _, fun k hk => by omega, fun k _ _ => Nat.zero_le _⟩
end
end TS

set_option Elab.async false
set_option linter.all false
set_option maxRecDepth 100000
set_option maxHeartbeats 4000000
namespace TS
open PySem PySem.Spec PyProof.Rows
section
variable {P : Program} {w : World} {A : Around} {E : Value → Shared → Prop} {s : Shared}
theorem split_len : splitId "set.__len__" = some ("set", "__len__") := by decide +kernel
theorem ints_of {es : List (Int × Value)} (h : ElemsOf (intKind P w) es) {vs : List Value} (hp : vs.Perm (es.map (·.2))) : ∃ ns, IntsAre vs ns := by
  have hv : ∀ v ∈ vs, ∃ k t, v = .int k t := fun v hv => by
    obtain ⟨e, he, rfl⟩ := List.mem_map.mp (hp.mem_iff.mp hv)
    obtain ⟨⟨k, hk, _⟩, _⟩ := h e he
    cases hx : e.2 with
    | int i t => exact ⟨i, t, rfl⟩
    | _ => rw [hx] at hk; simp [intKind, Value.isInt] at hk
  clear hp
  induction vs with
  | nil => exact ⟨[], .nil⟩
  | cons v vs ih =>
    obtain ⟨k, t, rfl⟩ := hv v List.mem_cons_self
    obtain ⟨ns, h2⟩ := ih fun x hx => hv x (List.mem_cons_of_mem _ hx)
    exact ⟨k :: ns, .cons k t h2⟩
theorem ite_wp {α : Type} {c : Bool} {x y : Sem α} {Q : α → Shared → Prop} (hc : c = true) (h : wpAny (model P w) A x Q E s) : wpAny (model P w) A (if c = true then x else y) Q E s := by
  rw [if_pos hc]; exact h
theorem collect_set {a : Addr} {u : Obj} {es : Array (Int × Value)} {ep : Nat} {t : SetTable} {Q : List Value → Shared → Prop} (hh : A.handled = none) (hu : s.heap.get? a = some u) (hx : u.ExactSet) (hd : u.data = .set es ep t) (hf : t.fits es.size = true) (ht : TabOk (led0 w) t) (hsz : es.size < scanBound)
    (hQ : ∀ (h' : Heap) (d' : Drawn) (tk : Nat) (vs : List Value), s.heap.objs.size ≤ h'.objs.size → (∀ b o, s.heap.get? b = some o → h'.get? b = some o) → vs.Perm (es.toList.map (·.2)) → Q vs { s with heap := h', drawn := d', toks := tk }) : wpAny (model P w) A (collect (.ref a)) Q E s := by
  have hz : es.size ≤ sizeLine := fits_of_scanBound hsz
  have hlt : a < s.heap.objs.size := Heap.lt_size hu
  unfold collect
  refine wpAny_bind (wpAny_runValue (codeAny_builtin F.entry_proto_collect ?_))
  rw [Around.under_plainId F.plain_proto_collect _]
  show wpAny _ A.in1 (newList [] >>= fun l => again (.builtin "list.__iadd__" ⟨[l, .ref a], []⟩)) _ _ s
  refine wpAny_bind (wpAny_newObj_type ?_)
  refine wpAny_pure ⟨plainId_quiet F.plain_list_iadd _, codeAny_builtin F.entry_list_iadd ?_⟩
  rw [Around.under_plainId F.plain_list_iadd _]
  show wpAny _ A.in1 (Builtin.List.listExtendWith (.ref s.heap.objs.size) (.ref a) (.ref s.heap.objs.size)) _ _ _
  generalize hs1 : ({ s with heap := s.heap.push { cls := .type "list", data := .seq ([] : List Value).toArray } } : Shared) = s1
  have hz1 : s1.heap.objs.size = s.heap.objs.size + 1 := by rw [← hs1]; simp [Heap.size_push]
  have old1 : ∀ b o, s.heap.get? b = some o → s1.heap.get? b = some o := fun b o e => by rw [← hs1]; exact Heap.get?_push_of_some _ e
  have hu1 : s1.heap.get? a = some u := by rw [← hs1]; exact Heap.get?_push_of_some _ hu
  have hT : s1.TypeIs (.ref a) "set" := ⟨u, hu1, hx.1⟩
  have hL1 : s1.heap.get? s.heap.objs.size = some { cls := .type "list", data := .seq ([] : List Value).toArray } := by rw [← hs1]; exact Heap.get?_push_size _ rfl
  unfold Builtin.List.listExtendWith
  refine wpAny_bind (wpAny_typeOf hT ?_)
  have n1 : Builtin.List.listSameRef (.ref s.heap.objs.size) (.ref a) = false := by
    simp [Builtin.List.listSameRef]
    exact Nat.ne_of_gt hlt
  have n2 : (Value.type "set" == Value.type "list") = false := by decide
  have n3 : (Value.type "set" == Value.type "tuple") = false := by decide
  simp only [n1, n2, n3, Bool.or_false, Bool.false_eq_true, if_false]
  refine wpAny_bind (iter_set hu1 hx hd hf ht hz fun h' d' I fp St order k1 k2 k6 k3 k4 k5 W st => ?_)
  have hT2 : Shared.TypeIs { s1 with heap := h', drawn := d' } (.ref a) "set" := ⟨u, k1 _ _ hu1, hx.1⟩
  have hL2 := k1 _ _ hL1
  refine wpAny_bind (wpAny_holding ?_)
  unfold Builtin.List.listLengthHint
  refine wpAny_bind (wpAny_specialOf hT2 F.slot_set_len.lookup ?_)
  dsimp only
  rw [split_len]
  dsimp only
  refine wpAny_bind (wpAny_isInstance hT2 sub_set_self ?_)
  rw [if_neg (by decide)]
  refine ite_wp (by decide +kernel) ?_
  refine wpAny_bind (wpAny_typeOf hT2 ?_)
  dsimp only
  refine wpAny_pure ?_
  refine ite_wp (by decide +kernel) ?_
  · · refine wpAny_bind (wpAny_rule ?_)
      refine wpAny_bind ?_
      show wpAny _ A.in1 (updateSeq s.heap.objs.size (·.push .none) >>= fun _ => updateSeq s.heap.objs.size (·.pop)) _ _ _
      refine wpAny_bind (wpAny_updateSeq hL2 rfl ?_)
      have hL3 := Heap.get?_update_self (Obj.mapSeq (·.push Value.none)) hL2 rfl
      refine wpAny_updateSeq hL3 rfl ?_
      have hL4 := Heap.get?_update_self (Obj.mapSeq (·.pop)) hL3 rfl
      have hSf : s.heap.objs.size ∉ fp := fun hm => by
        rcases k6 _ hm with e | e
        · exact Nat.ne_of_gt hlt e
        · rw [hz1] at e; exact Nat.not_succ_le_self _ e
      have oth : ∀ b o, b ≠ s.heap.objs.size → h'.get? b = some o → ((h'.update s.heap.objs.size (Obj.mapSeq (·.push Value.none))).update s.heap.objs.size (Obj.mapSeq (·.pop))).get? b = some o :=
        fun b o hb e => (Heap.get?_update_other _ _ (Ne.symm hb)).trans ((Heap.get?_update_other _ _ (Ne.symm hb)).trans e)
      refine wpAny_pure ⟨plainId_quiet F.plain_extend_loop _, codeAny_extend_loopS (W A.in1 (by simp [hh])) hz _ hSf _ es.size 0 _ _ _ rfl (Nat.zero_le _) ((W A.in1 (by simp [hh])).frame 0 ({ s1 with heap := h', drawn := d' } : Shared) _ s1.toks st (Nat.le_refl _) fun b hb o e => oth b o (fun z => hSf (z ▸ hb)) e) hL4 (ItemsOf.nil _) fun s' acc c m hS' hacc => ?_⟩
      show wpAny _ A (load s.heap.objs.size >>= _) _ _ s'
      refine wpAny_bind (wpAny_load hS' ?_)
      refine wpAny_pure ?_
      have hol : order.length = es.size := by simpa using k5.length_eq
      have eacc : acc.toList = order := by
        apply List.ext_getElem?
        intro j
        by_cases hj : j < acc.size
        · have e1 : acc[j]? = some acc[j] := by simp [hj]
          rw [Array.getElem?_toList, e1, hacc.2 j _ e1]
        · rw [List.getElem?_eq_none (by simpa using hj), List.getElem?_eq_none (by rw [hol, ← hacc.1]; omega)]
      obtain ⟨h2, g2, d2, t2, o2⟩ := s'
      have eg : g2 = s1.gens := m.gens
      have ed : d2 = d' := m.drawn
      have eo : o2 = s1.os := m.os
      subst eg ed eo
      have q := hQ h2 d2 t2 acc.toList (Nat.le_of_lt (Heap.lt_size hS')) (fun b o e => m.heap b o (fun hb => by
        simp only [List.mem_cons, List.not_mem_nil, or_false] at hb
        have hb0 := Heap.lt_size e
        rcases hb with z | z
        · rw [z] at hb0; exact Nat.lt_irrefl _ hb0
        · rw [hz1] at k4; rw [z] at hb0; exact Nat.lt_irrefl _ (Nat.lt_of_lt_of_le hb0 (Nat.le_of_succ_le k4))) (oth b o (fun z => by
          have hb0 := Heap.lt_size e
          rw [z] at hb0; exact Nat.lt_irrefl _ hb0) (k1 b o (old1 b o e)))) (by rw [eacc]; exact k5)
      rw [← hs1]
      exact q
end
end TS

set_option Elab.async false
set_option linter.all false
set_option maxRecDepth 100000
set_option maxHeartbeats 4000000
namespace TS
open PySem PySem.Spec PyProof.Rows
section
variable {P : Program} {w : World} {A : Around} {E : Value → Shared → Prop} {s : Shared}
theorem sorted_set {a : Addr} {u : Obj} {es : Array (Int × Value)} {ep : Nat} {t : SetTable} {Q : Value → Shared → Prop} (hh : A.handled = none) (hu : s.heap.get? a = some u) (hx : u.ExactSet) (hd : u.data = .set es ep t) (hf : t.fits es.size = true) (ht : TabOk (led0 w) t) (hel : ElemsOf (intKind P w) es.toList) (h64 : es.size < 64)
    (h : ∀ (h' : Heap) (d' : Drawn) (tk : Nat) (p : Addr) (vs : List Value) (ns : List Int) (out : List Value) (ms : List Int) (e : Nat), (∀ b o, s.heap.get? b = some o → h'.get? b = some o) → s.heap.objs.size ≤ p → vs.Perm (es.toList.map (·.2)) → IntsAre vs ns → h'.get? p = some { cls := .type "list", data := .seq out.toArray e } → IntsAre out ms → ms.Perm ns → ms.Pairwise (· ≤ ·) → Q (.ref p) { s with heap := h', drawn := d', toks := tk }) :
    wpAny (model P w) A (call (.builtin "sorted") [.ref a]) Q E s := by
  refine Calls.call_function_entry kind_sorted plain_sorted entry_sorted (args_sorted1 _) ?_
  unfold Builtin.«sorted»
  refine wpAny_bind (m := checkCount "sorted" 1 1 _) (wpAny_pure ?_)
  refine wpAny_bind (collect_set (by simp [hh]) hu hx hd hf ht (by unfold scanBound; omega) fun h' d' tk vs k0 k1 k2 => ?_)
  obtain ⟨ns, hI⟩ := ints_of hel k2
  have hl : vs.length < 64 := by have := k2.length_eq; simp at this; omega
  refine wpAny_bind (wpAny_newList ?_)
  have hoL : (h'.push (seqObj "list" vs.toArray 0)).get? h'.objs.size = some (seqObj "list" vs.toArray 0) := Heap.get?_push_size _ rfl
  refine wpAny_bind (wpAny_holding (wpAny_call_entry slot_list_sort ⟨_, hoL, rfl⟩ entry_list_sort (list_sort_tree hoL hI hl fun out ms a1 a2 a3 => ⟨_, rfl, ?_⟩) (args_list_sort _)))
  obtain ⟨e, he⟩ := sortedHeap_at (out := out) hoL
  refine wpAny_pure ⟨_, rfl, h _ d' tk h'.objs.size vs ns out.toList ms e (fun b o hb => ?_) ?_ k2 hI (by simpa [seqObj] using he) a1 a2 a3⟩
  · have hb' := k1 b o hb
    have hlt := Heap.lt_size hb'
    rw [sortedHeap_old (Nat.ne_of_lt hlt) (by rw [size_push']; exact Nat.lt_succ_of_lt hlt)]
    exact Heap.get?_push_of_some _ hb'
  · exact k0
end
end TS
namespace L2
open PySem PySem.Spec PyProof.Rows
def SetX (P : Program) (w : World) (p : Addr) (ns : List Int) : Heap → Prop := fun h => ∃ (S : Int → Bool) (n : Nat), TS.SetT P w (TS.led0 w) h p S n ∧ (∀ k, S k = true ↔ k ∈ ns) ∧ n ≤ ns.length ∧ n = (ns.foldl step_dedup []).length
section
variable {X : Cx}
theorem any_mem (l : List Int) (k : Int) : (l.any (· == k)) = true ↔ k ∈ l := by
  rw [List.any_eq_true]
  exact ⟨fun ⟨x, h1, h2⟩ => by rw [← beq_iff_eq.mp h2]; exact h1, fun h => ⟨k, h, by simp⟩⟩
theorem setX_of {h : Heap} {p : Addr} {ns : List Int} {m : Nat} (hm : m = ns.length) (hS : TS.SetT X.prog X.w (TS.led0 X.w) h p (fun k' => (firstMet (fun i => ns.getD i 0) m).any (· == k')) (firstMet (fun i => ns.getD i 0) m).length) : SetX X.prog X.w p ns h := by
  subst hm
  refine ⟨_, _, hS, fun k => ?_, firstMet_length_le _ _, ?_⟩
  · rw [firstMet_any, map_getD]
    exact any_mem ns k
  · unfold firstMet
    rw [map_getD]
theorem setX_ok {H : Hp} {h : Heap} {p : Addr} {ns : List Int} (hx : SetX X.prog X.w p ns h) : ObjOk X.prog X.w (upd H p (.ext (SetX X.prog X.w p ns))) h p (.ext (SetX X.prog X.w p ns)) := by
  refine ⟨hx, ?_, fun h1 h2 q k => ?_⟩
  · obtain ⟨_, _, ⟨o, _, _, _, ho, _⟩, _⟩ := hx
    exact ⟨o, ho⟩
  · obtain ⟨S, n, T, r⟩ := q
    exact ⟨S, n, T.at k, r⟩
theorem call_setX (hc : X.calm = true) : CallR X (.type "set") (fun xs H Q => ∃ (a : Addr) (ns : List Int), xs = [.ref a] ∧ (SqL X.K H a (ns.map V.int) ∨ SqT X.K H a (ns.map V.int)) ∧ ns.length < 4000 ∧ ∀ p, H p = none → Q (.ref p) (upd H p (.ext (SetX X.prog X.w p ns)))) := by
  intro pins s σ H xs us Q I r h
  obtain ⟨a, ns, rfl, ha, hl, q⟩ := h
  obtain ⟨u, rfl, ru⟩ := vals1 r
  cases ru
  rcases ha with ha | ha
  · obtain ⟨its, rv, p, _⟩ := I.list ha
    have hn : its.toArray.size = ns.length := by
      have e := rv.length
      rw [List.length_map] at e
      simpa using e.symm
    refine TS.set_of_lst (its := its.toArray) (ns := ns) (I.ok.hd hc) p.isList (by simpa using intsAre_of rv) (by rw [hn]; show ns.length + 1 < 4096; omega) fun h' tk hS hk => ?_
    exact ⟨.ref _, _, I.laid (t' := tk) (fun b o e => hk b o (Heap.lt_size e) e) (Nat.le_refl _) (setX_ok (setX_of hn hS)), rfl, q _ (I.hok.fresh (Nat.le_refl _))⟩
  · obtain ⟨its, rv, p, _⟩ := I.tuple ha
    have hn : its.toArray.size = ns.length := by
      have e := rv.length
      rw [List.length_map] at e
      simpa using e.symm
    refine TS.set_of_tup (its := its.toArray) (ns := ns) (I.ok.hd hc) p (by simpa using intsAre_of rv) (by rw [hn]; show ns.length + 1 < 4096; omega) fun h' tk hS hk => ?_
    exact ⟨.ref _, _, I.laid (t' := tk) (fun b o e => hk b o (Heap.lt_size e) e) (Nat.le_refl _) (setX_ok (setX_of hn hS)), rfl, q _ (I.hok.fresh (Nat.le_refl _))⟩
theorem vals_of_ints : ∀ {out : List Value} {ms : List Int}, IntsAre out ms → Vals (ms.map V.int) out
  | _, _, .nil => .nil
  | _, _, .cons n t h => .cons ⟨t, rfl⟩ (vals_of_ints h)
theorem dedup_nodup : ∀ (ns acc : List Int), acc.Nodup → (ns.foldl step_dedup acc).Nodup
  | [], acc, h => h
  | n :: ns, acc, h => by
    refine dedup_nodup ns _ ?_
    unfold step_dedup
    split
    · exact h
    · rename_i hn
      rw [Bool.not_eq_true] at hn
      refine List.nodup_append.mpr ⟨h, by simp, fun a ha b hb => ?_⟩
      have : b = n := by simpa using hb
      subst this
      intro e
      subst e
      rw [(any_mem acc a).mpr ha] at hn
      cases hn
theorem ints_mem : ∀ {vs : List Value} {ns : List Int}, IntsAre vs ns → ∀ k, k ∈ ns ↔ ∃ t, Value.int k t ∈ vs
  | _, _, .nil, k => by simp
  | _, _, .cons n t h, k => by
    rw [List.mem_cons, ints_mem h k]
    constructor
    · rintro (e | ⟨t', h'⟩)
      · subst e; exact ⟨t, List.mem_cons_self⟩
      · exact ⟨t', List.mem_cons_of_mem _ h'⟩
    · rintro ⟨t', h'⟩
      rcases List.mem_cons.mp h' with e | h'
      · injection e with e _; exact .inl e
      · exact .inr ⟨t', h'⟩
theorem sub_len : ∀ {m l : List Int}, m.Nodup → (∀ k, k ∈ m → k ∈ l) → m.length ≤ l.length
  | [], l, _, _ => Nat.zero_le _
  | x :: m, l, h, hk => by
    obtain ⟨h1, h2⟩ := List.nodup_cons.mp h
    have hx := hk x List.mem_cons_self
    have ih := sub_len (m := m) (l := l.erase x) h2 fun k hm => (List.mem_erase_of_ne (fun (e : k = x) => h1 (by rw [← e]; exact hm))).mpr (hk k (List.mem_cons_of_mem _ hm))
    rw [List.length_erase_of_mem hx] at ih
    have := List.length_pos_of_mem hx
    rw [List.length_cons]
    omega
theorem nodup_of_len : ∀ {l m : List Int}, m.Nodup → (∀ k, k ∈ m ↔ k ∈ l) → l.length ≤ m.length → l.Nodup
  | [], m, _, _, _ => List.nodup_nil
  | a :: r, m, hm, hk, hl => by
    have ha : a ∉ r := fun h => by
      have := sub_len hm fun k h' => (List.mem_cons.mp ((hk k).mp h')).elim (fun e => e ▸ h) id
      rw [List.length_cons] at hl
      omega
    have ham : a ∈ m := (hk a).mpr List.mem_cons_self
    refine List.nodup_cons.mpr ⟨ha, nodup_of_len (m := m.erase a) (hm.erase a) (fun k => ?_) ?_⟩
    · rw [hm.mem_erase_iff, hk k, List.mem_cons]
      constructor
      · rintro ⟨h1, h2 | h2⟩
        · exact absurd h2 h1
        · exact h2
      · intro h
        exact ⟨fun e => ha (e ▸ h), .inr h⟩
    · rw [List.length_erase_of_mem ham]
      rw [List.length_cons] at hl
      omega
theorem call_sortedX (hc : X.calm = true) : CallR X (.builtin "sorted") (fun xs H Q => ∃ (p : Addr) (ns : List Int), xs = [.ref p] ∧ H p = some (.ext (SetX X.prog X.w p ns)) ∧ ns.length < 64 ∧
    ∀ (l : Addr) (ms : List Int), H l = none → ms.Pairwise (· < ·) → (∀ k, k ∈ ms ↔ k ∈ ns) → Q (.ref l) (upd H l (.lst (ms.map V.int)))) := by
  intro pins s σ H xs us Q I r h
  obtain ⟨p, ns, rfl, hp, hl, q⟩ := h
  obtain ⟨v, rfl, rv⟩ := vals1 r
  cases rv
  obtain ⟨⟨S, n, ⟨u, es, ep, t, hu, hx, hd, hel, hmem, hb, hf, hn, ht⟩, hS, hnl, hnd⟩, _⟩ := I.hok p _ hp
  refine TS.sorted_set (I.ok.hd hc) hu hx hd hf ht hel (by omega) fun h' d' tk l vs ks out ms e k1 k2 k3 k4 k5 k6 k7 k8 => ?_
  have hmem' : ∀ k, k ∈ ms ↔ k ∈ ns := fun k => by
    rw [k7.mem_iff, ints_mem k4 k, ← hS k, hmem k]
    constructor
    · rintro ⟨t', ht'⟩
      obtain ⟨x, hx1, hx2⟩ := List.mem_map.mp (k3.mem_iff.mp ht')
      exact ⟨x, hx1, by rw [hx2]; exact intKind_is _ _ _ _⟩
    · rintro ⟨x, hx1, hx2⟩
      obtain ⟨i, t', e'⟩ : ∃ i t', x.2 = .int i t' := by
        cases hv : x.2 with
        | int i t' => exact ⟨i, t', rfl⟩
        | _ => rw [hv] at hx2; simp [intKind, Value.isInt] at hx2
      have hik : k = i := (intKind X.prog X.w).inj (.int i t') k i (by rw [← e']; exact hx2) (intKind_is _ _ _ _)
      subst hik
      exact ⟨t', k3.mem_iff.mpr (List.mem_map.mpr ⟨x, hx1, e'⟩)⟩
  have hnod : ms.Nodup := by
    have hdd := dedup_nodup ns [] List.nodup_nil
    refine nodup_of_len hdd (fun k => ?_) ?_
    · rw [hmem' k, ← any_mem, ← any_mem]
      have := firstMet_any (fun i => ns.getD i 0) ns.length k
      unfold firstMet at this
      rw [map_getD] at this
      rw [this]
    · rw [← hnd, ← hn]
      have e1 := k7.length_eq
      have e2 := k4.length
      have e3 := k3.length_eq
      simp at e3
      omega
  have hlt : ms.Pairwise (· < ·) := by
    have := List.pairwise_and_iff.mpr ⟨k8, hnod⟩
    exact this.imp fun ⟨a, b⟩ => by omega
  have J := I.laid (t' := tk) (a := l) (o := .lst (ms.map V.int)) k1 k2 ⟨by
    rw [List.length_map, sizeLine_eq]
    have e1 := k7.length_eq
    have e2 := k4.length
    have e3 := k3.length_eq
    simp at e3
    omega, out, e, vals_of_ints k6, k5⟩
  exact ⟨.ref l, _, J.call' (s' := { s with heap := h', drawn := d', toks := tk }) (ch := []) rfl Un.refl J.hok J.bare (fun b hb => by cases hb), rfl, q l ms (I.hok.fresh k2) hlt hmem'⟩
end
end L2

set_option Elab.async false
set_option linter.all false
set_option maxRecDepth 100000
set_option maxHeartbeats 4000000
namespace L2
open PySem PySem.Spec PyProof.Rows
section
variable {X : Cx}
theorem ps_comp {el tg src : Expr} {tests : List Expr} {sc : Scope} {ps pos pos' : Pos} {N : List Str} {nt : Nat} {cap : List Nat} {wi : TI} {g : TG} {tf : TT} {te : TE} {i0 : Nat} {x0 : Str} (hN0 : X.N.Nodup) (hi0 : X.N[i0]? = some x0) (hx0 : Loc X.env.scope x0) (hc : X.calm = true) (S : CScope X sc N nt cap) (hgo : GOk g nt) (hi : PI X tg src wi)
    (hY : ∀ (cl : List (Str × Addr)) (C : Addr) (s : Shared) (H : Hp) (ex : List Addr) (pn : List (Addr × Obj)), PG (cxC X N sc cl C s H ex pn) tg g ∧ PF (cxC X N sc cl C s H ex pn) tests tf ∧ PE (cxC X N sc cl C s H ex pn) el te)
    (hs : ∀ x, foldedSetIterable src X.env x = pure x := by intro _; rfl)
    (hsw : swapsWith (.ListComp el [⟨tg, src, tests, 0⟩] sc ps) (some (.Name x0 pos')) pos.line X.env = pure true := by rfl)
    (hf0 : X.fn x0 = true ∨ X.env.scope.names.lookup x0 = some .local := by first | exact .inl rfl | exact .inr rfl | assumption) : PS X (.Assign [.Name x0 pos'] (.ListComp el [⟨tg, src, tests, 0⟩] sc ps) pos) (tAsg (tComp wi nt cap g tf te) (gName i0)) := by
  intro pins s σ H D0 I h
  obtain ⟨cl, hclos, hcl⟩ := clo_of (env := X.env) (sc := sc) fun n hn => I.ok.has n (S.frees _ hn rfl).2
  rw [exec_Assign_Name_used _ _ _ _ hsw]
  refine wpAny_bind (wpAny_standAt (wpAny_bind ?_))
  obtain ⟨Q, hQ⟩ : ∃ Q : VK, Q = fun v H1 => gName i0 v σ H1 D0.nx := ⟨_, rfl⟩
  have h : tComp wi nt cap g tf te σ H Q := by rw [hQ]; exact h
  have hQ' : ∀ v H1, Q v H1 → D0.nx (σ.set i0 (some v)) H1 := fun v H1 q => by rw [hQ] at q; exact q
  unfold evalThenUse
  refine wpAny_bind (wpAny_mono (Q := fun _ s' => SP X pins D0 .next s') ?_ (fun _ s' q => wpAny_pure (wpAny_pure q)) (fun _ _ z => z))
  refine wpAny_comprehension_free (use := some (assign (.Name x0 pos') X.env)) rfl hs hclos S.kind S.names (thn (hi pins s σ H _ I h) fun xv s1 h1 => thn h1 fun itv s2 h2 => ?_)
  obtain ⟨it, fp, tn, J, H2, e, I2, T, st2, f2, W, ⟨m0, w0⟩, turn⟩ := h2
  subst e
  refine wpAny_newObj_type (wpAny_newFunctionEnv S.nocell (by intro y hy; simp at hy) (fun h3 hns3 hsb3 => ?_) S.kind)
  dsimp only at hns3 hsb3 ⊢
  generalize hD : s2.heap.objs.size = D at hns3 hsb3 ⊢
  generalize hG : s2.heap.push { cls := .type "list", dict := none, data := .seq ([] : List Value).toArray } = G at hns3 hsb3 ⊢
  generalize hCe : G.objs.size = C at hns3 hsb3 ⊢
  have hC : C = D + 1 := by rw [← hCe, ← hG, Heap.size_push, hD]
  have hDC : D ≠ C := by omega
  have hDle : s2.heap.objs.size ≤ D := Nat.le_of_eq hD
  have hCle : s2.heap.objs.size ≤ C := by omega
  have old : ∀ b o, s2.heap.get? b = some o → h3.get? b = some o := fun b o e => hsb3.extBut b o (Nat.ne_of_lt (Nat.lt_of_lt_of_le (Heap.lt_size e) hCle)) (Heap.get?_push_of_some _ (hG ▸ Heap.get?_push_of_some _ e))
  have hacc : h3.PlainList D #[] := ⟨_, hsb3.extBut _ _ hDC (Heap.get?_push_of_some _ (hG ▸ hD ▸ Heap.get?_push_size _ rfl))⟩
  have hfs : ∀ b ∈ fp, b < s2.heap.objs.size := fun b hb => by
    obtain ⟨o, e, _⟩ := T.obj _ _ st2 b hb
    exact Heap.lt_size e
  have IB := I2.block (t' := s2.toks + ([] : List (Str × Value)).length) S hcl f2 hfs old hCle ⟨_, hns3⟩
  have hDs : D ∉ frs X.stack := fun z => by
    rcases List.mem_cons.mp (I2.stkSub D z) with e | e
    · exact absurd (Nat.lt_of_lt_of_le I2.lt hDle) (by rw [e]; exact Nat.lt_irrefl _)
    · exact I2.nofs hDle e
  have hDf : D ∉ fp := fun z => absurd (Nat.lt_of_lt_of_le (hfs D z) hDle) (Nat.lt_irrefl _)
  have hDcell : ∀ x c, cl.lookup x = some c → c ≠ D := fun x c e z => by
    obtain ⟨v, o, ho, _⟩ := I2.cell x c ((hcl x c).mp e).2
    exact absurd (Nat.lt_of_lt_of_le (Heap.lt_size ho) (by rw [z]; exact hDle)) (Nat.lt_irrefl _)
  have hDpin : ∀ p ∈ X.pn ++ pins, p.1 ≠ D := fun p hp z => absurd (Nat.lt_of_lt_of_le (Heap.lt_size (I2.pin p hp).1) (by rw [z]; exact hDle)) (Nat.lt_irrefl _)
  generalize hYe : cxC X N sc cl C s2 H2 fp (X.pn ++ pins) = Y at IB
  have fpY : ∀ {H' : Hp} {pl : List (Addr × Obj)}, (∀ b ∈ fp, H' b = none) → (∀ p ∈ pl, p.1 ∉ fp) → ∀ b ∈ fp, FpOk Y pl H' b := fun {H' pl} hn hp b hb => by
    subst hYe
    obtain ⟨_, f1, f2', f3, f4, f5⟩ := f2 b hb
    refine ⟨hn b hb, Nat.ne_of_lt (Nat.lt_of_lt_of_le (hfs b hb) hCle), fun z => ?_, .inl hb, fun x c e => f4 x c ((hcl x c).mp e).2, fun p hpp => ?_⟩
    · rcases List.mem_cons.mp (I2.stkSub b z) with e | e
      · exact f1 e
      · exact f2' e
    · rcases List.mem_append.mp hpp with z | z
      · exact f5 p z
      · exact fun e => hp p z (e ▸ hb)
  have hG1 : PG Y tg g := by subst hYe; exact (hY _ _ _ _ _ _).1
  have hF1 : PF Y tests tf := by subst hYe; exact (hY _ _ _ _ _ _).2.1
  have hE1 : PE Y el te := by subst hYe; exact (hY _ _ _ _ _ _).2.2
  have eP : Y.prog = X.prog := by subst hYe; rfl
  have eW : Y.w = X.w := by subst hYe; rfl
  have eA : Y.A = X.A := by subst hYe; rfl
  have eK : Y.K = X.K := by subst hYe; rfl
  have eE : Y.env = compEnvC sc cl C X.env := by subst hYe; rfl
  have eX : Y.xe = fun _ _ => False := by subst hYe; rfl
  have eC : Y.calm = true := by subst hYe; exact hc
  have eS : Y.s₀.heap.objs.size ≤ D := by subst hYe; exact hDle
  have eF : D ∉ Y.fs := by subst hYe; exact hDs
  have eL : D ≠ Y.env.locals := by subst hYe; exact hDC
  have eCl : ∀ x c, Y.env.cells.lookup x = some c → c ≠ D := by subst hYe; exact hDcell
  have eN : ∀ p ∈ Y.pn, p.1 ≠ D := by subst hYe; exact hDpin
  have fin : ∀ (s' : Shared) (τ : St) (H' : Hp) (acc : List V) (ys : Array Value), Inv Y [] τ H' s' → s'.heap.PlainList D ys → Vals acc ys.toList → H' D = none → acc.length ≤ sizeLine → (∀ D, H' D = none → Q (.ref D) (upd H' D (.lst acc))) →
      compPost (model X.prog X.w) X.A X.xe (some (assign (.Name x0 pos') X.env)) (fun _ s' => SP X pins D0 .next s') (.ref D) C (.ok .next) s' := by
    intro s' τ H' acc ys I' pl rv hn hz q
    subst hYe
    obtain ⟨m, hm, _⟩ := id I'.loc
    have hokD : HOk X.prog X.w H' s'.heap := I'.hok
    obtain ⟨n, ho⟩ := pl
    have new : ObjOk X.prog X.w (upd H' D (.lst acc)) s'.heap D (.lst acc) := ⟨hz, ys.toList, n, rv, by simpa using ho⟩
    have u := (I'.base.but hCle (Heap.SameBut.refl _ _)).adopt (o := .lst acc) hDle hn
    have IX : Inv X pins σ (upd H' D (.lst acc)) s' := I2.call' (s' := s') (ch := fp) I'.os u (hokD.adopt hn new) I'.bare (fun b hb => by
      obtain ⟨_, f1, _, f3, f4, f5⟩ := f2 b hb
      exact ⟨f3, f1, f4, f5⟩)
    have hCn : upd H' D (.lst acc) C = none := by
      rw [upd_ne (Ne.symm hDC)]
      exact I'.free
    have hCl : C ≠ X.env.locals := fun z => absurd (Nat.lt_of_lt_of_le I2.lt hCle) (by rw [z]; exact Nat.lt_irrefl _)
    have hCf : C ∉ X.fs := I2.nofs hCle
    obtain ⟨oC, es, ep, hoC, hdC, hst⟩ := id hm
    have IP : Inv X ((C, oC) :: pins) σ (upd H' D (.lst acc)) s' := IX.pins_of fun p hp => by
      rcases List.mem_cons.mp hp with e | e
      · subst e
        exact ⟨hoC, hCn, hCl, hCf, fun v z => by rw [hdC] at z; cases z⟩
      · exact IX.pin p (List.mem_append_right _ e)
    show wpAny _ _ (assign (.Name x0 pos') X.env (.ref D)) _ _ s'
    refine wpAny_assign_Name (store_ok IP hN0 hi0 hx0 (show RelV (.ref D) (.ref D) from rfl) (fun s3 I3 => ?_) hf0)
    have p3 := (I3.pin (C, oC) (List.mem_append_right _ (List.mem_cons_self ..))).1
    refine ⟨m, ⟨oC, es, ep, p3, hdC, hst⟩, fun h' sb => ⟨_, upd H' D (.lst acc), ?_, hQ' _ _ (q D hn)⟩⟩
    have I4 : Inv X pins (σ.set i0 (some (.ref D))) (upd H' D (.lst acc)) s3 := I3.pins_of fun p hp => I3.pin p (List.mem_append_right _ (List.mem_cons_of_mem _ hp))
    refine I4.turned (it := C) (t' := s3.toks) (fun b o hb e => (sb.2 b hb).trans e) hCn hCl (.inr (Nat.le_trans I2.sz hCle)) (fun x c e z => ?_) (fun p hp z => ?_)
    · obtain ⟨v, o, ho2, _⟩ := I2.cell x c e
      exact absurd (Nat.lt_of_lt_of_le (Heap.lt_size ho2) (by rw [z]; exact hCle)) (Nat.lt_irrefl _)
    · exact absurd (Nat.lt_of_lt_of_le (Heap.lt_size (I2.pin p hp).1) (by rw [z]; exact hCle)) (Nat.lt_irrefl _)
  have loop : codeAny (model X.prog X.w) X.A (.compLoop (.ListComp el [⟨tg, src, tests, 0⟩] sc ps) 0 (.ref it) (.ref D) (compEnvC sc cl C X.env)) (compPost (model X.prog X.w) X.A X.xe (some (assign (.Name x0 pos') X.env)) (fun _ s' => SP X pins D0 .next s') (.ref D) C)
      { s2 with heap := h3, toks := s2.toks + ([] : List (Str × Value)).length } := by
    refine comp_turns (fun n s' => ∃ i acc o H' ys, Inv Y [] (o ++ capsC cap σ) H' s' ∧ o.length = nt ∧ tn i s'.heap ∧ (∀ b ∈ fp, H' b = none) ∧ s'.heap.PlainList D ys ∧ Vals acc ys.toList ∧ H' D = none ∧ W i n acc H') ?_ m0
      ⟨0, [], List.replicate nt none, H2, #[], IB, by simp, T.keep _ _ _ st2 fun b _ o e => old b o e, fun b hb => (f2 b hb).1, hacc, .nil, I2.hok.fresh hDle, w0⟩
    rintro n s3 ⟨i, acc, o3, H3, ys, I3, ho3, st3, fr3, pl3, rv3, nD3, w3⟩
    generalize hτ : o3 ++ capsC cap σ = τ at I3
    obtain ⟨nn, ho⟩ := id pl3
    generalize hoD : ({ cls := .type "list", data := .seq ys nn } : Obj) = oD at ho
    have cellD : ∀ v, oD.data ≠ .cell v := fun v z => by subst hoD; cases z
    have I3' : Inv Y [(D, oD)] τ H3 s3 := I3.pins_of fun p hp => by
      have e : p = (D, oD) := by simpa using hp
      subst e
      exact ⟨ho, nD3, eL, eF, cellD⟩
    have nfp : ∀ p ∈ [(D, oD)], p.1 ∉ fp := fun p hp => by
      have e : p = (D, oD) := by simpa using hp
      subst e
      exact hDf
    have atD : ∀ {pl : List (Addr × Obj)} {τ' : St} {H' : Hp} {s' : Shared}, Inv Y ([(D, oD)] ++ pl) τ' H' s' → s'.heap.PlainList D ys ∧ H' D = none := fun {pl τ' H' s'} I' => by
      have q := I'.pin (D, oD) (List.mem_append_right _ (List.mem_append_left _ (by simp)))
      exact ⟨⟨nn, by rw [hoD]; exact q.1⟩, q.2.1⟩
    rcases turn i n acc H3 w3 with ⟨stop, hz, q⟩ | ⟨go, hz, N', hN, step⟩
    · have hd := T.done Y eP eW eK eC i [(D, oD)] s3 τ H3 (fun _ _ => False) I3' (fpY fr3 nfp) st3 stop
      rw [eA] at hd
      refine thn hd fun r s4 h4 => ?_
      obtain ⟨hr, I4⟩ := h4
      subst hr
      obtain ⟨pl4, n4⟩ := atD (pl := []) (by simpa using I4)
      exact fin s4 τ H3 acc ys (Inv.unpinned (pins := []) I4) pl4 rv3 n4 hz q
    · have hd := T.item Y eP eW eK eC i [(D, oD)] s3 τ H3 (fun _ _ => False) I3' (fpY fr3 nfp) st3 go
      rw [eA] at hd
      refine thn hd fun r s4 h4 => ?_
      obtain ⟨u, hr, h4⟩ := h4
      subst hr
      refine thn h4 fun _ s5 h5 => ?_
      obtain ⟨x, H5, I5, r5, y5, st5, fr5⟩ := h5
      have I5' := I5.pinned (fpY fr5 nfp) (T.obj _ _ st5)
      have q5 := hG1 _ s5 τ H5 x u _ I5' r5 (hτ ▸ hgo x o3 _ H5 _ ho3 (step o3 x H5 ho3 y5))
      rw [eP, eW, eA, eE, eX] at q5
      refine thn q5 fun _ s6 h6 => ?_
      obtain ⟨τ6, H6, I6, ⟨o6, ho6, eτ6⟩, q6⟩ := h6
      have q7 := hF1 _ s6 τ6 H6 _ I6 q6
      rw [eP, eW, eA, eE, eX] at q7
      refine thn q7 fun b s7 h7 => ?_
      obtain ⟨H7, I7, q7⟩ := h7
      have frAt : ∀ {τ' : St} {H' : Hp} {s' : Shared}, Inv Y ([(D, oD)] ++ pinsAt fp s5.heap) τ' H' s' → tn (i + 1) s'.heap ∧ ∀ b ∈ fp, H' b = none := fun {τ' H' s'} I' => by
        refine ⟨T.keep _ _ _ st5 fun b hb o e => (I'.pin (b, o) (List.mem_append_right _ (List.mem_append_right _ (mem_pinsAt hb e)))).1, fun b hb => ?_⟩
        obtain ⟨o, e, _⟩ := T.obj _ _ st5 b hb
        exact (I'.pin (b, o) (List.mem_append_right _ (List.mem_append_right _ (mem_pinsAt hb e)))).2.1
      cases b with
      | false =>
        rw [if_neg Bool.false_ne_true] at q7 ⊢
        obtain ⟨m', hm, w7⟩ := hN _ _ q7
        obtain ⟨pl7, n7⟩ := atD I7
        obtain ⟨t7, f7⟩ := frAt I7
        exact ⟨m', hm, i + 1, acc, o6, H7, ys, eτ6 ▸ I7.pins_of (fun p hp => by simp at hp), ho6, t7, f7, pl7, rv3, n7, w7⟩
      | true =>
        rw [if_pos rfl] at q7 ⊢
        have q8 := hE1 _ s7 τ6 H7 _ I7 q7
        rw [eP, eW, eA, eE, eX] at q8
        refine thn q8 fun y s8 h8 => ?_
        obtain ⟨v, H8, I8, r8, q9⟩ := h8
        obtain ⟨m', hm, w8⟩ := hN _ _ q9
        obtain ⟨pl8, n8⟩ := atD I8
        obtain ⟨t8, f8⟩ := frAt I8
        have hys : ys.size ≤ sizeLine := by
          have e := rv3.length
          simp only [Array.length_toList] at e
          omega
        refine wpAny_list_append_plain (hsz := hys) pl8 fun h9 pl9 sb9 => ?_
        have I8' : Inv Y [] τ6 H8 s8 := I8.pins_of (fun p hp => by simp at hp)
        have I9 : Inv Y [] τ6 H8 { s8 with heap := h9, toks := s8.toks } := I8'.turned (it := D) (fun b o hb e => (sb9.2 b hb).trans e) n8 eL (.inr eS) eCl (fun p hp => eN p (by simpa using hp))
        refine ⟨m', hm, i + 1, acc ++ [v], o6, H8, ys.push y, eτ6 ▸ I9, ho6, T.keep _ _ _ t8 fun b hb o e => (sb9.2 b (fun z => hDf (z ▸ hb))).trans e, f8, pl9, ?_, n8, w8⟩
        rw [Array.toList_push]
        exact Vals.append rv3 (.cons r8 .nil)
  exact codeAny_compStart_list loop (T.self _ _ _ _ _ (T.keep _ _ _ st2 fun b _ o e => old b o e) loop)
end
end L2

set_option Elab.async false
set_option linter.all false
set_option maxRecDepth 100000
set_option maxHeartbeats 4000000
namespace L2
open PySem PySem.Spec PyProof.Rows
mutual
def noL : PyData → Bool
  | .tuple ds => noLs ds
  | .list _ => false
  | _ => true
def noLs : List PyData → Bool
  | [] => true
  | d :: ds => noL d && noLs ds
end
section
variable {X : Cx} {pins : List (Addr × Obj)} {σ : St} {H : Hp} {s : Shared} {Z : Addr → Prop}
mutual
theorem DV.readsN (I : Inv X pins σ H s) : ∀ {d : PyData} {v : V} {u : Value}, DV X.K Z H d v → RelV v u → noL d = true → ∃ as, Reads s.heap u d as ∧ sysModules ∉ as
  | .none, v, u, h, r, _ => by
    have e : v = .non := h
    subst e; cases r
    exact ⟨[], .none, by simp⟩
  | .bool b, v, u, h, r, _ => by
    have e : v = .bl b := h
    subst e; cases r
    exact ⟨[], .bool b, by simp⟩
  | .int i, v, u, h, r, _ => by
    have e : v = .int i := h
    subst e; obtain ⟨t, rfl⟩ := r
    exact ⟨[], .int i t, by simp⟩
  | .str x, v, u, h, r, _ => by
    have e : v = .str x := h
    subst e; obtain ⟨t, rfl⟩ := r
    exact ⟨[], .str x t, by simp⟩
  | .tuple ds, v, u, h, r, hn => by
    simp only [DV] at h
    obtain ⟨a, xs, e, hq, hr⟩ := h
    subst e; cases r
    obtain ⟨its, rv, ⟨o, e, c, n, hd⟩, _⟩ := I.tuple hq
    obtain ⟨as, rs, hs⟩ := DVs.readsN I hr rv (by simpa only [noL] using hn)
    exact ⟨as, .tuple e c hd (by simpa using rs), hs⟩
  | .list ds, v, u, h, r, hn => by
    simp only [noL] at hn
    cases hn
  | .dict kvs, v, u, h, r, _ => by
    simp only [DV] at h
    obtain ⟨a, es, e, _, hq, l, e1, e2⟩ := h
    subst e e1 e2; cases r
    obtain ⟨_, hsys, vs, kv, o, es', ep, g1, g2, g3, _, g5, _⟩ := (show ObjOk X.prog X.w H s.heap a (.dK _) from I.hok a _ hq)
    obtain ⟨r1, r2⟩ := pairs_reads (h := s.heap) kv g5
    refine ⟨a :: [] ++ [], .dict g1 g2.1 g3 r1 r2, fun hm => ?_⟩
    have e : sysModules = a := by simpa using hm
    subst e
    simp at hsys
theorem DVs.readsN (I : Inv X pins σ H s) : ∀ {ds : List PyData} {vs : List V} {us : List Value}, DVs X.K Z H ds vs → Vals vs us → noLs ds = true → ∃ as, ReadsAll s.heap us ds as ∧ sysModules ∉ as
  | [], vs, us, h, r, _ => by
    have e : vs = [] := h
    subst e; cases r
    exact ⟨[], .nil, by simp⟩
  | d :: ds, vs, us, h, r, hn => by
    obtain ⟨v, rr, e, h1, h2⟩ := h
    subst e
    simp only [noLs, Bool.and_eq_true] at hn
    cases r with
    | cons ru rt =>
      obtain ⟨as, a1, n1⟩ := DV.readsN I h1 ru hn.1
      obtain ⟨bs, a2, n2⟩ := DVs.readsN I h2 rt hn.2
      refine ⟨as ++ bs, .cons a1 a2, fun hm => ?_⟩
      rcases List.mem_append.mp hm with z | z
      · exact n1 z
      · exact n2 z
end
end
section
variable {X : Cx}
theorem call_reprT {k : Nat} (hr : Room k X.A) : CallR X (.builtin "repr") (fun xs H Q => ∃ (x : V) (ds : List PyData) (Z : Addr → Prop), xs = [x] ∧ DV X.K Z H (.tuple ds) x ∧ (PyData.tuple ds).showable = true ∧ ((PyData.tuple ds).hasDict = false ∨ noLs ds = true) ∧ (PyData.tuple ds).depth ≤ 100 ∧ (PyData.tuple ds).shown.length ≤ sizeLine ∧ Q (.str (PyData.tuple ds).shown) H) := by
  intro pins s σ H xs us Q I r h
  obtain ⟨x, ds, Z, rfl, hd, hs, hnd, hdp, hz, q⟩ := h
  obtain ⟨u, rfl, ru⟩ := vals1 r
  have hun : X.A.units + ((PyData.tuple ds).depth + 1) < cLine := by have := hr.un; omega
  have go : ∀ as, Reads s.heap u (.tuple ds) as → ((PyData.tuple ds).hasDict = true → sysModules ∉ as) → wpAny (model X.prog X.w) X.A (call (.builtin "repr") [u]) (EP X pins σ Q) X.xe s := fun as rd hsm => by
    obtain ⟨a, e⟩ : ∃ a, u = .ref a := by cases rd; exact ⟨_, rfl⟩
    subst e
    exact repr_of_reads' rd hs hsm hr.gd hun (fun _ _ e => e) (fun h' t tk hk => ⟨.str _, H, I.kept (t' := tk) hk, ⟨t, rfl⟩, q⟩) hz
  rcases hnd with e | e
  · obtain ⟨as, rd⟩ := hd.reads I ru
    exact go as rd fun z => by rw [e] at z; cases z
  · obtain ⟨as, rd, hn⟩ := hd.readsN I ru (by simpa only [noL] using e)
    exact go as rd fun _ => hn
end
end L2

set_option Elab.async false
set_option linter.all false
set_option maxRecDepth 100000
set_option maxHeartbeats 4000000
namespace TM
open PySem L2
theorem b_isinstance : bootBuiltins "isinstance" = some (.builtin "isinstance") := by decide +kernel
theorem b_int : bootBuiltins "int" = some (.type "int") := by decide +kernel
theorem b_bool : bootBuiltins "bool" = some (.type "bool") := by decide +kernel
theorem b_tuple : bootBuiltins "tuple" = some (.type "tuple") := by decide +kernel
theorem b_list : bootBuiltins "list" = some (.type "list") := by decide +kernel
theorem b_set : bootBuiltins "set" = some (.type "set") := by decide +kernel
theorem b_all : bootBuiltins "all" = some (.builtin "all") := by decide +kernel
theorem b_len : bootBuiltins "len" = some (.builtin "len") := by decide +kernel
theorem b_repr : bootBuiltins "repr" = some (.builtin "repr") := by decide +kernel
theorem b_max : bootBuiltins "max" = some (.builtin "max") := by decide +kernel
theorem b_sorted : bootBuiltins "sorted" = some (.builtin "sorted") := by decide +kernel
theorem b_range : bootBuiltins "range" = some (.type "range") := by decide +kernel
theorem b_min : bootBuiltins "min" = some (.builtin "min") := by decide +kernel
theorem pe_ty {X : Cx} {x : Str} {T : String} {pos : Pos} (hv : bootBuiltins x = some (.type T)) (hg : Gl X x) (hm : X.mg x = none) (hn : x ≠ "__name__" := by decide) (hd : (x == ("__debug__" : Str)) = false := by decide) : PE X (.Name x pos) (tC (.ty T)) := pe_bltn hg hm hv rfl hn hd
structure Gd (K : PySem.W.Frag) (mg : Str → Option Value) (x : Str) (st : Stmt) (ps : List Str) (f : Addr) (fd : FuncData) : Prop where
  mg : mg x = some (.ref f)
  fn : Fun K x x st f fd
  b : Binds K fd ps []
def spP (K : PySem.W.Frag) (n : Nat) (pre : List PyData → Prop) (g : List PyData → Bool) : Sp := fun vs H Q _ => ∃ (Z : Addr → Prop) (ds : List PyData), DVs K Z H ds vs ∧ ds.length = n ∧ pre ds ∧ ∀ H', Same H H' → Q (.bl (g ds)) H'
def isBelow (d : PyData) (m : Int) : Bool := match d with
  | .int i => decide (0 ≤ i) && decide (i < m)
  | _ => false
def top (i : Nat) : Stmt := PySem.Challenge.pw_twinmoulds_k12_papers_of_runs_looked_at.main.body.getD i (.Pass ⟨0, 0, 0, 0⟩)
abbrev sNumber : Stmt := top 5
abbrev sBelow : Stmt := top 6
abbrev sMark : Stmt := top 7
section
variable {P : Program} {w : World} {K : PySem.W.Frag} {mg : Str → Option Value} {base : Heap}
structure Blt (mg : Str → Option Value) : Prop where
  isinstance : mg "isinstance" = none
  int : mg "int" = none
  bool : mg "bool" = none
  tuple : mg "tuple" = none
  list : mg "list" = none
  str : mg "str" = none
  all : mg "all" = none
  any : mg "any" = none
  zip : mg "zip" = none
  len : mg "len" = none
  range : mg "range" = none
  repr : mg "repr" = none
  set : mg "set" = none
  max : mg "max" = none
  min : mg "min" = none
  enumerate : mg "enumerate" = none
  reversed : mg "reversed" = none
  sorted : mg "sorted" = none
def spBelow (K : PySem.W.Frag) : Sp := fun vs H Q _ => ∃ (Z : Addr → Prop) (d : PyData) (v : V) (m : Int), vs = [v, .int m] ∧ DV K Z H d v ∧ Q (.bl (isBelow d m)) H
def isNum (d : PyData) : Bool := match d with
  | .int i => decide (0 ≤ i)
  | _ => false
def spOne (K : PySem.W.Frag) (g : PyData → Bool) : Sp := fun vs H Q _ => ∃ (Z : Addr → Prop) (d : PyData) (v : V), vs = [v] ∧ DV K Z H d v ∧ Q (.bl (g d)) H
theorem scNb : FnScope ["thing"] ["thing"] (defScope sNumber) := ⟨rfl, rfl, rfl, by decide +kernel, rfl, by decide +kernel, by decide +kernel⟩
theorem ok_number {f : Addr} {fd : FuncData} (G : Gd K mg "is_number" sNumber ["thing"] f fd) (T : Blt mg) : FnOk P w K mg base CX0 1 f fd ["thing"] (spOne K isNum) := by
  refine G.fn.ok scNb (fun vs H Q E h => ?_) (fun cdv A outer s H vs Q E hr h => ?_)
  · obtain ⟨Z, d, v, rfl, _⟩ := h
    rfl
  · obtain ⟨Z, d, v, rfl, hd, k⟩ := h
    refine ⟨_, pss_one (ps_ret (pe_and (pe_callB call_isi_int rfl T.isinstance b_isinstance (pa_cons (pv 0) (pa_cons (pe_ty b_int rfl T.int) pa_nil)))
      (pe_and (pe_not (pe_callB call_isi_bool rfl T.isinstance b_isinstance (pa_cons (pv 0) (pa_cons (pe_ty b_bool rfl T.bool) pa_nil))))
        (pe_one (pe_cmpR op_ge (pv 0) pe_int (nomark _)))))), ?_⟩
    refine ⟨_, rfl, v, _, rfl, hd.kd, _, rfl, ?_⟩
    cases d with
    | bool b => exact iteT ⟨_, rfl, v, _, rfl, hd.kd, _, rfl, _, rfl, iteF k⟩
    | int i =>
      have e : v = .int i := hd
      subst e
      exact iteT ⟨_, rfl, _, _, rfl, hd.kd, _, rfl, _, rfl, iteT ⟨_, rfl, _, _, rfl, rfl, k⟩⟩
    | _ => exact iteF k
structure GdB (K : PySem.W.Frag) (mm : Str → Option Value) (f : Addr) (fd : FuncData) : Prop extends Gd K mm "is_below" sBelow ["thing", "many"] f fd where
  num : ∃ f fd, Gd K mm "is_number" sNumber ["thing"] f fd
theorem scB : FnScope ["thing", "many"] ["thing", "many"] (defScope sBelow) := ⟨rfl, rfl, rfl, by decide +kernel, rfl, by decide +kernel, by decide +kernel⟩
theorem ok_below {f : Addr} {fd : FuncData} (G : GdB K mg f fd) (T : Blt mg) : FnOk P w K mg base CX0 2 f fd ["thing", "many"] (spBelow K) := by
  obtain ⟨fN, fdN, GN⟩ := G.num
  refine G.fn.ok scB (fun vs H Q E h => ?_) (fun cdv A outer s H vs Q E hr h => ?_)
  · obtain ⟨Z, d, v, m, rfl, _⟩ := h
    rfl
  · obtain ⟨Z, d, v, m, rfl, hd, k⟩ := h
    refine ⟨_, pss_one (ps_ret (pe_and (pe_call (ok_number GN T) hr rfl GN.mg GN.fn.kp GN.b .nil pass0 (pa_cons (pv 0) pa_nil))
        (pe_one (pe_cmpR op_lt (pv 0) (pv 1) (nomark _))))), ?_⟩
    refine ⟨_, rfl, Z, d, v, rfl, hd, _, rfl, ?_⟩
    cases d with
    | int i =>
      have e : v = .int i := hd
      subst e
      have k : Q (.bl (decide (0 ≤ i) && decide (i < m))) H := k
      show if decide (0 ≤ i) = true then _ else _
      by_cases h0 : (0 : Int) ≤ i
      · rw [decide_eq_true h0] at k ⊢
        exact iteT ⟨_, rfl, _, rfl, _, _, rfl, rfl, k⟩
      · rw [decide_eq_false h0] at k ⊢
        exact iteF k
    | _ => exact iteF k
def GlobI (mg : Str → Option Value) (x : Str) (i : Int) : Prop := ∃ t, mg x = some (.int i t)
theorem pe_gi {X : Cx} {x : Str} {i : Int} {pos : Pos} (g : GlobI X.mg x i) (hg : Gl X x) (hd : (x == ("__debug__" : Str)) = false := by decide) : PE X (.Name x pos) (tC (.int i)) := by
  obtain ⟨t, e⟩ := g
  exact pe_glob hg e ⟨t, rfl⟩ hd
theorem scM : FnScope ["thing"] ["thing"] (defScope sMark) := ⟨rfl, rfl, rfl, by decide +kernel, rfl, by decide +kernel, by decide +kernel⟩
theorem ok_mark {f fB : Addr} {fd fdB : FuncData} (G : Gd K mg "is_mark" sMark ["thing"] f fd) (GB : GdB K mg fB fdB) (T : Blt mg) (M : GlobI mg "MARKS" 8) : FnOk P w K mg base CX0 3 f fd ["thing"] (spOne K fun d => isBelow d 8) := by
  refine G.fn.ok scM (fun vs H Q E h => ?_) (fun cdv A outer s H vs Q E hr h => ?_)
  · obtain ⟨Z, d, v, rfl, _⟩ := h
    rfl
  · obtain ⟨Z, d, v, rfl, hd, k⟩ := h
    refine ⟨_, pss_one (ps_ret (pe_call (ok_below GB T) hr rfl GB.mg GB.fn.kp GB.b .nil pass0 (pa_cons (pv 0) (pa_cons (pe_gi M rfl) pa_nil)))), ?_⟩
    exact ⟨_, rfl, Z, d, v, 8, rfl, hd, k⟩
abbrev sRise : Stmt := top 8
def adj : List Int → Bool
  | a :: b :: r => decide (a < b) && adj (b :: r)
  | _ => true
def adjL (ns : List Int) : List Bool := (ns.zip (ns.drop 1)).map fun p => decide (p.1 < p.2)
theorem adj_eq : ∀ ns : List Int, (adjL ns).all id = adj ns
  | [] => rfl
  | [_] => rfl
  | a :: b :: r => by
    have ih := adj_eq (b :: r)
    unfold adjL at ih ⊢
    simp only [List.drop_succ_cons, List.drop_zero, List.zip_cons_cons, List.map_cons, List.all_cons, id_eq] at ih ⊢
    rw [ih]
    rfl
def spRise (K : PySem.W.Frag) : Sp := fun vs H Q _ => ∃ (a : Addr) (ns : List Int), vs = [.ref a] ∧ SqT K H a (ns.map V.int) ∧ ns.length ≤ 1000 ∧ ∀ H', Same H H' → Q (.bl (adj ns)) H'
theorem scR : FnScope ["things"] ["things"] (defScope sRise) := ⟨rfl, rfl, rfl, by decide +kernel, rfl, by decide +kernel, by decide +kernel⟩
def compScope (s : Stmt) : Scope := match s with
  | .FunctionDef _ _ [.Return (some (.Call _ [.ListComp _ _ sc _] _ _)) _] _ _ _ _ _ _ _ => sc
  | _ => { kind := .function, names := [], isGenerator := false, isCoroutine := false }
theorem cut1 (xs : List V) : cutV xs (some 1) none = xs.drop 1 := by
  unfold cutV
  have e1 : HT.sIx xs.length 0 (some 1) = min 1 xs.length := HT.sIx_nat _ _ 1
  rw [e1, HT.sIx_none]
  cases xs with
  | nil => rfl
  | cons a r =>
    have : min 1 (a :: r).length = 1 := by simp
    rw [this]
    simp
theorem ok_rise {f : Addr} {fd : FuncData} (G : Gd K mg "is_rising" sRise ["things"] f fd) (T : Blt mg) : FnOk P w K mg base CX0 1 f fd ["things"] (spRise K) := by
  refine G.fn.ok scR (fun vs H Q E h => ?_) (fun cdv A outer s H vs Q E hr h => ?_)
  · obtain ⟨a, ns, rfl, _⟩ := h
    rfl
  · obtain ⟨a, ns, rfl, ha, hl, k⟩ := h
    have nd : (["ahead", "behind"] : List Str).Nodup := by decide +kernel
    refine ⟨_, pss_one (ps_ret (pe_callB (call_all rfl) rfl T.all b_all (pa_cons (pe_comp (N := ["ahead", "behind"]) (nt := 2) (cap := []) rfl (cs_of (by kernel_rfl)) gok_pair
      (pi_zipT rfl T.zip (pa_cons (pv 0) (pa_cons (pe_slice sl_tupG (pv 0) (po_some pe_int) po_none) pa_nil)))
      (fun cl C s H ex pn => ⟨pg_tup rfl (pgs_cons (pg_name (i := 0) nd rfl (Or.inl rfl)) (pgs_cons (pg_name (i := 1) nd rfl (Or.inl rfl)) pgs_nil)), pf_nil, pe_cmpR op_lt (pv 0) (pv 1) (nomark _)⟩)) pa_nil))), ?_⟩
    refine ⟨_, rfl, _, rfl, 1, rfl, a, _, rfl, ha, fun p H1 s1 hp => ?_⟩
    rw [cut1, ← List.map_drop] at hp
    refine ⟨a, p, _, _, rfl, s1.sqT ha, hp, ?_⟩
    have hz : (1000 : Nat) ≤ sizeLine := by decide
    refine cw_zipT (xs := ns.map V.int) (ys := (ns.drop 1).map V.int) (fun i acc H' => Same H1 H' ∧ acc = ((adjL ns).take i).map V.bl) ⟨Same.refl _, rfl⟩ (fun i acc H' hi q => ⟨?_, (s1.trans q.1).sqT ha, q.1.sqT hp⟩) (fun i x y acc H' p' hx hy q hn => ?_) (fun acc H' q D hD => ?_)
    · rw [q.2, List.length_map, List.length_take]
      unfold adjL
      rw [List.length_map, List.length_zip, List.length_drop]
      omega
    · rw [List.getElem?_map] at hx hy
      cases ex : ns[i]? with
      | none => rw [ex] at hx; cases hx
      | some n =>
        cases ey : (ns.drop 1)[i]? with
        | none => rw [ey] at hy; cases hy
        | some m =>
          rw [ex] at hx; rw [ey] at hy
          cases hx; cases hy
          refine ⟨_, rfl, _, rfl, n, m, rfl, rfl, q.1.trans (Same.upd hn), ?_⟩
          have e : (adjL ns)[i]? = some (decide (n < m)) := by
            unfold adjL
            rw [List.getElem?_map, (List.getElem?_zip_eq_some (z := (n, m))).mpr ⟨ex, ey⟩]
            rfl
          rw [q.2, List.take_add_one, e]
          simp
    · refine ⟨D, adjL ns, rfl, SqL.of ?_, ?_⟩
      · rw [upd_same, q.2]
        have e : min (ns.map V.int).length ((ns.drop 1).map V.int).length = (adjL ns).length := by
          unfold adjL
          simp
        rw [e, List.take_length]
      · rw [adj_eq]
        exact k _ ((s1.trans q.1).trans (Same.upd hD))
end
end TM

set_option Elab.async false
set_option linter.all false
set_option maxRecDepth 100000
set_option maxHeartbeats 4000000
namespace TM
open PySem L2
abbrev sMarks : Stmt := top 10
def toI : PyData → Int
  | .int i => i
  | _ => 0
def isMark (d : PyData) : Bool := isBelow d 8
theorem mark_int {d : PyData} (h : isMark d = true) : d = .int (toI d) ∧ 0 ≤ toI d ∧ toI d < 8 := by
  cases d with
  | int i =>
    have h : (decide (0 ≤ i) && decide (i < 8)) = true := h
    simp at h
    exact ⟨rfl, h.1, h.2⟩
  | _ => cases h
def areMarks (d : PyData) : Bool := match d with
  | .tuple ds => ds.all isMark && adj (ds.map toI)
  | _ => false
def its : PyData → List PyData
  | .tuple ds => ds
  | _ => []
def Short (d : PyData) : Prop := (its d).length ≤ 1000
section
variable {P : Program} {w : World} {K : PySem.W.Frag} {mg : Str → Option Value} {base : Heap}
theorem marks_ints {Z : Addr → Prop} {H : Hp} : ∀ {ds : List PyData} {xs : List V}, DVs K Z H ds xs → ds.all isMark = true → xs = (ds.map toI).map V.int
  | [], xs, h, _ => by
    have e : xs = [] := h
    subst e
    rfl
  | d :: ds, xs, h, ha => by
    obtain ⟨v, r, e, h1, h2⟩ := h
    rw [List.all_cons, Bool.and_eq_true] at ha
    have e1 := (mark_int ha.1).1
    rw [e1] at h1
    have e2 : v = .int (toI d) := h1
    subst e e2
    rw [List.map_cons, List.map_cons, ← marks_ints h2 ha.2]
def spOneS (K : PySem.W.Frag) (pre : PyData → Prop) (g : PyData → Bool) : Sp := fun vs H Q _ => ∃ (Z : Addr → Prop) (d : PyData) (v : V), vs = [v] ∧ DV K Z H d v ∧ pre d ∧ ∀ H', Same H H' → Q (.bl (g d)) H'
theorem scMs : FnScope ["thing"] ["thing"] (defScope sMarks) := ⟨rfl, rfl, rfl, by decide +kernel, rfl, by decide +kernel, by decide +kernel⟩
structure P1 (K : PySem.W.Frag) (mg : Str → Option Value) : Prop where
  T : Blt mg
  gM : GlobI mg "MARKS" 8
  below : ∃ f fd, GdB K mg f fd
  mark : ∃ f fd, Gd K mg "is_mark" sMark ["thing"] f fd
  rise : ∃ f fd, Gd K mg "is_rising" sRise ["things"] f fd
  marks : ∃ f fd, Gd K mg "are_marks" sMarks ["thing"] f fd
theorem ok_marks (S : P1 K mg) {f : Addr} {fd : FuncData} (G : Gd K mg "are_marks" sMarks ["thing"] f fd) : FnOk P w K mg base CX0 4 f fd ["thing"] (spOneS K Short areMarks) := by
  obtain ⟨fB, fdB, GB⟩ := S.below
  obtain ⟨fM, fdM, GM⟩ := S.mark
  obtain ⟨fR, fdR, GR⟩ := S.rise
  have nd : (["mark"] : List Str).Nodup := by decide +kernel
  refine G.fn.ok scMs (fun vs H Q E h => ?_) (fun cdv A outer s H vs Q E hr h => ?_)
  · obtain ⟨Z, d, v, rfl, _⟩ := h
    rfl
  · obtain ⟨Z, d, v, rfl, hd, hsh, k⟩ := h
    refine ⟨_, pss_one (ps_ret (pe_and (pe_callB call_isi_tuple rfl S.T.isinstance b_isinstance (pa_cons (pv 0) (pa_cons (pe_ty b_tuple rfl S.T.tuple) pa_nil)))
      (pe_and (pe_callB (call_all rfl) rfl S.T.all b_all (pa_cons (pe_comp (N := ["mark"]) (nt := 1) (cap := []) rfl (cs_of (by kernel_rfl)) gok_name (pi_tup (pv 0))
        (fun cl C s H ex pn => ⟨pg_name (i := 0) nd rfl (Or.inl rfl), pf_nil, pe_call (ok_mark GM GB S.T S.gM) (hr.mono (by decide)) rfl GM.mg GM.fn.kp GM.b .nil pass0 (pa_cons (pv 0) pa_nil)⟩)) pa_nil))
      (pe_one (pe_call (ok_rise GR S.T) (hr.mono (by decide)) rfl GR.mg GR.fn.kp GR.b .nil pass0 (pa_cons (pv 0) pa_nil)))))), ?_⟩
    refine ⟨_, rfl, v, _, rfl, hd.kd, _, rfl, ?_⟩
    cases d with
    | tuple ds =>
      have hd' := hd
      simp only [DV] at hd'
      obtain ⟨a, xs, e, hq, hds⟩ := hd'
      subst e
      have hlen : xs.length ≤ 1000 := by rw [← hds.length]; exact hsh
      refine iteT ⟨_, rfl, a, rfl, ⟨xs, hq⟩, ?_⟩
      have hz : (1000 : Nat) ≤ sizeLine := by decide
      refine cw_tup (xs := xs) (fun i acc H' => Same H H' ∧ acc = ((ds.map isMark).take i).map V.bl) ⟨Same.refl _, rfl⟩ (fun i acc H' hi q => ⟨?_, q.1.sqT hq⟩) (fun i x acc H' hx q => ?_) (fun acc H' q D hD => ?_)
      · rw [q.2, List.length_map, List.length_take]
        omega
      · obtain ⟨d', e', hv⟩ := hds.get i x hx
        refine ⟨_, rfl, Z, d', x, rfl, hv.stay q.1.stay, q.1, ?_⟩
        have e2 : (ds.map isMark)[i]? = some (isMark d') := by rw [List.getElem?_map, e']; rfl
        rw [q.2, List.take_add_one, e2]
        simp [isMark]
      · have eL : ((ds.map isMark).take xs.length) = ds.map isMark := List.take_of_length_le (by rw [List.length_map, hds.length]; exact Nat.le_refl _)
        refine ⟨D, ds.map isMark, rfl, SqL.of (by rw [upd_same, q.2, eL]), _, rfl, ?_⟩
        have s1 : Same H (upd H' D (.lst acc)) := q.1.trans (Same.upd hD)
        have eA : (ds.map isMark).all id = ds.all isMark := by rw [List.all_map]; rfl
        rw [eA]
        cases ha : ds.all isMark with
        | false =>
          refine iteF ?_
          have := k _ s1
          simp only [areMarks, ha, Bool.false_and] at this
          exact this
        | true =>
          refine iteT ⟨_, rfl, a, ds.map toI, rfl, ?_, by rw [List.length_map]; rw [← hds.length] at hlen; exact hlen, fun H2 s2 => ?_⟩
          · rw [← marks_ints hds ha]
            exact s1.sqT hq
          · have := k _ (s1.trans s2)
            simp only [areMarks, ha, Bool.true_and] at this
            exact this
    | _ => exact iteF (k _ (Same.refl _))
end
end TM

set_option Elab.async false
set_option linter.all false
set_option maxRecDepth 100000
set_option maxHeartbeats 4000000
namespace TM
open PySem L2
abbrev sCell : Stmt := top 26
abbrev sState : Stmt := top 27
abbrev sTake : Stmt := top 28
def StOk (H : Hp) (st : Addr) : Prop := ∃ a b : Int, H st = some (.lst [.int a, .int b]) ∧ 0 ≤ a ∧ 0 ≤ b ∧ b < 2147483647
def Ext (st : Addr) (H H' : Hp) : Prop := ∀ b o, H b = some o → b ≠ st → H' b = some o
theorem Ext.refl (st : Addr) (H : Hp) : Ext st H H := fun _ _ h _ => h
theorem Ext.trans {st : Addr} {H H1 H2 : Hp} (a : Ext st H H1) (b : Ext st H1 H2) : Ext st H H2 := fun c o h n => b c o (a c o h n) n
theorem Ext.of {st : Addr} {H H' : Hp} (s : Same H H') : Ext st H H' := fun b o h _ => s b o h
theorem Ext.sqT {K : PySem.W.Frag} {st : Addr} {H H' : Hp} {a : Addr} {xs : List V} (e : Ext st H H') (hs : StOk H st) (h : SqT K H a xs) : SqT K H' a xs := by
  obtain ⟨_, _, h0, _⟩ := hs
  rcases h with (h | ⟨o, h⟩) | h
  · exact .inl (.inl (e _ _ h fun z => by subst z; rw [h0] at h; cases h))
  · exact .inl (.inr ⟨o, e _ _ h fun z => by subst z; rw [h0] at h; cases h⟩)
  · exact .inr h
theorem Ext.stay {K : PySem.W.Frag} {Z : Addr → Prop} {st : Addr} {H H' : Hp} (e : Ext st H H') (hs : StOk H st) (hZ : Z st) : Stay K Z H H' :=
  ⟨fun _ _ h => e.sqT hs h, fun b _ hb h => e _ _ h fun z => hb (z ▸ hZ), fun b _ hb h => e _ _ h fun z => hb (z ▸ hZ)⟩
def Within (Z : Addr → Prop) (H : Hp) : Prop := ∀ b, Z b → H b ≠ none
theorem at0 (x y : V) : atI [x, y] 0 = some x := rfl
theorem at1 (x y : V) : atI [x, y] 1 = some y := rfl
theorem ix0 : ixN 2 0 = some 0 := rfl
theorem ix1 : ixN 2 1 = some 1 := rfl
section
variable {P : Program} {w : World} {K : PySem.W.Frag} {mg : Str → Option Value} {base : Heap}
def spCell (K : PySem.W.Frag) : Sp := fun vs H Q _ => ∃ (a : Addr) (ns : List Int) (k : Int), vs = [.ref a, .int k] ∧ SqL K H a (ns.map V.int) ∧ 0 ≤ k ∧ ∀ i, Q (.int i) H
theorem scCe : FnScope ["_law_script", "_law_k"] ["_law_script", "_law_k"] (defScope sCell) := ⟨rfl, rfl, rfl, by decide +kernel, rfl, by decide +kernel, by decide +kernel⟩
theorem ok_cell (T : Blt mg) {f : Addr} {fd : FuncData} (G : Gd K mg "_law_cell_at" sCell ["_law_script", "_law_k"] f fd) : FnOk P w K mg base CX0 1 f fd ["_law_script", "_law_k"] (spCell K) := by
  refine G.fn.ok scCe (fun vs H Q E h => ?_) (fun cdv A outer s H vs Q E hr h => ?_)
  · obtain ⟨a, ns, k, rfl, _⟩ := h
    rfl
  · obtain ⟨a, ns, k, rfl, ha, hk, q⟩ := h
    refine ⟨_, pss_cons (ps_if (pt_cmpR op_lt (pv 1) (pe_callB call_len_seq rfl T.len b_len (pa_cons (pv 0) pa_nil)) (nomark _)) (pss_one (ps_ret (pe_ix ix_list (pv 0) (pv 1) (fun _ _ => rfl)))) pss_nil)
      (pss_one (ps_ret pe_int)), ?_⟩
    refine ⟨_, rfl, _, rfl, a, _, rfl, .inl ha, k, _, rfl, rfl, _, rfl, ite2 (fun hl => ?_) fun _ => q 0⟩
    have hl' : k < ((ns.map V.int).length : Int) := of_decide_eq_true hl
    rw [List.length_map] at hl'
    have hlt : k.toNat < ns.length := by omega
    have e : (ns.map V.int)[k.toNat]? = some (.int ns[k.toNat]) := by rw [List.getElem?_map, List.getElem?_eq_getElem hlt]; rfl
    have ek : k = ((k.toNat : Nat) : Int) := by omega
    refine ⟨_, rfl, _, rfl, a, _, k, _, rfl, rfl, ha, ?_, q ns[k.toNat]⟩
    have e' := atI_nat e
    rw [← ek] at e'
    exact e'
def spState (K : PySem.W.Frag) : Sp := fun vs H Q _ => ∃ (a : Addr) (ns : List Int) (k : Int), vs = [.ref a, .int k] ∧ SqL K H a (ns.map V.int) ∧ 0 ≤ k ∧ ∀ st H', H st = none → Same H H' → StOk H' st → Q (.ref st) H'
theorem scSt : FnScope ["_law_script", "_law_k", "_law_cell"] ["_law_script", "_law_k"] (defScope sState) := ⟨rfl, rfl, rfl, by decide +kernel, rfl, by decide +kernel, by decide +kernel⟩
theorem ok_state (T : Blt mg) {f fC : Addr} {fd fdC : FuncData} (G : Gd K mg "_law_state" sState ["_law_script", "_law_k"] f fd) (GC : Gd K mg "_law_cell_at" sCell ["_law_script", "_law_k"] fC fdC) : FnOk P w K mg base CX0 2 f fd ["_law_script", "_law_k"] (spState K) := by
  refine G.fn.ok scSt (fun vs H Q E h => ?_) (fun cdv A outer s H vs Q E hr h => ?_)
  · obtain ⟨a, ns, k, rfl, _⟩ := h
    rfl
  · obtain ⟨a, ns, k, rfl, ha, hk, q⟩ := h
    refine ⟨_, pss_cons (ps_set (i := 2) scSt.nd rfl (Or.inl rfl) (pe_call (ok_cell T GC) hr rfl GC.mg GC.fn.kp GC.b .nil pass0 (pa_cons (pv 0) (pa_cons (pv 1) pa_nil))))
      (pss_one (ps_ret (pe_lst (pa_cons (pe_callB (call_max2 rfl) rfl T.max b_max (pa_cons pe_int (pa_cons (pe_op op_sub (pv 2) (pe_op op_pow pe_int pe_int)) pa_nil))) (pa_cons (pe_op op_mod (pv 2) pe_int) pa_nil))))), ?_⟩
    refine ⟨_, rfl, _, rfl, a, ns, k, rfl, ha, hk, fun c => ?_⟩
    refine ⟨_, rfl, 10, 18, rfl, rfl, ⟨by decide, by decide, by decide⟩, c, _, rfl, rfl, 0, _, rfl, _, rfl, c, 2147483647, rfl, rfl, (by show (0 : Int) < 2147483647; decide), (by show 2 ≤ sizeLine; decide), fun st hst => ?_⟩
    refine q st _ hst (Same.upd hst) ⟨_, _, upd_same, ?_, Int.emod_nonneg _ (by decide), Int.emod_lt_of_pos _ (by decide)⟩
    split <;> omega
def spTake : Sp := fun vs H Q _ => ∃ (st : Addr) (m : Int), vs = [.ref st, .int m] ∧ StOk H st ∧ 0 < m ∧ m < 1073741824 ∧ ∀ r H', 0 ≤ r → r < m → StOk H' st → Ext st H H' → Q (.int r) H'
theorem scTk : FnScope ["_law_state_here", "_law_many", "_law_found", "_law_stirred"] ["_law_state_here", "_law_many"] (defScope sTake) := ⟨rfl, rfl, rfl, by decide +kernel, rfl, by decide +kernel, by decide +kernel⟩
theorem ok_take {f : Addr} {fd : FuncData} (G : Gd K mg "_law_take" sTake ["_law_state_here", "_law_many"] f fd) : FnOk P w K mg base CX0 1 f fd ["_law_state_here", "_law_many"] spTake := by
  refine G.fn.ok scTk (fun vs H Q E h => ?_) (fun cdv A outer s H vs Q E hr h => ?_)
  · obtain ⟨st, m, rfl, _⟩ := h
    rfl
  · obtain ⟨st, m, rfl, ⟨a, b, h0, ha, hb, hb2⟩, hm, hm2, q⟩ := h
    refine ⟨_, pss_cons (ps_if (pt_cmpR op_gt (pe_ix ix_list (pv 0) pe_int (fun _ _ => rfl)) pe_int (nomark _))
        (pss_cons (ps_set (i := 2) scTk.nd rfl (Or.inl rfl) (pe_op op_mod (pe_ix ix_list (pv 0) pe_int (fun _ _ => rfl)) (pv 1)))
        (pss_cons (ps_asg (pe_op op_fdiv (pe_ix ix_list (pv 0) pe_int (fun _ _ => rfl)) (pv 1)) (pg_sub (pv 0) pe_int set_list)) (pss_one (ps_ret (pv 2))))) pss_nil)
      (pss_cons (ps_asg (pe_op op_mod (pe_op op_add (pe_op op_mul (pe_ix ix_list (pv 0) pe_int (fun _ _ => rfl)) pe_int) pe_int) pe_int) (pg_sub (pv 0) pe_int set_list))
      (pss_cons (ps_set (i := 3) scTk.nd rfl (Or.inl rfl) (pe_op op_mod (pe_op op_add (pe_op op_add (pe_op op_mul (pe_ix ix_list (pv 0) pe_int (fun _ _ => rfl)) (pe_ix ix_list (pv 0) pe_int (fun _ _ => rfl))) (pe_op op_mul pe_int (pe_ix ix_list (pv 0) pe_int (fun _ _ => rfl)))) pe_int) pe_int))
      (pss_cons (ps_set (i := 3) scTk.nd rfl (Or.inl rfl) (pe_op op_mod (pe_op op_add (pe_op op_mul (pv 3) (pv 3)) (pe_op op_mul pe_int (pv 3))) pe_int))
      (pss_one (ps_ret (pe_op op_mod (pe_op op_fdiv (pv 3) pe_int) (pv 1))))))), ?_⟩
    refine ⟨_, rfl, st, _, 0, _, rfl, rfl, SqL.of h0, at0 _ _, a, 0, rfl, rfl, _, rfl, ite2 (fun hp => ?_) fun hp => ?_⟩
    · refine ⟨_, rfl, st, _, 0, _, rfl, rfl, SqL.of h0, at0 _ _, _, rfl, a, m, rfl, rfl, hm, ?_⟩
      refine ⟨_, rfl, st, _, 0, _, rfl, rfl, SqL.of h0, at0 _ _, _, rfl, a, m, rfl, rfl, ⟨hm, hm2⟩, ?_⟩
      refine ⟨_, rfl, st, _, 0, 0, rfl, rfl, h0, ix0, _, rfl, ?_⟩
      exact q _ _ (Int.emod_nonneg _ (by omega)) (Int.emod_lt_of_pos _ hm) ⟨_, _, upd_same, Int.ediv_nonneg ha (by omega), hb, hb2⟩ fun c o e n => by rw [upd_ne n]; exact e
    · have e48 : (-(2 ^ 64) < b ∧ b < 2 ^ 64) := ⟨by omega, by omega⟩
      have b1 := Int.emod_nonneg (b * 48271 + 29) (show (2147483647 : Int) ≠ 0 by decide)
      have b2 := Int.emod_lt_of_pos (b * 48271 + 29) (show (0 : Int) < 2147483647 by decide)
      refine ⟨_, rfl, st, _, 1, _, rfl, rfl, SqL.of h0, at1 _ _, b, 48271, rfl, rfl, .inl e48, _, 29, rfl, rfl, _, 2147483647, rfl, rfl, (by show (0 : Int) < 2147483647; decide), ?_⟩
      refine ⟨_, rfl, st, _, 1, 1, rfl, rfl, h0, ix1, ?_⟩
      obtain ⟨c, hc⟩ : ∃ c, (b * 48271 + 29) % 2147483647 = c := ⟨_, rfl⟩
      rw [hc] at b1 b2
      have h1 : upd H st (.lst ([V.int a, V.int b].set 1 (.int ((b * 48271 + 29) % 2147483647)))) st = some (.lst [.int a, .int c]) := by rw [← hc]; exact upd_same
      have c64 : (-(2 ^ 64) < c ∧ c < 2 ^ 64) := ⟨by omega, by omega⟩
      refine ⟨_, rfl, st, _, 1, _, rfl, rfl, SqL.of h1, at1 _ _, _, rfl, st, _, 1, _, rfl, rfl, SqL.of h1, at1 _ _, c, c, rfl, rfl, .inl c64, ?_⟩
      refine ⟨_, rfl, st, _, 1, _, rfl, rfl, SqL.of h1, at1 _ _, 39373, c, rfl, rfl, .inr c64, _, _, rfl, rfl, _, 7, rfl, rfl, _, 2147483629, rfl, rfl, (by show (0 : Int) < 2147483629; decide), ?_⟩
      have d1 := Int.emod_nonneg (c * c + 39373 * c + 7) (show (2147483629 : Int) ≠ 0 by decide)
      have d2 := Int.emod_lt_of_pos (c * c + 39373 * c + 7) (show (0 : Int) < 2147483629 by decide)
      obtain ⟨d, hd⟩ : ∃ d, (c * c + 39373 * c + 7) % 2147483629 = d := ⟨_, rfl⟩
      rw [hd] at d1 d2
      have hd' : V.int ((c * c + 39373 * c + 7) % 2147483629) = V.int d := congrArg _ hd
      have d64 : (-(2 ^ 64) < d ∧ d < 2 ^ 64) := ⟨by omega, by omega⟩
      refine ⟨_, rfl, _, rfl, d, d, hd', hd', .inl d64, _, rfl, 16807, d, rfl, hd', .inr d64, _, _, rfl, rfl, _, 2147483587, rfl, rfl, (by show (0 : Int) < 2147483587; decide), ?_⟩
      refine ⟨_, rfl, _, 8, rfl, rfl, ⟨by decide, by decide⟩, _, rfl, _, m, rfl, rfl, hm, ?_⟩
      exact q _ _ (Int.emod_nonneg _ (by omega)) (Int.emod_lt_of_pos _ hm) ⟨a, c, h1, ha, b1, b2⟩ fun c' o e n => by rw [upd_ne n]; exact e
end
end TM

set_option Elab.async false
set_option linter.all false
set_option maxRecDepth 100000
set_option maxHeartbeats 4000000
namespace TM
open PySem L2
abbrev sSame : Stmt := top 29
section
variable {P : Program} {w : World} {K : PySem.W.Frag} {mg : Str → Option Value} {base : Heap}
def spSame0 : Sp := fun vs H Q _ => ∃ a b : Bool, vs = [.bl a, .bl b] ∧ ∀ H', Same H H' → Q (.bl (a == b)) H'
theorem scSa : FnScope ["_law_found", "_law_due"] ["_law_found", "_law_due"] (defScope sSame) := ⟨rfl, rfl, rfl, by decide +kernel, rfl, by decide +kernel, by decide +kernel⟩
theorem ok_same0 (T : Blt mg) {f : Addr} {fd : FuncData} (G : Gd K mg "_law_same" sSame ["_law_found", "_law_due"] f fd) : FnOk P w K mg base CX0 1 f fd ["_law_found", "_law_due"] spSame0 := by
  refine G.fn.ok scSa (fun vs H Q E h => ?_) (fun cdv A outer s H vs Q E hr h => ?_)
  · obtain ⟨a, b, rfl, _⟩ := h
    rfl
  · obtain ⟨a, b, rfl, k⟩ := h
    refine ⟨_, pss_cons (ps_if (pt_val (pe_callB call_isi_tl rfl T.isinstance b_isinstance (pa_cons (pv 1) (pa_cons (pe_tytup (pa_cons (pe_ty b_tuple rfl T.tuple) (pa_cons (pe_ty b_list rfl T.list) pa_nil))) pa_nil)))) pss_never pss_nil)
      (pss_one (ps_ret (pe_and (pe_cmpR op_eq (pe_callB call_isi_bool rfl T.isinstance b_isinstance (pa_cons (pv 0) (pa_cons (pe_ty b_bool rfl T.bool) pa_nil))) (pe_callB call_isi_bool rfl T.isinstance b_isinstance (pa_cons (pv 1) (pa_cons (pe_ty b_bool rfl T.bool) pa_nil))) (nomark _))
        (pe_one (pe_cmpR op_eq (pv 0) (pv 1) (nomark _)))))), ?_⟩
    refine ⟨_, rfl, ["tuple", "list"], rfl, (by show 2 ≤ sizeLine; decide), fun p hp => ⟨.bl b, .bl, p, rfl, trivial, upd_same, _, rfl, ?_⟩⟩
    refine iteF ⟨_, rfl, .bl a, .bl, rfl, trivial, _, rfl, .bl b, .bl, rfl, trivial, rfl, _, rfl, ?_⟩
    refine iteT ⟨_, rfl, _, rfl, rfl, ?_⟩
    have := k _ (Same.upd (o := .ext (TyTup p ["tuple", "list"])) hp)
    rw [← dec_bl] at this
    exact this
end
end TM

set_option Elab.async false
set_option linter.all false
set_option maxRecDepth 100000
set_option maxHeartbeats 4000000
namespace TM
open PySem L2
abbrev sLMarks : Stmt := top 31
section
variable {P : Program} {w : World} {K : PySem.W.Frag} {mg : Str → Option Value} {base : Heap}
def spLMarks (K : PySem.W.Frag) : Sp := fun vs H Q _ => ∃ (st : Addr) (m : Int), vs = [.ref st, .int m] ∧ StOk H st ∧ 0 ≤ m ∧ m ≤ 8 ∧ ∀ a (ns : List Int) H', (∀ n ∈ ns, 0 ≤ n ∧ n < 8) → ns.length ≤ 8 → SqT K H' a (ns.map V.int) → StOk H' st → Ext st H H' → Q (.ref a) H'
theorem scLM : FnScope ["_law_state_here", "_law_most", "_law_way"] ["_law_state_here", "_law_most"] (defScope sLMarks) := ⟨rfl, rfl, rfl, by decide +kernel, rfl, by decide +kernel, by decide +kernel⟩
end
end TM

set_option Elab.async false
set_option linter.all false
set_option maxRecDepth 100000
set_option maxHeartbeats 4000000
namespace TM
open PySem L2
theorem Within.same {Z : Addr → Prop} {H H' : Hp} (w : Within Z H) (s : Same H H') : Within Z H' := fun b hb z => by
  cases q : H b with
  | none => exact w b hb q
  | some o => rw [s b o q] at z; cases z
def tD (K : PySem.W.Frag) (d : PyData) : TE := fun _ H Q => ∀ v H', Same H H' → (∀ Z, Within Z H → DV K Z H' d v) → Q v H'
def tDs (K : PySem.W.Frag) (ds : List PyData) : TA := fun _ H Q => ∀ vs H', Same H H' → (∀ Z, Within Z H → DVs K Z H' ds vs) → Q vs H'
theorem PE.weak {X : Cx} {e : Expr} {t t' : TE} (h : PE X e t) (w : ∀ σ H Q, t' σ H Q → t σ H Q) : PE X e t' := fun pins s σ H Q I q => h pins s σ H Q I (w σ H Q q)
theorem PA.weak {X : Cx} {e : List Expr} {t t' : TA} (h : PA X e t) (w : ∀ σ H Q, t' σ H Q → t σ H Q) : PA X e t' := fun pos pins s σ H Q I q => h pos pins s σ H Q I (w σ H Q q)
section
variable {X : Cx} {e : Expr} {es : List Expr} {d : PyData} {ds : List PyData} {pos : Pos}
theorem pd_c {v : V} {t : TE} (h : PE X e t) (ht : ∀ σ H Q, Q v H → t σ H Q) (hd : ∀ K Z H, DV K Z H d v) : PE X e (tD X.K d) := PE.weak h fun σ H Q q => ht σ H Q (q v H (Same.refl H) fun Z _ => hd X.K Z H)
theorem pd_int {i : Int} {t : TE} (h : PE X e t) (ht : ∀ σ H Q, Q (.int i) H → t σ H Q) : PE X e (tD X.K (.int i)) := pd_c h ht fun _ _ _ => rfl
theorem pd_i {i : Int} {j} : PE X (.Constant (.int i) j pos) (tD X.K (.int i)) := pd_int pe_int fun _ _ _ q => q
theorem pd_b {b : Bool} {j} : PE X (.Constant (.bool b) j pos) (tD X.K (.bool b)) := pd_c pe_bl (fun _ _ _ q => q) fun _ _ _ => rfl
theorem pd_n {j} : PE X (.Constant .none j pos) (tD X.K .none) := pd_c pe_non (fun _ _ _ q => q) fun _ _ _ => rfl
theorem pd_s {x : Str} {j} : PE X (.Constant (.str x) j pos) (tD X.K (.str x)) := pd_c pe_str (fun _ _ _ q => q) fun _ _ _ => rfl
theorem pd_nil : PA X [] (tDs X.K []) := PA.weak pa_nil fun σ H Q q => q [] H (Same.refl _) fun _ _ => rfl
theorem pd_cons (h : PE X e (tD X.K d)) (hs : PA X es (tDs X.K ds)) (hst : ∀ es', starEach (e :: es') X.env = (false, eval e X.env) :: starEach es' X.env := by intro es'; rfl) : PA X (e :: es) (tDs X.K (d :: ds)) :=
  PA.weak (pa_cons h hs (hst es)) fun σ H Q q v H1 s1 hv vs H2 s2 hvs => q (v :: vs) H2 (s1.trans s2) fun Z hw => ⟨v, vs, rfl, (hv Z hw).stay s2.stay, hvs Z (hw.same s1)⟩
theorem none_within (H : Hp) : Within (fun _ => False) H := fun _ h => h.elim
theorem pd_tup {x1} (h : PA X es (tDs X.K ds)) (hl : ds.length ≤ sizeLine) : PE X (.Tuple es x1 pos) (tD X.K (.tuple ds)) :=
  PE.weak (pe_tup h) fun σ H Q q vs H1 s1 hvs => ⟨by rw [← (hvs _ (none_within H)).length]; exact hl, fun p hp => q (.ref p) _ (s1.trans (Same.upd hp)) fun Z hw => by
    simp only [DV]
    exact ⟨p, vs, rfl, SqT.of upd_same, (hvs Z hw).stay (Same.upd hp).stay⟩⟩
theorem pd_lst (h : PA X es (tDs X.K ds)) (hl : ds.length ≤ sizeLine) : PE X (.List es pos) (tD X.K (.list ds)) :=
  PE.weak (pe_lst h) fun σ H Q q vs H1 s1 hvs => ⟨by rw [← (hvs _ (none_within H)).length]; exact hl, fun p hp => q (.ref p) _ (s1.trans (Same.upd hp)) fun Z hw => by
    simp only [DV]
    exact ⟨p, vs, rfl, fun z => hw p z (s1.free hp), upd_same, (hvs Z hw).stay (Same.upd hp).stay⟩⟩
theorem pd_d0 : PE X (.Dict [] [] pos) (tD X.K (.dict [])) :=
  PE.weak pe_dnewK fun σ H Q q p hp => q (.ref p) _ (Same.upd hp) fun Z hw => by
    simp only [DV]
    exact ⟨p, [], rfl, fun z => hw p z hp, upd_same, [], rfl, rfl⟩
theorem pd_d1 {x : Str} {i : Int} {j k} {p1 p2 : Pos} : PE X (.Dict [some (.Constant (.str x) j p1)] [.Constant (.int i) k p2] pos) (tD X.K (.dict [(.str x, .int i)])) :=
  PE.weak (pe_disp (pps_cons pe_str pe_int pps_nil) rfl rfl (by simp) (by simp)) fun σ H Q q p hp => ⟨upd_same, [(Sum.inr x, .int i)], rfl, by simp, q (.ref p) _ (fun b o hb => by
    have hne : b ≠ p := ne_of_none hb hp
    rw [upd_ne hne, upd_ne hne]; exact hb) fun Z hw => by
    simp only [DV]
    exact ⟨p, _, rfl, fun z => hw p z hp, upd_same, [(Sum.inr x, i)], rfl, rfl⟩⟩
end
end TM

set_option Elab.async false
set_option linter.all false
set_option maxRecDepth 100000
set_option maxHeartbeats 4000000
namespace TM
open PySem L2
theorem len_le {α : Type} {l : List α} (h : l.length ≤ 1000) : l.length ≤ sizeLine := Nat.le_trans h (by decide)
mutual
def dataOf : Expr → Option PyData
  | .Constant c _ _ => match c with
    | .int i => some (.int i)
    | .bool b => some (.bool b)
    | .none => some .none
    | .str x => some (.str x)
    | _ => none
  | .UnaryOp .USub e _ => match dataOf e with
    | some (.int i) => some (.int (-i))
    | _ => none
  | .BinOp a .Pow b _ => match dataOf a, dataOf b with
    | some (.int i), some (.int j) => if 0 ≤ j ∧ j ≤ 40 ∧ i = 10 then some (.int (i ^ j.toNat)) else none
    | _, _ => none
  | .Tuple es _ _ => match dataOfs es with
    | some ds => if ds.length ≤ 1000 then some (.tuple ds) else none
    | none => none
  | .List es _ => match dataOfs es with
    | some ds => if ds.length ≤ 1000 then some (.list ds) else none
    | none => none
  | .Dict ks vs _ => match ks, vs with
    | [], [] => some (.dict [])
    | [some (.Constant (.str x) _ _)], [.Constant (.int i) _ _] => some (.dict [(.str x, .int i)])
    | _, _ => none
  | _ => none
def dataOfs : List Expr → Option (List PyData)
  | [] => some []
  | e :: es => match dataOf e, dataOfs es with
    | some d, some ds => some (d :: ds)
    | _, _ => none
end
theorem no_star {e : Expr} {d : PyData} (h : dataOf e = some d) (es : List Expr) (env : Env) : starEach (e :: es) env = (false, eval e env) :: starEach es env := by
  cases e <;> first | rfl | (simp [dataOf] at h)
mutual
theorem pd_of {X : Cx} : ∀ (e : Expr) (d : PyData), dataOf e = some d → PE X e (tD X.K d)
  | .Constant c j pos, d, h => by
    cases c <;> simp [dataOf] at h <;> subst h
    all_goals first | exact pd_i | exact pd_b | exact pd_n | exact pd_s
  | .UnaryOp op e pos, d, h => by
    cases op <;> simp [dataOf] at h
    split at h
    · rename_i i hi
      simp at h; subst h
      have k := pd_of (X := X) e _ hi
      exact PE.weak (pe_un un_neg k) fun σ H Q q v H' s hv => by
        have e : v = .int i := hv (fun _ => False) (none_within H)
        subst e
        exact ⟨i, rfl, q _ _ s fun _ _ => rfl⟩
    · cases h
  | .BinOp a op b pos, d, h => by
    cases op <;> simp [dataOf] at h
    split at h
    · rename_i i j hi hj
      split at h
      · rename_i hc
        simp at h; subst h
        have ka := pd_of (X := X) a _ hi
        have kb := pd_of (X := X) b _ hj
        exact PE.weak (pe_op op_pow ka kb) fun σ H Q q v H1 s1 h1 w H2 s2 h2 => by
          have e : v = .int i := h1 (fun _ => False) (none_within H)
          have e' : w = .int j := h2 (fun _ => False) (none_within H1)
          subst e e'
          exact ⟨i, j, rfl, rfl, ⟨hc.1, by omega, by rw [hc.2.2]; decide⟩, q _ _ (s1.trans s2) fun _ _ => rfl⟩
      · cases h
    · cases h
  | .Tuple es k pos, d, h => by
    simp only [dataOf] at h
    split at h
    · rename_i ds hds
      split at h
      · rename_i hl
        simp at h; subst h
        exact pd_tup (pds_of es ds hds) (len_le hl)
      · cases h
    · cases h
  | .List es pos, d, h => by
    simp only [dataOf] at h
    split at h
    · rename_i ds hds
      split at h
      · rename_i hl
        simp at h; subst h
        exact pd_lst (pds_of es ds hds) (len_le hl)
      · cases h
    · cases h
  | .Dict ks vs pos, d, h => by
    simp only [dataOf] at h
    split at h
    · simp at h; subst h; exact pd_d0
    · simp at h; subst h; exact pd_d1
    · cases h
  | .BoolOp .., d, h => by simp [dataOf] at h
  | .NamedExpr .., d, h => by simp [dataOf] at h
  | .Lambda .., d, h => by simp [dataOf] at h
  | .IfExp .., d, h => by simp [dataOf] at h
  | .Set .., d, h => by simp [dataOf] at h
  | .ListComp .., d, h => by simp [dataOf] at h
  | .SetComp .., d, h => by simp [dataOf] at h
  | .DictComp .., d, h => by simp [dataOf] at h
  | .GeneratorExp .., d, h => by simp [dataOf] at h
  | .Await .., d, h => by simp [dataOf] at h
  | .Yield .., d, h => by simp [dataOf] at h
  | .YieldFrom .., d, h => by simp [dataOf] at h
  | .Compare .., d, h => by simp [dataOf] at h
  | .Call .., d, h => by simp [dataOf] at h
  | .FormattedValue .., d, h => by simp [dataOf] at h
  | .JoinedStr .., d, h => by simp [dataOf] at h
  | .Attribute .., d, h => by simp [dataOf] at h
  | .Subscript .., d, h => by simp [dataOf] at h
  | .Starred .., d, h => by simp [dataOf] at h
  | .Name .., d, h => by simp [dataOf] at h
  | .Slice .., d, h => by simp [dataOf] at h
theorem pds_of {X : Cx} : ∀ (es : List Expr) (ds : List PyData), dataOfs es = some ds → PA X es (tDs X.K ds)
  | [], ds, h => by simp [dataOfs] at h; subst h; exact pd_nil
  | e :: es, ds, h => by
    simp only [dataOfs] at h
    split at h
    · rename_i d ds' h1 h2
      simp at h; subst h
      exact pd_cons (pd_of e d h1) (pds_of es ds' h2) fun es' => no_star h1 es' X.env
    · cases h
end
end TM

set_option Elab.async false
set_option linter.all false
set_option maxRecDepth 100000
set_option maxHeartbeats 4000000
namespace TM
open PySem L2
abbrev sOdd : Stmt := top 30
def odds1 : List PyData := [.none, .bool true, .bool false, .int (-1), .int 8, .int 31, .int 4, .str "", .str "0", .str "made", .tuple [], .list [], .dict [], .tuple [.int 0], .list [.int 0], .int (10 ^ (29 : Int).toNat), .int (-(10 ^ (20 : Int).toNat)), .tuple [.int 8]]
def odds2 : List PyData := [.tuple [.str "made"], .tuple [.int 0, .int 0], .tuple [.tuple [.int 0], .tuple [.int 0]], .dict [(.str "made", .int 0)], .tuple [.tuple [], .tuple []], .tuple [.tuple [.bool true], .tuple []], .tuple [.tuple [.int 1, .int 0], .tuple []], .str "made 0 0 -/-"]
section
variable {P : Program} {w : World} {K : PySem.W.Frag} {mg : Str → Option Value} {base : Heap}
theorem StOk.same {H H' : Hp} {st : Addr} (h : StOk H st) (s : Same H H') : StOk H' st := by
  obtain ⟨a, b, h0, r⟩ := h
  exact ⟨a, b, s _ _ h0, r⟩
theorem StOk.some {H : Hp} {st : Addr} (h : StOk H st) : H st ≠ none := by
  obtain ⟨a, b, h0, r⟩ := h
  rw [h0]; exact fun z => by cases z
def lstOf : Stmt → List Expr
  | .Assign _ (.List es _) _ => es
  | .Assign _ (.BinOp _ _ (.List es _) _) _ => es
  | _ => []
def eOdd (i : Nat) : List Expr := lstOf ((defBody sOdd).getD i (.Pass ⟨0, 0, 0, 0⟩))
def spOdd (K : PySem.W.Frag) : Sp := fun vs H Q _ => ∃ (st : Addr), vs = [.ref st] ∧ StOk H st ∧ ∀ d v H', d ∈ odds1 ++ odds2 → (∀ Z, Z st → Within Z H → DV K Z H' d v) → StOk H' st → Ext st H H' → Q v H'
theorem scOd : FnScope ["_law_state_here", "_law_some"] ["_law_state_here"] (defScope sOdd) := ⟨rfl, rfl, rfl, by decide +kernel, rfl, by decide +kernel, by decide +kernel⟩
theorem ok_odd {f fT : Addr} {fd fdT : FuncData} (G : Gd K mg "_law_odd" sOdd ["_law_state_here"] f fd) (GT : Gd K mg "_law_take" sTake ["_law_state_here", "_law_many"] fT fdT) : FnOk P w K mg base CX0 2 f fd ["_law_state_here"] (spOdd K) := by
  refine G.fn.ok scOd (fun vs H Q E h => ?_) (fun cdv A outer s H vs Q E hr h => ?_)
  · obtain ⟨st, rfl, _⟩ := h
    rfl
  · obtain ⟨st, rfl, hs, k⟩ := h
    have z0 : ∀ {l : List PyData}, l.length ≤ 1000 → l.length ≤ sizeLine := len_le
    refine ⟨_, pss_cons (ps_set (i := 1) scOd.nd rfl (Or.inl rfl) (pe_lst (pds_of _ odds1 (by kernel_rfl))))
      (pss_cons (ps_set (i := 1) scOd.nd rfl (Or.inl rfl) (pe_op (tb := tLst (tDs K odds2)) op_cat (pv 1) ?e2))
      (pss_one (ps_ret (pe_ix ix_list (pv 1) (pe_call (ok_take GT) hr rfl GT.mg GT.fn.kp GT.b .nil pass0 (pa_cons (pv 0) (pa_cons pe_int pa_nil))) (fun _ _ => rfl))))), ?_⟩
    case e2 =>
      refine pe_lst ?_
      refine pds_of _ odds2 ?_
      kernel_rfl
    intro vs1 H1 s1 hv1
    have l1 := (hv1 _ (none_within H)).length
    refine ⟨by rw [← l1]; decide, fun p1 hp1 => ?_⟩
    refine ⟨_, rfl, ?_⟩
    intro vs2 H2 s2 hv2
    have l2 := (hv2 _ (none_within _)).length
    refine ⟨by rw [← l2]; decide, fun p2 hp2 => ?_⟩
    have s12 : Same H (upd H1 p1 (.lst vs1)) := s1.trans (Same.upd hp1)
    have s3 : Same H2 (upd H2 p2 (.lst vs2)) := Same.upd hp2
    refine ⟨p1, p2, vs1, vs2, rfl, rfl, s3 _ _ (s2 _ _ upd_same), upd_same, by rw [← l1, ← l2]; decide, fun p3 hp3 => ?_⟩
    have s4 := Same.upd (o := .lst (vs1 ++ vs2)) hp3
    have sA := ((s12.trans s2).trans s3).trans s4
    have hs4 := hs.same sA
    refine ⟨_, rfl, _, rfl, st, 26, rfl, hs4, by decide, by decide, fun r H5 r0 r26 hs5 e5 => ?_⟩
    have np : p3 ≠ st := fun z => by subst z; exact (hs.same ((s12.trans s2).trans s3)).some hp3
    have hl : (vs1 ++ vs2).length = 26 := by
      rw [List.length_append, ← l1, ← l2]
      rfl
    have hlt : r.toNat < (vs1 ++ vs2).length := by omega
    have er : r = ((r.toNat : Nat) : Int) := by omega
    have ea := atI_nat (List.getElem?_eq_getElem hlt)
    rw [← er] at ea
    refine ⟨p3, _, r, _, rfl, rfl, SqL.of (e5 _ _ upd_same np), ea, ?_⟩
    have dvs : ∀ Z, Within Z H → DVs K Z _ (odds1 ++ odds2) (vs1 ++ vs2) := fun Z hw => DVs.append (((hv1 Z hw).stay ((Same.upd hp1).trans ((s2.trans s3).trans s4)).stay)) ((hv2 Z (hw.same s12)).stay (s3.trans s4).stay)
    obtain ⟨d, ed, _⟩ := (dvs _ (none_within H)).get r.toNat _ (List.getElem?_eq_getElem hlt)
    refine k d _ _ (List.mem_of_getElem? ed) (fun Z hZ hw => ?_) hs5 ((Ext.of sA).trans e5)
    obtain ⟨d', ed', hd'⟩ := (dvs Z hw).get r.toNat _ (List.getElem?_eq_getElem hlt)
    rw [ed] at ed'
    cases ed'
    exact hd'.stay (e5.stay hs4 hZ)
end
end TM

set_option Elab.async false
set_option linter.all false
set_option maxRecDepth 100000
set_option maxHeartbeats 4000000
namespace L2
open PySem PySem.Spec PyProof.Rows
theorem take_one {α : Type} {bs : List α} {i : Nat} (h : i < bs.length) : bs.take (i + 1) = bs.take i ++ [bs[i]] := by
  rw [List.take_add_one, List.getElem?_eq_getElem h]
  rfl
section
variable {K : PySem.W.Frag} {caps : St} {H : Hp} {te : TE} {Q : VK}
theorem cw_boolsT {a : Addr} {xs : List V} (bs : List Bool) (hb : bs.length = xs.length) (hl : xs.length ≤ 1000) (ha : SqT K H a xs)
    (hs : ∀ i x H' (R : VK), xs[i]? = some x → Same H H' → (∀ H6, Same H' H6 → R (.bl (bs.getD i false)) H6) → te (some x :: caps) H' R)
    (hd : ∀ H' D, Same H H' → H' D = some (.lst (bs.map V.bl)) → Q (.ref D) H') : CW (Itt K a) 1 caps (gName 0) tYes te H Q := by
  have hz : (1000 : Nat) ≤ sizeLine := by decide
  refine cw_tup (xs := xs) (fun i acc H' => Same H H' ∧ acc = (bs.take i).map V.bl) ⟨Same.refl _, rfl⟩ (fun i acc H' hi q => ⟨by rw [q.2, List.length_map, List.length_take]; omega, q.1.sqT ha⟩) (fun i x acc H' hx q => ?_) (fun acc H' q D hD => ?_)
  · have hi : i < bs.length := by rw [hb]; exact (List.getElem?_eq_some_iff.mp hx).1
    refine hs i x H' _ hx q.1 fun H6 s6 => ⟨q.1.trans s6, ?_⟩
    rw [q.2, take_one hi, List.map_append]
    simp [List.getD, List.getElem?_eq_getElem hi]
  · refine hd _ D (q.1.trans (Same.upd hD)) ?_
    rw [upd_same, q.2, List.take_of_length_le (by omega)]
theorem cw_boolsR {lo : Int} {n : Nat} (bs : List Bool) (hb : bs.length = n) (hl : n ≤ 1000)
    (hs : ∀ i H' (R : VK), i < n → Same H H' → (∀ H6, Same H' H6 → R (.bl (bs.getD i false)) H6) → te (some (.int (lo + i)) :: caps) H' R)
    (hd : ∀ H' D, Same H H' → H' D = some (.lst (bs.map V.bl)) → Q (.ref D) H') : CW (Itr lo n) 1 caps (gName 0) tYes te H Q := by
  have hz : (1000 : Nat) ≤ sizeLine := by decide
  refine cw_range (fun i acc H' => Same H H' ∧ acc = (bs.take i).map V.bl) ⟨Same.refl _, rfl⟩ (fun i acc H' hi q => by rw [q.2, List.length_map, List.length_take]; omega) (fun i acc H' hi q => ?_) (fun acc H' q D hD => ?_)
  · have hi' : i < bs.length := by omega
    refine hs i H' _ hi q.1 fun H6 s6 => ⟨q.1.trans s6, ?_⟩
    rw [q.2, take_one hi', List.map_append]
    simp [List.getD, List.getElem?_eq_getElem hi']
  · refine hd _ D (q.1.trans (Same.upd hD)) ?_
    rw [upd_same, q.2, List.take_of_length_le (by omega)]
theorem cw_boolsE {a : Addr} {xs : List V} (bs : List Bool) (hb : bs.length = xs.length) (hl : xs.length ≤ 1000) (ha : SqT K H a xs)
    (hs : ∀ i x H' (R : VK), xs[i]? = some x → Same H H' → (∀ H6, Same H' H6 → R (.bl (bs.getD i false)) H6) → te (some (.int i) :: some x :: caps) H' R)
    (hd : ∀ H' D, Same H H' → H' D = some (.lst (bs.map V.bl)) → Q (.ref D) H') : CW (IteT K a) 2 caps (gTup K 2 (gCons (gName 0) (gCons (gName 1) gNil))) tYes te H Q := by
  have hz : (1000 : Nat) ≤ sizeLine := by decide
  refine cw_enumT (xs := xs) (fun i acc H' => Same H H' ∧ acc = (bs.take i).map V.bl) ⟨Same.refl _, rfl⟩ (fun i acc H' hi q => ⟨by rw [q.2, List.length_map, List.length_take]; omega, q.1.sqT ha⟩) (fun i x acc H' p hx q hp => ?_) (fun acc H' q D hD => ?_)
  · have hi : i < bs.length := by rw [hb]; exact (List.getElem?_eq_some_iff.mp hx).1
    refine hs i x _ _ hx (q.1.trans (Same.upd hp)) fun H6 s6 => ⟨(q.1.trans (Same.upd hp)).trans s6, ?_⟩
    rw [q.2, take_one hi, List.map_append]
    simp [List.getD, List.getElem?_eq_getElem hi]
  · refine hd _ D (q.1.trans (Same.upd hD)) ?_
    rw [upd_same, q.2, List.take_of_length_le (by omega)]
end
end L2
namespace TM
open PySem L2
abbrev sHas : Stmt := top 11
abbrev sLaid : Stmt := top 12
abbrev sNeed : Stmt := top 18
theorem inV_ints (m : Int) (os : List Int) : inV (.int m) (os.map V.int) = os.any fun o => o == m := by
  unfold inV
  rw [List.any_map]
  rfl
theorem flat_ints (os : List Int) : (os.map V.int).all flatV = true := by
  rw [List.all_map, List.all_eq_true]
  intro x _
  rfl
def hasAll (ms os : List Int) : Bool := os.all fun o => ms.any fun m => m == o
def GoodM (r : List Int) : Prop := (∀ x ∈ r, 0 ≤ x ∧ x < 8) ∧ adj r = true ∧ r.length ≤ 8
def GoodRun (rs : List (List Int)) : Prop := 1 ≤ rs.length ∧ rs.length ≤ 10 ∧ ∀ r ∈ rs, GoodM r
def mk' (rs : List (List Int)) (k : Int) : List Int := rs.getD k.toNat []
def Tst (K : PySem.W.Frag) (H H' : Hp) : Prop := ∀ b xs, SqT K H b xs → SqT K H' b xs
section
variable {P : Program} {w : World} {K : PySem.W.Frag} {mg : Str → Option Value} {base : Heap}
theorem Tst.of {H H' : Hp} (s : Same H H') : Tst K H H' := fun b xs h => s.sqT h
def RunAt (K : PySem.W.Frag) (H : Hp) (a : Addr) (rs : List (List Int)) : Prop := ∃ as : List Addr, SqT K H a (as.map V.ref) ∧ as.length = rs.length ∧ ∀ i c, as[i]? = some c → SqT K H c ((rs.getD i []).map V.int)
theorem RunAt.tst {H H' : Hp} {a : Addr} {rs : List (List Int)} (h : RunAt K H a rs) (t : Tst K H H') : RunAt K H' a rs := by
  obtain ⟨as, h1, h2, h3⟩ := h
  exact ⟨as, t _ _ h1, h2, fun i c e => t _ _ (h3 i c e)⟩
theorem RunAt.at {H : Hp} {a : Addr} {rs : List (List Int)} (h : RunAt K H a rs) (k : Int) (h0 : 0 ≤ k) (h1 : k < rs.length) : ∃ xs c, SqT K H a xs ∧ xs.length = rs.length ∧ atI xs k = some (.ref c) ∧ SqT K H c ((mk' rs k).map V.int) := by
  obtain ⟨as, g1, g2, g3⟩ := h
  have hk : k.toNat < as.length := by omega
  have e : as[k.toNat]? = some as[k.toNat] := List.getElem?_eq_getElem hk
  have ea := atI_nat (show (as.map V.ref)[k.toNat]? = some (V.ref as[k.toNat]) by rw [List.getElem?_map, e]; rfl)
  rw [show ((k.toNat : Nat) : Int) = k by omega] at ea
  exact ⟨_, _, g1, by rw [List.length_map]; exact g2, ea, g3 _ _ e⟩
def spHas (K : PySem.W.Frag) : Sp := fun vs H Q _ => ∃ (a b : Addr) (ms os : List Int), vs = [.ref a, .ref b] ∧ SqT K H a (ms.map V.int) ∧ SqT K H b (os.map V.int) ∧ os.length ≤ 1000 ∧ ∀ H', Same H H' → Q (.bl (hasAll ms os)) H'
theorem scHs : FnScope ["marks", "others"] ["marks", "others"] (defScope sHas) := ⟨rfl, rfl, rfl, by decide +kernel, rfl, by decide +kernel, by decide +kernel⟩
theorem ok_has (T : Blt mg) {f : Addr} {fd : FuncData} (G : Gd K mg "has_all" sHas ["marks", "others"] f fd) : FnOk P w K mg base CX0 1 f fd ["marks", "others"] (spHas K) := by
  have nd : (["mark", "marks"] : List Str).Nodup := by decide +kernel
  refine G.fn.ok scHs (fun vs H Q E h => ?_) (fun cdv A outer s H vs Q E hr h => ?_)
  · obtain ⟨a, b, ms, os, rfl, _⟩ := h
    rfl
  · obtain ⟨a, b, ms, os, rfl, ha, hb, hl, k⟩ := h
    refine ⟨_, pss_one (ps_ret (pe_callB (call_all rfl) rfl T.all b_all (pa_cons (pe_comp (N := ["mark", "marks"]) (nt := 1) (cap := [0]) rfl (cs_of (by kernel_rfl)) gok_name (pi_tup (pv 1))
      (fun cl C s H ex pn => ⟨pg_name (i := 0) nd rfl (Or.inl rfl), pf_nil, pe_cmpR (r := rIn K false) op_in_seq (pv 0) (pv 1) rfl⟩)) pa_nil))), ?_⟩
    refine ⟨_, rfl, b, rfl, ⟨_, hb⟩, ?_⟩
    refine cw_boolsT (xs := os.map V.int) (os.map fun o => ms.any fun m => m == o) (by simp) (by simpa using hl) hb (fun i x H' R hx s1 hR => ?_) (fun H' D s1 hD => ?_)
    · rw [List.getElem?_map] at hx
      cases em : os[i]? with
      | none => rw [em] at hx; cases hx
      | some m =>
        rw [em] at hx
        cases hx
        refine ⟨_, rfl, _, rfl, a, ms.map V.int, rfl, .inr (s1.sqT ha), rfl, flat_ints ms, ?_⟩
        have := hR H' (Same.refl _)
        rw [inV_ints]
        simpa [List.getD, em] using this
    · refine ⟨D, _, rfl, SqL.of hD, ?_⟩
      have := k _ s1
      unfold hasAll at this
      rw [List.all_map]
      exact this
theorem good_data {r : List Int} (h : GoodM r) : areMarks (.tuple (r.map .int)) = true ∧ Short (.tuple (r.map .int)) := by
  refine ⟨?_, by show (r.map PyData.int).length ≤ 1000; rw [List.length_map]; have := h.2.2; omega⟩
  have e : (r.map PyData.int).map toI = r := by rw [List.map_map]; exact List.map_id'' (fun x => rfl) r
  show ((r.map PyData.int).all isMark && adj ((r.map PyData.int).map toI)) = true
  rw [e, h.2.1, Bool.and_true, List.all_map, List.all_eq_true]
  intro x hx
  have := h.1 x hx
  show (decide (0 ≤ x) && decide (x < 8)) = true
  simp [this]
theorem dvs_ints {Z : Addr → Prop} {H : Hp} : ∀ ns : List Int, DVs K Z H (ns.map PyData.int) (ns.map V.int)
  | [] => rfl
  | n :: ns => ⟨.int n, ns.map V.int, rfl, rfl, dvs_ints ns⟩
theorem dv_ints {Z : Addr → Prop} {H : Hp} {a : Addr} {ns : List Int} (h : SqT K H a (ns.map V.int)) : DV K Z H (.tuple (ns.map .int)) (.ref a) := by
  simp only [DV]
  exact ⟨a, _, rfl, h, dvs_ints ns⟩
def spLaid (K : PySem.W.Frag) : Sp := fun vs H Q _ => ∃ (a : Addr) (rs : List (List Int)), vs = [.ref a, .int 10] ∧ RunAt K H a rs ∧ GoodRun rs ∧ ∀ H', Same H H' → Q (.bl true) H'
theorem scLd : FnScope ["thing", "most"] ["thing", "most"] (defScope sLaid) := ⟨rfl, rfl, rfl, by decide +kernel, rfl, by decide +kernel, by decide +kernel⟩
theorem ok_laid (S : P1 K mg) {f : Addr} {fd : FuncData} (G : Gd K mg "are_laid_marks" sLaid ["thing", "most"] f fd) : FnOk P w K mg base CX0 5 f fd ["thing", "most"] (spLaid K) := by
  obtain ⟨fM, fdM, GM⟩ := S.marks
  have nd : (["marks"] : List Str).Nodup := by decide +kernel
  refine G.fn.ok scLd (fun vs H Q E h => ?_) (fun cdv A outer s H vs Q E hr h => ?_)
  · obtain ⟨a, rs, rfl, _⟩ := h
    rfl
  · obtain ⟨a, rs, rfl, hR, hg, k⟩ := h
    obtain ⟨as, h1, h2, h3⟩ := hR
    refine ⟨_, pss_one (ps_ret (pe_and (pe_callB call_isi_tuple rfl S.T.isinstance b_isinstance (pa_cons (pv 0) (pa_cons (pe_ty b_tuple rfl S.T.tuple) pa_nil)))
      (pe_and (pe_chain op_le op_le pe_int (pe_callB call_len_seq rfl S.T.len b_len (pa_cons (pv 0) pa_nil)) (pv 1))
      (pe_one (pe_callB (call_all rfl) rfl S.T.all b_all (pa_cons (pe_comp (N := ["marks"]) (nt := 1) (cap := []) rfl (cs_of (by kernel_rfl)) gok_name (pi_tup (pv 0))
        (fun cl C s H ex pn => ⟨pg_name (i := 0) nd rfl (Or.inl rfl), pf_nil, pe_call (ok_marks S GM) hr rfl GM.mg GM.fn.kp GM.b .nil pass0 (pa_cons (pv 0) pa_nil)⟩)) pa_nil)))))), ?_⟩
    refine ⟨_, rfl, .ref a, .tup, rfl, ⟨_, h1⟩, _, rfl, iteT ⟨_, rfl, a, _, rfl, .inr h1, 1, _, rfl, rfl, _, rfl, ?_⟩⟩
    have l1 : decide ((1 : Int) ≤ ((as.map V.ref).length : Nat)) = true := by
      rw [List.length_map, h2]
      have := hg.1
      exact decide_eq_true (by omega)
    have l2 : decide ((((as.map V.ref).length : Nat) : Int) ≤ 10) = true := by
      rw [List.length_map, h2]
      have := hg.2.1
      exact decide_eq_true (by omega)
    rw [l1]
    refine iteT ⟨_, rfl, _, _, rfl, rfl, ?_⟩
    refine ⟨_, rfl, ?_⟩
    rw [l2]
    refine iteT ⟨_, rfl, a, rfl, ⟨_, h1⟩, ?_⟩
    refine cw_boolsT (xs := as.map V.ref) (as.map fun _ => true) (by simp) (by rw [List.length_map, h2]; have := hg.2.1; omega) h1 (fun i x H' R hx s1 hR => ?_) (fun H' D s1 hD => ?_)
    · rw [List.getElem?_map] at hx
      cases em : as[i]? with
      | none => rw [em] at hx; cases hx
      | some c =>
        rw [em] at hx
        cases hx
        have hi : i < rs.length := by rw [← h2]; exact (List.getElem?_eq_some_iff.mp em).1
        have hgm := hg.2.2 (rs.getD i []) (by simp [List.getD, List.getElem?_eq_getElem hi])
        obtain ⟨g1, g2⟩ := good_data hgm
        refine ⟨_, rfl, fun _ => False, _, _, rfl, dv_ints (s1.sqT (h3 i c em)), g2, fun H6 s6 => ?_⟩
        have := hR H6 s6
        rw [g1]
        simpa [List.getD, em] using this
    · refine ⟨D, _, rfl, SqL.of hD, ?_⟩
      have := k _ s1
      rw [show (as.map fun _ => true).all id = true by simp]
      exact this
end
end TM

set_option Elab.async false
set_option linter.all false
set_option maxRecDepth 100000
set_option maxHeartbeats 4000000
namespace TM
open PySem L2
abbrev sWays : Stmt := top 19
abbrev sBounds : Stmt := top 20
def ways (rs : List (List Int)) (p o : Int) : List (Int × Int) :=
  (if hasAll (mk' rs (p + 1)) (mk' rs p) = true then [(o, 1)] else []) ++ (if (decide (o = -1) || hasAll (mk' rs (p + 1)) (mk' rs o)) = true then [(p, 0)] else [])
theorem SqT.lst {K : PySem.W.Frag} {H : Hp} {D : Addr} {xs ys : List V} (h : H D = some (.lst xs)) : Tst K H (upd H D (.lst ys)) := by
  intro b zs q
  rcases q with (q | ⟨o, q⟩) | q
  · exact .inl (.inl (by rw [upd_ne (ne_of q h (by intro z; cases z))]; exact q))
  · exact .inl (.inr ⟨o, by rw [upd_ne (ne_of q h (by intro z; cases z))]; exact q⟩)
  · exact .inr q
theorem Tst.trans {K : PySem.W.Frag} {H H1 H2 : Hp} (a : Tst K H H1) (b : Tst K H1 H2) : Tst K H H2 := fun c xs h => b _ _ (a _ _ h)
theorem Same.upd2 {H H1 : Hp} {D : Addr} {o : HO} (s : Same H H1) (h : H D = none) : Same H (upd H1 D o) := fun b u e => by
  rw [upd_ne (ne_of_none e h)]
  exact s b u e
def PsAt (K : PySem.W.Frag) (H : Hp) (vs : List V) (ws : List (Int × Int)) : Prop := vs.length = ws.length ∧ ∀ (i : Nat) x, vs[i]? = some x → ∃ (p : Addr) (w : Int × Int), ws[i]? = some w ∧ x = V.ref p ∧ SqT K H p [V.int w.1, V.int w.2]
theorem PsAt.tst {K : PySem.W.Frag} {H H' : Hp} {vs : List V} {ws : List (Int × Int)} (h : PsAt K H vs ws) (t : Tst K H H') : PsAt K H' vs ws :=
  ⟨h.1, fun i x e => let ⟨p, w, a, b, c⟩ := h.2 i x e; ⟨p, w, a, b, t _ _ c⟩⟩
theorem PsAt.snoc {K : PySem.W.Frag} {H : Hp} {vs : List V} {ws : List (Int × Int)} {p : Addr} {b c : Int} (h : PsAt K H vs ws) (q : SqT K H p [.int b, .int c]) : PsAt K H (vs ++ [.ref p]) (ws ++ [(b, c)]) := by
  refine ⟨by simp [h.1], fun i x e => ?_⟩
  by_cases hi : i < vs.length
  · rw [List.getElem?_append_left hi] at e
    obtain ⟨p', w, e1, e2, e3⟩ := h.2 i x e
    exact ⟨p', w, by rw [List.getElem?_append_left (by rw [← h.1]; exact hi)]; exact e1, e2, e3⟩
  · rw [List.getElem?_append_right (by omega)] at e
    have hj : i - vs.length = 0 := by
      cases hk : i - vs.length with
      | zero => rfl
      | succ k => rw [hk] at e; cases e
    rw [hj] at e
    cases e
    refine ⟨p, (b, c), ?_, rfl, q⟩
    rw [List.getElem?_append_right (by rw [← h.1]; omega), ← h.1, hj]
    rfl
theorem PsAt.nil {K : PySem.W.Frag} {H : Hp} : PsAt K H [] [] := ⟨rfl, fun i x e => by cases e⟩
theorem tSeq_mid {t u : TS} {D : Ends} {σ : St} {H : Hp} (M : St → Hp → Prop) (h1 : ∀ nx : St → Hp → Prop, (∀ σ H, M σ H → nx σ H) → t { D with nx := nx } σ H) (h2 : ∀ σ H, M σ H → u D σ H) : tSeq t u D σ H := h1 _ h2
theorem mk_len {rs : List (List Int)} (h : GoodRun rs) (k : Int) : (mk' rs k).length ≤ 1000 := by
  unfold mk'
  cases e : rs[k.toNat]? with
  | none => simp [List.getD, e]
  | some r =>
    have := (h.2.2 r (List.mem_of_getElem? e)).2.2
    simp only [List.getD, e, Option.getD_some]
    omega
section
variable {P : Program} {w : World} {K : PySem.W.Frag} {mg : Str → Option Value} {base : Heap}
structure P2 (K : PySem.W.Frag) (mg : Str → Option Value) : Prop where
  S : P1 K mg
  gR : GlobI mg "RUN" 10
  gN : GlobI mg "NO_OTHER" (-1)
  has : ∃ f fd, Gd K mg "has_all" sHas ["marks", "others"] f fd
  laid : ∃ f fd, Gd K mg "are_laid_marks" sLaid ["thing", "most"] f fd
  need : ∃ f fd, Gd K mg "need_run" sNeed ["thing"] f fd
  ways : ∃ f fd, Gd K mg "ways_on" sWays ["run", "place", "other"] f fd
  bounds : ∃ f fd, Gd K mg "bounds_at" sBounds ["run", "place", "other", "after"] f fd
def spNeed (K : PySem.W.Frag) : Sp := fun vs H Q _ => ∃ (a : Addr) (rs : List (List Int)), vs = [.ref a] ∧ RunAt K H a rs ∧ GoodRun rs ∧ ∀ H', Same H H' → Q .non H'
theorem scNd : FnScope ["thing"] ["thing"] (defScope sNeed) := ⟨rfl, rfl, rfl, by decide +kernel, rfl, by decide +kernel, by decide +kernel⟩
theorem ok_need (S : P2 K mg) {f : Addr} {fd : FuncData} (G : Gd K mg "need_run" sNeed ["thing"] f fd) : FnOk P w K mg base CX0 6 f fd ["thing"] (spNeed K) := by
  obtain ⟨fL, fdL, GL⟩ := S.laid
  refine G.fn.ok scNd (fun vs H Q E h => ?_) (fun cdv A outer s H vs Q E hr h => ?_)
  · obtain ⟨a, rs, rfl, _⟩ := h
    rfl
  · obtain ⟨a, rs, rfl, hR, hg, k⟩ := h
    refine ⟨_, pss_one (ps_if (pt_not (pt_val (pe_call (ok_laid S.S GL) hr rfl GL.mg GL.fn.kp GL.b .nil pass0 (pa_cons (pv 0) (pa_cons (pe_gi S.gR rfl) pa_nil))))) pss_never pss_nil), ?_⟩
    refine ⟨_, rfl, a, rs, rfl, hR, hg, fun H' s' => ⟨_, rfl, iteF ?_⟩⟩
    exact k _ s'
def spWays (K : PySem.W.Frag) : Sp := fun vs H Q _ => ∃ (a : Addr) (rs : List (List Int)) (p o : Int), vs = [.ref a, .int p, .int o] ∧ RunAt K H a rs ∧ GoodRun rs ∧ 0 ≤ p ∧ p + 1 < rs.length ∧ -1 ≤ o ∧ o < p ∧ ∀ H' D vs, Same H H' → H' D = some (.lst vs) → PsAt K H' vs (ways rs p o) → Q (.ref D) H'
theorem scWy : FnScope ["run", "place", "other", "marks", "ways"] ["run", "place", "other"] (defScope sWays) := ⟨rfl, rfl, rfl, by decide +kernel, rfl, by decide +kernel, by decide +kernel⟩
theorem ok_ways (S : P2 K mg) {f : Addr} {fd : FuncData} (G : Gd K mg "ways_on" sWays ["run", "place", "other"] f fd) : FnOk P w K mg base CX0 2 f fd ["run", "place", "other"] (spWays K) := by
  obtain ⟨fA, fdA, GA⟩ := S.has
  refine G.fn.ok scWy (fun vs H Q E h => ?_) (fun cdv A outer s H vs Q E hr h => ?_)
  · obtain ⟨a, rs, p, o, rfl, _⟩ := h
    rfl
  · obtain ⟨a, rs, p, o, rfl, hR, hg, hp0, hp1, ho0, ho1, k⟩ := h
    refine ⟨_, pss_cons (ps_set (i := 3) scWy.nd rfl (Or.inl rfl) (pe_ix ix_tup (pv 0) (pe_op op_add (pv 1) pe_int) (fun _ _ => rfl)))
      (pss_cons (ps_set (i := 4) scWy.nd rfl (Or.inl rfl) (pe_lst pa_nil))
      (pss_cons (ps_if (pt_val (pe_call (ok_has S.S.T GA) hr rfl GA.mg GA.fn.kp GA.b .nil pass0 (pa_cons (pv 3) (pa_cons (pe_ix ix_tup (pv 0) (pv 1) (fun _ _ => rfl)) pa_nil))))
        (pss_one (ps_expr (pe_bm PySem.F.plainAttrs_list PySem.F.slot_list_append PySem.F.type_list_append mt_append (pv 4) (pa_cons (pe_tup (pa_cons (pv 2) (pa_cons pe_int pa_nil))) pa_nil)))) pss_nil)
      (pss_cons (ps_if (PW.pt (pw_or (pt_cmpR op_eq (pv 2) (pe_gi S.gN rfl) (nomark _)) (pw_or1 (pt_val (pe_call (ok_has S.S.T GA) hr rfl GA.mg GA.fn.kp GA.b .nil pass0 (pa_cons (pv 3) (pa_cons (pe_ix ix_tup (pv 0) (pv 2) (fun _ _ => rfl)) pa_nil)))))))
        (pss_one (ps_expr (pe_bm PySem.F.plainAttrs_list PySem.F.slot_list_append PySem.F.type_list_append mt_append (pv 4) (pa_cons (pe_tup (pa_cons (pv 1) (pa_cons pe_int pa_nil))) pa_nil)))) pss_nil)
      (pss_one (ps_ret (pv 4)))))), ?_⟩
    obtain ⟨xs1, m, q1, l1, e1, z1⟩ := hR.at (p + 1) (by omega) hp1
    obtain ⟨xs2, n, q2, l2, e2, z2⟩ := hR.at p hp0 (by omega)
    refine ⟨_, rfl, _, rfl, p, 1, rfl, rfl, a, xs1, p + 1, .ref m, rfl, rfl, q1, e1, ?_⟩
    refine ⟨Nat.zero_le _, fun D hD => ?_⟩
    dsimp only [gName]
    refine tSeq_mid (fun σ H1 => σ = [some (.ref a), some (.int p), some (.int o), some (.ref m), some (.ref D)] ∧ ∃ vs, Same H H1 ∧ H1 D = some (.lst vs) ∧ vs.length ≤ 1 ∧ PsAt K H1 vs (if hasAll (mk' rs (p + 1)) (mk' rs p) = true then [(o, 1)] else [])) (fun nx hn => ?_) ?_
    · have t1 : Tst K H (upd H D (.lst [])) := Tst.of (Same.upd hD)
      refine ⟨_, rfl, _, rfl, _, rfl, a, xs2, p, .ref n, rfl, rfl, t1 _ _ q2, e2, m, n, mk' rs (p + 1), mk' rs p, rfl, t1 _ _ z1, t1 _ _ z2, mk_len hg _, fun H2 s2 => ⟨_, rfl, ite2 (fun h1 => ?_) (fun h1 => ?_)⟩⟩
      · have hD2 := s2 D _ upd_same
        refine ⟨_, rfl, .inl ⟨rfl, _, SqL.of hD2⟩, _, rfl, (by show 2 ≤ sizeLine; decide), fun t ht => ⟨D, [], .ref t, rfl, rfl, ?_, (by show 0 < sizeLine; decide), ?_⟩⟩
        · exact Same.upd ht D _ hD2
        · refine hn _ _ ⟨rfl, _, Same.upd2 (((Same.upd hD).trans s2).trans (Same.upd ht)) hD, upd_same, Nat.le_refl _, ?_⟩
          rw [if_pos h1]
          exact PsAt.snoc PsAt.nil (SqT.lst (Same.upd ht D _ hD2) _ _ (SqT.of upd_same))
      · refine hn _ _ ⟨rfl, [], (Same.upd hD).trans s2, s2 D _ upd_same, Nat.zero_le _, ?_⟩
        rw [if_neg h1]
        exact PsAt.nil
    · rintro σ H1 ⟨rfl, vs, s1, d1, lv, p1⟩
      refine tSeq_mid (fun σ H1 => σ = [some (.ref a), some (.int p), some (.int o), some (.ref m), some (.ref D)] ∧ ∃ vs, Same H H1 ∧ H1 D = some (.lst vs) ∧ PsAt K H1 vs (ways rs p o)) (fun nx hn => ?_) ?_
      · have add : ∀ H2, Same H1 H2 → (decide (o = -1) || hasAll (mk' rs (p + 1)) (mk' rs o)) = true → ∀ t, H2 t = none → nx [some (.ref a), some (.int p), some (.int o), some (.ref m), some (.ref D)] (upd (upd H2 t (.tup [.int p, .int 0])) D (.lst (vs ++ [.ref t]))) := by
          intro H2 s2 hc t ht
          refine hn _ _ ⟨rfl, _, Same.upd2 ((s1.trans s2).trans (Same.upd ht)) hD, upd_same, ?_⟩
          unfold ways
          rw [if_pos hc]
          exact PsAt.snoc ((p1.tst (Tst.of (s2.trans (Same.upd ht)))).tst (SqT.lst (Same.upd ht D _ (s2 D _ d1)))) (SqT.lst (Same.upd ht D _ (s2 D _ d1)) _ _ (SqT.of upd_same))
        refine ⟨_, rfl, rfl, _, rfl, ite2 (fun h1 => ?_) (fun h1 => ?_)⟩
        · refine iteT ⟨_, rfl, .inl ⟨rfl, _, SqL.of d1⟩, _, rfl, (by show 2 ≤ sizeLine; decide), fun t ht => ⟨D, vs, .ref t, rfl, rfl, Same.upd ht D _ d1, (Nat.lt_of_le_of_lt lv (by decide)), ?_⟩⟩
          exact add H1 (Same.refl _) (by have := of_decide_eq_true h1; cases this; rfl) t ht
        · have ho : o ≠ -1 := fun z => h1 (by rw [z]; rfl)
          obtain ⟨xs3, n3, q3, l3, e3, z3⟩ := hR.at o (by omega) (by omega)
          refine ⟨_, rfl, _, rfl, _, rfl, a, xs3, o, .ref n3, rfl, rfl, s1.sqT q3, e3, m, n3, mk' rs (p + 1), mk' rs o, rfl, s1.sqT z1, s1.sqT z3, mk_len hg _, fun H2 s2 => ⟨_, rfl, ite2 (fun h2 => ?_) (fun h2 => ?_)⟩⟩
          · refine ⟨_, rfl, .inl ⟨rfl, _, SqL.of (s2 D _ d1)⟩, _, rfl, (by show 2 ≤ sizeLine; decide), fun t ht => ⟨D, vs, .ref t, rfl, rfl, Same.upd ht D _ (s2 D _ d1), (Nat.lt_of_le_of_lt lv (by decide)), ?_⟩⟩
            exact add H2 s2 (by rw [h2, Bool.or_true]) t ht
          · refine hn _ _ ⟨rfl, vs, s1.trans s2, s2 D _ d1, ?_⟩
            unfold ways
            rw [if_neg (c := (decide (o = -1) || hasAll (mk' rs (p + 1)) (mk' rs o)) = true) (by simp [ho, h2]), List.append_nil]
            exact p1.tst (Tst.of s2)
      · rintro σ H1 ⟨rfl, vs, s1, d1, p1⟩
        exact ⟨_, rfl, k _ D vs s1 d1 p1⟩
end
end TM

set_option Elab.async false
set_option linter.all false
set_option maxRecDepth 100000
set_option maxHeartbeats 4000000
namespace L2
open PySem PySem.Spec PyProof.Rows
section
variable {K : PySem.W.Frag} {caps : St} {H : Hp} {te : TE} {Q : VK}
theorem cw_boolsL {a : Addr} {xs : List V} (bs : List Bool) (hb : bs.length = xs.length) (hl : xs.length ≤ 1000) (ha : H a = some (.lst xs))
    (hs : ∀ i x H' (R : VK), xs[i]? = some x → Same H H' → (∀ H6, Same H' H6 → R (.bl (bs.getD i false)) H6) → te (some x :: caps) H' R)
    (hd : ∀ H' D, Same H H' → H' D = some (.lst (bs.map V.bl)) → Q (.ref D) H') : CW (Itl K a) 1 caps (gName 0) tYes te H Q := by
  have hz : (1000 : Nat) ≤ sizeLine := by decide
  refine cw_list (xs := xs) (fun i acc H' => Same H H' ∧ acc = (bs.take i).map V.bl) ⟨Same.refl _, rfl⟩ (fun i acc H' hi q => ⟨by rw [q.2, List.length_map, List.length_take]; omega, SqL.of (q.1 _ _ ha)⟩) (fun i x acc H' hx q => ?_) (fun acc H' q D hD => ?_)
  · have hi : i < bs.length := by rw [hb]; exact (List.getElem?_eq_some_iff.mp hx).1
    refine hs i x H' _ hx q.1 fun H6 s6 => ⟨q.1.trans s6, ?_⟩
    rw [q.2, take_one hi, List.map_append]
    simp [List.getD, List.getElem?_eq_getElem hi]
  · refine hd _ D (q.1.trans (Same.upd hD)) ?_
    rw [upd_same, q.2, List.take_of_length_le (by omega)]
end
end L2
namespace TM
open PySem L2
abbrev sMay : Stmt := top 24
def oV : Option Int → V
  | none => .non
  | some n => .int n
def bnd (as : List (Option Int)) (w : Int × Int) : Option Int := (as.getD (w.1 + 1).toNat none).map fun x => x + w.2
def bnds (rs : List (List Int)) (p o : Int) (as : List (Option Int)) : List Int := (ways rs p o).filterMap (bnd as)
theorem ways_mem {rs : List (List Int)} {p o : Int} {w : Int × Int} (h : w ∈ ways rs p o) : (w.1 = o ∨ w.1 = p) ∧ (w.2 = 0 ∨ w.2 = 1) := by
  unfold ways at h
  rcases List.mem_append.mp h with z | z
  · split at z
    · have : w = (o, 1) := by simpa using z
      subst this
      exact ⟨.inl rfl, .inr rfl⟩
    · cases z
  · split at z
    · have : w = (p, 0) := by simpa using z
      subst this
      exact ⟨.inr rfl, .inl rfl⟩
    · cases z
theorem ways_len (rs : List (List Int)) (p o : Int) : (ways rs p o).length ≤ 2 := by
  unfold ways
  rw [List.length_append]
  split <;> split <;> simp
theorem bnds_len (rs : List (List Int)) (p o : Int) (as : List (Option Int)) : (bnds rs p o as).length ≤ 2 := Nat.le_trans (List.length_filterMap_le _ _) (ways_len rs p o)
theorem atO {as : List (Option Int)} {k : Int} (h0 : 0 ≤ k) (h1 : k < as.length) : atI (as.map oV) k = some (oV (as.getD k.toNat none)) := by
  have hk : k.toNat < as.length := by omega
  have e := atI_nat (show (as.map oV)[k.toNat]? = some (oV (as.getD k.toNat none)) by rw [List.getElem?_map, List.getElem?_eq_getElem hk]; simp [List.getD, List.getElem?_eq_getElem hk])
  rw [show ((k.toNat : Nat) : Int) = k by omega] at e
  exact e
section
variable {P : Program} {w : World} {K : PySem.W.Frag} {mg : Str → Option Value} {base : Heap}
def spBounds (K : PySem.W.Frag) : Sp := fun vs H Q _ => ∃ (a t : Addr) (rs : List (List Int)) (p o : Int) (as : List (Option Int)), vs = [.ref a, .int p, .int o, .ref t] ∧ RunAt K H a rs ∧ GoodRun rs ∧ 0 ≤ p ∧ p + 1 < rs.length ∧ -1 ≤ o ∧ o < p ∧ SqT K H t (as.map oV) ∧ (as.length : Int) = p + 2 ∧ ∀ H' D, Same H H' → H' D = some (.lst ((bnds rs p o as).map V.int)) → Q (.ref D) H'
theorem scBd : FnScope ["run", "place", "other", "after"] ["run", "place", "other", "after"] (defScope sBounds) := ⟨rfl, rfl, rfl, by decide +kernel, rfl, by decide +kernel, by decide +kernel⟩
theorem ok_bounds (S : P2 K mg) {f : Addr} {fd : FuncData} (G : Gd K mg "bounds_at" sBounds ["run", "place", "other", "after"] f fd) : FnOk P w K mg base CX0 3 f fd ["run", "place", "other", "after"] (spBounds K) := by
  obtain ⟨fW, fdW, GW⟩ := S.ways
  have nd : (["beside", "breaks", "after"] : List Str).Nodup := by decide +kernel
  refine G.fn.ok scBd (fun vs H Q E h => ?_) (fun cdv A outer s H vs Q E hr h => ?_)
  · obtain ⟨a, t, rs, p, o, as, rfl, _⟩ := h
    rfl
  · obtain ⟨a, t, rs, p, o, as, rfl, hR, hg, hp0, hp1, ho0, ho1, ht, hl, k⟩ := h
    refine ⟨_, pss_one (ps_ret (pe_comp (N := ["beside", "breaks", "after"]) (nt := 2) (cap := [3]) rfl (cs_of (by kernel_rfl)) gok_pair (pi_list (pe_call (ok_ways S GW) hr rfl GW.mg GW.fn.kp GW.b .nil pass0 (pa_cons (pv 0) (pa_cons (pv 1) (pa_cons (pv 2) pa_nil)))))
      (fun cl C s H ex pn => ⟨pg_tup rfl (pgs_cons (pg_name (i := 0) nd rfl (Or.inl rfl)) (pgs_cons (pg_name (i := 1) nd rfl (Or.inl rfl)) pgs_nil)),
        pf_one (pt_cmpR op_notN (pe_ix (r := rIxT K) ix_tup (pv 2) (pe_op op_add (pv 0) pe_int) (fun _ _ => rfl)) pe_non (nomark _)),
        pe_op op_add (pe_ix (r := rIxT K) ix_tup (pv 2) (pe_op op_add (pv 0) pe_int) (fun _ _ => rfl)) (pv 1)⟩))), ?_⟩
    refine ⟨_, rfl, _, rfl, _, rfl, a, rs, p, o, rfl, hR, hg, hp0, hp1, ho0, ho1, fun H1 D vs s1 d1 p1 => ⟨D, rfl, ⟨vs, SqL.of d1⟩, ?_⟩⟩
    have hz : (2 : Nat) ≤ sizeLine := by decide
    refine cw_listP (xs := vs) (fun i acc H' => Same H1 H' ∧ acc = (((ways rs p o).take i).filterMap (bnd as)).map V.int) ⟨Same.refl _, rfl⟩ (fun i acc H' hi q => ⟨?_, SqL.of (q.1 _ _ d1)⟩) (fun i x acc H' hx q => ?_) (fun acc H' q D2 hD2 => ?_)
    · rw [q.2, List.length_map]
      refine Nat.le_trans (Nat.le_trans (List.length_filterMap_le _ _) ?_) hz
      rw [List.length_take]
      have := ways_len rs p o
      omega
    · obtain ⟨pp, wy, ew, rfl, ep⟩ := p1.2 i x hx
      obtain ⟨m1, m2⟩ := ways_mem (List.mem_of_getElem? ew)
      have hi : i < (ways rs p o).length := (List.getElem?_eq_some_iff.mp ew).1
      have ewi : (ways rs p o)[i] = wy := (List.getElem?_eq_some_iff.mp ew).2
      have b0 : 0 ≤ wy.1 + 1 := by omega
      have b1 : wy.1 + 1 < as.length := by omega
      have et := (s1.trans q.1).sqT ht
      have eA := atO (as := as) b0 b1
      refine ⟨pp, _, _, rfl, q.1.sqT ep, ?_⟩
      cases ev : as.getD (wy.1 + 1).toNat none with
      | none =>
        rw [ev] at eA
        have eb : bnd as wy = none := by unfold bnd; rw [ev]; rfl
        refine ⟨_, rfl, _, rfl, wy.1, 1, rfl, rfl, t, _, wy.1 + 1, .non, rfl, rfl, et, eA, rfl, _, rfl, iteF ⟨q.1, ?_⟩⟩
        rw [q.2, take_one hi, List.filterMap_append, ewi]
        simp [List.filterMap_cons, eb]
      | some n =>
        rw [ev] at eA
        have eb : bnd as wy = some (n + wy.2) := by unfold bnd; rw [ev]; rfl
        refine ⟨_, rfl, _, rfl, wy.1, 1, rfl, rfl, t, _, wy.1 + 1, .int n, rfl, rfl, et, eA, rfl, _, rfl, iteT ?_⟩
        refine ⟨_, rfl, _, rfl, wy.1, 1, rfl, rfl, t, _, wy.1 + 1, .int n, rfl, rfl, et, eA, _, rfl, n, wy.2, rfl, rfl, q.1, ?_⟩
        rw [q.2, take_one hi, List.filterMap_append, ewi]
        simp [List.filterMap_cons, eb]
    · rw [p1.1] at q
      refine k _ D2 ((s1.trans q.1).trans (Same.upd hD2)) ?_
      rw [upd_same, q.2, List.take_length]
      rfl
def mayStand (n : Option Int) (bs : List Int) : Bool := match n with
  | none => bs.isEmpty
  | some m => bs.all fun b => decide (m ≤ b)
def spMay (K : PySem.W.Frag) : Sp := fun vs H Q _ => ∃ (D : Addr) (n : Option Int) (bs : List Int), vs = [oV n, .ref D] ∧ H D = some (.lst (bs.map V.int)) ∧ bs.length ≤ 2 ∧ ∀ H', Same H H' → Q (.bl (mayStand n bs)) H'
theorem scMy : FnScope ["number", "bounds"] ["number", "bounds"] (defScope sMay) := ⟨rfl, rfl, rfl, by decide +kernel, rfl, by decide +kernel, by decide +kernel⟩
theorem ok_may (T : Blt mg) {f : Addr} {fd : FuncData} (G : Gd K mg "may_stand" sMay ["number", "bounds"] f fd) : FnOk P w K mg base CX0 2 f fd ["number", "bounds"] (spMay K) := by
  have nd : (["bound", "number"] : List Str).Nodup := by decide +kernel
  refine G.fn.ok scMy (fun vs H Q E h => ?_) (fun cdv A outer s H vs Q E hr h => ?_)
  · obtain ⟨D, n, bs, rfl, _⟩ := h
    rfl
  · obtain ⟨D, n, bs, rfl, hD, hl, k⟩ := h
    refine ⟨_, pss_cons (ps_if (pt_cmpR op_isN (pv 0) pe_non (nomark _)) (pss_one (ps_ret (pe_cmpR (op_eqD hr) (pv 1) (pe_lst pa_nil) (nomark _)))) pss_nil)
      (pss_one (ps_ret (pe_callB (call_all rfl) rfl T.all b_all (pa_cons (pe_comp (N := ["bound", "number"]) (nt := 1) (cap := [0]) rfl (cs_of (by kernel_rfl)) gok_name (pi_list (pv 1))
        (fun cl C s H ex pn => ⟨pg_name (i := 0) nd rfl (Or.inl rfl), pf_nil, pe_cmpR op_le (pv 1) (pv 0) (nomark _)⟩)) pa_nil)))), ?_⟩
    cases n with
    | none =>
      refine ⟨_, rfl, rfl, _, rfl, iteT ⟨_, rfl, Nat.zero_le _, fun D2 hD2 => ?_⟩⟩
      have s2 := Same.upd (o := .lst []) hD2
      refine ⟨.list (bs.map .int), .list [], fun _ => False, ?_, ?_, ?_, ?_, ?_, ?_⟩
      · simp only [DV]
        exact ⟨D, _, rfl, not_false, s2 _ _ hD, dvs_ints bs⟩
      · simp only [DV]
        exact ⟨D2, _, rfl, not_false, upd_same, rfl⟩
      · match bs, hl with
        | [], _ => rfl
        | [x], _ => rfl
        | [x, y], _ => rfl
      · rfl
      · show min _ 1 ≤ 100
        omega
      · have := k _ s2
        match bs, this with
        | [], z => exact z
        | _ :: _, z => exact z
    | some m =>
      refine ⟨_, rfl, rfl, _, rfl, iteF ?_⟩
      refine ⟨_, rfl, D, rfl, ⟨_, SqL.of hD⟩, ?_⟩
      refine cw_boolsL (xs := bs.map V.int) (bs.map fun b => decide (m ≤ b)) (by simp) (by rw [List.length_map]; omega) hD (fun i x H' R hx s1 hR => ?_) (fun H' D' s1 hD' => ?_)
      · rw [List.getElem?_map] at hx
        cases em : bs[i]? with
        | none => rw [em] at hx; cases hx
        | some b =>
          rw [em] at hx
          cases hx
          refine ⟨_, rfl, _, rfl, m, b, rfl, rfl, ?_⟩
          have := hR H' (Same.refl _)
          simpa [List.getD, em] using this
      · refine ⟨D', _, rfl, SqL.of hD', ?_⟩
        have := k _ s1
        rw [List.all_map]
        exact this
end
end TM

set_option Elab.async false
set_option linter.all false
set_option maxRecDepth 100000
set_option maxHeartbeats 4000000
namespace TM
open PySem L2
abbrev sTable : Stmt := top 21
abbrev sNums : Stmt := top 22
def optOf : PyData → Option Int
  | .int i => some i
  | _ => none
def numO (d : PyData) : Bool := match d with
  | .none => true
  | d => isNum d
def areNums (d : PyData) (m : Int) : Bool := match d with
  | .tuple ds => decide ((ds.length : Int) = m) && ds.all numO
  | _ => false
def isTable (n : Nat) (d : PyData) : Bool := match d with
  | .tuple ds => decide (ds.length = n) && (List.range ds.length).all fun i => areNums (ds.getD i .none) (i + 1)
  | _ => false
theorem decI {n : Nat} {m : Int} : decide (V.int (n : Nat) = V.int m) = decide ((n : Int) = m) := by
  by_cases h : (n : Int) = m
  · rw [h]; simp
  · rw [decide_eq_false h, decide_eq_false (fun z => h (by injection z))]
section
variable {P : Program} {w : World} {K : PySem.W.Frag} {mg : Str → Option Value} {base : Heap}
theorem nums_vals {Z : Addr → Prop} {H : Hp} : ∀ {ds : List PyData} {xs : List V}, DVs K Z H ds xs → ds.all numO = true → xs = (ds.map optOf).map oV
  | [], xs, h, _ => by
    have e : xs = [] := h
    subst e
    rfl
  | d :: ds, xs, h, ha => by
    obtain ⟨v, r, e, h1, h2⟩ := h
    rw [List.all_cons, Bool.and_eq_true] at ha
    have e2 : v = oV (optOf d) := by
      cases d with
      | none => exact h1
      | int i => exact h1
      | _ => exact absurd ha.1 (by simp [numO, isNum])
    subst e e2
    rw [List.map_cons, List.map_cons, ← nums_vals h2 ha.2]
def spNums (K : PySem.W.Frag) : Sp := fun vs H Q _ => ∃ (Z : Addr → Prop) (d : PyData) (v : V) (m : Int), vs = [v, .int m] ∧ DV K Z H d v ∧ m ≤ 1000 ∧ ∀ H', Same H H' → Q (.bl (areNums d m)) H'
theorem scNm : FnScope ["thing", "many"] ["thing", "many"] (defScope sNums) := ⟨rfl, rfl, rfl, by decide +kernel, rfl, by decide +kernel, by decide +kernel⟩
theorem ok_nums (T : Blt mg) {f fN : Addr} {fd fdN : FuncData} (G : Gd K mg "are_numbers" sNums ["thing", "many"] f fd) (GN : Gd K mg "is_number" sNumber ["thing"] fN fdN) : FnOk P w K mg base CX0 2 f fd ["thing", "many"] (spNums K) := by
  have nd : (["number"] : List Str).Nodup := by decide +kernel
  refine G.fn.ok scNm (fun vs H Q E h => ?_) (fun cdv A outer s H vs Q E hr h => ?_)
  · obtain ⟨Z, d, v, m, rfl, _⟩ := h
    rfl
  · obtain ⟨Z, d, v, m, rfl, hd, hm, k⟩ := h
    refine ⟨_, pss_one (ps_ret (pe_and (pe_callB call_isi_tuple rfl T.isinstance b_isinstance (pa_cons (pv 0) (pa_cons (pe_ty b_tuple rfl T.tuple) pa_nil)))
      (pe_and (pe_cmpR op_eq (pe_callB call_len_seq rfl T.len b_len (pa_cons (pv 0) pa_nil)) (pv 1) (nomark _))
      (pe_one (pe_callB (call_all rfl) rfl T.all b_all (pa_cons (pe_comp (N := ["number"]) (nt := 1) (cap := []) rfl (cs_of (by kernel_rfl)) gok_name (pi_tup (pv 0))
        (fun cl C s H ex pn => ⟨pg_name (i := 0) nd rfl (Or.inl rfl), pf_nil, pe_or (pe_cmpR op_isN (pv 0) pe_non (nomark _)) (pe_one (pe_call (ok_number GN T) hr rfl GN.mg GN.fn.kp GN.b .nil pass0 (pa_cons (pv 0) pa_nil)))⟩)) pa_nil)))))), ?_⟩
    refine ⟨_, rfl, v, _, rfl, hd.kd, _, rfl, ?_⟩
    cases d with
    | tuple ds =>
      have hd' := hd
      simp only [DV] at hd'
      obtain ⟨a, xs, e, hq, hds⟩ := hd'
      subst e
      have hlen := hds.length
      refine iteT ⟨_, rfl, a, xs, rfl, .inr hq, _, rfl, rfl, _, rfl, ?_⟩
      rw [decI, ← hlen]
      by_cases hn : (ds.length : Int) = m
      · rw [decide_eq_true hn]
        refine iteT ⟨_, rfl, a, rfl, ⟨xs, hq⟩, ?_⟩
        refine cw_boolsT (xs := xs) (ds.map numO) (by rw [List.length_map]; exact hlen) (by omega) hq (fun i x H' R hx s1 hR => ?_) (fun H' D s1 hD => ?_)
        · obtain ⟨d', e', hv⟩ := hds.get i x hx
          have hR' : ∀ H6, Same H' H6 → R (.bl (numO d')) H6 := fun H6 s6 => by
            have := hR H6 s6
            simpa [List.getD, List.getElem?_map, e'] using this
          have hv' := hv.stay (H' := H') s1.stay
          refine ⟨_, rfl, rfl, _, rfl, ?_⟩
          cases d' with
          | none =>
            have e : x = .non := hv
            subst e
            exact iteT (hR' _ (Same.refl _))
          | int i =>
            have e : x = .int i := hv
            subst e
            exact iteF ⟨_, rfl, Z, _, _, rfl, hv', hR' _ (Same.refl _)⟩
          | bool i =>
            have e : x = .bl i := hv
            subst e
            exact iteF ⟨_, rfl, Z, _, _, rfl, hv', hR' _ (Same.refl _)⟩
          | str i =>
            have e : x = .str i := hv
            subst e
            exact iteF ⟨_, rfl, Z, _, _, rfl, hv', hR' _ (Same.refl _)⟩
          | tuple i =>
            simp only [DV] at hv
            obtain ⟨b, _, e, _⟩ := hv
            subst e
            exact iteF ⟨_, rfl, Z, _, _, rfl, hv', hR' _ (Same.refl _)⟩
          | list i =>
            simp only [DV] at hv
            obtain ⟨b, _, e, _⟩ := hv
            subst e
            exact iteF ⟨_, rfl, Z, _, _, rfl, hv', hR' _ (Same.refl _)⟩
          | dict i =>
            simp only [DV] at hv
            obtain ⟨b, _, e, _⟩ := hv
            subst e
            exact iteF ⟨_, rfl, Z, _, _, rfl, hv', hR' _ (Same.refl _)⟩
        · refine ⟨D, _, rfl, SqL.of hD, ?_⟩
          have := k _ s1
          rw [List.all_map]
          simp only [areNums, decide_eq_true hn, Bool.true_and] at this
          exact this
      · rw [decide_eq_false hn]
        refine iteF ?_
        have := k _ (Same.refl _)
        simp only [areNums, decide_eq_false hn, Bool.false_and] at this
        exact this
    | _ => exact iteF (k _ (Same.refl _))
def spTable (K : PySem.W.Frag) : Sp := fun vs H Q _ => ∃ (Z : Addr → Prop) (a : Addr) (d : PyData) (v : V) (rs : List (List Int)), vs = [.ref a, v] ∧ RunAt K H a rs ∧ GoodRun rs ∧ DV K Z H d v ∧ ∀ H', Same H H' → Q (.bl (isTable rs.length d)) H'
theorem scTb : FnScope ["run", "thing"] ["run", "thing"] (defScope sTable) := ⟨rfl, rfl, rfl, by decide +kernel, rfl, by decide +kernel, by decide +kernel⟩
theorem ok_table (T : Blt mg) {f fM fN : Addr} {fd fdM fdN : FuncData} (G : Gd K mg "is_table" sTable ["run", "thing"] f fd) (GM : Gd K mg "are_numbers" sNums ["thing", "many"] fM fdM) (GN : Gd K mg "is_number" sNumber ["thing"] fN fdN) : FnOk P w K mg base CX0 3 f fd ["run", "thing"] (spTable K) := by
  have nd : (["place", "row"] : List Str).Nodup := by decide +kernel
  refine G.fn.ok scTb (fun vs H Q E h => ?_) (fun cdv A outer s H vs Q E hr h => ?_)
  · obtain ⟨Z, a, d, v, rs, rfl, _⟩ := h
    rfl
  · obtain ⟨Z, a, d, v, rs, rfl, hR, hg, hd, k⟩ := h
    obtain ⟨as, r1, r2, _⟩ := hR
    refine ⟨_, pss_one (ps_ret (pe_and (pe_callB call_isi_tuple rfl T.isinstance b_isinstance (pa_cons (pv 1) (pa_cons (pe_ty b_tuple rfl T.tuple) pa_nil)))
      (pe_and (pe_cmpR op_eq (pe_callB call_len_seq rfl T.len b_len (pa_cons (pv 1) pa_nil)) (pe_callB call_len_seq rfl T.len b_len (pa_cons (pv 0) pa_nil)) (nomark _))
      (pe_one (pe_callB (call_all rfl) rfl T.all b_all (pa_cons (pe_comp (N := ["place", "row"]) (nt := 2) (cap := []) rfl (cs_of (by kernel_rfl)) gok_pair (pi_enumT rfl T.enumerate (pa_cons (pv 1) pa_nil))
        (fun cl C s H ex pn => ⟨pg_tup rfl (pgs_cons (pg_name (i := 0) nd rfl (Or.inl rfl)) (pgs_cons (pg_name (i := 1) nd rfl (Or.inl rfl)) pgs_nil)), pf_nil, pe_call (ok_nums T GM GN) hr rfl GM.mg GM.fn.kp GM.b .nil pass0 (pa_cons (pv 1) (pa_cons (pe_op op_add (pv 0) pe_int) pa_nil))⟩)) pa_nil)))))), ?_⟩
    refine ⟨_, rfl, v, _, rfl, hd.kd, _, rfl, ?_⟩
    cases d with
    | tuple ds =>
      have hd' := hd
      simp only [DV] at hd'
      obtain ⟨b, xs, e, hq, hds⟩ := hd'
      subst e
      have hlen := hds.length
      have hg1 := hg.2.1
      refine iteT ⟨_, rfl, b, xs, rfl, .inr hq, _, rfl, a, _, rfl, .inr r1, rfl, _, rfl, ?_⟩
      rw [decI, ← hlen, List.length_map, r2]
      by_cases hn : ds.length = rs.length
      · rw [decide_eq_true (by omega)]
        refine iteT ⟨_, rfl, b, xs, rfl, hq, ?_⟩
        refine cw_boolsE (xs := xs) ((List.range ds.length).map fun i => areNums (ds.getD i .none) (i + 1)) (by rw [List.length_map, List.length_range]; exact hlen) (by omega) hq (fun i x H' R hx s1 hR => ?_) (fun H' D s1 hD => ?_)
        · obtain ⟨d', e', hv⟩ := hds.get i x hx
          have hi : i < ds.length := (List.getElem?_eq_some_iff.mp e').1
          refine ⟨_, rfl, _, rfl, i, 1, rfl, rfl, Z, d', x, (i : Int) + 1, rfl, hv.stay s1.stay, by omega, fun H6 s6 => ?_⟩
          have := hR H6 s6
          simpa [List.getD, List.getElem?_map, List.getElem?_range hi, e'] using this
        · refine ⟨D, _, rfl, SqL.of hD, ?_⟩
          have := k _ s1
          rw [List.all_map]
          simp only [isTable, decide_eq_true hn, Bool.true_and] at this
          exact this
      · rw [decide_eq_false (by omega)]
        refine iteF ?_
        have := k _ (Same.refl _)
        simp only [isTable, decide_eq_false hn, Bool.false_and] at this
        exact this
    | _ => exact iteF (k _ (Same.refl _))
end
end TM

set_option Elab.async false
set_option linter.all false
set_option maxRecDepth 100000
set_option maxHeartbeats 4000000
namespace TM
open PySem L2
abbrev sPaper : Stmt := top 16
abbrev sProved : Stmt := top 23
def rowOf (d : PyData) : List (Option Int) := (its d).map optOf
def tabOf (d : PyData) : List (List (Option Int)) := (its d).map rowOf
def isProved (rs : List (List Int)) (T : List (List (Option Int))) (p : Nat) : Bool :=
  if p + 1 = rs.length then (T.getD p []).all (fun x => decide (x = some 0))
  else (List.range (p + 1)).all fun j => mayStand ((T.getD p []).getD j none) (bnds rs p ((j : Int) - 1) (T.getD (p + 1) []))
def goodP (rs : List (List Int)) (d : PyData) : Bool := isTable rs.length d && (List.range rs.length).all (isProved rs (tabOf d))
def Shape (n : Nat) (T : List (List (Option Int))) : Prop := T.length = n ∧ ∀ i, i < n → (T.getD i []).length = i + 1
section
variable {P : Program} {w : World} {K : PySem.W.Frag} {mg : Str → Option Value} {base : Heap}
def TabAt (K : PySem.W.Frag) (H : Hp) (b : Addr) (T : List (List (Option Int))) : Prop := ∃ xs : List V, SqT K H b xs ∧ xs.length = T.length ∧ ∀ (i : Nat) x, xs[i]? = some x → ∃ c, x = V.ref c ∧ SqT K H c ((T.getD i []).map oV)
theorem TabAt.tst {H H' : Hp} {b : Addr} {T : List (List (Option Int))} (h : TabAt K H b T) (t : Tst K H H') : TabAt K H' b T := by
  obtain ⟨xs, h1, h2, h3⟩ := h
  exact ⟨xs, t _ _ h1, h2, fun i x e => let ⟨c, z1, z2⟩ := h3 i x e; ⟨c, z1, t _ _ z2⟩⟩
theorem TabAt.at {H : Hp} {b : Addr} {T : List (List (Option Int))} (h : TabAt K H b T) (k : Nat) (h1 : k < T.length) : ∃ xs c, SqT K H b xs ∧ atI xs (k : Int) = some (.ref c) ∧ SqT K H c ((T.getD k []).map oV) := by
  obtain ⟨xs, g1, g2, g3⟩ := h
  have hk : k < xs.length := by omega
  have e : xs[k]? = some xs[k] := List.getElem?_eq_getElem hk
  obtain ⟨c, e1, e2⟩ := g3 k _ e
  rw [e1] at e
  exact ⟨xs, c, g1, atI_nat e, e2⟩
theorem nums_tup {d : PyData} {m : Int} (h : areNums d m = true) : ∃ ds, d = .tuple ds ∧ (ds.length : Int) = m ∧ ds.all numO = true := by
  cases d with
  | tuple ds =>
    have h : (decide ((ds.length : Int) = m) && ds.all numO) = true := h
    rw [Bool.and_eq_true] at h
    exact ⟨ds, rfl, of_decide_eq_true h.1, h.2⟩
  | _ => cases h
theorem table_at {Z : Addr → Prop} {H : Hp} {d : PyData} {v : V} {n : Nat} (h : isTable n d = true) (hd : DV K Z H d v) : ∃ b, v = .ref b ∧ TabAt K H b (tabOf d) ∧ Shape n (tabOf d) := by
  cases d with
  | tuple ds =>
    simp only [DV] at hd
    obtain ⟨b, xs, e, hq, hds⟩ := hd
    have h : (decide (ds.length = n) && (List.range ds.length).all fun i => areNums (ds.getD i .none) (i + 1)) = true := h
    rw [Bool.and_eq_true, List.all_eq_true] at h
    have hn := of_decide_eq_true h.1
    have key : ∀ i d', ds[i]? = some d' → ∃ es, d' = .tuple es ∧ es.length = i + 1 ∧ es.all numO = true := by
      intro i d' ed
      have hi := (List.getElem?_eq_some_iff.mp ed).1
      have := h.2 i (List.mem_range.mpr hi)
      rw [show ds.getD i PyData.none = d' by simp [List.getD, ed]] at this
      obtain ⟨es, e1, e2, e3⟩ := nums_tup this
      exact ⟨es, e1, by omega, e3⟩
    have row : ∀ i d', ds[i]? = some d' → (tabOf (.tuple ds)).getD i [] = rowOf d' := by
      intro i d' ed
      show (ds.map rowOf).getD i [] = _
      simp [List.getD, List.getElem?_map, ed]
    refine ⟨b, e, ⟨xs, hq, ?_, fun i x hx => ?_⟩, ?_, fun i hi => ?_⟩
    · show _ = (ds.map rowOf).length
      rw [List.length_map]
      exact hds.length.symm
    · obtain ⟨d', e', hv⟩ := hds.get i x hx
      obtain ⟨es, rfl, e2, e3⟩ := key i d' e'
      simp only [DV] at hv
      obtain ⟨c, ys, e4, hc, hes⟩ := hv
      refine ⟨c, e4, ?_⟩
      rw [row i _ e']
      show SqT K H c ((es.map optOf).map oV)
      rw [← nums_vals hes e3]
      exact hc
    · show (ds.map rowOf).length = n
      rw [List.length_map]
      exact hn
    · have ed : ds[i]? = some ds[i] := List.getElem?_eq_getElem (by omega)
      obtain ⟨es, e1, e2, e3⟩ := key i _ ed
      rw [row i _ ed, e1]
      show (es.map optOf).length = _
      rw [List.length_map]
      exact e2
  | _ => cases h
structure P3 (K : PySem.W.Frag) (mg : Str → Option Value) : Prop where
  S : P2 K mg
  num : ∃ f fd, Gd K mg "is_number" sNumber ["thing"] f fd
  nums : ∃ f fd, Gd K mg "are_numbers" sNums ["thing", "many"] f fd
  table : ∃ f fd, Gd K mg "is_table" sTable ["run", "thing"] f fd
  may : ∃ f fd, Gd K mg "may_stand" sMay ["number", "bounds"] f fd
  proved : ∃ f fd, Gd K mg "is_proved" sProved ["run", "table", "place"] f fd
def spProved (K : PySem.W.Frag) : Sp := fun vs H Q _ => ∃ (a b : Addr) (rs : List (List Int)) (T : List (List (Option Int))) (p : Nat), vs = [.ref a, .ref b, .int p] ∧ RunAt K H a rs ∧ GoodRun rs ∧ TabAt K H b T ∧ Shape rs.length T ∧ p < rs.length ∧ ∀ H', Same H H' → Q (.bl (isProved rs T p)) H'
theorem scPv : FnScope ["run", "table", "place", "row"] ["run", "table", "place"] (defScope sProved) := ⟨rfl, rfl, rfl, by decide +kernel, rfl, by decide +kernel, by decide +kernel⟩
theorem ok_proved (S : P3 K mg) {f : Addr} {fd : FuncData} (G : Gd K mg "is_proved" sProved ["run", "table", "place"] f fd) : FnOk P w K mg base CX0 4 f fd ["run", "table", "place"] (spProved K) := by
  obtain ⟨fB, fdB, GB⟩ := S.S.bounds
  obtain ⟨fM, fdM, GM⟩ := S.may
  have nd1 : (["number"] : List Str).Nodup := by decide +kernel
  have nd2 : (["other", "row", "run", "place", "table"] : List Str).Nodup := by decide +kernel
  have T := S.S.S.T
  refine G.fn.ok scPv (fun vs H Q E h => ?_) (fun cdv A outer s H vs Q E hr h => ?_)
  · obtain ⟨a, b, rs, T, p, rfl, _⟩ := h
    rfl
  · obtain ⟨a, b, rs, Tb, p, rfl, hR, hg, hT, hS, hp, k⟩ := h
    refine ⟨_, pss_cons (ps_set (i := 3) scPv.nd rfl (Or.inr rfl) (pe_ix ix_tup (pv 1) (pv 2) (fun _ _ => rfl)))
      (pss_cons (ps_if (pt_cmpR op_eq (pv 2) (pe_op op_sub (pe_callB call_len_seq rfl T.len b_len (pa_cons (pv 0) pa_nil)) pe_int) (nomark _))
        (pss_one (ps_ret (pe_callB (call_all rfl) rfl T.all b_all (pa_cons (pe_comp (N := ["number"]) (nt := 1) (cap := []) rfl (cs_of (by kernel_rfl)) gok_name (pi_tup (pv 3))
          (fun cl C s H ex pn => ⟨pg_name (i := 0) nd1 rfl (Or.inl rfl), pf_nil, pe_cmpR op_eq (pv 0) pe_int (nomark _)⟩)) pa_nil)))) pss_nil)
      (pss_one (ps_ret (pe_callB (call_all rfl) rfl T.all b_all (pa_cons (pe_comp (N := ["other", "row", "run", "place", "table"]) (nt := 1) (cap := [3, 0, 2, 1]) rfl (cs_of (by kernel_rfl)) gok_name (pi_range2 rfl T.range (pa_cons (pe_gi S.S.gN rfl) (pa_cons (pv 2) pa_nil)))
        (fun cl C s H ex pn => ⟨pg_name (i := 0) nd2 rfl (Or.inl rfl), pf_nil, pe_call (ok_may T GM) (hr.mono (by decide)) rfl GM.mg GM.fn.kp GM.b .nil pass0
          (pa_cons (pe_ix (r := rIxT K) ix_tup (pv 1) (pe_op op_add (pv 0) pe_int) (fun _ _ => rfl)) (pa_cons (pe_call (ok_bounds S.S GB) hr rfl GB.mg GB.fn.kp GB.b .nil pass0
            (pa_cons (pv 2) (pa_cons (pv 3) (pa_cons (pv 0) (pa_cons (pe_ix (r := rIxT K) ix_tup (pv 4) (pe_op op_add (pv 3) pe_int) (fun _ _ => rfl)) pa_nil))))) pa_nil))⟩)) pa_nil))))), ?_⟩
    obtain ⟨xs, c, q1, e1, z1⟩ := hT.at p (by rw [hS.1]; exact hp)
    obtain ⟨ys, ra, rl, _⟩ := id hR
    have hl := hS.2 p hp
    have hg1 := hg.2.1
    refine ⟨_, rfl, _, rfl, b, xs, p, .ref c, rfl, rfl, q1, e1, ?_⟩
    refine ⟨_, rfl, _, rfl, a, _, rfl, .inr ra, _, 1, rfl, rfl, rfl, _, rfl, ?_⟩
    rw [List.length_map, rl]
    refine ite2 (fun h1 => ?_) (fun h1 => ?_)
    · have hpn : p + 1 = rs.length := by
        have := of_decide_eq_true h1
        injection this with z
        omega
      refine ⟨_, rfl, c, rfl, ⟨_, z1⟩, ?_⟩
      refine cw_boolsT (xs := (Tb.getD p []).map oV) ((Tb.getD p []).map fun x => decide (x = some 0)) (by simp) (by rw [List.length_map]; omega) z1 (fun i x H' R hx s1 hR => ?_) (fun H' D s1 hD => ?_)
      · rw [List.getElem?_map] at hx
        cases em : (Tb.getD p [])[i]? with
        | none => rw [em] at hx; cases hx
        | some o =>
          rw [em] at hx
          cases hx
          have hR' := hR H' (Same.refl _)
          rw [show ((Tb.getD p []).map fun x => decide (x = some 0)).getD i false = decide (o = some 0) by simp only [List.getD, List.getElem?_map] at em ⊢; rw [em]; rfl] at hR'
          cases o with
          | none => exact ⟨_, rfl, rfl, hR'⟩
          | some n =>
            refine ⟨_, rfl, rfl, ?_⟩
            rw [show decide (oV (some n) = V.int 0) = decide ((some n : Option Int) = some 0) by by_cases hn : n = 0 <;> simp [oV, hn]]
            exact hR'
      · refine ⟨D, _, rfl, SqL.of hD, ?_⟩
        have := k _ s1
        unfold isProved at this
        rw [if_pos hpn] at this
        rw [List.all_map]
        exact this
    · have hpn : ¬ p + 1 = rs.length := fun z => h1 (decide_eq_true (show V.int p = V.int (((rs.length : Nat) : Int) - 1) by rw [show ((rs.length : Nat) : Int) - 1 = p by omega]))
      obtain ⟨xs2, c2, q2, e2, z2⟩ := hT.at (p + 1) (by rw [hS.1]; omega)
      have hl2 := hS.2 (p + 1) (by omega)
      refine ⟨_, rfl, -1, p, rfl, ⟨by omega, by omega, by omega, by omega⟩, ?_⟩
      have en : ((p : Int) - -1).toNat = p + 1 := by omega
      rw [en]
      refine cw_boolsR ((List.range (p + 1)).map fun j => mayStand ((Tb.getD p []).getD j none) (bnds rs p ((j : Int) - 1) (Tb.getD (p + 1) []))) (by simp) (by omega) (fun i H' R hi s1 hR' => ?_) (fun H' D s1 hD => ?_)
      · have eA := atO (as := Tb.getD p []) (k := -1 + (i : Int) + 1) (by omega) (by omega)
        rw [show (-1 + (i : Int) + 1).toNat = i by omega] at eA
        refine ⟨_, rfl, _, rfl, -1 + (i : Int), 1, rfl, rfl, c, _, -1 + (i : Int) + 1, _, rfl, rfl, s1.sqT z1, eA, ?_⟩
        refine ⟨_, rfl, _, rfl, _, rfl, _, rfl, _, rfl, p, 1, rfl, rfl, b, xs2, (p : Int) + 1, .ref c2, rfl, rfl, s1.sqT q2, e2, ?_⟩
        refine ⟨a, c2, rs, p, -1 + (i : Int), Tb.getD (p + 1) [], rfl, hR.tst (Tst.of s1), hg, by omega, by omega, by omega, by omega, s1.sqT z2, by omega, fun H2 D s2 d2 => ?_⟩
        refine ⟨D, _, _, rfl, d2, bnds_len _ _ _ _, fun H3 s3 => ?_⟩
        have := hR' H3 (s2.trans s3)
        rw [show -1 + (i : Int) = (i : Int) - 1 by omega]
        simpa [List.getD, List.getElem?_map, List.getElem?_range hi] using this
      · refine ⟨D, _, rfl, SqL.of hD, ?_⟩
        have := k _ s1
        unfold isProved at this
        rw [if_neg hpn] at this
        rw [List.all_map]
        exact this
def spPaper (K : PySem.W.Frag) : Sp := fun vs H Q _ => ∃ (Z : Addr → Prop) (a : Addr) (d : PyData) (v : V) (rs : List (List Int)), vs = [.ref a, v] ∧ RunAt K H a rs ∧ GoodRun rs ∧ DV K Z H d v ∧ ∀ H', Same H H' → Q (.bl (goodP rs d)) H'
theorem scPp : FnScope ["run", "thing"] ["run", "thing"] (defScope sPaper) := ⟨rfl, rfl, rfl, by decide +kernel, rfl, by decide +kernel, by decide +kernel⟩
theorem ok_paper (S : P3 K mg) {f : Addr} {fd : FuncData} (G : Gd K mg "is_paper" sPaper ["run", "thing"] f fd) : FnOk P w K mg base CX0 7 f fd ["run", "thing"] (spPaper K) := by
  obtain ⟨fD, fdD, GD⟩ := S.S.need
  obtain ⟨fN, fdN, GN⟩ := S.num
  obtain ⟨fM, fdM, GM⟩ := S.nums
  obtain ⟨fT, fdT, GT⟩ := S.table
  obtain ⟨fP, fdP, GP⟩ := S.proved
  have nd : (["place", "run", "thing"] : List Str).Nodup := by decide +kernel
  have T := S.S.S.T
  refine G.fn.ok scPp (fun vs H Q E h => ?_) (fun cdv A outer s H vs Q E hr h => ?_)
  · obtain ⟨Z, a, d, v, rs, rfl, _⟩ := h
    rfl
  · obtain ⟨Z, a, d, v, rs, rfl, hR, hg, hd, k⟩ := h
    refine ⟨_, pss_cons (ps_expr (pe_call (ok_need S.S GD) hr rfl GD.mg GD.fn.kp GD.b .nil pass0 (pa_cons (pv 0) pa_nil)))
      (pss_one (ps_ret (pe_and (pe_call (ok_table T GT GM GN) (hr.mono (by decide)) rfl GT.mg GT.fn.kp GT.b .nil pass0 (pa_cons (pv 0) (pa_cons (pv 1) pa_nil)))
        (pe_one (pe_callB (call_all rfl) rfl T.all b_all (pa_cons (pe_comp (N := ["place", "run", "thing"]) (nt := 1) (cap := [0, 1]) rfl (cs_of (by kernel_rfl)) gok_name (pi_range1 rfl T.range (pa_cons (pe_callB call_len_seq rfl T.len b_len (pa_cons (pv 0) pa_nil)) pa_nil))
          (fun cl C s H ex pn => ⟨pg_name (i := 0) nd rfl (Or.inl rfl), pf_nil, pe_call (ok_proved S GP) (hr.mono (by decide)) rfl GP.mg GP.fn.kp GP.b .nil pass0 (pa_cons (pv 1) (pa_cons (pv 2) (pa_cons (pv 0) pa_nil)))⟩)) pa_nil)))))), ?_⟩
    have hg1 := hg.2.1
    refine ⟨_, rfl, a, rs, rfl, hR, hg, fun H1 s1 => ?_⟩
    have hR1 := hR.tst (Tst.of s1)
    have hd1 := hd.stay (H' := H1) s1.stay
    refine ⟨_, rfl, _, rfl, Z, a, d, v, rs, rfl, hR1, hg, hd1, fun H2 s2 => ⟨_, rfl, ?_⟩⟩
    have s12 := s1.trans s2
    have hR2 := hR1.tst (Tst.of s2)
    have hd2 := hd1.stay (H' := H2) s2.stay
    cases ht : isTable rs.length d with
    | false =>
      refine iteF ?_
      have := k _ s12
      unfold goodP at this
      rw [ht, Bool.false_and] at this
      exact this
    | true =>
      obtain ⟨b, rfl, hT, hS⟩ := table_at ht hd2
      obtain ⟨ys, ra, rl, _⟩ := id hR2
      refine iteT ⟨_, rfl, a, _, rfl, .inr ra, _, rfl, by rw [List.length_map, rl]; omega, by rw [List.length_map, rl]; omega, ?_⟩
      rw [List.length_map, rl, show ((rs.length : Nat) : Int).toNat = rs.length from rfl]
      refine cw_boolsR ((List.range rs.length).map (isProved rs (tabOf d))) (by simp) (by omega) (fun i H' R hi s3 hR' => ?_) (fun H' D s3 hD => ?_)
      · refine ⟨_, rfl, _, rfl, _, rfl, a, b, rs, tabOf d, i, ?_, hR2.tst (Tst.of s3), hg, hT.tst (Tst.of s3), hS, hi, fun H6 s6 => ?_⟩
        · rw [show (0 : Int) + (i : Int) = (i : Int) by omega]; rfl
        · have := hR' H6 s6
          simpa [List.getD, List.getElem?_map, List.getElem?_range hi] using this
      · refine ⟨D, _, rfl, SqL.of hD, ?_⟩
        have := k _ (s12.trans s3)
        unfold goodP at this
        rw [ht, Bool.true_and] at this
        rw [List.all_map]
        exact this
end
end TM

set_option Elab.async false
set_option linter.all false
set_option maxRecDepth 100000
set_option maxHeartbeats 4000000
namespace TM
open PySem L2
abbrev sLHas : Stmt := top 35
abbrev sLStand : Stmt := top 36
abbrev sLRow : Stmt := top 38
theorem layAll_ints : ∀ ns : List Int, PyData.canLayAll0 (ns.map .int) = true
  | [] => rfl
  | n :: ns => by
    rw [List.map_cons]
    simp only [PyData.canLayAll0, PyData.canLay0, Bool.true_and]
    exact layAll_ints ns
theorem lay_ints (ns : List Int) : (PyData.list (ns.map .int)).canLay0 = true := by
  simp only [PyData.canLay0]
  exact layAll_ints ns
theorem eqv_nil (ds : List PyData) : PyData.eqv (.list ds) (.list []) = ds.isEmpty := by
  cases ds <;> rfl
theorem inV_bools (bs : List Bool) : inV (.bl false) (bs.map V.bl) = !bs.all id := by
  induction bs with
  | nil => rfl
  | cons b bs ih =>
    unfold inV at ih ⊢
    rw [List.map_cons, List.any_cons, ih, List.all_cons]
    cases b <;> rfl
theorem flat_bools (bs : List Bool) : (bs.map V.bl).all flatV = true := by
  rw [List.all_map, List.all_eq_true]
  intro x _
  rfl
section
variable {P : Program} {w : World} {K : PySem.W.Frag} {mg : Str → Option Value} {base : Heap}
theorem scLH : FnScope ["_law_marks_here", "_law_other"] ["_law_marks_here", "_law_other"] (defScope sLHas) := ⟨rfl, rfl, rfl, by decide +kernel, rfl, by decide +kernel, by decide +kernel⟩
theorem ok_lhas (T : Blt mg) {f : Addr} {fd : FuncData} (G : Gd K mg "_law_has" sLHas ["_law_marks_here", "_law_other"] f fd) : FnOk P w K mg base CX0 2 f fd ["_law_marks_here", "_law_other"] (spHas K) := by
  have nd : (["_law_mark", "_law_marks_here"] : List Str).Nodup := by decide +kernel
  refine G.fn.ok scLH (fun vs H Q E h => ?_) (fun cdv A outer s H vs Q E hr h => ?_)
  · obtain ⟨a, b, ms, os, rfl, _⟩ := h
    rfl
  · obtain ⟨a, b, ms, os, rfl, ha, hb, hl, k⟩ := h
    refine ⟨_, pss_one (ps_ret (pe_cmpR (op_eqD hr) (pe_comp (N := ["_law_mark", "_law_marks_here"]) (nt := 1) (cap := [0]) rfl (cs_of (by kernel_rfl)) gok_name (pi_tup (pv 1))
      (fun cl C s H ex pn => ⟨pg_name (i := 0) nd rfl (Or.inl rfl), pf_one (pt_cmpR (r := rIn K true) op_notIn_seq (pv 0) (pv 1) rfl), pv 0⟩)) (pe_lst pa_nil) (nomark _))), ?_⟩
    refine ⟨_, rfl, b, rfl, ⟨_, hb⟩, ?_⟩
    have hz : (1000 : Nat) ≤ sizeLine := by decide
    refine cw_tup (xs := os.map V.int) (fun i acc H' => Same H H' ∧ acc = ((os.take i).filter fun o => !ms.any fun m => m == o).map V.int) ⟨Same.refl _, rfl⟩ (fun i acc H' hi q => ⟨?_, q.1.sqT hb⟩) (fun i x acc H' hx q => ?_) (fun acc H' q D hD => ?_)
    · rw [q.2, List.length_map]
      refine Nat.le_trans (Nat.le_trans (List.length_filter_le _ _) ?_) hz
      rw [List.length_take]
      omega
    · rw [List.getElem?_map] at hx
      cases em : os[i]? with
      | none => rw [em] at hx; cases hx
      | some m =>
        rw [em] at hx
        cases hx
        have hi : i < os.length := (List.getElem?_eq_some_iff.mp em).1
        have ei : os[i] = m := (List.getElem?_eq_some_iff.mp em).2
        refine ⟨_, rfl, _, rfl, a, ms.map V.int, rfl, .inr (q.1.sqT ha), rfl, flat_ints ms, _, rfl, ?_⟩
        rw [inV_ints]
        refine ite2 (fun h1 => ?_) fun h1 => ?_
        · refine ⟨_, rfl, q.1, ?_⟩
          rw [q.2, take_one hi, List.filter_append, ei, List.filter_cons_of_pos (by simpa using h1)]
          simp
        · refine ⟨q.1, ?_⟩
          rw [q.2, take_one hi, List.filter_append, ei, List.filter_cons_of_neg (by simpa using h1)]
          simp
    · refine ⟨Nat.zero_le _, fun D2 hD2 => ?_⟩
      rw [List.length_map, List.take_length] at q
      obtain ⟨q1, q2⟩ := q
      have s2 := Same.upd (o := .lst []) hD2
      refine ⟨.list ((os.filter fun o => !ms.any fun m => m == o).map .int), .list [], fun _ => False, ?_, ?_, lay_ints _, rfl, ?_, ?_⟩
      · simp only [DV]
        exact ⟨D, _, rfl, not_false, s2 _ _ (by rw [upd_same, q2]), dvs_ints _⟩
      · simp only [DV]
        exact ⟨D2, _, rfl, not_false, upd_same, rfl⟩
      · show min _ 1 ≤ 100
        omega
      · have := k _ ((q1.trans (Same.upd hD)).trans s2)
        rw [eqv_nil]
        have e : ((os.filter fun o => !ms.any fun m => m == o).map PyData.int).isEmpty = hasAll ms os := by
          unfold hasAll
          rw [List.isEmpty_map]
          cases hx : os.all fun o => ms.any fun m => m == o with
          | true =>
            rw [List.isEmpty_iff, List.filter_eq_nil_iff]
            intro o ho
            have := List.all_eq_true.mp hx o ho
            rw [this]
            decide
          | false =>
            rw [Bool.eq_false_iff]
            intro z
            rw [List.isEmpty_iff, List.filter_eq_nil_iff] at z
            rw [Bool.eq_false_iff] at hx
            refine hx (List.all_eq_true.mpr fun o ho => ?_)
            have := z o ho
            cases hy : ms.any fun m => m == o with
            | true => rfl
            | false => rw [hy] at this; exact absurd rfl this
        rw [e]
        exact this
def PvAt (K : PySem.W.Frag) (H : Hp) (vs : List V) (ws : List (Option Int × Int)) : Prop := vs.length = ws.length ∧ ∀ (i : Nat) x, vs[i]? = some x → ∃ (p : Addr) (w : Option Int × Int), ws[i]? = some w ∧ x = V.ref p ∧ SqT K H p [oV w.1, V.int w.2]
theorem PvAt.tst {H H' : Hp} {vs : List V} {ws : List (Option Int × Int)} (h : PvAt K H vs ws) (t : Tst K H H') : PvAt K H' vs ws :=
  ⟨h.1, fun i x e => let ⟨p, w, a, b, c⟩ := h.2 i x e; ⟨p, w, a, b, t _ _ c⟩⟩
theorem PvAt.snoc {H : Hp} {vs : List V} {ws : List (Option Int × Int)} {p : Addr} {b : Option Int} {c : Int} (h : PvAt K H vs ws) (q : SqT K H p [oV b, .int c]) : PvAt K H (vs ++ [.ref p]) (ws ++ [(b, c)]) := by
  refine ⟨by simp [h.1], fun i x e => ?_⟩
  by_cases hi : i < vs.length
  · rw [List.getElem?_append_left hi] at e
    obtain ⟨p', w, e1, e2, e3⟩ := h.2 i x e
    exact ⟨p', w, by rw [List.getElem?_append_left (by rw [← h.1]; exact hi)]; exact e1, e2, e3⟩
  · rw [List.getElem?_append_right (by omega)] at e
    have hj : i - vs.length = 0 := by
      cases hk : i - vs.length with
      | zero => rfl
      | succ k => rw [hk] at e; cases e
    rw [hj] at e
    cases e
    refine ⟨p, (b, c), ?_, rfl, q⟩
    rw [List.getElem?_append_right (by rw [← h.1]; omega), ← h.1, hj]
    rfl
theorem PvAt.nil {H : Hp} : PvAt K H [] [] := ⟨rfl, fun i x e => by cases e⟩
end
end TM

set_option Elab.async false
set_option linter.all false
set_option maxRecDepth 100000
set_option maxHeartbeats 4000000
namespace TM
open PySem L2
def sts (rs : List (List Int)) (p o : Int) (as : List (Option Int)) : List (Option Int × Int) := (ways rs p o).map fun w => (as.getD (w.1 + 1).toNat none, w.2)
def sts1 (rs : List (List Int)) (p o : Int) (as : List (Option Int)) : List (Option Int × Int) := if hasAll (mk' rs (p + 1)) (mk' rs p) = true then [(as.getD (o + 1).toNat none, 1)] else []
theorem sts_is (rs : List (List Int)) (p o : Int) (as : List (Option Int)) : sts rs p o as = sts1 rs p o as ++ (if (decide (o = -1) || hasAll (mk' rs (p + 1)) (mk' rs o)) = true then [(as.getD (p + 1).toNat none, 0)] else []) := by
  unfold sts sts1 ways
  rw [List.map_append]
  split <;> split <;> rfl
theorem sts_len (rs : List (List Int)) (p o : Int) (as : List (Option Int)) : (sts rs p o as).length ≤ 2 := by
  unfold sts
  rw [List.length_map]
  exact ways_len rs p o
def sel (fl : Option Int) (w : Option Int × Int) : Option Int := match fl with
  | none => w.1
  | some m => w.1.bind fun x => if x + w.2 < m then some x else none
theorem sel_may (fl : Option Int) : ∀ ws : List (Option Int × Int), (ws.filterMap (sel fl)).isEmpty = mayStand fl (ws.filterMap fun w => w.1.map fun x => x + w.2)
  | [] => by cases fl <;> rfl
  | (v, c) :: ws => by
    have ih := sel_may fl ws
    cases v with
    | none => cases fl <;> exact ih
    | some x =>
      cases fl with
      | none => rfl
      | some m =>
        rw [List.filterMap_cons, List.filterMap_cons]
        by_cases h : x + c < m
        · have e : sel (some m) (some x, c) = some x := if_pos h
          rw [e]
          show false = (decide (m ≤ x + c) && _)
          rw [decide_eq_false (by omega)]
          rfl
        · have e : sel (some m) (some x, c) = none := if_neg h
          rw [e]
          show _ = (decide (m ≤ x + c) && _)
          rw [decide_eq_true (by omega), Bool.true_and]
          exact ih
theorem sts_may (fl : Option Int) (rs : List (List Int)) (p o : Int) (as : List (Option Int)) : ((sts rs p o as).filterMap (sel fl)).isEmpty = mayStand fl (bnds rs p o as) := by
  rw [sel_may]
  unfold sts bnds
  rw [List.filterMap_map]
  rfl
section
variable {P : Program} {w : World} {K : PySem.W.Frag} {mg : Str → Option Value} {base : Heap}
def spStand (K : PySem.W.Frag) : Sp := fun vs H Q _ => ∃ (a b : Addr) (rs : List (List Int)) (T : List (List (Option Int))) (p : Nat) (o : Int), vs = [.ref a, .ref b, .int p, .int o] ∧ RunAt K H a rs ∧ GoodRun rs ∧ TabAt K H b T ∧ Shape rs.length T ∧ p + 1 < rs.length ∧ -1 ≤ o ∧ o < p ∧ ∀ H', Same H H' → Q (.bl (mayStand ((T.getD p []).getD (o + 1).toNat none) (bnds rs p o (T.getD (p + 1) [])))) H'
abbrev nSt : List Str := ["_law_run_here", "_law_thing", "_law_place", "_law_other", "_law_some", "_law_floor"]
theorem scSg : FnScope nSt ["_law_run_here", "_law_thing", "_law_place", "_law_other"] (defScope sLStand) := ⟨rfl, rfl, rfl, by decide +kernel, rfl, by decide +kernel, by decide +kernel⟩
theorem ok_lstand (T : Blt mg) {f fA : Addr} {fd fdA : FuncData} (G : Gd K mg "_law_stand_good" sLStand ["_law_run_here", "_law_thing", "_law_place", "_law_other"] f fd) (GA : Gd K mg "_law_has" sLHas ["_law_marks_here", "_law_other"] fA fdA) : FnOk P w K mg base CX0 3 f fd ["_law_run_here", "_law_thing", "_law_place", "_law_other"] (spStand K) := by
  have nd1 : (["_law_one", "_law_broken"] : List Str).Nodup := by decide +kernel
  have nd2 : (["_law_one", "_law_broken", "_law_floor"] : List Str).Nodup := by decide +kernel
  refine G.fn.ok scSg (fun vs H Q E h => ?_) (fun cdv A outer s H vs Q E hr h => ?_)
  · obtain ⟨a, b, rs, T, p, o, rfl, _⟩ := h
    rfl
  · obtain ⟨a, b, rs, Tb, p, o, rfl, hR, hg, hT, hS, hp, ho0, ho1, k⟩ := h
    refine ⟨_, pss_cons (ps_set (i := 4) scSg.nd rfl (Or.inl rfl) (pe_lst pa_nil))
      (pss_cons (ps_if (pt_val (pe_call (ok_lhas T GA) hr rfl GA.mg GA.fn.kp GA.b .nil pass0 (pa_cons (pe_ix ix_tup (pv 0) (pe_op op_add (pv 2) pe_int) (fun _ _ => rfl)) (pa_cons (pe_ix ix_tup (pv 0) (pv 2) (fun _ _ => rfl)) pa_nil))))
        (pss_one (ps_expr (pe_bm PySem.F.plainAttrs_list PySem.F.slot_list_append PySem.F.type_list_append mt_append (pv 4) (pa_cons (pe_tup (pa_cons (pe_ix ix_tup (pe_ix ix_tup (pv 1) (pe_op op_add (pv 2) pe_int) (fun _ _ => rfl)) (pe_op op_add (pv 3) pe_int) (fun _ _ => rfl)) (pa_cons pe_int pa_nil))) pa_nil)))) pss_nil)
      (pss_cons (ps_if (PW.pt (pw_or (pt_cmpR op_eq (pv 3) (pe_un un_neg pe_int) (nomark _)) (pw_or1 (pt_val (pe_call (ok_lhas T GA) hr rfl GA.mg GA.fn.kp GA.b .nil pass0 (pa_cons (pe_ix ix_tup (pv 0) (pe_op op_add (pv 2) pe_int) (fun _ _ => rfl)) (pa_cons (pe_ix ix_tup (pv 0) (pv 3) (fun _ _ => rfl)) pa_nil)))))))
        (pss_one (ps_expr (pe_bm PySem.F.plainAttrs_list PySem.F.slot_list_append PySem.F.type_list_append mt_append (pv 4) (pa_cons (pe_tup (pa_cons (pe_ix ix_tup (pe_ix ix_tup (pv 1) (pe_op op_add (pv 2) pe_int) (fun _ _ => rfl)) (pe_op op_add (pv 2) pe_int) (fun _ _ => rfl)) (pa_cons pe_int pa_nil))) pa_nil)))) pss_nil)
      (pss_cons (ps_set (i := 5) scSg.nd rfl (Or.inr rfl) (pe_ix ix_tup (pe_ix ix_tup (pv 1) (pv 2) (fun _ _ => rfl)) (pe_op op_add (pv 3) pe_int) (fun _ _ => rfl)))
      (pss_cons (ps_if (pt_cmpR op_isN (pv 5) pe_non (nomark _))
        (pss_one (ps_ret (pe_cmpR (op_eqD hr) (pe_comp (N := ["_law_one", "_law_broken"]) (nt := 2) (cap := []) rfl (cs_of (by kernel_rfl)) gok_pair (pi_list (pv 4))
          (fun cl C s H ex pn => ⟨pg_tup rfl (pgs_cons (pg_name (i := 0) nd1 rfl (Or.inl rfl)) (pgs_cons (pg_name (i := 1) nd1 rfl (Or.inl rfl)) pgs_nil)), pf_one (pt_cmpR op_notN (pv 0) pe_non (nomark _)), pv 0⟩)) (pe_lst pa_nil) (nomark _)))) pss_nil)
      (pss_one (ps_ret (pe_cmpR (op_eqD hr) (pe_comp (N := ["_law_one", "_law_broken", "_law_floor"]) (nt := 2) (cap := [5]) rfl (cs_of (by kernel_rfl)) gok_pair (pi_list (pv 4))
          (fun cl C s H ex pn => ⟨pg_tup rfl (pgs_cons (pg_name (i := 0) nd2 rfl (Or.inl rfl)) (pgs_cons (pg_name (i := 1) nd2 rfl (Or.inl rfl)) pgs_nil)), pf_one (PW.pt (pw_and (pt_cmpR op_notN (pv 0) pe_non (nomark _)) (pw_and1 (pt_cmpR op_lt (pe_op op_add (pv 0) (pv 1)) (pv 2) (nomark _))))), pv 0⟩)) (pe_lst pa_nil) (nomark _)))))))), ?_⟩
    obtain ⟨xs1, m, q1, l1, e1, z1⟩ := hR.at ((p : Int) + 1) (by omega) (by omega)
    obtain ⟨xs2, n, q2, l2, e2, z2⟩ := hR.at p (by omega) (by omega)
    obtain ⟨ys1, r1, w1, f1, g1⟩ := hT.at p (by rw [hS.1]; omega)
    obtain ⟨ys2, r2, w2, f2, g2⟩ := hT.at (p + 1) (by rw [hS.1]; omega)
    have n1 := hS.2 p (by omega)
    have n2 := hS.2 (p + 1) (by omega)
    have lhas : ∀ k : Int, (mk' rs k).length ≤ 1000 := mk_len hg
    refine ⟨Nat.zero_le _, fun D hD => ?_⟩
    dsimp only [gName]
    refine tSeq_mid (fun σ H1 => σ = [some (.ref a), some (.ref b), some (.int p), some (.int o), some (.ref D), none] ∧ ∃ vs, Same H H1 ∧ H1 D = some (.lst vs) ∧ vs.length ≤ 1 ∧ PvAt K H1 vs (sts1 rs p o (Tb.getD (p + 1) []))) (fun nx hn => ?_) ?_
    · have t1 : Tst K H (upd H D (.lst [])) := Tst.of (Same.upd hD)
      refine ⟨_, rfl, _, rfl, p, 1, rfl, rfl, a, xs1, (p : Int) + 1, .ref m, rfl, rfl, t1 _ _ q1, e1, _, rfl, _, rfl, a, xs2, p, .ref n, rfl, rfl, t1 _ _ q2, e2, m, n, mk' rs ((p : Int) + 1), mk' rs p, rfl, t1 _ _ z1, t1 _ _ z2, lhas _, fun H2 s2 => ⟨_, rfl, ite2 (fun h1 => ?_) (fun h1 => ?_)⟩⟩
      · have hD2 := s2 D _ upd_same
        have t2 : Tst K H H2 := t1.trans (Tst.of s2)
        refine ⟨_, rfl, .inl ⟨rfl, _, SqL.of hD2⟩, ?_⟩
        refine ⟨_, rfl, _, rfl, p, 1, rfl, rfl, b, ys2, (p : Int) + 1, .ref r2, rfl, rfl, t2 _ _ w2, f2, _, rfl, o, 1, rfl, rfl, r2, _, o + 1, _, rfl, rfl, t2 _ _ g2, atO (by omega) (by omega), ?_⟩
        refine ⟨(by show 2 ≤ sizeLine; decide), fun t ht => ⟨D, [], .ref t, rfl, rfl, ?_, (by show 0 < sizeLine; decide), ?_⟩⟩
        · exact Same.upd ht D _ hD2
        · refine hn _ _ ⟨rfl, _, Same.upd2 (((Same.upd hD).trans s2).trans (Same.upd ht)) hD, upd_same, Nat.le_refl _, ?_⟩
          unfold sts1
          rw [if_pos h1]
          exact PvAt.snoc PvAt.nil (SqT.lst (Same.upd ht D _ hD2) _ _ (SqT.of upd_same))
      · refine hn _ _ ⟨rfl, [], (Same.upd hD).trans s2, s2 D _ upd_same, Nat.zero_le _, ?_⟩
        unfold sts1
        rw [if_neg h1]
        exact PvAt.nil
    · rintro σ H1 ⟨rfl, vs, s1, d1, lv, p1⟩
      refine tSeq_mid (fun σ H1 => σ = [some (.ref a), some (.ref b), some (.int p), some (.int o), some (.ref D), none] ∧ ∃ vs, Same H H1 ∧ H1 D = some (.lst vs) ∧ PvAt K H1 vs (sts rs p o (Tb.getD (p + 1) []))) (fun nx hn => ?_) ?_
      · have add : ∀ H2, Same H1 H2 → (decide (o = -1) || hasAll (mk' rs ((p : Int) + 1)) (mk' rs o)) = true → ∀ t, H2 t = none → nx [some (.ref a), some (.ref b), some (.int p), some (.int o), some (.ref D), none] (upd (upd H2 t (.tup [oV ((Tb.getD (p + 1) []).getD ((p : Int) + 1).toNat none), .int 0])) D (.lst (vs ++ [.ref t]))) := by
          intro H2 s2 hc t ht
          refine hn _ _ ⟨rfl, _, Same.upd2 ((s1.trans s2).trans (Same.upd ht)) hD, upd_same, ?_⟩
          rw [sts_is, if_pos hc]
          exact PvAt.snoc ((p1.tst (Tst.of (s2.trans (Same.upd ht)))).tst (SqT.lst (Same.upd ht D _ (s2 D _ d1)))) (SqT.lst (Same.upd ht D _ (s2 D _ d1)) _ _ (SqT.of upd_same))
        refine ⟨_, rfl, 1, rfl, rfl, _, rfl, ite2 (fun h1 => ?_) (fun h1 => ?_)⟩
        · refine iteT ⟨_, rfl, .inl ⟨rfl, _, SqL.of d1⟩, ?_⟩
          refine ⟨_, rfl, _, rfl, p, 1, rfl, rfl, b, ys2, (p : Int) + 1, .ref r2, rfl, rfl, s1.sqT w2, f2, _, rfl, p, 1, rfl, rfl, r2, _, (p : Int) + 1, _, rfl, rfl, s1.sqT g2, atO (by omega) (by omega), ?_⟩
          refine ⟨(by show 2 ≤ sizeLine; decide), fun t ht => ⟨D, vs, .ref t, rfl, rfl, Same.upd ht D _ d1, Nat.lt_of_le_of_lt lv (by decide), ?_⟩⟩
          exact add H1 (Same.refl _) (by have := of_decide_eq_true h1; injection this with z; rw [show o = -1 from z]; rfl) t ht
        · have ho : o ≠ -1 := fun z => h1 (by rw [z]; rfl)
          obtain ⟨xs3, n3, q3, l3, e3, z3⟩ := hR.at o (by omega) (by omega)
          refine ⟨_, rfl, _, rfl, p, 1, rfl, rfl, a, xs1, (p : Int) + 1, .ref m, rfl, rfl, s1.sqT q1, e1, _, rfl, _, rfl, a, xs3, o, .ref n3, rfl, rfl, s1.sqT q3, e3, m, n3, mk' rs ((p : Int) + 1), mk' rs o, rfl, s1.sqT z1, s1.sqT z3, lhas _, fun H2 s2 => ⟨_, rfl, ite2 (fun h2 => ?_) (fun h2 => ?_)⟩⟩
          · have s12 := s1.trans s2
            refine ⟨_, rfl, .inl ⟨rfl, _, SqL.of (s2 D _ d1)⟩, ?_⟩
            refine ⟨_, rfl, _, rfl, p, 1, rfl, rfl, b, ys2, (p : Int) + 1, .ref r2, rfl, rfl, s12.sqT w2, f2, _, rfl, p, 1, rfl, rfl, r2, _, (p : Int) + 1, _, rfl, rfl, s12.sqT g2, atO (by omega) (by omega), ?_⟩
            refine ⟨(by show 2 ≤ sizeLine; decide), fun t ht => ⟨D, vs, .ref t, rfl, rfl, Same.upd ht D _ (s2 D _ d1), Nat.lt_of_le_of_lt lv (by decide), ?_⟩⟩
            exact add H2 s2 (by rw [h2, Bool.or_true]) t ht
          · refine hn _ _ ⟨rfl, vs, s1.trans s2, s2 D _ d1, ?_⟩
            rw [sts_is, if_neg (by simp [ho, h2]), List.append_nil]
            exact p1.tst (Tst.of s2)
      · rintro σ H2 ⟨rfl, vs, s1, d1, p1⟩
        refine ⟨_, rfl, _, rfl, b, ys1, p, .ref r1, rfl, rfl, s1.sqT w1, f1, _, rfl, o, 1, rfl, rfl, r1, _, o + 1, _, rfl, rfl, s1.sqT g1, atO (by omega) (by omega), ?_⟩
        have k' := fun H3 (s3 : Same H2 H3) => k H3 (s1.trans s3)
        rw [← sts_may] at k'
        generalize (Tb.getD p []).getD (o + 1).toNat none = fl at k' ⊢
        have hz : (2 : Nat) ≤ sizeLine := by decide
        have fin : ∀ (H3 H4 : Hp) (D2 D3 : Addr) (R : VK), Same H2 H3 → H3 D2 = none → upd H3 D2 (.lst (((sts rs p o (Tb.getD (p + 1) [])).filterMap (sel fl)).map V.int)) = H4 → H4 D3 = none → (∀ H', Same H2 H' → R (.bl ((sts rs p o (Tb.getD (p + 1) [])).filterMap (sel fl)).isEmpty) H') → rEqD K false (.ref D2) (.ref D3) (upd H4 D3 (.lst [])) R := by
          intro H3 H4 D2 D3 R s3 h3 e4 h4 hR
          subst e4
          have s4 := Same.upd (o := .lst []) h4
          refine ⟨.list (((sts rs p o (Tb.getD (p + 1) [])).filterMap (sel fl)).map .int), .list [], fun _ => False, ?_, ?_, lay_ints _, rfl, ?_, ?_⟩
          · simp only [DV]
            exact ⟨D2, _, rfl, not_false, s4 _ _ upd_same, dvs_ints _⟩
          · simp only [DV]
            exact ⟨D3, _, rfl, not_false, upd_same, rfl⟩
          · show min _ 1 ≤ 100
            omega
          · rw [eqv_nil, List.isEmpty_map]
            exact hR _ ((s3.trans (Same.upd h3)).trans s4)
        dsimp only [gName]
        cases fl with
        | none =>
          refine ⟨_, rfl, rfl, _, rfl, iteT ?_⟩
          refine ⟨_, rfl, D, rfl, ⟨vs, SqL.of d1⟩, ?_⟩
          refine cw_listP (xs := vs) (fun i acc H' => Same H2 H' ∧ acc = (((sts rs p o (Tb.getD (p + 1) [])).take i).filterMap (sel none)).map V.int) ⟨Same.refl _, rfl⟩ (fun i acc H' hi q => ⟨?_, SqL.of (q.1 _ _ d1)⟩) (fun i x acc H' hx q => ?_) (fun acc H' q D2 hD2 => ⟨Nat.zero_le _, fun D3 h3 => fin H' _ D2 D3 _ q.1 hD2 (by rw [q.2, p1.1, List.take_length]) h3 k'⟩)
          · rw [q.2, List.length_map]
            refine Nat.le_trans (Nat.le_trans (List.length_filterMap_le _ _) ?_) hz
            rw [List.length_take]
            have := sts_len rs p o (Tb.getD (p + 1) [])
            omega
          · obtain ⟨pp, wy, ew, rfl, ep⟩ := p1.2 i x hx
            have hi : i < (sts rs p o (Tb.getD (p + 1) [])).length := (List.getElem?_eq_some_iff.mp ew).1
            have ewi : (sts rs p o (Tb.getD (p + 1) []))[i] = wy := (List.getElem?_eq_some_iff.mp ew).2
            refine ⟨pp, _, _, rfl, q.1.sqT ep, ?_⟩
            obtain ⟨v, c⟩ := wy
            cases v with
            | none =>
              have eb : sel none (none, c) = none := rfl
              refine ⟨_, rfl, rfl, _, rfl, iteF ⟨q.1, ?_⟩⟩
              rw [q.2, take_one hi, List.filterMap_append, ewi]
              simp [List.filterMap_cons, eb]
            | some x =>
              have eb : sel none (some x, c) = some x := rfl
              refine ⟨_, rfl, rfl, _, rfl, iteT ⟨_, rfl, q.1, ?_⟩⟩
              rw [q.2, take_one hi, List.filterMap_append, ewi]
              simp [List.filterMap_cons, eb, oV]
        | some m =>
          refine ⟨_, rfl, rfl, _, rfl, iteF ?_⟩
          refine ⟨_, rfl, D, rfl, ⟨vs, SqL.of d1⟩, ?_⟩
          refine cw_listP (xs := vs) (fun i acc H' => Same H2 H' ∧ acc = (((sts rs p o (Tb.getD (p + 1) [])).take i).filterMap (sel (some m))).map V.int) ⟨Same.refl _, rfl⟩ (fun i acc H' hi q => ⟨?_, SqL.of (q.1 _ _ d1)⟩) (fun i x acc H' hx q => ?_) (fun acc H' q D2 hD2 => ⟨Nat.zero_le _, fun D3 h3 => fin H' _ D2 D3 _ q.1 hD2 (by rw [q.2, p1.1, List.take_length]) h3 k'⟩)
          · rw [q.2, List.length_map]
            refine Nat.le_trans (Nat.le_trans (List.length_filterMap_le _ _) ?_) hz
            rw [List.length_take]
            have := sts_len rs p o (Tb.getD (p + 1) [])
            omega
          · obtain ⟨pp, wy, ew, rfl, ep⟩ := p1.2 i x hx
            have hi : i < (sts rs p o (Tb.getD (p + 1) [])).length := (List.getElem?_eq_some_iff.mp ew).1
            have ewi : (sts rs p o (Tb.getD (p + 1) []))[i] = wy := (List.getElem?_eq_some_iff.mp ew).2
            refine ⟨pp, _, _, rfl, q.1.sqT ep, ?_⟩
            obtain ⟨v, c⟩ := wy
            cases v with
            | none =>
              have eb : sel (some m) (none, c) = none := rfl
              refine ⟨_, rfl, rfl, _, rfl, iteF (iteF ⟨q.1, ?_⟩)⟩
              rw [q.2, take_one hi, List.filterMap_append, ewi]
              simp [List.filterMap_cons, eb]
            | some x =>
              refine ⟨_, rfl, rfl, _, rfl, iteT ⟨_, rfl, _, rfl, x, c, rfl, rfl, _, rfl, x + c, m, rfl, rfl, _, rfl, ?_⟩⟩
              by_cases hm : x + c < m
              · have eb : sel (some m) (some x, c) = some x := if_pos hm
                rw [decide_eq_true hm]
                refine iteT ⟨_, rfl, q.1, ?_⟩
                rw [q.2, take_one hi, List.filterMap_append, ewi]
                simp [List.filterMap_cons, eb, oV]
              · have eb : sel (some m) (some x, c) = none := if_neg hm
                rw [decide_eq_false hm]
                refine iteF ⟨q.1, ?_⟩
                rw [q.2, take_one hi, List.filterMap_append, ewi]
                simp [List.filterMap_cons, eb]
end
end TM

set_option Elab.async false
set_option linter.all false
set_option maxRecDepth 100000
set_option maxHeartbeats 4000000
namespace TM
open PySem L2
section
variable {P : Program} {w : World} {K : PySem.W.Frag} {mg : Str → Option Value} {base : Heap}
structure P4 (K : PySem.W.Frag) (mg : Str → Option Value) : Prop where
  T : Blt mg
  has : ∃ f fd, Gd K mg "_law_has" sLHas ["_law_marks_here", "_law_other"] f fd
  stand : ∃ f fd, Gd K mg "_law_stand_good" sLStand ["_law_run_here", "_law_thing", "_law_place", "_law_other"] f fd
  row : ∃ f fd, Gd K mg "_law_row_good" sLRow ["_law_run_here", "_law_thing", "_law_place"] f fd
def spRow (K : PySem.W.Frag) : Sp := fun vs H Q _ => ∃ (a b : Addr) (rs : List (List Int)) (T : List (List (Option Int))) (p : Nat), vs = [.ref a, .ref b, .int p] ∧ RunAt K H a rs ∧ GoodRun rs ∧ TabAt K H b T ∧ Shape rs.length T ∧ p + 1 < rs.length ∧ ∀ H', Same H H' → Q (.bl (isProved rs T p)) H'
theorem scRg : FnScope ["_law_run_here", "_law_thing", "_law_place"] ["_law_run_here", "_law_thing", "_law_place"] (defScope sLRow) := ⟨rfl, rfl, rfl, by decide +kernel, rfl, by decide +kernel, by decide +kernel⟩
theorem ok_lrow (S : P4 K mg) {f : Addr} {fd : FuncData} (G : Gd K mg "_law_row_good" sLRow ["_law_run_here", "_law_thing", "_law_place"] f fd) : FnOk P w K mg base CX0 4 f fd ["_law_run_here", "_law_thing", "_law_place"] (spRow K) := by
  obtain ⟨fA, fdA, GA⟩ := S.has
  obtain ⟨fS, fdS, GS⟩ := S.stand
  have T := S.T
  have nd : (["_law_other", "_law_run_here", "_law_thing", "_law_place"] : List Str).Nodup := by decide +kernel
  refine G.fn.ok scRg (fun vs H Q E h => ?_) (fun cdv A outer s H vs Q E hr h => ?_)
  · obtain ⟨a, b, rs, T, p, rfl, _⟩ := h
    rfl
  · obtain ⟨a, b, rs, Tb, p, rfl, hR, hg, hT, hS, hp, k⟩ := h
    refine ⟨_, pss_one (ps_ret (pe_cmpR op_notIn_seq pe_bl (pe_comp (N := ["_law_other", "_law_run_here", "_law_thing", "_law_place"]) (nt := 1) (cap := [0, 1, 2]) rfl (cs_of (by kernel_rfl)) gok_name (pi_range2 rfl T.range (pa_cons (pe_un un_neg pe_int) (pa_cons (pv 2) pa_nil)))
      (fun cl C s H ex pn => ⟨pg_name (i := 0) nd rfl (Or.inl rfl), pf_nil, pe_call (ok_lstand T GS GA) hr rfl GS.mg GS.fn.kp GS.b .nil pass0 (pa_cons (pv 1) (pa_cons (pv 2) (pa_cons (pv 3) (pa_cons (pv 0) pa_nil))))⟩)) rfl)), ?_⟩
    have hg1 := hg.2.1
    refine ⟨1, rfl, _, rfl, -1, p, rfl, ⟨by omega, by omega, by omega, by omega⟩, ?_⟩
    have en : ((p : Int) - -1).toNat = p + 1 := by omega
    rw [en]
    refine cw_boolsR ((List.range (p + 1)).map fun j => mayStand ((Tb.getD p []).getD j none) (bnds rs p ((j : Int) - 1) (Tb.getD (p + 1) []))) (by simp) (by omega) (fun i H' R hi s1 hR' => ?_) (fun H' D s1 hD => ?_)
    · refine ⟨_, rfl, _, rfl, _, rfl, _, rfl, a, b, rs, Tb, p, -1 + (i : Int), rfl, hR.tst (Tst.of s1), hg, hT.tst (Tst.of s1), hS, hp, by omega, by omega, fun H6 s6 => ?_⟩
      have := hR' H6 s6
      rw [show (-1 + (i : Int) + 1).toNat = i by omega, show -1 + (i : Int) = (i : Int) - 1 by omega]
      simpa [List.getD, List.getElem?_map, List.getElem?_range hi] using this
    · refine ⟨D, _, rfl, .inl (SqL.of hD), rfl, flat_bools _, ?_⟩
      have := k _ s1
      unfold isProved at this
      rw [if_neg (by omega)] at this
      rw [inV_bools, if_pos rfl, Bool.not_not, List.all_map]
      exact this
end
end TM

set_option Elab.async false
set_option linter.all false
set_option maxRecDepth 100000
set_option maxHeartbeats 4000000
namespace TM
open PySem L2
abbrev sLGood : Stmt := top 37
theorem atI_end {xs : List V} {x : V} (h0 : xs ≠ []) (h : xs[xs.length - 1]? = some x) : atI xs (-1) = some x := by
  have e := List.dropLast_concat_getLast h0
  have := atI_last xs.dropLast (xs.getLast h0)
  rw [e] at this
  rw [this, ← h, List.getLast_eq_getElem]
  have hl : 0 < xs.length := List.length_pos_iff.mpr h0
  rw [List.getElem?_eq_getElem (by omega)]
def dO : Option Int → PyData
  | none => .none
  | some n => .int n
theorem layAll_opts : ∀ ns : List (Option Int), PyData.canLayAll0 (ns.map dO) = true
  | [] => rfl
  | n :: ns => by
    rw [List.map_cons]
    cases n <;> simp only [dO, PyData.canLayAll0, PyData.canLay0, Bool.true_and] <;> exact layAll_opts ns
theorem lay_opts (ns : List (Option Int)) : (PyData.list (ns.map dO)).canLay0 = true := by
  simp only [PyData.canLay0]
  exact layAll_opts ns
theorem dvs_opts {K : PySem.W.Frag} {Z : Addr → Prop} {H : Hp} : ∀ ns : List (Option Int), DVs K Z H (ns.map dO) (ns.map oV)
  | [] => rfl
  | n :: ns => ⟨oV n, ns.map oV, rfl, by cases n <;> rfl, dvs_opts ns⟩
theorem noTab {rs : List (List Int)} {ds : List PyData} {j : Nat} (hj : j < ds.length) (h : areNums (ds.getD j .none) ((j : Int) + 1) = false) : goodP rs (.tuple ds) = false := by
  have e : isTable rs.length (.tuple ds) = false := by
    show (decide (ds.length = rs.length) && (List.range ds.length).all fun i => areNums (ds.getD i .none) (i + 1)) = false
    rw [Bool.and_eq_false_iff]
    right
    rw [Bool.eq_false_iff]
    intro z
    have := List.all_eq_true.mp z j (List.mem_range.mpr hj)
    rw [this] at h
    cases h
  unfold goodP
  rw [e, Bool.false_and]
theorem goodP_last {rs : List (List Int)} {d : PyData} {m : Nat} (hm : rs.length = m + 1) (ht : isTable rs.length d = true) : goodP rs d = ((List.range m).all (isProved rs (tabOf d)) && ((tabOf d).getD m []).all fun x => decide (x = some 0)) := by
  unfold goodP
  rw [ht, Bool.true_and, hm, List.range_succ, List.all_append]
  have : isProved rs (tabOf d) m = ((tabOf d).getD m []).all fun x => decide (x = some 0) := by
    unfold isProved
    rw [if_pos hm.symm]
  rw [← this]
  simp
theorem all_take_one {α : Type} {f : α → Bool} {xs : List α} {i : Nat} {x : α} (h : xs[i]? = some x) : (xs.take (i + 1)).all f = ((xs.take i).all f && f x) := by
  rw [List.take_add_one, h, List.all_append]
  simp
section
variable {P : Program} {w : World} {K : PySem.W.Frag} {mg : Str → Option Value} {base : Heap}
abbrev nGd : List Str := ["_law_run_here", "_law_thing", "_law_place", "_law_row", "_law_floor"]
theorem scGd : FnScope nGd ["_law_run_here", "_law_thing"] (defScope sLGood) := ⟨rfl, rfl, rfl, by decide +kernel, rfl, by decide +kernel, by decide +kernel⟩
theorem ok_lgood (S : P4 K mg) {f : Addr} {fd : FuncData} (G : Gd K mg "_law_good" sLGood ["_law_run_here", "_law_thing"] f fd) : FnOk P w K mg base CX0 5 f fd ["_law_run_here", "_law_thing"] (spPaper K) := by
  obtain ⟨fR, fdR, GR⟩ := S.row
  have T := S.T
  have nd1 : (["_law_floor"] : List Str).Nodup := by decide +kernel
  have nd2 : (["_law_place", "_law_run_here", "_law_thing"] : List Str).Nodup := by decide +kernel
  refine G.fn.ok scGd (fun vs H Q E h => ?_) (fun cdv A outer s H vs Q E hr h => ?_)
  · obtain ⟨Z, a, d, v, rs, rfl, _⟩ := h
    rfl
  · obtain ⟨Z, a, d, v, rs, rfl, hR, hg, hd, k⟩ := h
    refine ⟨_, pss_cons (ps_if (PW.pt (pw_or (pt_not (pt_val (pe_callB call_isi_tuple rfl T.isinstance b_isinstance (pa_cons (pv 1) (pa_cons (pe_ty b_tuple rfl T.tuple) pa_nil)))))
          (pw_or1 (pt_cmpR op_ne (pe_callB call_len_seq rfl T.len b_len (pa_cons (pv 1) pa_nil)) (pe_callB call_len_seq rfl T.len b_len (pa_cons (pv 0) pa_nil)) (nomark _)))))
        (pss_one (ps_ret pe_bl)) pss_nil)
      (pss_cons (ps_for PassesOwn.never rfl (pi_enumT rfl T.enumerate (pa_cons (pv 1) pa_nil)) (pg_tup rfl (pgs_cons (pg_name (i := 2) scGd.nd rfl (Or.inl rfl)) (pgs_cons (pg_name (i := 3) scGd.nd rfl (Or.inl rfl)) pgs_nil)))
        (pss_cons (ps_if (PW.pt (pw_or (pt_not (pt_val (pe_callB call_isi_tuple rfl T.isinstance b_isinstance (pa_cons (pv 3) (pa_cons (pe_ty b_tuple rfl T.tuple) pa_nil)))))
            (pw_or1 (pt_cmpR op_ne (pe_callB call_len_seq rfl T.len b_len (pa_cons (pv 3) pa_nil)) (pe_op op_add (pv 2) pe_int) (nomark _)))))
          (pss_one (ps_ret pe_bl)) pss_nil)
        (pss_one (ps_for PassesOwn.never rfl (pi_tup (pv 3)) (pg_name (i := 4) scGd.nd rfl (Or.inl rfl))
          (pss_cons (ps_if (pt_cmpR op_isN (pv 4) pe_non (nomark _)) (pss_one ps_continue) pss_nil)
          (pss_one (ps_if (PW.pt (pw_or (pt_not (pt_val (pe_callB call_isi_int rfl T.isinstance b_isinstance (pa_cons (pv 4) (pa_cons (pe_ty b_int rfl T.int) pa_nil)))))
            (pw_or (pt_val (pe_callB call_isi_bool rfl T.isinstance b_isinstance (pa_cons (pv 4) (pa_cons (pe_ty b_bool rfl T.bool) pa_nil))))
            (pw_or1 (pt_cmpR op_lt (pv 4) pe_int (nomark _)))))) (pss_one (ps_ret pe_bl)) pss_nil)))))))
      (pss_cons (ps_if (pt_cmpR (op_neD hr) (pe_comp (N := ["_law_floor"]) (nt := 1) (cap := []) rfl (cs_of (by kernel_rfl)) gok_name (pi_tup (pe_ix ix_tup (pv 1) (pe_un un_neg pe_int) (fun _ _ => rfl)))
          (fun cl C s H ex pn => ⟨pg_name (i := 0) nd1 rfl (Or.inl rfl), pf_one (pt_cmpR op_ne (pv 0) pe_int (nomark _)), pv 0⟩)) (pe_lst pa_nil) (nomark _)) (pss_one (ps_ret pe_bl)) pss_nil)
      (pss_one (ps_ret (pe_cmpR op_notIn_seq pe_bl (pe_comp (N := ["_law_place", "_law_run_here", "_law_thing"]) (nt := 1) (cap := [0, 1]) rfl (cs_of (by kernel_rfl)) gok_name (pi_range1 rfl T.range (pa_cons (pe_op op_sub (pe_callB call_len_seq rfl T.len b_len (pa_cons (pv 0) pa_nil)) pe_int) pa_nil))
          (fun cl C s H ex pn => ⟨pg_name (i := 0) nd2 rfl (Or.inl rfl), pf_nil, pe_call (ok_lrow S GR) hr rfl GR.mg GR.fn.kp GR.b .nil pass0 (pa_cons (pv 1) (pa_cons (pv 2) (pa_cons (pv 0) pa_nil)))⟩)) rfl))))), ?_⟩
    refine ⟨_, rfl, v, _, rfl, hd.kd, _, rfl, ?_⟩
    have hg0 := hg.1
    have hg1 := hg.2.1
    obtain ⟨as, ra, rl, _⟩ := id hR
    cases d with
    | tuple ds =>
      obtain ⟨b, xs, e, hq, hds⟩ : ∃ b xs, v = .ref b ∧ SqT K H b xs ∧ DVs K Z H ds xs := by
        have hd' := hd
        simp only [DV] at hd'
        exact hd'
      subst e
      have hlen := hds.length
      refine iteF ⟨_, rfl, b, xs, rfl, .inr hq, _, rfl, a, _, rfl, .inr ra, rfl, _, rfl, ?_⟩
      rw [decI, ← hlen, List.length_map, rl]
      by_cases hn : ds.length = rs.length
      · rw [decide_eq_true (by omega)]
        refine iteF ⟨_, rfl, b, xs, rfl, hq, ?_⟩
        refine for_enumT (xs := xs) (fun i σ H' => Same H H' ∧ (∃ v2 v3 v4, σ = [some (.ref a), some (.ref b), v2, v3, v4]) ∧ ∀ j, j < i → areNums (ds.getD j .none) ((j : Int) + 1) = true) ⟨Same.refl _, ⟨none, none, none, rfl⟩, fun j hj => by omega⟩ (fun i σ H' _ q => q.1.sqT hq) ?_ ?_
        · rintro i x σ H' p hx ⟨s1, ⟨v2, v3, v4, rfl⟩, hj⟩ hp
          obtain ⟨d', e', hv⟩ := hds.get i x hx
          have hi : i < ds.length := (List.getElem?_eq_some_iff.mp e').1
          have ed : ds.getD i .none = d' := by simp [List.getD, e']
          have s2 : Same H (upd H' p (.tup [.int i, x])) := s1.trans (Same.upd hp)
          have hv2 := hv.stay (H' := upd H' p (.tup [.int i, x])) s2.stay
          have bad : areNums d' ((i : Int) + 1) = false → ∀ H6, Same (upd H' p (.tup [.int i, x])) H6 → Q (.bl false) H6 := fun hb H6 s6 => by
            have := k H6 (s2.trans s6)
            rw [noTab hi (by rw [ed]; exact hb)] at this
            exact this
          refine ⟨p, [.int i, x], rfl, SqT.of upd_same, rfl, .int i, [x], rfl, x, [], rfl, rfl, ?_⟩
          refine ⟨_, rfl, x, _, rfl, hv2.kd, _, rfl, ?_⟩
          cases d' with
          | tuple es =>
            obtain ⟨c, ys, e, hc, hes⟩ : ∃ c ys, x = .ref c ∧ SqT K (upd H' p (.tup [.int i, x])) c ys ∧ DVs K Z (upd H' p (.tup [.int i, x])) es ys := by
              have hd' := hv2
              simp only [DV] at hd'
              exact hd'
            subst e
            have hle := hes.length
            refine iteF ⟨_, rfl, c, ys, rfl, .inr hc, _, rfl, i, 1, rfl, rfl, rfl, _, rfl, ?_⟩
            rw [decI, ← hle]
            by_cases hm : (es.length : Int) = (i : Int) + 1
            · rw [decide_eq_true hm]
              refine iteF ⟨_, rfl, c, rfl, ⟨ys, hc⟩, ?_⟩
              refine for_tup (xs := ys) (fun j σ H6 => H6 = upd H' p (.tup [.int i, .ref c]) ∧ (∃ v4, σ = [some (.ref a), some (.ref b), some (.int i), some (.ref c), v4]) ∧ (es.take j).all numO = true) ⟨rfl, ⟨v4, rfl⟩, rfl⟩ (fun j σ H6 _ q => by rw [q.1]; exact hc) ?_ ?_
              · rintro j y σ H6 hy ⟨e6, ⟨v5, rfl⟩, hall⟩
                subst e6
                obtain ⟨d2, e2, hv3⟩ := hes.get j y hy
                have bad2 : numO d2 = false → Q (.bl false) (upd H' p (.tup [.int i, .ref c])) := fun hb => bad (by
                  show (decide ((es.length : Int) = (i : Int) + 1) && es.all numO) = false
                  rw [Bool.and_eq_false_iff]
                  right
                  rw [Bool.eq_false_iff]
                  intro z
                  have := List.all_eq_true.mp z d2 (List.mem_of_getElem? e2)
                  rw [this] at hb
                  cases hb) _ (Same.refl _)
                have go : numO d2 = true → (es.take (j + 1)).all numO = true := fun h => by rw [all_take_one e2, hall, h]; rfl
                refine ⟨_, rfl, rfl, _, rfl, ?_⟩
                cases d2 with
                | none =>
                  have e : y = .non := hv3
                  subst e
                  exact iteT ⟨rfl, ⟨_, rfl⟩, go rfl⟩
                | int n =>
                  have e : y = .int n := hv3
                  subst e
                  refine iteF ⟨_, rfl, _, _, rfl, hv3.kd, _, rfl, iteF ⟨_, rfl, _, _, rfl, hv3.kd, _, rfl, iteF ⟨_, rfl, n, 0, rfl, rfl, _, rfl, ?_⟩⟩⟩
                  by_cases h0 : n < 0
                  · rw [decide_eq_true h0]
                    refine iteT (bad2 ?_)
                    show decide (0 ≤ n) = false
                    exact decide_eq_false (by omega)
                  · rw [decide_eq_false h0]
                    refine iteF ⟨rfl, ⟨_, rfl⟩, go ?_⟩
                    show decide (0 ≤ n) = true
                    exact decide_eq_true (by omega)
                | bool n =>
                  have e : y = .bl n := hv3
                  subst e
                  exact iteF ⟨_, rfl, _, _, rfl, hv3.kd, _, rfl, iteF ⟨_, rfl, _, _, rfl, hv3.kd, _, rfl, iteT (bad2 rfl)⟩⟩
                | str n =>
                  have e : y = .str n := hv3
                  subst e
                  exact iteF ⟨_, rfl, _, _, rfl, hv3.kd, _, rfl, iteT (bad2 rfl)⟩
                | tuple n =>
                  obtain ⟨z, e⟩ : ∃ z, y = .ref z := by
                    have hd' := hv3
                    simp only [DV] at hd'
                    obtain ⟨z, _, e, _⟩ := hd'
                    exact ⟨z, e⟩
                  subst e
                  exact iteF ⟨_, rfl, _, _, rfl, hv3.kd, _, rfl, iteT (bad2 rfl)⟩
                | list n =>
                  obtain ⟨z, e⟩ : ∃ z, y = .ref z := by
                    have hd' := hv3
                    simp only [DV] at hd'
                    obtain ⟨z, _, e, _⟩ := hd'
                    exact ⟨z, e⟩
                  subst e
                  exact iteF ⟨_, rfl, _, _, rfl, hv3.kd, _, rfl, iteT (bad2 rfl)⟩
                | dict n =>
                  obtain ⟨z, e⟩ : ∃ z, y = .ref z := by
                    have hd' := hv3
                    simp only [DV] at hd'
                    obtain ⟨z, _, e, _⟩ := hd'
                    exact ⟨z, e⟩
                  subst e
                  exact iteF ⟨_, rfl, _, _, rfl, hv3.kd, _, rfl, iteT (bad2 rfl)⟩
              · rintro σ H6 ⟨e6, ⟨v5, rfl⟩, hall⟩
                subst e6
                refine ⟨s2, ⟨_, _, _, rfl⟩, fun j hj' => ?_⟩
                by_cases hji : j < i
                · exact hj j hji
                · have : j = i := by omega
                  subst this
                  rw [ed]
                  show (decide ((es.length : Int) = (j : Int) + 1) && es.all numO) = true
                  rw [decide_eq_true hm, Bool.true_and]
                  rw [← hle, List.take_length] at hall
                  exact hall
            · rw [decide_eq_false hm]
              refine iteT (bad ?_ _ (Same.refl _))
              show (decide ((es.length : Int) = (i : Int) + 1) && _) = false
              rw [decide_eq_false hm, Bool.false_and]
          | _ => exact iteT (bad rfl _ (Same.refl _))
        · rintro σ H1 ⟨s1, ⟨v2, v3, v4, rfl⟩, hj⟩
          have ht : isTable rs.length (.tuple ds) = true := by
            show (decide (ds.length = rs.length) && (List.range ds.length).all fun i => areNums (ds.getD i .none) (i + 1)) = true
            rw [decide_eq_true hn, Bool.true_and, List.all_eq_true]
            intro j hj'
            exact hj j (by rw [← hlen]; exact List.mem_range.mp hj')
          obtain ⟨b', eb, hT, hS⟩ := table_at ht (hd.stay (H' := H1) s1.stay)
          cases eb
          obtain ⟨m, hm⟩ : ∃ m, rs.length = m + 1 := ⟨rs.length - 1, by omega⟩
          have kg := fun H' (s' : Same H1 H') => k H' (s1.trans s')
          rw [goodP_last hm ht] at kg
          have hR1 := hR.tst (Tst.of s1)
          generalize tabOf (.tuple ds) = Tb at *
          obtain ⟨zs, w1, w2, w3⟩ := id hT
          have hzl : zs.length = m + 1 := by rw [w2, hS.1, hm]
          have ez : zs[m]? = some zs[m] := List.getElem?_eq_getElem (by omega)
          obtain ⟨c, ec, wc⟩ := w3 m _ ez
          rw [ec] at ez
          have hrow := hS.2 m (by omega)
          have hz : (1000 : Nat) ≤ sizeLine := by decide
          refine ⟨_, rfl, 1, rfl, b, zs, -1, .ref c, rfl, rfl, w1, atI_end (by intro z; rw [z] at hzl; cases hzl) (by rw [hzl]; exact ez), c, rfl, ⟨_, wc⟩, ?_⟩
          refine cw_tup (xs := (Tb.getD m []).map oV) (fun i acc H' => Same H1 H' ∧ acc = (((Tb.getD m []).take i).filter fun x => !decide (x = some 0)).map oV) ⟨Same.refl _, rfl⟩ (fun i acc H' hi q => ⟨?_, q.1.sqT wc⟩) (fun i x acc H' hx q => ?_) (fun acc H' q D hD => ?_)
          · rw [q.2, List.length_map]
            refine Nat.le_trans (Nat.le_trans (List.length_filter_le _ _) ?_) hz
            rw [List.length_take]
            omega
          · rw [List.getElem?_map] at hx
            cases em : (Tb.getD m [])[i]? with
            | none => rw [em] at hx; cases hx
            | some o =>
              rw [em] at hx
              cases hx
              obtain ⟨hi, ei⟩ := List.getElem?_eq_some_iff.mp em
              cases o with
              | none =>
                refine ⟨_, rfl, rfl, _, rfl, iteT ⟨_, rfl, q.1, ?_⟩⟩
                rw [q.2, take_one hi, List.filter_append, ei, List.filter_cons_of_pos (by decide)]
                simp
              | some n =>
                by_cases h0 : n = 0
                · subst h0
                  refine ⟨_, rfl, rfl, _, rfl, iteF ⟨q.1, ?_⟩⟩
                  rw [q.2, take_one hi, List.filter_append, ei, List.filter_cons_of_neg (by decide)]
                  simp
                · refine ⟨_, rfl, rfl, _, rfl, ?_⟩
                  rw [show (!decide (oV (some n) = V.int 0)) = true by rw [decide_eq_false (fun z => h0 (by injection z))]; rfl]
                  refine iteT ⟨_, rfl, q.1, ?_⟩
                  rw [q.2, take_one hi, List.filter_append, ei, List.filter_cons_of_pos (by simpa using h0)]
                  simp
          · refine ⟨Nat.zero_le _, fun D2 hD2 => ?_⟩
            rw [List.length_map, List.take_length] at q
            obtain ⟨q1, q2⟩ := q
            have s2 := Same.upd (o := .lst []) hD2
            have s3 := (q1.trans (Same.upd (o := .lst acc) hD)).trans s2
            refine ⟨.list (((Tb.getD m []).filter fun x => !decide (x = some 0)).map dO), .list [], fun _ => False, ?_, ?_, lay_opts _, rfl, ?_, _, rfl, ?_⟩
            · simp only [DV]
              exact ⟨D, _, rfl, not_false, s2 _ _ (by rw [upd_same, q2]), dvs_opts _⟩
            · simp only [DV]
              exact ⟨D2, _, rfl, not_false, upd_same, rfl⟩
            · show min _ 1 ≤ 100
              omega
            · rw [eqv_nil, List.isEmpty_map, if_pos rfl]
              cases hA : (Tb.getD m []).all fun x => decide (x = some 0) with
              | false =>
                rw [hA, Bool.and_false] at kg
                have e : ((Tb.getD m []).filter fun x => !decide (x = some 0)).isEmpty = false := by
                  rw [Bool.eq_false_iff]
                  intro z
                  rw [List.isEmpty_iff, List.filter_eq_nil_iff] at z
                  rw [Bool.eq_false_iff] at hA
                  refine hA (List.all_eq_true.mpr fun o ho => ?_)
                  have := z o ho
                  cases hy : decide (o = some 0) with
                  | true => rfl
                  | false => rw [hy] at this; exact absurd rfl this
                rw [e]
                exact iteT (kg _ s3)
              | true =>
                rw [hA, Bool.and_true] at kg
                have e : ((Tb.getD m []).filter fun x => !decide (x = some 0)).isEmpty = true := by
                  rw [List.isEmpty_iff, List.filter_eq_nil_iff]
                  intro o ho
                  have := List.all_eq_true.mp hA o ho
                  rw [this]
                  decide
                rw [e]
                obtain ⟨as2, ra2, rl2, _⟩ := id hR1
                refine iteF ⟨_, rfl, a, _, rfl, .inr (s3.sqT ra2), _, 1, rfl, rfl, _, rfl, ?_, ?_, ?_⟩
                · rw [List.length_map, rl2]; omega
                · rw [List.length_map, rl2]; omega
                · rw [List.length_map, rl2, show (((rs.length : Nat) : Int) - 1).toNat = m by omega]
                  refine cw_boolsR ((List.range m).map (isProved rs Tb)) (by simp) (by omega) (fun i H' R hi s4 hR' => ?_) (fun H' D s4 hD => ?_)
                  · refine ⟨_, rfl, _, rfl, _, rfl, a, b, rs, Tb, i, ?_, hR1.tst (Tst.of (s3.trans s4)), hg, hT.tst (Tst.of (s3.trans s4)), hS, by omega, fun H6 s6 => ?_⟩
                    · rw [show (0 : Int) + (i : Int) = (i : Int) by omega]; rfl
                    · have := hR' H6 s6
                      simpa [List.getD, List.getElem?_map, List.getElem?_range hi] using this
                  · refine ⟨D, _, rfl, .inl (SqL.of hD), rfl, flat_bools _, ?_⟩
                    have := kg _ (s3.trans s4)
                    rw [inV_bools, if_pos rfl, Bool.not_not, List.all_map]
                    exact this
      · rw [decide_eq_false (by omega)]
        refine iteT ?_
        have := k _ (Same.refl _)
        unfold goodP at this
        rw [show isTable rs.length (.tuple ds) = false by show (decide (ds.length = rs.length) && _) = false; rw [decide_eq_false hn, Bool.false_and], Bool.false_and] at this
        exact this
    | _ => exact iteT (k _ (Same.refl _))
end
end TM

set_option Elab.async false
set_option linter.all false
set_option maxRecDepth 100000
set_option maxHeartbeats 4000000
namespace L2
open PySem PySem.Spec PyProof.Rows
theorem pe_minK {X : Cx} {K : PySem.W.Frag} {p pos kp : Pos} {e d : Expr} {ta tk : TA} (hK : X.K = K) (hc : X.calm = true) (hg : Gl X "min") (hm : X.mg "min" = none) (ha : PA X [e] ta) (hk : PK X [⟨some "default", d, kp⟩] tk) (he : backTo pos (starEach [e] X.env) = (false, eval e X.env) :: backTo pos (starEach [] X.env) := by rfl) (hpl : (backTo pos (starEach [e] X.env)).any (·.1) = false := by rfl) :
    PE X (.Call (.Name "min" p) [e] [⟨some "default", d, kp⟩] pos) (tMinD K ta tk) := hK ▸ pe_minD hc hg hm ha hk he hpl
end L2
namespace TM
open PySem L2
abbrev sOf : Stmt := top 17
def Rows (c m : Nat) (T : List (List (Option Int))) : Prop := ∀ j r, T[j]? = some r → r.length = c + j ∧ ∀ x ∈ r, ∀ k : Int, x = some k → 0 ≤ k ∧ k ≤ (m : Int)
section
variable {P : Program} {w : World} {K : PySem.W.Frag} {mg : Str → Option Value} {base : Heap}
def spOf (K : PySem.W.Frag) : Sp := fun vs H Q _ => ∃ (a : Addr) (rs : List (List Int)), vs = [.ref a] ∧ RunAt K H a rs ∧ GoodRun rs ∧ ∀ H' b T, Same H H' → TabAt K H' b T → T.length = rs.length → Rows 1 10 T → Q (.ref b) H'
abbrev nOf : List Str := ["run", "paper", "place", "bounds"]
theorem scOf : FnScope nOf ["run"] (defScope sOf) := ⟨rfl, rfl, rfl, by decide +kernel, rfl, by decide +kernel, by decide +kernel⟩
theorem flat_rep (k : Nat) : (List.replicate k [V.int 0]).flatten = (List.replicate k (some (0 : Int))).map oV := by
  induction k with
  | zero => rfl
  | succ k ih => rw [List.replicate_succ, List.flatten_cons, ih]; rfl
def BlAt (H : Hp) (m : Nat) (x : V) : Prop := ∃ (l : Addr) (bs : List Int), x = V.ref l ∧ H l = some (.lst (bs.map V.int)) ∧ ∀ b ∈ bs, 0 ≤ b ∧ b ≤ (m : Int)
theorem bnds_mem {rs : List (List Int)} {p o : Int} {as : List (Option Int)} {m : Nat} (h : ∀ x ∈ as, ∀ k, x = some k → 0 ≤ k ∧ k ≤ (m : Int)) : ∀ b ∈ bnds rs p o as, 0 ≤ b ∧ b ≤ ((m + 1 : Nat) : Int) := by
  intro b hb
  unfold bnds at hb
  rw [List.mem_filterMap] at hb
  obtain ⟨w, hw, e⟩ := hb
  obtain ⟨_, m2⟩ := ways_mem hw
  unfold bnd at e
  cases ev : as.getD (w.1 + 1).toNat none with
  | none => rw [ev] at e; cases e
  | some n =>
    rw [ev] at e
    have e : n + w.2 = b := by injection e
    have hn : some n ∈ as := by
      cases eg : as[(w.1 + 1).toNat]? with
      | none => simp [List.getD, eg] at ev
      | some y =>
        have : y = some n := by simpa [List.getD, eg] using ev
        rw [← this]
        exact List.mem_of_getElem? eg
    have := h _ hn n rfl
    omega
theorem TabAt.cons {H : Hp} {b' t : Addr} {xs : List V} {T : List (List (Option Int))} {os : List (Option Int)} (h1 : xs.length = T.length) (h2 : ∀ (i : Nat) x, xs[i]? = some x → ∃ c, x = V.ref c ∧ SqT K H c ((T.getD i []).map oV)) (ht : SqT K H t (os.map oV)) (hb : SqT K H b' (.ref t :: xs)) : TabAt K H b' (os :: T) := by
  refine ⟨_, hb, by simp [h1], fun i x e => ?_⟩
  cases i with
  | zero =>
    cases e
    exact ⟨t, rfl, ht⟩
  | succ j => exact h2 j x e
theorem Rows.cons {c m : Nat} {T : List (List (Option Int))} {os : List (Option Int)} (h : Rows (c + 1) m T) (hl : os.length = c) (ho : ∀ x ∈ os, ∀ k : Int, x = some k → 0 ≤ k ∧ k ≤ ((m + 1 : Nat) : Int)) : Rows c (m + 1) (os :: T) := by
  intro j r e
  cases j with
  | zero =>
    cases e
    exact ⟨hl, ho⟩
  | succ j =>
    obtain ⟨h1, h2⟩ := h j r e
    refine ⟨by omega, fun x hx k ek => ?_⟩
    have := h2 x hx k ek
    omega
theorem ok_of (S : P3 K mg) {f : Addr} {fd : FuncData} (G : Gd K mg "paper_of" sOf ["run"] f fd) : FnOk P w K mg base CX0 7 f fd ["run"] (spOf K) := by
  obtain ⟨fD, fdD, GD⟩ := S.S.need
  obtain ⟨fB, fdB, GB⟩ := S.S.bounds
  have T := S.S.S.T
  have nd1 : (["other", "run", "place", "paper"] : List Str).Nodup := by decide +kernel
  have nd2 : (["numbers"] : List Str).Nodup := by decide +kernel
  refine G.fn.ok scOf (fun vs H Q E h => ?_) (fun cdv A outer s H vs Q E hr h => ?_)
  · obtain ⟨a, rs, rfl, _⟩ := h
    rfl
  · obtain ⟨a, rs, rfl, hR, hg, k⟩ := h
    refine ⟨_, pss_cons (ps_expr (pe_call (ok_need S.S GD) hr rfl GD.mg GD.fn.kp GD.b .nil pass0 (pa_cons (pv 0) pa_nil)))
      (pss_cons (ps_set (i := 1) scOf.nd rfl (Or.inr rfl) (pe_tup (pa_cons (pe_op op_repT (pe_tup (pa_cons pe_int pa_nil)) (pe_callB call_len_seq rfl T.len b_len (pa_cons (pv 0) pa_nil))) pa_nil)))
      (pss_cons (ps_for PassesOwn.never rfl (pi_rev rfl T.reversed (pa_cons (pe_callTy call_rangeV rfl T.range b_range (pa_cons (pe_op op_sub (pe_callB call_len_seq rfl T.len b_len (pa_cons (pv 0) pa_nil)) pe_int) pa_nil)) pa_nil)) (pg_name (i := 2) scOf.nd rfl (Or.inr rfl))
        (pss_cons (ps_comp (i0 := 3) scOf.nd rfl (Or.inl rfl) (N := ["other", "run", "place", "paper"]) (nt := 1) (cap := [0, 2, 1]) rfl (cs_of (by kernel_rfl)) gok_name (pi_range2 rfl T.range (pa_cons (pe_gi S.S.gN rfl) (pa_cons (pv 2) pa_nil)))
          (fun cl C s H ex pn => ⟨pg_name (i := 0) nd1 rfl (Or.inl rfl), pf_nil, pe_call (ok_bounds S.S GB) (hr.mono (by decide)) rfl GB.mg GB.fn.kp GB.b .nil pass0 (pa_cons (pv 1) (pa_cons (pv 2) (pa_cons (pv 0) (pa_cons (pe_ix (r := rIxT K) ix_tup (pv 3) pe_int (fun _ _ => rfl)) pa_nil))))⟩))
        (pss_one (ps_set (i := 1) scOf.nd rfl (Or.inr rfl) (pe_op op_catG (pe_tup (pa_cons (pe_callTy call_tuple_of rfl T.tuple b_tuple (pa_cons (pe_comp (N := ["numbers"]) (nt := 1) (cap := []) rfl (cs_of (by kernel_rfl)) gok_name (pi_list (pv 3))
          (fun cl C s H ex pn => ⟨pg_name (i := 0) nd2 rfl (Or.inl rfl), pf_nil, pe_minK (K := K) rfl rfl rfl T.min (pa_cons (pv 0) pa_nil) (pk_cons pe_non pk_nil)⟩)) pa_nil)) pa_nil)) (pv 1))))))
      (pss_one (ps_ret (pv 1))))), ?_⟩
    obtain ⟨n, hn⟩ : ∃ n, rs.length = n + 1 := ⟨rs.length - 1, by have := hg.1; omega⟩
    have hg1 := hg.2.1
    have hz1 : (1000 : Nat) ≤ sizeLine := by decide
    refine ⟨_, rfl, a, rs, rfl, hR, hg, fun H1 s1 => ?_⟩
    have hR1 := hR.tst (Tst.of s1)
    obtain ⟨as, ra, rl, _⟩ := id hR1
    refine ⟨(by show 1 ≤ sizeLine; decide), fun z hz => ?_⟩
    refine ⟨_, rfl, a, _, rfl, .inr ((Same.upd hz).sqT ra), z, [.int 0], _, rfl, rfl, SqT.of upd_same, by simp, by rw [List.length_map, rl]; omega, by rw [List.length_map, rl, List.length_singleton]; omega, fun r H2 s2 q2 => ?_⟩
    rw [List.length_map, rl, show (((rs.length : Nat) : Int)).toNat = rs.length from rfl, flat_rep] at q2
    refine ⟨(by show 1 ≤ sizeLine; decide), fun b hb => ?_⟩
    have sB := Same.upd (o := .tup [.ref r]) hb
    generalize hH3 : upd H2 b (.tup [.ref r]) = H3 at sB
    have qb : SqT K H3 b [.ref r] := by rw [← hH3]; exact SqT.of upd_same
    have s3 : Same H1 H3 := ((Same.upd hz).trans s2).trans sB
    refine ⟨_, rfl, a, _, rfl, .inr (s3.sqT ra), _, 1, rfl, rfl, _, rfl, fun p hp => ⟨p, n, rfl, by rw [upd_same, List.length_map, rl, show ((rs.length : Nat) : Int) - 1 = n by omega], by omega, ?_⟩⟩
    have sP := Same.upd (o := .rng 0 (((as.map V.ref).length : Nat) - 1 : Int)) hp
    have s4 := s3.trans sP
    refine for_rev (n := n) (fun i σ H' => ∃ b T, Same H1 H' ∧ (∃ v2 v3, σ = [some (.ref a), some (.ref b), v2, v3]) ∧ TabAt K H' b T ∧ T.length = i + 1 ∧ Rows (n - i + 1) i T) ?_ ?_ ?_
    · refine ⟨b, [List.replicate rs.length (some 0)], s4, ⟨none, none, rfl⟩, ?_, rfl, ?_⟩
      · refine TabAt.tst ⟨[.ref r], qb, rfl, fun i x e => ?_⟩ (Tst.of sP)
        cases i with
        | zero =>
          cases e
          exact ⟨r, rfl, sB.sqT q2⟩
        | succ j => cases e
      · intro j r e
        cases j with
        | zero =>
          cases e
          refine ⟨by rw [List.length_replicate]; omega, fun x hx k ek => ?_⟩
          rw [List.eq_of_mem_replicate hx] at ek
          cases ek
          decide
        | succ j => cases e
    · rintro i σ H5 hi ⟨b, Tb, s5, ⟨v2, v3, rfl⟩, hT, hTl, hRw⟩
      obtain ⟨xs, c, w1, e1, z1⟩ := hT.at 0 (by omega)
      have e0 : Tb[0]? = some (Tb.getD 0 []) := by simp [List.getD, List.getElem?_eq_getElem (show 0 < Tb.length by omega)]
      obtain ⟨l0, b0⟩ := hRw 0 _ e0
      have hR5 := hR1.tst (Tst.of s5)
      obtain ⟨xs', w1', w2', w3'⟩ := id hT
      refine ⟨_, rfl, -1, (n : Int) - 1 - i, rfl, ⟨by omega, by omega, by omega, by omega⟩, ?_⟩
      rw [show ((n : Int) - 1 - i - -1).toNat = n - i by omega]
      refine cw_range (fun j acc H' => Same H5 H' ∧ acc.length = j ∧ ∀ x ∈ acc, BlAt H' (i + 1) x) ⟨Same.refl _, rfl, by simp⟩ (fun j acc H' hj q => by omega) (fun j acc H' hj q => ?_) (fun acc H6 q D hD => ?_)
      · refine ⟨_, rfl, _, rfl, _, rfl, _, rfl, b, xs, 0, .ref c, rfl, rfl, q.1.sqT w1, e1, a, c, rs, (n : Int) - 1 - i, -1 + (j : Int), Tb.getD 0 [], rfl, hR5.tst (Tst.of q.1), hg, by omega, by omega, by omega, by omega, q.1.sqT z1, by omega, fun H7 D7 s7 d7 => ?_⟩
        refine ⟨q.1.trans s7, by simp [q.2.1], fun x hx => ?_⟩
        rcases List.mem_append.mp hx with y | y
        · obtain ⟨l, bs, e2, e3, e4⟩ := q.2.2 x y
          exact ⟨l, bs, e2, s7 _ _ e3, e4⟩
        · have : x = .ref D7 := by simpa using y
          exact ⟨D7, _, this, d7, bnds_mem b0⟩
      · have sD := q.1.trans (Same.upd (o := .lst acc) hD)
        generalize hH7 : upd H6 D (.lst acc) = H7 at sD
        have d7 : H7 D = some (.lst acc) := by rw [← hH7]; exact upd_same
        have q6 : ∀ x ∈ acc, BlAt H7 (i + 1) x := fun x hx => by
          obtain ⟨l, bs, e2, e3, e4⟩ := q.2.2 x hx
          exact ⟨l, bs, e2, by rw [← hH7]; exact Same.upd hD _ _ e3, e4⟩
        refine ⟨_, rfl, D, rfl, ⟨acc, SqL.of d7⟩, ?_⟩
        refine cw_list (xs := acc) (fun j acc2 H' => Same H7 H' ∧ ∃ os : List (Option Int), acc2 = os.map oV ∧ os.length = j ∧ ∀ x ∈ os, ∀ k : Int, x = some k → 0 ≤ k ∧ k ≤ ((i + 1 : Nat) : Int)) ⟨Same.refl _, [], rfl, rfl, by simp⟩ (fun j acc2 H' hj q => ?_) (fun j x acc2 H' hx q => ?_) (fun acc2 H8 q D2 hD2 => ?_)
        · obtain ⟨q1, os, rfl, ol, _⟩ := q
          rw [List.length_map]
          exact ⟨by omega, SqL.of (q1 _ _ d7)⟩
        · obtain ⟨q1, os, rfl, ol, ob⟩ := q
          obtain ⟨l, bs, rfl, e3, e4⟩ := q6 x (List.mem_of_getElem? hx)
          refine ⟨_, rfl, l, bs, .non, rfl, rfl, SqL.of (q1 _ _ e3), fun v h1 h2 => ⟨q1, ?_⟩⟩
          by_cases hbs : bs = []
          · refine ⟨os ++ [none], by rw [h1 hbs]; simp [oV], by simp [ol], fun x hx k ek => ?_⟩
            rcases List.mem_append.mp hx with y | y
            · exact ob x y k ek
            · have : x = none := by simpa using y
              rw [this] at ek
              cases ek
          · obtain ⟨m, rfl, hm, _⟩ := h2 hbs
            refine ⟨os ++ [some m], by simp [oV], by simp [ol], fun x hx k ek => ?_⟩
            rcases List.mem_append.mp hx with y | y
            · exact ob x y k ek
            · have : x = some m := by simpa using y
              rw [this] at ek
              cases ek
              exact e4 m hm
        · obtain ⟨q1, os, rfl, ol, ob⟩ := q
          refine ⟨D2, _, rfl, .inl ⟨SqL.of upd_same, fun t ht => ⟨(by show 1 ≤ sizeLine; decide), fun u hu => ?_⟩⟩⟩
          have sA : Same H5 (upd (upd (upd H8 D2 (.lst (os.map oV))) t (.tup (os.map oV))) u (.tup [.ref t])) := (((sD.trans q1).trans (Same.upd hD2)).trans (Same.upd ht)).trans (Same.upd hu)
          refine ⟨_, rfl, u, b, [.ref t], xs', rfl, rfl, SqT.of upd_same, sA.sqT w1', by rw [w2', List.length_singleton]; omega, fun b' H9 s9 q9 => ?_⟩
          refine ⟨b', os :: Tb, (s5.trans sA).trans s9, ⟨_, _, rfl⟩, ?_, by simp [hTl], ?_⟩
          · exact TabAt.cons w2' (fun j x e => let ⟨c, g1, g2⟩ := w3' j x e; ⟨c, g1, (sA.trans s9).sqT g2⟩) (s9.sqT ((Same.upd hu).sqT (SqT.of upd_same))) q9
          · have hc : n - i = n - (i + 1) + 1 := by omega
            rw [hc] at hRw
            exact hRw.cons (by rw [ol, q.2.1]; omega) ob
    · rintro σ H5 ⟨b, Tb, s5, ⟨v2, v3, rfl⟩, hT, hTl, hRw⟩
      refine ⟨_, rfl, k _ b Tb (s1.trans s5) hT (by omega) ?_⟩
      rw [show n - n + 1 = 1 by omega] at hRw
      intro j r e
      obtain ⟨g1, g2⟩ := hRw j r e
      refine ⟨g1, fun x hx k ek => ?_⟩
      have := g2 x hx k ek
      omega
end
end TM

set_option Elab.async false
set_option linter.all false
set_option maxRecDepth 100000
set_option maxHeartbeats 4000000
namespace TM
open PySem L2
abbrev sLRun : Stmt := top 33
theorem pw_adj : ∀ {ns : List Int}, ns.Pairwise (· < ·) → adj ns = true
  | [], _ => rfl
  | [_], _ => rfl
  | a :: b :: r, h => by
    rw [List.pairwise_cons] at h
    show (decide (a < b) && adj (b :: r)) = true
    rw [decide_eq_true (h.1 b (by simp)), pw_adj h.2]
    rfl
theorem pw_len : ∀ {ns : List Int} {a : Int}, a ≤ 8 → ns.Pairwise (· < ·) → (∀ n ∈ ns, a ≤ n ∧ n < 8) → (ns.length : Int) ≤ 8 - a
  | [], a, h, _, _ => by simp; omega
  | x :: r, a, h, hp, hn => by
    rw [List.pairwise_cons] at hp
    have hx := hn x (by simp)
    have ih := pw_len (ns := r) (a := x + 1) (by omega) hp.2 (fun n h' => ⟨by have := hp.1 n h'; omega, (hn n (by simp [h'])).2⟩)
    rw [List.length_cons]
    omega
theorem goodM {ns : List Int} (hp : ns.Pairwise (· < ·)) (hn : ∀ n ∈ ns, 0 ≤ n ∧ n < 8) : GoodM ns := by
  have := pw_len (a := 0) (by decide) hp hn
  exact ⟨hn, pw_adj hp, by omega⟩
theorem pw_snoc {ns : List Int} {x : Int} (hp : ns.Pairwise (· < ·)) (hx : ∀ n ∈ ns, n < x) : (ns ++ [x]).Pairwise (· < ·) := by
  rw [List.pairwise_append]
  refine ⟨hp, by simp, fun n hn m hm => ?_⟩
  have : m = x := by simpa using hm
  rw [this]
  exact hx n hn
section
variable {P : Program} {w : World} {K : PySem.W.Frag} {mg : Str → Option Value} {base : Heap}
def spLMarksR (K : PySem.W.Frag) : Sp := fun vs H Q _ => ∃ (st : Addr) (m : Int), vs = [.ref st, .int m] ∧ StOk H st ∧ 0 ≤ m ∧ m ≤ 8 ∧ ∀ a (ns : List Int) H', GoodM ns → SqT K H' a (ns.map V.int) → StOk H' st → Ext st H H' → Q (.ref a) H'
theorem ok_lmarksR (T : Blt mg) {f fT : Addr} {fd fdT : FuncData} (G : Gd K mg "_law_marks" sLMarks ["_law_state_here", "_law_most"] f fd) (GT : Gd K mg "_law_take" sTake ["_law_state_here", "_law_many"] fT fdT) : FnOk P w K mg base CX0 2 f fd ["_law_state_here", "_law_most"] (spLMarksR K) := by
  have nd : (["_law_mark", "_law_state_here", "_law_way"] : List Str).Nodup := by decide +kernel
  refine G.fn.ok scLM (fun vs H Q E h => ?_) (fun cdv A outer s H vs Q E hr h => ?_)
  · obtain ⟨st, m, rfl, _⟩ := h
    rfl
  · obtain ⟨st, m, rfl, hs, hm0, hm8, k⟩ := h
    refine ⟨_, pss_cons (ps_set (i := 2) scLM.nd rfl (Or.inr rfl) (pe_op op_add pe_int (pe_call (ok_take GT) hr rfl GT.mg GT.fn.kp GT.b .nil pass0 (pa_cons (pv 0) (pa_cons pe_int pa_nil)))))
      (pss_one (ps_ret (pe_callTy call_tuple_of rfl T.tuple b_tuple (pa_cons (pe_comp (N := ["_law_mark", "_law_state_here", "_law_way"]) (nt := 1) (cap := [0, 2]) rfl (cs_of (by kernel_rfl)) gok_name (pi_range1 rfl T.range (pa_cons (pv 1) pa_nil))
        (fun cl C s H ex pn => ⟨pg_name (i := 0) nd rfl (Or.inl rfl), pf_one (pt_cmpR op_eq (pe_call (ok_take GT) hr rfl GT.mg GT.fn.kp GT.b .nil pass0 (pa_cons (pv 1) (pa_cons (pe_op op_add (pv 2) pe_int) pa_nil))) pe_int (nomark _)), pv 0⟩)) pa_nil)))), ?_⟩
    refine ⟨_, rfl, st, 4, rfl, hs, by decide, by decide, fun r H1 r0 r4 hs1 e1 => ?_⟩
    refine ⟨1, r, rfl, rfl, ?_⟩
    refine ⟨_, rfl, m, rfl, by omega, by omega, ?_⟩
    have hz : (8 : Nat) ≤ sizeLine := by decide
    refine cw_range (lo := 0) (n := m.toNat) (fun i acc H' => StOk H' st ∧ Ext st H1 H' ∧ ∃ ns : List Int, acc = ns.map V.int ∧ ns.length ≤ i ∧ ns.Pairwise (· < ·) ∧ ∀ n ∈ ns, 0 ≤ n ∧ n < i) ⟨hs1, Ext.refl _ _, [], rfl, Nat.le_refl _, .nil, by simp⟩ (fun i acc H' hi q => ?_) (fun i acc H' hi q => ?_) (fun acc H' q D hD => ?_)
    · obtain ⟨_, _, ns, rfl, hl, _⟩ := q
      rw [List.length_map]
      omega
    · obtain ⟨q1, q2, ns, rfl, hl, hp, hn⟩ := q
      refine ⟨_, rfl, _, rfl, 1 + r, 1, rfl, rfl, st, _, rfl, q1, by omega, by omega, fun r' H2 _ _ q3 q4 => ⟨rfl, _, rfl, ite2 (fun _ => ?_) fun _ => ?_⟩⟩
      · refine ⟨_, rfl, q3, q2.trans q4, ns ++ [0 + (i : Int)], by simp, by simp; omega, pw_snoc hp (fun n h' => by have := hn n h'; omega), fun n hn' => ?_⟩
        rcases List.mem_append.mp hn' with z | z
        · have := hn n z
          omega
        · have : n = 0 + (i : Int) := by simpa using z
          omega
      · exact ⟨q3, q2.trans q4, ns, rfl, by omega, hp, fun n h' => by have := hn n h'; omega⟩
    · obtain ⟨q1, q2, ns, rfl, hl, hp, hn⟩ := q
      refine ⟨D, ns.map V.int, rfl, .inl ⟨SqL.of upd_same, fun l hl' => ?_⟩⟩
      have s1 : Same H' (upd H' D (.lst (ns.map V.int))) := Same.upd hD
      have s2 := s1.trans (Same.upd (o := .tup (ns.map V.int)) hl')
      refine k l ns _ (goodM hp fun n h' => by have := hn n h'; omega) (SqT.of upd_same) ?_ ((e1.trans q2).trans (Ext.of s2))
      obtain ⟨x, y, h0, hr0⟩ := q1
      exact ⟨x, y, s2 _ _ h0, hr0⟩
theorem tSeq_at {t u : TS} {D : Ends} {σ : St} {H : Hp} (I : Hp → Prop) (hI : I H) (h : ∀ H, I H → tSeq t u D σ H) : tSeq t u D σ H := h H hI
def GV (K : PySem.W.Frag) (H : Hp) (v : V) : Prop := ∃ (c : Addr) (ns : List Int), v = .ref c ∧ SqT K H c (ns.map V.int) ∧ GoodM ns
theorem GV.tst {H H' : Hp} {v : V} (h : GV K H v) (t : Tst K H H') : GV K H' v := by
  obtain ⟨c, ns, e, h1, h2⟩ := h
  exact ⟨c, ns, e, t _ _ h1, h2⟩
theorem gvs_run {H : Hp} : ∀ {vs : List V}, (∀ v ∈ vs, GV K H v) → ∃ (as : List Addr) (rs : List (List Int)), vs = as.map V.ref ∧ as.length = rs.length ∧ (∀ (i : Nat) c, as[i]? = some c → SqT K H c ((rs.getD i []).map V.int)) ∧ ∀ r ∈ rs, GoodM r
  | [], _ => ⟨[], [], rfl, rfl, ⟨fun i c e => (by cases e), fun r hr => (by cases hr)⟩⟩
  | v :: vs, h => by
    obtain ⟨c, ns, e, h1, h2⟩ := h v (by simp)
    obtain ⟨as, rs, e1, e2, e3, e4⟩ := gvs_run (vs := vs) fun v hv => h v (by simp [hv])
    refine ⟨c :: as, ns :: rs, by rw [e, e1]; rfl, by simp [e2], fun i d hd => ?_, fun r hr => ?_⟩
    · cases i with
      | zero => cases hd; exact h1
      | succ j => exact e3 j d hd
    · rcases List.mem_cons.mp hr with z | z
      · rw [z]; exact h2
      · exact e4 r z
theorem Ext.tst {st : Addr} {H H' : Hp} (e : Ext st H H') (hs : StOk H st) : Tst K H H' := fun b xs h => e.sqT hs h
theorem Ext.upd2 {st : Addr} {H H1 : Hp} {D : Addr} {o : HO} (s : Ext st H H1) (h : H D = none) : Ext st H (upd H1 D o) := fun b u e n => by
  rw [upd_ne (ne_of_none e h)]
  exact s b u e n
theorem Ext.free {st R : Addr} {H H' : Hp} (e : Ext st H H') (hs : StOk H' st) (h : H' R = none) : R ≠ st ∧ H R = none := by
  obtain ⟨x, y, h0, _⟩ := hs
  have n : R ≠ st := fun z => by rw [z, h0] at h; cases h
  refine ⟨n, ?_⟩
  cases q : H R with
  | none => rfl
  | some o => rw [e R o q n] at h; cases h
theorem StOk.upd {st D : Addr} {H : Hp} {o : HO} (h : StOk H st) (hn : st ≠ D) : StOk (L2.upd H D o) st := by
  obtain ⟨x, y, h0, hr0⟩ := h
  exact ⟨x, y, by rw [upd_ne hn]; exact h0, hr0⟩
def spLRun (K : PySem.W.Frag) : Sp := fun vs H Q _ => ∃ (st : Addr), vs = [.ref st] ∧ StOk H st ∧ ∀ a rs H', RunAt K H' a rs → GoodRun rs → StOk H' st → Ext st H H' → Q (.ref a) H'
abbrev nRu : List Str := ["_law_state_here", "_law_way", "_law_now", "_law_run_here", "_law_moulds", "_law_turn", "_law_more"]
theorem scRu : FnScope nRu ["_law_state_here"] (defScope sLRun) := ⟨rfl, rfl, rfl, by decide +kernel, rfl, by decide +kernel, by decide +kernel⟩
theorem ok_lrun (T : Blt mg) {f fM fT : Addr} {fd fdM fdT : FuncData} (G : Gd K mg "_law_run" sLRun ["_law_state_here"] f fd) (GM : Gd K mg "_law_marks" sLMarks ["_law_state_here", "_law_most"] fM fdM) (GT : Gd K mg "_law_take" sTake ["_law_state_here", "_law_many"] fT fdT) : FnOk P w K mg base CX0 3 f fd ["_law_state_here"] (spLRun K) := by
  have nd : (["_law_mark", "_law_state_here", "_law_way"] : List Str).Nodup := by decide +kernel
  refine G.fn.ok scRu (fun vs H Q E h => ?_) (fun cdv A outer s H vs Q E hr h => ?_)
  · obtain ⟨st, rfl, _⟩ := h
    rfl
  · obtain ⟨st, rfl, hs, k⟩ := h
    refine ⟨_, pss_cons (ps_asg (pe_tup (pa_cons (pe_call (ok_take GT) (hr.mono (by decide)) rfl GT.mg GT.fn.kp GT.b .nil pass0 (pa_cons (pv 0) (pa_cons pe_int pa_nil))) (pa_cons pe_int (pa_cons (pe_lst pa_nil) pa_nil))))
        (pg_tup rfl (pgs_cons (pg_name (i := 1) scRu.nd rfl (Or.inr rfl)) (pgs_cons (pg_name (i := 2) scRu.nd rfl (Or.inl rfl)) (pgs_cons (pg_name (i := 3) scRu.nd rfl (Or.inl rfl)) pgs_nil)))))
      (pss_cons (ps_set (i := 4) scRu.nd rfl (Or.inl rfl) (pe_lst (pa_cons (pe_call (ok_lmarksR T GM GT) hr rfl GM.mg GM.fn.kp GM.b .nil pass0 (pa_cons (pv 0) (pa_cons pe_int pa_nil))) (pa_cons (pe_call (ok_lmarksR T GM GT) hr rfl GM.mg GM.fn.kp GM.b .nil pass0 (pa_cons (pv 0) (pa_cons pe_int pa_nil))) pa_nil))))
      (pss_cons (ps_for PassesOwn.never rfl (pi_range1 rfl T.range (pa_cons (pe_op op_add pe_int (pe_call (ok_take GT) (hr.mono (by decide)) rfl GT.mg GT.fn.kp GT.b .nil pass0 (pa_cons (pv 0) (pa_cons pe_int pa_nil)))) pa_nil)) (pg_name (i := 5) scRu.nd rfl (Or.inl rfl))
        (pss_cons (ps_comp (i0 := 6) scRu.nd rfl (Or.inl rfl) (N := ["_law_mark", "_law_state_here", "_law_way"]) (nt := 1) (cap := [0, 1]) rfl (cs_of (by kernel_rfl)) gok_name (pi_range1 rfl T.range (pa_cons pe_int pa_nil))
          (fun cl C s H ex pn => ⟨pg_name (i := 0) nd rfl (Or.inl rfl), pf_one (pt_cmpR op_eq (pe_call (ok_take GT) (hr.mono (by decide)) rfl GT.mg GT.fn.kp GT.b .nil pass0 (pa_cons (pv 1) (pa_cons (pe_ix (r := rIxL K) ix_list (pe_lst (pa_cons pe_int (pa_cons pe_int (pa_cons pe_int (pa_cons pe_int pa_nil))))) (pv 2) (fun _ _ => rfl)) pa_nil))) pe_int (nomark _)), pv 0⟩))
        (pss_cons (ps_asg (pe_callTy call_tuple_of rfl T.tuple b_tuple (pa_cons (pe_callB (call_sortedX rfl) rfl T.sorted b_sorted (pa_cons (pe_callTy (call_setX rfl) rfl T.set b_set (pa_cons (pe_op op_cat (pe_callTy call_list_of rfl T.list b_list (pa_cons (pe_ix ix_list (pv 4) (pv 2) (fun _ _ => rfl)) pa_nil)) (pv 6)) pa_nil)) pa_nil)) pa_nil)) (pg_sub (pv 4) (pv 2) set_list))
        (pss_cons (ps_expr (pe_bm PySem.F.plainAttrs_list PySem.F.slot_list_append PySem.F.type_list_append mt_append (pv 3) (pa_cons (pe_ifExp (pt_cmpR op_eq (pv 1) pe_int (nomark _)) (pe_call (ok_lmarksR T GM GT) hr rfl GM.mg GM.fn.kp GM.b .nil pass0 (pa_cons (pv 0) (pa_cons pe_int pa_nil))) (pe_ix ix_list (pv 4) (pv 2) (fun _ _ => rfl))) pa_nil)))
        (pss_one (ps_set (i := 2) scRu.nd rfl (Or.inl rfl) (pe_ifExp (pt_cmpR op_gt (pe_call (ok_take GT) (hr.mono (by decide)) rfl GT.mg GT.fn.kp GT.b .nil pass0 (pa_cons (pv 0) (pa_cons pe_int pa_nil))) pe_int (nomark _)) (pe_op op_sub pe_int (pv 2)) (pv 2))))))))
      (pss_one (ps_ret (pe_callTy call_tuple_of rfl T.tuple b_tuple (pa_cons (pv 3) pa_nil)))))), ?_⟩
    refine ⟨_, rfl, st, 4, rfl, hs, by decide, by decide, fun way H1 w0 w4 hs1 e1 => ?_⟩
    refine ⟨Nat.zero_le _, fun R hR => ⟨(by show 3 ≤ sizeLine; decide), fun t ht => ⟨t, _, rfl, SqT.of upd_same, rfl, _, _, rfl, _, _, rfl, _, _, rfl, rfl, ?_⟩⟩⟩
    obtain ⟨hRst, hRH⟩ := e1.free hs1 hR
    have s2 := (Same.upd (o := .lst []) hR).trans (Same.upd (o := .tup [.int way, .int 0, .ref R]) ht)
    have hR2 : upd (upd H1 R (.lst [])) t (.tup [.int way, .int 0, .ref R]) R = some (.lst []) := Same.upd ht R _ upd_same
    generalize upd (upd H1 R (.lst [])) t (.tup [.int way, .int 0, .ref R]) = H2 at s2 hR2 ⊢
    have hs2 := hs1.same s2
    refine ⟨_, rfl, st, 3, rfl, hs2, by decide, by decide, fun x nx3 H3 gx qx hs3 e3 => ⟨_, rfl, st, 3, rfl, hs3, by decide, by decide, fun y ny H4 gy qy hs4 e4 => ⟨(by show 2 ≤ sizeLine; decide), fun M hM => ?_⟩⟩⟩
    have eH4 : Ext st H H4 := ((e1.trans (Ext.of s2)).trans e3).trans e4
    obtain ⟨hMst, hMH⟩ := eH4.free hs4 hM
    have hR4 : H4 R = some (.lst []) := e4 _ _ (e3 _ _ hR2 hRst) hRst
    have hRM : R ≠ M := fun z => by rw [z, hM] at hR4; cases hR4
    have s5 := Same.upd (o := .lst [.ref x, .ref y]) hM
    have hM5 : upd H4 M (.lst [.ref x, .ref y]) M = some (.lst [.ref x, .ref y]) := upd_same
    generalize upd H4 M (.lst [.ref x, .ref y]) = H5 at s5 hM5 ⊢
    have hs5 := hs4.same s5
    refine ⟨_, rfl, st, 10, rfl, hs5, by decide, by decide, fun c H6 c0 c10 hs6 e6 => ⟨1, c, rfl, rfl, _, rfl, by omega, by omega, ?_⟩⟩
    have eH6 : Ext st H H6 := (eH4.trans (Ext.of s5)).trans e6
    have gx6 : GV K H6 (.ref x) := ⟨x, nx3, rfl, e6.sqT hs5 (s5.sqT (e4.sqT hs3 qx)), gx⟩
    have gy6 : GV K H6 (.ref y) := ⟨y, ny, rfl, e6.sqT hs5 (s5.sqT qy), gy⟩
    have hz : (1000 : Nat) ≤ sizeLine := by decide
    refine for_range (n := (1 + c).toNat) (fun i σ H' => ∃ now : Int, (now = 0 ∨ now = 1) ∧ (∃ v5 v6, σ = [some (.ref st), some (.int way), some (.int now), some (.ref R), some (.ref M), v5, v6]) ∧ StOk H' st ∧ Ext st H H' ∧ (∃ u v, H' M = some (.lst [u, v]) ∧ GV K H' u ∧ GV K H' v) ∧ ∃ vs, H' R = some (.lst vs) ∧ vs.length = i ∧ ∀ z ∈ vs, GV K H' z) ?_ ?_ ?_
    · exact ⟨0, .inl rfl, ⟨none, none, rfl⟩, hs6, eH6, ⟨_, _, e6 _ _ hM5 hMst, gx6, gy6⟩, [], e6 _ _ (s5 _ _ hR4) hRst, rfl, fun z hz => by cases hz⟩
    · rintro i σ H7 hi ⟨now, hnow, ⟨v5, v6, rfl⟩, hs7, e7, ⟨u, v, hM7, gu, gv⟩, vs, hR7, lv, gvs⟩
      refine ⟨8, rfl, by decide, by decide, ?_⟩
      obtain ⟨cw, ecw, cw0, cw1⟩ : ∃ cw : Int, atI [V.int 9, V.int 4, V.int 30, V.int 9] way = some (.int cw) ∧ 0 < cw ∧ cw < 1073741824 := by
        have : way = 0 ∨ way = 1 ∨ way = 2 ∨ way = 3 := by omega
        rcases this with rfl | rfl | rfl | rfl
        · exact ⟨9, rfl, by decide, by decide⟩
        · exact ⟨4, rfl, by decide, by decide⟩
        · exact ⟨30, rfl, by decide, by decide⟩
        · exact ⟨9, rfl, by decide, by decide⟩
      refine cw_range (lo := 0) (n := 8) (fun j acc H' => StOk H' st ∧ Ext st H7 H' ∧ ∃ ns : List Int, acc = ns.map V.int ∧ ns.length ≤ j ∧ ∀ n ∈ ns, 0 ≤ n ∧ n < 8) ⟨hs7, Ext.refl _ _, [], rfl, Nat.le_refl _, by simp⟩ (fun j acc H' hj q => ?_) (fun j acc H' hj q => ?_) (fun acc H8 q D hD => ?_)
      · obtain ⟨_, _, ns, rfl, hl, _⟩ := q
        rw [List.length_map]
        omega
      · obtain ⟨q1, q2, ns, rfl, hl, hn⟩ := q
        refine ⟨_, rfl, (by show 4 ≤ sizeLine; decide), fun l hl' => ⟨_, rfl, l, _, way, .int cw, rfl, rfl, SqL.of upd_same, ecw, st, cw, rfl, q1.same (Same.upd hl'), cw0, cw1, fun r H2 _ _ q3 q4 => ⟨rfl, _, rfl, ite2 (fun _ => ?_) fun _ => ?_⟩⟩⟩
        · refine ⟨_, rfl, q3, (q2.trans (Ext.of (Same.upd hl'))).trans q4, ns ++ [0 + (j : Int)], by simp, by simp; omega, fun n hn' => ?_⟩
          rcases List.mem_append.mp hn' with z | z
          · exact hn n z
          · have : n = 0 + (j : Int) := by simpa using z
            omega
        · exact ⟨q3, (q2.trans (Ext.of (Same.upd hl'))).trans q4, ns, rfl, by omega, hn⟩
      · obtain ⟨q1, q2, ns, rfl, hl, hn⟩ := q
        have e9 : Ext st H7 (upd H8 D (.lst (ns.map V.int))) := q2.trans (Ext.of (Same.upd hD))
        have hs9 := q1.same (Same.upd (o := .lst (ns.map V.int)) hD)
        have d9 : upd H8 D (.lst (ns.map V.int)) D = some (.lst (ns.map V.int)) := upd_same
        generalize upd H8 D (.lst (ns.map V.int)) = H9 at e9 hs9 d9 ⊢
        have hM9 := e9 _ _ hM7 hMst
        have hR9 := e9 _ _ hR7 hRst
        have gu9 := gu.tst (e9.tst hs7)
        have gv9 := gv.tst (e9.tst hs7)
        have gvs9 : ∀ z ∈ vs, GV K H9 z := fun z hz => (gvs z hz).tst (e9.tst hs7)
        obtain ⟨cur, jx, ec, ej, gc⟩ : ∃ (cur : V) (jx : Nat), atI [u, v] now = some cur ∧ ixN 2 now = some jx ∧ GV K H9 cur := by
          rcases hnow with rfl | rfl
          · exact ⟨u, 0, rfl, rfl, gu9⟩
          · exact ⟨v, 1, rfl, rfl, gv9⟩
        obtain ⟨cu, nsu, rfl, qcu, gcu⟩ := gc
        have lu := gcu.2.2
        refine ⟨_, rfl, _, rfl, M, [u, v], now, .ref cu, rfl, rfl, SqL.of hM9, ec, cu, _, rfl, .inr qcu, fun L hL => ?_⟩
        refine ⟨_, rfl, L, D, nsu.map V.int, ns.map V.int, rfl, rfl, upd_same, Same.upd hL _ _ d9, by rw [List.length_map, List.length_map]; omega, fun p hp => ?_⟩
        refine ⟨p, nsu ++ ns, rfl, .inl (SqL.of (by rw [upd_same, List.map_append])), by rw [List.length_append]; omega, fun S hS => ?_⟩
        refine ⟨S, nsu ++ ns, rfl, upd_same, by rw [List.length_append]; omega, fun l ms hl5 hpw hmem => ?_⟩
        refine ⟨l, ms.map V.int, rfl, .inl ⟨SqL.of upd_same, fun t5 ht5 => ?_⟩⟩
        have gt : ∀ HX, SqT K HX t5 (ms.map V.int) → GV K HX (.ref t5) := fun HX qt => ⟨t5, ms, rfl, qt, goodM hpw fun n hn' => by
          rcases List.mem_append.mp ((hmem n).mp hn') with z | z
          · exact gcu.1 n z
          · exact hn n z⟩
        have step : ∀ HX, Same H9 HX → SqT K HX t5 (ms.map V.int) → StOk (upd HX M (.lst ([u, v].set jx (.ref t5)))) st ∧ Ext st H (upd HX M (.lst ([u, v].set jx (.ref t5)))) ∧ (∃ u' v', upd HX M (.lst ([u, v].set jx (.ref t5))) M = some (.lst [u', v']) ∧ GV K (upd HX M (.lst ([u, v].set jx (.ref t5)))) u' ∧ GV K (upd HX M (.lst ([u, v].set jx (.ref t5)))) v') ∧ upd HX M (.lst ([u, v].set jx (.ref t5))) R = some (.lst vs) ∧ ∀ z ∈ vs, GV K (upd HX M (.lst ([u, v].set jx (.ref t5)))) z := by
          intro HX sT qt
          have tt : Tst K HX (upd HX M (.lst ([u, v].set jx (.ref t5)))) := SqT.lst (sT _ _ hM9)
          refine ⟨(hs9.same sT).upd (Ne.symm hMst), Ext.upd2 ((e7.trans e9).trans (Ext.of sT)) hMH, ?_, ?_, fun z hz => ((gvs9 z hz).tst (Tst.of sT)).tst tt⟩
          · have g5 := (gt HX qt).tst tt
            have g1 := (gu9.tst (Tst.of sT)).tst tt
            have g2 := (gv9.tst (Tst.of sT)).tst tt
            rcases hnow with rfl | rfl
            · cases ej
              exact ⟨.ref t5, v, upd_same, g5, g2⟩
            · cases ej
              exact ⟨u, .ref t5, upd_same, g1, g5⟩
          · rw [upd_ne hRM]
            exact sT _ _ hR9
        have sT := ((((Same.upd hL).trans (Same.upd hp)).trans (Same.upd hS)).trans (Same.upd hl5)).trans (Same.upd (o := .tup (ms.map V.int)) ht5)
        refine ⟨_, rfl, _, rfl, M, [u, v], now, jx, rfl, rfl, sT _ _ hM9, ej, ?_⟩
        dsimp only
        refine tSeq_at (fun H' => StOk H' st ∧ Ext st H H' ∧ (∃ u' v', H' M = some (.lst [u', v']) ∧ GV K H' u' ∧ GV K H' v') ∧ H' R = some (.lst vs) ∧ ∀ z ∈ vs, GV K H' z) (step _ sT (SqT.of upd_same)) ?_
        rintro H10 ⟨hs10, e10, ⟨u', v', hM10, gu', gv'⟩, hR10, gvs10⟩
        refine tSeq_mid (fun σ H' => σ = [some (.ref st), some (.int way), some (.int now), some (.ref R), some (.ref M), some (.int (0 + (i : Int))), some (.ref D)] ∧ StOk H' st ∧ Ext st H H' ∧ (∃ u v, H' M = some (.lst [u, v]) ∧ GV K H' u ∧ GV K H' v) ∧ ∃ vs, H' R = some (.lst vs) ∧ vs.length = i + 1 ∧ ∀ z ∈ vs, GV K H' z) (fun nx hn => ?_) ?_
        · have fin : ∀ H11 z, StOk H11 st → Ext st H10 H11 → GV K H11 z → nx [some (.ref st), some (.int way), some (.int now), some (.ref R), some (.ref M), some (.int (0 + (i : Int))), some (.ref D)] (upd H11 R (.lst (vs ++ [z]))) := by
            intro H11 z h1 h2 h3
            have hR11 := h2 _ _ hR10 hRst
            have hM11 := h2 _ _ hM10 hMst
            have tt : Tst K H11 (upd H11 R (.lst (vs ++ [z]))) := SqT.lst hR11
            have t2 : Tst K H10 (upd H11 R (.lst (vs ++ [z]))) := (h2.tst hs10).trans tt
            refine hn _ _ ⟨rfl, h1.upd (Ne.symm hRst), Ext.upd2 (e10.trans h2) hRH, ⟨u', v', by rw [upd_ne (Ne.symm hRM)]; exact hM11, gu'.tst t2, gv'.tst t2⟩, vs ++ [z], upd_same, by simp [lv], fun y hy => ?_⟩
            rcases List.mem_append.mp hy with q | q
            · exact (gvs10 y q).tst t2
            · have : y = z := by simpa using q
              rw [this]
              exact h3.tst tt
          refine ⟨_, rfl, .inl ⟨rfl, _, SqL.of hR10⟩, _, rfl, rfl, _, rfl, ite2 (fun _ => ?_) fun _ => ?_⟩
          · refine ⟨_, rfl, st, 2, rfl, hs10, by decide, by decide, fun z nz H11 gz qz hs11 e11 => ⟨R, vs, .ref z, rfl, rfl, e11 _ _ hR10 hRst, by omega, fin H11 _ hs11 e11 ⟨z, nz, rfl, qz, gz⟩⟩⟩
          · obtain ⟨cur2, ec2, gc2⟩ : ∃ cur : V, atI [u', v'] now = some cur ∧ GV K H10 cur := by
              rcases hnow with rfl | rfl
              · exact ⟨u', rfl, gu'⟩
              · exact ⟨v', rfl, gv'⟩
            exact ⟨_, rfl, _, rfl, M, [u', v'], now, cur2, rfl, rfl, SqL.of hM10, ec2, R, vs, cur2, rfl, rfl, hR10, by omega, fin H10 _ hs10 (Ext.refl _ _) gc2⟩
        · rintro σ H11 ⟨rfl, h1, h2, ⟨u2, v2, m1, m2, m3⟩, vs2, n1, n2, n3⟩
          have fin2 : ∀ H12 now', StOk H12 st → Ext st H11 H12 → (now' = 0 ∨ now' = 1) → ∃ now : Int, (now = 0 ∨ now = 1) ∧ (∃ v5 v6, ([some (.ref st), some (.int way), some (.int now'), some (.ref R), some (.ref M), some (.int (0 + (i : Int))), some (.ref D)] : St) = [some (.ref st), some (.int way), some (.int now), some (.ref R), some (.ref M), v5, v6]) ∧ StOk H12 st ∧ Ext st H H12 ∧ (∃ u v, H12 M = some (.lst [u, v]) ∧ GV K H12 u ∧ GV K H12 v) ∧ ∃ vs, H12 R = some (.lst vs) ∧ vs.length = i + 1 ∧ ∀ z ∈ vs, GV K H12 z := by
            intro H12 now' g1 g2 g3
            exact ⟨now', g3, ⟨_, _, rfl⟩, g1, h2.trans g2, ⟨u2, v2, g2 _ _ m1 hMst, m2.tst (g2.tst h1), m3.tst (g2.tst h1)⟩, vs2, g2 _ _ n1 hRst, n2, fun z hz => (n3 z hz).tst (g2.tst h1)⟩
          refine ⟨_, rfl, st, 5, rfl, h1, by decide, by decide, fun r H12 _ _ g1 g2 => ⟨r, 0, rfl, rfl, _, rfl, ite2 (fun _ => ?_) fun _ => ?_⟩⟩
          · exact ⟨_, rfl, 1, now, rfl, rfl, fin2 H12 (1 - now) g1 g2 (by omega)⟩
          · exact ⟨_, rfl, fin2 H12 now g1 g2 hnow⟩
    · rintro σ H7 ⟨now, hnow, ⟨v5, v6, rfl⟩, hs7, e7, _, vs, hR7, lv, gvs⟩
      refine ⟨_, rfl, R, vs, rfl, .inl ⟨SqL.of hR7, fun a ha => ?_⟩⟩
      obtain ⟨as, rs, ev, el, ea, eg⟩ := gvs_run gvs
      subst ev
      rw [List.length_map] at lv
      have s8 := Same.upd (o := .tup (as.map V.ref)) ha
      exact k a rs _ ⟨as, SqT.of upd_same, el, fun i c e => s8.sqT (ea i c e)⟩ ⟨by omega, by omega, eg⟩ (hs7.same s8) (e7.trans (Ext.of s8))
end
end TM

set_option Elab.async false
set_option linter.all false
set_option maxRecDepth 100000
set_option maxHeartbeats 4000000
namespace TM
open PySem L2
def runD (rs : List (List Int)) : PyData := .tuple (rs.map fun r => .tuple (r.map .int))
def tabD (T : List (List (Option Int))) : PyData := .tuple (T.map fun r => .tuple (r.map dO))
section
variable {K : PySem.W.Frag}
theorem dv_opts {Z : Addr → Prop} {H : Hp} {a : Addr} {ns : List (Option Int)} (h : SqT K H a (ns.map oV)) : DV K Z H (.tuple (ns.map dO)) (.ref a) := by
  simp only [DV]
  exact ⟨a, _, rfl, h, dvs_opts ns⟩
theorem dvs_of {Z : Addr → Prop} {H : Hp} : ∀ {ds : List PyData} {xs : List V}, ds.length = xs.length → (∀ (i : Nat) d x, ds[i]? = some d → xs[i]? = some x → DV K Z H d x) → DVs K Z H ds xs
  | [], [], _, _ => rfl
  | [], _ :: _, h, _ => by cases h
  | _ :: _, [], h, _ => by cases h
  | d :: ds, x :: xs, h, hd => ⟨x, xs, rfl, hd 0 d x rfl rfl, dvs_of (by simpa using h) fun i e y h1 h2 => hd (i + 1) e y h1 h2⟩
theorem RunAt.dv {Z : Addr → Prop} {H : Hp} {a : Addr} {rs : List (List Int)} (h : RunAt K H a rs) : DV K Z H (runD rs) (.ref a) := by
  obtain ⟨as, h1, h2, h3⟩ := h
  unfold runD
  simp only [DV]
  refine ⟨a, _, rfl, h1, dvs_of (by simp [h2]) fun i d x e1 e2 => ?_⟩
  rw [List.getElem?_map] at e1 e2
  cases er : rs[i]? with
  | none => rw [er] at e1; cases e1
  | some r =>
    cases ea : as[i]? with
    | none => rw [ea] at e2; cases e2
    | some c =>
      rw [er] at e1
      rw [ea] at e2
      cases e1
      cases e2
      have := h3 i c ea
      rw [show rs.getD i [] = r by simp [List.getD, er]] at this
      exact dv_ints this
theorem TabAt.dv {Z : Addr → Prop} {H : Hp} {b : Addr} {T : List (List (Option Int))} (h : TabAt K H b T) : DV K Z H (tabD T) (.ref b) := by
  obtain ⟨xs, h1, h2, h3⟩ := h
  unfold tabD
  simp only [DV]
  refine ⟨b, _, rfl, h1, dvs_of (by simp [h2]) fun i d x e1 e2 => ?_⟩
  rw [List.getElem?_map] at e1
  cases er : T[i]? with
  | none => rw [er] at e1; cases e1
  | some r =>
    rw [er] at e1
    cases e1
    obtain ⟨c, e, q⟩ := h3 i x e2
    rw [show T.getD i [] = r by simp [List.getD, er]] at q
    rw [e]
    exact dv_opts q
end
end TM

set_option Elab.async false
set_option linter.all false
set_option maxRecDepth 100000
set_option maxHeartbeats 4000000
namespace L2
open PySem PySem.Spec PyProof.Rows
theorem pi_tupK {X : Cx} {K : PySem.W.Frag} (hK : X.K = K) {tg l : Expr} {tl : TE} (hl : PE X l tl) : PI X tg l (iTup K tl) := hK ▸ pi_tup hl
theorem call_tuple_ofK {X : Cx} {K : PySem.W.Frag} (hK : X.K = K) : CallR X (.type "tuple") (fun xs H Q => ∃ p ys, xs = [.ref p] ∧ ((SqL K H p ys ∧ ∀ l, H l = none → Q (.ref l) (upd H l (.tup ys))) ∨ (SqT K H p ys ∧ Q (.ref p) H))) := hK ▸ call_tuple_of
end L2
namespace TM
open PySem L2
abbrev sLBent : Stmt := top 34
def rowT (r : List (Option Int)) : PyData := .tuple (r.map dO)
def Leaf (x : PyData) : Prop := x = .none ∨ x = .bool true ∨ x = .int (10 ^ 29) ∨ ∃ n : Int, x = .int n ∧ -1 ≤ n ∧ n ≤ 60
def RowD (r : PyData) : Prop := ∃ xs, (r = .tuple xs ∨ r = .list xs) ∧ xs.length ≤ 30 ∧ ∀ x ∈ xs, Leaf x
def PapD (d : PyData) : Prop := ∃ rs, (d = .tuple rs ∨ d = .list rs) ∧ rs.length ≤ 30 ∧ ∀ r ∈ rs, RowD r
theorem leaf_dO {x : Option Int} (h : ∀ k : Int, x = some k → 0 ≤ k ∧ k ≤ 10) : Leaf (dO x) := by
  cases x with
  | none => exact .inl rfl
  | some k => have := h k rfl; exact .inr (.inr (.inr ⟨k, rfl, by omega, by omega⟩))
theorem rowT_ok {T : List (List (Option Int))} (h : Rows 1 10 T) (hl : T.length ≤ 10) : ∀ r ∈ T.map rowT, RowD r := by
  intro r hr
  obtain ⟨r', h1, rfl⟩ := List.mem_map.mp hr
  obtain ⟨j, hj, e⟩ := List.getElem_of_mem h1
  obtain ⟨g1, g2⟩ := h j r' (by rw [List.getElem?_eq_getElem hj, e])
  refine ⟨_, .inl rfl, by rw [List.length_map]; omega, fun x hx => ?_⟩
  obtain ⟨x', h2, rfl⟩ := List.mem_map.mp hx
  exact leaf_dO (g2 x' h2)
section
variable {P : Program} {w : World} {K : PySem.W.Frag} {mg : Str → Option Value} {base : Heap}
theorem tab_dvs {Z : Addr → Prop} {H : Hp} {xs : List V} {T : List (List (Option Int))} (h1 : xs.length = T.length) (h2 : ∀ (i : Nat) x, xs[i]? = some x → ∃ c, x = V.ref c ∧ SqT K H c ((T.getD i []).map oV)) : DVs K Z H (T.map rowT) xs := by
  refine dvs_of (by simp [h1]) fun i d x e1 e2 => ?_
  rw [List.getElem?_map] at e1
  cases er : T[i]? with
  | none => rw [er] at e1; cases e1
  | some r =>
    rw [er] at e1
    cases e1
    obtain ⟨c, e, q⟩ := h2 i x e2
    rw [show T.getD i [] = r by simp [List.getD, er]] at q
    rw [e]
    exact dv_opts q
theorem cut_dvs {Z : Addr → Prop} {H : Hp} {ds : List PyData} {xs : List V} {lo hi : Option Int} (h : DVs K Z H ds xs) : ∃ es, DVs K Z H es (cutV xs lo hi) ∧ es.length ≤ ds.length ∧ ∀ x ∈ es, x ∈ ds :=
  ⟨_, (h.drop (HT.sIx xs.length 0 lo)).take (HT.sIx xs.length xs.length hi - HT.sIx xs.length 0 lo), by rw [List.length_take, List.length_drop]; omega, fun x hx => List.mem_of_mem_drop (List.mem_of_mem_take hx)⟩
theorem rep_dvs {Z : Addr → Prop} {H : Hp} {d : PyData} {v : V} (h : DV K Z H d v) : ∀ k : Nat, DVs K Z H (List.replicate k [d]).flatten (List.replicate k [v]).flatten
  | 0 => rfl
  | k + 1 => by
    rw [List.replicate_succ, List.replicate_succ, List.flatten_cons, List.flatten_cons]
    exact (show DVs K Z H [d] [v] from ⟨v, [], rfl, h, rfl⟩).append (rep_dvs h k)
theorem pick {st : Addr} {H HA : Hp} {p : Addr} {vs : List V} {ds : List PyData} {r : Int} (hD : DVs K (fun a => a = st) H ds vs) (hp : H p = some (.lst vs)) (np : p ≠ st) (e : Ext st H HA) (hs : StOk H st) (h0 : 0 ≤ r) (h1 : r < ds.length) : ∃ v d, atI vs r = some v ∧ d ∈ ds ∧ DV K (fun a => a = st) HA d v ∧ SqL K HA p vs := by
  have hl := hD.length
  have hk : r.toNat < vs.length := by omega
  have ea := atI_nat (List.getElem?_eq_getElem hk)
  rw [show ((r.toNat : Nat) : Int) = r by omega] at ea
  obtain ⟨d, ed, hd⟩ := hD.get r.toNat _ (List.getElem?_eq_getElem hk)
  exact ⟨_, d, ea, List.mem_of_getElem? ed, hd.stay (e.stay (Z := fun a => a = st) hs rfl), SqL.of (e _ _ hp np)⟩
theorem StOk.ne {st p : Addr} {H : Hp} (h : StOk H st) (hp : H p = none) : p ≠ st := fun z => by
  obtain ⟨_, _, h0, _⟩ := h
  rw [z, h0] at hp
  cases hp
abbrev nBe : List Str := ["_law_state_here", "_law_paper", "_law_place", "_law_way", "_law_row", "_law_at", "_law_floor", "_law_down", "_law_new"]
theorem scBe : FnScope nBe ["_law_state_here", "_law_paper"] (defScope sLBent) := ⟨rfl, rfl, rfl, by decide +kernel, rfl, by decide +kernel, by decide +kernel⟩
def spBent (K : PySem.W.Frag) : Sp := fun vs H Q _ => ∃ (st b : Addr) (T : List (List (Option Int))), vs = [.ref st, .ref b] ∧ StOk H st ∧ TabAt K H b T ∧ 1 ≤ T.length ∧ T.length ≤ 10 ∧ Rows 1 10 T ∧ ∀ v d H', StOk H' st → Ext st H H' → DV K (fun a => a = st) H' d v → PapD d → Q v H'
theorem ok_lbent (T : Blt mg) {f fT : Addr} {fd fdT : FuncData} (G : Gd K mg "_law_bent" sLBent ["_law_state_here", "_law_paper"] f fd) (GT : Gd K mg "_law_take" sTake ["_law_state_here", "_law_many"] fT fdT) : FnOk P w K mg base CX0 2 f fd ["_law_state_here", "_law_paper"] (spBent K) := by
  have nd1 : (["_law_rest", "_law_down"] : List Str).Nodup := by decide +kernel
  have nd2 : (["_law_one", "_law_down"] : List Str).Nodup := by decide +kernel
  refine G.fn.ok scBe (fun vs H Q E h => ?_) (fun cdv A outer s H vs Q E hr h => ?_)
  · obtain ⟨st, b, T, rfl, _⟩ := h
    rfl
  · obtain ⟨st, b, Tb, rfl, hs, hT, hl1, hl2, hRw, k⟩ := h
    refine ⟨_, pss_cons (ps_par (i := 2) (j := 3) rfl scBe.nd rfl rfl (by decide) rfl rfl (pa_cons (pe_call (ok_take GT) hr rfl GT.mg GT.fn.kp GT.b .nil pass0 (pa_cons (pv 0) (pa_cons (pe_callB call_len_seq rfl T.len b_len (pa_cons (pv 1) pa_nil)) pa_nil))) (pa_cons (pe_call (ok_take GT) hr rfl GT.mg GT.fn.kp GT.b .nil pass0 (pa_cons (pv 0) (pa_cons pe_int pa_nil))) pa_nil)) rfl)
      (pss_cons (ps_set (i := 4) scBe.nd rfl (Or.inl rfl) (pe_ix ix_tup (pv 1) (pv 2) (fun _ _ => rfl)))
      (pss_cons (ps_set (i := 5) scBe.nd rfl (Or.inl rfl) (pe_call (ok_take GT) hr rfl GT.mg GT.fn.kp GT.b .nil pass0 (pa_cons (pv 0) (pa_cons (pe_callB call_len_seq rfl T.len b_len (pa_cons (pv 4) pa_nil)) pa_nil))))
      (pss_cons (ps_set (i := 6) scBe.nd rfl (Or.inl rfl) (pe_ifExp (pt_cmpR op_isN (pe_ix ix_tup (pv 4) (pv 5) (fun _ _ => rfl)) pe_non (nomark _)) pe_int (pe_ix ix_tup (pv 4) (pv 5) (fun _ _ => rfl))))
      (pss_cons (ps_if (pt_cmpR op_eq (pv 3) pe_int (nomark _)) (pss_one (ps_ret (pe_ix ix_list (pe_lst (pa_cons (pe_callTy call_list_of rfl T.list b_list (pa_cons (pv 1) pa_nil)) (pa_cons (pe_slice sl_tupG (pv 1) (po_some pe_int) po_none) (pa_cons (pe_op op_catG (pv 1) (pe_slice sl_tupG (pv 1) (po_some (pe_un un_neg pe_int)) po_none)) (pa_cons (pe_rev (pv 1)) pa_nil))))) (pe_call (ok_take GT) hr rfl GT.mg GT.fn.kp GT.b .nil pass0 (pa_cons (pv 0) (pa_cons pe_int pa_nil))) (fun _ _ => rfl)))) pss_nil)
      (pss_cons (ps_if (pt_cmpR op_eq (pv 3) pe_int (nomark _)) (pss_cons (ps_set (i := 4) scBe.nd rfl (Or.inl rfl) (pe_ix ix_list (pe_lst (pa_cons (pe_op op_catG (pv 4) (pe_tup (pa_cons pe_int pa_nil))) (pa_cons (pe_slice sl_tupG (pv 4) (po_some pe_int) po_none) (pa_cons (pe_callTy call_list_of rfl T.list b_list (pa_cons (pv 4) pa_nil)) (pa_cons (pe_op op_repT (pe_tup (pa_cons pe_non pa_nil)) (pe_callB call_len_seq rfl T.len b_len (pa_cons (pv 4) pa_nil))) (pa_cons (pe_op op_repT (pe_tup (pa_cons pe_int pa_nil)) (pe_callB call_len_seq rfl T.len b_len (pa_cons (pv 4) pa_nil))) pa_nil)))))) (pe_call (ok_take GT) hr rfl GT.mg GT.fn.kp GT.b .nil pass0 (pa_cons (pv 0) (pa_cons pe_int pa_nil))) (fun _ _ => rfl)))
          (pss_one (ps_ret (pe_op op_catG (pe_op op_catG (pe_slice sl_tupG (pv 1) po_none (po_some (pv 2))) (pe_tup (pa_cons (pv 4) pa_nil))) (pe_slice sl_tupG (pv 1) (po_some (pe_op op_add (pv 2) pe_int)) po_none))))) pss_nil)
      (pss_cons (ps_if (pt_cmpR op_eq (pv 3) pe_int (nomark _)) (pss_cons (ps_set (i := 7) scBe.nd rfl (Or.inr rfl) (pe_op op_add pe_int (pe_call (ok_take GT) hr rfl GT.mg GT.fn.kp GT.b .nil pass0 (pa_cons (pv 0) (pa_cons pe_int pa_nil)))))
          (pss_one (ps_ret (pe_callTy call_tuple_of rfl T.tuple b_tuple (pa_cons (pe_comp (N := ["_law_rest", "_law_down"]) (nt := 1) (cap := [7]) rfl (cs_of (by kernel_rfl)) gok_name (pi_tup (pv 1))
            (fun cl C s H ex pn => ⟨pg_name (i := 0) nd1 rfl (Or.inl rfl), pf_nil, pe_callTy (call_tuple_ofK (K := K) rfl) rfl T.tuple b_tuple (pa_cons (pe_comp (N := ["_law_one", "_law_down"]) (nt := 1) (cap := [1]) rfl (cs_of (by kernel_rfl)) gok_name (pi_tupK (K := K) rfl (pv 0))
              (fun cl C s H ex pn => ⟨pg_name (i := 0) nd2 rfl (Or.inl rfl), pf_nil, pe_ifExp (pt_cmpR op_isN (pv 0) pe_non (nomark _)) (pv 0) (pe_callB (call_max2 rfl) rfl T.max b_max (pa_cons pe_int (pa_cons (pe_op op_sub (pv 0) (pv 1)) pa_nil)))⟩)) pa_nil)⟩)) pa_nil))))) pss_nil)
      (pss_cons (ps_set (i := 8) scBe.nd rfl (Or.inl rfl) (pe_ix ix_list (pe_lst (pa_cons (pe_op op_add (pv 6) pe_int) (pa_cons (pe_callB (call_max2 rfl) rfl T.max b_max (pa_cons pe_int (pa_cons (pe_op op_sub (pv 6) pe_int) pa_nil))) (pa_cons pe_non (pa_cons pe_int (pa_cons pe_bl (pa_cons (pe_un un_neg pe_int) (pa_cons (pe_op op_add (pv 6) pe_int) (pa_cons (pe_op op_pow pe_int pe_int) pa_nil))))))))) (pe_call (ok_take GT) hr rfl GT.mg GT.fn.kp GT.b .nil pass0 (pa_cons (pv 0) (pa_cons pe_int pa_nil))) (fun _ _ => rfl)))
      (pss_one (ps_ret (pe_op op_catG (pe_op op_catG (pe_slice sl_tupG (pv 1) po_none (po_some (pv 2))) (pe_tup (pa_cons (pe_op op_catG (pe_op op_catG (pe_slice sl_tupG (pv 4) po_none (po_some (pv 5))) (pe_tup (pa_cons (pv 8) pa_nil))) (pe_slice sl_tupG (pv 4) (po_some (pe_op op_add (pv 5) pe_int)) po_none)) pa_nil))) (pe_slice sl_tupG (pv 1) (po_some (pe_op op_add (pv 2) pe_int)) po_none))))))))))), ?_⟩
    obtain ⟨xs, w1, w2, w3⟩ := id hT
    have hz : (1000 : Nat) ≤ sizeLine := by decide
    have pok := rowT_ok hRw hl2
    refine ⟨_, rfl, _, rfl, b, xs, rfl, .inr w1, st, _, rfl, hs, by omega, by omega, fun pl H1 p0 p1 hs1 e1 => ⟨_, rfl, st, 8, rfl, hs1, by decide, by decide, fun way H2 y0 y1 hs2 e2 => ⟨_, _, rfl, ?_⟩⟩⟩
    have pl' : pl = ((pl.toNat : Nat) : Int) := by omega
    have hpl : pl.toNat < Tb.length := by omega
    obtain ⟨ys, c, u1, u2, u3⟩ := hT.at pl.toNat hpl
    rw [← pl'] at u2
    have eA := e1.trans e2
    obtain ⟨rl, rb⟩ := hRw pl.toNat (Tb.getD pl.toNat []) (by simp [List.getD, List.getElem?_eq_getElem hpl])
    refine ⟨_, rfl, _, rfl, b, ys, pl, .ref c, rfl, rfl, eA.sqT hs u1, u2, ?_⟩
    refine ⟨_, rfl, _, rfl, c, _, rfl, .inr (eA.sqT hs u3), st, _, rfl, hs2, by rw [List.length_map]; omega, by rw [List.length_map]; omega, fun at' H3 a0 a1 hs3 e3 => ?_⟩
    rw [List.length_map] at a1
    have eB := eA.trans e3
    have D3 : DVs K (fun a => a = st) H3 (Tb.map rowT) xs := (tab_dvs w2 w3).stay (eB.stay (Z := fun a => a = st) hs rfl)
    have qb := eB.sqT hs w1
    have qc := eB.sqT hs u3
    generalize Tb.getD pl.toNat [] = row at *
    have ea := atO (as := row) a0 a1
    dsimp only [gName]
    refine tSeq_mid (fun σ H4 => H4 = H3 ∧ ∃ fl : Int, 0 ≤ fl ∧ fl ≤ 10 ∧ σ = [some (.ref st), some (.ref b), some (.int pl), some (.int way), some (.ref c), some (.int at'), some (.int fl), none, none]) (fun nx hn => ?_) ?_
    · refine ⟨_, rfl, _, rfl, c, _, at', _, rfl, rfl, qc, ea, rfl, _, rfl, ?_⟩
      cases eo : row.getD at'.toNat none with
      | none => exact iteT (hn _ _ ⟨rfl, 0, by decide, by decide, rfl⟩)
      | some n =>
        rw [eo] at ea
        have hb := rb (some n) (by
          cases eg : row[at'.toNat]? with
          | none => simp [List.getD, eg] at eo
          | some y =>
            have : y = some n := by simpa [List.getD, eg] using eo
            rw [← this]
            exact List.mem_of_getElem? eg) n rfl
        exact iteF ⟨_, rfl, _, rfl, c, _, at', .int n, rfl, rfl, qc, ea, hn _ _ ⟨rfl, n, by omega, by omega, rfl⟩⟩
    · rintro σ H4 ⟨rfl, fl, f0, f1, rfl⟩
      have lT : (Tb.map rowT).length ≤ 10 := by rw [List.length_map]; exact hl2
      have lx : xs.length ≤ 10 := by omega
      have lc : ∀ lo hi, (cutV xs lo hi).length ≤ 10 := fun lo hi => Nat.le_trans (cutV_length xs lo hi) lx
      have lr : row.length ≤ 10 := by omega
      have lv : (row.map oV).length ≤ 10 := by rw [List.length_map]; exact lr
      have lcr : ∀ lo hi, (cutV (row.map oV) lo hi).length ≤ 10 := fun lo hi => Nat.le_trans (cutV_length _ lo hi) lv
      have rleaf : ∀ x ∈ row.map dO, Leaf x := fun x hx => by
        obtain ⟨x', h2, rfl⟩ := List.mem_map.mp hx
        exact leaf_dO (rb x' h2)
      have lD : (row.map dO).length ≤ 10 := by rw [List.length_map]; exact lr
      refine ⟨_, rfl, rfl, _, rfl, ite2 (fun _ => ?w0) fun _ => ?_⟩
      case w0 =>
        refine ⟨_, rfl, b, xs, rfl, .inr qb, fun L hL => ?_⟩
        have s5 := Same.upd (o := .lst xs) hL
        have nL := hs3.ne hL
        refine ⟨_, rfl, 1, rfl, b, xs, rfl, s5.sqT qb, fun t1 H6 s6 q6 => ?_⟩
        have s56 := s5.trans s6
        refine ⟨_, rfl, _, rfl, 1, rfl, _, rfl, b, xs, rfl, s56.sqT qb, fun t2 H7 s7 q7 => ?_⟩
        have s57 := s56.trans s7
        refine ⟨b, t2, xs, _, rfl, rfl, s57.sqT qb, q7, by have := lc (some (-1)) none; omega, fun t3 H8 s8 q8 => ?_⟩
        have s58 := s57.trans s8
        refine ⟨_, rfl, b, xs, rfl, s58.sqT qb, fun t4 H9 s9 q9 => ?_⟩
        have s59 := s58.trans s9
        refine ⟨(by show 4 ≤ sizeLine; decide), fun p hp => ?_⟩
        have s5p := s59.trans (Same.upd (o := .lst [.ref L, .ref t1, .ref t3, .ref t4]) hp)
        have sp := Same.upd (o := .lst [.ref L, .ref t1, .ref t3, .ref t4]) hp
        have hsP := hs3.same s5p
        have np := (hs3.same s59).ne hp
        refine ⟨_, rfl, st, 4, rfl, hsP, by decide, by decide, fun r HA r0 r4 hsA eP => ?_⟩
        obtain ⟨es1, d1, l1, m1⟩ := cut_dvs (lo := some 1) (hi := none) D3
        obtain ⟨es2, d2, l2, m2⟩ := cut_dvs (lo := some (-1)) (hi := none) D3
        have dL : DV K (fun a => a = st) (upd H9 p (.lst [.ref L, .ref t1, .ref t3, .ref t4])) (.list (Tb.map rowT)) (.ref L) := by
          simp only [DV]
          exact ⟨L, xs, rfl, nL, (((s6.trans s7).trans s8).trans (s9.trans sp)) _ _ upd_same, D3.stay s5p.stay⟩
        have dt1 : DV K (fun a => a = st) (upd H9 p (.lst [.ref L, .ref t1, .ref t3, .ref t4])) (.tuple es1) (.ref t1) := by
          simp only [DV]
          exact ⟨t1, _, rfl, (((s7.trans s8).trans s9).trans sp).sqT q6, d1.stay s5p.stay⟩
        have dt3 : DV K (fun a => a = st) (upd H9 p (.lst [.ref L, .ref t1, .ref t3, .ref t4])) (.tuple (Tb.map rowT ++ es2)) (.ref t3) := by
          simp only [DV]
          exact ⟨t3, _, rfl, (s9.trans sp).sqT q8, (D3.stay s5p.stay).append (d2.stay s5p.stay)⟩
        have dt4 : DV K (fun a => a = st) (upd H9 p (.lst [.ref L, .ref t1, .ref t3, .ref t4])) (.tuple (Tb.map rowT).reverse) (.ref t4) := by
          simp only [DV]
          exact ⟨t4, _, rfl, sp.sqT q9, (D3.stay s5p.stay).reverse⟩
        obtain ⟨v, d, ev, md, dv, sq⟩ := pick (ds := [.list (Tb.map rowT), .tuple es1, .tuple (Tb.map rowT ++ es2), .tuple (Tb.map rowT).reverse]) (r := r) ⟨_, _, rfl, dL, _, _, rfl, dt1, _, _, rfl, dt3, _, _, rfl, dt4, rfl⟩ upd_same np eP hsP r0 (by simpa using r4)
        refine ⟨p, _, r, v, rfl, rfl, sq, ev, k v d HA hsA ((eB.trans (Ext.of s5p)).trans eP) dv ?_⟩
        simp only [List.mem_cons, List.not_mem_nil, or_false] at md
        rcases md with e | e | e | e
        · exact ⟨_, .inr e, by omega, pok⟩
        · exact ⟨_, .inl e, by omega, fun x hx => pok x (m1 x hx)⟩
        · refine ⟨_, .inl e, by rw [List.length_append]; omega, fun x hx => ?_⟩
          rcases List.mem_append.mp hx with z | z
          · exact pok x z
          · exact pok x (m2 x z)
        · exact ⟨_, .inl e, by rw [List.length_reverse]; omega, fun x hx => pok x (List.mem_reverse.mp hx)⟩
      have put : ∀ {HX : Hp} {v : V} {d : PyData} {t : Addr} (HY : Hp), Ext st H4 HX → StOk HX st → Same HX HY → DV K (fun a => a = st) HX d v → RowD d → SqT K HY t (cutV xs none (some pl) ++ [v] ++ cutV xs (some (pl + 1)) none) → Q (.ref t) HY := by
        intro HX v d t HY eX hX sY dv hd hq
        obtain ⟨es1, d1, l1, m1⟩ := cut_dvs (lo := none) (hi := some pl) D3
        obtain ⟨es2, d2, l2, m2⟩ := cut_dvs (lo := some (pl + 1)) (hi := none) D3
        have sx : Stay K (fun a => a = st) H4 HY := (eX.trans (Ext.of sY)).stay (Z := fun a => a = st) hs3 rfl
        refine k _ (.tuple (es1 ++ [d] ++ es2)) HY (hX.same sY) (eB.trans (eX.trans (Ext.of sY))) ?_ ⟨_, .inl rfl, by rw [List.length_append, List.length_append, List.length_singleton]; omega, fun x hx => ?_⟩
        · simp only [DV]
          exact ⟨t, _, rfl, hq, ((d1.stay sx).append (show DVs K (fun a => a = st) HY [d] [v] from ⟨v, [], rfl, dv.stay sY.stay, rfl⟩)).append (d2.stay sx)⟩
        · simp only [List.mem_append, List.mem_singleton] at hx
          rcases hx with (z | z) | z
          · exact pok x (m1 x z)
          · rw [z]; exact hd
          · exact pok x (m2 x z)
      refine ⟨_, rfl, rfl, _, rfl, ite2 (fun _ => ?w1) fun _ => ?_⟩
      case w1 =>
        refine ⟨_, rfl, (by show 1 ≤ sizeLine; decide), fun t0 ht0 => ?_⟩
        have s0 := Same.upd (o := .tup [.int 0]) ht0
        refine ⟨c, t0, row.map oV, [.int 0], rfl, rfl, s0.sqT qc, SqT.of upd_same, by rw [List.length_singleton]; omega, fun t1 H6 s6 q6 => ?_⟩
        have s56 := s0.trans s6
        refine ⟨_, rfl, 1, rfl, c, row.map oV, rfl, s56.sqT qc, fun t2 H7 s7 q7 => ?_⟩
        have s57 := s56.trans s7
        refine ⟨_, rfl, c, row.map oV, rfl, .inr (s57.sqT qc), fun L hL => ?_⟩
        have sL := Same.upd (o := .lst (row.map oV)) hL
        have nL := (hs3.same s57).ne hL
        have s58 := s57.trans sL
        refine ⟨(by show 1 ≤ sizeLine; decide), fun t3 ht3 => ?_⟩
        have s3a := Same.upd (o := .tup [.non]) ht3
        have s59 := s58.trans s3a
        refine ⟨_, rfl, c, row.map oV, rfl, .inr (s59.sqT qc), t3, [.non], _, rfl, rfl, SqT.of upd_same, by simp, by rw [List.length_map]; omega, by rw [List.length_map, List.length_singleton]; omega, fun t4 HB sB qB => ?_⟩
        have s5B := s59.trans sB
        refine ⟨(by show 1 ≤ sizeLine; decide), fun t5 ht5 => ?_⟩
        have s5a := Same.upd (o := .tup [.int 0]) ht5
        have s5C := s5B.trans s5a
        refine ⟨_, rfl, c, row.map oV, rfl, .inr (s5C.sqT qc), t5, [.int 0], _, rfl, rfl, SqT.of upd_same, by simp, by rw [List.length_map]; omega, by rw [List.length_map, List.length_singleton]; omega, fun t6 HE sE qE => ?_⟩
        have s5E := s5C.trans sE
        refine ⟨(by show 5 ≤ sizeLine; decide), fun p hp => ?_⟩
        have sp := Same.upd (o := .lst [.ref t1, .ref t2, .ref L, .ref t4, .ref t6]) hp
        have s5p := s5E.trans sp
        have hsP := hs3.same s5p
        have np := (hs3.same s5E).ne hp
        refine ⟨_, rfl, st, 5, rfl, hsP, by decide, by decide, fun r HA r0 r5 hsA eP => ?_⟩
        rw [List.length_map] at qB qE
        obtain ⟨es1, d1, l1, m1⟩ := cut_dvs (K := K) (Z := fun a => a = st) (H := upd HE p (.lst [.ref t1, .ref t2, .ref L, .ref t4, .ref t6])) (lo := some 1) (hi := none) (dvs_opts row)
        have x1 : DV K (fun a => a = st) (upd HE p (.lst [.ref t1, .ref t2, .ref L, .ref t4, .ref t6])) (.tuple (row.map dO ++ [.int 0])) (.ref t1) := by
          simp only [DV]
          exact ⟨t1, _, rfl, ((((s7.trans sL).trans s3a).trans sB).trans ((s5a.trans sE).trans sp)).sqT q6, (dvs_opts row).append ⟨.int 0, [], rfl, rfl, rfl⟩⟩
        have x2 : DV K (fun a => a = st) (upd HE p (.lst [.ref t1, .ref t2, .ref L, .ref t4, .ref t6])) (.tuple es1) (.ref t2) := by
          simp only [DV]
          exact ⟨t2, _, rfl, (((sL.trans s3a).trans sB).trans ((s5a.trans sE).trans sp)).sqT q7, d1⟩
        have x3 : DV K (fun a => a = st) (upd HE p (.lst [.ref t1, .ref t2, .ref L, .ref t4, .ref t6])) (.list (row.map dO)) (.ref L) := by
          simp only [DV]
          exact ⟨L, _, rfl, nL, ((s3a.trans sB).trans ((s5a.trans sE).trans sp)) _ _ upd_same, dvs_opts row⟩
        have x4 : DV K (fun a => a = st) (upd HE p (.lst [.ref t1, .ref t2, .ref L, .ref t4, .ref t6])) (.tuple (List.replicate row.length [PyData.none]).flatten) (.ref t4) := by
          simp only [DV]
          exact ⟨t4, _, rfl, ((s5a.trans sE).trans sp).sqT qB, rep_dvs (d := .none) (v := .non) rfl _⟩
        have x5 : DV K (fun a => a = st) (upd HE p (.lst [.ref t1, .ref t2, .ref L, .ref t4, .ref t6])) (.tuple (List.replicate row.length [PyData.int 0]).flatten) (.ref t6) := by
          simp only [DV]
          exact ⟨t6, _, rfl, sp.sqT qE, rep_dvs (d := .int 0) (v := .int 0) rfl _⟩
        obtain ⟨v, d, ev, md, dv, sq⟩ := pick (ds := [.tuple (row.map dO ++ [.int 0]), .tuple es1, .list (row.map dO), .tuple (List.replicate row.length [PyData.none]).flatten, .tuple (List.replicate row.length [PyData.int 0]).flatten]) (r := r) ⟨_, _, rfl, x1, _, _, rfl, x2, _, _, rfl, x3, _, _, rfl, x4, _, _, rfl, x5, rfl⟩ upd_same np eP hsP r0 (by simpa using r5)
        have zero : Leaf (.int 0) := .inr (.inr (.inr ⟨0, rfl, by decide, by decide⟩))
        have hd : RowD d := by
          simp only [List.mem_cons, List.not_mem_nil, or_false] at md
          rcases md with e | e | e | e | e
          · refine ⟨_, .inl e, by rw [List.length_append, List.length_singleton]; omega, fun x hx => ?_⟩
            rcases List.mem_append.mp hx with z | z
            · exact rleaf x z
            · rw [List.mem_singleton.mp z]; exact zero
          · exact ⟨_, .inl e, by omega, fun x hx => rleaf x (m1 x hx)⟩
          · exact ⟨_, .inr e, by omega, rleaf⟩
          · refine ⟨_, .inl e, by simp; omega, fun x hx => ?_⟩
            have : x = .none := by simp at hx; exact hx.2
            rw [this]; exact .inl rfl
          · refine ⟨_, .inl e, by simp; omega, fun x hx => ?_⟩
            have : x = .int 0 := by simp at hx; exact hx.2
            rw [this]; exact zero
        have eX : Ext st H4 HA := (Ext.of s5p).trans eP
        have qbA := eX.sqT hs3 qb
        refine ⟨p, _, r, v, rfl, rfl, sq, ev, ?_⟩
        refine ⟨_, rfl, _, rfl, pl, rfl, b, xs, rfl, qbA, fun a1' HF sF qF => ?_⟩
        refine ⟨_, rfl, (by show 1 ≤ sizeLine; decide), fun t7 ht7 => ?_⟩
        have s7b := Same.upd (o := .tup [v]) ht7
        refine ⟨a1', t7, _, [v], rfl, rfl, s7b.sqT qF, SqT.of upd_same, by have := lc none (some pl); rw [List.length_singleton]; omega, fun a2' HG sG qG => ?_⟩
        have sAG := (sF.trans s7b).trans sG
        refine ⟨_, rfl, _, rfl, pl, 1, rfl, rfl, pl + 1, rfl, b, xs, rfl, sAG.sqT qbA, fun a3' HI sI qI => ?_⟩
        refine ⟨a2', a3', _, _, rfl, rfl, sI.sqT qG, qI, by have := lc none (some pl); have := lc (some (pl + 1)) none; rw [List.length_append, List.length_singleton]; omega, fun a4' HJ sJ qJ => ?_⟩
        exact put HJ eX hsA ((sAG.trans sI).trans sJ) dv hd qJ
      refine ⟨_, rfl, rfl, _, rfl, ite2 (fun _ => ?w2) fun _ => ?_⟩
      case w2 =>
        refine ⟨_, rfl, st, 3, rfl, hs3, by decide, by decide, fun r HA r0 r3 hsA eP => ⟨1, r, rfl, rfl, ?_⟩⟩
        have eX := eB.trans eP
        refine ⟨_, rfl, b, rfl, ⟨xs, eP.sqT hs3 qb⟩, ?_⟩
        refine cw_tup (xs := xs) (fun i acc H' => Same HA H' ∧ ∃ es : List PyData, DVs K (fun a => a = st) H' es acc ∧ es.length = i ∧ ∀ x ∈ es, RowD x) ⟨Same.refl _, [], rfl, rfl, by simp⟩ (fun i acc H' hi q => ?_) (fun i x acc H' hx q => ?_) (fun acc H' q D hD => ?_)
        · obtain ⟨q1, es, d1, l1, _⟩ := q
          have := d1.length
          exact ⟨by omega, q1.sqT (eP.sqT hs3 qb)⟩
        · obtain ⟨q1, es, d1, l1, m1⟩ := q
          obtain ⟨c2, rfl, qc2⟩ := w3 i x hx
          have qc2' := q1.sqT (eX.sqT hs qc2)
          have hi : i < Tb.length := by rw [← w2]; exact (List.getElem?_eq_some_iff.mp hx).1
          obtain ⟨g1, g2⟩ := hRw i (Tb.getD i []) (by simp [List.getD, List.getElem?_eq_getElem hi])
          generalize Tb.getD i [] = rw2 at *
          refine ⟨_, rfl, c2, rfl, ⟨_, qc2'⟩, ?_⟩
          refine cw_tup (xs := rw2.map oV) (fun j acc2 H2' => Same H' H2' ∧ ∃ os : List (Option Int), acc2 = os.map oV ∧ os.length = j ∧ ∀ x ∈ os, ∀ k : Int, x = some k → 0 ≤ k ∧ k ≤ 10) ⟨Same.refl _, [], rfl, rfl, by simp⟩ (fun j acc2 H2' hj q => ?_) (fun j y acc2 H2' hy q => ?_) (fun acc2 H2' q D hD => ?_)
          · obtain ⟨q2, os, rfl, ol, _⟩ := q
            rw [List.length_map] at hj ⊢
            exact ⟨by omega, q2.sqT qc2'⟩
          · obtain ⟨q2, os, rfl, ol, ob⟩ := q
            rw [List.getElem?_map] at hy
            cases em : rw2[j]? with
            | none => rw [em] at hy; cases hy
            | some o =>
              rw [em] at hy
              cases hy
              have go : ∀ z : Option Int, (∀ k : Int, z = some k → 0 ≤ k ∧ k ≤ 10) → ∃ os' : List (Option Int), os.map oV ++ [oV z] = os'.map oV ∧ os'.length = j + 1 ∧ ∀ x ∈ os', ∀ k : Int, x = some k → 0 ≤ k ∧ k ≤ 10 := fun z hz' => ⟨os ++ [z], by simp, by simp [ol], fun x hx k ek => by
                rcases List.mem_append.mp hx with y | y
                · exact ob x y k ek
                · rw [List.mem_singleton.mp y] at ek; exact hz' k ek⟩
              cases o with
              | none => exact ⟨_, rfl, rfl, _, rfl, iteT ⟨_, rfl, q2, go none fun k ek => by cases ek⟩⟩
              | some n =>
                have hn := g2 (some n) (List.mem_of_getElem? em) n rfl
                refine ⟨_, rfl, rfl, _, rfl, iteF ⟨_, rfl, _, rfl, n, 1 + r, rfl, rfl, 0, n - (1 + r), rfl, q2, ?_⟩⟩
                refine go (some (if n - (1 + r) > 0 then n - (1 + r) else 0)) fun k ek => ?_
                injection ek with ek
                split at ek <;> omega
          · obtain ⟨q2, os, rfl, ol, ob⟩ := q
            refine ⟨D, _, rfl, .inl ⟨SqL.of upd_same, fun t ht => ?_⟩⟩
            have s2 := (q2.trans (Same.upd (o := .lst (os.map oV)) hD)).trans (Same.upd (o := .tup (os.map oV)) ht)
            rw [List.length_map] at ol
            refine ⟨q1.trans s2, es ++ [rowT os], (d1.stay s2.stay).append ⟨.ref t, [], rfl, dv_opts (SqT.of upd_same), rfl⟩, by simp [l1], fun x hx => ?_⟩
            rcases List.mem_append.mp hx with y | y
            · exact m1 x y
            · rw [List.mem_singleton.mp y]
              refine ⟨_, .inl rfl, by rw [List.length_map]; omega, fun x hx => ?_⟩
              obtain ⟨x', h2, rfl⟩ := List.mem_map.mp hx
              exact leaf_dO (ob x' h2)
        · obtain ⟨q1, es, d1, l1, m1⟩ := q
          refine ⟨D, acc, rfl, .inl ⟨SqL.of upd_same, fun t ht => ?_⟩⟩
          have s2 := (Same.upd (o := .lst acc) hD).trans (Same.upd (o := .tup acc) ht)
          refine k _ (.tuple es) _ (hsA.same (q1.trans s2)) (eX.trans (Ext.of (q1.trans s2))) ?_ ⟨es, .inl rfl, by omega, m1⟩
          simp only [DV]
          exact ⟨t, acc, rfl, SqT.of upd_same, d1.stay s2.stay⟩
      refine ⟨_, rfl, fl, 1, rfl, rfl, _, rfl, fl, 1, rfl, rfl, 0, fl - 1, rfl, 1, rfl, _, rfl, fl, 50, rfl, rfl, 10, 29, rfl, rfl, ⟨by decide, by decide, by decide⟩, (by show 8 ≤ sizeLine; decide), fun p hp => ?_⟩
      have hsP := hs3.same (Same.upd (o := .lst [.int (fl + 1), .int (if fl - 1 > 0 then fl - 1 else 0), .non, .int 0, .bl true, .int (-1), .int (fl + 50), .int (10 ^ (29 : Int).toNat)]) hp)
      have np := hs3.ne hp
      refine ⟨_, rfl, st, 8, rfl, hsP, by decide, by decide, fun r HA r0 r8 hsA eP => ?_⟩
      obtain ⟨v, d, ev, md, dv, sq⟩ := pick (K := K) (ds := [.int (fl + 1), .int (if fl - 1 > 0 then fl - 1 else 0), .none, .int 0, .bool true, .int (-1), .int (fl + 50), .int (10 ^ (29 : Int).toNat)]) (r := r) ⟨_, _, rfl, rfl, _, _, rfl, rfl, _, _, rfl, rfl, _, _, rfl, rfl, _, _, rfl, rfl, _, _, rfl, rfl, _, _, rfl, rfl, _, _, rfl, rfl, rfl⟩ upd_same np eP hsP r0 (by simpa using r8)
      have hd : Leaf d := by
        simp only [List.mem_cons, List.not_mem_nil, or_false] at md
        rcases md with e | e | e | e | e | e | e | e
        · exact .inr (.inr (.inr ⟨_, e, by omega, by omega⟩))
        · exact .inr (.inr (.inr ⟨_, e, by split <;> omega, by split <;> omega⟩))
        · exact .inl e
        · exact .inr (.inr (.inr ⟨_, e, by omega, by omega⟩))
        · exact .inr (.inl e)
        · exact .inr (.inr (.inr ⟨_, e, by omega, by omega⟩))
        · exact .inr (.inr (.inr ⟨_, e, by omega, by omega⟩))
        · exact .inr (.inr (.inl e))
      have eX : Ext st H4 HA := (Ext.of (Same.upd hp)).trans eP
      have qbA := eX.sqT hs3 qb
      have qcA := eX.sqT hs3 qc
      refine ⟨p, _, r, v, rfl, rfl, sq, ev, ?_⟩
      refine ⟨_, rfl, _, rfl, pl, rfl, b, xs, rfl, qbA, fun a1' HF sF qF => ?_⟩
      refine ⟨_, rfl, _, rfl, at', rfl, c, row.map oV, rfl, sF.sqT qcA, fun b1 HG sG qG => ?_⟩
      refine ⟨_, rfl, (by show 1 ≤ sizeLine; decide), fun t7 ht7 => ?_⟩
      have s7 := Same.upd (o := .tup [v]) ht7
      refine ⟨b1, t7, _, [v], rfl, rfl, s7.sqT qG, SqT.of upd_same, by have := lcr none (some at'); rw [List.length_singleton]; omega, fun b2 HI sI qI => ?_⟩
      have sAI := ((sF.trans sG).trans s7).trans sI
      refine ⟨_, rfl, _, rfl, at', 1, rfl, rfl, at' + 1, rfl, c, row.map oV, rfl, sAI.sqT qcA, fun b3 HJ sJ qJ => ?_⟩
      refine ⟨b2, b3, _, _, rfl, rfl, sJ.sqT qI, qJ, by have := lcr none (some at'); have := lcr (some (at' + 1)) none; rw [List.length_append, List.length_singleton]; omega, fun b4 HK sK qK => ?_⟩
      have sAK := (sAI.trans sJ).trans sK
      refine ⟨(by show 1 ≤ sizeLine; decide), fun t8 ht8 => ?_⟩
      have s8 := Same.upd (o := .tup [.ref b4]) ht8
      have sFK := (((sG.trans s7).trans sI).trans sJ).trans sK
      refine ⟨a1', t8, _, [.ref b4], rfl, rfl, (sFK.trans s8).sqT qF, SqT.of upd_same, by have := lc none (some pl); rw [List.length_singleton]; omega, fun a2' HL sL qL => ?_⟩
      refine ⟨_, rfl, _, rfl, pl, 1, rfl, rfl, pl + 1, rfl, b, xs, rfl, ((sAK.trans s8).trans sL).sqT qbA, fun a3' HM sM qM => ?_⟩
      refine ⟨a2', a3', _, _, rfl, rfl, sM.sqT qL, qM, by have := lc none (some pl); have := lc (some (pl + 1)) none; rw [List.length_append, List.length_singleton]; omega, fun a4' HN sN qN => ?_⟩
      obtain ⟨es1, d1, l1, m1⟩ := cut_dvs (K := K) (Z := fun a => a = st) (H := HK) (lo := none) (hi := some at') (dvs_opts row)
      obtain ⟨es2, d2, l2, m2⟩ := cut_dvs (K := K) (Z := fun a => a = st) (H := HK) (lo := some (at' + 1)) (hi := none) (dvs_opts row)
      refine put (d := .tuple (es1 ++ [d] ++ es2)) HN (eX.trans (Ext.of sAK)) (hsA.same sAK) ((s8.trans sL).trans (sM.trans sN)) ?_ ⟨_, .inl rfl, by rw [List.length_append, List.length_append, List.length_singleton]; omega, fun x hx => ?_⟩ qN
      · simp only [DV]
        exact ⟨b4, _, rfl, qK, (d1.append (show DVs K (fun a => a = st) HK [d] [v] from ⟨v, [], rfl, dv.stay sAK.stay, rfl⟩)).append d2⟩
      · simp only [List.mem_append, List.mem_singleton] at hx
        rcases hx with (z | z) | z
        · exact rleaf x (m1 x z)
        · rw [z]; exact hd
        · exact rleaf x (m2 x z)
end
end TM

set_option Elab.async false
set_option linter.all false
set_option maxRecDepth 100000
set_option maxHeartbeats 4000000
namespace TM
open PySem L2
structure Ft (n W : Nat) (d : PyData) : Prop where
  sh : d.showable = true
  nd : d.hasDict = false
  dp : d.depth ≤ n
  wt : d.weight ≤ W
  lv : d.leavesShort 40 = true
def lfOk (d : PyData) : Bool := d.showable && !d.hasDict && decide (d.depth ≤ 0) && decide (d.weight ≤ 110) && d.leavesShort 40
theorem lf_int : ∀ n : Fin 62, lfOk (.int ((n.val : Int) - 1)) = true := by decide +kernel
theorem lf_ft {d : PyData} (h : lfOk d = true) : Ft 0 110 d := by
  unfold lfOk at h
  simp only [Bool.and_eq_true, decide_eq_true_eq, Bool.not_eq_true'] at h
  obtain ⟨⟨⟨⟨h1, h2⟩, h3⟩, h4⟩, h5⟩ := h
  exact ⟨h1, h2, h3, h4, h5⟩
theorem leaf_ft {d : PyData} (h : Leaf d) : Ft 0 110 d := by
  refine lf_ft ?_
  rcases h with e | e | e | ⟨n, e, h1, h2⟩
  · rw [e]; decide +kernel
  · rw [e]; decide +kernel
  · rw [e]; decide +kernel
  · have := lf_int ⟨(n + 1).toNat, by omega⟩
    have e2 : (((n + 1).toNat : Nat) : Int) - 1 = n := by omega
    rw [e2] at this
    rw [e]
    exact this
theorem all_ft {n W : Nat} : ∀ {ds : List PyData}, (∀ x ∈ ds, Ft n W x) → PyData.showableAll ds = true ∧ PyData.hasDictAll ds = false ∧ PyData.depthAll ds ≤ n ∧ PyData.weightAll ds ≤ ds.length * (W + 1) ∧ PyData.leavesShortAll 40 ds = true
  | [], _ => ⟨rfl, rfl, Nat.zero_le _, by simp [PyData.weightAll], rfl⟩
  | x :: xs, h => by
    obtain ⟨a, b, c, d, e⟩ := all_ft (ds := xs) fun y hy => h y (List.mem_cons_of_mem _ hy)
    have k := h x List.mem_cons_self
    refine ⟨?_, ?_, ?_, ?_, ?_⟩
    · simp only [PyData.showableAll, k.sh, a, Bool.and_self]
    · simp only [PyData.hasDictAll, k.nd, b, Bool.or_self]
    · simp only [PyData.depthAll]; have := k.dp; omega
    · simp only [PyData.weightAll, List.length_cons]
      have := k.wt
      rw [Nat.add_mul]
      omega
    · simp only [PyData.leavesShortAll, k.lv, e, Bool.and_self]
theorem seq_ft {n W c : Nat} {d : PyData} {ds : List PyData} (e : d = .tuple ds ∨ d = .list ds) (hl : ds.length ≤ c) (h : ∀ x ∈ ds, Ft n W x) : Ft (n + 1) (c * (W + 1)) d := by
  obtain ⟨a, b, c', d', e'⟩ := all_ft h
  have hw : PyData.weightAll ds ≤ c * (W + 1) := Nat.le_trans d' (Nat.mul_le_mul_right _ hl)
  rcases e with e | e <;> subst e
  · exact ⟨by simp only [PyData.showable]; exact a, by simp only [PyData.hasDict]; exact b, by simp only [PyData.depth]; omega, by simp only [PyData.weight]; exact hw, by simp only [PyData.leavesShort]; exact e'⟩
  · exact ⟨by simp only [PyData.showable]; exact a, by simp only [PyData.hasDict]; exact b, by simp only [PyData.depth]; omega, by simp only [PyData.weight]; exact hw, by simp only [PyData.leavesShort]; exact e'⟩
theorem pap_ft {d : PyData} (h : PapD d) : Ft 2 (30 * (30 * (110 + 1) + 1)) d := by
  obtain ⟨rs, e, hl, hr⟩ := h
  refine seq_ft e hl fun r hr' => ?_
  obtain ⟨xs, e2, hl2, hx⟩ := hr r hr'
  exact seq_ft e2 hl2 fun x hx' => leaf_ft (hx x hx')
theorem run_pap {rs : List (List Int)} (h : GoodRun rs) : PapD (runD rs) := by
  refine ⟨_, .inl rfl, by rw [List.length_map]; have := h.2.1; omega, fun r hr => ?_⟩
  obtain ⟨r', h1, rfl⟩ := List.mem_map.mp hr
  have g := h.2.2 r' h1
  refine ⟨_, .inl rfl, by rw [List.length_map]; have := g.2.2; omega, fun x hx => ?_⟩
  obtain ⟨x', h2, rfl⟩ := List.mem_map.mp hx
  have := g.1 x' h2
  exact .inr (.inr (.inr ⟨x', rfl, by omega, by omega⟩))
theorem tab_pap {T : List (List (Option Int))} (h : Rows 1 10 T) (hl : T.length ≤ 10) : PapD (tabD T) := ⟨_, .inl rfl, by rw [List.length_map]; omega, rowT_ok h hl⟩
structure Thing (d : PyData) : Prop where
  sh : d.showable = true
  dl : d.hasDict = false ∨ noL d = true
  dp : d.depth ≤ 50
  wt : d.weight ≤ 100000
  lv : d.leavesShort 40 = true
theorem pap_thing {d : PyData} (h : PapD d) : Thing d := by
  have k := pap_ft h
  exact ⟨k.sh, .inl k.nd, Nat.le_trans k.dp (by decide), Nat.le_trans k.wt (by decide), k.lv⟩
theorem noL_ints : ∀ ns : List Int, noLs (ns.map .int) = true
  | [] => rfl
  | n :: ns => by
    rw [List.map_cons]
    simp only [noLs, noL, Bool.true_and]
    exact noL_ints ns
theorem noL_run : ∀ rs : List (List Int), noLs (rs.map fun r => .tuple (r.map .int)) = true
  | [] => rfl
  | r :: rs => by
    rw [List.map_cons]
    simp only [noLs, noL, noL_ints, Bool.true_and]
    exact noL_run rs
theorem pair_repr {rs : List (List Int)} {d : PyData} (h : GoodRun rs) (t : Thing d) : (PyData.tuple [runD rs, d]).showable = true ∧ ((PyData.tuple [runD rs, d]).hasDict = false ∨ noLs [runD rs, d] = true) ∧ (PyData.tuple [runD rs, d]).depth ≤ 100 ∧ (PyData.tuple [runD rs, d]).shown.length ≤ sizeLine := by
  have k := pap_ft (run_pap h)
  refine ⟨?_, ?_, ?_, ?_⟩
  · simp only [PyData.showable, PyData.showableAll, k.sh, t.sh, Bool.and_self]
  · rcases t.dl with e | e
    · left
      simp only [PyData.hasDict, PyData.hasDictAll, k.nd, e, Bool.or_self]
    · right
      simp only [noLs, e, Bool.and_true]
      unfold runD
      simp only [noL]
      exact noL_run rs
  · have := k.dp
    have := t.dp
    simp only [PyData.depth, PyData.depthAll]
    omega
  · have lv : (PyData.tuple [runD rs, d]).leavesShort 40 = true := by simp only [PyData.leavesShort, PyData.leavesShortAll, k.lv, t.lv, Bool.and_self]
    have l := PyData.shown_le 40 (by decide) _ lv
    have w1 := k.wt
    have w2 := t.wt
    have w : (PyData.tuple [runD rs, d]).weight ≤ 200010 := by
      simp only [PyData.weight, PyData.weightAll]
      omega
    have z : sizeLine = 16777216 := sizeLine_eq
    omega
def thB (d : PyData) : Bool := d.showable && (!d.hasDict || noL d) && decide (d.depth ≤ 50) && decide (d.weight ≤ 100000) && d.leavesShort 40
theorem thB_ok {d : PyData} (h : thB d = true) : Thing d := by
  unfold thB at h
  simp only [Bool.and_eq_true, decide_eq_true_eq, Bool.or_eq_true, Bool.not_eq_true'] at h
  obtain ⟨⟨⟨⟨h1, h2⟩, h3⟩, h4⟩, h5⟩ := h
  exact ⟨h1, h2, h3, h4, h5⟩
theorem odds_thB : (odds1 ++ odds2).all thB = true := by decide +kernel
theorem odd_thing {d : PyData} (h : d ∈ odds1 ++ odds2) : Thing d := thB_ok (List.all_eq_true.mp odds_thB d h)
end TM

set_option Elab.async false
set_option linter.all false
set_option maxRecDepth 100000
set_option maxHeartbeats 4000000
namespace TM
open PySem L2
abbrev sLaw : Stmt := top 39
section
variable {P : Program} {w : World} {K : PySem.W.Frag} {mg : Str → Option Value} {base : Heap}
structure P5 (K : PySem.W.Frag) (mg : Str → Option Value) : Prop where
  p3 : P3 K mg
  p4 : P4 K mg
  paper : ∃ f fd, Gd K mg "is_paper" sPaper ["run", "thing"] f fd
  of : ∃ f fd, Gd K mg "paper_of" sOf ["run"] f fd
  cell : ∃ f fd, Gd K mg "_law_cell_at" sCell ["_law_script", "_law_k"] f fd
  state : ∃ f fd, Gd K mg "_law_state" sState ["_law_script", "_law_k"] f fd
  take : ∃ f fd, Gd K mg "_law_take" sTake ["_law_state_here", "_law_many"] f fd
  same : ∃ f fd, Gd K mg "_law_same" sSame ["_law_found", "_law_due"] f fd
  odd : ∃ f fd, Gd K mg "_law_odd" sOdd ["_law_state_here"] f fd
  lmarks : ∃ f fd, Gd K mg "_law_marks" sLMarks ["_law_state_here", "_law_most"] f fd
  lrun : ∃ f fd, Gd K mg "_law_run" sLRun ["_law_state_here"] f fd
  lbent : ∃ f fd, Gd K mg "_law_bent" sLBent ["_law_state_here", "_law_paper"] f fd
  lgood : ∃ f fd, Gd K mg "_law_good" sLGood ["_law_run_here", "_law_thing"] f fd
def spLaw (K : PySem.W.Frag) : Sp := fun vs H Q _ => ∃ (a : Addr) (ns : List Int), vs = [.ref a] ∧ SqL K H a (ns.map V.int) ∧ ns.length ≤ 63 ∧ ∀ H', Q (.bl true) H'
abbrev nLaw : List Str := ["_law_script", "_law_k", "_law_state_here", "_law_run_here", "_law_paper", "_law_thing", "_law_kept"]
theorem scLw : FnScope nLaw ["_law_script"] (defScope sLaw) := ⟨rfl, rfl, rfl, by decide +kernel, rfl, by decide +kernel, by decide +kernel⟩
theorem ok_law (S : P5 K mg) {f : Addr} {fd : FuncData} (G : Gd K mg "law" sLaw ["_law_script"] f fd) : FnOk P w K mg base CX0 8 f fd ["_law_script"] (spLaw K) := by
  have T := S.p4.T
  obtain ⟨fP, fdP, GP⟩ := S.paper
  obtain ⟨fF, fdF, GF⟩ := S.of
  obtain ⟨fC, fdC, GC⟩ := S.cell
  obtain ⟨fS, fdS, GS⟩ := S.state
  obtain ⟨fT, fdT, GT⟩ := S.take
  obtain ⟨fE, fdE, GE⟩ := S.same
  obtain ⟨fO, fdO, GO⟩ := S.odd
  obtain ⟨fM, fdM, GM⟩ := S.lmarks
  obtain ⟨fR, fdR, GR⟩ := S.lrun
  obtain ⟨fB, fdB, GB⟩ := S.lbent
  obtain ⟨fG, fdG, GG⟩ := S.lgood
  have nd : (["_law_turn", "_law_state_here", "_law_paper"] : List Str).Nodup := by decide +kernel
  refine G.fn.ok scLw (fun vs H Q E h => ?_) (fun cdv A outer s H vs Q E hr h => ?_)
  · obtain ⟨a, ns, rfl, _⟩ := h
    rfl
  · obtain ⟨a, ns0, rfl, hS, hlen, k⟩ := h
    refine ⟨_, pss_cons (ps_for PassesOwn.never rfl (pi_range1 rfl T.range (pa_cons (pe_callB (call_max2 rfl) rfl T.max b_max (pa_cons pe_int (pa_cons (pe_callB (call_min2 rfl) rfl T.min b_min (pa_cons (pe_callB call_len_seq rfl T.len b_len (pa_cons (pv 0) pa_nil)) (pa_cons pe_int pa_nil))) pa_nil))) pa_nil)) (pg_name (i := 1) scLw.nd rfl (Or.inl rfl))
        (pss_cons (ps_set (i := 2) scLw.nd rfl (Or.inr rfl) (pe_call (ok_state T GS GC) (hr.mono (by decide)) rfl GS.mg GS.fn.kp GS.b .nil pass0 (pa_cons (pv 0) (pa_cons (pv 1) pa_nil))))
        (pss_one (ps_for PassesOwn.never rfl (pi_list (pe_lst (pa_cons (pe_call (ok_lrun T GR GM GT) (hr.mono (by decide)) rfl GR.mg GR.fn.kp GR.b .nil pass0 (pa_cons (pv 2) pa_nil)) (pa_cons (pe_tup (pa_cons (pe_call (ok_lmarksR T GM GT) (hr.mono (by decide)) rfl GM.mg GM.fn.kp GM.b .nil pass0 (pa_cons (pv 2) (pa_cons pe_int pa_nil))) pa_nil)) pa_nil)))) (pg_name (i := 3) scLw.nd rfl (Or.inl rfl))
          (pss_cons (ps_set (i := 4) scLw.nd rfl (Or.inr rfl) (pe_call (ok_of S.p3 GF) hr rfl GF.mg GF.fn.kp GF.b .nil pass0 (pa_cons (pv 3) pa_nil)))
          (pss_one (ps_for PassesOwn.never rfl (pi_list (pe_op op_cat (pe_lst (pa_cons (pv 4) (pa_cons (pe_call (ok_odd GO GT) (hr.mono (by decide)) rfl GO.mg GO.fn.kp GO.b .nil pass0 (pa_cons (pv 2) pa_nil)) pa_nil)))
              (pe_comp (N := ["_law_turn", "_law_state_here", "_law_paper"]) (nt := 1) (cap := [2, 4]) rfl (cs_of (by kernel_rfl)) gok_name (pi_range1 rfl T.range (pa_cons pe_int pa_nil))
                (fun cl C s H ex pn => ⟨pg_name (i := 0) nd rfl (Or.inl rfl), pf_nil, pe_call (ok_lbent T GB GT) (hr.mono (by decide)) rfl GB.mg GB.fn.kp GB.b .nil pass0 (pa_cons (pv 1) (pa_cons (pv 2) pa_nil))⟩)))) (pg_name (i := 5) scLw.nd rfl (Or.inl rfl))
            (pss_cons (ps_set (i := 6) scLw.nd rfl (Or.inl rfl) (pe_callB (call_reprT hr) rfl T.repr b_repr (pa_cons (pe_tup (pa_cons (pv 3) (pa_cons (pv 5) pa_nil))) pa_nil)))
            (pss_one (ps_if (PW.pt (pw_or (pt_not (pt_val (pe_call (ok_same0 T GE) (hr.mono (by decide)) rfl GE.mg GE.fn.kp GE.b .nil pass0 (pa_cons (pe_call (ok_paper S.p3 GP) hr rfl GP.mg GP.fn.kp GP.b .nil pass0 (pa_cons (pv 3) (pa_cons (pv 5) pa_nil))) (pa_cons (pe_call (ok_lgood S.p4 GG) (hr.mono (by decide)) rfl GG.mg GG.fn.kp GG.b .nil pass0 (pa_cons (pv 3) (pa_cons (pv 5) pa_nil))) pa_nil)))))
              (pw_or1 (pt_cmpR op_ne (pe_callB (call_reprT hr) rfl T.repr b_repr (pa_cons (pe_tup (pa_cons (pv 3) (pa_cons (pv 5) pa_nil))) pa_nil)) (pv 6) (nomark _))))) (pss_one (ps_ret pe_bl)) pss_nil)))))))))) (pss_one (ps_ret pe_bl)), ?_⟩
    have len0 : ((ns0.map V.int).length : Int) ≤ 63 := by rw [List.length_map]; omega
    have hz : (1000 : Nat) ≤ sizeLine := by decide
    refine ⟨_, rfl, a, _, rfl, .inl hS, _, _, rfl, _, _, rfl, _, rfl, by split <;> (try split) <;> omega, by split <;> (try split) <;> omega, ?_⟩
    refine for_range (lo := 0) (fun i σ H1 => ∃ x1 x2 x3 x4 x5 x6 : Option V, σ = [some (.ref a), x1, x2, x3, x4, x5, x6] ∧ Same H H1) ⟨none, none, none, none, none, none, rfl, Same.refl H⟩ ?_ ?_
    · rintro i σ H1 hi ⟨x1, x2, x3, x4, x5, x6, rfl, sm⟩
      refine ⟨_, rfl, _, rfl, a, ns0, _, rfl, sm.seq hS, by omega, fun st H2 hst s2 hs2 => ?_⟩
      refine ⟨_, rfl, st, rfl, hs2, fun ra rs1 H3 R1 G1 hs3 e3 => ?_⟩
      refine ⟨_, rfl, st, 8, rfl, hs3, by decide, by decide, fun ma nm H4 gm qm hs4 e4 => ⟨(by show 1 ≤ sizeLine; decide), fun t ht => ⟨(by show 2 ≤ sizeLine; decide), fun L hL => ⟨L, rfl, ⟨_, SqL.of upd_same⟩, ?_⟩⟩⟩⟩
      have sA := (Same.upd (o := .tup [.ref ma]) ht).trans (Same.upd (o := .lst [.ref ra, .ref t]) hL)
      have nL := (hs4.same (Same.upd (o := .tup [.ref ma]) ht)).ne hL
      have hsL := hs4.same sA
      have qL : upd (upd H4 t (.tup [.ref ma])) L (.lst [.ref ra, .ref t]) L = some (.lst [.ref ra, .ref t]) := upd_same
      have runs : ∀ x ∈ [V.ref ra, V.ref t], ∃ r rs, x = .ref r ∧ RunAt K (upd (upd H4 t (.tup [.ref ma])) L (.lst [.ref ra, .ref t])) r rs ∧ GoodRun rs := by
        intro x hx
        simp only [List.mem_cons, List.not_mem_nil, or_false] at hx
        rcases hx with rfl | rfl
        · exact ⟨ra, rs1, rfl, R1.tst ((e4.tst hs3).trans (Tst.of sA)), G1⟩
        · refine ⟨t, [nm], rfl, ⟨[ma], (Same.upd hL).sqT (SqT.of upd_same), rfl, fun i c e => ?_⟩, by simp, by simp, fun r hr => by rw [List.mem_singleton.mp hr]; exact gm⟩
          cases i with
          | zero => cases e; exact sA.sqT qm
          | succ j => cases e
      have smL : ∀ H', Ext st (upd (upd H4 t (.tup [.ref ma])) L (.lst [.ref ra, .ref t])) H' → Same H H' := fun H' e' c o hc => by
        have h1 := sm c o hc
        have nc : c ≠ st := fun z => by rw [z, hst] at h1; cases h1
        exact e' _ _ (sA _ _ (e4 _ _ (e3 _ _ (s2 _ _ h1) nc) nc)) nc
      generalize upd (upd H4 t (.tup [.ref ma])) L (.lst [.ref ra, .ref t]) = H5 at *
      refine for_list (xs := [.ref ra, .ref t]) (fun i' σ H' => (∃ y3 y4 y5 y6 : Option V, σ = [some (.ref a), some (.int (0 + (i : Int))), some (.ref st), y3, y4, y5, y6]) ∧ StOk H' st ∧ Ext st H5 H') ⟨⟨_, _, _, _, rfl⟩, hsL, Ext.refl _ _⟩ (fun i' σ H' _ q => SqL.of (q.2.2 _ _ qL nL)) ?_ ?_
      · rintro i' x σ H6 hx ⟨⟨y3, y4, y5, y6, rfl⟩, hs6, e6⟩
        obtain ⟨r, rs, rfl, R5, GRn⟩ := runs x (List.mem_of_getElem? hx)
        have R6 := R5.tst (e6.tst hsL)
        refine ⟨_, rfl, r, rs, rfl, R6, GRn, fun H7 b Tb s7 tT lT rT => ?_⟩
        have hs7 := hs6.same s7
        have R7 := R6.tst (Tst.of s7)
        have l1 := GRn.1
        have l2 := GRn.2.1
        refine ⟨_, rfl, _, rfl, st, rfl, hs7, fun od ov H8 hod dod hs8 e8 => ⟨(by show 2 ≤ sizeLine; decide), fun L2 hL2 => ?_⟩⟩
        have sL2 := Same.upd (o := .lst [.ref b, ov]) hL2
        have nL2 := hs8.ne hL2
        have qL2 : upd H8 L2 (.lst [.ref b, ov]) L2 = some (.lst [.ref b, ov]) := upd_same
        have dod9 := (dod (fun a => a = st) rfl (fun c hc => by have e : c = st := hc; subst e; exact hs7.some)).stay (sL2.stay (K := K))
        have T9 := (tT.tst (e8.tst hs7)).tst (Tst.of sL2)
        have R9 := (R7.tst (e8.tst hs7)).tst (Tst.of sL2)
        have hs9 := hs8.same sL2
        have e9 : Ext st H5 (upd H8 L2 (.lst [.ref b, ov])) := ((e6.trans (Ext.of s7)).trans e8).trans (Ext.of sL2)
        generalize upd H8 L2 (.lst [.ref b, ov]) = H9 at *
        refine ⟨10, rfl, by decide, by decide, ?_⟩
        refine cw_range (lo := 0) (n := 10) (fun j acc H' => StOk H' st ∧ Ext st H9 H' ∧ ∃ ds, DVs K (fun a => a = st) H' ds acc ∧ ds.length = j ∧ ∀ d ∈ ds, Thing d) ⟨hs9, Ext.refl _ _, [], rfl, rfl, by simp⟩ (fun j acc H' hj q => ?_) (fun j acc H' hj q => ?_) (fun acc H' q D hD => ?_)
        · obtain ⟨_, _, ds, d1, d2, _⟩ := q
          have := d1.length
          omega
        · obtain ⟨q1, q2, ds, d1, d2, d3⟩ := q
          refine ⟨_, rfl, _, rfl, st, b, Tb, rfl, q1, T9.tst (q2.tst hs9), by omega, by omega, rT, fun v d H'' g1 g2 g3 g4 => ⟨g1, q2.trans g2, ds ++ [d], ?_, by simp [d2], fun x hx => ?_⟩⟩
          · exact (d1.stay (g2.stay (Z := fun a => a = st) q1 rfl)).append ⟨v, [], rfl, g3, rfl⟩
          · rcases List.mem_append.mp hx with z | z
            · exact d3 x z
            · rw [List.mem_singleton.mp z]; exact pap_thing g4
        · obtain ⟨q1, q2, ds, d1, d2, d3⟩ := q
          have sD := Same.upd (o := .lst acc) hD
          have la := d1.length
          refine ⟨L2, D, [.ref b, ov], acc, rfl, rfl, sD _ _ (q2 _ _ qL2 nL2), upd_same, by simp only [List.length_cons, List.length_nil]; omega, fun p hp => ⟨p, rfl, ⟨_, SqL.of upd_same⟩, ?_⟩⟩
          have sp := sD.trans (Same.upd (o := .lst ([.ref b, ov] ++ acc)) hp)
          have qp : upd (upd H' D (.lst acc)) p (.lst ([.ref b, ov] ++ acc)) p = some (.lst ([.ref b, ov] ++ acc)) := upd_same
          generalize upd (upd H' D (.lst acc)) p (.lst ([.ref b, ov] ++ acc)) = HP at *
          have hsP := q1.same sp
          have eP : Ext st H9 HP := q2.trans (Ext.of sp)
          have RP := R9.tst (eP.tst hs9)
          have TP := T9.tst (eP.tst hs9)
          have dAll : DVs K (fun a => a = st) HP ([tabD Tb, od] ++ ds) ([.ref b, ov] ++ acc) := DVs.append (show DVs K (fun a => a = st) HP [tabD Tb, od] [.ref b, ov] from ⟨_, _, rfl, TP.dv, _, _, rfl, dod9.stay (eP.stay (Z := fun a => a = st) hs9 rfl), rfl⟩) (d1.stay sp.stay)
          have thAll : ∀ d ∈ [tabD Tb, od] ++ ds, Thing d := by
            intro d hd
            rcases List.mem_append.mp hd with z | z
            · simp only [List.mem_cons, List.not_mem_nil, or_false] at z
              rcases z with e | e
              · rw [e]; exact pap_thing (tab_pap rT (by omega))
              · rw [e]; exact odd_thing hod
            · exact d3 d z
          refine for_list (xs := [.ref b, ov] ++ acc) (fun j σ H' => (∃ y5 y6 : Option V, σ = [some (.ref a), some (.int (0 + (i : Int))), some (.ref st), some (.ref r), some (.ref b), y5, y6]) ∧ Same HP H') ⟨⟨_, _, rfl⟩, Same.refl _⟩ (fun j σ H' _ q => SqL.of (q.2 _ _ qp)) ?_ ?_
          · rintro j x σ HQ hx ⟨⟨y5, y6, rfl⟩, sQ⟩
            obtain ⟨d, ed, dv⟩ := dAll.get j x hx
            have th := thAll d (List.mem_of_getElem? ed)
            obtain ⟨z1, z2, z3, z4⟩ := pair_repr GRn th
            have pr : ∀ {H1 H2 : Hp} {q : Addr}, Same HP H1 → SqT K H1 q [.ref r, x] → DV K (fun a => a = st) H1 (.tuple [runD rs, d]) (.ref q) := fun {H1 H2 q} s1 hq => by
              simp only [DV]
              exact ⟨q, _, rfl, hq, _, _, rfl, (RP.tst (Tst.of s1)).dv, _, _, rfl, dv.stay s1.stay, rfl⟩
            refine ⟨_, rfl, _, rfl, (by show 2 ≤ sizeLine; decide), fun q hq => ?_⟩
            have s1 := sQ.trans (Same.upd (o := .tup [.ref r, x]) hq)
            refine ⟨.ref q, _, _, rfl, pr (H2 := HQ) s1 (SqT.of upd_same), z1, z2, z3, z4, ?_⟩
            refine ⟨_, rfl, _, rfl, _, r, d, x, rs, rfl, RP.tst (Tst.of s1), GRn, dv.stay s1.stay, fun HR sR => ?_⟩
            have s2' := s1.trans sR
            refine ⟨_, rfl, _, rfl, _, r, d, x, rs, rfl, RP.tst (Tst.of s2'), GRn, dv.stay s2'.stay, fun HT sT => ?_⟩
            have s3' := s2'.trans sT
            refine ⟨_, _, rfl, fun HU sU => ⟨_, rfl, ?_⟩⟩
            have s4' := s3'.trans sU
            rw [beq_self_eq_true]
            refine iteF ⟨_, rfl, _, rfl, (by show 2 ≤ sizeLine; decide), fun q2' hq2 => ?_⟩
            have s5' := s4'.trans (Same.upd (o := .tup [.ref r, x]) hq2)
            refine ⟨.ref q2', _, _, rfl, pr (H2 := HQ) s5' (SqT.of upd_same), z1, z2, z3, z4, ?_⟩
            refine ⟨_, rfl, rfl, _, rfl, ?_⟩
            rw [decide_eq_true rfl]
            exact iteF ⟨⟨_, _, rfl⟩, s5'⟩
          · rintro σ HQ ⟨⟨y5, y6, rfl⟩, sQ⟩
            exact ⟨⟨_, _, _, _, rfl⟩, hsP.same sQ, (e9.trans eP).trans (Ext.of sQ)⟩
      · rintro σ H6 ⟨⟨y3, y4, y5, y6, rfl⟩, hs6, e6⟩
        exact ⟨_, _, _, _, _, _, rfl, smL _ e6⟩
    · rintro σ H1 ⟨x1, x2, x3, x4, x5, x6, rfl, sm⟩
      exact k _
end
end TM

set_option Elab.async false
set_option linter.all false
set_option maxRecDepth 100000
set_option maxHeartbeats 4000000
namespace TM
open PySem L2
def Df (K : PySem.W.Frag) (x : Str) (st : Stmt) : Prop := ∃ (f : Addr) (oc : Value) (od : Option Addr) (sl : Array (Option Value)) (kV dc pm : Value) (an : Option Addr) (cd ct : Value), PySem.W.nsIn K mainGlobals x = some (some (.ref f)) ∧ K.lookup f = some ⟨oc, od, .func (PySem.W.fnOf x x (defArgs st) (defBody st) (defScope st) .none kV dc pm an cd ct), sl⟩ ∧ PySem.W.codeIn K cd x = true ∧ PySem.W.keepIn K (.ref f) = true
theorem df_mk {K : PySem.W.Frag} {x : Str} {st : Stmt} {f : Addr} {oc : Value} {od : Option Addr} {sl : Array (Option Value)} {kV dc pm : Value} {an : Option Addr} {cd ct : Value} (a : PySem.W.nsIn K mainGlobals x = some (some (.ref f))) (l : K.lookup f = some ⟨oc, od, .func (PySem.W.fnOf x x (defArgs st) (defBody st) (defScope st) .none kV dc pm an cd ct), sl⟩) (c : PySem.W.codeIn K cd x = true) (k : PySem.W.keepIn K (.ref f) = true) : Df K x st := ⟨f, oc, od, sl, kV, dc, pm, an, cd, ct, a, l, c, k⟩
theorem gi_mk {K : PySem.W.Frag} {x : Str} {i : Int} {t : Tok} (e : PySem.W.nsIn K mainGlobals x = some (some (.int i t))) : ∃ t, PySem.W.nsIn K mainGlobals x = some (some (.int i t)) := ⟨t, e⟩
theorem gd_of {K : PySem.W.Frag} {h : Heap} {mg : Str → Option Value} {x : Str} {st : Stmt} {ps : List Str} (X : K.In h) (G : h.Ns mainGlobals mg) (D : Df K x st) (hb : ∀ (kV doc pm : Value) (an : Option Addr) (cdv ct : Value) (us : List Value), us.length = ps.length → bindArgs (PySem.W.fnOf x x (defArgs st) (defBody st) (defScope st) .none kV doc pm an cdv ct) ⟨us, []⟩ = pure (ps.zip us)) : ∃ f fd, Gd K mg x st ps f fd := by
  obtain ⟨f, oc, od, sl, kV, dc, pm, an, cd, ct, a, l, c, k⟩ := D
  have F := fun_mk (st := st) l c k
  exact ⟨f, _, PySem.W.mg_of X G a, F, F.binds hb⟩
theorem all_mk {P : Program} {w : World} {K : PySem.W.Frag} {h : Heap} {mg : Str → Option Value} {fa : Addr} (X : K.In h) (G : h.Ns mainGlobals mg) (hfa : mg "law" = some (.ref fa))
    (d0 : Df K "is_number" sNumber)
    (d1 : Df K "is_below" sBelow)
    (d2 : Df K "is_mark" sMark)
    (d3 : Df K "is_rising" sRise)
    (d4 : Df K "are_marks" sMarks)
    (d5 : Df K "has_all" sHas)
    (d6 : Df K "are_laid_marks" sLaid)
    (d7 : Df K "need_run" sNeed)
    (d8 : Df K "ways_on" sWays)
    (d9 : Df K "bounds_at" sBounds)
    (d10 : Df K "are_numbers" sNums)
    (d11 : Df K "is_table" sTable)
    (d12 : Df K "may_stand" sMay)
    (d13 : Df K "is_proved" sProved)
    (d14 : Df K "_law_has" sLHas)
    (d15 : Df K "_law_stand_good" sLStand)
    (d16 : Df K "_law_row_good" sLRow)
    (d17 : Df K "is_paper" sPaper)
    (d18 : Df K "paper_of" sOf)
    (d19 : Df K "_law_cell_at" sCell)
    (d20 : Df K "_law_state" sState)
    (d21 : Df K "_law_take" sTake)
    (d22 : Df K "_law_same" sSame)
    (d23 : Df K "_law_odd" sOdd)
    (d24 : Df K "_law_marks" sLMarks)
    (d25 : Df K "_law_run" sLRun)
    (d26 : Df K "_law_bent" sLBent)
    (d27 : Df K "_law_good" sLGood)
    (dl : Df K "law" sLaw)
    (i_MARKS : ∃ t, PySem.W.nsIn K mainGlobals "MARKS" = some (some (.int (8) t)))
    (i_RUN : ∃ t, PySem.W.nsIn K mainGlobals "RUN" = some (some (.int (10) t)))
    (i_NO_OTHER : ∃ t, PySem.W.nsIn K mainGlobals "NO_OTHER" = some (some (.int (-1) t)))
    (z_isinstance : PySem.W.nsIn K mainGlobals "isinstance" = some none)
    (z_int : PySem.W.nsIn K mainGlobals "int" = some none)
    (z_bool : PySem.W.nsIn K mainGlobals "bool" = some none)
    (z_tuple : PySem.W.nsIn K mainGlobals "tuple" = some none)
    (z_list : PySem.W.nsIn K mainGlobals "list" = some none)
    (z_str : PySem.W.nsIn K mainGlobals "str" = some none)
    (z_all : PySem.W.nsIn K mainGlobals "all" = some none)
    (z_any : PySem.W.nsIn K mainGlobals "any" = some none)
    (z_zip : PySem.W.nsIn K mainGlobals "zip" = some none)
    (z_len : PySem.W.nsIn K mainGlobals "len" = some none)
    (z_range : PySem.W.nsIn K mainGlobals "range" = some none)
    (z_repr : PySem.W.nsIn K mainGlobals "repr" = some none)
    (z_set : PySem.W.nsIn K mainGlobals "set" = some none)
    (z_max : PySem.W.nsIn K mainGlobals "max" = some none)
    (z_min : PySem.W.nsIn K mainGlobals "min" = some none)
    (z_enumerate : PySem.W.nsIn K mainGlobals "enumerate" = some none)
    (z_reversed : PySem.W.nsIn K mainGlobals "reversed" = some none)
    (z_sorted : PySem.W.nsIn K mainGlobals "sorted" = some none)
    : ∃ fd : FuncData, (∀ (s : Shared) (v : Value), BindsTo s fd ⟨[v], []⟩ [("_law_script", v)]) ∧ ∀ base : Heap, K.In base → base.Ns mainGlobals mg → FnOk P w K mg base CX0 8 fa fd ["_law_script"] (spLaw K) := by
  have g0 := gd_of (ps := ["thing"]) X G d0 fun _ _ _ _ _ _ us hl => match us, hl with | [_], _ => rfl
  have g1 := gd_of (ps := ["thing", "many"]) X G d1 fun _ _ _ _ _ _ us hl => match us, hl with | [_, _], _ => rfl
  have g2 := gd_of (ps := ["thing"]) X G d2 fun _ _ _ _ _ _ us hl => match us, hl with | [_], _ => rfl
  have g3 := gd_of (ps := ["things"]) X G d3 fun _ _ _ _ _ _ us hl => match us, hl with | [_], _ => rfl
  have g4 := gd_of (ps := ["thing"]) X G d4 fun _ _ _ _ _ _ us hl => match us, hl with | [_], _ => rfl
  have g5 := gd_of (ps := ["marks", "others"]) X G d5 fun _ _ _ _ _ _ us hl => match us, hl with | [_, _], _ => rfl
  have g6 := gd_of (ps := ["thing", "most"]) X G d6 fun _ _ _ _ _ _ us hl => match us, hl with | [_, _], _ => rfl
  have g7 := gd_of (ps := ["thing"]) X G d7 fun _ _ _ _ _ _ us hl => match us, hl with | [_], _ => rfl
  have g8 := gd_of (ps := ["run", "place", "other"]) X G d8 fun _ _ _ _ _ _ us hl => match us, hl with | [_, _, _], _ => rfl
  have g9 := gd_of (ps := ["run", "place", "other", "after"]) X G d9 fun _ _ _ _ _ _ us hl => match us, hl with | [_, _, _, _], _ => rfl
  have g10 := gd_of (ps := ["thing", "many"]) X G d10 fun _ _ _ _ _ _ us hl => match us, hl with | [_, _], _ => rfl
  have g11 := gd_of (ps := ["run", "thing"]) X G d11 fun _ _ _ _ _ _ us hl => match us, hl with | [_, _], _ => rfl
  have g12 := gd_of (ps := ["number", "bounds"]) X G d12 fun _ _ _ _ _ _ us hl => match us, hl with | [_, _], _ => rfl
  have g13 := gd_of (ps := ["run", "table", "place"]) X G d13 fun _ _ _ _ _ _ us hl => match us, hl with | [_, _, _], _ => rfl
  have g14 := gd_of (ps := ["_law_marks_here", "_law_other"]) X G d14 fun _ _ _ _ _ _ us hl => match us, hl with | [_, _], _ => rfl
  have g15 := gd_of (ps := ["_law_run_here", "_law_thing", "_law_place", "_law_other"]) X G d15 fun _ _ _ _ _ _ us hl => match us, hl with | [_, _, _, _], _ => rfl
  have g16 := gd_of (ps := ["_law_run_here", "_law_thing", "_law_place"]) X G d16 fun _ _ _ _ _ _ us hl => match us, hl with | [_, _, _], _ => rfl
  have g17 := gd_of (ps := ["run", "thing"]) X G d17 fun _ _ _ _ _ _ us hl => match us, hl with | [_, _], _ => rfl
  have g18 := gd_of (ps := ["run"]) X G d18 fun _ _ _ _ _ _ us hl => match us, hl with | [_], _ => rfl
  have g19 := gd_of (ps := ["_law_script", "_law_k"]) X G d19 fun _ _ _ _ _ _ us hl => match us, hl with | [_, _], _ => rfl
  have g20 := gd_of (ps := ["_law_script", "_law_k"]) X G d20 fun _ _ _ _ _ _ us hl => match us, hl with | [_, _], _ => rfl
  have g21 := gd_of (ps := ["_law_state_here", "_law_many"]) X G d21 fun _ _ _ _ _ _ us hl => match us, hl with | [_, _], _ => rfl
  have g22 := gd_of (ps := ["_law_found", "_law_due"]) X G d22 fun _ _ _ _ _ _ us hl => match us, hl with | [_, _], _ => rfl
  have g23 := gd_of (ps := ["_law_state_here"]) X G d23 fun _ _ _ _ _ _ us hl => match us, hl with | [_], _ => rfl
  have g24 := gd_of (ps := ["_law_state_here", "_law_most"]) X G d24 fun _ _ _ _ _ _ us hl => match us, hl with | [_, _], _ => rfl
  have g25 := gd_of (ps := ["_law_state_here"]) X G d25 fun _ _ _ _ _ _ us hl => match us, hl with | [_], _ => rfl
  have g26 := gd_of (ps := ["_law_state_here", "_law_paper"]) X G d26 fun _ _ _ _ _ _ us hl => match us, hl with | [_, _], _ => rfl
  have g27 := gd_of (ps := ["_law_run_here", "_law_thing"]) X G d27 fun _ _ _ _ _ _ us hl => match us, hl with | [_, _], _ => rfl
  have gi_MARKS : GlobI mg "MARKS" (8) := by obtain ⟨t, e⟩ := i_MARKS; exact ⟨t, PySem.W.mg_of X G e⟩
  have gi_RUN : GlobI mg "RUN" (10) := by obtain ⟨t, e⟩ := i_RUN; exact ⟨t, PySem.W.mg_of X G e⟩
  have gi_NO_OTHER : GlobI mg "NO_OTHER" (-1) := by obtain ⟨t, e⟩ := i_NO_OTHER; exact ⟨t, PySem.W.mg_of X G e⟩
  have T : Blt mg := ⟨PySem.W.mg_none_of X G z_isinstance, PySem.W.mg_none_of X G z_int, PySem.W.mg_none_of X G z_bool, PySem.W.mg_none_of X G z_tuple, PySem.W.mg_none_of X G z_list, PySem.W.mg_none_of X G z_str, PySem.W.mg_none_of X G z_all, PySem.W.mg_none_of X G z_any, PySem.W.mg_none_of X G z_zip, PySem.W.mg_none_of X G z_len, PySem.W.mg_none_of X G z_range, PySem.W.mg_none_of X G z_repr, PySem.W.mg_none_of X G z_set, PySem.W.mg_none_of X G z_max, PySem.W.mg_none_of X G z_min, PySem.W.mg_none_of X G z_enumerate, PySem.W.mg_none_of X G z_reversed, PySem.W.mg_none_of X G z_sorted⟩
  obtain ⟨f, oc, od, sl, kV, dc, pm, an, cd, ct, a, l, c, k⟩ := dl
  have e := hfa.symm.trans (PySem.W.mg_of X G a)
  cases e
  have F := fun_mk (st := sLaw) l c k
  have GL : Gd K mg "law" sLaw ["_law_script"] _ _ := ⟨PySem.W.mg_of X G a, F, F.binds fun _ _ _ _ _ _ us hl => match us, hl with | [_], _ => rfl⟩
  exact ⟨_, fun s v => .of_eq rfl, fun base _ _ => ok_law ⟨⟨⟨⟨T, gi_MARKS, (by obtain ⟨f, fd, g⟩ := g1; exact ⟨f, fd, g, g0⟩), g2, g3, g4⟩, gi_RUN, gi_NO_OTHER, g5, g6, g7, g8, g9⟩, g0, g10, g11, g12, g13⟩, ⟨T, g14, g15, g16⟩, g17, g18, g19, g20, g21, g22, g23, g24, g25, g26, g27⟩ GL⟩
theorem walk {l : PySem.W.OpenLaw} {q : Program} {loose : List Str} {XP : (Str → Option Value) → Heap → Prop} {YP : World → Heap → Prop} {d : DefRec} {K : Params → PySem.W.Frag} (hn : l.most = some 63) (hdf : d.params.defaults = [])
    (hY : ∀ (w : World) (h : Heap), YP w h → (K w.params).In h)
    (F : ∀ (w : World) (mg : Str → Option Value) (fa : Addr) (h : Heap), (K w.params).In h → h.Ns mainGlobals mg → mg d.name = some (.ref fa) →
      ∃ fd : FuncData, (∀ (s : Shared) (u : Value), BindsTo s fd ⟨[u], []⟩ [("_law_script", u)]) ∧ ∀ base : Heap, (K w.params).In base → base.Ns mainGlobals mg → FnOk l.prog w (K w.params) mg base CX0 8 fa fd ["_law_script"] (spLaw (K w.params))) :
    PySem.W.WalkO q loose XP YP l.row.toRowW d [] (fun f vs => PySem.call f vs) :=
  L2.walk_of (n := 63) (k := 8) (x := "_law_script") (CX := fun _ => CX0) (sp := fun w => spLaw (K w.params)) hn (by decide) hdf ⟨rfl, by decide, by decide, rfl⟩ hY F (fun _ _ a ns hl _ hS => ⟨a, ns, rfl, hS, hl, fun _ => rfl⟩) fun _ _ _ _ _ z => z
end TM
open PySem PySem.W PyProof.Rows
set_option maxRecDepth 100000 in
set_option maxHeartbeats 0 in
theorem PySem.Challenge.cw_twinmoulds_k12_papers_of_runs_looked_at_holds : PySem.Challenge.rw_twinmoulds_k12_papers_of_runs_looked_at.Holds := by
  w_on; o_law; k_head; (case hw => w_witness2)
  k_fill
  refine TM.walk (l := PySem.Challenge.rw_twinmoulds_k12_papers_of_runs_looked_at) rfl rfl (fun w h Y => PySem.W.kIn_of Y) ?F
  case F =>
    intro w mg fa h KX G hmg
    refine' TM.all_mk KX G hmg ?d0 ?d1 ?d2 ?d3 ?d4 ?d5 ?d6 ?d7 ?d8 ?d9 ?d10 ?d11 ?d12 ?d13 ?d14 ?d15 ?d16 ?d17 ?d18 ?d19 ?d20 ?d21 ?d22 ?d23 ?d24 ?d25 ?d26 ?d27 ?dl ?i_MARKS ?i_RUN ?i_NO_OTHER ?z_isinstance ?z_int ?z_bool ?z_tuple ?z_list ?z_str ?z_all ?z_any ?z_zip ?z_len ?z_range ?z_repr ?z_set ?z_max ?z_min ?z_enumerate ?z_reversed ?z_sorted
    (case d0 => refine' TM.df_mk ?a ?l ?c ?k; (case a => k_is); (case l => k_is); (case c => k_is); (case k => k_is))
    (case d1 => refine' TM.df_mk ?a ?l ?c ?k; (case a => k_is); (case l => k_is); (case c => k_is); (case k => k_is))
    (case d2 => refine' TM.df_mk ?a ?l ?c ?k; (case a => k_is); (case l => k_is); (case c => k_is); (case k => k_is))
    (case d3 => refine' TM.df_mk ?a ?l ?c ?k; (case a => k_is); (case l => k_is); (case c => k_is); (case k => k_is))
    (case d4 => refine' TM.df_mk ?a ?l ?c ?k; (case a => k_is); (case l => k_is); (case c => k_is); (case k => k_is))
    (case d5 => refine' TM.df_mk ?a ?l ?c ?k; (case a => k_is); (case l => k_is); (case c => k_is); (case k => k_is))
    (case d6 => refine' TM.df_mk ?a ?l ?c ?k; (case a => k_is); (case l => k_is); (case c => k_is); (case k => k_is))
    (case d7 => refine' TM.df_mk ?a ?l ?c ?k; (case a => k_is); (case l => k_is); (case c => k_is); (case k => k_is))
    (case d8 => refine' TM.df_mk ?a ?l ?c ?k; (case a => k_is); (case l => k_is); (case c => k_is); (case k => k_is))
    (case d9 => refine' TM.df_mk ?a ?l ?c ?k; (case a => k_is); (case l => k_is); (case c => k_is); (case k => k_is))
    (case d10 => refine' TM.df_mk ?a ?l ?c ?k; (case a => k_is); (case l => k_is); (case c => k_is); (case k => k_is))
    (case d11 => refine' TM.df_mk ?a ?l ?c ?k; (case a => k_is); (case l => k_is); (case c => k_is); (case k => k_is))
    (case d12 => refine' TM.df_mk ?a ?l ?c ?k; (case a => k_is); (case l => k_is); (case c => k_is); (case k => k_is))
    (case d13 => refine' TM.df_mk ?a ?l ?c ?k; (case a => k_is); (case l => k_is); (case c => k_is); (case k => k_is))
    (case d14 => refine' TM.df_mk ?a ?l ?c ?k; (case a => k_is); (case l => k_is); (case c => k_is); (case k => k_is))
    (case d15 => refine' TM.df_mk ?a ?l ?c ?k; (case a => k_is); (case l => k_is); (case c => k_is); (case k => k_is))
    (case d16 => refine' TM.df_mk ?a ?l ?c ?k; (case a => k_is); (case l => k_is); (case c => k_is); (case k => k_is))
    (case d17 => refine' TM.df_mk ?a ?l ?c ?k; (case a => k_is); (case l => k_is); (case c => k_is); (case k => k_is))
    (case d18 => refine' TM.df_mk ?a ?l ?c ?k; (case a => k_is); (case l => k_is); (case c => k_is); (case k => k_is))
    (case d19 => refine' TM.df_mk ?a ?l ?c ?k; (case a => k_is); (case l => k_is); (case c => k_is); (case k => k_is))
    (case d20 => refine' TM.df_mk ?a ?l ?c ?k; (case a => k_is); (case l => k_is); (case c => k_is); (case k => k_is))
    (case d21 => refine' TM.df_mk ?a ?l ?c ?k; (case a => k_is); (case l => k_is); (case c => k_is); (case k => k_is))
    (case d22 => refine' TM.df_mk ?a ?l ?c ?k; (case a => k_is); (case l => k_is); (case c => k_is); (case k => k_is))
    (case d23 => refine' TM.df_mk ?a ?l ?c ?k; (case a => k_is); (case l => k_is); (case c => k_is); (case k => k_is))
    (case d24 => refine' TM.df_mk ?a ?l ?c ?k; (case a => k_is); (case l => k_is); (case c => k_is); (case k => k_is))
    (case d25 => refine' TM.df_mk ?a ?l ?c ?k; (case a => k_is); (case l => k_is); (case c => k_is); (case k => k_is))
    (case d26 => refine' TM.df_mk ?a ?l ?c ?k; (case a => k_is); (case l => k_is); (case c => k_is); (case k => k_is))
    (case d27 => refine' TM.df_mk ?a ?l ?c ?k; (case a => k_is); (case l => k_is); (case c => k_is); (case k => k_is))
    (case dl => refine' TM.df_mk ?a ?l ?c ?k; (case a => k_is); (case l => k_is); (case c => k_is); (case k => k_is))
    (case i_MARKS => refine' TM.gi_mk ?e; (case e => k_is))
    (case i_RUN => refine' TM.gi_mk ?e; (case e => k_is))
    (case i_NO_OTHER => refine' TM.gi_mk ?e; (case e => k_is))
    (case z_isinstance => k_is)
    (case z_int => k_is)
    (case z_bool => k_is)
    (case z_tuple => k_is)
    (case z_list => k_is)
    (case z_str => k_is)
    (case z_all => k_is)
    (case z_any => k_is)
    (case z_zip => k_is)
    (case z_len => k_is)
    (case z_range => k_is)
    (case z_repr => k_is)
    (case z_set => k_is)
    (case z_max => k_is)
    (case z_min => k_is)
    (case z_enumerate => k_is)
    (case z_reversed => k_is)
    (case z_sorted => k_is)

