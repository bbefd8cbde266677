import PyProof.Rows.All
import Wide.All
import OpenK.AllK
import Wide.FinOn
import Lean
import PyProof.EqAt
import PyProof.EqKinds
import PyProof.TupleCall
import PyProof.NeData
import PyProof.P3In
import PyProof.FactsAll.set
import PyProof.CollectWalk
import PyProof.FactsAll.range
import PyProof.MinMaxWalk
import KE.KMinKey
import PyProof.WalkInts
import PyProof.Rows.CallKwBuiltin
import PySem.Challenge.RW_twinmoulds_k11_fewest_breaks
set_option Elab.async false
set_option linter.all false
set_option maxRecDepth 100000
namespace L2
open PySem PySem.Spec PyProof.Rows
abbrev Key := Sum Int Str
def keyIs : Key → Value → Bool
  | .inl k, v => Value.isInt k v
  | .inr x, v => Value.isStrOf x v
def keyH (w : World) : Key → Int
  | .inl k => hashInt k
  | .inr x => hashStr w x
theorem keyIs_shape : ∀ {k : Key} {v : Value}, keyIs k v = true → (∃ i t, k = Sum.inl i ∧ v = Value.int i t) ∨ (∃ x t, k = Sum.inr x ∧ v = Value.str x t)
  | .inl i, v, h => by
    obtain ⟨t, e⟩ := Value.isInt_shape (k := i) (v := v) h
    exact .inl ⟨i, t, rfl, e⟩
  | .inr x, v, h => by
    obtain ⟨t, e⟩ := Value.isStrOf_shape (x := x) (v := v) h
    exact .inr ⟨x, t, rfl, e⟩
theorem key_ll (a b : Int) : decide ((Sum.inl a : Key) = Sum.inl b) = (a == b) := by
  by_cases e : a = b
  · subst e; simp
  · have h : ¬ (Sum.inl a : Key) = Sum.inl b := fun q => e (Sum.inl.inj q)
    rw [decide_eq_false h]
    exact (beq_eq_false_iff_ne.mpr e).symm
theorem key_rr (a b : Str) : decide ((Sum.inr a : Key) = Sum.inr b) = decide (a = b) := by
  by_cases e : a = b
  · subst e; simp
  · have h : ¬ (Sum.inr a : Key) = Sum.inr b := fun q => e (Sum.inr.inj q)
    rw [decide_eq_false h, decide_eq_false e]
theorem key_lr (a : Int) (b : Str) : decide ((Sum.inl a : Key) = Sum.inr b) = false := decide_eq_false (fun q => nomatch q)
theorem key_rl (a : Str) (b : Int) : decide ((Sum.inr a : Key) = Sum.inl b) = false := decide_eq_false (fun q => nomatch q)
def mixKind (prog : Program) (w : World) : PySem.KeyKind prog w Key where
  is := keyIs
  hash := keyH w
  inj := fun v a b ha hb => by
    rcases keyIs_shape ha with ⟨i, t, rfl, rfl⟩ | ⟨x, t, rfl, rfl⟩
    · rcases keyIs_shape hb with ⟨j, u, rfl, e⟩ | ⟨y, u, rfl, e⟩
      · injection e with e1 _; rw [e1]
      · exact nomatch e
    · rcases keyIs_shape hb with ⟨j, u, rfl, e⟩ | ⟨y, u, rfl, e⟩
      · exact nomatch e
      · injection e with e1 _; rw [e1]
  byValue := fun k v h => by
    rcases keyIs_shape h with ⟨i, t, rfl, rfl⟩ | ⟨x, t, rfl, rfl⟩ <;> rfl
  pyHash := fun hv h => by
    rcases keyIs_shape hv with ⟨i, t, rfl, rfl⟩ | ⟨x, t, rfl, rfl⟩
    · exact wpAny_pyHash_int h
    · exact wpAny_pyHash_str h
  eqBool := fun hu hv h => by
    rcases keyIs_shape hu with ⟨i, t, rfl, rfl⟩ | ⟨x, t, rfl, rfl⟩
    · rcases keyIs_shape hv with ⟨j, u, rfl, rfl⟩ | ⟨y, u, rfl, rfl⟩
      · rw [key_ll] at h; exact wpAny_eqBool_int h
      · rw [key_lr] at h; exact SeqAt.EqAt.int_str i t y u _ _ _ _ h
    · rcases keyIs_shape hv with ⟨j, u, rfl, rfl⟩ | ⟨y, u, rfl, rfl⟩
      · rw [key_rl] at h; exact SeqAt.EqAt.str_int x t j u _ _ _ _ h
      · rw [key_rr] at h; exact wpAny_eqBool_str h
  «strs» := fun k x t v h => by
    rcases keyIs_shape h with ⟨i, u, rfl, e⟩ | ⟨y, u, rfl, e⟩
    · exact nomatch e
    · injection e with e1 _
      subst e1
      cases v <;> rfl
end L2
namespace L2
open PySem PySem.Spec PyProof.Rows
inductive V where
  | non | bl (b : Bool) | int (i : Int) | str (x : Str) | byt (b : Array UInt8) | flt (b : UInt64) | ref (a : Addr) | ty (n : String)
  deriving DecidableEq
def RelV : V → Value → Prop
  | .non, u => u = Value.none
  | .bl b, u => u = Value.bool b
  | .int i, u => ∃ t, u = Value.int i t
  | .str x, u => ∃ t, u = Value.str x t
  | .byt b, u => ∃ t, u = Value.bytes b t
  | .flt b, u => ∃ t, u = Value.float b t
  | .ref a, u => u = Value.ref a
  | .ty n, u => u = Value.type n
abbrev Vals : List V → List Value → Prop := Paired RelV
theorem Vals.length {xs : List V} {us : List Value} (r : Vals xs us) : xs.length = us.length := Paired.length r
theorem Vals.get : ∀ {xs : List V} {us : List Value} {i : Nat} {x : V}, Vals xs us → xs[i]? = some x → ∃ u, us[i]? = some u ∧ RelV x u
  | _, _, _, _, .nil, e => by simp at e
  | _, _, 0, _, .cons r _, e => by simp at e; subst e; exact ⟨_, rfl, r⟩
  | _, _, i + 1, x, .cons _ t, e => by
    obtain ⟨u, h1, h2⟩ := Vals.get (i := i) (x := x) t (by simpa using e)
    exact ⟨u, by simpa using h1, h2⟩
theorem Vals.set {x : V} {u : Value} (r : RelV x u) : ∀ {xs : List V} {us : List Value} (i : Nat), Vals xs us → Vals (xs.set i x) (us.set i u)
  | _, _, _, .nil => .nil
  | _, _, 0, .cons _ t => .cons r t
  | _, _, i + 1, .cons q t => .cons q (Vals.set r i t)
theorem Vals.append : ∀ {xs ys : List V} {us ws : List Value}, Vals xs us → Vals ys ws → Vals (xs ++ ys) (us ++ ws)
  | _, _, _, _, .nil, s => s
  | _, _, _, _, .cons r t, s => .cons r (Vals.append t s)
theorem Vals.take : ∀ {xs : List V} {us : List Value} (n : Nat), Vals xs us → Vals (xs.take n) (us.take n)
  | _, _, 0, _ => .nil
  | _, _, _ + 1, .nil => .nil
  | _, _, n + 1, .cons r t => .cons r (Vals.take n t)
theorem Vals.drop : ∀ {xs : List V} {us : List Value} (n : Nat), Vals xs us → Vals (xs.drop n) (us.drop n)
  | _, _, 0, r => r
  | _, _, _ + 1, .nil => .nil
  | _, _, n + 1, .cons _ t => Vals.drop n t
def RelO : Option V → Option Value → Prop
  | some v, some u => RelV v u
  | none, none => True
  | _, _ => False
def KV {κ : Type} : List (κ × V) → List (κ × Value) → Prop := Paired fun (p : κ × V) (q : κ × Value) => p.1 = q.1 ∧ RelV p.2 q.2
def kV : Key → V
  | .inl i => .int i
  | .inr x => .str x
inductive HO where
  | lst (xs : List V)
  | tup (xs : List V)
  | dK (kvs : List (Key × V)) | dT (kvs : List (List Key × V))
  | set (S : Int → Bool) (n : Nat)
  | ins (C dx : Addr) (fs : List (Str × V))
  | own (x : Addr)
  | xd (fs : List (Str × V))
  | met (f x : Addr)
  | rng (lo hi : Int)
  | frz (o : Obj) (u : HO)
  | tbl (ps : Array Value)
  | ext (φ : Heap → Prop)
abbrev Hp := Addr → Option HO
def upd (H : Hp) (a : Addr) (o : HO) : Hp := fun b => if b = a then some o else H b
theorem upd_same {H : Hp} {a : Addr} {o : HO} : upd H a o a = some o := by unfold upd; rw [if_pos rfl]
theorem upd_ne {H : Hp} {a b : Addr} {o : HO} (h : b ≠ a) : upd H a o b = H b := by unfold upd; rw [if_neg h]
theorem ne_of_none {H : Hp} {a b : Addr} {o : HO} (h : H a = some o) (h' : H b = none) : a ≠ b := by
  intro e; subst e; rw [h] at h'; cases h'
section
variable (P : Program) (w : World)
def ObjOk (H : Hp) (h : Heap) (a : Addr) : HO → Prop
  | .lst xs => xs.length ≤ sizeLine ∧ ∃ (its : List Value) (n : Nat), Vals xs its ∧ h.get? a = some { cls := .type "list", data := .seq its.toArray n }
  | .tup xs => xs.length ≤ sizeLine ∧ ∃ its : List Value, Vals xs its ∧ IsTup h a its.toArray
  | .dK kvs => kvs.length ≤ sizeLine ∧ (a == sysModules) = false ∧ ∃ vs, KV kvs vs ∧ h.DictOf (mixKind P w) a vs
  | .dT kvs => kvs.length ≤ sizeLine ∧ (a == sysModules) = false ∧ ∃ xs : List (List Key × Addr × Value),
      Paired (fun (p : List Key × V) (q : List Key × Addr × Value) => p.1 = q.1 ∧ H q.2.1 = some (.tup (p.1.map kV)) ∧ RelV p.2 q.2.2) kvs xs ∧
      ∃ o es ep, h.get? a = some o ∧ o.ExactDict ∧ o.data = .dict es ep ∧ es.toList = xs.map (entryOfKey (tupleKind (mixKind P w))) ∧ (xs.map (·.1)).Nodup
  | .set S n => h.SetOf (intKind P w) a S n
  | .ins C dx fs => H dx = some (.own a) ∧ fs.length ≤ 1000 ∧ dx ≠ a ∧ h.get? a = some (PySem.W.instObj C dx) ∧
      ∃ mA, h.Ns1 dx mA ∧ (∀ f, RelO (fs.lookup f) (mA f)) ∧ PySem.Within mA (fs.map (·.1))
  | .own _ => ∃ o, h.get? a = some o
  | .xd fs => ∃ mA, h.Ns1 a mA ∧ ∀ f, RelO (fs.lookup f) (mA f)
  | .rng lo hi => ∃ t u v, h.get? a = some { cls := .type "range", data := .fields #[.int lo t, .int hi u, .int 1 v] }
  | .frz o u => h.get? a = some o ∧ ObjOk H h a u
  | .tbl ps => h.get? a = some { cls := .none, data := .fields ps }
  | .met f x => h.get? a = some (PySem.W.methodObj (.ref f) (.ref x))
  | .ext φ => φ h ∧ (∃ o, h.get? a = some o) ∧ ∀ h1 h2 : Heap, φ h1 → (∀ o, h1.get? a = some o → h2.get? a = some o) → φ h2
def HOk (H : Hp) (h : Heap) : Prop := ∀ a o, H a = some o → ObjOk P w H h a o
end
section
variable {P : Program} {w : World} {H H' : Hp} {h h' : Heap} {a : Addr} {o : HO}
theorem ObjOk.lt (x : ObjOk P w H h a o) : a < h.objs.size := by
  cases o with
  | lst xs => obtain ⟨_, _, _, _, e⟩ := x; exact Heap.lt_size e
  | tup xs => obtain ⟨_, _, _, p⟩ := x; exact p.lt
  | dK kvs => obtain ⟨_, _, _, _, o, _, _, e, _⟩ := x; exact Heap.lt_size e
  | dT kvs => obtain ⟨_, _, _, _, o, _, _, e, _⟩ := x; exact Heap.lt_size e
  | set S n => obtain ⟨o, _, _, _, e, _⟩ := x; exact Heap.lt_size e
  | ins C dx fs => obtain ⟨_, _, _, e, _⟩ := x; exact Heap.lt_size e
  | own y => obtain ⟨_, e⟩ := x; exact Heap.lt_size e
  | xd fs => obtain ⟨_, ⟨_, _, _, e, _⟩, _⟩ := x; exact Heap.lt_size e
  | rng lo hi => obtain ⟨_, _, _, e⟩ := x; exact Heap.lt_size e
  | frz ob u => obtain ⟨e, _⟩ := x; exact Heap.lt_size e
  | tbl ps => exact Heap.lt_size (show h.get? a = some _ from x)
  | met f y => exact Heap.lt_size (show h.get? a = some _ from x)
  | ext φ => obtain ⟨_, ⟨_, e⟩, _⟩ := x; exact Heap.lt_size e
theorem Paired.mapP {α β : Type} {F G : α → β → Prop} : ∀ {l₁ : List α} {l₂ : List β}, Paired F l₁ l₂ → (∀ a b, F a b → G a b) → Paired G l₁ l₂
  | _, _, .nil, _ => .nil
  | _, _, .cons r t, f => .cons (f _ _ r) (Paired.mapP t f)
theorem ObjOk.stay (x : ObjOk P w H h a o) (k : ∀ b u, (b = a ∨ H b = some (.own a)) → h.get? b = some u → h'.get? b = some u)
    (ho : ∀ b, H b = some (.own a) → H' b = some (.own a)) (ht : ∀ b xs, H b = some (.tup xs) → H' b = some (.tup xs)) : ObjOk P w H' h' a o := by
  induction o with
  | lst xs => obtain ⟨z, its, n, r, e⟩ := x; exact ⟨z, its, n, r, k _ _ (.inl rfl) e⟩
  | tup xs => obtain ⟨z, its, r, ob, e, c⟩ := x; exact ⟨z, its, r, ob, k _ _ (.inl rfl) e, c⟩
  | dK kvs => obtain ⟨z, y, vs, r, ob, es, ep, e, c⟩ := x; exact ⟨z, y, vs, r, ob, es, ep, k _ _ (.inl rfl) e, c⟩
  | dT kvs =>
    obtain ⟨z, y, xs, r, ob, es, ep, e, c⟩ := x
    exact ⟨z, y, xs, Paired.mapP r fun p q z => ⟨z.1, ht _ _ z.2.1, z.2.2⟩, ob, es, ep, k _ _ (.inl rfl) e, c⟩
  | set S n => obtain ⟨ob, es, ep, t, e, c⟩ := x; exact ⟨ob, es, ep, t, k _ _ (.inl rfl) e, c⟩
  | ins C dx fs =>
    obtain ⟨d, z, ne, e, mA, ⟨od, es, ep, e2, c⟩, r⟩ := x
    exact ⟨ho _ d, z, ne, k _ _ (.inl rfl) e, mA, ⟨od, es, ep, k _ _ (.inr d) e2, c⟩, r⟩
  | own y => obtain ⟨ob, e⟩ := x; exact ⟨ob, k _ _ (.inl rfl) e⟩
  | xd fs => obtain ⟨mA, ⟨od, es, ep, e, c⟩, r⟩ := x; exact ⟨mA, ⟨od, es, ep, k _ _ (.inl rfl) e, c⟩, r⟩
  | rng lo hi => obtain ⟨t, u, v, e⟩ := x; exact ⟨t, u, v, k _ _ (.inl rfl) e⟩
  | frz ob u ih => obtain ⟨e, q⟩ := x; exact ⟨k _ _ (.inl rfl) e, ih q⟩
  | tbl ps =>
    have e : h.get? a = some { cls := .none, data := .fields ps } := x
    show h'.get? a = some { cls := .none, data := .fields ps }
    exact k a _ (.inl rfl) e
  | met f y =>
    have e : h.get? a = some (PySem.W.methodObj (.ref f) (.ref y)) := x
    show h'.get? a = some (PySem.W.methodObj (.ref f) (.ref y))
    exact k a _ (.inl rfl) e
  | ext φ => obtain ⟨p, ⟨o, e⟩, st⟩ := x; exact ⟨st _ _ p fun o q => k _ _ (.inl rfl) q, ⟨o, k _ _ (.inl rfl) e⟩, st⟩
theorem HOk.lt (x : HOk P w H h) (e : H a = some o) : a < h.objs.size := (x a o e).lt
theorem HOk.fresh (x : HOk P w H h) (e : h.objs.size ≤ a) : H a = none := by
  cases q : H a with
  | none => rfl
  | some u => exact absurd (Nat.lt_of_lt_of_le (x.lt q) e) (Nat.lt_irrefl _)
theorem HOk.kept (x : HOk P w H h) (k : ∀ b u, h.get? b = some u → h'.get? b = some u) : HOk P w H h' := fun a o e =>
  (x a o e).stay (fun b u _ q => k b u q) (fun _ q => q) fun _ _ q => q
theorem HOk.laid (x : HOk P w H h) (k : ∀ b u, h.get? b = some u → h'.get? b = some u) (hp : h.objs.size ≤ a) (new : ObjOk P w (upd H a o) h' a o) : HOk P w (upd H a o) h' := fun b u e => by
  have hn := x.fresh hp
  by_cases hb : b = a
  · subst hb; rw [upd_same] at e; cases e; exact new
  · rw [upd_ne hb] at e
    exact (x b u e).stay (fun c v _ q => k c v q) (fun c q => by rw [upd_ne (ne_of_none q hn)]; exact q) fun c xs q => by rw [upd_ne (ne_of_none q hn)]; exact q
end
def Rd (H : Hp) (a : Addr) (u : HO) : Prop := H a = some u ∨ ∃ o, H a = some (.frz o u)
theorem Rd.of {H : Hp} {a : Addr} {u : HO} (h : H a = some u) : Rd H a u := .inl h
theorem Rd.ok {P : Program} {w : World} {H : Hp} {h : Heap} {a : Addr} {u : HO} (r : Rd H a u) (x : HOk P w H h) : ObjOk P w H h a u := by
  rcases r with r | ⟨o, r⟩
  · exact x a u r
  · obtain ⟨_, q⟩ := x a _ r
    exact q
def Mut : Option HO → Prop
  | some (.lst _) => True
  | some (.dK _) => True
  | some (.dT _) => True
  | some (.set _ _) => True
  | some (.ins _ _ _) => True
  | some (.ext _) => True
  | _ => False
section
variable {P : Program} {w : World} {H : Hp} {h h' : Heap} {x e : Addr} {o' : HO}
theorem HOk.write (ok : HOk P w H h) (mu : Mut (H x)) (he : e = x ∨ H e = some (.own x)) (k : ∀ b u, b ≠ e → h.get? b = some u → h'.get? b = some u) (heo : ∃ u, h'.get? e = some u)
    (new : ObjOk P w (upd H x o') h' x o') : HOk P w (upd H x o') h' := fun b u q => by
  have nown : ∀ c y, H c = some (.own y) → c ≠ x := fun c y r z => by subst z; rw [r] at mu; exact mu
  have ntup : ∀ c xs, H c = some (.tup xs) → c ≠ x := fun c xs r z => by subst z; rw [r] at mu; exact mu
  by_cases hb : b = x
  · subst hb; rw [upd_same] at q; cases q; exact new
  · rw [upd_ne hb] at q
    by_cases hbe : b = e
    · have q' : H b = some (.own x) := by
        rcases he with z | z
        · exact absurd (hbe.trans z) hb
        · rw [hbe]; exact z
      rw [q] at q'; cases q'
      obtain ⟨v, hv⟩ := heo
      exact ⟨v, by rw [hbe]; exact hv⟩
    · refine (ok b u q).stay (fun c v hc r => k c v ?_ r) (fun c r => by rw [upd_ne (nown c b r)]; exact r) fun c xs r => by rw [upd_ne (ntup c xs r)]; exact r
      rcases hc with rfl | hc
      · exact hbe
      · rintro rfl
        rcases he with z | z
        · exact nown c b hc z
        · rw [hc] at z; cases z; exact hb rfl
end
structure Un (fs ex : List Addr) (H H' : Hp) (h h' : Heap) : Prop where
  keep : ∀ b o, h.get? b = some o → H b = none → b ∉ fs → b ∉ ex → h'.get? b = some o
  slot : ∀ b o, h.get? b = some o → H b = none → b ∈ fs → b ∉ ex → ∃ sl, h'.get? b = some { o with slots := sl }
  free : ∀ b o, h.get? b = some o → H b = none → b ∉ ex → H' b = none
  there : ∀ b o, h.get? b = some o → b ∉ ex → ∃ o', h'.get? b = some o'
  tups : ∀ b xs, H b = some (.tup xs) → H' b = some (.tup xs)
  frzs : ∀ b o u, H b = some (.frz o u) → H' b = some (.frz o u)
  tbls : ∀ b ps, H b = some (.tbl ps) → ∃ more, H' b = some (.tbl (ps ++ more))
section
variable {fs fs' ex ex' : List Addr} {H H1 H2 : Hp} {h h1 h2 h' : Heap} {a x e : Addr} {o : HO}
theorem Un.any (u : Un fs ex H H1 h h1) {b : Addr} {ob : Obj} (q : h.get? b = some ob) (n : H b = none) (hx : b ∉ ex) : ∃ sl, h1.get? b = some { ob with slots := sl } := by
  by_cases hb : b ∈ fs
  · exact u.slot b ob q n hb hx
  · exact ⟨ob.slots, u.keep b ob q n hb hx⟩
theorem Un.trans (a : Un fs ex H H1 h h1) (b : Un fs ex H1 H2 h1 h2) : Un fs ex H H2 h h2 where
  keep := fun c ob q n hc hx => b.keep c ob (a.keep c ob q n hc hx) (a.free c ob q n hx) hc hx
  slot := fun c ob q n hc hx => by
    obtain ⟨sl, e1⟩ := a.slot c ob q n hc hx
    obtain ⟨sl', e2⟩ := b.slot c _ e1 (a.free c ob q n hx) hc hx
    exact ⟨sl', e2⟩
  free := fun c ob q n hx => by
    obtain ⟨o', e1⟩ := a.there c ob q hx
    exact b.free c o' e1 (a.free c ob q n hx) hx
  there := fun c ob q hx => by
    obtain ⟨o', e1⟩ := a.there c ob q hx
    exact b.there c o' e1 hx
  tups := fun c xs q => b.tups c xs (a.tups c xs q)
  frzs := fun c ob xs q => b.frzs c ob xs (a.frzs c ob xs q)
  tbls := fun c ps q => by
    obtain ⟨m1, e1⟩ := a.tbls c ps q
    obtain ⟨m2, e2⟩ := b.tbls c _ e1
    exact ⟨m1 ++ m2, by rw [e2, Array.append_assoc]⟩
theorem Un.kept (k : ∀ b u, h.get? b = some u → h'.get? b = some u) : Un fs ex H H h h' :=
  ⟨fun b ob q _ _ _ => k b ob q, fun b ob q _ _ _ => ⟨ob.slots, k b ob q⟩, fun _ _ _ n _ => n, fun b ob q _ => ⟨ob, k b ob q⟩, fun _ _ q => q, fun _ _ _ q => q, fun _ ps q => ⟨#[], by rw [q]; simp⟩⟩
theorem Un.refl : Un fs ex H H h h := Un.kept fun _ _ q => q
theorem Un.laid (k : ∀ b u, h.get? b = some u → h'.get? b = some u) (hp : h.objs.size ≤ a) (hn : H a = none) : Un fs ex H (upd H a o) h h' where
  keep := fun b u q _ _ _ => k b u q
  slot := fun b u q _ _ _ => ⟨u.slots, k b u q⟩
  free := fun b u q n _ => by rw [upd_ne (Nat.ne_of_lt (Nat.lt_of_lt_of_le (Heap.lt_size q) hp))]; exact n
  there := fun b u q _ => ⟨u, k b u q⟩
  tups := fun b xs q => by rw [upd_ne (ne_of_none q hn)]; exact q
  frzs := fun b u xs q => by rw [upd_ne (ne_of_none q hn)]; exact q
  tbls := fun b ps q => ⟨#[], by rw [upd_ne (ne_of_none q hn), q]; simp⟩
theorem Un.write (mu : Mut (H x)) (he : e = x ∨ H e = some (.own x)) (k : ∀ b u, b ≠ e → h.get? b = some u → h'.get? b = some u) (heo : ∃ u, h'.get? e = some u) : Un fs ex H (upd H x o) h h' := by
  have hx : ∀ b, H b = none → b ≠ x := fun b n z => by subst z; rw [n] at mu; exact mu
  have hb : ∀ b, H b = none → b ≠ e := fun b n z => by
    subst z
    rcases he with r | r
    · exact hx b n r
    · rw [n] at r; cases r
  have hm : ∀ b u, H b = some u → ¬ Mut (some u) → b ≠ x := fun b u q nm z => by subst z; rw [q] at mu; exact nm mu
  refine ⟨fun b u q n _ _ => k b u (hb b n) q, fun b u q n _ _ => ⟨u.slots, k b u (hb b n) q⟩, fun b u q n _ => by rw [upd_ne (hx b n)]; exact n, fun b u q _ => ?_,
    fun b xs q => by rw [upd_ne (hm b _ q fun z => z)]; exact q, fun b u xs q => by rw [upd_ne (hm b _ q fun z => z)]; exact q, fun b ps q => ⟨#[], by rw [upd_ne (hm b _ q fun z => z), q]; simp⟩⟩
  by_cases hbe : b = e
  · subst hbe; exact heo
  · exact ⟨u, k b u hbe q⟩
theorem Un.mono (u : Un fs ex H H1 h h1) (hs : ∀ b ∈ fs, b ∈ fs') (hx : ∀ b ∈ ex, b ∈ ex') : Un fs' ex' H H1 h h1 :=
  ⟨fun b ob q n hb he => u.keep b ob q n (fun z => hb (hs b z)) fun z => he (hx b z), fun _ _ q n _ he => u.any q n fun z => he (hx _ z), fun b ob q n he => u.free b ob q n fun z => he (hx b z), fun b ob q he => u.there b ob q fun z => he (hx b z), u.tups, u.frzs, u.tbls⟩
end
def trk (h : Heap) (H : Hp) : List Addr := (List.range h.objs.size).filter fun a => (H a).isSome
def hidT (h : Heap) (H : Hp) : Heap := PySem.W.hideAll h (trk h H)
theorem hidT_size (h : Heap) (H : Hp) : (hidT h H).objs.size = h.objs.size := PySem.W.hideAll_size _ _
theorem hidT_get {h : Heap} {H : Hp} {b : Addr} {o : Obj} (e : h.get? b = some o) (n : H b = none) : (hidT h H).get? b = some o :=
  PySem.W.hideAll_get _ e fun hm => by
    have q : (H b).isSome = true := (List.mem_filter.mp hm).2
    rw [n] at q; simp at q
theorem of_hidT {h : Heap} {H : Hp} {b : Addr} {o : Obj} (e : (hidT h H).get? b = some o) : h.get? b = some o ∧ H b = none := by
  have e' : h.get? b = some o := PySem.W.of_hideAll (trk h H) e
  refine ⟨e', ?_⟩
  cases q : H b with
  | none => rfl
  | some x =>
    have hm : b ∈ trk h H := List.mem_filter.mpr ⟨List.mem_range.mpr (Heap.lt_size e'), by simp [q]⟩
    have z : (hidT h H).get? b = none := PySem.W.hideAll_none (trk h H) hm
    rw [z] at e; cases e
def allNews (g h : Heap) (L : Addr) : List (Addr × Obj) := (List.range h.objs.size).filterMap fun a => if a = L ∨ (g.get? a).isSome = true then none else (h.get? a).map fun o => (a, o)
def rest (g h : Heap) (L d : Addr) : List (Addr × Obj) := (allNews g h L).filter fun p => decide (p.1 ≠ d)
end L2
namespace L2
open PySem PySem.Spec PyProof.Rows
structure Mod (K : PySem.W.Frag) (mg : Str → Option Value) (base : Heap) : Prop where
  kin : K.In base
  glob : base.Ns mainGlobals mg
  blt : ∃ mb, base.Ns builtinsNs mb ∧ ∀ x : Str, x ≠ "__name__" → mb x = bootBuiltins x
  nolimit : base.NoLimit
structure Cx where
  prog : Program
  w : World
  K : PySem.W.Frag
  mg : Str → Option Value
  base : Heap
  A : Around
  N : List Str
  s₀ : Shared
  H₀ : Hp
  env : Env
  outer : List Env
  stack : List Env
  ex : List Addr
  fn : Str → Bool
  calm : Bool
  pn : List (Addr × Obj)
  xe : Value → Shared → Prop
def frs (l : List Env) : List Addr := l.filterMap (·.frame)
abbrev Cx.fs (X : Cx) : List Addr := frs X.outer
def Vis (sc : Scope) (x : Str) : Prop := sc.names.lookup x = some .local ∨ sc.names.lookup x = some .cell ∨ sc.names.lookup x = some .free
def Loc (sc : Scope) (x : Str) : Prop := sc.names.lookup x = some .local ∨ sc.names.lookup x = some .cell
def Look (env : Env) (h : Heap) (m : Str → Option Value) (x : Str) (u : Value) : Prop :=
  (env.kindOf x = some .local ∧ m x = some u) ∨ ((env.kindOf x = some .cell ∨ env.kindOf x = some .free) ∧ ∃ c, env.cells.lookup x = some c ∧ h.IsCell c (some u))
structure Cx.Ok (X : Cx) : Prop where
  mod : Mod X.K X.mg X.base
  kind : X.env.scope.kind = .function
  glob : X.env.globals = mainGlobals
  blt : X.env.builtins = builtinsNs
  above : X.s₀.heap.objs.size ≤ X.env.locals
  inj : ∀ x y c, X.env.cells.lookup x = some c → X.env.cells.lookup y = some c → x = y
  has : ∀ x, (X.env.kindOf x = some .cell ∨ X.env.kindOf x = some .free) → ∃ c, X.env.cells.lookup x = some c
  cab : ∀ x c, X.fn x = true → X.env.cells.lookup x = some c → X.s₀.heap.objs.size ≤ c
  hd : X.calm = true → X.A.handled = none
  frames : X.A.frames = some X.stack
  stk : X.stack = X.outer ∨ (X.stack = X.env :: X.outer ∧ X.env.frame = some X.env.locals)
  exf : ∀ b ∈ X.ex, b ≠ X.env.locals ∧ ∀ x c, X.env.cells.lookup x = some c → c ≠ b
  bs : ∀ b o, X.base.get? b = some o → X.s₀.heap.get? b = some o ∧ X.H₀ b = none
  bsz : X.base.objs.size ≤ X.s₀.heap.objs.size
  noex : ∀ b o, X.base.get? b = some o → b ∉ X.ex
  exfs : ∀ b ∈ X.ex, b ∉ X.fs
  funs : X.s₀.heap.FunFrames X.base X.outer
  frf : ∀ b ∈ X.fs, X.H₀ b = none
structure Inv (X : Cx) (pins : List (Addr × Obj)) (σ : List (Option V)) (H : Hp) (s : Shared) : Prop where
  ok : X.Ok
  os : s.os = X.s₀.os
  bare : AllBare s.gens
  base : Un X.fs X.ex X.H₀ H X.s₀.heap s.heap
  loc : ∃ m, s.heap.Ns X.env.locals m ∧ ∀ (i : Nat) (x : Str) (v : V), X.N[i]? = some x → σ[i]? = some (some v) → Vis X.env.scope x → ∃ u, RelV v u ∧ Look X.env s.heap m x u
  cell : ∀ x c, X.env.cells.lookup x = some c → ∃ v, s.heap.IsCell c v
  free : H X.env.locals = none
  freeC : ∀ x c, X.env.cells.lookup x = some c → H c = none
  pin : ∀ p ∈ X.pn ++ pins, s.heap.get? p.1 = some p.2 ∧ H p.1 = none ∧ p.1 ≠ X.env.locals ∧ p.1 ∉ X.fs ∧ ∀ v, p.2.data ≠ .cell v
  hok : HOk X.prog X.w H s.heap
  len : σ.length = X.N.length
section
variable {X : Cx} {pins : List (Addr × Obj)} {σ : List (Option V)} {H H' : Hp} {s : Shared} {h' : Heap}
theorem Cx.Ok.nofr (ok : X.Ok) {b : Addr} {o : Obj} (e : X.base.get? b = some o) : b ∉ X.fs := fun hb => by
  have := (ok.funs.mem hb).1
  rw [e] at this; cases this
theorem Inv.bs (I : Inv X pins σ H s) : ∀ b o, X.base.get? b = some o → s.heap.get? b = some o ∧ H b = none := fun b o e =>
  ⟨I.base.keep b o (I.ok.bs b o e).1 (I.ok.bs b o e).2 (I.ok.nofr e) (I.ok.noex b o e), I.base.free b o (I.ok.bs b o e).1 (I.ok.bs b o e).2 (I.ok.noex b o e)⟩
theorem Inv.bk (I : Inv X pins σ H s) : ∀ b o, X.base.get? b = some o → s.heap.get? b = some o := fun b o e => (I.bs b o e).1
theorem Inv.mod (I : Inv X pins σ H s) : Mod X.K X.mg X.base := I.ok.mod
theorem Inv.kIn (I : Inv X pins σ H s) : X.K.In s.heap := I.ok.mod.kin.keeps I.bk
theorem Inv.nolimit (I : Inv X pins σ H s) : s.heap.NoLimit := I.ok.mod.nolimit.keeps I.bk
theorem Inv.lt (I : Inv X pins σ H s) : X.env.locals < s.heap.objs.size := let ⟨_, hn, _⟩ := I.loc; hn.lt
theorem Inv.sz (I : Inv X pins σ H s) : X.s₀.heap.objs.size ≤ s.heap.objs.size := Nat.le_trans I.ok.above (Nat.le_of_lt I.lt)
theorem Inv.nofs (I : Inv X pins σ H s) {a : Addr} (h : s.heap.objs.size ≤ a) : a ∉ X.fs := fun hb => by
  obtain ⟨_, o, ho, _⟩ := I.ok.funs.mem hb
  exact absurd (Nat.lt_of_lt_of_le (Heap.lt_size ho) (Nat.le_trans I.sz h)) (Nat.lt_irrefl _)
theorem Inv.cne (I : Inv X pins σ H s) : ∀ x c, X.env.cells.lookup x = some c → c ≠ X.env.locals := fun x c e z => by
  obtain ⟨v, o, ho, hd⟩ := I.cell x c e
  obtain ⟨m, ⟨o', es, ep, ho', hd', _⟩, _⟩ := I.loc
  rw [z, ho'] at ho; cases ho; rw [hd'] at hd; cases hd
theorem Inv.funs (I : Inv X pins σ H s) : s.heap.FunFrames X.base X.outer := by
  have all : ∀ (l : List Env), (∀ b ∈ frs l, b ∈ X.fs) → X.s₀.heap.FunFrames X.base l → s.heap.FunFrames X.base l := by
    intro l
    induction l with
    | nil => intro _ _; trivial
    | cons env r ih =>
      intro hs hl
      obtain ⟨hk, ⟨L, o, hf, hn, ho, hd⟩, hr⟩ := hl
      have hL : L ∈ X.fs := hs L (by unfold frs; rw [List.filterMap_cons, hf]; exact List.mem_cons_self)
      obtain ⟨sl, e⟩ := I.base.slot L o ho (I.ok.frf L hL) hL fun z => I.ok.exfs L z hL
      exact ⟨hk, ⟨L, _, hf, hn, e, hd⟩, ih (fun b hb => hs b (by unfold frs; rw [List.filterMap_cons, hf]; exact List.mem_cons_of_mem _ hb)) hr⟩
  exact all X.outer (fun _ hb => hb) I.ok.funs
theorem Inv.stack (I : Inv X pins σ H s) : s.heap.FunFrames X.base X.stack := by
  rcases I.ok.stk with e | ⟨e, hf⟩
  · rw [e]; exact I.funs
  · rw [e]
    obtain ⟨m, hn, _⟩ := I.loc
    refine .cons (by rw [I.ok.kind]; decide) hf hn ?_ I.funs
    exact Heap.get?_none_of_le (Nat.le_trans I.ok.bsz I.ok.above)
theorem Inv.stkSub (I : Inv X pins σ H s) : ∀ b ∈ frs X.stack, b ∈ X.env.locals :: X.fs := fun b hb => by
  rcases I.ok.stk with e | ⟨e, hf⟩
  · rw [e] at hb; exact List.mem_cons_of_mem _ hb
  · rw [e] at hb
    unfold frs at hb
    rw [List.filterMap_cons, hf] at hb
    exact hb
theorem Inv.stkFree (I : Inv X pins σ H s) : ∀ b ∈ frs X.stack, H b = none := fun b hb => by
  rcases List.mem_cons.mp (I.stkSub b hb) with e | hb
  · rw [e]; exact I.free
  · obtain ⟨_, o, ho, _⟩ := I.ok.funs.mem hb
    exact I.base.free b o ho (I.ok.frf b hb) fun z => I.ok.exfs b z hb
theorem Inv.step {g' : Array GenState} {t' : Nat} {d' : Drawn} {ch : List Addr} (I : Inv X pins σ H s)
    (hch : ∀ b ∈ ch, (b ∈ X.ex ∨ X.s₀.heap.objs.size ≤ b) ∧ b ≠ X.env.locals ∧ (∀ x c, X.env.cells.lookup x = some c → c ≠ b) ∧ ∀ p ∈ X.pn ++ pins, p.1 ≠ b)
    (keep : ∀ b o, b ≠ X.env.locals → b ∉ X.fs → b ∉ ch → s.heap.get? b = some o → H b = none → h'.get? b = some o)
    (slot : ∀ b o, b ≠ X.env.locals → b ∈ X.fs → b ∉ ch → s.heap.get? b = some o → H b = none → ∃ sl, h'.get? b = some { o with slots := sl }) (free : ∀ b o, b ∉ ch → s.heap.get? b = some o → H b = none → H' b = none)
    (there : ∀ b o, b ∉ ch → s.heap.get? b = some o → ∃ o', h'.get? b = some o')
    (tups : ∀ b xs, H b = some (.tup xs) → H' b = some (.tup xs)) (frzs : ∀ b o u, H b = some (.frz o u) → H' b = some (.frz o u)) (tbls : ∀ b ps, H b = some (.tbl ps) → ∃ more, H' b = some (.tbl (ps ++ more)))
    (ns : ∀ m, s.heap.Ns X.env.locals m → h'.Ns X.env.locals m) (hok : HOk X.prog X.w H' h') (hg : AllBare g') :
    Inv X pins σ H' { s with heap := h', gens := g', drawn := d', toks := t' } := by
  have neL : ∀ b o, X.s₀.heap.get? b = some o → b ≠ X.env.locals := fun b o e => Nat.ne_of_lt (Nat.lt_of_lt_of_le (Heap.lt_size e) I.ok.above)
  have neC : ∀ b o, X.s₀.heap.get? b = some o → b ∉ X.ex → b ∉ ch := fun b o e hx hb => by
    rcases (hch b hb).1 with z | z
    · exact hx z
    · exact absurd (Nat.lt_of_lt_of_le (Heap.lt_size e) z) (Nat.lt_irrefl _)
  have cellK : ∀ x c, X.env.cells.lookup x = some c → ∀ v, s.heap.IsCell c v → h'.IsCell c v := fun x c e v ⟨o, ho, hd⟩ => by
    have nch : c ∉ ch := fun z => (hch c z).2.2.1 x c e rfl
    by_cases hc : c ∈ X.fs
    · obtain ⟨sl, q⟩ := slot c o (I.cne x c e) hc nch ho (I.freeC x c e)
      exact ⟨_, q, hd⟩
    · exact ⟨o, keep c o (I.cne x c e) hc nch ho (I.freeC x c e), hd⟩
  refine ⟨I.ok, I.os, hg, ⟨fun b o e n hb hx => ?_, fun b o e n hb hx => ?_, fun b o e n hx => ?_, fun b o e hx => ?_, fun b xs e => tups b xs (I.base.tups b xs e), fun b o xs e => frzs b o xs (I.base.frzs b o xs e), fun b ps e => ?_⟩, ?_, fun x c e => ?_, ?_, fun x c e => ?_, fun p hp => ?_, hok, I.len⟩
  · exact keep b o (neL b o e) hb (neC b o e hx) (I.base.keep b o e n hb hx) (I.base.free b o e n hx)
  · obtain ⟨sl, e1⟩ := I.base.slot b o e n hb hx
    obtain ⟨sl', e2⟩ := slot b _ (neL b o e) hb (neC b o e hx) e1 (I.base.free b o e n hx)
    exact ⟨sl', e2⟩
  · obtain ⟨o', e1⟩ := I.base.there b o e hx
    exact free b o' (neC b o e hx) e1 (I.base.free b o e n hx)
  · obtain ⟨o', e1⟩ := I.base.there b o e hx
    exact there b o' (neC b o e hx) e1
  · obtain ⟨m1, e1⟩ := I.base.tbls b ps e
    obtain ⟨m2, e2⟩ := tbls b _ e1
    exact ⟨m1 ++ m2, by rw [e2, Array.append_assoc]⟩
  · obtain ⟨m, hn, hl⟩ := I.loc
    refine ⟨m, ns m hn, fun i x v e1 e2 e3 => ?_⟩
    obtain ⟨u, r, l⟩ := hl i x v e1 e2 e3
    refine ⟨u, r, ?_⟩
    rcases l with l | ⟨k, c, e, z⟩
    · exact .inl l
    · exact .inr ⟨k, c, e, cellK x c e _ z⟩
  · obtain ⟨v, z⟩ := I.cell x c e
    exact ⟨v, cellK x c e v z⟩
  · obtain ⟨m, ⟨o, _, _, ho, _⟩, _⟩ := I.loc
    exact free _ o (fun z => (hch _ z).2.1 rfl) ho I.free
  · obtain ⟨v, o, ho, hd⟩ := I.cell x c e
    exact free c o (fun z => (hch c z).2.2.1 x c e rfl) ho (I.freeC x c e)
  · obtain ⟨e, n, ne, nf, d⟩ := I.pin p hp
    have nch : p.1 ∉ ch := fun z => (hch p.1 z).2.2.2 p hp rfl
    exact ⟨keep p.1 p.2 ne nf nch e n, free p.1 p.2 nch e n, ne, nf, d⟩
theorem Inv.un {t' : Nat} (I : Inv X pins σ H s) (u : Un X.fs [] H H' s.heap h') (hok : HOk X.prog X.w H' h') : Inv X pins σ H' { s with heap := h', toks := t' } := by
  obtain ⟨m, ⟨o, es, ep, ho, r⟩, _⟩ := id I.loc
  obtain ⟨sl, hL⟩ := u.any ho I.free (by simp)
  exact I.step (g' := s.gens) (d' := s.drawn) (ch := []) (fun _ z => nomatch z) (fun b o _ hb _ e n => u.keep b o e n hb (by simp)) (fun b o _ hb _ e n => u.slot b o e n hb (by simp)) (fun b o _ e n => u.free b o e n (by simp)) (fun b o _ e => u.there b o e (by simp)) u.tups u.frzs u.tbls (fun m' hm => by
    obtain ⟨o', es', ep', ho', r'⟩ := hm
    rw [ho] at ho'; cases ho'
    exact ⟨_, es', ep', hL, r'⟩) hok I.bare
theorem Inv.call {g' : Array GenState} {t' : Nat} {d' : Drawn} {ch : List Addr} (I : Inv X pins σ H s) (u : Un (frs X.stack) ch H H' s.heap h') (hok : HOk X.prog X.w H' h') (hg : AllBare g')
    (hch : ∀ b ∈ ch, (b ∈ X.ex ∨ X.s₀.heap.objs.size ≤ b) ∧ b ≠ X.env.locals ∧ (∀ x c, X.env.cells.lookup x = some c → c ≠ b) ∧ ∀ p ∈ X.pn ++ pins, p.1 ≠ b) :
    Inv X pins σ H' { s with heap := h', gens := g', drawn := d', toks := t' } := by
  obtain ⟨m, ⟨o, es, ep, ho, r⟩, _⟩ := id I.loc
  obtain ⟨sl, hL⟩ := u.any ho I.free fun z => (hch _ z).2.1 rfl
  exact I.step (ch := ch) hch (fun b o hL hb hc e n => u.keep b o e n (fun z => (List.mem_cons.mp (I.stkSub b z)).elim hL hb) hc) (fun b o _ _ hc e n => u.any e n hc) (fun b o hc e n => u.free b o e n hc) (fun b o hc e => u.there b o e hc) u.tups u.frzs u.tbls (fun m' hm => by
    obtain ⟨o', es', ep', ho', r'⟩ := hm
    rw [ho] at ho'; cases ho'
    exact ⟨_, es', ep', hL, r'⟩) hok hg
theorem Inv.turned {t' : Nat} {it : Addr} (I : Inv X pins σ H s) (k : ∀ b o, b ≠ it → s.heap.get? b = some o → h'.get? b = some o) (hn : H it = none) (hL : it ≠ X.env.locals)
    (h1 : it ∈ X.ex ∨ X.s₀.heap.objs.size ≤ it) (h2 : ∀ x c, X.env.cells.lookup x = some c → c ≠ it) (h3 : ∀ p ∈ X.pn ++ pins, p.1 ≠ it) : Inv X pins σ H { s with heap := h', toks := t' } := by
  have nit : ∀ b u, H b = some u → b ≠ it := fun b u e z => by rw [z, hn] at e; cases e
  refine I.step (g' := s.gens) (d' := s.drawn) (ch := [it]) (fun b hb => ?_) (fun b o _ _ hc e _ => k b o (fun z => hc (by simp [z])) e) (fun b o _ _ hc e _ => ⟨o.slots, k b o (fun z => hc (by simp [z])) e⟩) (fun _ _ _ _ n => n)
    (fun b o hc e => ⟨o, k b o (fun z => hc (by simp [z])) e⟩) (fun _ _ e => e) (fun _ _ _ e => e) (fun b ps e => ⟨#[], by rw [e]; simp⟩) (fun m hm => ?_) (fun b u e => ?_) I.bare
  · have e : b = it := by simpa using hb
    subst e
    exact ⟨h1, hL, h2, h3⟩
  · obtain ⟨o, es, ep, ho, r⟩ := hm
    exact ⟨o, es, ep, k _ o (Ne.symm hL) ho, r⟩
  · refine (I.hok b u e).stay (fun c v hc q => k c v ?_ q) (fun _ q => q) fun _ _ q => q
    rcases hc with z | z
    · rw [z]; exact nit b u e
    · exact nit c _ z
theorem Inv.tok (I : Inv X pins σ H s) (t : Nat) : Inv X pins σ H { s with toks := t } := I.un (h' := s.heap) (t' := t) Un.refl I.hok
theorem Inv.kept {t' : Nat} (I : Inv X pins σ H s) (k : ∀ b u, s.heap.get? b = some u → h'.get? b = some u) : Inv X pins σ H { s with heap := h', toks := t' } := I.un (Un.kept k) (I.hok.kept k)
theorem Inv.laid {a : Addr} {o : HO} {t' : Nat} (I : Inv X pins σ H s) (k : ∀ b u, s.heap.get? b = some u → h'.get? b = some u) (hp : s.heap.objs.size ≤ a) (new : ObjOk X.prog X.w (upd H a o) h' a o) :
    Inv X pins σ (upd H a o) { s with heap := h', toks := t' } := I.un (Un.laid k hp (I.hok.fresh hp)) (I.hok.laid k hp new)
theorem Inv.write {x e : Addr} {o : HO} {t' : Nat} (I : Inv X pins σ H s) (mu : Mut (H x)) (he : e = x ∨ H e = some (.own x)) (k : ∀ b u, b ≠ e → s.heap.get? b = some u → h'.get? b = some u) (heo : ∃ u, h'.get? e = some u)
    (new : ObjOk X.prog X.w (upd H x o) h' x o) : Inv X pins σ (upd H x o) { s with heap := h', toks := t' } := I.un (Un.write mu he k heo) (I.hok.write mu he k heo new)
theorem Inv.pins_of {pins' : List (Addr × Obj)} (I : Inv X pins σ H s) (h : ∀ p ∈ pins', s.heap.get? p.1 = some p.2 ∧ H p.1 = none ∧ p.1 ≠ X.env.locals ∧ p.1 ∉ X.fs ∧ ∀ v, p.2.data ≠ .cell v) : Inv X pins' σ H s :=
  ⟨I.ok, I.os, I.bare, I.base, I.loc, I.cell, I.free, I.freeC, fun p hp => (List.mem_append.mp hp).elim (fun z => I.pin p (List.mem_append_left _ z)) (h p), I.hok, I.len⟩
theorem nodup_ix {N : List Str} (hN : N.Nodup) {i j : Nat} {x : Str} (a : N[i]? = some x) (b : N[j]? = some x) : i = j := by
  obtain ⟨h1, e1⟩ := List.getElem?_eq_some_iff.mp a
  obtain ⟨h2, e2⟩ := List.getElem?_eq_some_iff.mp b
  exact (List.getElem_inj hN).mp (e1.trans e2.symm)
theorem store_ok2 {M : Model} {A : Around} {E : Value → Shared → Prop} {i : Nat} {x : Str} {v : V} {u : Value} {Q : Unit → Shared → Prop} (I : Inv X pins σ H s) (hN : X.N.Nodup) (hi : X.N[i]? = some x) (hx : Loc X.env.scope x) (r : RelV v u)
    (h : ∀ s', Inv X pins (σ.set i (some v)) H s' → (∃ a, Heap.SameBut a s.heap s'.heap ∧ (a = X.env.locals ∨ X.env.cells.lookup x = some a)) → Q () s') (hf : X.fn x = true ∨ X.env.scope.names.lookup x = some .local := by first | exact .inl rfl | exact .inr rfl | assumption) : wpAny M A (storeName X.env x u) Q E s := by
  obtain ⟨m, hn, hl⟩ := id I.loc
  have hcls : (X.env.scope.kind == .class || (X.env.scope.kind == .module && X.env.locals != X.env.globals)) = false := by rw [I.ok.kind]; rfl
  have hiσ : i < σ.length := by rw [I.len]; exact (List.getElem?_eq_some_iff.mp hi).1
  have cne := I.cne
  have tracked : ∀ {a : Addr} {h' : Heap}, (∃ o, s.heap.get? a = some o ∧ H a = none) → Heap.SameBut a s.heap h' → HOk X.prog X.w H h' := fun {a h'} ha hs b ob e => by
    obtain ⟨_, _, hfree⟩ := ha
    refine (I.hok b ob e).stay (fun c w' hc q => (hs.2 c ?_).trans q) (fun _ q => q) fun _ _ q => q
    rintro rfl
    rcases hc with rfl | hc
    · rw [hfree] at e; cases e
    · rw [hfree] at hc; cases hc
  rcases hx with hk | hk
  · refine wpAny_storeName_local hk hn (fun h' hn' hs => ?_) hcls
    obtain ⟨oL, _, _, hoL, _⟩ := id hn
    refine h _ ⟨I.ok, I.os, I.bare, ⟨fun b o e n hb hx => ?_, fun b o e n hb hx => ?_, I.base.free, fun b o e hx => ?_, I.base.tups, I.base.frzs, I.base.tbls⟩, ⟨_, hn', fun j y v' e1 e2 e3 => ?_⟩, fun y c e => ?_, I.free, I.freeC, fun p hp => ?_, tracked ⟨oL, hoL, I.free⟩ hs, by simpa using I.len⟩ ⟨_, hs, .inl rfl⟩
    · exact (hs.2 b (Nat.ne_of_lt (Nat.lt_of_lt_of_le (Heap.lt_size e) I.ok.above))).trans (I.base.keep b o e n hb hx)
    · obtain ⟨sl, e1⟩ := I.base.slot b o e n hb hx
      exact ⟨sl, (hs.2 b (Nat.ne_of_lt (Nat.lt_of_lt_of_le (Heap.lt_size e) I.ok.above))).trans e1⟩
    · obtain ⟨o', e1⟩ := I.base.there b o e hx
      exact ⟨o', (hs.2 b (Nat.ne_of_lt (Nat.lt_of_lt_of_le (Heap.lt_size e) I.ok.above))).trans e1⟩
    · by_cases hj : j = i
      · subst hj
        rw [hi] at e1; cases e1
        rw [List.getElem?_set_self hiσ] at e2
        cases e2
        exact ⟨u, r, .inl ⟨hk, by simp⟩⟩
      · rw [List.getElem?_set_ne (Ne.symm hj)] at e2
        obtain ⟨u', r', q⟩ := hl j y v' e1 e2 e3
        refine ⟨u', r', ?_⟩
        rcases q with ⟨k, e⟩ | ⟨k, c, e, z⟩
        · refine .inl ⟨k, ?_⟩
          have : y ≠ x := fun e => hj (nodup_ix hN e1 (e ▸ hi))
          simp [this, e]
        · exact .inr ⟨k, c, e, z.sameBut hs (cne y c e)⟩
    · obtain ⟨w', z⟩ := I.cell y c e
      exact ⟨w', z.sameBut hs (cne y c e)⟩
    · obtain ⟨e, n, ne, nf, d⟩ := I.pin p hp
      exact ⟨(hs.2 p.1 ne).trans e, n, ne, nf, d⟩
  · have hfn : X.fn x = true := by
      rcases hf with z | z
      · exact z
      · rw [z] at hk; cases hk
    obtain ⟨c, hc⟩ := I.ok.has x (.inl hk)
    obtain ⟨w', z⟩ := I.cell x c hc
    refine wpAny_storeName_cell I.ok.kind hk hc z (fun h' hc' hs => ?_)
    obtain ⟨oc, hoc, hocd⟩ := id z
    refine h { s with heap := h' } ⟨I.ok, I.os, I.bare, ⟨fun b o e n hb hx => ?_, fun b o e n hb hx => ?_, I.base.free, fun b o e hx => ?_, I.base.tups, I.base.frzs, I.base.tbls⟩, ⟨m, hn.sameBut hs (Ne.symm (cne x c hc)), fun j y v' e1 e2 e3 => ?_⟩, fun y c' e => ?_, I.free, I.freeC, fun p hp => ?_, tracked ⟨oc, hoc, I.freeC x c hc⟩ hs, by simpa using I.len⟩ ⟨c, hs, .inr hc⟩
    · exact (hs.2 b (Nat.ne_of_lt (Nat.lt_of_lt_of_le (Heap.lt_size e) (I.ok.cab x c hfn hc)))).trans (I.base.keep b o e n hb hx)
    · obtain ⟨sl, e1⟩ := I.base.slot b o e n hb hx
      exact ⟨sl, (hs.2 b (Nat.ne_of_lt (Nat.lt_of_lt_of_le (Heap.lt_size e) (I.ok.cab x c hfn hc)))).trans e1⟩
    · obtain ⟨o', e1⟩ := I.base.there b o e hx
      exact ⟨o', (hs.2 b (Nat.ne_of_lt (Nat.lt_of_lt_of_le (Heap.lt_size e) (I.ok.cab x c hfn hc)))).trans e1⟩
    · by_cases hj : j = i
      · subst hj
        rw [hi] at e1; cases e1
        rw [List.getElem?_set_self hiσ] at e2
        cases e2
        exact ⟨u, r, .inr ⟨.inl hk, c, hc, hc'⟩⟩
      · rw [List.getElem?_set_ne (Ne.symm hj)] at e2
        obtain ⟨u', r', q⟩ := hl j y v' e1 e2 e3
        refine ⟨u', r', ?_⟩
        rcases q with q | ⟨k, c', e, z'⟩
        · exact .inl q
        · refine .inr ⟨k, c', e, z'.sameBut hs ?_⟩
          rintro rfl
          exact hj (nodup_ix hN e1 (I.ok.inj _ _ _ e hc ▸ hi))
    · by_cases hcc : c' = c
      · subst hcc; exact ⟨_, hc'⟩
      · obtain ⟨w2, z2⟩ := I.cell y c' e
        exact ⟨w2, z2.sameBut hs hcc⟩
    · obtain ⟨e, n, ne, nf, d⟩ := I.pin p hp
      refine ⟨(hs.2 p.1 ?_).trans e, n, ne, nf, d⟩
      intro q
      rw [q, hoc] at e
      have q' : oc = p.2 := Option.some.inj e
      exact d w' (by rw [← q']; exact hocd)
theorem store_ok {M : Model} {A : Around} {E : Value → Shared → Prop} {i : Nat} {x : Str} {v : V} {u : Value} {Q : Unit → Shared → Prop} (I : Inv X pins σ H s) (hN : X.N.Nodup) (hi : X.N[i]? = some x) (hx : Loc X.env.scope x) (r : RelV v u)
    (h : ∀ s', Inv X pins (σ.set i (some v)) H s' → Q () s') (hf : X.fn x = true ∨ X.env.scope.names.lookup x = some .local := by first | exact .inl rfl | exact .inr rfl | assumption) : wpAny M A (storeName X.env x u) Q E s :=
  store_ok2 I hN hi hx r (fun s' I' _ => h s' I') hf
theorem Inv.call' {s' : Shared} {ch : List Addr} (I : Inv X pins σ H s) (ho : s'.os = s.os) (u : Un (frs X.stack) ch H H' s.heap s'.heap) (hok : HOk X.prog X.w H' s'.heap) (hg : AllBare s'.gens)
    (hch : ∀ b ∈ ch, (b ∈ X.ex ∨ X.s₀.heap.objs.size ≤ b) ∧ b ≠ X.env.locals ∧ (∀ x c, X.env.cells.lookup x = some c → c ≠ b) ∧ ∀ p ∈ X.pn ++ pins, p.1 ≠ b) : Inv X pins σ H' s' := by
  obtain ⟨h', g', d', t', o'⟩ := s'
  have e : o' = s.os := ho
  subst e
  exact I.call (g' := g') (t' := t') (d' := d') u hok hg hch
end
abbrev XK := Value → Option Addr → Hp → Prop
abbrev St := List (Option V)
abbrev VK := V → Hp → Prop
abbrev TE := St → Hp → VK → Prop
abbrev TT := St → Hp → (Bool → Hp → Prop) → Prop
abbrev TA := St → Hp → (List V → Hp → Prop) → Prop
structure Ends where
  nx : St → Hp → Prop
  rt : VK
  bk : St → Hp → Prop := fun _ _ => False
  ct : St → Hp → Prop := fun _ _ => False
abbrev TS := Ends → St → Hp → Prop
def EP (X : Cx) (pins : List (Addr × Obj)) (σ : St) (Q : VK) (u : Value) (s' : Shared) : Prop := ∃ v H', Inv X pins σ H' s' ∧ RelV v u ∧ Q v H'
def TP (X : Cx) (pins : List (Addr × Obj)) (σ : St) (Q : Bool → Hp → Prop) (b : Bool) (s' : Shared) : Prop := ∃ H', Inv X pins σ H' s' ∧ Q b H'
def AP (X : Cx) (pins : List (Addr × Obj)) (σ : St) (Q : List V → Hp → Prop) (us : List Value) (s' : Shared) : Prop := ∃ vs H', Inv X pins σ H' s' ∧ Vals vs us ∧ Q vs H'
def SP (X : Cx) (pins : List (Addr × Obj)) (D : Ends) (f : Flow) (s' : Shared) : Prop :=
  match f with
  | .next => ∃ σ' H', Inv X pins σ' H' s' ∧ D.nx σ' H'
  | .brk => ∃ σ' H', Inv X pins σ' H' s' ∧ D.bk σ' H'
  | .cont => ∃ σ' H', Inv X pins σ' H' s' ∧ D.ct σ' H'
  | .ret u => ∃ v σ' H', Inv X pins σ' H' s' ∧ RelV v u ∧ D.rt v H'
def PE (X : Cx) (e : Expr) (t : TE) : Prop :=
  ∀ (pins : List (Addr × Obj)) (s : Shared) (σ : St) (H : Hp) (Q : VK), Inv X pins σ H s → t σ H Q → wpAny (model X.prog X.w) X.A (eval e X.env) (EP X pins σ Q) X.xe s
def PT (X : Cx) (e : Expr) (t : TT) : Prop :=
  ∀ (pins : List (Addr × Obj)) (s : Shared) (σ : St) (H : Hp) (Q : Bool → Hp → Prop), Inv X pins σ H s → t σ H Q → wpAny (model X.prog X.w) X.A (isTrue e X.env (eval e X.env)) (TP X pins σ Q) X.xe s
def PW (X : Cx) (e : Expr) (t : TT) : Prop :=
  ∀ (whole : Sem Value) (pins : List (Addr × Obj)) (s : Shared) (σ : St) (H : Hp) (Q : Bool → Hp → Prop), Inv X pins σ H s → t σ H Q → wpAny (model X.prog X.w) X.A (isTrue e X.env whole) (TP X pins σ Q) X.xe s
theorem PW.pt {X : Cx} {e : Expr} {t : TT} (h : PW X e t) : PT X e t := h _
def PA (X : Cx) (es : List Expr) (t : TA) : Prop :=
  ∀ (pos : Pos) (pins : List (Addr × Obj)) (s : Shared) (σ : St) (H : Hp) (Q : List V → Hp → Prop), Inv X pins σ H s → t σ H Q → wpAny (model X.prog X.w) X.A (spliced (backTo pos (starEach es X.env))) (AP X pins σ Q) X.xe s
def PS (X : Cx) (st : Stmt) (t : TS) : Prop :=
  ∀ (pins : List (Addr × Obj)) (s : Shared) (σ : St) (H : Hp) (D : Ends), Inv X pins σ H s → t D σ H → wpAny (model X.prog X.w) X.A (exec st X.env) (SP X pins D) X.xe s
def PSs (X : Cx) (st : List Stmt) (t : TS) : Prop :=
  ∀ (pins : List (Addr × Obj)) (s : Shared) (σ : St) (H : Hp) (D : Ends), Inv X pins σ H s → t D σ H → wpAny (model X.prog X.w) X.A (execs st X.env) (SP X pins D) X.xe s
theorem thn {α : Type} {t : Sem α} {Q Q' : α → Shared → Prop} {M : Model} {A : Around} {E : Value → Shared → Prop} {s : Shared} (h : wpAny M A t Q E s) (hQ : ∀ a s, Q a s → Q' a s) : wpAny M A t Q' E s := wpAny_mono h hQ fun _ _ x => x
end L2
namespace L2
open PySem PySem.Spec PyProof.Rows
section
variable {X : Cx}
def tVar (i : Nat) : TE := fun σ H Q => ∃ v, σ[i]? = some (some v) ∧ Q v H
def tC (v : V) : TE := fun _ H Q => Q v H
theorem pe_var {i : Nat} {x : Str} {pos : Pos} (hN : X.N[i]? = some x) (hv : Vis X.env.scope x) (hd : (x == ("__debug__" : Str)) = false := by decide) (hcd : (x == ("__classdict__" : Str)) = false := by decide) : PE X (.Name x pos) (tVar i) := by
  intro pins s σ H Q I h
  obtain ⟨v, e, h⟩ := h
  obtain ⟨m, hn, hl⟩ := I.loc
  obtain ⟨u, r, l⟩ := hl i x v hN e hv
  have fin : EP X pins σ Q u s := ⟨v, H, I, r, h⟩
  rcases l with ⟨hk, hm⟩ | ⟨hk, c, hc, hcell⟩
  · exact wpAny_Name (wpAny_loadName_local I.ok.kind hk hn hm fin) hd
  · rcases hk with hk | hk
    · exact wpAny_Name (wpAny_loadName_cell I.ok.kind hk hc hcell fin) hd
    · exact wpAny_Name (wpAny_loadName_free I.ok.kind hk hc hcell fin hcd) hd
theorem pe_int {i j pos} : PE X (.Constant (.int i) j pos) (tC (.int i)) := fun _ _ _ H _ I h => wpAny_Constant_int ⟨.int i, H, I.tok _, ⟨_, rfl⟩, h⟩
theorem pe_bl {b j pos} : PE X (.Constant (.bool b) j pos) (tC (.bl b)) := fun _ _ _ H _ I h => Constant_bool ⟨.bl b, H, I, rfl, h⟩
theorem pe_non {j pos} : PE X (.Constant .none j pos) (tC .non) := fun _ _ _ H _ I h => Constant_none ⟨.non, H, I, rfl, h⟩
def Gl (X : Cx) (x : Str) : Prop := X.env.kindOf x = some .globalImplicit
theorem ld_glob {E : Value → Shared → Prop} {pins : List (Addr × Obj)} {s : Shared} {σ : St} {H : Hp} {x : Str} {u : Value} {pos : Pos} {Q : Value → Shared → Prop} (I : Inv X pins σ H s) (hg : Gl X x) (hm : X.mg x = some u) (h : Q u s)
    (hd : (x == ("__debug__" : Str)) = false := by decide) : wpAny (model X.prog X.w) X.A (eval (.Name x pos) X.env) Q E s :=
  Calls.Name_function_global I.ok.kind hg (Calls.loadGlobal_global (by rw [I.ok.glob]; exact I.mod.glob.keeps I.bk) hm h) hd
theorem ld_blt {E : Value → Shared → Prop} {pins : List (Addr × Obj)} {s : Shared} {σ : St} {H : Hp} {x : Str} {u : Value} {pos : Pos} {Q : Value → Shared → Prop} (I : Inv X pins σ H s) (hg : Gl X x) (hm : X.mg x = none) (hv : bootBuiltins x = some u) (h : Q u s)
    (hn : x ≠ "__name__" := by decide) (hd : (x == ("__debug__" : Str)) = false := by decide) : wpAny (model X.prog X.w) X.A (eval (.Name x pos) X.env) Q E s := by
  obtain ⟨mb, h1, h2⟩ := I.mod.blt
  exact Calls.Name_function_global I.ok.kind hg (Calls.loadGlobal_builtin (by rw [I.ok.glob]; exact I.mod.glob.keeps I.bk) hm (by rw [I.ok.blt]; exact h1.keeps I.bk) ((h2 x hn).trans hv) h) hd
theorem pe_glob {x : Str} {v : V} {u : Value} {pos : Pos} (hg : Gl X x) (hm : X.mg x = some u) (r : RelV v u) (hd : (x == ("__debug__" : Str)) = false := by decide) : PE X (.Name x pos) (tC v) :=
  fun _ _ _ H _ I h => ld_glob I hg hm ⟨v, H, I, r, h⟩ hd
theorem pe_bltn {x : Str} {v : V} {u : Value} {pos : Pos} (hg : Gl X x) (hm : X.mg x = none) (hv : bootBuiltins x = some u) (r : RelV v u) (hn : x ≠ "__name__" := by decide) (hd : (x == ("__debug__" : Str)) = false := by decide) : PE X (.Name x pos) (tC v) :=
  fun _ _ _ H _ I h => ld_blt I hg hm hv ⟨v, H, I, r, h⟩ hn hd
def t2I (ta tb : TE) (k : Int → Int → Hp → Prop) : St → Hp → Prop := fun σ H => ta σ H fun x H1 => tb σ H1 fun y H2 => ∃ i j, x = .int i ∧ y = .int j ∧ k i j H2
def tAdd (ta tb : TE) : TE := fun σ H Q => t2I ta tb (fun i j H2 => Q (.int (i + j)) H2) σ H
def tSub (ta tb : TE) : TE := fun σ H Q => t2I ta tb (fun i j H2 => Q (.int (i - j)) H2) σ H
def tMul (ta tb : TE) : TE := fun σ H Q => t2I ta tb (fun i j H2 => (-(2 ^ 64) < i ∧ i < 2 ^ 64) ∧ Q (.int (i * j)) H2) σ H
variable {a b : Expr} {ta tb : TE} {pos : Pos}
def PC (X : Cx) (op : CmpOp) (a b : Expr) (t : TE) : Prop :=
  ∀ (pins : List (Addr × Obj)) (s : Shared) (σ : St) (H : Hp) (Q : VK), Inv X pins σ H s → t σ H Q →
    wpAny (model X.prog X.w) X.A (eval a X.env) (fun v s₁ => wpAny (model X.prog X.w) X.A (eval b X.env) (fun u s₂ => wpAny (model X.prog X.w) X.A (compareOp op v u) (EP X pins σ Q) X.xe s₂) X.xe s₁) X.xe s
def tCmp (p : Int → Int → Bool) (ta tb : TE) : TE := fun σ H Q => t2I ta tb (fun i j H2 => Q (.bl (p i j)) H2) σ H
abbrev tLt : TE → TE → TE := tCmp fun i j => decide (i < j)
abbrev tLe : TE → TE → TE := tCmp fun i j => decide (i ≤ j)
abbrev tGt : TE → TE → TE := tCmp fun i j => decide (j < i)
abbrev tGe : TE → TE → TE := tCmp fun i j => decide (j ≤ i)
abbrev tEqI : TE → TE → TE := tCmp fun i j => decide (i = j)
abbrev tNeI : TE → TE → TE := tCmp fun i j => !decide (i = j)
def tIsN (ta : TE) : TE := fun σ H Q => ta σ H fun x H1 => Q (.bl (decide (x = .non))) H1
def tNotN (ta : TE) : TE := fun σ H Q => ta σ H fun x H1 => Q (.bl (!decide (x = .non))) H1
def tB (t : TE) : TT := fun σ H Q => t σ H fun x H1 => ∃ c, x = .bl c ∧ Q c H1
variable {tA tB' : TT} {rest : List Expr}
def tAnd (t u : TT) : TT := fun σ H Q => t σ H fun c H1 => if c = true then u σ H1 Q else Q false H1
def tOr (t u : TT) : TT := fun σ H Q => t σ H fun c H1 => if c = true then Q true H1 else u σ H1 Q
def tNot (t : TT) : TT := fun σ H Q => t σ H fun c H1 => Q (!c) H1
theorem pw_or1 (ha : PT X a tA) : PW X (.BoolOp .Or [a] pos) tA := by
  intro wh pins s σ H Q I h
  refine isTrue_or (thn (ha pins s σ H Q I h) fun c s1 e => ?_)
  cases c with
  | false => exact isTrue_or_nil e
  | true => exact e
theorem pw_or (ha : PT X a tA) (hb : PW X (.BoolOp .Or (b :: rest) pos) tB') : PW X (.BoolOp .Or (a :: b :: rest) pos) (tOr tA tB') := by
  intro wh pins s σ H Q I h
  refine isTrue_or (thn (ha pins s σ H _ I h) fun c s1 ⟨H1, I1, q1⟩ => ?_)
  cases c with
  | true => exact ⟨H1, I1, q1⟩
  | false => exact hb wh pins s1 σ H1 Q I1 q1
theorem pt_not (ha : PT X a tA) : PT X (.UnaryOp .Not a pos) (tNot tA) := by
  intro pins s σ H Q I h
  exact isTrue_not (ha pins s σ H (fun c H1 => Q (!c) H1) I h)
def tAndV (ta tb : TE) : TE := fun σ H Q => ta σ H fun x H1 => ∃ c, x = .bl c ∧ if c = true then tb σ H1 Q else Q (.bl false) H1
def tOrV (ta tb : TE) : TE := fun σ H Q => ta σ H fun x H1 => ∃ c, x = .bl c ∧ if c = true then Q (.bl true) H1 else tb σ H1 Q
def tNotV (ta : TE) : TE := fun σ H Q => ta σ H fun x H1 => ∃ c, x = .bl c ∧ Q (.bl (!c)) H1
theorem pe_one {op} {t : TE} (h : PE X a t) : PE X (.BoolOp op [a] pos) t := fun pins s σ H Q I hw => BoolOp_one (h pins s σ H Q I hw)
theorem pe_and (ha : PE X a ta) (hb : PE X (.BoolOp .And (b :: rest) pos) tb) : PE X (.BoolOp .And (a :: b :: rest) pos) (tAndV ta tb) := by
  intro pins s σ H Q I h
  refine BoolOp_and (thn (ha pins s σ H _ I h) fun v s1 ⟨x, H1, I1, r1, q1⟩ => ?_)
  obtain ⟨c, rfl, q1⟩ := q1
  cases r1
  refine wpAny_truthy_bool ?_
  cases c with
  | true => exact hb pins s1 σ H1 Q I1 q1
  | false => exact ⟨.bl false, H1, I1, rfl, q1⟩
theorem pe_not (ha : PE X a ta) : PE X (.UnaryOp .Not a pos) (tNotV ta) := by
  intro pins s σ H Q I h
  refine UnaryOp_ (thn (ha pins s σ H _ I h) fun v s1 ⟨x, H1, I1, r1, q1⟩ => ?_)
  obtain ⟨c, rfl, q1⟩ := q1
  cases r1
  exact not_of (wpAny_truthy_bool ⟨.bl (!c), H1, I1, rfl, q1⟩)
def tIf (t : TT) (ta tb : TE) : TE := fun σ H Q => t σ H fun c H1 => if c = true then ta σ H1 Q else tb σ H1 Q
theorem pe_ifExp {c : Expr} (hc : PT X c tA) (ha : PE X a ta) (hb : PE X b tb) : PE X (.IfExp c a b pos) (tIf tA ta tb) := by
  intro pins s σ H Q I h
  refine wpAny_IfExp (thn (hc pins s σ H _ I h) fun d s1 ⟨H1, I1, q1⟩ => ?_)
  cases d with
  | true => exact ha pins s1 σ H1 Q I1 q1
  | false => exact hb pins s1 σ H1 Q I1 q1
end
end L2
namespace L2
open PySem PySem.Spec PyProof.Rows
def SqL (K : PySem.W.Frag) (H : Hp) (a : Addr) (xs : List V) : Prop :=
  Rd H a (.lst xs) ∨
    ∃ (o : Obj) (its : Array Value) (n : Nat), K.lookup a = some o ∧ o.cls = .type "list" ∧ o.dict = none ∧ o.data = .seq its n ∧ its.size ≤ sizeLine ∧ Vals xs its.toList
def SqT (K : PySem.W.Frag) (H : Hp) (a : Addr) (xs : List V) : Prop :=
  Rd H a (.tup xs) ∨
    ∃ (o : Obj) (its : Array Value) (n : Nat), K.lookup a = some o ∧ o.cls = .type "tuple" ∧ o.data = .seq its n ∧ its.size ≤ sizeLine ∧ Vals xs its.toList
def absV : Value → Option V
  | .none => some .non
  | .bool b => some (.bl b)
  | .int i _ => some (.int i)
  | .str x _ => some (.str x)
  | .bytes b _ => some (.byt b)
  | .float b _ => some (.flt b)
  | .ref a => some (.ref a)
  | .type n => some (.ty n)
  | _ => none
theorem RelV.abs {x : V} {u : Value} (r : RelV x u) : absV u = some x := by
  cases x with
  | non => cases r; rfl
  | bl _ => cases r; rfl
  | int _ => obtain ⟨t, rfl⟩ := r; rfl
  | str _ => obtain ⟨t, rfl⟩ := r; rfl
  | byt _ => obtain ⟨t, rfl⟩ := r; rfl
  | flt _ => obtain ⟨t, rfl⟩ := r; rfl
  | ref _ => cases r; rfl
  | ty _ => cases r; rfl
theorem RelV.inj {x y : V} {u : Value} (r : RelV x u) (q : RelV y u) : x = y := Option.some.inj (r.abs.symm.trans q.abs)
theorem Vals.inj : ∀ {xs ys : List V} {us : List Value}, Vals xs us → Vals ys us → xs = ys
  | _, _, _, .nil, .nil => rfl
  | _, _, _, .cons r t, .cons r' t' => by rw [r.inj r', Vals.inj t t']
section
variable {X : Cx} {pins : List (Addr × Obj)} {σ : St} {H : Hp} {s : Shared} {a : Addr} {xs ys : List V}
theorem SqL.of {K : PySem.W.Frag} (h : H a = some (.lst xs)) : SqL K H a xs := .inl (.inl h)
theorem SqT.of {K : PySem.W.Frag} (h : H a = some (.tup xs)) : SqT K H a xs := .inl (.inl h)
theorem Inv.list (I : Inv X pins σ H s) (h : SqL X.K H a xs) : ∃ its : List Value, Vals xs its ∧ PlainL s.heap a its.toArray ∧ xs.length ≤ sizeLine := by
  rcases h with h | ⟨o, its, n, hk, hc, hd, hs, hz, r⟩
  · obtain ⟨z, its, n, r, e⟩ := h.ok I.hok
    exact ⟨its, r, ⟨_, n, e, rfl, rfl, rfl⟩, z⟩
  · refine ⟨its.toList, r, ⟨o, n, I.kIn a o hk, hc, hd, by simpa using hs⟩, ?_⟩
    have e := r.length
    simp only [Array.length_toList] at e
    omega
theorem Inv.tuple (I : Inv X pins σ H s) (h : SqT X.K H a xs) : ∃ its : List Value, Vals xs its ∧ IsTup s.heap a its.toArray ∧ xs.length ≤ sizeLine := by
  rcases h with h | ⟨o, its, n, hk, hc, hs, hz, r⟩
  · obtain ⟨z, its, r, p⟩ := h.ok I.hok
    exact ⟨its, r, p, z⟩
  · refine ⟨its.toList, r, ⟨o, I.kIn a o hk, hc, n, by simpa using hs⟩, ?_⟩
    have e := r.length
    simp only [Array.length_toList] at e
    omega
theorem Inv.list_inj (I : Inv X pins σ H s) (h : SqL X.K H a xs) (h' : SqL X.K H a ys) : xs = ys := by
  obtain ⟨its, r, ⟨o, n, e, _, _, d⟩, _⟩ := I.list h
  obtain ⟨its', r', ⟨o', n', e', _, _, d'⟩, _⟩ := I.list h'
  rw [e] at e'; cases e'
  rw [d] at d'
  injection d' with d1 _
  have : its = its' := by simpa using congrArg Array.toList d1
  subst this
  exact r.inj r'
theorem Inv.tuple_inj (I : Inv X pins σ H s) (h : SqT X.K H a xs) (h' : SqT X.K H a ys) : xs = ys := by
  obtain ⟨its, r, ⟨o, e, _, n, d⟩, _⟩ := I.tuple h
  obtain ⟨its', r', ⟨o', e', _, n', d'⟩, _⟩ := I.tuple h'
  rw [e] at e'; cases e'
  rw [d] at d'
  injection d' with d1 _
  have : its = its' := by simpa using congrArg Array.toList d1
  subst this
  exact r.inj r'
end
abbrev Cx.wish (X : Cx) (E : Value → Shared → Prop) : Cx := { X with xe := E }
abbrev Cx.nox (X : Cx) : Cx := X.wish fun _ _ => False
theorem Cx.Ok.wish {X : Cx} (ok : X.Ok) (E : Value → Shared → Prop) : (X.wish E).Ok :=
  ⟨ok.mod, ok.kind, ok.glob, ok.blt, ok.above, ok.inj, ok.has, ok.cab, ok.hd, ok.frames, ok.stk, ok.exf, ok.bs, ok.bsz, ok.noex, ok.exfs, ok.funs, ok.frf⟩
theorem Cx.Ok.unwish {X : Cx} {E : Value → Shared → Prop} (ok : (X.wish E).Ok) : X.Ok :=
  ⟨ok.mod, ok.kind, ok.glob, ok.blt, ok.above, ok.inj, ok.has, ok.cab, ok.hd, ok.frames, ok.stk, ok.exf, ok.bs, ok.bsz, ok.noex, ok.exfs, ok.funs, ok.frf⟩
section
variable {X : Cx} {pins : List (Addr × Obj)} {σ : St} {H : Hp} {s : Shared} {E : Value → Shared → Prop}
theorem Inv.wish (I : Inv X pins σ H s) (E : Value → Shared → Prop) : Inv (X.wish E) pins σ H s := ⟨I.ok.wish E, I.os, I.bare, I.base, I.loc, I.cell, I.free, I.freeC, I.pin, I.hok, I.len⟩
theorem Inv.unwish (I : Inv (X.wish E) pins σ H s) : Inv X pins σ H s := ⟨I.ok.unwish, I.os, I.bare, I.base, I.loc, I.cell, I.free, I.freeC, I.pin, I.hok, I.len⟩
theorem SP.unwish {D : Ends} {f : Flow} {s' : Shared} (h : SP (X.wish E) pins D f s') : SP X pins D f s' := by
  cases f with
  | next => obtain ⟨σ', H', I, q⟩ := h; exact ⟨σ', H', I.unwish, q⟩
  | brk => obtain ⟨σ', H', I, q⟩ := h; exact ⟨σ', H', I.unwish, q⟩
  | cont => obtain ⟨σ', H', I, q⟩ := h; exact ⟨σ', H', I.unwish, q⟩
  | ret u => obtain ⟨v, σ', H', I, r, q⟩ := h; exact ⟨v, σ', H', I.unwish, r, q⟩
theorem PE.nox {e : Expr} {t : TE} (h : PE X.nox e t) : PE X e t := fun pins s σ H Q I hw =>
  wpAny_mono (h pins s σ H Q (I.wish _) hw) (fun _ _ ⟨v, H', I', r, q⟩ => ⟨v, H', I'.unwish, r, q⟩) fun _ _ z => False.elim z
theorem PT.nox {e : Expr} {t : TT} (h : PT X.nox e t) : PT X e t := fun pins s σ H Q I hw =>
  wpAny_mono (h pins s σ H Q (I.wish _) hw) (fun _ _ ⟨H', I', q⟩ => ⟨H', I'.unwish, q⟩) fun _ _ z => False.elim z
theorem PSs.nox {st : List Stmt} {t : TS} (h : PSs X.nox st t) : PSs X st t := fun pins s σ H D I hw =>
  wpAny_mono (h pins s σ H D (I.wish _) hw) (fun _ _ q => q.unwish) fun _ _ z => False.elim z
end
section
variable {X : Cx} {st : Stmt} {rest : List Stmt} {t u : TS} {e : Expr} {te : TE} {pos : Pos}
def tNext : TS := fun D σ H => D.nx σ H
def tSeq (t u : TS) : TS := fun D σ H => t { D with nx := u D } σ H
theorem pss_nil : PSs X [] tNext := fun _ _ σ H _ I h => wpAny_execs_nil ⟨σ, H, I, h⟩
theorem pss_cons (h1 : PS X st t) (h2 : PSs X rest u) : PSs X (st :: rest) (tSeq t u) := by
  intro pins s σ H D I h
  refine wpAny_execs_cons (thn (h1 pins s σ H { D with nx := u D } I h) fun f s1 q => ?_)
  cases f with
  | next =>
    obtain ⟨σ', H', I', q⟩ := q
    exact h2 pins s1 σ' H' D I' q
  | ret v => exact q
  | brk => exact q
  | cont => exact q
theorem pss_one (h1 : PS X st t) : PSs X [st] t := by
  intro pins s σ H D I h
  refine wpAny_execs_cons (thn (h1 pins s σ H D I h) fun f s1 q => ?_)
  cases f with
  | next => exact wpAny_execs_nil q
  | ret v => exact q
  | brk => exact q
  | cont => exact q
def tBreak : TS := fun D σ H => D.bk σ H
def tCont : TS := fun D σ H => D.ct σ H
theorem Inv.quiet {pins : List (Addr × Obj)} {σ : St} {H : Hp} {s : Shared} (I : Inv X pins σ H s) : interactive X.env = false := by simp [interactive, I.ok.kind]
def tDrop (te : TE) : TS := fun D σ H => te σ H fun _ H1 => D.nx σ H1
theorem ps_expr (he : PE X e te) (hs : swapsWith e none pos.line X.env = pure false := by rfl) : PS X (.Expr e pos) (tDrop te) := by
  intro pins s σ H D I h
  exact wpAny_Expr_any (thn (he pins s σ H _ I h) fun v s1 ⟨x, H1, I1, r1, q1⟩ => ⟨σ, H1, I1, q1⟩) I.quiet hs
def tRet (te : TE) : TS := fun D σ H => te σ H D.rt
theorem ps_ret (he : PE X e te) : PS X (.Return (some e) pos) (tRet te) := by
  intro pins s σ H D I h
  exact wpAny_Return_some (thn (he pins s σ H _ I h) fun v s1 ⟨x, H1, I1, r1, q1⟩ => ⟨x, σ, H1, I1, r1, q1⟩)
def tRetN : TS := fun D _ H => D.rt .non H
def tIfS (c : TT) (t u : TS) : TS := fun D σ H => c σ H fun b H1 => if b = true then t D σ H1 else u D σ H1
theorem ps_if {c : Expr} {a b : List Stmt} {tc : TT} (hc : PT X c tc) (ha : PSs X a t) (hb : PSs X b u) : PS X (.If c a b pos) (tIfS tc t u) := by
  intro pins s σ H D I h
  refine wpAny_If (thn (hc pins s σ H _ I h) fun d s1 ⟨H1, I1, q1⟩ => ?_)
  cases d with
  | true => exact ha pins s1 σ H1 D I1 q1
  | false => exact hb pins s1 σ H1 D I1 q1
def tNever : TS := fun _ _ _ => False
end
abbrev TG := V → St → Hp → (St → Hp → Prop) → Prop
abbrev TGs := List V → St → Hp → (St → Hp → Prop) → Prop
def PG (X : Cx) (target : Expr) (t : TG) : Prop :=
  ∀ (pins : List (Addr × Obj)) (s : Shared) (σ : St) (H : Hp) (v : V) (u : Value) (Q : St → Hp → Prop), Inv X pins σ H s → RelV v u → t v σ H Q →
    wpAny (model X.prog X.w) X.A (assign target X.env u) (fun _ s' => ∃ σ' H', Inv X pins σ' H' s' ∧ Q σ' H') X.xe s
def PGs (X : Cx) (ts : List Expr) (t : TGs) : Prop :=
  ∀ (pins : List (Addr × Obj)) (s : Shared) (σ : St) (H : Hp) (vs : List V) (us : List Value) (Q : St → Hp → Prop), Inv X pins σ H s → Vals vs us → t vs σ H Q →
    wpAny (model X.prog X.w) X.A (assignInOrder ((assignEach ts X.env).map (·.2)) us) (fun _ s' => ∃ σ' H', Inv X pins σ' H' s' ∧ Q σ' H') X.xe s
abbrev TSet := V → V → V → Hp → (Hp → Prop) → Prop
def PSet (X : Cx) (t : TSet) : Prop :=
  ∀ (pins : List (Addr × Obj)) (s : Shared) (σ : St) (H : Hp) (o i v : V) (ov iv u : Value) (Q : Hp → Prop), Inv X pins σ H s → RelV o ov → RelV i iv → RelV v u → t o i v H Q →
    wpAny (model X.prog X.w) X.A (setItem ov iv u) (fun _ s' => ∃ H', Inv X pins σ H' s' ∧ Q H') X.xe s
abbrev TIp := V → V → Hp → VK → Prop
def PIp (X : Cx) (op : Operator) (t : TIp) : Prop :=
  ∀ (pins : List (Addr × Obj)) (s : Shared) (σ : St) (H : Hp) (x y : V) (v u : Value) (Q : VK), Inv X pins σ H s → RelV x v → RelV y u → t x y H Q →
    wpAny (model X.prog X.w) X.A (inplaceOp op v u) (EP X pins σ Q) X.xe s
section
variable {X : Cx} {pos : Pos}
def gName (i : Nat) : TG := fun v σ H Q => Q (σ.set i (some v)) H
theorem pg_name {i : Nat} {x : Str} (hN : X.N.Nodup) (hi : X.N[i]? = some x) (hx : Loc X.env.scope x) (hf : X.fn x = true ∨ X.env.scope.names.lookup x = some .local := by first | exact .inl rfl | exact .inr rfl | assumption) : PG X (.Name x pos) (gName i) := by
  intro pins s σ H v u Q I r h
  exact wpAny_assign_Name (store_ok I hN hi hx r (fun s' I' => ⟨_, H, I', h⟩) hf)
def gNil : TGs := fun vs σ H Q => vs = [] ∧ Q σ H
def gCons (t : TG) (u : TGs) : TGs := fun vs σ H Q => ∃ v r, vs = v :: r ∧ t v σ H fun σ' H' => u r σ' H' Q
theorem pgs_nil : PGs X [] gNil := by
  intro pins s σ H vs us Q I r h
  obtain ⟨e, h⟩ := h
  subst e
  cases r
  exact assignInOrder_nil ⟨σ, H, I, h⟩
theorem pgs_cons {e : Expr} {es : List Expr} {t : TG} {u : TGs} (h1 : PG X e t) (h2 : PGs X es u)
    (hs : (assignEach (e :: es) X.env).map (·.2) = assign e X.env :: (assignEach es X.env).map (·.2) := by rfl) : PGs X (e :: es) (gCons t u) := by
  intro pins s σ H vs us Q I r h
  obtain ⟨v, vr, e1, h⟩ := h
  subst e1
  cases r with
  | cons r rr =>
    rw [hs]
    refine assignInOrder_cons (thn (h1 pins s σ H _ _ _ I r h) fun _ s1 ⟨σ1, H1, I1, q1⟩ => ?_)
    exact h2 pins s1 σ1 H1 _ _ Q I1 rr q1
def gTup (K : PySem.W.Frag) (n : Nat) (t : TGs) : TG := fun v σ H Q => ∃ a xs, v = .ref a ∧ SqT K H a xs ∧ xs.length = n ∧ t xs σ H Q
theorem pg_tup {es : List Expr} {k : Nat} {t : TGs} {n : Nat} (hc : X.calm = true) (h : PGs X es t)
    (hn : (assignEach es X.env).length = n := by rfl) (hst : (assignEach es X.env).findIdx? (·.1) = none := by rfl) : PG X (.Tuple es k pos) (gTup X.K n t) := by
  intro pins s σ H v u Q I r hw
  obtain ⟨a, xs, e1, hq, hl, hw⟩ := hw
  subst e1
  cases r
  obtain ⟨its, rv, ht, hz⟩ := I.tuple hq
  refine assign_Tuple_tuple (I.ok.hd hc) ht (by simp [hn, ← hl, rv.length]) hst fun h' hx => ?_
  have I1 : Inv X pins σ H { s with heap := h' } := I.kept (t' := s.toks) fun b o e => hx b o (Nat.ne_of_lt (Heap.lt_size e)) e
  exact h pins _ σ H xs _ Q I1 (by simpa using rv) hw
def gSub (to ti : TE) (t : TSet) : TG := fun v σ H Q => to σ H fun o H1 => ti σ H1 fun i H2 => t o i v H2 fun H3 => Q σ H3
theorem pg_sub {o i : Expr} {to ti : TE} {t : TSet} (ho : PE X o to) (hi : PE X i ti) (hs : PSet X t)
    (ha : ∀ v, assign (.Subscript o i pos) X.env v = (do
      let ov ← holding [v] (eval o X.env)
      let iv ← holding [v, ov] (eval i X.env)
      standAt pos
      holding [v, ov, iv] (setItem ov iv v)
      release [v, ov, iv] []) := by intro _; rfl) : PG X (.Subscript o i pos) (gSub to ti t) := by
  intro pins s σ H v u Q I r h
  rw [ha]
  refine wpAny_bind (wpAny_holding (thn (ho pins s σ H _ I h) fun ov s1 ⟨x, H1, I1, r1, q1⟩ => ?_))
  refine wpAny_bind (wpAny_holding (thn (hi pins s1 σ H1 _ I1 q1) fun iv s2 ⟨y, H2, I2, r2, q2⟩ => ?_))
  refine wpAny_bind (wpAny_standAt (wpAny_bind (wpAny_holding (thn (hs pins s2 σ H2 x y v ov iv u _ I2 r1 r2 r q2) fun _ s3 ⟨H3, I3, q3⟩ => ?_))))
  exact wpAny_release ⟨σ, H3, I3, q3⟩
def tAsg (te : TE) (g : TG) : TS := fun D σ H => te σ H fun x H1 => g x σ H1 D.nx
theorem ps_asg {tg e : Expr} {te : TE} {g : TG} (he : PE X e te) (hg : PG X tg g) (hs : swapsWithSole [tg] e pos.line X.env = pure false := by rfl) (hw : swappedStores [tg] e X.env = pure none := by rfl)
    (h1 : (assignEach [tg] X.env).map (·.2) = [assign tg X.env] := by rfl) : PS X (.Assign [tg] e pos) (tAsg te g) := by
  intro pins s σ H D I h
  refine wpAny_Assign_stores (thn (he pins s σ H _ I h) fun v s1 ⟨x, H1, I1, r1, q1⟩ => ?_) hs hw
  rw [h1]
  exact thn (hg pins s1 σ H1 x v _ I1 r1 q1) fun _ s2 q => q
theorem ps_set {i : Nat} {x : Str} {e : Expr} {te : TE} {pos' : Pos} (hN : X.N.Nodup) (hi : X.N[i]? = some x) (hx : Loc X.env.scope x) (he : PE X e te) (hs : swapsWith e (some (.Name x pos')) pos.line X.env = pure false := by rfl) (hf : X.fn x = true ∨ X.env.scope.names.lookup x = some .local := by first | exact .inl rfl | exact .inr rfl | assumption) :
    PS X (.Assign [.Name x pos'] e pos) (tAsg te (gName i)) := by
  intro pins s σ H D I h
  refine wpAny_Assign_Name (thn (he pins s σ H _ I h) fun v s1 ⟨y, H1, I1, r1, q1⟩ => ?_) hs
  exact store_ok I1 hN hi hx r1 (fun s2 I2 => ⟨_, H1, I2, q1⟩) hf
def tPar (i j : Nat) (ta : TA) : TS := fun D σ H => ta σ H fun vs H1 => ∃ v w, vs = [v, w] ∧ D.nx ((σ.set i (some v)).set j (some w)) H1
theorem ps_par {i j : Nat} {x y : Str} {a b : Expr} {ta : TA} {px py pt : Pos} {kt k2 pt2} (hc : X.calm = true) (hN : X.N.Nodup) (hi : X.N[i]? = some x) (hj : X.N[j]? = some y) (hij : i ≠ j)
    (hx : X.env.scope.names.lookup x = some .local) (hy : X.env.scope.names.lookup y = some .local) (ha : PA X [a, b] ta)
    (hw : swappedStores [.Tuple [.Name x px, .Name y py] kt pt] (.Tuple [a, b] k2 pt2) X.env = pure (some [x, y]))
    (hs : swapsWithSole [.Tuple [.Name x px, .Name y py] kt pt] (.Tuple [a, b] k2 pt2) pos.line X.env = pure false := by rfl) :
    PS X (.Assign [.Tuple [.Name x px, .Name y py] kt pt] (.Tuple [a, b] k2 pt2) pos) (tPar i j ta) := by
  intro pins s σ H D I h
  rw [exec_Assign_arm]
  refine wpAny_bind (wpAny_standAt ?_)
  rw [hs]
  refine wpAny_bind (wpAny_pure ?_)
  rw [if_neg (by decide)]
  refine wpAny_bind (Tuple_ (thn (ha _ pins s σ H _ I h) fun us s1 ⟨vs, H1, I1, r1, q1⟩ => ?_))
  obtain ⟨v, w, e1, q1⟩ := q1
  subst e1
  obtain ⟨u1, u2, rfl, rv, rw'⟩ : ∃ u1 u2, us = [u1, u2] ∧ RelV v u1 ∧ RelV w u2 := by
    cases r1 with
    | cons p q =>
      cases q with
      | cons p' q' =>
        cases q'
        exact ⟨_, _, rfl, p, p'⟩
  refine wpAny_newObj_type ?_ (by show 2 ≤ sizeLine; decide)
  have I2 : Inv X pins σ H1 { s1 with heap := s1.heap.push { cls := .type "tuple", data := .seq [u1, u2].toArray } } := I1.kept (t' := s1.toks) fun b o e => Heap.get?_push_of_some _ e
  rw [hw]
  refine wpAny_bind (wpAny_pure ?_)
  show wpAny (model X.prog X.w) X.A (do rule "assign.swapped-stores"; let items ← unpackItems (.ref s1.heap.objs.size) 2 none; assignInOrder [fun v => bindName X.env y v, fun v => bindName X.env x v] items.reverse; pure Flow.next) _ _ _
  refine wpAny_bind (wpAny_rule (wpAny_bind (unpackItems_tuple (items := #[u1, u2]) (I.ok.hd hc) (IsTup.new s1.heap _) fun h' hx' => ?_)))
  have I3 := I2.kept (h' := h') (t' := s1.toks) fun b o e => hx' b o (Nat.ne_of_lt (Heap.lt_size e)) e
  show wpAny _ _ (assignInOrder [fun v => bindName X.env y v, fun v => bindName X.env x v] [u2, u1] >>= fun _ => pure Flow.next) _ _ _
  refine wpAny_bind (assignInOrder_cons (wpAny_bindName (store_ok I3 hN hj (.inl hy) rw' (fun s2 I4 => ?_) (.inr hy))))
  refine assignInOrder_cons (wpAny_bindName (store_ok I4 hN hi (.inl hx) rv (fun s3 I5 => assignInOrder_nil (wpAny_pure ?_)) (.inr hx)))
  rw [List.set_comm _ _ (Ne.symm hij)] at I5
  exact ⟨_, H1, I5, q1⟩
def tAug (i : Nat) (te : TE) (ti : TIp) : TS := fun D σ H => ∃ x, σ[i]? = some (some x) ∧ te σ H fun y H1 => ti x y H1 fun z H2 => D.nx (σ.set i (some z)) H2
def tAugS (to ti te : TE) (tget : V → V → Hp → VK → Prop) (tip : TIp) (tset : TSet) : TS := fun D σ H => to σ H fun o H1 => ti σ H1 fun i H2 => tget o i H2 fun x H3 => te σ H3 fun y H4 => tip x y H4 fun z H5 => tset o i z H5 fun H6 => D.nx σ H6
def PGet (X : Cx) (t : V → V → Hp → VK → Prop) : Prop :=
  ∀ (pins : List (Addr × Obj)) (s : Shared) (σ : St) (H : Hp) (o i : V) (ov iv : Value) (Q : VK), Inv X pins σ H s → RelV o ov → RelV i iv → t o i H Q →
    wpAny (model X.prog X.w) X.A (getItem ov iv) (EP X pins σ Q) X.xe s
def ipI (f : Int → Int → Int) : TIp := fun x y H Q => ∃ i j, x = .int i ∧ y = .int j ∧ Q (.int (f i j)) H
end
section
variable {X : Cx} {pos : Pos}
def tWhile (c : TT) (tb : TS) : TS := fun D σ H => ∃ W : Nat → St → Hp → Prop, (∃ m, W m σ H) ∧ ∀ m σ H, W m σ H →
  c σ H fun b H1 => if b = true then ∃ N : St → Hp → Prop, (∀ σ' H', N σ' H' → ∃ m', m' < m ∧ W m' σ' H') ∧ tb { D with nx := N, ct := N, bk := D.nx } σ H1 else D.nx σ H1
end
structure It where
  go : Nat → Hp → Prop
  yld : Nat → Hp → V → Hp → Prop
  stop : Nat → Hp → Prop
def FpOk (X : Cx) (pins : List (Addr × Obj)) (H : Hp) (b : Addr) : Prop :=
  H b = none ∧ b ≠ X.env.locals ∧ b ∉ X.fs ∧ (b ∈ X.ex ∨ X.s₀.heap.objs.size ≤ b) ∧ (∀ x c, X.env.cells.lookup x = some c → c ≠ b) ∧ ∀ p ∈ X.pn ++ pins, p.1 ≠ b
theorem Inv.fpOk {X : Cx} {pins : List (Addr × Obj)} {σ : St} {H H' : Hp} {s : Shared} {b : Addr} (I : Inv X pins σ H s) (hb : s.heap.objs.size ≤ b) (hn : H' b = none) : FpOk X pins H' b := by
  refine ⟨hn, Nat.ne_of_gt (Nat.lt_of_lt_of_le I.lt hb), I.nofs hb, .inr (Nat.le_trans I.sz hb), fun x c e z => ?_, fun p hp z => ?_⟩
  · obtain ⟨v, q⟩ := I.cell x c e
    exact absurd (Nat.lt_of_lt_of_le q.lt (by rw [z]; exact hb)) (Nat.lt_irrefl _)
  · exact absurd (Nat.lt_of_lt_of_le (Heap.lt_size (I.pin p hp).1) (by rw [z]; exact hb)) (Nat.lt_irrefl _)
structure Turn (P : Program) (w : World) (K : PySem.W.Frag) (tg : Expr) (J : It) (fp : List Addr) (it : Addr) (tn : Nat → Heap → Prop) : Prop where
  mem : it ∈ fp
  obj : ∀ i h, tn i h → ∀ b ∈ fp, ∃ o, h.get? b = some o ∧ ∀ v, o.data ≠ .cell v
  keep : ∀ i h h', tn i h → (∀ b ∈ fp, ∀ o, h.get? b = some o → h'.get? b = some o) → tn i h'
  item : ∀ (X : Cx), X.prog = P → X.w = w → X.K = K → X.calm = true → ∀ (i : Nat) (pins : List (Addr × Obj)) (s : Shared) (σ : St) (H : Hp) (E : Value → Shared → Prop), Inv X pins σ H s → (∀ b ∈ fp, FpOk X pins H b) → tn i s.heap → J.go i H →
    wpAny (model P w) X.A (pyNext (.ref it)) (fun r s1 => ∃ u, r = some u ∧
      wpAny (model P w) X.A (letOwnedTupleGo tg (.ref it) u) (fun _ s2 => ∃ x H', Inv X pins σ H' s2 ∧ RelV x u ∧ J.yld i H x H' ∧ tn (i + 1) s2.heap ∧ ∀ b ∈ fp, H' b = none) E s1) E s
  done : ∀ (X : Cx), X.prog = P → X.w = w → X.K = K → X.calm = true → ∀ (i : Nat) (pins : List (Addr × Obj)) (s : Shared) (σ : St) (H : Hp) (E : Value → Shared → Prop), Inv X pins σ H s → (∀ b ∈ fp, FpOk X pins H b) → tn i s.heap → J.stop i H →
    wpAny (model P w) X.A (pyNext (.ref it)) (fun r s1 => r = none ∧ Inv X pins σ H s1) E s
  self : ∀ (A : Around) (i : Nat) (s : Shared) (Q : Value → Shared → Prop) (E : Value → Shared → Prop), tn i s.heap → Q (.ref it) s → wpAny (model P w) A (pyIter (.ref it)) Q E s
abbrev TI := St → Hp → (It → Hp → Prop) → Prop
def PIE (X : Cx) (pins : List (Addr × Obj)) (σ : St) (tg : Expr) (R : It → Hp → Prop) (itv : Value) (s2 : Shared) : Prop :=
  ∃ (it : Addr) (fp : List Addr) (tn : Nat → Heap → Prop) (J : It) (H' : Hp), itv = .ref it ∧ Inv X pins σ H' s2 ∧ Turn X.prog X.w X.K tg J fp it tn ∧ tn 0 s2.heap ∧ (∀ b ∈ fp, FpOk X pins H' b) ∧ R J H'
def PI (X : Cx) (tg iter : Expr) (wi : TI) : Prop :=
  ∀ (pins : List (Addr × Obj)) (s : Shared) (σ : St) (H : Hp) (R : It → Hp → Prop), Inv X pins σ H s → wi σ H R →
    wpAny (model X.prog X.w) X.A (eval iter X.env) (fun v s1 => wpAny (model X.prog X.w) X.A (pyIter v) (PIE X pins σ tg R) X.xe s1) X.xe s
theorem go_of {M : Model} {A : Around} {E : Value → Shared → Prop} {s : Shared} {tg : Expr} {it : Addr} {u : Value} {o : Obj} {n : String} {vs : Array Value} {Q : Unit → Shared → Prop} (ho : s.heap.get? it = some o) (hc : o.cls = .type n) (hd : o.data = .fields vs)
    (hn : ["enumerate", "zip", "dict_itemiterator", "dict_reverseitemiterator", "odict_iterator", "itertools.zip_longest", "itertools.pairwise"].contains n = false) (hQ : Q () s) : wpAny M A (letOwnedTupleGo tg (.ref it) u) Q E s := by
  unfold letOwnedTupleGo
  cases tg <;> first
    | exact wpAny_pure hQ
    | (cases u <;> first
        | exact wpAny_pure hQ
        | (refine wpAny_bind (wpAny_load ho ?_)
           rw [hc, hd]
           show wpAny M A (if (["enumerate", "zip", "dict_itemiterator", "dict_reverseitemiterator", "odict_iterator", "itertools.zip_longest", "itertools.pairwise"].contains n && vs[0]? == some (rawInt _)) = true then _ else _) Q E s
           rw [if_neg (by intro h; rw [hn, Bool.false_and] at h; cases h)]
           exact wpAny_pure hQ))
def Itl (K : PySem.W.Frag) (a : Addr) : It :=
  ⟨fun i H => ∃ xs x, SqL K H a xs ∧ xs[i]? = some x, fun i H x H' => H' = H ∧ ∀ xs, SqL K H a xs → xs[i]? = some x, fun i H => ∃ xs, SqL K H a xs ∧ xs.length ≤ i⟩
def Itt (K : PySem.W.Frag) (a : Addr) : It :=
  ⟨fun i H => ∃ xs x, SqT K H a xs ∧ xs[i]? = some x, fun i H x H' => H' = H ∧ ∀ xs, SqT K H a xs → xs[i]? = some x, fun i H => ∃ xs, SqT K H a xs ∧ xs.length ≤ i⟩
def Itr (lo : Int) (n : Nat) : It := ⟨fun i _ => i < n, fun i H x H' => H' = H ∧ x = .int (lo + i), fun i _ => n ≤ i⟩
theorem turn_list {P : Program} {w : World} {K : PySem.W.Frag} {tg : Expr} (a it : Addr) : Turn P w K tg (Itl K a) [it] it (fun i h => h.IsListIter it a i) where
  mem := by simp
  obj := fun i h st b hb => by
    have e : b = it := by simpa using hb
    subst e
    obtain ⟨o, e, c, d⟩ := st
    exact ⟨o, e, fun v z => by rw [d] at z; cases z⟩
  keep := fun i h h' st k => st.at fun o e => k it (by simp) o e
  item := by
    intro X hP hw hK hc i pins s σ H E I hf st hg
    subst hP hw hK
    obtain ⟨xs, x, hq, hx⟩ := hg
    obtain ⟨its, rv, p, hz⟩ := I.list hq
    obtain ⟨u, hu, ru⟩ := rv.get hx
    obtain ⟨f0, f1, f2, f3, f4, f5⟩ := hf it (by simp)
    refine wpAny_pyNext_list_item st p.isList (x := u) (by simpa using hu) fun h' st' sb => ?_
    have I1 : Inv X pins σ H { s with heap := h' } := I.turned (t' := s.toks) (fun b o hb e => (sb.2 b hb).trans e) f0 f1 f3 f4 f5
    obtain ⟨o, e, c, d⟩ := id st'
    exact ⟨u, rfl, go_of (s := { s with heap := h' }) e c d (by decide) ⟨x, H, I1, ru, ⟨rfl, fun ys hy => by rw [I.list_inj hy hq]; exact hx⟩, st', fun b hb => (hf b hb).1⟩⟩
  done := by
    intro X hP hw hK hc i pins s σ H E I hf st hg
    subst hP hw hK
    obtain ⟨xs, hq, hx⟩ := hg
    obtain ⟨its, rv, p, hz⟩ := I.list hq
    obtain ⟨f0, f1, f2, f3, f4, f5⟩ := hf it (by simp)
    have hl := rv.length
    exact wpAny_pyNext_list_end (I.ok.hd hc) st p.isList (by simp; omega) fun h' eb => ⟨rfl, I.turned (t' := s.toks) (fun b o hb e => eb b o hb e) f0 f1 f3 f4 f5⟩
  self := fun _ _ _ _ _ st h => wpAny_pyIter_listiter st h
theorem turn_tuple {P : Program} {w : World} {K : PySem.W.Frag} {tg : Expr} (a it : Addr) : Turn P w K tg (Itt K a) [it] it (fun i h => h.IsTupleIter it a i) where
  mem := by simp
  obj := fun i h st b hb => by
    have e : b = it := by simpa using hb
    subst e
    obtain ⟨o, e, c, d⟩ := st
    exact ⟨o, e, fun v z => by rw [d] at z; cases z⟩
  keep := fun i h h' st k => st.at fun o e => k it (by simp) o e
  item := by
    intro X hP hw hK hc i pins s σ H E I hf st hg
    subst hP hw hK
    obtain ⟨xs, x, hq, hx⟩ := hg
    obtain ⟨its, rv, p, hz⟩ := I.tuple hq
    obtain ⟨u, hu, ru⟩ := rv.get hx
    obtain ⟨f0, f1, f2, f3, f4, f5⟩ := hf it (by simp)
    refine wpAny_pyNext_tuple_item st (show s.heap.IsTuple a its.toArray from p) (x := u) (by simpa using hu) fun h' st' sb => ?_
    have I1 : Inv X pins σ H { s with heap := h' } := I.turned (t' := s.toks) (fun b o hb e => (sb.2 b hb).trans e) f0 f1 f3 f4 f5
    obtain ⟨o, e, c, d⟩ := id st'
    exact ⟨u, rfl, go_of (s := { s with heap := h' }) e c d (by decide) ⟨x, H, I1, ru, ⟨rfl, fun ys hy => by rw [I.tuple_inj hy hq]; exact hx⟩, st', fun b hb => (hf b hb).1⟩⟩
  done := by
    intro X hP hw hK hc i pins s σ H E I hf st hg
    subst hP hw hK
    obtain ⟨xs, hq, hx⟩ := hg
    obtain ⟨its, rv, p, hz⟩ := I.tuple hq
    obtain ⟨f0, f1, f2, f3, f4, f5⟩ := hf it (by simp)
    have hl := rv.length
    exact wpAny_pyNext_tuple_end (I.ok.hd hc) st (show s.heap.IsTuple a its.toArray from p) (by simp; omega) fun h' eb => ⟨rfl, I.turned (t' := s.toks) (fun b o hb e => eb b o hb e) f0 f1 f3 f4 f5⟩
  self := fun _ _ _ _ _ st h => wpAny_pyIter_tupleiter st h
theorem turn_range {P : Program} {w : World} {K : PySem.W.Frag} {tg : Expr} (it : Addr) (lo : Int) (n : Nat) : Turn P w K tg (Itr lo n) [it] it (fun i h => IsRangeIter h it (lo + (i : Nat) * 1) ((n : Int) - (i : Nat)) 1) where
  mem := by simp
  obj := fun i h st b hb => by
    have e : b = it := by simpa using hb
    subst e
    exact ⟨_, st, fun v z => by
      have z' : Data.fields _ = Data.cell v := z
      cases z'⟩
  keep := fun i h h' st k => k it (by simp) _ st
  item := by
    intro X hP hw hK hc i pins s σ H E I hf st hg
    subst hP hw hK
    obtain ⟨f0, f1, f2, f3, f4, f5⟩ := hf it (by simp)
    have W := Walks.range (prog := X.prog) (w := X.w) (I.ok.hd hc) it lo 1 n
    refine W.item i s _ _ hg st fun v h' tk hv st' kk => ?_
    obtain ⟨t, rfl⟩ := hv
    have I1 : Inv X pins σ H { s with heap := h', toks := tk } := I.turned (fun b o hb e => kk b o (by simpa using hb) e) f0 f1 f3 f4 f5
    refine ⟨_, rfl, go_of (s := { s with heap := h', toks := tk }) (n := "range_iterator") st' rfl rfl (by decide) ⟨.int (lo + i), H, I1, ⟨t, ?_⟩, ⟨rfl, rfl⟩, st', fun b hb => (hf b hb).1⟩⟩
    rw [Int.mul_one]
  done := by
    intro X hP hw hK hc i pins s σ H E I hf st hg
    subst hP hw hK
    obtain ⟨f0, f1, f2, f3, f4, f5⟩ := hf it (by simp)
    exact wpAny_pyNext_range_end (I.ok.hd hc) st (by have : n ≤ i := hg; omega) fun h' eb => ⟨rfl, I.turned (t' := s.toks) (fun b o hb e => eb b o hb e) f0 f1 f3 f4 f5⟩
  self := fun _ _ _ _ _ st h => wpAny_pyIter_rangeiter st h
end L2
namespace L2
open PySem PySem.Spec PyProof.Rows
section
variable {X : Cx} {tg : Expr}
def iList (K : PySem.W.Frag) (tl : TE) : TI := fun σ H R => tl σ H fun x H1 => ∃ a, x = .ref a ∧ (∃ xs, SqL K H1 a xs) ∧ R (Itl K a) H1
def iTup (K : PySem.W.Frag) (tl : TE) : TI := fun σ H R => tl σ H fun x H1 => ∃ a, x = .ref a ∧ (∃ xs, SqT K H1 a xs) ∧ R (Itt K a) H1
theorem pi_list {l : Expr} {tl : TE} (hl : PE X l tl) : PI X tg l (iList X.K tl) := by
  intro pins s σ H R I h
  refine thn (hl pins s σ H _ I h) fun v s1 ⟨x, H1, I1, r1, q1⟩ => ?_
  obtain ⟨a, e, ⟨xs, hq⟩, q⟩ := q1
  subst e
  cases r1
  obtain ⟨its, rv, p, hz⟩ := I1.list hq
  refine wpAny_pyIter_list p.isList ?_
  refine ⟨s1.heap.objs.size, [s1.heap.objs.size], _, _, H1, rfl, I1.kept (t' := s1.toks) fun b o e => Heap.get?_push_of_some _ e, turn_list a _, ⟨_, Heap.get?_push_size _ rfl, rfl, rfl⟩, fun b hb => ?_, q⟩
  have e : b = s1.heap.objs.size := by simpa using hb
  subst e
  exact I1.fpOk (Nat.le_refl _) (I1.hok.fresh (Nat.le_refl _))
theorem pi_tup {l : Expr} {tl : TE} (hl : PE X l tl) : PI X tg l (iTup X.K tl) := by
  intro pins s σ H R I h
  refine thn (hl pins s σ H _ I h) fun v s1 ⟨x, H1, I1, r1, q1⟩ => ?_
  obtain ⟨a, e, ⟨xs, hq⟩, q⟩ := q1
  subst e
  cases r1
  obtain ⟨its, rv, p, hz⟩ := I1.tuple hq
  refine wpAny_pyIter_tuple (show s1.heap.IsTuple a its.toArray from p) ?_
  refine ⟨s1.heap.objs.size, [s1.heap.objs.size], _, _, H1, rfl, I1.kept (t' := s1.toks) fun b o e => Heap.get?_push_of_some _ e, turn_tuple a _, ⟨_, Heap.get?_push_size _ rfl, rfl, rfl⟩, fun b hb => ?_, q⟩
  have e : b = s1.heap.objs.size := by simpa using hb
  subst e
  exact I1.fpOk (Nat.le_refl _) (I1.hok.fresh (Nat.le_refl _))
theorem range_it {pins : List (Addr × Obj)} {σ : St} {H : Hp} {s : Shared} {R : It → Hp → Prop} {E : Value → Shared → Prop} {lo hi : Int} {t u v : Tok} {tk : Nat} (I : Inv X pins σ H s) (h1 : -(2 ^ 62) ≤ lo) (h2 : lo < 2 ^ 62) (h3 : -(2 ^ 62) ≤ hi) (h4 : hi < 2 ^ 62)
    (q : R (Itr lo (hi - lo).toNat) H) : wpAny (model X.prog X.w) X.A (pyIter (.ref s.heap.objs.size)) (PIE X pins σ tg R) E { s with heap := s.heap.push { cls := .type "range", data := .fields #[.int lo t, .int hi u, .int 1 v] }, toks := tk } := by
  refine wpAny_pyIter_range (IsRange.new ..) (small_one h1 h2 h3 h4) ?_
  have I1 : Inv X pins σ H { s with heap := s.heap.push { cls := .type "range", data := .fields #[.int lo t, .int hi u, .int 1 v] }, toks := tk } := I.kept fun b o e => Heap.get?_push_of_some _ e
  refine ⟨(s.heap.push { cls := .type "range", data := .fields #[.int lo t, .int hi u, .int 1 v] }).objs.size, [(s.heap.push { cls := .type "range", data := .fields #[.int lo t, .int hi u, .int 1 v] }).objs.size], _, _, H, rfl,
    I1.kept (t' := tk) fun b o e => Heap.get?_push_of_some _ e, turn_range _ lo (hi - lo).toNat, ?_, fun b hb => ?_, q⟩
  · have e1 : lo + ((0 : Nat) : Int) * 1 = lo := by simp
    have e2 : (((hi - lo).toNat : Nat) : Int) - ((0 : Nat) : Int) = Builtin.Range.rangeSize lo hi 1 := by rw [rangeSize_one]; split <;> omega
    show IsRangeIter _ _ (lo + ((0 : Nat) : Int) * 1) ((((hi - lo).toNat : Nat) : Int) - ((0 : Nat) : Int)) 1
    rw [e1, e2]
    exact Heap.get?_push_size _ rfl
  · have e : b = (s.heap.push { cls := .type "range", data := .fields #[.int lo t, .int hi u, .int 1 v] }).objs.size := by simpa using hb
    subst e
    exact I1.fpOk (Nat.le_refl _) (I1.hok.fresh (Nat.le_refl _))
def iRng1 (ta : TA) : TI := fun σ H R => ta σ H fun vs H1 => ∃ j : Int, vs = [.int j] ∧ -(2 ^ 62) ≤ j ∧ j < 2 ^ 62 ∧ R (Itr 0 j.toNat) H1
def iRng2 (ta : TA) : TI := fun σ H R => ta σ H fun vs H1 => ∃ i j : Int, vs = [.int i, .int j] ∧ (-(2 ^ 62) ≤ i ∧ i < 2 ^ 62 ∧ -(2 ^ 62) ≤ j ∧ j < 2 ^ 62) ∧ R (Itr i (j - i).toNat) H1
theorem pi_range1 {a : Expr} {ta : TA} {p pos : Pos} (hg : Gl X "range") (hm : X.mg "range" = none) (ha : PA X [a] ta) (hs : starEach [a] X.env = [(false, eval a X.env)] := by rfl) : PI X tg (.Call (.Name "range" p) [a] [] pos) (iRng1 ta) := by
  intro pins s σ H R I h
  refine Call_ (ld_blt I hg hm boot_range (PyProof.Rows.callWith_type1 (thn (ha pos pins s σ H _ I h) fun us s1 ⟨vs, H1, I1, r1, q1⟩ => ?_) hs rfl))
  obtain ⟨j, e, q1, q2, q⟩ := q1
  subst e
  cases r1 with
  | cons r rr =>
    cases rr
    obtain ⟨t, rfl⟩ := r
    exact call_range_1 (range_it I1 (by omega) (by omega) q1 q2 (by simpa using q))
theorem pi_range2 {a b : Expr} {ta : TA} {p pos : Pos} (hg : Gl X "range") (hm : X.mg "range" = none) (ha : PA X [a, b] ta) (hs : starEach [a, b] X.env = [(false, eval a X.env), (false, eval b X.env)] := by rfl) (hs2 : starEach [b] X.env = [(false, eval b X.env)] := by rfl) :
    PI X tg (.Call (.Name "range" p) [a, b] [] pos) (iRng2 ta) := by
  intro pins s σ H R I h
  refine Call_ (ld_blt I hg hm boot_range (PyProof.Rows.callWith_type1 (thn (ha pos pins s σ H _ I h) fun us s1 ⟨vs, H1, I1, r1, q1⟩ => ?_) (by rw [hs, hs2]) (by rw [hs2]; rfl)))
  obtain ⟨i, j, e, ⟨q1, q2, q3, q4⟩, q⟩ := q1
  subst e
  cases r1 with
  | cons r rr =>
    cases rr with
    | cons r' rr =>
      cases rr
      obtain ⟨t, rfl⟩ := r
      obtain ⟨t', rfl⟩ := r'
      exact call_range_2 (range_it I1 q1 q2 q3 q4 q)
def tFor (wi : TI) (g : TG) (tb : TS) : TS := fun D σ H => wi σ H fun J H1 => ∃ W : Nat → Nat → St → Hp → Prop, (∃ m, W 0 m σ H1) ∧ ∀ i m σ H, W i m σ H →
  (J.stop i H ∧ D.nx σ H) ∨ (J.go i H ∧ ∃ N : St → Hp → Prop, (∀ σ' H', N σ' H' → ∃ m', m' < m ∧ W (i + 1) m' σ' H') ∧ ∀ x H', J.yld i H x H' → g x σ H' fun σ2 H2 => tb { D with nx := N, ct := N, bk := D.nx } σ2 H2)
def pinsAt (fp : List Addr) (h : Heap) : List (Addr × Obj) := fp.filterMap fun b => (h.get? b).map fun o => (b, o)
theorem mem_pinsAt {fp : List Addr} {h : Heap} {b : Addr} {o : Obj} (hb : b ∈ fp) (e : h.get? b = some o) : (b, o) ∈ pinsAt fp h := List.mem_filterMap.mpr ⟨b, hb, by rw [e]; rfl⟩
theorem of_pinsAt {fp : List Addr} {h : Heap} {p : Addr × Obj} (hp : p ∈ pinsAt fp h) : p.1 ∈ fp ∧ h.get? p.1 = some p.2 := by
  obtain ⟨b, hb, e⟩ := List.mem_filterMap.mp hp
  cases q : h.get? b with
  | none => rw [q] at e; cases e
  | some o =>
    rw [q] at e
    have e' : (b, o) = p := Option.some.inj e
    subst e'
    exact ⟨hb, q⟩
theorem Inv.pinned {pins : List (Addr × Obj)} {σ : St} {H : Hp} {s : Shared} {fp : List Addr} (I : Inv X pins σ H s) (hf : ∀ b ∈ fp, FpOk X pins H b) (ho : ∀ b ∈ fp, ∃ o, s.heap.get? b = some o ∧ ∀ v, o.data ≠ .cell v) : Inv X (pins ++ pinsAt fp s.heap) σ H s :=
  I.pins_of fun p hp => (List.mem_append.mp hp).elim (fun z => I.pin p (List.mem_append_right _ z)) fun z => by
    obtain ⟨hb, e⟩ := of_pinsAt z
    obtain ⟨f0, f1, f2, _⟩ := hf p.1 hb
    obtain ⟨o, e', d⟩ := ho p.1 hb
    rw [e] at e'; cases e'
    exact ⟨e, f0, f1, f2, d⟩
theorem Inv.unpinned {pins pl : List (Addr × Obj)} {σ : St} {H : Hp} {s : Shared} (I : Inv X (pins ++ pl) σ H s) : Inv X pins σ H s := I.pins_of fun p hp => I.pin p (List.mem_append_right _ (List.mem_append_left _ hp))
theorem ps_for {iter : Expr} {body : List Stmt} {wi : TI} {g : TG} {tb : TS} {pos : Pos} (hp : PassesOwn (model X.prog X.w) X.A X.env X.xe) (hc : X.calm = true) (hi : PI X tg iter wi) (hg : PG X tg g) (hb : PSs X body tb)
    (hs : ∀ x, foldedSetIterable iter X.env x = pure x := by intro _; rfl) : PS X (.For tg iter body [] pos) (tFor wi g tb) := by
  intro pins s σ H D I h
  refine wpAny_For (thn (hi pins s σ H _ I h) fun v s1 h1 => thn h1 fun itv s2 h2 => ?_) hs
  obtain ⟨it, fp, tn, J, H2, e, I2, T, st2, f2, W, ⟨m0, w0⟩, turn⟩ := h2
  subst e
  have stat : ∀ {H' : Hp}, (∀ b ∈ fp, H' b = none) → ∀ b ∈ fp, FpOk X pins H' b := fun hn b hb => ⟨hn b hb, (f2 b hb).2⟩
  refine codeAny_forLoop_any (fun n s' => ∃ i σ' H', Inv X pins σ' H' s' ∧ tn i s'.heap ∧ (∀ b ∈ fp, H' b = none) ∧ W i n σ' H') ?_ m0 ⟨0, σ, H2, I2, st2, fun b hb => (f2 b hb).1, w0⟩
  rintro n s3 ⟨i, σ3, H3, I3, st3, fr3, w3⟩
  rcases turn i n σ3 H3 w3 with ⟨stop, qn⟩ | ⟨go, N, hN, step⟩
  · refine wpAny_passesOwn hp (thn (T.done X rfl rfl rfl hc i pins s3 σ3 H3 X.xe I3 (stat fr3) st3 stop) fun r s4 ⟨hr, I4⟩ => ?_)
    subst hr
    exact wpAny_execs_nil ⟨σ3, H3, I4, qn⟩
  · refine wpAny_passesOwn hp (thn (T.item X rfl rfl rfl hc i pins s3 σ3 H3 X.xe I3 (stat fr3) st3 go) fun r s4 ⟨u, hr, h4⟩ => ?_)
    subst hr
    refine wpAny_passesOwn hp (thn h4 fun _ s5 ⟨x, H5, I5, r5, y5, st5, fr5⟩ => ?_)
    have I5' := I5.pinned (stat fr5) (T.obj _ _ st5)
    refine wpAny_passesOwn hp (thn (hg _ s5 σ3 H5 x u _ I5' r5 (step x H5 y5)) fun _ s6 ⟨σ6, H6, I6, q6⟩ => ?_)
    refine wpAny_passesOwn hp (thn (hb _ s6 σ6 H6 _ I6 q6) fun f s7 q7 => ?_)
    have again : ∀ {σ7 : St} {H7 : Hp}, Inv X (pins ++ pinsAt fp s5.heap) σ7 H7 s7 → N σ7 H7 → ∃ m, m < n ∧ ∃ i σ' H', Inv X pins σ' H' s7 ∧ tn i s7.heap ∧ (∀ b ∈ fp, H' b = none) ∧ W i m σ' H' := fun {σ7 H7} I7 n7 => by
      obtain ⟨m', hm, w7⟩ := hN σ7 H7 n7
      refine ⟨m', hm, i + 1, σ7, H7, I7.unpinned, T.keep _ _ _ st5 fun b hb o e => (I7.pin (b, o) (List.mem_append_right _ (List.mem_append_right _ (mem_pinsAt hb e)))).1, fun b hb => ?_, w7⟩
      obtain ⟨o, e, d⟩ := T.obj _ _ st5 b hb
      exact (I7.pin (b, o) (List.mem_append_right _ (List.mem_append_right _ (mem_pinsAt hb e)))).2.1
    cases f with
    | next => obtain ⟨σ7, H7, I7, n7⟩ := q7; exact again I7 n7
    | cont => obtain ⟨σ7, H7, I7, n7⟩ := q7; exact again I7 n7
    | brk => obtain ⟨σ7, H7, I7, q7⟩ := q7; exact ⟨σ7, H7, I7.unpinned, q7⟩
    | ret v => obtain ⟨x7, σ7, H7, I7, r7, q7⟩ := q7; exact ⟨x7, σ7, H7, I7.unpinned, r7, q7⟩
end
end L2
namespace L2
open PySem PySem.Spec PyProof.Rows
abbrev R2 := V → V → Hp → VK → Prop
def OpR (X : Cx) (f : Value → Value → Sem Value) (r : R2) : Prop :=
  ∀ (pins : List (Addr × Obj)) (s : Shared) (σ : St) (H : Hp) (x y : V) (v u : Value) (Q : VK), Inv X pins σ H s → RelV x v → RelV y u → r x y H Q →
    wpAny (model X.prog X.w) X.A (f v u) (EP X pins σ Q) X.xe s
def UnR (X : Cx) (f : Value → Sem Value) (r : V → Hp → VK → Prop) : Prop :=
  ∀ (pins : List (Addr × Obj)) (s : Shared) (σ : St) (H : Hp) (x : V) (v : Value) (Q : VK), Inv X pins σ H s → RelV x v → r x H Q →
    wpAny (model X.prog X.w) X.A (f v) (EP X pins σ Q) X.xe s
def CallR (X : Cx) (f : Value) (r : List V → Hp → VK → Prop) : Prop :=
  ∀ (pins : List (Addr × Obj)) (s : Shared) (σ : St) (H : Hp) (xs : List V) (us : List Value) (Q : VK), Inv X pins σ H s → Vals xs us → r xs H Q →
    wpAny (model X.prog X.w) X.A (call f us) (EP X pins σ Q) X.xe s
def TruR (X : Cx) (r : V → Hp → (Bool → Hp → Prop) → Prop) : Prop :=
  ∀ (pins : List (Addr × Obj)) (s : Shared) (σ : St) (H : Hp) (x : V) (v : Value) (Q : Bool → Hp → Prop), Inv X pins σ H s → RelV x v → r x H Q →
    wpAny (model X.prog X.w) X.A (truthy v) (TP X pins σ Q) X.xe s
def tOp (r : R2) (ta tb : TE) : TE := fun σ H Q => ta σ H fun x H1 => tb σ H1 fun y H2 => r x y H2 Q
def tUn (r : V → Hp → VK → Prop) (ta : TE) : TE := fun σ H Q => ta σ H fun x H1 => r x H1 Q
def rI (C : Int → Int → Prop) (g : Int → Int → V) : R2 := fun x y H Q => ∃ i j, x = .int i ∧ y = .int j ∧ C i j ∧ Q (g i j) H
def rI0 (g : Int → Int → V) : R2 := fun x y H Q => ∃ i j, x = .int i ∧ y = .int j ∧ Q (g i j) H
def rU (g : Int → V) : V → Hp → VK → Prop := fun x H Q => ∃ i, x = .int i ∧ Q (g i) H
section
variable {X : Cx} {a b c : Expr} {ta tb tc : TE} {pos : Pos}
theorem binT (ha : PE X a ta) (hb : PE X b tb) {pins : List (Addr × Obj)} {s : Shared} {σ : St} {H : Hp} {R : V → V → Hp → Prop} (I : Inv X pins σ H s)
    (h : ta σ H fun x H1 => tb σ H1 fun y H2 => R x y H2) {Q : Value → Shared → Prop} {f : Value → Value → Sem Value}
    (hf : ∀ v u s2 x y H2, Inv X pins σ H2 s2 → RelV x v → RelV y u → R x y H2 → wpAny (model X.prog X.w) X.A (f v u) Q X.xe s2) :
    wpAny (model X.prog X.w) X.A (eval a X.env) (fun v s₁ => wpAny (model X.prog X.w) X.A (eval b X.env) (fun u s₂ => wpAny (model X.prog X.w) X.A (f v u) Q X.xe s₂) X.xe s₁) X.xe s := by
  refine thn (ha pins s σ H _ I h) fun v s1 ⟨x, H1, I1, r1, q1⟩ => ?_
  refine thn (hb pins s1 σ H1 _ I1 q1) fun u s2 ⟨y, H2, I2, r2, q2⟩ => ?_
  exact hf v u s2 x y H2 I2 r1 r2 q2
theorem pe_op {op : Operator} {r : R2} (ho : OpR X (binaryOp op) r) (ha : PE X a ta) (hb : PE X b tb) : PE X (.BinOp a op b pos) (tOp r ta tb) := by
  intro pins s σ H Q I h
  exact wpAny_BinOp (binT ha hb I h fun v u s2 x y H2 I2 rx ry q => ho pins s2 σ H2 x y v u Q I2 rx ry q)
theorem pe_un {op : UnaryOp} {r : V → Hp → VK → Prop} (ho : UnR X (unaryOp op) r) (ha : PE X a ta) : PE X (.UnaryOp op a pos) (tUn r ta) := by
  intro pins s σ H Q I h
  exact UnaryOp_ (thn (ha pins s σ H _ I h) fun v s1 ⟨x, H1, I1, r1, q1⟩ => ho pins s1 σ H1 x v Q I1 r1 q1)
theorem opI {f : Value → Value → Sem Value} {C : Int → Int → Prop} {g : Int → Int → Int}
    (rule : ∀ (i j : Int) (t u : Tok) (s : Shared) (Q : Value → Shared → Prop) (E : Value → Shared → Prop), C i j → Q (.int (g i j) s.toks) { s with toks := s.toks + 1 } → wpAny (model X.prog X.w) X.A (f (.int i t) (.int j u)) Q E s) :
    OpR X f (rI C fun i j => .int (g i j)) := by
  intro pins s σ H x y v u Q I rx ry h
  obtain ⟨i, j, rfl, rfl, hc, q⟩ := h
  obtain ⟨t, rfl⟩ := rx
  obtain ⟨t', rfl⟩ := ry
  exact rule i j t t' s _ _ hc ⟨.int (g i j), H, I.tok _, ⟨_, rfl⟩, q⟩
theorem opI0 {f : Value → Value → Sem Value} {g : Int → Int → Int}
    (rule : ∀ (i j : Int) (t u : Tok) (s : Shared) (Q : Value → Shared → Prop) (E : Value → Shared → Prop), Q (.int (g i j) s.toks) { s with toks := s.toks + 1 } → wpAny (model X.prog X.w) X.A (f (.int i t) (.int j u)) Q E s) :
    OpR X f (rI0 fun i j => .int (g i j)) := by
  intro pins s σ H x y v u Q I rx ry h
  obtain ⟨i, j, rfl, rfl, q⟩ := h
  obtain ⟨t, rfl⟩ := rx
  obtain ⟨t', rfl⟩ := ry
  exact rule i j t t' s _ _ ⟨.int (g i j), H, I.tok _, ⟨_, rfl⟩, q⟩
theorem opB0 {f : Value → Value → Sem Value} {g : Int → Int → Bool}
    (rule : ∀ (i j : Int) (t u : Tok) (s : Shared) (Q : Value → Shared → Prop) (E : Value → Shared → Prop), Q (.bool (g i j)) s → wpAny (model X.prog X.w) X.A (f (.int i t) (.int j u)) Q E s) :
    OpR X f (rI0 fun i j => .bl (g i j)) := by
  intro pins s σ H x y v u Q I rx ry h
  obtain ⟨i, j, rfl, rfl, q⟩ := h
  obtain ⟨t, rfl⟩ := rx
  obtain ⟨t', rfl⟩ := ry
  exact rule i j t t' s _ _ ⟨.bl (g i j), H, I, rfl, q⟩
def CDiv (i j : Int) : Prop := 0 < j ∧ j < 1073741824
def CDivN (i j : Int) : Prop := j ≠ 0 ∧ j.natAbs < 1073741824
def CPow (i j : Int) : Prop := 0 ≤ j ∧ j ≤ 1000000 ∧ i.natAbs < 2 ^ 64
def CMul (i j : Int) : Prop := (-(2 ^ 64) < i ∧ i < 2 ^ 64) ∨ (-(2 ^ 64) < j ∧ j < 2 ^ 64)
theorem CMul.ok {i j : Int} (h : CMul i j) : IntMulOk i j := by
  rcases h with ⟨h1, h2⟩ | ⟨h1, h2⟩
  · exact .of_left (intBits_le_64 h1 h2)
  · exact .of_right (intBits_le_64 h1 h2)
theorem op_add : OpR X (binaryOp .Add) (rI0 fun i j => .int (i + j)) := opI0 fun _ _ _ _ _ _ _ q => add_int q
theorem op_sub : OpR X (binaryOp .Sub) (rI0 fun i j => .int (i - j)) := opI0 fun _ _ _ _ _ _ _ q => sub_int q
theorem op_mul : OpR X (binaryOp .Mult) (rI CMul fun i j => .int (i * j)) := opI fun _ _ _ _ _ _ _ hc q => mul_int q hc.ok
theorem op_fdiv : OpR X (binaryOp .FloorDiv) (rI CDiv fun i j => .int (i / j)) := opI fun i j _ _ _ _ _ hc q => by
  have h1 : (0 : Int) < j := hc.1
  have h2 : j < 1073741824 := hc.2
  exact floordiv_int (by omega) (by rw [Int.fdiv_eq_ediv_of_nonneg i (by omega)]; exact q) (.inl (PyProof.noPylong_small (by omega)))
theorem op_mod : OpR X (binaryOp .Mod) (rI (fun _ j => 0 < j) fun i j => .int (i % j)) := opI fun i j _ _ _ _ _ hc q => by
  have h1 : (0 : Int) < j := hc
  exact mod_int' (by omega) (by rw [Int.fmod_eq_emod_of_nonneg i (by omega)]; exact q)
theorem op_pow : OpR X (binaryOp .Pow) (rI CPow fun i j => .int (i ^ j.toNat)) := opI fun _ _ _ _ _ _ _ hc q => pow_int_small hc.1 hc.2.1 hc.2.2 q
theorem unI {f : Value → Sem Value} {g : Int → Int}
    (rule : ∀ (i : Int) (t : Tok) (s : Shared) (Q : Value → Shared → Prop) (E : Value → Shared → Prop), Q (.int (g i) s.toks) { s with toks := s.toks + 1 } → wpAny (model X.prog X.w) X.A (f (.int i t)) Q E s) :
    UnR X f (rU fun i => .int (g i)) := by
  intro pins s σ H x v Q I rx h
  obtain ⟨i, rfl, q⟩ := h
  obtain ⟨t, rfl⟩ := rx
  exact rule i t s _ _ ⟨.int (g i), H, I.tok _, ⟨_, rfl⟩, q⟩
theorem un_neg : UnR X (unaryOp .USub) (rU fun i => .int (-i)) := unI fun _ _ _ _ _ q => neg_int q
end
def scal : V → V → Bool
  | .non, .non => true | .non, .int _ => true | .int _, .non => true | .non, .bl _ => true | .bl _, .non => true | .non, .str _ => true | .str _, .non => true
  | .int _, .int _ => true | .bl _, .bl _ => true | .str _, .str _ => true | .byt _, .byt _ => true
  | .int _, .str _ => true | .str _, .int _ => true | .bl _, .str _ => true | .str _, .bl _ => true
  | _, _ => false
def rEq : R2 := fun x y H Q => scal x y = true ∧ Q (.bl (decide (x = y))) H
def rNe : R2 := fun x y H Q => scal x y = true ∧ Q (.bl (!decide (x = y))) H
theorem dec_int {i j : Int} : decide (V.int i = V.int j) = (i == j) := by
  rw [Bool.eq_iff_iff]
  simp
theorem dec_bl {i j : Bool} : decide (V.bl i = V.bl j) = (i == j) := by
  rw [Bool.eq_iff_iff]
  simp
theorem dec_str {i j : Str} : decide (V.str i = V.str j) = (i == j) := by
  rw [Bool.eq_iff_iff]
  simp
theorem dec_byt {i j : Array UInt8} : decide (V.byt i = V.byt j) = (i.toList == j.toList) := by
  rw [Bool.eq_iff_iff]
  cases i
  cases j
  simp
section
variable {X : Cx} {a b c : Expr} {ta tb tc : TE} {pos : Pos}
theorem fin_bl {pins : List (Addr × Obj)} {σ : St} {H : Hp} {s : Shared} {Q : VK} {k k' : Bool} (I : Inv X pins σ H s) (q : Q (.bl k) H) (e : k = k') : EP X pins σ Q (.bool k') s := by
  subst e
  exact ⟨.bl k, H, I, rfl, q⟩
theorem op_eq : OpR X (compareOp .Eq) rEq := by
  intro pins s σ H x y v u Q I rx ry h
  obtain ⟨hs, q⟩ := h
  cases x with
  | non =>
    cases rx
    cases y with
    | non => cases ry; exact PySem.EqNone.eq_none_none (fin_bl I q (by simp))
    | bl j => cases ry; exact PySem.EqNone.eq_none_bool (fin_bl I q (by simp))
    | int j => obtain ⟨t', rfl⟩ := ry; exact PySem.EqNone.eq_none_int (fin_bl I q (by simp))
    | str j => obtain ⟨t', rfl⟩ := ry; exact PySem.EqNone.eq_none_str (fin_bl I q (by simp))
    | _ => exact absurd (show false = true from hs) Bool.false_ne_true
  | bl i =>
    cases rx
    cases y with
    | non => cases ry; exact PySem.EqNone.eq_bool_none (fin_bl I q (by simp))
    | bl j => cases ry; exact eq_bool (fin_bl I q dec_bl)
    | str j => obtain ⟨t', rfl⟩ := ry; exact PySem.EqMixed.eq_bool_str (fin_bl I q (by simp))
    | _ => exact absurd (show false = true from hs) Bool.false_ne_true
  | int i =>
    obtain ⟨t, rfl⟩ := rx
    cases y with
    | non => cases ry; exact PySem.EqNone.eq_int_none (fin_bl I q (by simp))
    | int j => obtain ⟨t', rfl⟩ := ry; exact eq_int (fin_bl I q dec_int)
    | str j => obtain ⟨t', rfl⟩ := ry; exact PySem.EqMixed.eq_int_str (fin_bl I q (by simp))
    | _ => exact absurd (show false = true from hs) Bool.false_ne_true
  | str i =>
    obtain ⟨t, rfl⟩ := rx
    cases y with
    | non => cases ry; exact PySem.EqNone.eq_str_none (fin_bl I q (by simp))
    | bl j => cases ry; exact PySem.EqMixed.eq_str_bool (fin_bl I q (by simp))
    | int j => obtain ⟨t', rfl⟩ := ry; exact PySem.EqMixed.eq_str_int (fin_bl I q (by simp))
    | str j => obtain ⟨t', rfl⟩ := ry; exact eq_str (fin_bl I q dec_str)
    | _ => exact absurd (show false = true from hs) Bool.false_ne_true
  | byt i =>
    obtain ⟨t, rfl⟩ := rx
    cases y with
    | byt j => obtain ⟨t', rfl⟩ := ry; exact PySem.W.eq_bytes (fin_bl I q dec_byt)
    | _ => exact absurd (show false = true from hs) Bool.false_ne_true
  | _ => cases y <;> exact absurd (show false = true from hs) Bool.false_ne_true
theorem op_ne : OpR X (compareOp .NotEq) rNe := by
  intro pins s σ H x y v u Q I rx ry h
  obtain ⟨hs, q⟩ := h
  cases x with
  | non =>
    cases rx
    cases y with
    | non => cases ry; exact PySem.EqNone.ne_none_none (fin_bl I q (by simp))
    | bl j => cases ry; exact PySem.EqNone.ne_none_bool (fin_bl I q (by simp))
    | int j => obtain ⟨t', rfl⟩ := ry; exact PySem.EqNone.ne_none_int (fin_bl I q (by simp))
    | str j => obtain ⟨t', rfl⟩ := ry; exact PySem.EqNone.ne_none_str (fin_bl I q (by simp))
    | _ => exact absurd (show false = true from hs) Bool.false_ne_true
  | bl i =>
    cases rx
    cases y with
    | non => cases ry; exact PySem.EqNone.ne_bool_none (fin_bl I q (by simp))
    | bl j => cases ry; exact ne_bool (fin_bl I q (congrArg not dec_bl))
    | str j => obtain ⟨t', rfl⟩ := ry; exact PySem.EqMixed.ne_bool_str (fin_bl I q (by simp))
    | _ => exact absurd (show false = true from hs) Bool.false_ne_true
  | int i =>
    obtain ⟨t, rfl⟩ := rx
    cases y with
    | non => cases ry; exact PySem.EqNone.ne_int_none (fin_bl I q (by simp))
    | int j => obtain ⟨t', rfl⟩ := ry; exact ne_int (fin_bl I q (congrArg not dec_int))
    | str j => obtain ⟨t', rfl⟩ := ry; exact PySem.EqMixed.ne_int_str (fin_bl I q (by simp))
    | _ => exact absurd (show false = true from hs) Bool.false_ne_true
  | str i =>
    obtain ⟨t, rfl⟩ := rx
    cases y with
    | non => cases ry; exact PySem.EqNone.ne_str_none (fin_bl I q (by simp))
    | bl j => cases ry; exact PySem.EqMixed.ne_str_bool (fin_bl I q (by simp))
    | int j => obtain ⟨t', rfl⟩ := ry; exact PySem.EqMixed.ne_str_int (fin_bl I q (by simp))
    | str j => obtain ⟨t', rfl⟩ := ry; exact ne_str (fin_bl I q (congrArg not dec_str))
    | _ => exact absurd (show false = true from hs) Bool.false_ne_true
  | byt i =>
    obtain ⟨t, rfl⟩ := rx
    cases y with
    | byt j => obtain ⟨t', rfl⟩ := ry; exact PySem.W.ne_bytes (fin_bl I q (congrArg not dec_byt))
    | _ => exact absurd (show false = true from hs) Bool.false_ne_true
  | _ => cases y <;> exact absurd (show false = true from hs) Bool.false_ne_true
theorem op_le : OpR X (compareOp .LtE) (rI0 fun i j => .bl (decide (i ≤ j))) := opB0 fun _ _ _ _ _ _ _ q => le_int q
theorem op_gt : OpR X (compareOp .Gt) (rI0 fun i j => .bl (decide (j < i))) := opB0 fun _ _ _ _ _ _ _ q => gt_int q
theorem op_ge : OpR X (compareOp .GtE) (rI0 fun i j => .bl (decide (j ≤ i))) := opB0 fun _ _ _ _ _ _ _ q => ge_int q
theorem op_isN : OpR X (compareOp .Is) (fun x y H Q => y = .non ∧ Q (.bl (decide (x = .non))) H) := by
  intro pins s σ H x y v u Q I rx ry h
  obtain ⟨rfl, q⟩ := h
  cases ry
  refine is_none_gen (fin_bl I q ?_)
  cases x <;> first
    | (cases rx; rfl)
    | (obtain ⟨t, rfl⟩ := rx; rfl)
def isObj : HO → Bool
  | .lst _ => true
  | .ins _ _ _ => true
  | _ => false
theorem OpR.or {f : Value → Value → Sem Value} {r r' : R2} (h : OpR X f r) (h' : OpR X f r') : OpR X f (fun x y H Q => r x y H Q ∨ r' x y H Q) := by
  intro pins s σ H x y v u Q I rx ry q
  rcases q with q | q
  · exact h pins s σ H x y v u Q I rx ry q
  · exact h' pins s σ H x y v u Q I rx ry q
theorem nomark (b : Expr) {op : CmpOp} (h : op ≠ .In := by decide) (h2 : op ≠ .NotIn := by decide) : behindInMarks op b = false := by
  have e1 : (op == CmpOp.In) = false := by cases op <;> first | rfl | exact absurd rfl h
  have e2 : (op == CmpOp.NotIn) = false := by cases op <;> first | rfl | exact absurd rfl h2
  cases b <;> simp [behindInMarks, e1, e2]
theorem pe_cmpR {op : CmpOp} {r : R2} (ho : OpR X (compareOp op) r) (ha : PE X a ta) (hb : PE X b tb) (hm : behindInMarks op b = false) : PE X (.Compare a [op] [b] pos) (tOp r ta tb) := by
  intro pins s σ H Q I h
  exact wpAny_Compare1 (binT ha hb I h fun v u s2 x y H2 I2 rx ry q => ho pins s2 σ H2 x y v u Q I2 rx ry q) hm
def tTest (t : TE) : TT := fun σ H Q => t σ H fun x H' => ∃ k, x = .bl k ∧ Q k H'
theorem pt_cmpR {op : CmpOp} {r : R2} (ho : OpR X (compareOp op) r) (ha : PE X a ta) (hb : PE X b tb) (hm : behindInMarks op b = false) : PT X (.Compare a [op] [b] pos) (tTest (tOp r ta tb)) := by
  intro pins s σ H Q I h
  refine wpAny_isTrue_Compare1 (thn (ha pins s σ H _ I h) fun v s1 ⟨x, H1, I1, r1, q1⟩ => thn (hb pins s1 σ H1 _ I1 q1) fun u s2 ⟨y, H2, I2, r2, q2⟩ =>
    thn (ho pins s2 σ H2 x y v u _ I2 r1 r2 q2) fun c s3 ⟨z, H3, I3, r3, k, e, q3⟩ => ?_) hm
  subst e
  cases r3
  exact wpAny_truthy_bool ⟨H3, I3, q3⟩
def tChain (r r' : R2) (ta tb tc : TE) : TE := fun σ H Q => ta σ H fun x H1 => tb σ H1 fun y H2 => r x y H2 fun z H3 => ∃ k, z = .bl k ∧
  (if k = true then tc σ H3 fun w' H4 => r' y w' H4 Q else Q (.bl false) H3)
theorem pe_chain {op op' : CmpOp} {r r' : R2} (ho : OpR X (compareOp op) r) (ho' : OpR X (compareOp op') r') (ha : PE X a ta) (hb : PE X b tb) (hc : PE X c tc)
    (hm : lastMarks [op, op'] [b, c] = false := by with_unfolding_all rfl) : PE X (.Compare a [op, op'] [b, c] pos) (tChain r r' ta tb tc) := by
  intro pins s σ H Q I h
  refine Compare_chain (thn (ha pins s σ H _ I h) fun v s1 ⟨x, H1, I1, r1, q1⟩ => chain_link (thn (hb pins s1 σ H1 _ I1 q1) fun u s2 ⟨y, H2, I2, r2, q2⟩ =>
    thn (ho pins s2 σ H2 x y v u _ I2 r1 r2 q2) fun d s3 ⟨z, H3, I3, r3, k, e, q3⟩ => ?_)) hm
  subst e
  cases r3
  refine wpAny_truthy_bool ?_
  cases k with
  | false => exact ite_ff ⟨.bl false, H3, I3, rfl, q3⟩
  | true => exact ite_tt (chain_last (thn (hc pins s3 σ H3 _ I3 q3) fun w' s4 ⟨z', H4, I4, r4, q4⟩ => ho' pins s4 σ H4 y z' u w' Q I4 r2 r4 q4))
def TruV (K : PySem.W.Frag) (x : V) (H : Hp) (k : Bool) : Prop :=
  match x with
  | .non => k = false
  | .bl b => k = b
  | .int i => k = (i != 0)
  | .str y => y.length ≤ sizeLine ∧ k = ((y.length : Int) != 0)
  | .byt y => y.size ≤ sizeLine ∧ k = ((y.size : Int) != 0)
  | .ref p => (∃ xs, SqL K H p xs ∧ k = !xs.isEmpty) ∨ (∃ xs, SqT K H p xs ∧ k = !xs.isEmpty) ∨ ∃ kvs, H p = some (.dK kvs) ∧ k = !kvs.isEmpty
  | _ => False
theorem isEmpty_kv {κ : Type} {kvs : List (κ × V)} {vs : List (κ × Value)} (r : KV kvs vs) : (!vs.isEmpty) = !kvs.isEmpty := by
  cases r <;> rfl
theorem isEmpty_of {xs : List V} {its : List Value} (r : Vals xs its) : (!its.toArray.isEmpty) = !xs.isEmpty := by
  cases r <;> simp
theorem line63 : (sizeLine : Nat) < 2 ^ 63 := by rw [sizeLine_eq]; decide
theorem tru_ok : TruR X (fun x H Q => ∃ k, TruV X.K x H k ∧ Q k H) := by
  intro pins s σ H x v Q I rx h
  obtain ⟨k, e, q⟩ := h
  have hl := line63
  have hs : sizeLine = 16777216 := sizeLine_eq
  cases x with
  | non =>
    cases rx
    have e' : k = false := e
    subst e'
    exact truthy_none ⟨H, I, q⟩
  | bl b =>
    cases rx
    have e' : k = b := e
    subst e'
    exact wpAny_truthy_bool ⟨H, I, q⟩
  | int i =>
    obtain ⟨t, rfl⟩ := rx
    have e' : k = (i != 0) := e
    subst e'
    exact PySem.P.truthy_int ⟨H, I, q⟩
  | str y =>
    obtain ⟨t, rfl⟩ := rx
    obtain ⟨hy, e'⟩ : y.length ≤ sizeLine ∧ k = ((y.length : Int) != 0) := e
    subst e'
    exact PySem.P.truthy_str (by omega) ⟨H, I.tok _, q⟩
  | byt y =>
    obtain ⟨t, rfl⟩ := rx
    obtain ⟨hy, e'⟩ : y.size ≤ sizeLine ∧ k = ((y.size : Int) != 0) := e
    subst e'
    exact PySem.W.truthy_bytes (by omega) ⟨H, I.tok _, q⟩
  | ref p =>
    cases rx
    have e' : (∃ xs, SqL X.K H p xs ∧ k = !xs.isEmpty) ∨ (∃ xs, SqT X.K H p xs ∧ k = !xs.isEmpty) ∨ ∃ kvs, H p = some (.dK kvs) ∧ k = !kvs.isEmpty := e
    rcases e' with ⟨xs, hx, e'⟩ | ⟨xs, hx, e'⟩ | ⟨kvs, hx, e'⟩
    · subst e'
      obtain ⟨its, r, pl, hz⟩ := I.list hx
      have hlen := r.length
      exact wpAny_truthy_list pl.isList (by simp only [List.size_toArray]; omega) ⟨H, I.tok _, by rw [isEmpty_of r]; exact q⟩
    · subst e'
      obtain ⟨its, r, pl, hz⟩ := I.tuple hx
      have hlen := r.length
      exact truthy_tuple pl (by simp only [List.size_toArray]; omega) ⟨H, I.tok _, by rw [isEmpty_of r]; exact q⟩
    · subst e'
      obtain ⟨hz, hS, vs, r, m⟩ : kvs.length ≤ sizeLine ∧ (p == sysModules) = false ∧ ∃ vs, KV kvs vs ∧ s.heap.DictOf (mixKind X.prog X.w) p vs := I.hok p _ hx
      have hlen : kvs.length = vs.length := Paired.length r
      exact wpAny_truthy_dict hS m (by omega) ⟨H, I.tok _, by rw [isEmpty_kv r]; exact q⟩
  | _ => exact (show False from e).elim
theorem pt_truth (ha : PE X a ta) (he : ∀ whole, isTrue a X.env whole = (do let v ← whole; standAt a.pos; holding [v] (truthy v))) :
    PT X a (fun σ H Q => ta σ H fun x H' => ∃ k, TruV X.K x H' k ∧ Q k H') := by
  intro pins s σ H Q I h
  exact isTrue_plain (thn (ha pins s σ H _ I h) fun v s1 ⟨x, H1, I1, r1, q1⟩ => tru_ok pins s1 σ H1 x v Q I1 r1 q1) (he _)
theorem op_add_str : OpR X (binaryOp .Add) (fun x y H Q => ∃ i j, x = .str i ∧ y = .str j ∧ i.length + j.length ≤ sizeLine ∧ Q (.str (i ++ j)) H) := by
  intro pins s σ H x y v u Q I rx ry h
  obtain ⟨i, j, rfl, rfl, hz, q⟩ := h
  obtain ⟨t, rfl⟩ := rx
  obtain ⟨t', rfl⟩ := ry
  exact add_str (fun t' tk => ⟨.str (i ++ j), H, I.tok _, ⟨_, rfl⟩, q⟩) hz
def PlainIxT (b : Expr) : Prop := ∀ o i, subscripted b false o i = operate [o, i] (getItem o i)
theorem vals1 {x : V} {us : List Value} (r : Vals [x] us) : ∃ u, us = [u] ∧ RelV x u := by
  cases r with
  | cons r1 r2 => cases r2; exact ⟨_, rfl, r1⟩
theorem vals2 {x y : V} {us : List Value} (r : Vals [x, y] us) : ∃ u w', us = [u, w'] ∧ RelV x u ∧ RelV y w' := by
  cases r with
  | cons r1 r2 =>
    cases r2 with
    | cons r3 r4 => cases r4; exact ⟨_, _, rfl, r1, r3⟩
theorem call_max2 (hc : X.calm = true) : CallR X (.builtin "max") (fun xs H Q => ∃ i j, xs = [.int i, .int j] ∧ Q (.int (if j > i then j else i)) H) := by
  intro pins s σ H xs us Q I r h
  obtain ⟨i, j, rfl, q⟩ := h
  obtain ⟨u, w', rfl, ⟨t, rfl⟩, ⟨t', rfl⟩⟩ := vals2 r
  refine max_two_ints (I.ok.hd hc) fun h' tk k => ⟨_, H, I.kept k, ?_, q⟩
  by_cases hj : j > i
  · rw [if_pos hj, if_pos hj]; exact ⟨_, rfl⟩
  · rw [if_neg hj, if_neg hj]; exact ⟨_, rfl⟩
theorem call_min2 (hc : X.calm = true) : CallR X (.builtin "min") (fun xs H Q => ∃ i j, xs = [.int i, .int j] ∧ Q (.int (if j < i then j else i)) H) := by
  intro pins s σ H xs us Q I r h
  obtain ⟨i, j, rfl, q⟩ := h
  obtain ⟨u, w', rfl, ⟨t, rfl⟩, ⟨t', rfl⟩⟩ := vals2 r
  refine min_two_ints (I.ok.hd hc) fun h' tk k => ⟨_, H, I.kept k, ?_, q⟩
  by_cases hj : j < i
  · rw [if_pos hj, if_pos hj]; exact ⟨_, rfl⟩
  · rw [if_neg hj, if_neg hj]; exact ⟨_, rfl⟩
def LenV (K : PySem.W.Frag) (x : V) (H : Hp) (n : Nat) : Prop :=
  match x with
  | .str y => y.length ≤ sizeLine ∧ n = y.length
  | .byt y => y.size ≤ sizeLine ∧ n = y.size
  | .ref p => (∃ xs, SqL K H p xs ∧ n = xs.length) ∨ ∃ xs, SqT K H p xs ∧ n = xs.length
  | _ => False
end
end L2
namespace L2
open PySem PySem.Spec PyProof.Rows
structure ObjM (h : Heap) (x dx C : Addr) (mA : Str → Option Value) : Prop where
  obj : h.get? x = some (PySem.W.instObj C dx)
  ns : h.Ns1 dx mA
  ne : dx ≠ x
section
variable {prog : Program} {w : World} {A : Around} {E : Value → Shared → Prop} {s : Shared} {K : PySem.W.Frag} {x dx C f : Addr} {mA : Str → Option Value} {name : Str} {v : Value}
end
def putF (f : Str) (v : V) : List (Str × V) → List (Str × V)
  | [] => [(f, v)]
  | (g, x) :: r => if g = f then (g, v) :: r else (g, x) :: putF f v r
section
variable {P : Program} {w : World} {H H' : Hp} {h h' : Heap} {a C dx : Addr} {fs fs' : List (Str × V)}
end
structure Cls (K : PySem.W.Frag) (C : Addr) : Prop where
  pg : PySem.W.plainGet K C Str.empty = true
  hd : PySem.W.hasDictIn K C = true
  po : PySem.W.plainOver K C = true
  sa : PySem.W.findIn K (.ref C) "__setattr__" = some (some (.builtin "object.__setattr__"))
theorem Cls.get {K : PySem.W.Frag} {C : Addr} (c : Cls K C) (f : Str) : PySem.W.plainGet K C f = true := c.pg
def NoAttr (K : PySem.W.Frag) (C : Addr) (f : Str) : Prop := PySem.W.findIn K (.ref C) f = some none
structure Con (K : PySem.W.Frag) (C : Addr) (f : Str) (v : V) (u : Value) : Prop where
  at_ : PySem.W.findIn K (.ref C) f = some (some u)
  rel : RelV v u
  get : PySem.W.specialIn K u "__get__" = some none
  cp : PySem.W.copiedNames.contains f = false
structure Meth (K : PySem.W.Frag) (C : Addr) (m : Str) (f : Addr) : Prop where
  at_ : PySem.W.findIn K (.ref C) m = some (some (.ref f))
  fn : PySem.W.isFn K (.ref f) = true
  kp : PySem.W.keepIn K (.ref f) = true
section
variable {X : Cx} {pins : List (Addr × Obj)} {σ : St} {H : Hp} {s : Shared} {a C dx : Addr} {fs : List (Str × V)} {f : Str} {v : V} {A : Around} {E : Value → Shared → Prop}
theorem Inv.made (I : Inv X pins σ H s) : Inv X pins σ (upd (upd H s.heap.objs.size (.own (s.heap.objs.size + 1))) (s.heap.objs.size + 1) (.ins C s.heap.objs.size []))
    { s with heap := (s.heap.push PySem.W.emptyDict).push (PySem.W.instObj C s.heap.objs.size) } := by
  have e1 : (s.heap.push PySem.W.emptyDict).get? s.heap.objs.size = some PySem.W.emptyDict := Heap.get?_push_size s.heap rfl
  have e2 : ((s.heap.push PySem.W.emptyDict).push (PySem.W.instObj C s.heap.objs.size)).get? (s.heap.objs.size + 1) = some (PySem.W.instObj C s.heap.objs.size) := by
    have := Heap.get?_push_size (s.heap.push PySem.W.emptyDict) (o := PySem.W.instObj C s.heap.objs.size) rfl
    rwa [Heap.size_push] at this
  have e3 : (s.heap.push PySem.W.emptyDict).Ns s.heap.objs.size (fun _ => none) := ⟨PySem.W.emptyDict, #[], _, e1, rfl, (fun e he => absurd he (by simp)), fun _ => rfl⟩
  have I1 := I.laid (a := s.heap.objs.size) (o := .own (s.heap.objs.size + 1)) (h' := s.heap.push PySem.W.emptyDict) (t' := s.toks) (fun b u q => Heap.get?_push_of_some _ q) (Nat.le_refl _) ⟨_, e1⟩
  refine I1.laid (a := s.heap.objs.size + 1) (o := .ins C s.heap.objs.size []) (t' := s.toks) (fun b u q => Heap.get?_push_of_some _ q) (Nat.le_of_eq (Heap.size_push _ _)) ?_
  have ne : s.heap.objs.size ≠ s.heap.objs.size + 1 := Nat.ne_of_lt (Nat.lt_succ_self _)
  refine ⟨by rw [upd_ne ne, upd_same], Nat.zero_le _, ne, e2, fun _ => none, (Heap.Ns1.of_empty e3).at fun o q => Heap.get?_push_of_some _ q, fun _ => True.intro, fun y hy => absurd rfl hy⟩
end
def tFld (K : PySem.W.Frag) (ta : TE) (f : Str) : TE := fun σ H Q => ta σ H fun x H1 => ∃ a C dx fs v, x = .ref a ∧ H1 a = some (.ins C dx fs) ∧ Cls K C ∧ NoAttr K C f ∧ fs.lookup f = some v ∧ Q v H1
def tCon (K : PySem.W.Frag) (ta : TE) (f : Str) : TE := fun σ H Q => ta σ H fun x H1 => ∃ a C dx fs v u, x = .ref a ∧ H1 a = some (.ins C dx fs) ∧ Cls K C ∧ Con K C f v u ∧ fs.lookup f = none ∧ Q v H1
def sFld (K : PySem.W.Frag) (ta tv : TE) (f : Str) : TS := fun D σ H => tv σ H fun y H1 => ta σ H1 fun x H2 => ∃ a C dx fs, x = .ref a ∧ H2 a = some (.ins C dx fs) ∧ Cls K C ∧ NoAttr K C f ∧ fs.length < 1000 ∧
  D.nx σ (upd H2 a (.ins C dx (putF f y fs)))
def InOp (X : Cx) (op : Operator) (rd : V → V → Hp → VK → Prop) : Prop :=
  ∀ (pins : List (Addr × Obj)) (s : Shared) (σ : St) (H : Hp) (x y : V) (u v : Value) (Q : VK), Inv X pins σ H s → RelV x u → RelV y v → rd x y H Q → wpAny (model X.prog X.w) X.A (inplaceOp op u v) (EP X pins σ Q) X.xe s
def sFldAug (K : PySem.W.Frag) (ta tv : TE) (rd : V → V → Hp → VK → Prop) (f : Str) : TS := fun D σ H => ta σ H fun x H1 => ∃ a C dx fs v, x = .ref a ∧ H1 a = some (.ins C dx fs) ∧ Cls K C ∧ NoAttr K C f ∧ fs.lookup f = some v ∧
  tv σ H1 fun y H2 => rd v y H2 fun z H3 => ∃ dx' fs', H3 a = some (.ins C dx' fs') ∧ fs'.length < 1000 ∧ D.nx σ (upd H3 a (.ins C dx' (putF f z fs')))
section
variable {X : Cx} {o e value : Expr} {f : Str} {pos pos' tpos : Pos} {ta tv : TE}
def rAdd : V → V → Hp → VK → Prop := fun x y H Q => ∃ i j, x = .int i ∧ y = .int j ∧ Q (.int (i + j)) H
def rSub : V → V → Hp → VK → Prop := fun x y H Q => ∃ i j, x = .int i ∧ y = .int j ∧ Q (.int (i - j)) H
end
section
variable {X : Cx} {pins : List (Addr × Obj)} {σ : St} {H : Hp} {s : Shared} {A : Around} {E : Value → Shared → Prop} {Q : Value → Shared → Prop} {c : Value} {b : Bool}
inductive TyOf (K : PySem.W.Frag) (H : Hp) : V → Value → Prop where
  | non : TyOf K H .non (.type "NoneType")
  | bl (x : Bool) : TyOf K H (.bl x) (.type "bool")
  | int (i : Int) : TyOf K H (.int i) (.type "int")
  | str (x : Str) : TyOf K H (.str x) (.type "str")
  | flt (x : UInt64) : TyOf K H (.flt x) (.type "float")
  | lst {a : Addr} {xs : List V} (e : H a = some (.lst xs)) : TyOf K H (.ref a) (.type "list")
  | frz {a : Addr} {o : Obj} {xs : List V} (e : H a = some (.frz o (.lst xs))) : TyOf K H (.ref a) (.type "list")
  | tup {a : Addr} {xs : List V} (e : H a = some (.tup xs)) : TyOf K H (.ref a) (.type "tuple")
  | dK {a : Addr} {kvs : List (Key × V)} (e : H a = some (.dK kvs)) : TyOf K H (.ref a) (.type "dict")
  | dT {a : Addr} {kvs : List (List Key × V)} (e : H a = some (.dT kvs)) : TyOf K H (.ref a) (.type "dict")
  | ins {a C dx : Addr} {fs : List (Str × V)} (e : H a = some (.ins C dx fs)) (cl : Cls K C) (ha : PySem.W.findIn K (.ref C) "__class__" = some (some (.builtin "object.__class__")))
      (hn : PySem.W.specialIn K (.builtin "object.__class__") "__get__" = some (some (.builtin "getset_descriptor.__get__"))) (htk : PySem.W.takesIn K (.builtin "object.__class__") = some true)
      (hm : PySem.W.mroIn K C (.type "object") = some true) : TyOf K H (.ref a) (.ref C)
end
end L2
namespace L2
open PySem PySem.Spec PyProof.Rows
structure Room (k : Nat) (A : Around) : Prop where
  hd : A.handled = none
  dp : A.depth + 3 * k + 5 < recursionLimit
  un : A.units + 16 * k + 200 < cLine
  gd : A.guards = some []
theorem Room.mono {j k : Nat} {A : Around} (r : Room k A) (h : j ≤ k) : Room j A := ⟨r.hd, by have := r.dp; omega, by have := r.un; omega, r.gd⟩
theorem Room.deeper {k : Nat} {A : Around} (r : Room (k + 1) A) (env : Env) : Room k (A.deeper env) :=
  ⟨r.hd, by have := r.dp; show A.depth + 1 + 3 * k + 5 < _; omega, by have := r.un; show A.units + 3 + 16 * k + 200 < _; omega, r.gd⟩
theorem Room.in1 {k : Nat} {A : Around} (r : Room (k + 1) A) : Room k A.in1 :=
  ⟨r.hd, by have := r.dp; show A.depth + 3 * k + 5 < _; omega, by have := r.un; show A.units + 1 + 16 * k + 200 < _; omega, r.gd⟩
theorem Room.depth {k : Nat} {A : Around} (r : Room k A) : A.depth < recursionLimit := by have := r.dp; omega
theorem Room.units {k : Nat} {A : Around} (r : Room k A) : A.units + 64 < cLine := by have := r.un; omega
def tNil : TA := fun _ H Q => Q [] H
def tCons (ta : TE) (tr : TA) : TA := fun σ H Q => ta σ H fun x H1 => tr σ H1 fun xs H2 => Q (x :: xs) H2
section
variable {X : Cx} {e : Expr} {es : List Expr} {te : TE} {t : TA} {pos : Pos}
theorem pa_nil : PA X [] tNil := fun _ _ _ _ H Q I h => Calls.spliced_nil ⟨[], H, I, .nil, h⟩
theorem pa_cons (ha : PE X e te) (hr : PA X es t) (hs : starEach (e :: es) X.env = (false, eval e X.env) :: starEach es X.env := by rfl) : PA X (e :: es) (tCons te t) := by
  intro pos pins s σ H Q I h
  rw [hs]
  show wpAny _ _ (spliced ((false, eval e X.env) :: backTo pos (starEach es X.env))) _ _ s
  refine Calls.spliced_cons (thn (ha pins s σ H _ I h) fun u s1 ⟨x, H1, I1, r1, q1⟩ => ?_)
  exact thn (hr pos pins s1 σ H1 _ I1 q1) fun us s2 ⟨xs, H2, I2, r2, q2⟩ => ⟨x :: xs, H2, I2, .cons r1 r2, q2⟩
def tTup (t : TA) : TE := fun σ H Q => t σ H fun xs H1 => xs.length ≤ sizeLine ∧ ∀ p, H1 p = none → Q (.ref p) (upd H1 p (.tup xs))
def tLst (t : TA) : TE := fun σ H Q => t σ H fun xs H1 => xs.length ≤ sizeLine ∧ ∀ p, H1 p = none → Q (.ref p) (upd H1 p (.lst xs))
theorem pe_tup {x1} (h : PA X es t) : PE X (.Tuple es x1 pos) (tTup t) := by
  intro pins s σ H Q I hq
  refine wpAny_Tuple_spliced (thn (h pos pins s σ H _ I hq) fun us s1 ⟨xs, H1, I1, r, z, q⟩ => ⟨by rw [← r.length]; exact z, ?_⟩)
  have hf : H1 s1.heap.objs.size = none := I1.hok.fresh (Nat.le_refl _)
  refine ⟨.ref s1.heap.objs.size, upd H1 s1.heap.objs.size (.tup xs), I1.laid (t' := s1.toks) (fun b u e => Heap.get?_push_of_some _ e) (Nat.le_refl _) ?_, rfl, q _ hf⟩
  exact ⟨z, us, r, ⟨_, Heap.get?_push_size _ rfl, rfl, _, rfl⟩⟩
theorem pe_lst (h : PA X es t) : PE X (.List es pos) (tLst t) := by
  intro pins s σ H Q I hq
  refine wpAny_List_spliced (thn (h pos pins s σ H _ I hq) fun us s1 ⟨xs, H1, I1, r, z, q⟩ => ⟨by rw [← r.length]; exact z, ?_⟩)
  have hf : H1 s1.heap.objs.size = none := I1.hok.fresh (Nat.le_refl _)
  refine ⟨.ref s1.heap.objs.size, upd H1 s1.heap.objs.size (.lst xs), I1.laid (t' := s1.toks) (fun b u e => Heap.get?_push_of_some _ e) (Nat.le_refl _) ?_, rfl, q _ hf⟩
  exact ⟨z, us, 0, r, Heap.get?_push_size _ rfl⟩
end
abbrev Sp := List V → Hp → VK → XK → Prop
abbrev CXT := List Env → Hp → Shared → XK → Value → Shared → Prop
structure Env0 (P : Program) (w : World) (K : PySem.W.Frag) (mg : Str → Option Value) (base : Heap) (A : Around) (outer : List Env) (s : Shared) (H : Hp) : Prop where
  frames : A.frames = some outer
  mod : Mod K mg base
  bs : ∀ b o, base.get? b = some o → s.heap.get? b = some o ∧ H b = none
  bsz : base.objs.size ≤ s.heap.objs.size
  funs : s.heap.FunFrames base outer
  frf : ∀ b ∈ frs outer, H b = none
  hok : HOk P w H s.heap
  bare : AllBare s.gens
def CE (outer : List Env) (P : Program) (w : World) (H : Hp) (s : Shared) (Q : VK) (u : Value) (s' : Shared) : Prop :=
  ∃ v H', s'.os = s.os ∧ AllBare s'.gens ∧ Un (frs outer) [] H H' s.heap s'.heap ∧ HOk P w H' s'.heap ∧ RelV v u ∧ Q v H'
def CR (CX : CXT) (outer : List Env) (P : Program) (w : World) (H : Hp) (s : Shared) (Q : VK) (E : XK) (r : Result) (s' : Shared) : Prop :=
  match r with
  | .ok (.ret u) => CE outer P w H s Q u s'
  | .ok _ => False
  | .error e => CX outer H s E e s'
structure FnOk (P : Program) (w : World) (K : PySem.W.Frag) (mg : Str → Option Value) (base : Heap) (CX : CXT) (k : Nat) (f : Addr) (fd : FuncData) (ps : List Str) (sp : Sp) : Prop where
  len : ∀ vs H Q E, sp vs H Q E → vs.length = ps.length
  run : ∀ (A : Around) (outer : List Env) (s : Shared) (H : Hp) (args : Args) (us : List Value) (vs : List V) (Q : VK) (E : XK), Room k A → Env0 P w K mg base A outer s H → BindsTo s fd args (ps.zip us) → Vals vs us → sp vs H Q E →
    codeAny (model P w) A (.call (.ref f) args) (CR CX outer P w H s Q E) s
theorem FnOk.mono {P : Program} {w : World} {K : PySem.W.Frag} {mg : Str → Option Value} {base : Heap} {CX : CXT} {j k : Nat} {f : Addr} {fd : FuncData} {ps : List Str} {sp : Sp} (F : FnOk P w K mg base CX j f fd ps sp) (h : j ≤ k) :
    FnOk P w K mg base CX k f fd ps sp := ⟨F.len, fun A outer s H args us vs Q E hr => F.run A outer s H args us vs Q E (hr.mono h)⟩
theorem FnOk.imp {P : Program} {w : World} {K : PySem.W.Frag} {mg : Str → Option Value} {base : Heap} {CX : CXT} {k : Nat} {f : Addr} {fd : FuncData} {ps : List Str} {sp sp' : Sp} (F : FnOk P w K mg base CX k f fd ps sp)
    (h : ∀ vs H Q E, sp' vs H Q E → sp vs H Q E) : FnOk P w K mg base CX k f fd ps sp' :=
  ⟨fun vs H Q E q => F.len vs H Q E (h _ _ _ _ q), fun A outer s H args us vs Q E hr he hb hv hs => F.run A outer s H args us vs Q E hr he hb hv (h _ _ _ _ hs)⟩
theorem Env0.in1 {P : Program} {w : World} {K : PySem.W.Frag} {mg : Str → Option Value} {base : Heap} {A : Around} {outer : List Env} {s : Shared} {H : Hp} (e : Env0 P w K mg base A outer s H) :
    Env0 P w K mg base A.in1 outer s H := ⟨e.frames, e.mod, e.bs, e.bsz, e.funs, e.frf, e.hok, e.bare⟩
section
variable {X : Cx} {pins : List (Addr × Obj)} {σ : St} {H : Hp} {s s' : Shared}
theorem Inv.env0 (I : Inv X pins σ H s) : Env0 X.prog X.w X.K X.mg X.base X.A X.stack s H :=
  ⟨I.ok.frames, I.ok.mod, I.bs, Nat.le_trans I.ok.bsz I.sz, I.stack, I.stkFree, I.hok, I.bare⟩
theorem Inv.after {Q : VK} {u : Value} (I : Inv X pins σ H s) (h : CE X.stack X.prog X.w H s Q u s') : EP X pins σ Q u s' := by
  obtain ⟨v, H', os, bare, un, hok, r, q⟩ := h
  obtain ⟨hh, g, d, t, os'⟩ := s'
  obtain rfl : os' = s.os := os
  exact ⟨v, H', I.call (h' := hh) (g' := g) (d' := d) (t' := t) (ch := []) un hok bare (fun b z => absurd z (by simp)), r, q⟩
end
def tCall (sp : Sp) (dvs : List V) (E : XK) (t : TA) : TE := fun σ H Q => t σ H fun vs H1 => sp (vs ++ dvs) H1 Q E
def tMeth (C : Addr) (m : Str) (sp : Sp) (dvs : List V) (E : XK) (ta : TE) (t : TA) : TE := fun σ H Q => ta σ H fun x H1 => ∃ a dx fs, x = .ref a ∧ H1 a = some (.ins C dx fs) ∧ fs.lookup m = none ∧
  t σ H1 fun vs H2 => sp (x :: (vs ++ dvs)) H2 Q E
def tMake (C : Addr) (sp : Sp) (dvs : List V) (E : XK) (t : TA) : TE := fun σ H Q => t σ H fun vs H1 => ∀ x dx, H1 x = none → H1 dx = none → dx ≠ x →
  sp (.ref x :: (vs ++ dvs)) (upd (upd H1 dx (.own x)) x (.ins C dx [])) (fun v H2 => v = .non ∧ Q (.ref x) H2) E
def Binds (K : PySem.W.Frag) (fd : FuncData) (ps : List Str) (ds : List Value) : Prop :=
  ∀ (s : Shared) (us : List Value), K.In s.heap → (us ++ ds).length = ps.length → BindsTo s fd ⟨us, []⟩ (ps.zip (us ++ ds))
theorem Binds.all {K : PySem.W.Frag} {fd : FuncData} {ps : List Str} (h : ∀ us : List Value, us.length = ps.length → bindArgs fd ⟨us, []⟩ = pure (ps.zip us)) : Binds K fd ps [] := fun s us _ hl => by
  rw [List.append_nil] at hl ⊢
  exact .of_eq (h us hl)
def Passes (CX : CXT) (X : Cx) (E : XK) : Prop := ∀ (pins : List (Addr × Obj)) (σ : St) (H : Hp) (s : Shared) (e : Value) (s' : Shared), Inv X pins σ H s → CX X.stack H s E e s' → X.xe e s'
section
variable {X : Cx} {CX : CXT} {k : Nat} {f C : Addr} {fd : FuncData} {ps : List Str} {sp : Sp} {dvs : List V} {ds : List Value} {E : XK} {x m : Str} {p pos apos : Pos} {e o : Expr} {es : List Expr} {ta : TE} {t : TA}
theorem run_fn {pins : List (Addr × Obj)} {σ : St} {H : Hp} {s : Shared} {Q : VK} {us : List Value} {vs : List V} (F : FnOk X.prog X.w X.K X.mg X.base CX k f fd ps sp) (hr : Room k X.A) (hb : Binds X.K fd ps ds) (hd : Vals dvs ds) (hx : Passes CX X E)
    (I : Inv X pins σ H s) (r : Vals vs us) (h : sp (vs ++ dvs) H Q E) : wpAny (model X.prog X.w) X.A (call (.ref f) us) (EP X pins σ Q) X.xe s := by
  have r2 : Vals (vs ++ dvs) (us ++ ds) := r.append hd
  have hl : (us ++ ds).length = ps.length := by rw [← r2.length]; exact F.len _ _ _ _ h
  refine wpAny_call (codeAny_mono (F.run X.A X.stack s H ⟨us, []⟩ (us ++ ds) (vs ++ dvs) Q E hr I.env0 (hb s us I.kIn hl) r2 h) fun r s' hq => ?_)
  cases r with
  | error e => exact hx pins σ H s e s' I hq
  | ok fl =>
    cases fl with
    | ret u => exact I.after hq
    | next => exact False.elim hq
    | brk => exact False.elim hq
    | cont => exact False.elim hq
theorem pe_call (F : FnOk X.prog X.w X.K X.mg X.base CX k f fd ps sp) (hr : Room k X.A) (hg : Gl X x) (hm : X.mg x = some (.ref f)) (hk : PySem.W.keepIn X.K (.ref f) = true) (hb : Binds X.K fd ps ds) (hd : Vals dvs ds) (hx : Passes CX X E)
    (ha : PA X (e :: es) t) (hdb : (x == ("__debug__" : Str)) = false := by decide) (he : starEach (e :: es) X.env = (false, eval e X.env) :: starEach es X.env := by rfl) (hpl : (backTo pos (starEach es X.env)).any (·.1) = false := by rfl) :
    PE X (.Call (.Name x p) (e :: es) [] pos) (tCall sp dvs E t) := by
  intro pins s σ H Q I h
  refine wpAny_Call_Name_kw (ld_glob I hg hm ?_ hdb)
  refine PySem.W.callWith_K (h₀ := X.base) I.ok.mod.kin hk (thn (ha pos pins s σ H _ I h) fun us s1 ⟨vs, H1, I1, r, q⟩ => ⟨I1.kIn, ?_⟩) he hpl
  exact run_fn F hr hb hd hx I1 r q
structure Mk (K : PySem.W.Frag) (C f : Addr) : Prop where
  makes : PySem.W.makesIn K C = true
  init : PySem.W.findIn K (.ref C) "__init__" = some (some (.ref f))
  fn : PySem.W.isFn K (.ref f) = true
  kp : PySem.W.keepIn K (.ref C) = true
end
def PK (X : Cx) (kws : List Keyword) (t : TA) : Prop :=
  ∀ (pos : Pos) (pins : List (Addr × Obj)) (s : Shared) (σ : St) (H : Hp) (Q : List V → Hp → Prop), Inv X pins σ H s → t σ H Q → wpAny (model X.prog X.w) X.A (evalAll ((backToKw pos (keywordEach kws X.env)).map (·.2))) (AP X pins σ Q) X.xe s
section
variable {X : Cx} {CX : CXT} {k : Nat} {f C : Addr} {fd : FuncData} {ps ks : List Str} {sp : Sp} {E : XK} {x m : Str} {p pos apos kpos : Pos} {e o : Expr} {es : List Expr} {kws : List Keyword} {te ta : TE} {t tk : TA} {nm : Option Str}
theorem pk_nil : PK X [] tNil := fun _ _ _ _ H Q I h => wpAny_evalAll_nil ⟨[], H, I, .nil, h⟩
theorem pk_cons (ha : PE X e te) (hr : PK X kws t) : PK X (⟨nm, e, kpos⟩ :: kws) (tCons te t) := by
  intro pos pins s σ H Q I h
  show wpAny _ _ (evalAll ((do let v ← eval e X.env; standAt pos; pure v) :: (backToKw pos (keywordEach kws X.env)).map (·.2))) _ _ s
  refine wpAny_evalAll_cons (wpAny_bind (thn (ha pins s σ H _ I h) fun u s1 ⟨x, H1, I1, r1, q1⟩ => wpAny_bind (wpAny_standAt (wpAny_pure ?_))))
  exact thn (hr pos pins s1 σ H1 _ I1 q1) fun us s2 ⟨xs, H2, I2, r2, q2⟩ => ⟨x :: xs, H2, I2, .cons r1 r2, q2⟩
structure KBinds (K : PySem.W.Frag) (fd : FuncData) (ps ks : List Str) (g : List Value → List Value → List Value) (gV : List V → List V → List V) : Prop where
  to : ∀ (s : Shared) (us ws : List Value), K.In s.heap → (g us ws).length = ps.length → BindsTo s fd ⟨us, ks.zip ws⟩ (ps.zip (g us ws))
  rel : ∀ {vs : List V} {us : List Value} {zs : List V} {ws : List Value}, Vals vs us → Vals zs ws → Vals (gV vs zs) (g us ws)
def tCallK (sp : Sp) (gV : List V → List V → List V) (E : XK) (t tk : TA) : TE := fun σ H Q => t σ H fun vs H1 => tk σ H1 fun zs H2 => sp (gV vs zs) H2 Q E
variable {g : List Value → List Value → List Value} {gV : List V → List V → List V}
end
structure FnScope (N P : List Str) (sc : Scope) : Prop where
  kind : sc.kind = .function
  co : sc.isCoroutine = false
  gen : sc.isGenerator = false
  nd : N.Nodup
  pre : N.take P.length = P
  par : ∀ x ∈ P, sc.names.lookup x = some .local ∨ sc.names.lookup x = some .cell
  nofree : ∀ y ∈ sc.names, y.2 ≠ .free
theorem bindL_out {kindOf : Str → Option NameKind} {x : Str} : ∀ {binds : List (Str × Value)} {m : Str → Option Value}, (∀ v, (x, v) ∉ binds) → bindL kindOf binds m x = m x
  | [], _, _ => rfl
  | (n, v) :: r, m, h => by
    unfold bindL
    rw [bindL_out fun w hw => h w (List.mem_cons_of_mem _ hw)]
    split
    · have : x ≠ n := by rintro rfl; exact h v List.mem_cons_self
      simp [this]
    · rfl
theorem bindC_out {kindOf : Str → Option NameKind} {x : Str} : ∀ {binds : List (Str × Value)} {m : Str → Option Value}, (∀ v, (x, v) ∉ binds) → bindC kindOf binds m x = m x
  | [], _, _ => rfl
  | (n, v) :: r, m, h => by
    unfold bindC
    rw [bindC_out fun w hw => h w (List.mem_cons_of_mem _ hw)]
    split
    · rfl
    · have : x ≠ n := by rintro rfl; exact h v List.mem_cons_self
      simp [this]
theorem bindL_get {kindOf : Str → Option NameKind} {x : Str} {v : Value} : ∀ {P : List Str} {vs : List Value} {i : Nat} {m : Str → Option Value}, P.Nodup → P[i]? = some x → vs[i]? = some v → kindOf x = some .local →
    bindL kindOf (P.zip vs) m x = some v
  | [], _, _, _, _, h, _, _ => by simp at h
  | _ :: _, [], _, _, _, _, h, _ => by simp at h
  | p :: P, w :: vs, 0, m, nd, h1, h2, hk => by
    simp at h1 h2; subst h1; subst h2
    show bindL kindOf ((p, w) :: P.zip vs) m p = _
    unfold bindL
    rw [bindL_out fun v hv => (List.nodup_cons.mp nd).1 (List.of_mem_zip hv).1, if_pos hk]
    simp
  | p :: P, w :: vs, i + 1, m, nd, h1, h2, hk => by
    show bindL kindOf ((p, w) :: P.zip vs) m x = _
    unfold bindL
    exact bindL_get (i := i) (List.nodup_cons.mp nd).2 (by simpa using h1) (by simpa using h2) hk
theorem bindC_get {kindOf : Str → Option NameKind} {x : Str} {v : Value} : ∀ {P : List Str} {vs : List Value} {i : Nat} {m : Str → Option Value}, P.Nodup → P[i]? = some x → vs[i]? = some v → kindOf x ≠ some .local →
    bindC kindOf (P.zip vs) m x = some v
  | [], _, _, _, _, h, _, _ => by simp at h
  | _ :: _, [], _, _, _, _, h, _ => by simp at h
  | p :: P, w :: vs, 0, m, nd, h1, h2, hk => by
    simp at h1 h2; subst h1; subst h2
    show bindC kindOf ((p, w) :: P.zip vs) m p = _
    unfold bindC
    rw [bindC_out fun v hv => (List.nodup_cons.mp nd).1 (List.of_mem_zip hv).1, if_neg hk]
    simp
  | p :: P, w :: vs, i + 1, m, nd, h1, h2, hk => by
    show bindC kindOf ((p, w) :: P.zip vs) m x = _
    unfold bindC
    exact bindC_get (i := i) (List.nodup_cons.mp nd).2 (by simpa using h1) (by simpa using h2) hk
def start (N : List Str) (vs : List V) : St := vs.map some ++ List.replicate (N.length - vs.length) none
def cxOf (CX : CXT) (P : Program) (w : World) (K : PySem.W.Frag) (mg : Str → Option Value) (base : Heap) (N : List Str) (qual : Str) (scope : Scope) (f : Addr) (cd : Value) (A : Around) (outer : List Env) (s : Shared) (H : Hp) (E : XK) : Cx where
  prog := P
  w := w
  K := K
  mg := mg
  base := base
  A := A.deeper (envOfC qual scope s.heap.objs.size f cd)
  N := N
  s₀ := s
  H₀ := H
  env := envOfC qual scope s.heap.objs.size f cd
  outer := outer
  stack := envOfC qual scope s.heap.objs.size f cd :: outer
  ex := []
  calm := true
  fn := fun _ => true
  pn := []
  xe := fun e s' => wpAny (model P w) (A.deeper (envOfC qual scope s.heap.objs.size f cd)) (leaving (envOfC qual scope s.heap.objs.size f cd) e) (fun _ s'' => CX outer H s E e s'') (fun e' s'' => CX outer H s E e' s'') s'
theorem cell_has {sc : Scope} {n : Nat} {x : Str} (h : sc.names.lookup x = some .cell) : ∃ c, (cellsFrom n sc.names []).lookup x = some c := by
  have q := PySem.W.cellsFrom_some sc.names n [] (.inl h)
  exact Option.isSome_iff_exists.mp q
theorem inv_start {CX : CXT} {P : Program} {w : World} {K : PySem.W.Frag} {mg : Str → Option Value} {base : Heap} {N ps : List Str} {qual : Str} {scope : Scope} {f : Addr} {cd : Value} {A : Around} {outer : List Env} {s s1 : Shared} {H : Hp} {E : XK} {us : List Value} {vs : List V}
    (S : FnScope N ps scope) (hd : A.handled = none) (e0 : Env0 P w K mg base A outer s H) (hl : vs.length = ps.length) (r : Vals vs us)
    (x : InCallC s s.heap.objs.size (bindL (envOfC qual scope s.heap.objs.size f cd).kindOf (ps.zip us) fun _ => none) (cellsFrom (s.heap.objs.size + 1) scope.names []) (bindC (envOfC qual scope s.heap.objs.size f cd).kindOf (ps.zip us) fun _ => none) s1) :
    Inv (cxOf CX P w K mg base N qual scope f cd A outer s H E) [] (start N vs) H s1 := by
  have hpl : ps.length ≤ N.length := by have := congrArg List.length S.pre; rw [List.length_take] at this; omega
  obtain ⟨h1, tk, rfl, hk⟩ := x.done
  have noA : ∀ b : Addr, b ∉ (cxOf CX P w K mg base N qual scope f cd A outer s H E).ex := fun b z => absurd (show b ∈ ([] : List Addr) from z) (by simp)
  refine ⟨⟨e0.mod, S.kind, rfl, rfl, Nat.le_refl _, fun y z c h1 h2 => ?_, fun y hy => ?_, fun y c _ h => ?_, fun _ => hd, Around.frames_deeper e0.frames, .inr ⟨rfl, rfl⟩, fun b z => absurd z (noA b), e0.bs, e0.bsz, fun b _ _ => noA b, fun b z => absurd z (noA b), e0.funs, e0.frf⟩,
    rfl, e0.bare, Un.kept hk, ⟨_, x.toInCall.ns, fun i y v h1 h2 h3 => ?_⟩, fun y c h => ⟨_, x.cell y c h⟩, e0.hok.fresh (Nat.le_refl _), fun y c h => ?_, fun p hp => absurd (show p ∈ ([] : List (Addr × Obj)) from hp) (by simp), e0.hok.kept hk, ?_⟩
  · exact name_of_addr x.apart (PySem.mem_of_lookup h1) (PySem.mem_of_lookup h2)
  · have hy : scope.names.lookup y = some .cell ∨ scope.names.lookup y = some .free := hy
    rcases hy with hy | hy
    · exact cell_has hy
    · exact absurd rfl (S.nofree _ (PySem.mem_of_lookup hy))
  · exact Nat.le_of_lt (x.above y c (PySem.mem_of_lookup h))
  · have hi : i < vs.length := by
      unfold start at h2
      by_cases hi : i < vs.length
      · exact hi
      · rw [List.getElem?_append_right (by simpa using hi)] at h2
        rw [List.getElem?_replicate] at h2
        split at h2 <;> cases h2
    have ha : vs[i]? = some v := by
      unfold start at h2
      rw [List.getElem?_append_left (by simpa using hi), List.getElem?_map] at h2
      cases e : vs[i]? with
      | none => rw [e] at h2; cases h2
      | some a => rw [e] at h2; cases h2; rfl
    obtain ⟨u, hu, rv⟩ := r.get ha
    have hp : ps[i]? = some y := by
      rw [← S.pre, List.getElem?_take_of_lt (by omega)]; exact h1
    have ndP : ps.Nodup := by rw [← S.pre]; exact S.nd.sublist (List.take_sublist _ _)
    refine ⟨u, rv, ?_⟩
    rcases S.par y (List.mem_of_getElem? hp) with k | k
    · exact .inl ⟨k, bindL_get ndP hp hu k⟩
    · obtain ⟨c, e⟩ := cell_has (n := s.heap.objs.size + 1) k
      refine .inr ⟨.inl k, c, e, ?_⟩
      have q := x.cell y c e
      rw [bindC_get ndP hp hu (by show scope.names.lookup y ≠ _; rw [k]; decide)] at q
      exact q
  · exact e0.hok.fresh (Nat.le_of_lt (x.above y c (PySem.mem_of_lookup h)))
  · unfold start
    show _ = N.length
    rw [List.length_append, List.length_map, List.length_replicate]
    omega
theorem fn_of {CX : CXT} {P : Program} {w : World} {K : PySem.W.Frag} {mg : Str → Option Value} {base : Heap} {k : Nat} {f : Addr} {name qual : Str} {params : Arguments} {body : List Stmt} {scope : Scope} {dV kV doc pm cdv ct oc : Value} {an od : Option Addr}
    {osl : Array (Option Value)} {N ps : List Str} {sp : Sp} (lk : K.lookup f = some ⟨oc, od, .func (PySem.W.fnOf name qual params body scope dV kV doc pm an cdv ct), osl⟩) (hcd : PySem.W.codeIn K cdv qual = true) (S : FnScope N ps scope)
    (len : ∀ vs H Q E, sp vs H Q E → vs.length = ps.length)
    (hbody : ∀ (A : Around) (outer : List Env) (s : Shared) (H : Hp) (vs : List V) (Q : VK) (E : XK), Room k (A.deeper (envOfC qual scope s.heap.objs.size f cdv)) → sp vs H Q E →
      ∃ t, PSs (cxOf CX P w K mg base N qual scope f cdv A outer s H E) body t ∧ t { nx := fun _ H' => Q .non H', rt := Q } (start N vs) H) :
    FnOk P w K mg base CX (k + 1) f (PySem.W.fnOf name qual params body scope dV kV doc pm an cdv ct) ps sp := by
  refine ⟨len, fun A outer s H args us vs Q E hr e0 hb r hsp => ?_⟩
  have hl := len _ _ _ _ hsp
  have KX : K.In s.heap := e0.mod.kin.keeps fun b o e => (e0.bs b o e).1
  have lim : s.heap.NoLimit := e0.mod.nolimit.keeps fun b o e => (e0.bs b o e).1
  have hkind : ∀ y ∈ ps.zip us, scope.names.lookup y.1 = some .local ∨ (scope.names.lookup y.1 = some .cell ∧ ((cellsFrom (s.heap.objs.size + 1) scope.names []).lookup y.1).isSome = true) := fun ⟨n, v⟩ hy => by
    rcases S.par n (List.of_mem_zip hy).1 with q | q
    · exact .inl q
    · exact .inr ⟨q, PySem.W.cellsFrom_some _ _ _ (.inl q)⟩
  refine codeAny_call_function hr.depth (KX _ _ lk) rfl S.co S.gen rfl (PySem.W.codeRec_of KX hcd) (hb _ _ _ _ ?_)
  refine wpAny_newFunctionEnv_cells S.kind hkind fun env he s1 x => ?_
  subst he
  refine ⟨lim.keeps x.toInCall.keep, codeAny_func ?_⟩
  obtain ⟨t, ht, hq⟩ := hbody A outer s H vs Q E (hr.deeper _) hsp
  have I : Inv (cxOf CX P w K mg base N qual scope f cdv A outer s H E) [] (start N vs) H s1 := inv_start S hr.hd e0 hl r x
  refine wpAny_mono (ht [] s1 (start N vs) H _ I hq) (fun fl s' hs => ?_) fun e s' hs => hs
  have fin : ∀ {σ' : St} {H' : Hp} {v : V} {u : Value}, Inv (cxOf CX P w K mg base N qual scope f cdv A outer s H E) [] σ' H' s' → RelV v u → Q v H' → CE outer P w H s Q u s' :=
    fun {σ' H' v u} J rv q => ⟨v, H', J.os, J.bare, J.base, J.hok, rv, q⟩
  cases fl with
  | ret u =>
    obtain ⟨v, σ', H', J, rv, q⟩ := hs
    exact fin J rv q
  | next =>
    obtain ⟨σ', H', J, q⟩ := hs
    exact fin (v := V.non) (u := Value.none) J rfl q
  | brk =>
    obtain ⟨_, _, _, q⟩ := hs
    exact False.elim q
  | cont =>
    obtain ⟨_, _, _, q⟩ := hs
    exact False.elim q
end L2
namespace L2
open PySem PySem.Spec PyProof.Rows
section
variable {X : Cx} {x : Str} {p pos : Pos} {e : Expr} {es : List Expr} {t : TA} {id T : String} {r : List V → Hp → VK → Prop}
def tCB (r : List V → Hp → VK → Prop) (t : TA) : TE := fun σ H Q => t σ H fun vs H1 => r vs H1 Q
theorem pe_callB (hc : CallR X (.builtin id) r) (hg : Gl X x) (hm : X.mg x = none) (hv : bootBuiltins x = some (.builtin id)) (ha : PA X (e :: es) t) (hn : x ≠ "__name__" := by decide) (hdb : (x == ("__debug__" : Str)) = false := by decide)
    (he : starEach (e :: es) X.env = (false, eval e X.env) :: starEach es X.env := by rfl) (hpl : (backTo pos (starEach es X.env)).any (·.1) = false := by rfl) : PE X (.Call (.Name x p) (e :: es) [] pos) (tCB r t) := by
  intro pins s σ H Q I h
  refine wpAny_Call_Name_kw (ld_blt I hg hm hv ?_ hn hdb)
  exact PyProof.Rows.callWith_builtin1 (thn (ha pos pins s σ H _ I h) fun us s1 ⟨vs, H1, I1, r1, q1⟩ => hc pins s1 σ H1 vs us Q I1 r1 q1) he hpl
theorem pe_callTy (hc : CallR X (.type T) r) (hg : Gl X x) (hm : X.mg x = none) (hv : bootBuiltins x = some (.type T)) (ha : PA X (e :: es) t) (hn : x ≠ "__name__" := by decide) (hdb : (x == ("__debug__" : Str)) = false := by decide)
    (he : starEach (e :: es) X.env = (false, eval e X.env) :: starEach es X.env := by rfl) (hpl : (backTo pos (starEach es X.env)).any (·.1) = false := by rfl) : PE X (.Call (.Name x p) (e :: es) [] pos) (tCB r t) := by
  intro pins s σ H Q I h
  refine wpAny_Call_Name_kw (ld_blt I hg hm hv ?_ hn hdb)
  exact PyProof.Rows.callWith_type1 (thn (ha pos pins s σ H _ I h) fun us s1 ⟨vs, H1, I1, r1, q1⟩ => hc pins s1 σ H1 vs us Q I1 r1 q1) he hpl
end
end L2
namespace HT
open PySem PyProof.Rows
def lexLt : List Int → List Int → Bool
  | [], [] => false
  | [], _ :: _ => true
  | _ :: _, [] => false
  | x :: xs, y :: ys => if x = y then lexLt xs ys else decide (x < y)
theorem rcLt_int (A : Around) (s : Shared) (a : Int) (t : Tok) (c : Int) (u : Tok) (prog : Program) (w : World) (E : Value → Shared → Prop) (Q : Value → Shared → Prop) (h : Q (.bool (decide (a < c))) s) :
    wpAny (model prog w) A (richCompare .Lt (.int a t) (.int c u)) Q E s :=
  (PyProof.Rows.lt_int h : wpAny (model prog w) A (compareOp .Lt (.int a t) (.int c u)) Q E s)
section
open PySem.SeqAt
open PySem.AutoSeq1 (wpAny_loadPart')
open PySem.MeetsSeq PySem.MeetsSeq2 PySem.MeetsSeq3
end
section
variable {prog : Program} {w : World} {A : Around} {E : Value → Shared → Prop} {s : Shared}
theorem cat_tup {t b : Addr} {vs ws : List Value} {Q : Value → Shared → Prop} (ht : IsTup s.heap t vs.toArray) (hb : IsTup s.heap b ws.toArray) (hv : vs ≠ [])
    (h1 : ws = [] → Q (.ref t) s) (h2 : ws ≠ [] → Q (.ref s.heap.objs.size) { s with heap := s.heap.push { cls := .type "tuple", data := .seq (vs ++ ws).toArray } })
    (hsz : vs.length + ws.length ≤ sizeLine) : wpAny (model prog w) A (binaryOp .Add (.ref t) (.ref b)) Q E s := by
  obtain ⟨⟨cls, dd, data, sl⟩, ho, hc, n, hd⟩ := id ht
  obtain ⟨⟨cls2, dd2, data2, sl2⟩, ho2, hc2, n2, hd2⟩ := id hb
  simp only at hc hd hc2 hd2
  subst hc hd hc2 hd2
  have e : vs.toArray ++ ws.toArray = (vs ++ ws).toArray := by simp
  by_cases hw : ws = []
  · exact concat_meets ⟨_, ho, rfl⟩ ⟨_, ho2, rfl⟩ noFill_tuple_add seq_tuple_add PySem.F.slot_tuple_add PySem.F.entry_tuple_add (PySem.F.args_tuple_add_2 _ _)
      (tuple_addW1 t b vs.toArray ws.toArray n n2 dd dd2 sl sl2 (by simpa using hv) (by simp [hw])) ⟨ho, ho2, h1 hw⟩
  · refine concat_meets ⟨_, ho, rfl⟩ ⟨_, ho2, rfl⟩ noFill_tuple_add seq_tuple_add PySem.F.slot_tuple_add PySem.F.entry_tuple_add (PySem.F.args_tuple_add_2 _ _)
      (tuple_addW2 t b vs.toArray ws.toArray n n2 dd dd2 sl sl2 (by simpa using hv) (by simpa using hw) (by rw [List.size_toArray, List.size_toArray]; exact hsz)) ⟨ho, ho2, ?_⟩
    rw [e]
    exact h2 hw
def sIx (n d : Nat) : Option Int → Nat
  | none => d
  | some v => if v < 0 then (v + (n : Int)).toNat else min v.toNat n
theorem sIx_le (n d : Nat) (hd : d ≤ n) (o : Option Int) : sIx n d o ≤ n := by
  cases o with
  | none => exact hd
  | some v =>
    show (if v < 0 then (v + (n : Int)).toNat else min v.toNat n) ≤ n
    by_cases hv : v < 0
    · rw [if_pos hv]; omega
    · rw [if_neg hv]; exact Nat.min_le_right _ _
theorem clip_eq (v : Int) (n d : Nat) : (if v < 0 then max (v + (n : Int)) 0 else min v (n : Int)) = ((sIx n d (some v) : Nat) : Int) := by
  show (if v < 0 then max (v + (n : Int)) 0 else min v (n : Int)) = (((if v < 0 then (v + (n : Int)).toNat else min v.toNat n) : Nat) : Int)
  by_cases hv : v < 0
  · simp only [if_pos hv]; omega
  · simp only [if_neg hv]; omega
theorem adjust_gen (lo hi : Option Int) (n : Nat) : Builtin.Slice.sliceAdjust lo hi 1 (n : Int) = (((sIx n 0 lo : Nat) : Int), ((sIx n n hi : Nat) : Int)) := by
  have h1 : ¬ ((1 : Int) < 0) := by omega
  unfold Builtin.Slice.sliceAdjust
  simp only [h1, if_false]
  refine Prod.ext ?_ ?_
  · cases lo with
    | none => rfl
    | some v => exact clip_eq v n 0
  · cases hi with
    | none => rfl
    | some v => exact clip_eq v n n
theorem places_gen (i j : Nat) : Builtin.Slice.slicePlaces (i : Int) (j : Int) 1 = j - i := by
  unfold Builtin.Slice.slicePlaces
  have h1 : (1 : Int) > 0 := by omega
  simp only [h1, if_true, Int.ediv_one]
  split <;> omega
theorem slicePart_ {v : Value} {o : Option Int} {Q : Option Int → Shared → Prop} (p : IsPart v o) (h : Q o s) : wpAny (model prog w) A (Builtin.Slice.slicePartIndex v) Q E s := by
  cases p with
  | none => exact slicePart_none h
  | int i t => exact slicePart_int h
theorem sliceApplied_gen {sl : Addr} {vl vu : Value} {lo hi : Option Int} {n : Nat} {Q : Int × Int × Nat → Shared → Prop} (hs : s.heap.IsSliceOf sl vl vu .none) (pl : IsPart vl lo) (pu : IsPart vu hi)
    (h : Q (((sIx n 0 lo : Nat) : Int), 1, sIx n n hi - sIx n 0 lo) s) : wpAny (model prog w) A (Builtin.Slice.sliceApplied (.ref sl) (pure (n : Int))) Q E s := by
  obtain ⟨os, hos, hcs, hds⟩ := id hs
  unfold Builtin.Slice.sliceApplied Builtin.Slice.sliceFields
  refine wpAny_bind (wpAny_bind (wpAny_field hos hds (x := vl) rfl (wpAny_bind (wpAny_field hos hds (x := vu) rfl (wpAny_bind (wpAny_field hos hds (x := .none) rfl (wpAny_pure ?_)))))))
  refine wpAny_bind (slicePart_none ?_)
  show wpAny _ _ (if ((1 : Int) == 0) = true then _ else _) _ _ s
  rw [if_neg (by decide)]
  refine wpAny_bind (slicePart_ pl (wpAny_bind (slicePart_ pu (wpAny_bind (wpAny_pure ?_)))))
  show wpAny _ _ (match Builtin.Slice.sliceAdjust lo hi 1 (n : Int) with | (lo, hi) => pure (lo, (1 : Int), Builtin.Slice.slicePlaces lo hi 1)) _ _ s
  rw [adjust_gen lo hi n]
  show wpAny _ _ (pure (((sIx n 0 lo : Nat) : Int), (1 : Int), Builtin.Slice.slicePlaces ((sIx n 0 lo : Nat) : Int) ((sIx n n hi : Nat) : Int) 1)) _ _ s
  rw [places_gen]
  exact wpAny_pure h
theorem pick_gen (xs : Array Value) (i k : Nat) : ((List.range k).filterMap fun (m : Nat) => xs[((i : Int) + (m : Int) * 1).toNat]?).toArray = ((xs.toList.drop i).take k).toArray := by
  have e : (fun (m : Nat) => xs[((i : Int) + (m : Int) * 1).toNat]?) = fun m => xs[i + m]? := by
    funext m
    have : ((i : Int) + (m : Int) * 1).toNat = i + m := by omega
    rw [this]
  rw [e]
  have := pick_run xs i k
  rw [List.filterMap_map] at this
  have e2 : ((fun x => xs[x]?) ∘ fun x => i + x) = fun m => xs[i + m]? := rfl
  rw [e2] at this
  rw [this]
theorem getItem_tuple_cut {t sl : Addr} {items : Array Value} {vl vu : Value} {lo hi : Option Int} {Q : Value → Shared → Prop} (ht : IsTup s.heap t items) (hs : s.heap.IsSliceOf sl vl vu .none) (pl : IsPart vl lo) (pu : IsPart vu hi)
    (hw : ¬ (sIx items.size 0 lo = 0 ∧ sIx items.size items.size hi = items.size))
    (h : Q (.ref s.heap.objs.size) { s with heap := s.heap.push { cls := .type "tuple", data := .seq ((items.toList.drop (sIx items.size 0 lo)).take (sIx items.size items.size hi - sIx items.size 0 lo)).toArray } })
    (hsz : items.size ≤ sizeLine) : wpAny (model prog w) A (getItem (.ref t) (.ref sl)) Q E s := by
  have htake : sizeOk (.seq ((items.toList.drop (sIx items.size 0 lo)).take (sIx items.size items.size hi - sIx items.size 0 lo)).toArray) := by
    show ((items.toList.drop (sIx items.size 0 lo)).take (sIx items.size items.size hi - sIx items.size 0 lo)).toArray.size ≤ sizeLine
    rw [List.size_toArray, List.length_take, List.length_drop, Array.length_toList]
    omega
  have hj : sIx items.size items.size hi ≤ items.size := sIx_le _ _ (Nat.le_refl _) hi
  obtain ⟨os, hos, hcs, hds⟩ := id hs
  have hTs : s.TypeIs (.ref sl) "slice" := ⟨os, hos, hcs⟩
  unfold getItem
  try with_reducible refine wpAny_holding ?_
  first | refine wpAny_bind (wpAny_pure ?_) | skip
  refine wpAny_bind (wpAny_sequenceKey ht.typeIs (by decide) ?_)
  refine wpAny_bind (wpAny_callSpecial?_slot (name := Str.ofString "__getitem__") ht.typeIs PyProof.Rows.slot_tuple_getitem
    (wpAny_call_entry PyProof.Rows.slot_tuple_getitem ht.typeIs entry_tuple_getitem ?_ (args_tuple_getitem _ _)))
  show wpAny _ _ (Builtin.Tuple.tupleItemsOf (.ref t) >>= _) _ _ s
  refine wpAny_bind (tupleItemsOf_ ht ?_)
  refine wpAny_bind (wpAny_typeOf hTs ?_)
  rw [if_pos (by decide)]
  refine wpAny_bind (sliceApplied_gen hs pl pu ?_)
  have hno : ¬ ((((sIx items.size 0 lo : Nat) : Int) == 0 && (1 : Int) == 1 && (sIx items.size items.size hi - sIx items.size 0 lo) == items.size) = true) := by
    intro q
    rw [Bool.and_eq_true, Bool.and_eq_true] at q
    have q1 : ((sIx items.size 0 lo : Nat) : Int) = 0 := eq_of_beq q.1.1
    have q2 : sIx items.size items.size hi - sIx items.size 0 lo = items.size := eq_of_beq q.2
    exact hw ⟨by omega, by omega⟩
  show wpAny _ _ (if (((sIx items.size 0 lo : Nat) : Int) == 0 && (1 : Int) == 1 && (sIx items.size items.size hi - sIx items.size 0 lo) == items.size) = true then _ else _) _ _ s
  rw [if_neg hno, pick_gen]
  first
    | exact wpAny_bind (m := Builtin.Tuple.tupleExact _) (wpAny_newObj_type (wpAny_pure ⟨_, rfl, wpAny_pure h⟩) htake)
    | exact wpAny_bind (m := Builtin.Tuple.tupleExact _) (wpAny_newObj_type (wpAny_bind (wpAny_pure (wpAny_pure ⟨_, rfl, wpAny_pure h⟩))) htake)
    | exact wpAny_bind (wpAny_bind (m := Builtin.Tuple.tupleExact _) (wpAny_newObj_type (wpAny_pure (wpAny_pure ⟨_, rfl, wpAny_pure h⟩)) htake))
    | exact wpAny_bind (wpAny_bind (m := Builtin.Tuple.tupleExact _) (wpAny_newObj_type (wpAny_pure ⟨_, rfl, wpAny_pure h⟩) htake))
end
end HT
namespace L2
open PySem PySem.Spec PyProof.Rows
abbrev TO := St → Hp → (Option Int → Hp → Prop) → Prop
def PO (X : Cx) (e : Option Expr) (t : TO) : Prop :=
  ∀ (pins : List (Addr × Obj)) (s : Shared) (σ : St) (H : Hp) (Q : Option Int → Hp → Prop), Inv X pins σ H s → t σ H Q →
    wpAny (model X.prog X.w) X.A (evalPart e X.env) (fun u s' => ∃ o H', Inv X pins σ H' s' ∧ IsPart u o ∧ Q o H') X.xe s
def tNoPart : TO := fun _ H Q => Q none H
def tPart (t : TE) : TO := fun σ H Q => t σ H fun x H1 => ∃ i, x = .int i ∧ Q (some i) H1
theorem intsAre_of {ns : List Int} : ∀ {us : List Value}, Vals (ns.map V.int) us → IntsAre us ns := by
  induction ns with
  | nil => intro us r; rw [List.map_nil] at r; cases r; exact .nil
  | cons n ns ih =>
    intro us r
    rw [List.map_cons] at r
    cases r with
    | cons r1 r2 =>
      obtain ⟨t, e⟩ := r1
      subst e
      exact .cons n t (ih r2)
section
variable {X : Cx} {e : Expr} {te : TE} {lo hi : Option Expr} {tl th : TO} {pos p2 : Pos}
theorem po_none : PO X none tNoPart := by
  intro pins s σ H Q I h
  rw [evalPart_none]
  exact wpAny_pure ⟨none, H, I, .none, h⟩
theorem po_some (h : PE X e te) : PO X (some e) (tPart te) := by
  intro pins s σ H Q I hw
  rw [evalPart_some]
  refine thn (h pins s σ H _ I hw) fun u s1 ⟨x, H1, I1, r1, q1⟩ => ?_
  obtain ⟨i, rfl, q⟩ := q1
  obtain ⟨t, rfl⟩ := r1
  exact ⟨some i, H1, I1, .int i t, q⟩
def SlR (X : Cx) (r : V → Option Int → Option Int → Hp → VK → Prop) : Prop :=
  ∀ (pins : List (Addr × Obj)) (s : Shared) (σ : St) (H : Hp) (x : V) (v vl vu : Value) (lo hi : Option Int) (sl : Addr) (Q : VK), Inv X pins σ H s → RelV x v → s.heap.IsSliceOf sl vl vu .none → IsPart vl lo → IsPart vu hi → r x lo hi H Q →
    ∃ T id, typeLookup (.type T) "__getitem__" = pure (some (.builtin id)) ∧ s.TypeIs v T ∧ wpAny (model X.prog X.w) X.A (getItem v (.ref sl)) (EP X pins σ Q) X.xe s
theorem SlR.or {r r' : V → Option Int → Option Int → Hp → VK → Prop} (h : SlR X r) (h' : SlR X r') : SlR X (fun x lo hi H Q => r x lo hi H Q ∨ r' x lo hi H Q) := by
  intro pins s σ H x v vl vu lo hi sl Q I rx hs pl pu q
  rcases q with q | q
  · exact h pins s σ H x v vl vu lo hi sl Q I rx hs pl pu q
  · exact h' pins s σ H x v vl vu lo hi sl Q I rx hs pl pu q
def tSl (r : V → Option Int → Option Int → Hp → VK → Prop) (te : TE) (tl th : TO) : TE := fun σ H Q => te σ H fun x H1 => tl σ H1 fun l H2 => th σ H2 fun u H3 => r x l u H3 Q
theorem pe_slice {r : V → Option Int → Option Int → Hp → VK → Prop} (hr : SlR X r) (he : PE X e te) (hl : PO X lo tl) (hu : PO X hi th) : PE X (.Subscript e (.Slice lo hi none p2) pos) (tSl r te tl th) := by
  intro pins s σ H Q I h
  refine Subscript_ (thn (he pins s σ H _ I h) fun v s1 ⟨x, H1, I1, r1, q1⟩ => ?_)
  refine wpAny_Slice (thn (hl pins s1 σ H1 _ I1 q1) fun vl s2 ⟨l, H2, I2, pl, q2⟩ => thn (hu pins s2 σ H2 _ I2 q2) fun vu s3 ⟨u, H3, I3, pu, q3⟩ => ?_)
  rw [evalPart_none]
  refine wpAny_pure ?_
  have I4 : Inv X pins σ H3 { s3 with heap := s3.heap.push { cls := .type "slice", data := .fields #[vl, vu, .none] } } := I3.kept (t' := s3.toks) fun b ob q => Heap.get?_push_of_some _ q
  obtain ⟨T, id, hT, ht, hg⟩ := hr pins { s3 with heap := s3.heap.push { cls := .type "slice", data := .fields #[vl, vu, .none] } } σ H3 x v vl vu l u s3.heap.objs.size Q I4 r1 (Heap.IsSliceOf.new ..) pl pu q3
  show wpAny (model X.prog X.w) X.A (subscriptTail e (.Slice lo hi none p2) v (.ref s3.heap.objs.size)) (EP X pins σ Q) X.xe { s3 with heap := s3.heap.push { cls := .type "slice", data := .fields #[vl, vu, .none] } }
  exact tail_any (ops := [.ref s3.heap.objs.size, v]) ht hT hg (by with_unfolding_all rfl)
def cutV (xs : List V) (lo hi : Option Int) : List V := (xs.drop (HT.sIx xs.length 0 lo)).take (HT.sIx xs.length xs.length hi - HT.sIx xs.length 0 lo)
theorem cutV_length (xs : List V) (lo hi : Option Int) : (cutV xs lo hi).length ≤ xs.length := by
  unfold cutV
  rw [List.length_take, List.length_drop]
  omega
def rSlT (K : PySem.W.Frag) : V → Option Int → Option Int → Hp → VK → Prop := fun x lo hi H Q => ∃ a xs, x = .ref a ∧ SqT K H a xs ∧
  ¬ (HT.sIx xs.length 0 lo = 0 ∧ HT.sIx xs.length xs.length hi = xs.length) ∧ ∀ p, H p = none → Q (.ref p) (upd H p (.tup (cutV xs lo hi)))
theorem sl_tup : SlR X (rSlT X.K) := by
  intro pins s σ H x v vl vu lo hi sl Q I rx hs pl pu h
  obtain ⟨a, xs, rfl, hx, hw, q⟩ := h
  cases rx
  obtain ⟨its, r, ht, hz⟩ := I.tuple hx
  have hlen : its.toArray.size = xs.length := by rw [List.size_toArray]; exact r.length.symm
  refine ⟨"tuple", _, PyProof.Rows.slot_tuple_getitem.lookup, ht.typeIs, ?_⟩
  refine HT.getItem_tuple_cut ht hs pl pu (by rw [hlen]; exact hw) ?_ (by rw [hlen]; exact hz)
  rw [hlen]
  refine ⟨.ref s.heap.objs.size, _, I.laid (t' := s.toks) (o := .tup (cutV xs lo hi)) (fun b ob q => Heap.get?_push_of_some _ q) (Nat.le_refl _) ?_, rfl, q _ (I.hok.fresh (Nat.le_refl _))⟩
  exact ⟨Nat.le_trans (cutV_length xs lo hi) hz, _, (r.drop (HT.sIx xs.length 0 lo)).take (HT.sIx xs.length xs.length hi - HT.sIx xs.length 0 lo), IsTup.new _ _⟩
def rLtT (K : PySem.W.Frag) : R2 := fun x y H Q => ∃ a b ns ms, x = .ref a ∧ y = .ref b ∧ SqT K H a (ns.map V.int) ∧ SqT K H b (ms.map V.int) ∧ Q (.bl (HT.lexLt ns ms)) H
def rCatT (K : PySem.W.Frag) : R2 := fun x y H Q => ∃ a b xs ys, x = .ref a ∧ y = .ref b ∧ SqT K H a xs ∧ SqT K H b ys ∧ xs ≠ [] ∧ xs.length + ys.length ≤ sizeLine ∧
  (ys = [] → Q (.ref a) H) ∧ (ys ≠ [] → ∀ p, H p = none → Q (.ref p) (upd H p (.tup (xs ++ ys))))
theorem Vals.nil_iff {xs : List V} {us : List Value} (r : Vals xs us) : us = [] ↔ xs = [] := by
  cases r with
  | nil => simp
  | cons _ _ => simp
theorem op_catT : OpR X (binaryOp .Add) (rCatT X.K) := by
  intro pins s σ H x y v u Q I rx ry h
  obtain ⟨a, b, xs, ys, rfl, rfl, ha, hb, hx, hz, q1, q2⟩ := h
  cases rx
  cases ry
  obtain ⟨its, r1, p1, _⟩ := I.tuple ha
  obtain ⟨its2, r2, p2, _⟩ := I.tuple hb
  refine HT.cat_tup p1 p2 (fun z => hx (r1.nil_iff.mp z)) (fun z => ⟨.ref a, H, I, rfl, q1 (r2.nil_iff.mp z)⟩) (fun z => ?_) (by rw [← r1.length, ← r2.length]; exact hz)
  refine ⟨.ref s.heap.objs.size, _, I.laid (t' := s.toks) (o := .tup (xs ++ ys)) (fun b ob q => Heap.get?_push_of_some _ q) (Nat.le_refl _) ?_, rfl, q2 (fun w => z (r2.nil_iff.mpr w)) _ (I.hok.fresh (Nat.le_refl _))⟩
  exact ⟨by rw [List.length_append]; exact hz, _, r1.append r2, IsTup.new _ _⟩
end
end L2
namespace L2
open PySem PySem.Spec PyProof.Rows
def ixN (n : Nat) (i : Int) : Option Nat := if 0 ≤ i then (if i < n then some i.toNat else none) else if -(n : Int) ≤ i then some (i + n).toNat else none
def atI {α : Type} (xs : List α) (i : Int) : Option α := (ixN xs.length i).bind fun j => xs[j]?
theorem ixN_seq {n : Nat} {i : Int} {j : Nat} (h : ixN n i = some j) : seqIndex? i n = some j ∧ j < n ∧ -(n : Int) ≤ i ∧ i < n := by
  unfold ixN at h
  by_cases h0 : 0 ≤ i
  · rw [if_pos h0] at h
    by_cases h1 : i < n
    · rw [if_pos h1] at h
      have e : i.toNat = j := Option.some.inj h
      exact ⟨by rw [seqIndex_of h0 h1, e], by omega, by omega, h1⟩
    · rw [if_neg h1] at h; cases h
  · rw [if_neg h0] at h
    by_cases h1 : -(n : Int) ≤ i
    · rw [if_pos h1] at h
      have e : (i + n).toNat = j := Option.some.inj h
      exact ⟨by rw [seqIndex_neg (by omega) h1, e], by omega, h1, by omega⟩
    · rw [if_neg h1] at h; cases h
theorem atI_get {α : Type} {xs : List α} {i : Int} {v : α} (h : atI xs i = some v) : ∃ j, seqIndex? i xs.length = some j ∧ xs[j]? = some v ∧ j < xs.length ∧ -(xs.length : Int) ≤ i ∧ i < xs.length := by
  unfold atI at h
  cases e : ixN xs.length i with
  | none => rw [e] at h; cases h
  | some j =>
    rw [e] at h
    obtain ⟨h1, h2, h3, h4⟩ := ixN_seq e
    exact ⟨j, h1, h, h2, h3, h4⟩
theorem atI_nat {α : Type} {xs : List α} {j : Nat} {v : α} (h : xs[j]? = some v) : atI xs (j : Int) = some v := by
  have hj : j < xs.length := (List.getElem?_eq_some_iff.mp h).1
  have e : ixN xs.length (j : Int) = some j := by
    unfold ixN
    rw [if_pos (by omega), if_pos (by omega)]; simp
  unfold atI; rw [e]; exact h
theorem atI_last {α : Type} (xs : List α) (v : α) : atI (xs ++ [v]) (-1) = some v := by
  have hl : (xs ++ [v]).length = xs.length + 1 := by simp
  have e : ixN (xs ++ [v]).length (-1) = some xs.length := by
    unfold ixN
    rw [hl, if_neg (by decide), if_pos (by omega)]
    congr 1
    omega
  unfold atI
  rw [e]
  show (xs ++ [v])[xs.length]? = some v
  simp
def PlainIx (b : Expr) : Prop := ∀ o i, subscripted b false o i = operate [o, i] (getItem o i)
def IxR (X : Cx) (r : R2) : Prop :=
  ∀ (value slice : Expr) (pins : List (Addr × Obj)) (s : Shared) (σ : St) (H : Hp) (x y : V) (v u : Value) (Q : VK), Inv X pins σ H s → RelV x v → RelV y u → r x y H Q →
    subscripted slice false v u = operate [v, u] (getItem v u) → wpAny (model X.prog X.w) X.A (subscriptTail value slice v u) (EP X pins σ Q) X.xe s
def MtR (X : Cx) (id : String) (r : V → List V → Hp → VK → Prop) : Prop :=
  ∀ (pins : List (Addr × Obj)) (s : Shared) (σ : St) (H : Hp) (x : V) (xs : List V) (v : Value) (us : List Value) (Q : VK), Inv X pins σ H s → RelV x v → Vals xs us → r x xs H Q →
    wpAny (model X.prog X.w) X.A (call (.builtin id) (v :: us)) (EP X pins σ Q) X.xe s
section
variable {X : Cx} {a b : Expr} {ta tb : TE} {pos : Pos}
theorem IxR.or {r r' : R2} (h : IxR X r) (h' : IxR X r') : IxR X (fun x y H Q => r x y H Q ∨ r' x y H Q) := by
  intro value slice pins s σ H x y v u Q I rx ry q hs
  rcases q with q | q
  · exact h value slice pins s σ H x y v u Q I rx ry q hs
  · exact h' value slice pins s σ H x y v u Q I rx ry q hs
theorem MtR.or {id : String} {r r' : V → List V → Hp → VK → Prop} (h : MtR X id r) (h' : MtR X id r') : MtR X id (fun x xs H Q => r x xs H Q ∨ r' x xs H Q) := by
  intro pins s σ H x xs v us Q I rx rs q
  rcases q with q | q
  · exact h pins s σ H x xs v us Q I rx rs q
  · exact h' pins s σ H x xs v us Q I rx rs q
theorem pe_ix {r : R2} (hr : IxR X r) (ha : PE X a ta) (hb : PE X b tb) (hs : PlainIx b) : PE X (.Subscript a b pos) (tOp r ta tb) := by
  intro pins s σ H Q I h
  exact Subscript_ (binT ha hb I h fun v u s2 x y H2 I2 rx ry q => hr a b pins s2 σ H2 x y v u Q I2 rx ry q (hs _ _))
def rIxL (K : PySem.W.Frag) : R2 := fun x y H Q => ∃ p xs i v, x = .ref p ∧ y = .int i ∧ SqL K H p xs ∧ atI xs i = some v ∧ Q v H
def rIxT (K : PySem.W.Frag) : R2 := fun x y H Q => ∃ p xs i v, x = .ref p ∧ y = .int i ∧ SqT K H p xs ∧ atI xs i = some v ∧ Q v H
def rIxS : R2 := fun x y H Q => ∃ z i c, x = .str z ∧ y = .int i ∧ z.length ≤ sizeLine ∧ atI z.cps.toList i = some c ∧ Q (.str ⟨#[c]⟩) H
theorem ix_list : IxR X (rIxL X.K) := by
  intro value slice pins s σ H x y v u Q I rx ry h hs
  obtain ⟨p, xs, i, z, rfl, rfl, hq, he, q⟩ := h
  cases rx
  obtain ⟨t, rfl⟩ := ry
  obtain ⟨its, r, pl, hz⟩ := I.list hq
  obtain ⟨j, h1, h2, h3, h4, h5⟩ := atI_get he
  obtain ⟨w, ew, rw'⟩ := r.get h2
  have hl := r.length
  have hn := line63
  have fin : EP X pins σ Q w s := ⟨z, H, I, rw', q⟩
  by_cases h0 : 0 ≤ i
  · have hj : i.toNat = j := by
      rw [seqIndex_of h0 h5] at h1
      exact Option.some.inj h1
    exact item_listR pl.isList h0 (by omega) (by rw [hj]; simpa using ew) fin hs
  · have hj : (i + (its.toArray.size : Int)).toNat = j := by
      rw [seqIndex_neg (by omega) h4] at h1
      rw [List.size_toArray, ← hl]
      exact Option.some.inj h1
    exact subscriptTail_builtinR (x := w) pl.isList.typeIs slot_list_getitem.lookup
      (wpAny_getItem_list_neg (Q := fun r s' => r = w ∧ EP X pins σ Q r s') pl.isList (by omega) (by rw [List.size_toArray] <;> omega) (by omega) (by rw [hj]; simpa using ew) ⟨rfl, fin⟩) hs
theorem ix_tup : IxR X (rIxT X.K) := by
  intro value slice pins s σ H x y v u Q I rx ry h hs
  obtain ⟨p, xs, i, z, rfl, rfl, hq, he, q⟩ := h
  cases rx
  obtain ⟨t, rfl⟩ := ry
  obtain ⟨its, r, pl, hz⟩ := I.tuple hq
  obtain ⟨j, h1, h2, h3, h4, h5⟩ := atI_get he
  obtain ⟨w, ew, rw'⟩ := r.get h2
  have hl := r.length
  have hn := line63
  have fin : EP X pins σ Q w s := ⟨z, H, I, rw', q⟩
  exact subscriptTail_builtinR (x := w) pl.typeIs slot_tuple_getitem.lookup
    (getItem_tuple (j := j) (Q := fun r s' => r = w ∧ EP X pins σ Q r s') pl (by omega) (by omega) (by rw [List.size_toArray, ← hl]; exact h1) (by simpa using ew) ⟨rfl, fin⟩) hs
theorem ix_str : IxR X rIxS := by
  intro value slice pins s σ H x y v u Q I rx ry h hs
  obtain ⟨z, i, c, rfl, rfl, hz, he, q⟩ := h
  obtain ⟨t, rfl⟩ := rx
  obtain ⟨t', rfl⟩ := ry
  obtain ⟨j, h1, h2, h3, h4, h5⟩ := atI_get he
  have hl : z.cps.toList.length = z.length := by simp [Str.length]
  rw [hl] at h1 h4 h5
  have hn := line63
  exact tail_any (typeIs_str s z t) slot_str_getitem.lookup (getItem_str (c := c) (by
    have e1 : decide (i < -(2 ^ 63 : Int)) = false := decide_eq_false (by omega)
    have e2 : decide (i ≥ 2 ^ 63) = false := decide_eq_false (by omega)
    rw [e1, e2, Bool.or_false]) (by rw [h1]; simpa using h2) ⟨.str ⟨#[c]⟩, H, I.tok _, ⟨_, rfl⟩, q⟩) hs
def rIx (K : PySem.W.Frag) : R2 := fun x y H Q => rIxL K x y H Q ∨ rIxT K x y H Q ∨ rIxS x y H Q
theorem mapSeq_set (its : List Value) (n j : Nat) (u : Value) : Obj.mapSeq (·.setIfInBounds j u) { cls := .type "list", data := .seq its.toArray n } = { cls := .type "list", data := .seq (its.set j u).toArray n } := by
  simp [Obj.mapSeq]
theorem Inv.lst {pins : List (Addr × Obj)} {σ : St} {H : Hp} {s : Shared} {p : Addr} {xs : List V} (I : Inv X pins σ H s) (h : H p = some (.lst xs)) :
    ∃ (its : List Value) (n : Nat), Vals xs its ∧ s.heap.get? p = some { cls := .type "list", data := .seq its.toArray n } ∧ xs.length ≤ sizeLine := by
  obtain ⟨z, its, n, r, e⟩ := I.hok p _ h
  exact ⟨its, n, r, e, z⟩
theorem Inv.lstUpd {pins : List (Addr × Obj)} {σ : St} {H : Hp} {s : Shared} {p : Addr} {xs ys : List V} {its its' : List Value} {n n' : Nat} {f : Obj → Obj} (I : Inv X pins σ H s) (h : H p = some (.lst xs))
    (ho : s.heap.get? p = some { cls := .type "list", data := .seq its.toArray n }) (hf : f { cls := .type "list", data := .seq its.toArray n } = { cls := .type "list", data := .seq its'.toArray n' }) (r : Vals ys its') (hz : ys.length ≤ sizeLine) (t : Nat) :
    Inv X pins σ (upd H p (.lst ys)) { s with heap := s.heap.update p f, toks := t } := by
  have e : (s.heap.update p f).get? p = some { cls := .type "list", data := .seq its'.toArray n' } := by
    rw [Heap.get?_update_self f ho (by rw [hf] <;> rfl), hf]
  refine I.write (x := p) (e := p) (by rw [h]; trivial) (.inl rfl) (fun b u hb q => (Heap.get?_update_other _ _ (Ne.symm hb)).trans q) ⟨_, e⟩ ?_
  exact ⟨hz, its', n', r, e⟩
def rSetL : V → V → V → Hp → (Hp → Prop) → Prop := fun o i v H Q => ∃ p xs k j, o = .ref p ∧ i = .int k ∧ H p = some (.lst xs) ∧ ixN xs.length k = some j ∧ Q (upd H p (.lst (xs.set j v)))
theorem set_list : PSet X rSetL := by
  intro pins s σ H o i v ov iv u Q I ro ri rv h
  obtain ⟨p, xs, k, j, rfl, rfl, hp, hj, q⟩ := h
  cases ro
  obtain ⟨t, rfl⟩ := ri
  obtain ⟨its, n, r, ho, hz⟩ := I.lst hp
  obtain ⟨h1, h2, h3, h4⟩ := ixN_seq hj
  have hl := r.length
  have hn := line63
  have I' : Inv X pins σ (upd H p (.lst (xs.set j v))) { s with heap := s.heap.update p (Obj.mapSeq (·.setIfInBounds j u)) } :=
    I.lstUpd hp ho (mapSeq_set its n j u) (r.set rv j) (by rw [List.length_set]; exact hz) s.toks
  by_cases h0 : 0 ≤ k
  · have hk : k.toNat = j := by
      rw [seqIndex_of h0 h4] at h1
      exact Option.some.inj h1
    exact PySem.W.ki_setAt ho h0 (by omega) (by rw [List.size_toArray, ← hl]; exact h4) (by rw [hk]; exact ⟨_, I', q⟩)
  · have hk : (k + (its.toArray.size : Int)).toNat = j := by
      rw [seqIndex_neg (by omega) h3] at h1
      rw [List.size_toArray, ← hl]
      exact Option.some.inj h1
    exact PySem.W.ki_setBack ho (by omega) (by rw [List.size_toArray, ← hl]; exact h3) (by omega) (by rw [hk]; exact ⟨_, I', q⟩)
theorem slice_bounds (lo hi : Option Int) (n : Nat) : (sliceBounds lo hi none n).1 = ((HT.sIx n 0 lo : Nat) : Int) ∧ (sliceBounds lo hi none n).2.1 = ((HT.sIx n n hi : Nat) : Int) ∧ (sliceBounds lo hi none n).2.2 = 1 := by
  refine ⟨?_, ?_, rfl⟩
  · cases lo with
    | none => simp [sliceBounds, HT.sIx]
    | some i =>
      simp only [sliceBounds, HT.sIx, Option.getD_none, show (1 : Int) > 0 by decide, if_true]
      by_cases h : i < 0
      · simp only [h, if_true] <;> omega
      · simp only [h, if_false] <;> omega
  · cases hi with
    | none => simp [sliceBounds, HT.sIx]
    | some i =>
      simp only [sliceBounds, HT.sIx, Option.getD_none, show (1 : Int) > 0 by decide, if_true]
      by_cases h : i < 0
      · simp only [h, if_true] <;> omega
      · simp only [h, if_false] <;> omega
theorem slicePick_cut (its : List Value) (lo hi : Option Int) : slicePick its.toArray lo hi none = ((its.drop (HT.sIx its.length 0 lo)).take (HT.sIx its.length its.length hi - HT.sIx its.length 0 lo)).toArray := by
  obtain ⟨h1, h2, h3⟩ := slice_bounds lo hi its.toArray.size
  unfold slicePick
  rw [h1, h2, h3]
  simp only [sliceRange_one, pick_run, List.size_toArray] <;> rfl
def rSlL (K : PySem.W.Frag) : V → Option Int → Option Int → Hp → VK → Prop := fun x lo hi H Q => ∃ a xs, x = .ref a ∧ SqL K H a xs ∧ ∀ p, H p = none → Q (.ref p) (upd H p (.lst (cutV xs lo hi)))
theorem sl_list : SlR X (rSlL X.K) := by
  intro pins s σ H x v vl vu lo hi sl Q I rx hs pl pu h
  obtain ⟨a, xs, rfl, hx, q⟩ := h
  cases rx
  obtain ⟨its, r, ht, hz⟩ := I.list hx
  have hlen := r.length
  refine ⟨"list", _, slot_list_getitem.lookup, ht.isList.typeIs, ?_⟩
  refine wpAny_getItem_list_slice ht.isList hs pl pu .none (by simp) ?_ (by rw [List.size_toArray] <;> omega)
  rw [slicePick_cut, ← hlen]
  refine ⟨.ref s.heap.objs.size, _, I.laid (t' := s.toks) (o := .lst (cutV xs lo hi)) (fun b ob q => Heap.get?_push_of_some _ q) (Nat.le_refl _) ?_, rfl, q _ (I.hok.fresh (Nat.le_refl _))⟩
  exact ⟨Nat.le_trans (cutV_length xs lo hi) hz, _, 0, (r.drop (HT.sIx xs.length 0 lo)).take (HT.sIx xs.length xs.length hi - HT.sIx xs.length 0 lo), Heap.get?_push_size _ rfl⟩
def flatV : V → Bool
  | .non => true
  | .bl _ => true
  | .int _ => true
  | .str _ => true
  | _ => false
def eqV : V → V → Bool
  | .non, .non => true
  | .bl a, .bl b => a == b
  | .bl a, .int b => (if a then 1 else 0) == b
  | .int a, .bl b => a == (if b then 1 else 0)
  | .int a, .int b => a == b
  | .str a, .str b => a == b
  | _, _ => false
def eqU (x : V) (u : Value) : Bool := match u with
  | .none => eqV .non x
  | .bool b => eqV (.bl b) x
  | .int i _ => eqV (.int i) x
  | .str z _ => eqV (.str z) x
  | _ => false
def inV (x : V) (xs : List V) : Bool := xs.any fun y => eqV y x
def rIn (K : PySem.W.Frag) (neg : Bool) : R2 := fun x y H Q => ∃ p xs, y = .ref p ∧ (SqL K H p xs ∨ SqT K H p xs) ∧ flatV x = true ∧ xs.all flatV = true ∧ Q (.bl (if neg then !inV x xs else inV x xs)) H
theorem call_len_seq : CallR X (.builtin "len") (fun xs H Q => ∃ p ys, xs = [.ref p] ∧ (SqL X.K H p ys ∨ SqT X.K H p ys) ∧ Q (.int ys.length) H) := by
  intro pins s σ H xs us Q I r h
  obtain ⟨p, ys, rfl, hq, q⟩ := h
  obtain ⟨u, rfl, rx⟩ := vals1 r
  cases rx
  have hn := line63
  rcases hq with hq | hq
  · obtain ⟨its, r', pl, hz⟩ := I.list hq
    have hlen := r'.length
    exact Calls.call_len_list pl.isList (by simp only [List.size_toArray] <;> omega) ⟨.int ys.length, H, I.tok _, ⟨s.toks + 1, by rw [List.size_toArray, hlen]⟩, q⟩
  · obtain ⟨its, r', pl, hz⟩ := I.tuple hq
    have hlen := r'.length
    exact len_tuple pl (by simp only [List.size_toArray] <;> omega) ⟨.int ys.length, H, I.tok _, ⟨s.toks + 1, by rw [List.size_toArray, hlen]⟩, q⟩
theorem call_len_str : CallR X (.builtin "len") (fun xs H Q => ∃ z, xs = [.str z] ∧ z.length ≤ sizeLine ∧ Q (.int z.length) H) := by
  intro pins s σ H xs us Q I r h
  obtain ⟨z, rfl, hz, q⟩ := h
  obtain ⟨u, rfl, t, rfl⟩ := vals1 r
  have hn := line63
  exact len_str (by omega) ⟨.int z.length, H, I.tok _, ⟨_, rfl⟩, q⟩
theorem CallR.or {f : Value} {r r' : List V → Hp → VK → Prop} (h : CallR X f r) (h' : CallR X f r') : CallR X f (fun xs H Q => r xs H Q ∨ r' xs H Q) := by
  intro pins s σ H xs us Q I rs q
  rcases q with q | q
  · exact h pins s σ H xs us Q I rs q
  · exact h' pins s σ H xs us Q I rs q
theorem call_list_of : CallR X (.type "list") (fun xs H Q => ∃ p ys, xs = [.ref p] ∧ (SqL X.K H p ys ∨ SqT X.K H p ys) ∧ ∀ l, H l = none → Q (.ref l) (upd H l (.lst ys))) := by
  intro pins s σ H xs us Q I r h
  obtain ⟨p, ys, rfl, hq, q⟩ := h
  obtain ⟨u, rfl, rx⟩ := vals1 r
  cases rx
  have fin : ∀ (its : List Value), Vals ys its → ys.length ≤ sizeLine → ∀ (h' : Heap) (c' : Nat), (∀ b o', s.heap.get? b = some o' → h'.get? b = some o') →
      h'.get? s.heap.objs.size = some { cls := .type "list", dict := none, data := .seq its.toArray c', slots := #[] } → EP X pins σ Q (.ref s.heap.objs.size) { s with heap := h' } := fun its r' hz h' c' kp e =>
    ⟨.ref s.heap.objs.size, _, I.laid (t' := s.toks) kp (Nat.le_refl _) (show ObjOk X.prog X.w _ h' _ (.lst ys) from ⟨hz, its, c', r', e⟩), rfl, q _ (I.hok.fresh (Nat.le_refl _))⟩
  rcases hq with hq | hq
  · obtain ⟨its, r', pl, hz⟩ := I.list hq
    have hlen := r'.length
    obtain ⟨o, ho, hc, n, hd⟩ := pl.isList
    exact call_list_seq p (.inl rfl) ho hc hd (fun h' c' kp e => fin its r' hz h' c' kp e) (by simp only [List.size_toArray] <;> omega)
  · obtain ⟨its, r', pl, hz⟩ := I.tuple hq
    have hlen := r'.length
    obtain ⟨o, ho, hc, n, hd⟩ := pl
    exact call_list_seq p (.inr rfl) ho hc hd (fun h' c' kp e => fin its r' hz h' c' kp e) (by simp only [List.size_toArray] <;> omega)
theorem call_tuple_of : CallR X (.type "tuple") (fun xs H Q => ∃ p ys, xs = [.ref p] ∧ ((SqL X.K H p ys ∧ ∀ l, H l = none → Q (.ref l) (upd H l (.tup ys))) ∨ (SqT X.K H p ys ∧ Q (.ref p) H))) := by
  intro pins s σ H xs us Q I r h
  obtain ⟨p, ys, rfl, h⟩ := h
  obtain ⟨u, rfl, rx⟩ := vals1 r
  cases rx
  rcases h with ⟨hq, q⟩ | ⟨hq, q⟩
  · obtain ⟨its, r', pl, hz⟩ := I.list hq
    have hlen := r'.length
    refine call_tuple_list pl.isList (fun h' kp => ?_) (by simp only [List.size_toArray] <;> omega)
    have I1 : Inv X pins σ H { s with heap := h' } := I.kept (t' := s.toks) kp
    have I2 : Inv X pins σ (upd H h'.objs.size (.tup ys)) { s with heap := h'.push { cls := .type "tuple", data := .seq its.toArray } } :=
      I1.laid (t' := s.toks) (fun b o e => Heap.get?_push_of_some _ e) (Nat.le_refl _) (show ObjOk X.prog X.w _ _ _ (.tup ys) from ⟨hz, its, r', IsTup.new _ _⟩)
    exact ⟨.ref h'.objs.size, _, I2, rfl, q _ (I1.hok.fresh (Nat.le_refl _))⟩
  · obtain ⟨its, r', pl, hz⟩ := I.tuple hq
    exact call_tuple_same pl ⟨.ref p, H, I, rfl, q⟩
def tyV (K : PySem.W.Frag) (T : String) (x : V) (H : Hp) : Prop := match x with
  | .str _ => T = "str"
  | .int _ => T = "int"
  | .ref p => (T = "list" ∧ ∃ xs, SqL K H p xs) ∨ (T = "tuple" ∧ ∃ o, K.lookup p = some o ∧ o.cls = .type "tuple" ∧ o.dict = none) ∨
      (T = "dict" ∧ ((∃ kvs, H p = some (.dK kvs)) ∨ ∃ kvs, H p = some (.dT kvs))) ∨ (T = "set" ∧ ∃ S n, H p = some (.set S n))
  | _ => False
theorem tyV_is {pins : List (Addr × Obj)} {σ : St} {H : Hp} {s : Shared} {T : String} {x : V} {v : Value} (I : Inv X pins σ H s) (r : RelV x v) (ty : tyV X.K T x H) :
    s.TypeIs v T ∧ ∀ a, v = .ref a → ∃ ob, s.heap.get? a = some ob ∧ ob.dict = none := by
  cases x with
  | str z =>
    obtain ⟨t, rfl⟩ := r
    cases (show T = "str" from ty)
    exact ⟨typeIs_str s z t, fun _ e => nomatch e⟩
  | int i =>
    obtain ⟨t, rfl⟩ := r
    cases (show T = "int" from ty)
    exact ⟨typeIs_int s i t, fun _ e => nomatch e⟩
  | ref p =>
    cases r
    rcases ty with ⟨rfl, xs, hq⟩ | ⟨rfl, o, hk, hc, hd⟩ | ⟨rfl, hk⟩ | ⟨rfl, S, n, hk⟩
    · obtain ⟨its, _, pl, _⟩ := I.list hq
      refine ⟨pl.isList.typeIs, fun a e => ?_⟩
      cases e
      obtain ⟨o, n, e, c, hd, _⟩ := pl
      exact ⟨o, e, hd⟩
    · refine ⟨⟨o, I.kIn p o hk, hc⟩, fun a e => ?_⟩
      cases e
      exact ⟨o, I.kIn _ o hk, hd⟩
    · have z : ∃ o, s.heap.get? p = some o ∧ o.ExactDict := by
        rcases hk with ⟨kvs, hk⟩ | ⟨kvs, hk⟩
        · obtain ⟨_, _, _, _, o, _, _, e, ex, _⟩ := I.hok p _ hk
          exact ⟨o, e, ex⟩
        · obtain ⟨_, _, _, _, o, _, _, e, ex, _⟩ := I.hok p _ hk
          exact ⟨o, e, ex⟩
      obtain ⟨o, e, ex⟩ := z
      refine ⟨⟨o, e, ex.1⟩, fun a e2 => ?_⟩
      cases e2
      exact ⟨o, e, ex.2.1⟩
    · obtain ⟨o, _, _, _, e, ex, _⟩ := I.hok p _ hk
      refine ⟨⟨o, e, ex.1⟩, fun a e2 => ?_⟩
      cases e2
      exact ⟨o, e, ex.2.1⟩
  | _ => exact False.elim ty
def tBM0 (K : PySem.W.Frag) (T : String) (r : V → List V → Hp → VK → Prop) (to : TE) : TE := fun σ H Q => to σ H fun x H1 => tyV K T x H1 ∧ r x [] H1 Q
def tBM (K : PySem.W.Frag) (T : String) (r : V → List V → Hp → VK → Prop) (to : TE) (t : TA) : TE := fun σ H Q => to σ H fun x H1 => tyV K T x H1 ∧ t σ H1 fun xs H2 => r x xs H2 Q
variable {o e : Expr} {es : List Expr} {to : TE} {t : TA} {name : Str} {apos cpos : Pos} {T id : String} {r : V → List V → Hp → VK → Prop}
theorem pe_bm (pa : PlainAttrs T) (slot : Slot T name id) (hty : typeOf (.builtin id) = pure (.type "method_descriptor")) (hm : MtR X id r) (ho : PE X o to) (ha : PA X (e :: es) t)
    (hbase : attributeBase o name X.env (eval o X.env) = eval o X.env := by rfl)
    (hfew : ((backTo cpos (starEach (e :: es) X.env)).all (fun x => !x.1) && (backToKw cpos (keywordEach [] X.env)).all (fun x => x.1.isSome)
      && decide ((e :: es).length + ([] : List Keyword).length + (if ([] : List Keyword).isEmpty then 0 else 1) < 30)) = true := by rfl)
    (hline : (apos.endLine == cpos.line) = true := by rfl) (hs : starEach (e :: es) X.env = (false, eval e X.env) :: starEach es X.env := by rfl) (hplain : (backTo cpos (starEach es X.env)).any (·.1) = false := by rfl) :
    PE X (.Call (.Attribute o name apos) (e :: es) [] cpos) (tBM X.K T r to t) := by
  intro pins s σ H Q I h
  refine wpAny_Call_method_late hbase hfew hline rfl (thn (ho pins s σ H _ I h) fun v s1 ⟨x, H1, I1, r1, ty, q1⟩ => ?_)
  obtain ⟨h1, h2⟩ := tyV_is I1 r1 ty
  refine ⟨T, id, pa, slot, hty, h1, h2, ?_⟩
  have hA := ha cpos pins s1 σ H1 _ I1 q1
  rw [hs] at hA ⊢
  refine Calls.callWith_builtin (by show (false || (backTo cpos (starEach es X.env)).any (·.1)) = false; rw [hplain] <;> rfl) (Calls.evalArgs_plain ?_)
  exact thn hA fun us s2 ⟨vs, H2, I2, r2, q2⟩ => hm pins s2 σ H2 x vs v us Q I2 r1 r2 q2
end
end L2
namespace L2
open PySem PySem.Spec PyProof.Rows
def MtM (X : Cx) (id : String) (r : V → List V → Hp → VK → Prop) : Prop :=
  ∀ (pins : List (Addr × Obj)) (s : Shared) (σ : St) (H : Hp) (x : V) (xs : List V) (v : Value) (us : List Value) (Q : VK), Inv X pins σ H s → RelV x v → Vals xs us → r x xs H Q →
    wpAny (model X.prog X.w) X.A (call (.builtin id) (v :: us)) (EP X pins σ Q) X.xe s
theorem Vals.one : ∀ {x : V} {us : List Value}, Vals [x] us → ∃ u, us = [u] ∧ RelV x u
  | _, _, .cons r .nil => ⟨_, rfl, r⟩
theorem Vals.two : ∀ {x y : V} {us : List Value}, Vals [x, y] us → ∃ u v, us = [u, v] ∧ RelV x u ∧ RelV y v
  | _, _, _, .cons r (.cons q .nil) => ⟨_, _, rfl, r, q⟩
theorem Vals.zero : ∀ {us : List Value}, Vals [] us → us = []
  | _, .nil => rfl
theorem Vals.dropLast {xs : List V} {us : List Value} (h : Vals xs us) : Vals xs.dropLast us.dropLast := by
  induction h with
  | nil => exact .nil
  | cons r t ih =>
    cases t with
    | nil => exact .nil
    | cons q t' => exact .cons r ih
theorem Vals.eraseIdx : ∀ {xs : List V} {us : List Value} (i : Nat), Vals xs us → Vals (xs.eraseIdx i) (us.eraseIdx i)
  | _, _, _, .nil => .nil
  | _, _, 0, .cons _ t => t
  | _, _, i + 1, .cons r t => .cons r (Vals.eraseIdx i t)
theorem Vals.reverse {xs : List V} {us : List Value} (h : Vals xs us) : Vals xs.reverse us.reverse := by
  induction h with
  | nil => exact .nil
  | cons r t ih => rw [List.reverse_cons, List.reverse_cons]; exact Vals.append ih (.cons r .nil)
theorem Vals.rep {xs : List V} {us : List Value} (h : Vals xs us) : ∀ k : Nat, Vals (List.replicate k xs).flatten (List.replicate k us).flatten
  | 0 => .nil
  | k + 1 => by
    rw [List.replicate_succ, List.replicate_succ, List.flatten_cons, List.flatten_cons]
    exact Vals.append h (Vals.rep h k)
theorem foldl_rep (its : List Value) : ∀ (k : Nat) (acc : List Value),
    List.foldl (fun x1 x2 => x1 ++ x2) acc.toArray (List.replicate k its.toArray) = (acc ++ (List.replicate k its).flatten).toArray
  | 0, acc => by simp
  | k + 1, acc => by
    have e : acc.toArray ++ its.toArray = (acc ++ its).toArray := by simp
    have e2 : (acc ++ its) ++ (List.replicate k its).flatten = acc ++ (List.replicate (k + 1) its).flatten := by
      rw [List.replicate_succ, List.flatten_cons, List.append_assoc]
    rw [← e2, ← foldl_rep its k (acc ++ its), ← e, List.replicate_succ, List.foldl_cons]
section
variable {X : Cx} {pins : List (Addr × Obj)} {σ : St} {H : Hp} {s : Shared} {l b : Addr} {xs ys zs : List V}
theorem Inv.lset {its its' : List Value} {n : Nat} {f : Array Value → Array Value} {t' : Nat} (I : Inv X pins σ H s) (hH : H l = some (.lst xs))
    (e : s.heap.get? l = some { cls := .type "list", data := .seq its.toArray n }) (hf : f its.toArray = its'.toArray) (hv : Vals ys its') (hz : ys.length ≤ sizeLine) :
    Inv X pins σ (upd H l (.lst ys)) { s with heap := s.heap.update l (Obj.mapSeq f), toks := t' } := by
  have q := PySem.IsL.update e f
  rw [hf] at q
  refine I.write (x := l) (e := l) (by rw [hH]; exact trivial) (.inl rfl) (fun b' u hb hu => (Heap.get?_update_other s.heap (Obj.mapSeq f) (Ne.symm hb)).trans hu) ⟨_, q⟩ ?_
  exact ⟨hz, its', _, hv, q⟩
theorem Inv.lnew {its : List Value} {t' : Nat} (I : Inv X pins σ H s) (hv : Vals ys its) (hz : ys.length ≤ sizeLine) :
    Inv X pins σ (upd H s.heap.objs.size (.lst ys)) { s with heap := s.heap.push { cls := .type "list", data := .seq its.toArray }, toks := t' } :=
  I.laid (fun _ _ q => Heap.get?_push_of_some _ q) (Nat.le_refl _) ⟨hz, its, 0, hv, Heap.get?_push_size _ rfl⟩
theorem Inv.fresh (I : Inv X pins σ H s) : H s.heap.objs.size = none := I.hok.fresh (Nat.le_refl _)
theorem Inv.lstM (I : Inv X pins σ H s) (hH : H l = some (.lst xs)) : xs.length ≤ sizeLine ∧ ∃ (its : List Value) (n : Nat), Vals xs its ∧ xs.length = its.length ∧ s.heap.get? l = some { cls := .type "list", data := .seq its.toArray n } := by
  obtain ⟨z, its, n, r, e⟩ := I.hok l _ hH
  exact ⟨z, its, n, r, r.length, e⟩
theorem notLongL {n : Nat} (h : n ≤ sizeLine) : Builtin.List.listTooLong n = false := by
  unfold Builtin.List.listTooLong
  exact decide_eq_false (by omega)
end
section
variable {X : Cx}
def rAppend : V → List V → Hp → VK → Prop := fun x vs H Q => ∃ l xs y, x = .ref l ∧ vs = [y] ∧ H l = some (.lst xs) ∧ xs.length < sizeLine ∧ Q .non (upd H l (.lst (xs ++ [y])))
theorem mt_append : MtM X "list.append" rAppend := by
  intro pins s σ H x vs v us Q I rx rv h
  obtain ⟨l, xs, y, rfl, rfl, hH, hz, q⟩ := h
  cases rx
  obtain ⟨u, rfl, ru⟩ := rv.one
  obtain ⟨z, its, n, r, hl, e⟩ := I.lstM hH
  refine call_meets F.slot_list_append ⟨_, e, rfl⟩ F.entry_list_append (F.args_list_append_2 _ _) (PySem.list_append l its.toArray n u (by rw [List.size_toArray]; omega)) ⟨e, ?_⟩
  refine ⟨.non, _, I.lset (its' := its ++ [u]) hH e (by simp) (r.append (.cons ru .nil)) ?_, rfl, q⟩
  rw [List.length_append, List.length_singleton]
  omega
def rExtend : V → List V → Hp → VK → Prop := fun x vs H Q => ∃ l b xs zs, x = .ref l ∧ vs = [.ref b] ∧ H l = some (.lst xs) ∧ H b = some (.lst zs) ∧ xs.length + zs.length ≤ sizeLine ∧ Q .non (upd H l (.lst (xs ++ zs)))
def rPop : V → List V → Hp → VK → Prop := fun x vs H Q => ∃ l xs y, x = .ref l ∧ vs = [] ∧ H l = some (.lst xs) ∧ xs[xs.length - 1]? = some y ∧ Q y (upd H l (.lst xs.dropLast))
def rPopAt : V → List V → Hp → VK → Prop := fun x vs H Q => ∃ l xs i k y, x = .ref l ∧ vs = [.int i] ∧ H l = some (.lst xs) ∧ -(2 ^ 63) ≤ i ∧ i < 2 ^ 63 ∧ seqIndex? i xs.length = some k ∧ xs[k]? = some y ∧ Q y (upd H l (.lst (xs.eraseIdx k)))
def rReverse : V → List V → Hp → VK → Prop := fun x vs H Q => ∃ l xs, x = .ref l ∧ vs = [] ∧ H l = some (.lst xs) ∧ Q .non (upd H l (.lst xs.reverse))
def rClear : V → List V → Hp → VK → Prop := fun x vs H Q => ∃ l xs, x = .ref l ∧ vs = [] ∧ H l = some (.lst xs) ∧ Q .non (upd H l (.lst []))
def rCat : R2 := fun x y H Q => ∃ l b xs zs, x = .ref l ∧ y = .ref b ∧ H l = some (.lst xs) ∧ H b = some (.lst zs) ∧ xs.length + zs.length ≤ sizeLine ∧ ∀ p, H p = none → Q (.ref p) (upd H p (.lst (xs ++ zs)))
theorem op_cat : OpR X (binaryOp .Add) rCat := by
  intro pins s σ H x y v u Q I rx ry h
  obtain ⟨l, b, xs, zs, rfl, rfl, hH, hB, hz, q⟩ := h
  cases rx
  cases ry
  obtain ⟨z, its, n, r, hl, e⟩ := I.lstM hH
  obtain ⟨z2, its2, n2, r2, hl2, e2⟩ := I.lstM hB
  refine PySem.P.add_list e e2 ?_ (by rw [List.size_toArray, List.size_toArray]; omega)
  have ea : its.toArray ++ its2.toArray = (its ++ its2).toArray := by simp
  rw [ea]
  exact ⟨.ref _, _, I.lnew (t' := s.toks) (r.append r2) (by rw [List.length_append]; omega), rfl, q _ I.fresh⟩
def rRep : R2 := fun x y H Q => ∃ l k xs, x = .ref l ∧ y = .int k ∧ H l = some (.lst xs) ∧ -(2 ^ 63) ≤ k ∧ k < 2 ^ 63 ∧ xs.length * k.toNat ≤ sizeLine ∧
  ∀ p, H p = none → Q (.ref p) (upd H p (.lst (List.replicate k.toNat xs).flatten))
theorem len_rep {α : Type} (xs : List α) (k : Nat) : (List.replicate k xs).flatten.length = k * xs.length := by
  induction k with
  | zero => simp
  | succ k ih => rw [List.replicate_succ, List.flatten_cons, List.length_append, ih, Nat.succ_mul, Nat.add_comm]
theorem op_rep : OpR X (binaryOp .Mult) rRep := by
  intro pins s σ H x y v u Q I rx ry h
  obtain ⟨l, k, xs, rfl, rfl, hH, h1, h2, hz, q⟩ := h
  cases rx
  obtain ⟨t, rfl⟩ := ry
  obtain ⟨z, its, n, r, hl, e⟩ := I.lstM hH
  have hlen : its.toArray.size * k.toNat ≤ sizeLine := by rw [List.size_toArray, ← hl]; exact hz
  have hcap : ¬ its.toArray.size * k.toNat > (2 ^ 63 - 1) / 8 := by
    have : (sizeLine : Nat) ≤ (2 ^ 63 - 1) / 8 := by decide
    omega
  have hfit : ¬ (!Builtin.List.listFitsIndex k) = true := by
    rw [fitsIndex_both h1 h2]
    exact Bool.false_ne_true
  have hlong : ¬ Builtin.List.listTooLong (its.toArray.size * k.toNat) = true := by
    rw [notLongL hlen]
    exact Bool.false_ne_true
  have hnew : List.foldl (fun x1 x2 => x1 ++ x2) #[] (List.replicate (if its.toArray.isEmpty = true then 0 else k.toNat) its.toArray) = (List.replicate k.toNat its).flatten.toArray := by
    have f0 : ∀ m : Nat, List.foldl (fun x1 x2 => x1 ++ x2) #[] (List.replicate m its.toArray) = (List.replicate m its).flatten.toArray := fun m => by
      have := foldl_rep its m []
      rw [List.nil_append] at this
      exact this
    rw [f0]
    cases its with
    | nil => simp
    | cons a r' => rw [if_neg (by simp)]
  refine wpAny_binaryOp_repeat_ref (T := "list") (U := "int") (by decide) ⟨_, e, rfl⟩ (fun s' => typeIs_int s' k t) noFill_list_mul F.fills_int_mul F.slot_int_rmul repeat_list F.slot_int_index.lookup
    (call_meets F.slot_int_rmul (typeIs_int s k t) F.entry_int_rmul (F.args_int_rmul_2 _ _) (int___rmul___int_list k t l its.toArray n)
      ⟨e, rfl, ⟨_, e, rfl⟩, call_meets F.slot_list_mul ⟨_, e, rfl⟩ F.entry_list_mul (F.args_list_mul_2 _ _) (AutoListH.list___mul___list_int_3 l its.toArray n k t hfit hcap hlong) ⟨e, ?_⟩⟩)
  rw [hnew]
  exact ⟨.ref _, _, I.lnew (t' := s.toks) (r.rep k.toNat) (by rw [len_rep, Nat.mul_comm]; exact hz), rfl, q _ I.fresh⟩
end
section
variable {prog : Program} {w : World} {A : Around} {E : Value → Shared → Prop} {s : Shared}
set_option maxRecDepth 100000 in
end
section
variable {X : Cx}
end
end L2
namespace Att
open PySem PySem.W PySem.Calls PyProof.Rows
theorem ints_of_wellAll {P : Params} {h : Heap} : ∀ (ns : List Int) (vs : List Value), WellAll P h vs (ns.map WData.int) → IntsAre vs ns := by
  intro ns
  induction ns with
  | nil =>
    intro vs w
    rw [List.map_nil] at w
    cases w
    exact .nil
  | cons n ns ih =>
    intro vs w
    rw [List.map_cons] at w
    cases w with
    | cons a b =>
      cases a
      exact .cons _ _ (ih _ b)
theorem script_of {l : OpenLaw} {n : Nat} (hn : l.most = some n) {P : Params} {h : Heap} {args : List WData} {vals : List Value}
    (hpre : l.row.toRowW.claim.pre args = true) (hwl : WellAll P h vals args) :
    ∃ a vs ns, vals = [Value.ref a] ∧ args = [WData.list (ns.map WData.int)] ∧ h.get? a = some { cls := .type "list", data := .seq vs.toArray } ∧ IntsAre vs ns ∧ ns.length ≤ n := by
  have hsh : WShape.hasAll [] args [.list .int] = true := (pre_splitW hpre).1
  have hc : l.pre.holds [] { args := args } = true := (pre_splitW hpre).2
  obtain ⟨d, r, rfl, h1, h2⟩ := hasAllW_cons hsh
  obtain rfl := hasAllW_nil h2
  obtain ⟨xs, rfl, h3⟩ := hasW_list h1
  obtain ⟨ns, rfl⟩ := items_int h3
  have hlen : ns.length ≤ n := by
    unfold OpenLaw.pre at hc
    have h4 : (WTm.not (.lt (.lit (.int (n : Int))) (.len (.arg 0)))).holds [] { args := [.list (ns.map .int)] } = true := by
      have h4 := (holds_andW hc).1
      rw [hn] at h4
      exact h4
    have h5 := condW_of h4 (w_not (w_lt w_lit (w_len_list (w_arg rfl))))
    rw [List.length_map] at h5
    refine Nat.le_of_not_lt fun q => ?_
    have q' : (n : Int) < ((ns.length : Nat) : Int) := by omega
    first
      | (rw [decide_eq_true q'] at h5; exact absurd h5 (by decide))
      | (simp at h5; omega)
  cases hwl with
  | cons w1 w2 =>
    cases w2
    cases w1 with
    | list ho hall => exact ⟨_, _, ns, rfl, rfl, ho, ints_of_wellAll ns _ hall, hlen⟩
theorem post_true (l : OpenLaw) (args : List WData) : l.row.toRowW.claim.post args (.bool true) args = true :=
  postW_of (r := l.row.toRowW) (X := (true == true))
    (show WShape.has [] (.bool true) .bool = true by first | rfl | decide | simp [WShape.has, WShape.arms, WShape.armsAll])
    (show (WTm.eq .res (.lit (.bool true))).value [] { args := args, res := some (.bool true), after := args } = some (.bool (true == true)) from w_eq_bool (w_res rfl) w_lit) rfl
theorem attach_call {l : OpenLaw} {n : Nat} {q : Program} {loose : List Str} {XP : (Str → Option Value) → Heap → Prop} {YP : World → Heap → Prop} {d : DefRec}
    (hn : l.most = some n) (hdf : d.params.defaults = [])
    (call : ∀ (w : World) (s₀ s₁ : Shared) (mg mb : Str → Option Value) (fa : Addr) (o : Obj) (pm cd doc : Value) (a : Addr) (vs : List Value) (ns : List Int),
      Ground q loose [] XP w s₀ mg mb s₁.heap → YP w s₁.heap →
      s₁.heap.get? fa = some o → o.data = .func (docDef d.name d.params d.body d.scope pm cd doc) → s₁.heap.CodeRec cd d.name → mg d.name = some (.ref fa) →
      s₁.heap.get? a = some { cls := .type "list", data := .seq vs.toArray } → IntsAre vs ns → ns.length ≤ n → s₁.gens = #[] →
      codeAny (model l.prog w) callerA (.call (.ref fa) ⟨[.ref a], []⟩) (fun r s' => r = .ok (.ret (.bool true)) ∧ OldK s₁.heap s'.heap ∧ s'.os = s₁.os ∧ AllBare s'.gens) s₁) :
    WalkO q loose XP YP l.row.toRowW d [] (fun f vs => PySem.call f vs) := by
  intro w s₀ s₁ mg mb G Y fa o pm cd doc dV kV ho hd hcd hD hmg hg args vals as hpre hlay hrd hwl hlo
  obtain rfl : dV = .none := Dflts.none hD hdf
  obtain rfl : kV = .none := Dflts.noKw hD
  obtain ⟨a, vs, ns, rfl, rfl, hobj, hints, hlen⟩ := script_of hn hpre hwl
  refine enter_call (codeAny_mono (call w s₀ s₁ mg mb fa o pm cd doc a vs ns G Y ho (fd_plain hd) hcd hmg hobj hints hlen hg) fun r s' hq => ?_)
  obtain ⟨rfl, h2, h3, h4⟩ := hq
  exact ⟨.inl ⟨.bool true, .bool true, [], rfl, fun _ => rfl, .bool true, post_true l _, fun _ => ⟨List.Pairwise.nil, fun _ hm => (nomatch hm)⟩⟩, h2, h3, h4⟩
section
variable {prog : Program} {w : World} {A : Around} {E : Value → Shared → Prop} {s : Shared} {K : Frag}
def noObjs (h : Heap) : Heap := { h with objs := #[] }
def ledger (h : Heap) (L d : Addr) : List (Addr × Obj) := (List.range h.objs.size).filterMap fun a => if a = L ∨ a = d then none else (h.get? a).map fun o => (a, o)
end
end Att
namespace L2
open PySem PySem.Spec PyProof.Rows
theorem vals_ints : ∀ {vs : List Value} {ns : List Int}, IntsAre vs ns → Vals (ns.map V.int) vs
  | _, _, .nil => .nil
  | _, _, .cons n t h => .cons ⟨t, rfl⟩ (vals_ints h)
def Only (H : Hp) : Prop := ∀ b, H b = none ∨ ∃ o xs, H b = some (.frz o (.lst xs))
theorem law_call {P : Program} {w : World} {K : PySem.W.Frag} {mg mb : Str → Option Value} {CX : CXT} {k : Nat} {fa a : Addr} {fd : FuncData} {x : Str} {sp : Sp} {s₁ : Shared} {vs : List Value} {ns : List Int}
    (KX : K.In s₁.heap) (hns : s₁.heap.Ns mainGlobals mg) (hb : s₁.heap.Ns builtinsNs mb) (hbb : ∀ x : Str, x ≠ "__name__" → mb x = bootBuiltins x) (hlim : s₁.heap.NoLimit) (hg : s₁.gens = #[])
    (ha : s₁.heap.get? a = some { cls := .type "list", data := .seq vs.toArray }) (hi : IntsAre vs ns) (hl : ns.length ≤ sizeLine) (hr : Room k callerA)
    (F : ∀ base : Heap, K.In base → base.Ns mainGlobals mg → FnOk P w K mg base CX k fa fd [x] sp) (hbind : ∀ (s : Shared) (u : Value), BindsTo s fd ⟨[u], []⟩ [(x, u)])
    (hsp : ∀ H : Hp, Only H → SqL K H a (ns.map V.int) → sp [.ref a] H (fun v _ => v = .bl true) fun _ _ _ => False)
    (hCX : ∀ H e s', CX [] H s₁ (fun _ _ _ => False) e s' → False) :
    codeAny (model P w) callerA (.call (.ref fa) ⟨[.ref a], []⟩) (fun r s' => r = .ok (.ret (.bool true)) ∧ OldK s₁.heap s'.heap ∧ s'.os = s₁.os ∧ AllBare s'.gens) s₁ := by
  have rv := vals_ints hi
  have lenV := hi.length
  have core : ∀ H : Hp, Only H → SqL K H a (ns.map V.int) → HOk P w H s₁.heap → (∀ b, H b ≠ none → b = a) → (H a ≠ none → K.lookup a = none) →
      codeAny (model P w) callerA (.call (.ref fa) ⟨[.ref a], []⟩) (fun r s' => r = .ok (.ret (.bool true)) ∧ OldK s₁.heap s'.heap ∧ s'.os = s₁.os ∧ AllBare s'.gens) s₁ := by
    intro H hO hS hok hA hK
    have base_of : ∀ {b : Addr} {o : Obj}, s₁.heap.get? b = some o → H b = none → (hidT s₁.heap H).get? b = some o := fun e n => hidT_get e n
    have noA : ∀ {b : Addr} {o : Obj} {es : Array DictEntry} {ep : Nat}, s₁.heap.get? b = some o → o.data = .dict es ep → H b = none := fun {b o es ep} e d => by
      cases q : H b with
      | none => rfl
      | some u =>
        have e' : b = a := hA b (by rw [q]; simp)
        subst e'
        rw [ha] at e; cases e
        have d' : Data.seq vs.toArray _ = Data.dict es ep := d
        cases d'
    have nsK : ∀ {b : Addr} {m : Str → Option Value}, s₁.heap.Ns b m → (hidT s₁.heap H).Ns b m := fun {b m} ⟨o, es, ep, e, d, r⟩ => ⟨o, es, ep, base_of e (noA e d), d, r⟩
    have hKb : K.In (hidT s₁.heap H) := fun b o e => base_of (KX b o e) (by
      cases q : H b with
      | none => rfl
      | some u =>
        have e' : b = a := hA b (by rw [q]; simp)
        subst e'
        rw [hK (by rw [q]; simp)] at e; cases e)
    have hM : Mod K mg (hidT s₁.heap H) := ⟨hKb, nsK hns, ⟨mb, nsK hb, hbb⟩, let ⟨mc, h1, h2⟩ := hlim; ⟨mc, nsK h1, h2⟩⟩
    have e0 : Env0 P w K mg (hidT s₁.heap H) callerA [] s₁ H := ⟨rfl, hM, fun b o e => of_hidT e, Nat.le_of_eq (hidT_size _ _), trivial, fun b hb => absurd (show b ∈ ([] : List Addr) from hb) (by simp), hok, .of_eq hg⟩
    refine codeAny_mono ((F _ hKb (nsK hns)).run callerA [] s₁ H ⟨[.ref a], []⟩ [.ref a] [.ref a] _ _ hr e0 (hbind s₁ (.ref a)) (.cons rfl .nil) (hsp H hO hS)) fun r s' h => ?_
    cases r with
    | error e => exact (hCX H e s' h).elim
    | ok fl =>
      cases fl with
      | next => exact False.elim h
      | brk => exact False.elim h
      | cont => exact False.elim h
      | ret u =>
        obtain ⟨v, H', os, bare, un, hok', r', q⟩ := h
        have q' : v = .bl true := q
        subst q'
        obtain rfl : u = Value.bool true := r'
        refine ⟨rfl, OldK.of_keep fun b o e => ?_, os, bare⟩
        cases q : H b with
        | none => exact un.keep b o e q (by intro z; exact absurd (show b ∈ ([] : List Addr) from z) (by simp)) (by simp)
        | some u =>
          rcases hO b with z | ⟨ob, xs, z⟩
          · rw [q] at z; cases z
          · have z2 := un.frzs b ob _ z
            obtain ⟨e1, _⟩ := hok b _ z
            obtain ⟨e2, _⟩ := hok' b _ z2
            rw [e] at e1; cases e1
            exact e2
  cases hk : K.lookup a with
  | some o =>
    have e := KX a o hk
    rw [ha] at e
    cases e
    refine core (fun _ => none) (fun _ => .inl rfl) (.inr ⟨_, vs.toArray, _, hk, rfl, rfl, rfl, by rw [List.size_toArray, lenV]; exact hl, by simpa using rv⟩) (fun b u z => by have z' : (none : Option HO) = some u := z; cases z') (fun b z => absurd rfl z) fun z => absurd rfl z
  | none =>
    refine core (fun b => if b = a then some (.frz { cls := .type "list", data := .seq vs.toArray } (.lst (ns.map V.int))) else none) (fun b => ?_) (.inl (.inr ⟨{ cls := .type "list", data := .seq vs.toArray }, if_pos rfl⟩)) (fun b u z => ?_) (fun b z => ?_) fun _ => hk
    · by_cases hb : b = a
      · exact .inr ⟨_, _, if_pos hb⟩
      · exact .inl (if_neg hb)
    · by_cases hb : b = a
      · have z' := (if_pos hb).symm.trans z
        cases z'
        subst hb
        exact ⟨ha, by rw [List.length_map]; exact hl, vs, _, rv, ha⟩
      · have z' := (if_neg hb).symm.trans z
        cases z'
    · by_cases hb : b = a
      · exact hb
      · exact absurd (if_neg hb) z
end L2
namespace L2
open PySem PySem.Spec PyProof.Rows
abbrev KOf {K : PySem.W.Frag} {h : Heap} (_ : K.In h) : PySem.W.Frag := K
theorem walk_of {l : PySem.W.OpenLaw} {n k : Nat} {q : Program} {loose : List Str} {XP : (Str → Option Value) → Heap → Prop} {YP : World → Heap → Prop} {d : DefRec} {K : Params → PySem.W.Frag} {CX : World → CXT} {sp : World → Sp} {x : Str}
    (hn : l.most = some n) (hn2 : n ≤ sizeLine) (hdf : d.params.defaults = []) (hr : Room k callerA)
    (hY : ∀ (w : World) (h : Heap), YP w h → (K w.params).In h)
    (F : ∀ (w : World) (mg : Str → Option Value) (fa : Addr) (h : Heap), (K w.params).In h → h.Ns mainGlobals mg → mg d.name = some (.ref fa) →
      ∃ fd : FuncData, (∀ (s : Shared) (u : Value), BindsTo s fd ⟨[u], []⟩ [(x, u)]) ∧
        ∀ base : Heap, (K w.params).In base → base.Ns mainGlobals mg → FnOk l.prog w (K w.params) mg base (CX w) k fa fd [x] (sp w))
    (hsp : ∀ (w : World) (H : Hp) (a : Addr) (ns : List Int), ns.length ≤ n → Only H → SqL (K w.params) H a (ns.map V.int) → sp w [.ref a] H (fun v _ => v = .bl true) fun _ _ _ => False)
    (hCX : ∀ (w : World) (H : Hp) (s : Shared) (e : Value) (s' : Shared), CX w [] H s (fun _ _ _ => False) e s' → False) :
    PySem.W.WalkO q loose XP YP l.row.toRowW d [] (fun f vs => PySem.call f vs) := by
  refine Att.attach_call hn hdf fun w s₀ s₁ mg mb fa o pm cd doc a vs ns G Y ho hd hcd hmg hobj hints hlen hg => ?_
  have KX := hY w _ Y
  obtain ⟨fd, hb, hF⟩ := F w mg fa _ KX G.T.g hmg
  exact law_call KX G.T.g G.T.b G.T.builtins G.T.nolimit hg hobj hints (Nat.le_trans hlen hn2) hr hF hb (fun H hO hS => hsp w H a ns hlen hO hS) fun H e s' => hCX w H s₁ e s'
end L2
namespace L2
open PySem PySem.Spec PyProof.Rows
def inClass (s : Stmt) (j : Nat) : Stmt := match s with
  | .ClassDef _ _ _ body _ _ _ _ _ _ _ => body.getD j (.Pass ⟨0, 0, 0, 0⟩)
  | _ => .Pass ⟨0, 0, 0, 0⟩
def defArgs (s : Stmt) : Arguments := match s with
  | .FunctionDef _ a _ _ _ _ _ _ _ _ => a
  | _ => { posonlyargs := [], args := [], vararg := none, kwonlyargs := [], kw_defaults := [], kwarg := none, defaults := [] }
def defBody (s : Stmt) : List Stmt := match s with
  | .FunctionDef _ _ b _ _ _ _ _ _ _ => b
  | _ => []
def defScope (s : Stmt) : Scope := match s with
  | .FunctionDef _ _ _ _ _ _ sc _ _ _ => sc
  | _ => { kind := .function, names := [], isGenerator := false, isCoroutine := false }
abbrev CX0 : CXT := fun _ _ _ _ _ _ => False
abbrev E0 : XK := fun _ _ _ => False
theorem pass0 {X : Cx} : Passes CX0 X E0 := fun _ _ _ _ _ _ _ h => h.elim
structure Fun (K : PySem.W.Frag) (x qual : Str) (st : Stmt) (f : Addr) (fd : FuncData) : Prop where
  ex : ∃ (oc : Value) (od : Option Addr) (kV doc pm : Value) (an : Option Addr) (cdv ct : Value) (osl : Array (Option Value)),
    fd = PySem.W.fnOf x qual (defArgs st) (defBody st) (defScope st) .none kV doc pm an cdv ct ∧ K.lookup f = some ⟨oc, od, .func fd, osl⟩ ∧ PySem.W.codeIn K cdv qual = true
  kp : PySem.W.keepIn K (.ref f) = true
section
variable {P : Program} {w : World} {K : PySem.W.Frag} {mg : Str → Option Value} {base : Heap}
theorem Fun.ok {x qual : Str} {st : Stmt} {f : Addr} {fd : FuncData} {N ps : List Str} {k : Nat} {sp : Sp} (F : Fun K x qual st f fd) (S : FnScope N ps (defScope st)) (len : ∀ vs H Q E, sp vs H Q E → vs.length = ps.length)
    (hbody : ∀ (cdv : Value) (A : Around) (outer : List Env) (s : Shared) (H : Hp) (vs : List V) (Q : VK) (E : XK), Room k (A.deeper (envOfC qual (defScope st) s.heap.objs.size f cdv)) → sp vs H Q E →
      ∃ t, PSs (cxOf CX0 P w K mg base N qual (defScope st) f cdv A outer s H E).nox (defBody st) t ∧ t { nx := fun _ H' => Q .non H', rt := Q } (start N vs) H) : FnOk P w K mg base CX0 (k + 1) f fd ps sp := by
  obtain ⟨oc, od, kV, doc, pm, an, cdv, ct, osl, rfl, lk, hcd⟩ := F.ex
  refine fn_of lk hcd S len fun A outer s H vs Q E hr hsp => ?_
  obtain ⟨t, h, q⟩ := hbody cdv A outer s H vs Q E hr hsp
  exact ⟨t, h.nox, q⟩
theorem Fun.binds {x qual : Str} {st : Stmt} {f : Addr} {fd : FuncData} {ps : List Str} (F : Fun K x qual st f fd)
    (h : ∀ (kV doc pm : Value) (an : Option Addr) (cdv ct : Value) (us : List Value), us.length = ps.length → bindArgs (PySem.W.fnOf x qual (defArgs st) (defBody st) (defScope st) .none kV doc pm an cdv ct) ⟨us, []⟩ = pure (ps.zip us)) : Binds K fd ps [] := by
  obtain ⟨oc, od, kV, doc, pm, an, cdv, ct, osl, rfl, lk, hcd⟩ := F.ex
  exact .all (h kV doc pm an cdv ct)
theorem fun_mk {x qual : Str} {st : Stmt} {f : Addr} {oc : Value} {od an : Option Addr} {osl : Array (Option Value)} {kV doc pm cdv ct : Value} (l : K.lookup f = some ⟨oc, od, .func (PySem.W.fnOf x qual (defArgs st) (defBody st) (defScope st) .none kV doc pm an cdv ct), osl⟩)
    (c : PySem.W.codeIn K cdv qual = true) (k : PySem.W.keepIn K (.ref f) = true) : Fun K x qual st f (PySem.W.fnOf x qual (defArgs st) (defBody st) (defScope st) .none kV doc pm an cdv ct) := ⟨⟨oc, od, kV, doc, pm, an, cdv, ct, osl, rfl, l, c⟩, k⟩
end
section
variable {X : Cx}
theorem pv (i : Nat) {x : Str} {pos : Pos} (hN : X.N[i]? = some x := by rfl) (hv : Vis X.env.scope x := by first | exact Or.inl rfl | exact Or.inr (Or.inl rfl) | exact Or.inr (Or.inr rfl)) (hd : (x == ("__debug__" : Str)) = false := by decide)
    (hcd : (x == ("__classdict__" : Str)) = false := by decide) : PE X (.Name x pos) (tVar i) := pe_var hN hv hd hcd
end
def Same (H H' : Hp) : Prop := ∀ b o, H b = some o → H' b = some o
theorem Same.refl (H : Hp) : Same H H := fun _ _ h => h
theorem Same.trans {H H1 H2 : Hp} (a : Same H H1) (b : Same H1 H2) : Same H H2 := fun c o h => b c o (a c o h)
theorem Same.free {H H' : Hp} (e : Same H H') {l : Addr} (h : H' l = Option.none) : H l = Option.none := by
  cases q : H l with
  | none => rfl
  | some o =>
    rw [e l o q] at h
    cases h
theorem Same.seq {K : PySem.W.Frag} {H H' : Hp} {a : Addr} {xs : List V} (e : Same H H') (h : SqL K H a xs) : SqL K H' a xs := by
  rcases h with (h | ⟨o, h⟩) | h
  · exact .inl (.inl (e _ _ h))
  · exact .inl (.inr ⟨o, e _ _ h⟩)
  · exact .inr h
end L2

set_option Elab.async false
set_option linter.all false
set_option maxRecDepth 100000
set_option maxHeartbeats 4000000
namespace L2
open PySem PySem.Spec PyProof.Rows
theorem comp_turns {P : Program} {w : World} {A : Around} {R : Result → Shared → Prop} {s : Shared} {el tg src : Expr} {tests : List Expr} {sc : Scope} {ps : Pos} {itv av : Value} {ce : Env} (J : Nat → Shared → Prop)
    (turn : ∀ n s, J n s → wpAny (model P w) A (pyNext itv) (fun r s1 => match r with
      | none => R (.ok .next) s1
      | some v => wpAny (model P w) A (letOwnedTupleGo tg itv v) (fun _ s2 => wpAny (model P w) A (assign tg ce v) (fun _ s3 =>
          wpAny (model P w) A (forIn tests true fun c r => if r = true then do let ok ← isTrue c ce (eval c ce); pure (ForInStep.yield ok) else pure (ForInStep.yield r)) (fun ok s4 =>
            if ok = true then wpAny (model P w) A (eval el ce) (fun y s5 => wpAny (model P w) A (call (.builtin "list.append") [av, y]) (fun _ s6 => ∃ m, m < n ∧ J m s6) (fun _ _ => False) s5) (fun _ _ => False) s4
            else ∃ m, m < n ∧ J m s4) (fun _ _ => False) s3) (fun _ _ => False) s2) (fun _ _ => False) s1) (fun _ _ => False) s)
    (n : Nat) (h : J n s) : codeAny (model P w) A (.compLoop (.ListComp el [⟨tg, src, tests, 0⟩] sc ps) 0 itv av ce) R s := by
  refine codeAny_loop rfl J (fun n s hJ => ?_) n h
  show wpAny _ A ((compTurn (.ListComp el [⟨tg, src, tests, 0⟩] sc ps) 0 itv av ce).onRaise (fun x => do noteFrame x ce; theTreesLotGoes x)) _ _ s
  refine wpAny_noted ?_
  rw [compTurn_list]
  refine wpAny_bind (wpAny_standAt (wpAny_bind (wpAny_mono (turn n s hJ) (fun r s1 h1 => ?_) fun _ _ z => z.elim)))
  cases r with
  | none => exact wpAny_pure h1
  | some v =>
    refine wpAny_bind (wpAny_mono h1 (fun _ s2 h2 => ?_) fun _ _ z => z.elim)
    refine wpAny_bind (wpAny_mono h2 (fun _ s3 h3 => wpAny_bind (wpAny_mono h3 (fun ok s4 h4 => ?_) fun _ _ z => z.elim)) fun _ _ z => z.elim)
    cases ok with
    | false => exact wpAny_pure ⟨rfl, h4⟩
    | true =>
      exact wpAny_bind (wpAny_bind (wpAny_mono h4 (fun y s5 h5 => wpAny_bind (wpAny_mono h5 (fun _ s6 h6 => wpAny_pure (wpAny_pure ⟨rfl, h6⟩)) fun _ _ z => z.elim)) fun _ _ z => z.elim))
theorem clo_step (env : Env) : ∀ (l : List (Str × NameKind)) (acc : List (Str × Addr)), (∀ n, (n, NameKind.free) ∈ l → ∃ c, env.cells.lookup n = some c) →
    ∃ cl, (forIn l acc (fun (p : Str × NameKind) (cs : List (Str × Addr)) => (do
      if (p.2 == NameKind.free) = true then do let c ← cellOf env p.1; pure (ForInStep.yield ((p.1, c) :: cs)) else pure (ForInStep.yield cs) : Sem (ForInStep (List (Str × Addr)))))) = pure cl ∧
      ∀ n c, cl.lookup n = some c ↔ (((n, NameKind.free) ∈ l ∧ env.cells.lookup n = some c) ∨ ((n, NameKind.free) ∉ l ∧ acc.lookup n = some c))
  | [], acc, _ => ⟨acc, rfl, fun n c => by simp⟩
  | (x, k) :: r, acc, h => by
    rw [List.forIn_cons]
    cases hk : (k == NameKind.free) with
    | false =>
      have hne : k ≠ .free := by intro e; rw [e] at hk; cases hk
      obtain ⟨cl, e, q⟩ := clo_step env r acc fun n hn => h n (List.mem_cons_of_mem _ hn)
      refine ⟨cl, ?_, fun n c => ?_⟩
      · simp only [Bool.false_eq_true, if_false]
        exact e
      · rw [q n c]
        have : (n, NameKind.free) ∈ (x, k) :: r ↔ (n, NameKind.free) ∈ r := by
          constructor
          · intro hm
            rcases List.mem_cons.mp hm with z | z
            · injection z with _ z2
              exact absurd z2.symm hne
            · exact z
          · exact List.mem_cons_of_mem _
        rw [this]
    | true =>
      have he : k = .free := by cases k <;> first | rfl | cases hk
      subst he
      obtain ⟨c0, hc0⟩ := h x List.mem_cons_self
      obtain ⟨cl, e, q⟩ := clo_step env r ((x, c0) :: acc) fun n hn => h n (List.mem_cons_of_mem _ hn)
      refine ⟨cl, ?_, fun n c => ?_⟩
      · simp only [if_true, cellOf, hc0]
        exact e
      · rw [q n c]
        by_cases hx : n = x
        · subst hx
          constructor
          · rintro (⟨_, z⟩ | ⟨_, z⟩)
            · exact .inl ⟨List.mem_cons_self, z⟩
            · rw [List.lookup_cons, beq_self_eq_true] at z
              exact .inl ⟨List.mem_cons_self, hc0.trans z⟩
          · rintro (⟨_, z⟩ | ⟨z, _⟩)
            · by_cases hm : (n, NameKind.free) ∈ r
              · exact .inl ⟨hm, z⟩
              · refine .inr ⟨hm, ?_⟩
                rw [List.lookup_cons, beq_self_eq_true]
                exact hc0.symm.trans z
            · exact absurd List.mem_cons_self z
        · have : (n, NameKind.free) ∈ (x, NameKind.free) :: r ↔ (n, NameKind.free) ∈ r := by
            constructor
            · intro hm
              rcases List.mem_cons.mp hm with z | z
              · injection z with z1 _
                exact absurd z1 hx
              · exact z
            · exact List.mem_cons_of_mem _
          rw [this, List.lookup_cons, beq_false_of_ne hx]
theorem clo_of {env : Env} {sc : Scope} (h : ∀ n, (n, NameKind.free) ∈ sc.names → ∃ c, env.cells.lookup n = some c) :
    ∃ cl, closureFor sc env = pure cl ∧ ∀ n c, cl.lookup n = some c ↔ ((n, NameKind.free) ∈ sc.names ∧ env.cells.lookup n = some c) := by
  obtain ⟨cl, e, q⟩ := clo_step env sc.names [] h
  refine ⟨cl, ?_, fun n c => ?_⟩
  · unfold closureFor
    exact (congrArg (fun z : Sem (List (Str × Addr)) => z >>= fun r => pure r) e)
  · rw [q n c]
    simp
theorem look_map (f : Str → NameKind → NameKind) (x : Str) : ∀ l : List (Str × NameKind), (l.map fun p => (p.1, f p.1 p.2)).lookup x = (l.lookup x).map (f x)
  | [] => rfl
  | (n, k) :: r => by
    rw [List.map_cons, List.lookup_cons, List.lookup_cons]
    cases h : x == n with
    | true =>
      have e : x = n := by simpa using h
      subst e
      rfl
    | false => exact look_map f x r
theorem look_relabel (sc : Scope) (env : Env) (x : Str) : (relabel sc env).names.lookup x = (sc.names.lookup x).map fun k => if (k == NameKind.free && env.scope.kind == .function && env.kindOf x == some .cell) = true then NameKind.cell else k := by
  rw [← look_map (fun x k => if (k == NameKind.free && env.scope.kind == .function && env.kindOf x == some .cell) = true then NameKind.cell else k)]
  show List.lookup x (sc.names.map _) = _
  congr 1
  apply List.map_congr_left
  rintro ⟨n, k⟩ _
  dsimp only
  split <;> rfl
abbrev cxC (X : Cx) (N : List Str) (sc : Scope) (cl : List (Str × Addr)) (C : Addr) (s : Shared) (H : Hp) (ex : List Addr) (pn : List (Addr × Obj)) : Cx where
  prog := X.prog
  w := X.w
  K := X.K
  mg := X.mg
  base := X.base
  A := X.A
  N := N
  s₀ := s
  H₀ := H
  env := compEnvC sc cl C X.env
  outer := X.stack
  stack := X.stack
  ex := ex
  fn := fun _ => false
  calm := X.calm
  pn := pn
  xe := fun _ _ => False
structure CScope (X : Cx) (sc : Scope) (N : List Str) (nt : Nat) (cap : List Nat) : Prop where
  kind : sc.kind = .function
  nocell : ∀ x ∈ sc.names, x.2 ≠ .cell
  names : ∀ x ∈ sc.names, x.2 = .local → sc.names.lookup x.1 = some .local
  frees : ∀ x ∈ sc.names, x.2 = .free → sc.names.lookup x.1 = some .free ∧ (X.env.scope.names.lookup x.1 = some .cell ∨ X.env.scope.names.lookup x.1 = some .free)
  len : N.length = nt + cap.length
  capN : ∀ (k : Nat) j, cap[k]? = some j → ∃ x, X.N[j]? = some x ∧ N[nt + k]? = some x ∧ (x, NameKind.free) ∈ sc.names
def startC (nt : Nat) (cap : List Nat) (σ : St) : St := List.replicate nt none ++ cap.map fun j => (σ[j]?).getD none
def PF (X : Cx) (tests : List Expr) (t : TT) : Prop :=
  ∀ (pins : List (Addr × Obj)) (s : Shared) (σ : St) (H : Hp) (Q : Bool → Hp → Prop), Inv X pins σ H s → t σ H Q →
    wpAny (model X.prog X.w) X.A (forIn tests true fun c r => if r = true then do let ok ← isTrue c X.env (eval c X.env); pure (ForInStep.yield ok) else pure (ForInStep.yield r)) (TP X pins σ Q) X.xe s
def tYes : TT := fun _ H Q => Q true H
theorem pf_nil {X : Cx} : PF X [] tYes := fun _ _ _ H _ I h => wpAny_tests_nil ⟨H, I, h⟩
theorem pf_one {X : Cx} {c : Expr} {t : TT} (h : PT X c t) : PF X [c] t := fun pins s σ H Q I hw => wpAny_tests_one (h pins s σ H Q I hw)
def GOk (g : TG) (nt : Nat) : Prop := ∀ (x : V) (o caps : St) (H : Hp) (R : St → Hp → Prop), o.length = nt → g x (o ++ caps) H R → g x (o ++ caps) H fun τ H2 => (∃ o2 : St, o2.length = nt ∧ τ = o2 ++ caps) ∧ R τ H2
def capsC (cap : List Nat) (σ : St) : St := cap.map fun j => (σ[j]?).getD none
def CW (J : It) (nt : Nat) (caps : St) (g : TG) (tf : TT) (te : TE) (H : Hp) (Q : VK) : Prop := ∃ W : Nat → Nat → List V → Hp → Prop, (∃ m, W 0 m [] H) ∧
  ∀ i m acc H2, W i m acc H2 → (J.stop i H2 ∧ acc.length ≤ sizeLine ∧ ∀ D, H2 D = none → Q (.ref D) (upd H2 D (.lst acc))) ∨
    (J.go i H2 ∧ acc.length ≤ sizeLine ∧ ∃ N : List V → Hp → Prop, (∀ acc' H', N acc' H' → ∃ m', m' < m ∧ W (i + 1) m' acc' H') ∧
      ∀ o x H3, o.length = nt → J.yld i H2 x H3 → g x (o ++ caps) H3 fun τ2 H4 => tf τ2 H4 fun b H5 => if b = true then te τ2 H5 fun v H6 => N (acc ++ [v]) H6 else N acc H5)
def tComp (wi : TI) (nt : Nat) (cap : List Nat) (g : TG) (tf : TT) (te : TE) : TE := fun σ H Q => wi σ H fun J H1 => CW J nt (capsC cap σ) g tf te H1 Q
section
variable {fs ex : List Addr} {H H' : Hp} {h h1 h2 : Heap} {P : Program} {w : World}
theorem Un.adopt {D : Addr} {o : HO} (u : Un fs ex H H' h h1) (hp : h.objs.size ≤ D) (hn : H' D = none) : Un fs ex H (upd H' D o) h h1 where
  keep := u.keep
  slot := u.slot
  free := fun b ob q n hx => by rw [upd_ne (Nat.ne_of_lt (Nat.lt_of_lt_of_le (Heap.lt_size q) hp))]; exact u.free b ob q n hx
  there := u.there
  tups := fun b xs q => by rw [upd_ne (ne_of_none (u.tups b xs q) hn)]; exact u.tups b xs q
  frzs := fun b ob xs q => by rw [upd_ne (ne_of_none (u.frzs b ob xs q) hn)]; exact u.frzs b ob xs q
  tbls := fun b ps q => by
    obtain ⟨more, e⟩ := u.tbls b ps q
    exact ⟨more, by rw [upd_ne (ne_of_none e hn)]; exact e⟩
theorem Un.but {C : Addr} (u : Un fs ex H H' h h1) (hp : h.objs.size ≤ C) (sb : Heap.SameBut C h1 h2) : Un fs ex H H' h h2 := by
  have ne : ∀ b ob, h.get? b = some ob → b ≠ C := fun b ob q => Nat.ne_of_lt (Nat.lt_of_lt_of_le (Heap.lt_size q) hp)
  refine ⟨fun b ob q n hb hx => (sb.2 b (ne b ob q)).trans (u.keep b ob q n hb hx), fun b ob q n hb hx => ?_, u.free, fun b ob q hx => ?_, u.tups, u.frzs, u.tbls⟩
  · obtain ⟨sl, e⟩ := u.slot b ob q n hb hx
    exact ⟨sl, (sb.2 b (ne b ob q)).trans e⟩
  · obtain ⟨o', e⟩ := u.there b ob q hx
    exact ⟨o', (sb.2 b (ne b ob q)).trans e⟩
theorem HOk.but {C : Addr} (x : HOk P w H h1) (hn : H C = none) (sb : Heap.SameBut C h1 h2) : HOk P w H h2 := fun a o e =>
  (x a o e).stay (fun b u hb q => (sb.2 b (by
    rintro rfl
    rcases hb with z | z
    · subst z; rw [hn] at e; cases e
    · rw [hn] at z; cases z)).trans q) (fun _ q => q) fun _ _ q => q
theorem HOk.adopt {D : Addr} {o : HO} (x : HOk P w H h) (hn : H D = none) (new : ObjOk P w (upd H D o) h D o) : HOk P w (upd H D o) h := fun b u e => by
  by_cases hb : b = D
  · subst hb; rw [upd_same] at e; cases e; exact new
  · rw [upd_ne hb] at e
    exact (x b u e).stay (fun c v _ q => q) (fun c q => by rw [upd_ne (ne_of_none q hn)]; exact q) fun c xs q => by rw [upd_ne (ne_of_none q hn)]; exact q
end
section
variable {X : Cx} {sc : Scope} {N : List Str} {nt : Nat} {cap : List Nat} {cl : List (Str × Addr)} {s : Shared} {h1 : Heap} {H : Hp} {σ : St} {pins : List (Addr × Obj)} {fp : List Addr} {C : Addr} {t' : Nat}
theorem Inv.block (I : Inv X pins σ H s) (S : CScope X sc N nt cap) (hcl : ∀ n c, cl.lookup n = some c ↔ ((n, NameKind.free) ∈ sc.names ∧ X.env.cells.lookup n = some c)) (hf : ∀ b ∈ fp, FpOk X pins H b) (hfs : ∀ b ∈ fp, b < s.heap.objs.size)
    (hk : ∀ b o, s.heap.get? b = some o → h1.get? b = some o) (hC : s.heap.objs.size ≤ C) (hns : ∃ m, h1.Ns C m) : Inv (cxC X N sc cl C s H fp (X.pn ++ pins)) [] (startC nt cap σ) H { s with heap := h1, toks := t' } := by
  have hfsub : ∀ b ∈ frs X.stack, b ∈ X.env.locals :: X.fs := I.stkSub
  have hCs : C ∉ frs X.stack := fun z => by
    rcases List.mem_cons.mp (I.stkSub C z) with e | e
    · exact absurd (Nat.lt_of_lt_of_le I.lt hC) (by rw [e]; exact Nat.lt_irrefl _)
    · exact I.nofs hC e
  have kindC : ∀ x, (relabel sc X.env).names.lookup x = some .cell ∨ (relabel sc X.env).names.lookup x = some .free → (x, NameKind.free) ∈ sc.names := fun x hx => by
    rw [look_relabel] at hx
    cases e : sc.names.lookup x with
    | none => rw [e] at hx; rcases hx with z | z <;> cases z
    | some k =>
      have hm : (x, k) ∈ sc.names := by
        obtain ⟨l1, l2, e1, _⟩ := List.lookup_eq_some_iff.mp e
        rw [e1]
        simp
      rw [e] at hx
      cases k with
      | free => exact hm
      | cell => exact absurd rfl (S.nocell _ hm)
      | _ => exfalso; revert hx; simp
  have hasCell : ∀ x, (x, NameKind.free) ∈ sc.names → ∃ c, X.env.cells.lookup x = some c := fun x hx => I.ok.has x (S.frees _ hx rfl).2
  have ok : Cx.Ok (cxC X N sc cl C s H fp (X.pn ++ pins)) := by
    refine ⟨I.ok.mod, ?_, I.ok.glob, I.ok.blt, hC, ?_, ?_, ?_, I.ok.hd, I.ok.frames, .inl rfl, ?_, I.bs, Nat.le_trans I.ok.bsz I.sz, ?_, ?_, I.stack, I.stkFree⟩
    · exact S.kind
    · intro x y c hx hy
      exact I.ok.inj x y c ((hcl x c).mp hx).2 ((hcl y c).mp hy).2
    · intro x hx
      have hm := kindC x hx
      obtain ⟨c, e⟩ := hasCell x hm
      exact ⟨c, (hcl x c).mpr ⟨hm, e⟩⟩
    · intro x c hx
      cases hx
    · intro b hb
      refine ⟨Nat.ne_of_lt (Nat.lt_of_lt_of_le (hfs b hb) hC), fun x c e => ?_⟩
      exact (hf b hb).2.2.2.2.1 x c ((hcl x c).mp e).2
    · intro b o e hb
      rcases (hf b hb).2.2.2.1 with z | z
      · exact I.ok.noex b o e z
      · exact absurd (Nat.lt_of_lt_of_le (Heap.lt_size e) (Nat.le_trans I.ok.bsz z)) (Nat.lt_irrefl _)
    · intro b hb z
      rcases List.mem_cons.mp (hfsub b z) with e | e
      · exact (hf b hb).2.1 e
      · exact (hf b hb).2.2.1 e
  obtain ⟨m, hm⟩ := hns
  obtain ⟨mX, hnX, hlX⟩ := I.loc
  refine ⟨ok, rfl, I.bare, Un.kept hk, ⟨m, hm, fun i x v e1 e2 e3 => ?_⟩, fun x c e => ?_, I.hok.fresh hC, fun x c e => I.freeC x c ((hcl x c).mp e).2, fun p hp => ?_, I.hok.kept hk, ?_⟩
  ·
    have hi : nt ≤ i := by
      apply Nat.le_of_not_lt
      intro hlt
      have : (startC nt cap σ)[i]? = some none := by
        unfold startC
        rw [List.getElem?_append_left (by simpa using hlt), List.getElem?_replicate, if_pos hlt]
      rw [this] at e2
      cases e2
    have e2' : (cap.map fun j => (σ[j]?).getD none)[i - nt]? = some (some v) := by
      have e := e2
      unfold startC at e
      rw [List.getElem?_append_right (by simpa using hi)] at e
      simpa using e
    rw [List.getElem?_map] at e2'
    cases ej : cap[i - nt]? with
    | none => rw [ej] at e2'; cases e2'
    | some j =>
      rw [ej] at e2'
      have ev : (σ[j]?).getD none = some v := Option.some.inj e2'
      have ev' : σ[j]? = some (some v) := by
        cases q : σ[j]? with
        | none => rw [q] at ev; cases ev
        | some z => rw [q] at ev; exact congrArg some ev
      obtain ⟨y, f1, f2, f3⟩ := S.capN _ _ ej
      rw [Nat.add_sub_cancel' hi] at f2
      have exy : y = x := Option.some.inj (f2.symm.trans e1)
      subst exy
      obtain ⟨g1, g2⟩ := S.frees _ f3 rfl
      have vis : Vis X.env.scope y := .inr g2
      obtain ⟨u, r, l⟩ := hlX j y v f1 ev' vis
      refine ⟨u, r, .inr ⟨?_, ?_⟩⟩
      · show (relabel sc X.env).names.lookup y = some .cell ∨ (relabel sc X.env).names.lookup y = some .free
        rw [look_relabel, g1]
        simp only [Option.map_some]
        split
        · exact .inl rfl
        · exact .inr rfl
      · rcases l with ⟨k, _⟩ | ⟨_, c, hc, hcell⟩
        · exfalso
          have k' : X.env.scope.names.lookup y = some .local := k
          dsimp only at g2
          rw [k'] at g2
          rcases g2 with z | z <;> cases z
        · obtain ⟨oc, ho, hd⟩ := hcell
          exact ⟨c, (hcl y c).mpr ⟨f3, hc⟩, oc, hk _ _ ho, hd⟩
  · obtain ⟨v, oc, ho, hd⟩ := I.cell x c ((hcl x c).mp e).2
    exact ⟨v, oc, hk _ _ ho, hd⟩
  · have hp' : p ∈ X.pn ++ pins := by simpa using hp
    obtain ⟨e, n, ne, nf, d⟩ := I.pin p hp'
    refine ⟨hk _ _ e, n, Nat.ne_of_lt (Nat.lt_of_lt_of_le (Heap.lt_size e) hC), fun z => ?_, d⟩
    rcases List.mem_cons.mp (hfsub p.1 z) with q | q
    · exact ne q
    · exact nf q
  · unfold startC
    rw [List.length_append, List.length_replicate, List.length_map]
    exact S.len.symm
end
section
variable {X : Cx}
theorem pe_comp {el tg src : Expr} {tests : List Expr} {sc : Scope} {ps : Pos} {N : List Str} {nt : Nat} {cap : List Nat} {wi : TI} {g : TG} {tf : TT} {te : TE} (hc : X.calm = true) (S : CScope X sc N nt cap) (hgo : GOk g nt) (hi : PI X tg src wi)
    (hY : ∀ (cl : List (Str × Addr)) (C : Addr) (s : Shared) (H : Hp) (ex : List Addr) (pn : List (Addr × Obj)), PG (cxC X N sc cl C s H ex pn) tg g ∧ PF (cxC X N sc cl C s H ex pn) tests tf ∧ PE (cxC X N sc cl C s H ex pn) el te)
    (hs : ∀ x, foldedSetIterable src X.env x = pure x := by intro _; rfl) : PE X (.ListComp el [⟨tg, src, tests, 0⟩] sc ps) (tComp wi nt cap g tf te) := by
  intro pins s σ H Q I h
  obtain ⟨cl, hclos, hcl⟩ := clo_of (env := X.env) (sc := sc) fun n hn => I.ok.has n (S.frees _ hn rfl).2
  rw [eval_ListComp]
  refine wpAny_comprehension_free (use := none) rfl hs hclos S.kind S.names (thn (hi pins s σ H _ I h) fun xv s1 h1 => thn h1 fun itv s2 h2 => ?_)
  obtain ⟨it, fp, tn, J, H2, e, I2, T, st2, f2, W, ⟨m0, w0⟩, turn⟩ := h2
  subst e
  refine wpAny_newObj_type (wpAny_newFunctionEnv S.nocell (by intro y hy; simp at hy) (fun h3 hns3 hsb3 => ?_) S.kind)
  dsimp only at hns3 hsb3 ⊢
  generalize hD : s2.heap.objs.size = D at hns3 hsb3 ⊢
  generalize hG : s2.heap.push { cls := .type "list", dict := none, data := .seq ([] : List Value).toArray } = G at hns3 hsb3 ⊢
  generalize hCe : G.objs.size = C at hns3 hsb3 ⊢
  have hC : C = D + 1 := by rw [← hCe, ← hG, Heap.size_push, hD]
  have hDC : D ≠ C := by omega
  have hDle : s2.heap.objs.size ≤ D := Nat.le_of_eq hD
  have hCle : s2.heap.objs.size ≤ C := by omega
  have old : ∀ b o, s2.heap.get? b = some o → h3.get? b = some o := fun b o e => hsb3.extBut b o (Nat.ne_of_lt (Nat.lt_of_lt_of_le (Heap.lt_size e) hCle)) (Heap.get?_push_of_some _ (hG ▸ Heap.get?_push_of_some _ e))
  have hacc : h3.PlainList D #[] := ⟨_, hsb3.extBut _ _ hDC (Heap.get?_push_of_some _ (hG ▸ hD ▸ Heap.get?_push_size _ rfl))⟩
  have hfs : ∀ b ∈ fp, b < s2.heap.objs.size := fun b hb => by
    obtain ⟨o, e, _⟩ := T.obj _ _ st2 b hb
    exact Heap.lt_size e
  have IB := I2.block (t' := s2.toks + ([] : List (Str × Value)).length) S hcl f2 hfs old hCle ⟨_, hns3⟩
  have hDs : D ∉ frs X.stack := fun z => by
    rcases List.mem_cons.mp (I2.stkSub D z) with e | e
    · exact absurd (Nat.lt_of_lt_of_le I2.lt hDle) (by rw [e]; exact Nat.lt_irrefl _)
    · exact I2.nofs hDle e
  have hDf : D ∉ fp := fun z => absurd (Nat.lt_of_lt_of_le (hfs D z) hDle) (Nat.lt_irrefl _)
  have hDcell : ∀ x c, cl.lookup x = some c → c ≠ D := fun x c e z => by
    obtain ⟨v, o, ho, _⟩ := I2.cell x c ((hcl x c).mp e).2
    exact absurd (Nat.lt_of_lt_of_le (Heap.lt_size ho) (by rw [z]; exact hDle)) (Nat.lt_irrefl _)
  have hDpin : ∀ p ∈ X.pn ++ pins, p.1 ≠ D := fun p hp z => absurd (Nat.lt_of_lt_of_le (Heap.lt_size (I2.pin p hp).1) (by rw [z]; exact hDle)) (Nat.lt_irrefl _)
  generalize hYe : cxC X N sc cl C s2 H2 fp (X.pn ++ pins) = Y at IB
  have fpY : ∀ {H' : Hp} {pl : List (Addr × Obj)}, (∀ b ∈ fp, H' b = none) → (∀ p ∈ pl, p.1 ∉ fp) → ∀ b ∈ fp, FpOk Y pl H' b := fun {H' pl} hn hp b hb => by
    subst hYe
    obtain ⟨_, f1, f2', f3, f4, f5⟩ := f2 b hb
    refine ⟨hn b hb, Nat.ne_of_lt (Nat.lt_of_lt_of_le (hfs b hb) hCle), fun z => ?_, .inl hb, fun x c e => f4 x c ((hcl x c).mp e).2, fun p hpp => ?_⟩
    · rcases List.mem_cons.mp (I2.stkSub b z) with e | e
      · exact f1 e
      · exact f2' e
    · rcases List.mem_append.mp hpp with z | z
      · exact f5 p z
      · exact fun e => hp p z (e ▸ hb)
  have hG1 : PG Y tg g := by subst hYe; exact (hY _ _ _ _ _ _).1
  have hF1 : PF Y tests tf := by subst hYe; exact (hY _ _ _ _ _ _).2.1
  have hE1 : PE Y el te := by subst hYe; exact (hY _ _ _ _ _ _).2.2
  have eP : Y.prog = X.prog := by subst hYe; rfl
  have eW : Y.w = X.w := by subst hYe; rfl
  have eA : Y.A = X.A := by subst hYe; rfl
  have eK : Y.K = X.K := by subst hYe; rfl
  have eE : Y.env = compEnvC sc cl C X.env := by subst hYe; rfl
  have eX : Y.xe = fun _ _ => False := by subst hYe; rfl
  have eC : Y.calm = true := by subst hYe; exact hc
  have eS : Y.s₀.heap.objs.size ≤ D := by subst hYe; exact hDle
  have eF : D ∉ Y.fs := by subst hYe; exact hDs
  have eL : D ≠ Y.env.locals := by subst hYe; exact hDC
  have eCl : ∀ x c, Y.env.cells.lookup x = some c → c ≠ D := by subst hYe; exact hDcell
  have eN : ∀ p ∈ Y.pn, p.1 ≠ D := by subst hYe; exact hDpin
  have fin : ∀ (s' : Shared) (τ : St) (H' : Hp) (acc : List V) (ys : Array Value), Inv Y [] τ H' s' → s'.heap.PlainList D ys → Vals acc ys.toList → H' D = none → acc.length ≤ sizeLine → (∀ D, H' D = none → Q (.ref D) (upd H' D (.lst acc))) →
      compPost (model X.prog X.w) X.A X.xe none (EP X pins σ Q) (.ref D) C (.ok .next) s' := by
    intro s' τ H' acc ys I' pl rv hn hz q
    subst hYe
    obtain ⟨m, hm, _⟩ := id I'.loc
    refine ⟨m, hm, fun h' sb => ?_⟩
    have hokD : HOk X.prog X.w H' h' := I'.hok.but I'.free sb
    obtain ⟨n, ho⟩ := pl
    have ho' : h'.get? D = some { cls := .type "list", data := .seq ys n } := (sb.2 D hDC).trans ho
    have new : ObjOk X.prog X.w (upd H' D (.lst acc)) h' D (.lst acc) := ⟨hz, ys.toList, n, rv, by simpa using ho'⟩
    have u := (I'.base.but hCle sb).adopt (o := .lst acc) hDle hn
    refine ⟨.ref D, upd H' D (.lst acc), I2.call' (s' := { s' with heap := h' }) (ch := fp) I'.os u (hokD.adopt hn new) I'.bare (fun b hb => ?_), rfl, q D hn⟩
    obtain ⟨_, f1, _, f3, f4, f5⟩ := f2 b hb
    exact ⟨f3, f1, f4, f5⟩
  have loop : codeAny (model X.prog X.w) X.A (.compLoop (.ListComp el [⟨tg, src, tests, 0⟩] sc ps) 0 (.ref it) (.ref D) (compEnvC sc cl C X.env)) (compPost (model X.prog X.w) X.A X.xe none (EP X pins σ Q) (.ref D) C)
      { s2 with heap := h3, toks := s2.toks + ([] : List (Str × Value)).length } := by
    refine comp_turns (fun n s' => ∃ i acc o H' ys, Inv Y [] (o ++ capsC cap σ) H' s' ∧ o.length = nt ∧ tn i s'.heap ∧ (∀ b ∈ fp, H' b = none) ∧ s'.heap.PlainList D ys ∧ Vals acc ys.toList ∧ H' D = none ∧ W i n acc H') ?_ m0
      ⟨0, [], List.replicate nt none, H2, #[], IB, by simp, T.keep _ _ _ st2 fun b _ o e => old b o e, fun b hb => (f2 b hb).1, hacc, .nil, I2.hok.fresh hDle, w0⟩
    rintro n s3 ⟨i, acc, o3, H3, ys, I3, ho3, st3, fr3, pl3, rv3, nD3, w3⟩
    generalize hτ : o3 ++ capsC cap σ = τ at I3
    obtain ⟨nn, ho⟩ := id pl3
    generalize hoD : ({ cls := .type "list", data := .seq ys nn } : Obj) = oD at ho
    have cellD : ∀ v, oD.data ≠ .cell v := fun v z => by subst hoD; cases z
    have I3' : Inv Y [(D, oD)] τ H3 s3 := I3.pins_of fun p hp => by
      have e : p = (D, oD) := by simpa using hp
      subst e
      exact ⟨ho, nD3, eL, eF, cellD⟩
    have nfp : ∀ p ∈ [(D, oD)], p.1 ∉ fp := fun p hp => by
      have e : p = (D, oD) := by simpa using hp
      subst e
      exact hDf
    have atD : ∀ {pl : List (Addr × Obj)} {τ' : St} {H' : Hp} {s' : Shared}, Inv Y ([(D, oD)] ++ pl) τ' H' s' → s'.heap.PlainList D ys ∧ H' D = none := fun {pl τ' H' s'} I' => by
      have q := I'.pin (D, oD) (List.mem_append_right _ (List.mem_append_left _ (by simp)))
      exact ⟨⟨nn, by rw [hoD]; exact q.1⟩, q.2.1⟩
    rcases turn i n acc H3 w3 with ⟨stop, hz, q⟩ | ⟨go, hz, N', hN, step⟩
    · have hd := T.done Y eP eW eK eC i [(D, oD)] s3 τ H3 (fun _ _ => False) I3' (fpY fr3 nfp) st3 stop
      rw [eA] at hd
      refine thn hd fun r s4 h4 => ?_
      obtain ⟨hr, I4⟩ := h4
      subst hr
      obtain ⟨pl4, n4⟩ := atD (pl := []) (by simpa using I4)
      exact fin s4 τ H3 acc ys (Inv.unpinned (pins := []) I4) pl4 rv3 n4 hz q
    · have hd := T.item Y eP eW eK eC i [(D, oD)] s3 τ H3 (fun _ _ => False) I3' (fpY fr3 nfp) st3 go
      rw [eA] at hd
      refine thn hd fun r s4 h4 => ?_
      obtain ⟨u, hr, h4⟩ := h4
      subst hr
      refine thn h4 fun _ s5 h5 => ?_
      obtain ⟨x, H5, I5, r5, y5, st5, fr5⟩ := h5
      have I5' := I5.pinned (fpY fr5 nfp) (T.obj _ _ st5)
      have q5 := hG1 _ s5 τ H5 x u _ I5' r5 (hτ ▸ hgo x o3 _ H5 _ ho3 (step o3 x H5 ho3 y5))
      rw [eP, eW, eA, eE, eX] at q5
      refine thn q5 fun _ s6 h6 => ?_
      obtain ⟨τ6, H6, I6, ⟨o6, ho6, eτ6⟩, q6⟩ := h6
      have q7 := hF1 _ s6 τ6 H6 _ I6 q6
      rw [eP, eW, eA, eE, eX] at q7
      refine thn q7 fun b s7 h7 => ?_
      obtain ⟨H7, I7, q7⟩ := h7
      have frAt : ∀ {τ' : St} {H' : Hp} {s' : Shared}, Inv Y ([(D, oD)] ++ pinsAt fp s5.heap) τ' H' s' → tn (i + 1) s'.heap ∧ ∀ b ∈ fp, H' b = none := fun {τ' H' s'} I' => by
        refine ⟨T.keep _ _ _ st5 fun b hb o e => (I'.pin (b, o) (List.mem_append_right _ (List.mem_append_right _ (mem_pinsAt hb e)))).1, fun b hb => ?_⟩
        obtain ⟨o, e, _⟩ := T.obj _ _ st5 b hb
        exact (I'.pin (b, o) (List.mem_append_right _ (List.mem_append_right _ (mem_pinsAt hb e)))).2.1
      cases b with
      | false =>
        rw [if_neg Bool.false_ne_true] at q7 ⊢
        obtain ⟨m', hm, w7⟩ := hN _ _ q7
        obtain ⟨pl7, n7⟩ := atD I7
        obtain ⟨t7, f7⟩ := frAt I7
        exact ⟨m', hm, i + 1, acc, o6, H7, ys, eτ6 ▸ I7.pins_of (fun p hp => by simp at hp), ho6, t7, f7, pl7, rv3, n7, w7⟩
      | true =>
        rw [if_pos rfl] at q7 ⊢
        have q8 := hE1 _ s7 τ6 H7 _ I7 q7
        rw [eP, eW, eA, eE, eX] at q8
        refine thn q8 fun y s8 h8 => ?_
        obtain ⟨v, H8, I8, r8, q9⟩ := h8
        obtain ⟨m', hm, w8⟩ := hN _ _ q9
        obtain ⟨pl8, n8⟩ := atD I8
        obtain ⟨t8, f8⟩ := frAt I8
        have hys : ys.size ≤ sizeLine := by
          have e := rv3.length
          simp only [Array.length_toList] at e
          omega
        refine wpAny_list_append_plain (hsz := hys) pl8 fun h9 pl9 sb9 => ?_
        have I8' : Inv Y [] τ6 H8 s8 := I8.pins_of (fun p hp => by simp at hp)
        have I9 : Inv Y [] τ6 H8 { s8 with heap := h9, toks := s8.toks } := I8'.turned (it := D) (fun b o hb e => (sb9.2 b hb).trans e) n8 eL (.inr eS) eCl (fun p hp => eN p (by simpa using hp))
        refine ⟨m', hm, i + 1, acc ++ [v], o6, H8, ys.push y, eτ6 ▸ I9, ho6, T.keep _ _ _ t8 fun b hb o e => (sb9.2 b (fun z => hDf (z ▸ hb))).trans e, f8, pl9, ?_, n8, w8⟩
        rw [Array.toList_push]
        exact Vals.append rv3 (.cons r8 .nil)
  exact codeAny_compStart_list loop (T.self _ _ _ _ _ (T.keep _ _ _ st2 fun b _ o e => old b o e) loop)
end
end L2

set_option Elab.async false
set_option linter.all false
set_option maxRecDepth 100000
set_option maxHeartbeats 4000000
namespace L2
open PySem PySem.Spec PyProof.Rows
inductive Kn where
  | non | bl | int | str | tup | lst | dct
  deriving DecidableEq
def KdV (K : PySem.W.Frag) (H : Hp) : V → Kn → Prop
  | .non, .non => True
  | .bl _, .bl => True
  | .int _, .int => True
  | .str _, .str => True
  | .ref a, .tup => ∃ xs, SqT K H a xs
  | .ref a, .lst => ∃ xs, SqL K H a xs
  | .ref a, .dct => ∃ kvs, H a = some (.dK kvs)
  | _, _ => False
def isiK : Kn → String → Bool
  | .int, "int" => true
  | .bl, "int" => true
  | .bl, "bool" => true
  | .str, "str" => true
  | .tup, "tuple" => true
  | .lst, "list" => true
  | _, _ => false
section
variable {X : Cx}
theorem Inv.tupObj {pins : List (Addr × Obj)} {σ : St} {H : Hp} {s : Shared} {a : Addr} {xs : List V} (I : Inv X pins σ H s) (h : SqT X.K H a xs) : ∃ o, s.heap.get? a = some o ∧ o.cls = .type "tuple" := by
  obtain ⟨its, r, ⟨o, e, c, _⟩, _⟩ := I.tuple h
  exact ⟨o, e, c⟩
theorem Inv.lstObj {pins : List (Addr × Obj)} {σ : St} {H : Hp} {s : Shared} {a : Addr} {xs : List V} (I : Inv X pins σ H s) (h : SqL X.K H a xs) : ∃ o, s.heap.get? a = some o ∧ o.cls = .type "list" := by
  obtain ⟨its, r, ⟨o, n, e, c, _⟩, _⟩ := I.list h
  exact ⟨o, e, c⟩
theorem Inv.dctObj {pins : List (Addr × Obj)} {σ : St} {H : Hp} {s : Shared} {a : Addr} {kvs : List (Key × V)} (I : Inv X pins σ H s) (h : H a = some (.dK kvs)) : ∃ o, s.heap.get? a = some o ∧ o.cls = .type "dict" := by
  obtain ⟨_, _, vs, _, p⟩ := (show ObjOk X.prog X.w H s.heap a (.dK kvs) from I.hok a _ h)
  obtain ⟨o, es, ep, h1, h2, _⟩ := p
  exact ⟨o, h1, h2.1⟩
theorem call_isi_int : CallR X (.builtin "isinstance") (fun xs H Q => ∃ x k, xs = [x, .ty "int"] ∧ KdV X.K H x k ∧ Q (.bl (isiK k "int")) H) := by
  intro pins s σ H xs us Q I r h
  obtain ⟨x, k, rfl, hk, q⟩ := h
  obtain ⟨u, c, rfl, ru, rc⟩ := vals2 r
  cases rc
  cases k with
  | non =>
    cases x with
    | non =>
      cases ru
      exact IsiPair.NoneType_int ⟨.bl false, H, I.tok _, rfl, q⟩
    | _ => exact hk.elim
  | bl =>
    cases x with
    | bl b =>
      cases ru
      exact IsiPair.bool_int ⟨.bl true, H, I, rfl, q⟩
    | _ => exact hk.elim
  | int =>
    cases x with
    | int i =>
      obtain ⟨t, rfl⟩ := ru
      exact IsiPair.int_int ⟨.bl true, H, I, rfl, q⟩
    | _ => exact hk.elim
  | str =>
    cases x with
    | str y =>
      obtain ⟨t, rfl⟩ := ru
      exact IsiPair.str_int ⟨.bl false, H, I.tok _, rfl, q⟩
    | _ => exact hk.elim
  | tup =>
    cases x with
    | ref a =>
      cases ru
      obtain ⟨z, hz⟩ := hk
      obtain ⟨o, ho, hc⟩ := I.tupObj hz
      exact IsiPair.tuple_int ho hc ⟨.bl false, H, I.tok _, rfl, q⟩
    | _ => exact hk.elim
  | lst =>
    cases x with
    | ref a =>
      cases ru
      obtain ⟨z, hz⟩ := hk
      obtain ⟨o, ho, hc⟩ := I.lstObj hz
      exact IsiPair.list_int ho hc ⟨.bl false, H, I.tok _, rfl, q⟩
    | _ => exact hk.elim
  | dct =>
    cases x with
    | ref a =>
      cases ru
      obtain ⟨z, hz⟩ := hk
      obtain ⟨o, ho, hc⟩ := I.dctObj hz
      exact IsiPair.dict_int ho hc ⟨.bl false, H, I.tok _, rfl, q⟩
    | _ => exact hk.elim
theorem call_isi_bool : CallR X (.builtin "isinstance") (fun xs H Q => ∃ x k, xs = [x, .ty "bool"] ∧ KdV X.K H x k ∧ Q (.bl (isiK k "bool")) H) := by
  intro pins s σ H xs us Q I r h
  obtain ⟨x, k, rfl, hk, q⟩ := h
  obtain ⟨u, c, rfl, ru, rc⟩ := vals2 r
  cases rc
  cases k with
  | non =>
    cases x with
    | non =>
      cases ru
      exact IsiPair.NoneType_bool ⟨.bl false, H, I.tok _, rfl, q⟩
    | _ => exact hk.elim
  | bl =>
    cases x with
    | bl b =>
      cases ru
      exact IsiPair.bool_bool ⟨.bl true, H, I, rfl, q⟩
    | _ => exact hk.elim
  | int =>
    cases x with
    | int i =>
      obtain ⟨t, rfl⟩ := ru
      exact IsiPair.int_bool ⟨.bl false, H, I.tok _, rfl, q⟩
    | _ => exact hk.elim
  | str =>
    cases x with
    | str y =>
      obtain ⟨t, rfl⟩ := ru
      exact IsiPair.str_bool ⟨.bl false, H, I.tok _, rfl, q⟩
    | _ => exact hk.elim
  | tup =>
    cases x with
    | ref a =>
      cases ru
      obtain ⟨z, hz⟩ := hk
      obtain ⟨o, ho, hc⟩ := I.tupObj hz
      exact IsiPair.tuple_bool ho hc ⟨.bl false, H, I.tok _, rfl, q⟩
    | _ => exact hk.elim
  | lst =>
    cases x with
    | ref a =>
      cases ru
      obtain ⟨z, hz⟩ := hk
      obtain ⟨o, ho, hc⟩ := I.lstObj hz
      exact IsiPair.list_bool ho hc ⟨.bl false, H, I.tok _, rfl, q⟩
    | _ => exact hk.elim
  | dct =>
    cases x with
    | ref a =>
      cases ru
      obtain ⟨z, hz⟩ := hk
      obtain ⟨o, ho, hc⟩ := I.dctObj hz
      exact IsiPair.dict_bool ho hc ⟨.bl false, H, I.tok _, rfl, q⟩
    | _ => exact hk.elim
theorem call_isi_str : CallR X (.builtin "isinstance") (fun xs H Q => ∃ x k, xs = [x, .ty "str"] ∧ KdV X.K H x k ∧ Q (.bl (isiK k "str")) H) := by
  intro pins s σ H xs us Q I r h
  obtain ⟨x, k, rfl, hk, q⟩ := h
  obtain ⟨u, c, rfl, ru, rc⟩ := vals2 r
  cases rc
  cases k with
  | non =>
    cases x with
    | non =>
      cases ru
      exact IsiPair.NoneType_str ⟨.bl false, H, I.tok _, rfl, q⟩
    | _ => exact hk.elim
  | bl =>
    cases x with
    | bl b =>
      cases ru
      exact IsiPair.bool_str ⟨.bl false, H, I.tok _, rfl, q⟩
    | _ => exact hk.elim
  | int =>
    cases x with
    | int i =>
      obtain ⟨t, rfl⟩ := ru
      exact IsiPair.int_str ⟨.bl false, H, I.tok _, rfl, q⟩
    | _ => exact hk.elim
  | str =>
    cases x with
    | str y =>
      obtain ⟨t, rfl⟩ := ru
      exact IsiPair.str_str ⟨.bl true, H, I, rfl, q⟩
    | _ => exact hk.elim
  | tup =>
    cases x with
    | ref a =>
      cases ru
      obtain ⟨z, hz⟩ := hk
      obtain ⟨o, ho, hc⟩ := I.tupObj hz
      exact IsiPair.tuple_str ho hc ⟨.bl false, H, I.tok _, rfl, q⟩
    | _ => exact hk.elim
  | lst =>
    cases x with
    | ref a =>
      cases ru
      obtain ⟨z, hz⟩ := hk
      obtain ⟨o, ho, hc⟩ := I.lstObj hz
      exact IsiPair.list_str ho hc ⟨.bl false, H, I.tok _, rfl, q⟩
    | _ => exact hk.elim
  | dct =>
    cases x with
    | ref a =>
      cases ru
      obtain ⟨z, hz⟩ := hk
      obtain ⟨o, ho, hc⟩ := I.dctObj hz
      exact IsiPair.dict_str ho hc ⟨.bl false, H, I.tok _, rfl, q⟩
    | _ => exact hk.elim
theorem call_isi_tuple : CallR X (.builtin "isinstance") (fun xs H Q => ∃ x k, xs = [x, .ty "tuple"] ∧ KdV X.K H x k ∧ Q (.bl (isiK k "tuple")) H) := by
  intro pins s σ H xs us Q I r h
  obtain ⟨x, k, rfl, hk, q⟩ := h
  obtain ⟨u, c, rfl, ru, rc⟩ := vals2 r
  cases rc
  cases k with
  | non =>
    cases x with
    | non =>
      cases ru
      exact IsiPair.NoneType_tuple ⟨.bl false, H, I.tok _, rfl, q⟩
    | _ => exact hk.elim
  | bl =>
    cases x with
    | bl b =>
      cases ru
      exact IsiPair.bool_tuple ⟨.bl false, H, I.tok _, rfl, q⟩
    | _ => exact hk.elim
  | int =>
    cases x with
    | int i =>
      obtain ⟨t, rfl⟩ := ru
      exact IsiPair.int_tuple ⟨.bl false, H, I.tok _, rfl, q⟩
    | _ => exact hk.elim
  | str =>
    cases x with
    | str y =>
      obtain ⟨t, rfl⟩ := ru
      exact IsiPair.str_tuple ⟨.bl false, H, I.tok _, rfl, q⟩
    | _ => exact hk.elim
  | tup =>
    cases x with
    | ref a =>
      cases ru
      obtain ⟨z, hz⟩ := hk
      obtain ⟨o, ho, hc⟩ := I.tupObj hz
      exact IsiPair.tuple_tuple ho hc ⟨.bl true, H, I, rfl, q⟩
    | _ => exact hk.elim
  | lst =>
    cases x with
    | ref a =>
      cases ru
      obtain ⟨z, hz⟩ := hk
      obtain ⟨o, ho, hc⟩ := I.lstObj hz
      exact IsiPair.list_tuple ho hc ⟨.bl false, H, I.tok _, rfl, q⟩
    | _ => exact hk.elim
  | dct =>
    cases x with
    | ref a =>
      cases ru
      obtain ⟨z, hz⟩ := hk
      obtain ⟨o, ho, hc⟩ := I.dctObj hz
      exact IsiPair.dict_tuple ho hc ⟨.bl false, H, I.tok _, rfl, q⟩
    | _ => exact hk.elim
theorem call_isi_list : CallR X (.builtin "isinstance") (fun xs H Q => ∃ x k, xs = [x, .ty "list"] ∧ KdV X.K H x k ∧ Q (.bl (isiK k "list")) H) := by
  intro pins s σ H xs us Q I r h
  obtain ⟨x, k, rfl, hk, q⟩ := h
  obtain ⟨u, c, rfl, ru, rc⟩ := vals2 r
  cases rc
  cases k with
  | non =>
    cases x with
    | non =>
      cases ru
      exact IsiPair.NoneType_list ⟨.bl false, H, I.tok _, rfl, q⟩
    | _ => exact hk.elim
  | bl =>
    cases x with
    | bl b =>
      cases ru
      exact IsiPair.bool_list ⟨.bl false, H, I.tok _, rfl, q⟩
    | _ => exact hk.elim
  | int =>
    cases x with
    | int i =>
      obtain ⟨t, rfl⟩ := ru
      exact IsiPair.int_list ⟨.bl false, H, I.tok _, rfl, q⟩
    | _ => exact hk.elim
  | str =>
    cases x with
    | str y =>
      obtain ⟨t, rfl⟩ := ru
      exact IsiPair.str_list ⟨.bl false, H, I.tok _, rfl, q⟩
    | _ => exact hk.elim
  | tup =>
    cases x with
    | ref a =>
      cases ru
      obtain ⟨z, hz⟩ := hk
      obtain ⟨o, ho, hc⟩ := I.tupObj hz
      exact IsiPair.tuple_list ho hc ⟨.bl false, H, I.tok _, rfl, q⟩
    | _ => exact hk.elim
  | lst =>
    cases x with
    | ref a =>
      cases ru
      obtain ⟨z, hz⟩ := hk
      obtain ⟨o, ho, hc⟩ := I.lstObj hz
      exact IsiPair.list_list ho hc ⟨.bl true, H, I, rfl, q⟩
    | _ => exact hk.elim
  | dct =>
    cases x with
    | ref a =>
      cases ru
      obtain ⟨z, hz⟩ := hk
      obtain ⟨o, ho, hc⟩ := I.dctObj hz
      exact IsiPair.dict_list ho hc ⟨.bl false, H, I.tok _, rfl, q⟩
    | _ => exact hk.elim
end
end L2

set_option Elab.async false
set_option linter.all false
set_option maxRecDepth 100000
set_option maxHeartbeats 4000000
namespace L2
open PySem PySem.Spec PyProof.Rows
def TyTup (p : Addr) (Ts : List String) : Heap → Prop := fun h => h.get? p = some { cls := .type "tuple", data := .seq (Ts.map Value.type).toArray }
theorem vals_ty : ∀ {Ts : List String} {us : List Value}, Vals (Ts.map V.ty) us → us = Ts.map Value.type
  | [], _, .nil => rfl
  | _ :: r, _, .cons h t => by
    cases h
    rw [vals_ty t]
    rfl
def tTyTup (t : TA) : TE := fun σ H Q => t σ H fun xs H1 => ∃ Ts : List String, xs = Ts.map V.ty ∧ xs.length ≤ sizeLine ∧ ∀ p, H1 p = none → Q (.ref p) (upd H1 p (.ext (TyTup p Ts)))
section
variable {X : Cx} {es : List Expr} {t : TA} {pos : Pos}
theorem pe_tytup {x1} (h : PA X es t) : PE X (.Tuple es x1 pos) (tTyTup t) := by
  intro pins s σ H Q I hq
  refine wpAny_Tuple_spliced (thn (h pos pins s σ H _ I hq) fun us s1 ⟨xs, H1, I1, r, Ts, e, z, q⟩ => ⟨by rw [← r.length]; exact z, ?_⟩)
  subst e
  have eu := vals_ty r
  subst eu
  have hf : H1 s1.heap.objs.size = none := I1.hok.fresh (Nat.le_refl _)
  refine ⟨.ref s1.heap.objs.size, upd H1 s1.heap.objs.size (.ext (TyTup s1.heap.objs.size Ts)), I1.laid (t' := s1.toks) (fun b u e => Heap.get?_push_of_some _ e) (Nat.le_refl _) ?_, rfl, q _ hf⟩
  refine ⟨Heap.get?_push_size _ rfl, ⟨_, Heap.get?_push_size _ rfl⟩, fun h1 h2 e k => k _ e⟩
theorem ans_tl {K : PySem.W.Frag} {pins : List (Addr × Obj)} {σ : St} {H : Hp} {s : Shared} {x : V} {u : Value} {k : Kn} (I : Inv X pins σ H s) (hk : KdV X.K H x k) (r : RelV x u) :
    ∃ Tx vs, AnswersAll (fun s => s.TypeIs u Tx) u [.type "tuple", .type "list"] vs ∧ s.TypeIs u Tx ∧ vs.any id = (decide (k = .tup) || decide (k = .lst)) := by
  cases k with
  | non =>
    cases x with
    | non => cases r; exact ⟨"NoneType", [false, false], .cons (.of_false_none (by decide +kernel) F.isi_meta_tuple F.sub_NoneType_tuple) (.cons (.of_false_none (by decide +kernel) F.isi_meta_list F.sub_NoneType_list) .nil), rfl, rfl⟩
    | _ => exact hk.elim
  | bl =>
    cases x with
    | bl b => cases r; exact ⟨"bool", [false, false], .cons (.of_false_bool (by decide +kernel) F.isi_meta_tuple F.sub_bool_tuple) (.cons (.of_false_bool (by decide +kernel) F.isi_meta_list F.sub_bool_list) .nil), rfl, rfl⟩
    | _ => exact hk.elim
  | int =>
    cases x with
    | int b => obtain ⟨t, rfl⟩ := r; exact ⟨"int", [false, false], .cons (.of_false_int (by decide +kernel) F.isi_meta_tuple F.sub_int_tuple) (.cons (.of_false_int (by decide +kernel) F.isi_meta_list F.sub_int_list) .nil), rfl, rfl⟩
    | _ => exact hk.elim
  | str =>
    cases x with
    | str b => obtain ⟨t, rfl⟩ := r; exact ⟨"str", [false, false], .cons (.of_false_str (by decide +kernel) F.isi_meta_tuple F.sub_str_tuple) (.cons (.of_false_str (by decide +kernel) F.isi_meta_list F.sub_str_list) .nil), rfl, rfl⟩
    | _ => exact hk.elim
  | tup =>
    cases x with
    | ref a =>
      cases r
      obtain ⟨z, hz⟩ := hk
      exact ⟨"tuple", [true, false], .cons (.of_true F.isi_meta_tuple F.sub_tuple_tuple) (.cons (.of_false_tuple (by decide +kernel) F.isi_meta_list F.sub_tuple_list) .nil), I.tupObj hz, rfl⟩
    | _ => exact hk.elim
  | lst =>
    cases x with
    | ref a =>
      cases r
      obtain ⟨z, hz⟩ := hk
      exact ⟨"list", [false, true], .cons (.of_false_list (by decide +kernel) F.isi_meta_tuple F.sub_list_tuple) (.cons (.of_true F.isi_meta_list F.sub_list_list) .nil), I.lstObj hz, rfl⟩
    | _ => exact hk.elim
  | dct =>
    cases x with
    | ref a =>
      cases r
      obtain ⟨z, hz⟩ := hk
      exact ⟨"dict", [false, false], .cons (.of_false_dict (by decide +kernel) F.isi_meta_tuple F.sub_dict_tuple) (.cons (.of_false_dict (by decide +kernel) F.isi_meta_list F.sub_dict_list) .nil), I.dctObj hz, rfl⟩
    | _ => exact hk.elim
theorem call_isi_tl : CallR X (.builtin "isinstance") (fun xs H Q => ∃ x k p, xs = [x, .ref p] ∧ KdV X.K H x k ∧ H p = some (.ext (TyTup p ["tuple", "list"])) ∧ Q (.bl (decide (k = .tup) || decide (k = .lst))) H) := by
  intro pins s σ H xs us Q I r h
  obtain ⟨x, k, p, rfl, hk, hp, q⟩ := h
  obtain ⟨u, c, rfl, ru, rc⟩ := vals2 r
  cases rc
  obtain ⟨Tx, vs, ha, ht, hv⟩ := ans_tl (K := X.K) I hk ru
  have ho : ObjOk X.prog X.w H s.heap p (.ext (TyTup p ["tuple", "list"])) := I.hok p _ hp
  exact IsiPair.tupleOfB ha ht ho.1 hv fun tk => ⟨.bl _, H, I.tok _, rfl, q⟩
theorem truth_bl {A : Around} {bs : List Bool} {its : List Value} (r : Vals (bs.map V.bl) its) : TruthOf X.prog X.w A (fun i v => its.toArray[i]? = some v) (fun i => bs.getD i false) := by
  intro i v s Q E hv hQ
  have hv' : its[i]? = some v := by simpa using hv
  have hi : i < its.length := (List.getElem?_eq_some_iff.mp hv').1
  have hb : i < bs.length := by
    have e := r.length
    rw [List.length_map] at e
    omega
  have hx : (bs.map V.bl)[i]? = some (.bl (bs[i])) := by rw [List.getElem?_map, List.getElem?_eq_getElem hb]; rfl
  obtain ⟨u, hu, ru⟩ := Vals.get r hx
  rw [hv'] at hu
  cases hu
  cases ru
  have e : bs.getD i false = bs[i] := by simp [List.getD, List.getElem?_eq_getElem hb]
  have hQ' : Q (bs.getD i false) s := hQ
  rw [e] at hQ'
  exact wpAny_truthy_bool hQ'
theorem range_all (bs : List Bool) : (List.range bs.length).all (fun i => bs.getD i false) = bs.all id := by
  rw [Bool.eq_iff_iff, List.all_eq_true, List.all_eq_true]
  constructor
  · intro h b hb
    obtain ⟨i, hi, e⟩ := List.getElem_of_mem hb
    have := h i (List.mem_range.mpr hi)
    simpa [List.getD, List.getElem?_eq_getElem hi, e] using this
  · intro h i hi
    have hi := List.mem_range.mp hi
    have := h _ (List.getElem_mem hi)
    simpa [List.getD, List.getElem?_eq_getElem hi] using this
theorem call_all (hc : X.calm = true) : CallR X (.builtin "all") (fun xs H Q => ∃ (p : Addr) (bs : List Bool), xs = [.ref p] ∧ SqL X.K H p (bs.map V.bl) ∧ Q (.bl (bs.all id)) H) := by
  intro pins s σ H xs us Q I r h
  obtain ⟨p, bs, rfl, hp, q⟩ := h
  obtain ⟨u, rfl, ru⟩ := vals1 r
  cases ru
  obtain ⟨its, rv, pl, hz⟩ := I.list hp
  have hn : its.toArray.size = bs.length := by
    have e := rv.length
    rw [List.length_map] at e
    simpa using e.symm
  have hh : X.A.in1.handled = none := I.ok.hd hc
  refine call_all_walk (wpAny_pyIter_list pl.isList ?_)
  have old : p ≠ s.heap.objs.size := Nat.ne_of_lt (by obtain ⟨o, n, e, _⟩ := pl; exact Heap.lt_size e)
  refine ⟨s.heap.objs.size, [s.heap.objs.size, p], [s.heap.objs.size], its.toArray.size, _, _, fun i => bs.getD i false, rfl, Walks.list hh s.heap.objs.size p old its.toArray, ⟨⟨_, Heap.get?_push_size _ rfl, rfl, rfl⟩, pl.isList.at fun o e => Heap.get?_push_of_some _ e⟩, truth_bl rv, fun h' tk hk => ?_⟩
  rw [hn, range_all]
  exact ⟨.bl _, H, I.kept (t' := tk) fun b o e => hk b o (by simpa using Nat.ne_of_lt (Heap.lt_size e)) (Heap.get?_push_of_some _ e), rfl, q⟩
end
end L2

set_option Elab.async false
set_option linter.all false
set_option maxRecDepth 100000
set_option maxHeartbeats 4000000
namespace L2
open PySem PySem.Spec PyProof.Rows
def keyD : Key → PyData
  | .inl i => .int i
  | .inr x => .str x
mutual
def DV (K : PySem.W.Frag) (Z : Addr → Prop) (H : Hp) : PyData → V → Prop
  | .none, v => v = .non
  | .bool b, v => v = .bl b
  | .int i, v => v = .int i
  | .str x, v => v = .str x
  | .tuple ds, v => ∃ a xs, v = .ref a ∧ SqT K H a xs ∧ DVs K Z H ds xs
  | .list ds, v => ∃ a xs, v = .ref a ∧ ¬ Z a ∧ H a = some (.lst xs) ∧ DVs K Z H ds xs
  | .dict kvs, v => ∃ a es, v = .ref a ∧ ¬ Z a ∧ H a = some (.dK es) ∧ ∃ l : List (Key × Int), es = l.map (fun p => (p.1, V.int p.2)) ∧ kvs = l.map fun p => (keyD p.1, PyData.int p.2)
def DVs (K : PySem.W.Frag) (Z : Addr → Prop) (H : Hp) : List PyData → List V → Prop
  | [], vs => vs = []
  | d :: ds, vs => ∃ v r, vs = v :: r ∧ DV K Z H d v ∧ DVs K Z H ds r
end
structure Stay (K : PySem.W.Frag) (Z : Addr → Prop) (H H' : Hp) : Prop where
  tup : ∀ b xs, SqT K H b xs → SqT K H' b xs
  lst : ∀ b xs, ¬ Z b → H b = some (.lst xs) → H' b = some (.lst xs)
  dct : ∀ b es, ¬ Z b → H b = some (.dK es) → H' b = some (.dK es)
mutual
theorem DV.stay {K : PySem.W.Frag} {Z : Addr → Prop} {H H' : Hp} (S : Stay K Z H H') : ∀ {d : PyData} {v : V}, DV K Z H d v → DV K Z H' d v
  | .none, _, h => h
  | .bool _, _, h => h
  | .int _, _, h => h
  | .str _, _, h => h
  | .tuple ds, v, h => by
    simp only [DV] at h ⊢
    obtain ⟨a, xs, e, hq, r⟩ := h
    exact ⟨a, xs, e, S.tup a xs hq, DVs.stay S r⟩
  | .list ds, v, h => by
    simp only [DV] at h ⊢
    obtain ⟨a, xs, e, hz, hq, r⟩ := h
    exact ⟨a, xs, e, hz, S.lst a xs hz hq, DVs.stay S r⟩
  | .dict kvs, v, h => by
    simp only [DV] at h ⊢
    obtain ⟨a, es, e, hz, hq, r⟩ := h
    exact ⟨a, es, e, hz, S.dct a es hz hq, r⟩
theorem DVs.stay {K : PySem.W.Frag} {Z : Addr → Prop} {H H' : Hp} (S : Stay K Z H H') : ∀ {ds : List PyData} {vs : List V}, DVs K Z H ds vs → DVs K Z H' ds vs
  | [], _, h => h
  | d :: ds, vs, h => by
    simp only [DVs] at h ⊢
    obtain ⟨v, r, e, h1, h2⟩ := h
    exact ⟨v, r, e, DV.stay S h1, DVs.stay S h2⟩
end
mutual
theorem DV.more {K : PySem.W.Frag} {Z : Addr → Prop} {H : Hp} {p : Addr} (hp : H p = none) : ∀ {d : PyData} {v : V}, DV K Z H d v → DV K (fun a => Z a ∨ a = p) H d v
  | .none, _, h => h
  | .bool _, _, h => h
  | .int _, _, h => h
  | .str _, _, h => h
  | .tuple ds, v, h => by
    simp only [DV] at h ⊢
    obtain ⟨a, xs, e, hq, r⟩ := h
    exact ⟨a, xs, e, hq, DVs.more hp r⟩
  | .list ds, v, h => by
    simp only [DV] at h ⊢
    obtain ⟨a, xs, e, hz, hq, r⟩ := h
    exact ⟨a, xs, e, (fun z => z.elim hz fun e => by subst e; rw [hp] at hq; cases hq), hq, DVs.more hp r⟩
  | .dict kvs, v, h => by
    simp only [DV] at h ⊢
    obtain ⟨a, es, e, hz, hq, r⟩ := h
    exact ⟨a, es, e, (fun z => z.elim hz fun e => by subst e; rw [hp] at hq; cases hq), hq, r⟩
theorem DVs.more {K : PySem.W.Frag} {Z : Addr → Prop} {H : Hp} {p : Addr} (hp : H p = none) : ∀ {ds : List PyData} {vs : List V}, DVs K Z H ds vs → DVs K (fun a => Z a ∨ a = p) H ds vs
  | [], _, h => h
  | d :: ds, vs, h => by
    simp only [DVs] at h ⊢
    obtain ⟨v, r, e, h1, h2⟩ := h
    exact ⟨v, r, e, DV.more hp h1, DVs.more hp h2⟩
end
mutual
theorem DV.less {K : PySem.W.Frag} {Z Z' : Addr → Prop} {H : Hp} (hz' : ∀ a, Z' a → Z a) : ∀ {d : PyData} {v : V}, DV K Z H d v → DV K Z' H d v
  | .none, _, h => h
  | .bool _, _, h => h
  | .int _, _, h => h
  | .str _, _, h => h
  | .tuple ds, v, h => by
    simp only [DV] at h ⊢
    obtain ⟨a, xs, e, hq, r⟩ := h
    exact ⟨a, xs, e, hq, DVs.less hz' r⟩
  | .list ds, v, h => by
    simp only [DV] at h ⊢
    obtain ⟨a, xs, e, hz, hq, r⟩ := h
    exact ⟨a, xs, e, fun z => hz (hz' _ z), hq, DVs.less hz' r⟩
  | .dict kvs, v, h => by
    simp only [DV] at h ⊢
    obtain ⟨a, es, e, hz, hq, r⟩ := h
    exact ⟨a, es, e, fun z => hz (hz' _ z), hq, r⟩
theorem DVs.less {K : PySem.W.Frag} {Z Z' : Addr → Prop} {H : Hp} (hz' : ∀ a, Z' a → Z a) : ∀ {ds : List PyData} {vs : List V}, DVs K Z H ds vs → DVs K Z' H ds vs
  | [], _, h => h
  | d :: ds, vs, h => by
    simp only [DVs] at h ⊢
    obtain ⟨v, r, e, h1, h2⟩ := h
    exact ⟨v, r, e, DV.less hz' h1, DVs.less hz' h2⟩
end
theorem DVs.length {K : PySem.W.Frag} {Z : Addr → Prop} {H : Hp} : ∀ {ds : List PyData} {vs : List V}, DVs K Z H ds vs → ds.length = vs.length
  | [], vs, h => by
    have e : vs = [] := h
    subst e
    rfl
  | d :: ds, vs, h => by
    obtain ⟨v, r, e, _, h2⟩ := h
    subst e
    simp [DVs.length h2]
theorem DVs.get {K : PySem.W.Frag} {Z : Addr → Prop} {H : Hp} : ∀ {ds : List PyData} {vs : List V}, DVs K Z H ds vs → ∀ (i : Nat) v, vs[i]? = some v → ∃ d, ds[i]? = some d ∧ DV K Z H d v
  | [], vs, h, i, v, e => by
    have e' : vs = [] := h
    subst e'
    simp at e
  | d :: ds, vs, h, i, v, e => by
    obtain ⟨w, r, e', h1, h2⟩ := h
    subst e'
    cases i with
    | zero =>
      have : w = v := by simpa using e
      subst this
      exact ⟨d, rfl, h1⟩
    | succ i => exact DVs.get h2 i v (by simpa using e)
theorem DVs.get' {K : PySem.W.Frag} {Z : Addr → Prop} {H : Hp} : ∀ {ds : List PyData} {vs : List V}, DVs K Z H ds vs → ∀ (i : Nat) d, ds[i]? = some d → ∃ v, vs[i]? = some v ∧ DV K Z H d v
  | [], vs, h, i, d, e => by simp at e
  | d :: ds, vs, h, i, d', e => by
    obtain ⟨w, r, e', h1, h2⟩ := h
    subst e'
    cases i with
    | zero =>
      have : d = d' := by simpa using e
      subst this
      exact ⟨w, rfl, h1⟩
    | succ i => exact DVs.get' h2 i d' (by simpa using e)
theorem DVs.append {K : PySem.W.Frag} {Z : Addr → Prop} {H : Hp} : ∀ {ds es : List PyData} {vs ws : List V}, DVs K Z H ds vs → DVs K Z H es ws → DVs K Z H (ds ++ es) (vs ++ ws)
  | [], es, vs, ws, h, h' => by
    have e : vs = [] := h
    subst e
    exact h'
  | d :: ds, es, vs, ws, h, h' => by
    obtain ⟨v, r, e, h1, h2⟩ := h
    subst e
    exact ⟨v, r ++ ws, rfl, h1, DVs.append h2 h'⟩
theorem DVs.take {K : PySem.W.Frag} {Z : Addr → Prop} {H : Hp} : ∀ {ds : List PyData} {vs : List V} (n : Nat), DVs K Z H ds vs → DVs K Z H (ds.take n) (vs.take n)
  | [], vs, n, h => by
    have e : vs = [] := h
    subst e
    simp [DVs]
  | d :: ds, vs, 0, h => by simp [DVs]
  | d :: ds, vs, n + 1, h => by
    obtain ⟨v, r, e, h1, h2⟩ := h
    subst e
    exact ⟨v, r.take n, rfl, h1, DVs.take n h2⟩
theorem DVs.drop {K : PySem.W.Frag} {Z : Addr → Prop} {H : Hp} : ∀ {ds : List PyData} {vs : List V} (n : Nat), DVs K Z H ds vs → DVs K Z H (ds.drop n) (vs.drop n)
  | [], vs, n, h => by
    have e : vs = [] := h
    subst e
    simp [DVs]
  | d :: ds, vs, 0, h => h
  | d :: ds, vs, n + 1, h => by
    obtain ⟨v, r, e, h1, h2⟩ := h
    subst e
    exact DVs.drop n h2
theorem DVs.reverse {K : PySem.W.Frag} {Z : Addr → Prop} {H : Hp} : ∀ {ds : List PyData} {vs : List V}, DVs K Z H ds vs → DVs K Z H ds.reverse vs.reverse
  | [], vs, h => by
    have e : vs = [] := h
    subst e
    simp [DVs]
  | d :: ds, vs, h => by
    obtain ⟨v, r, e, h1, h2⟩ := h
    subst e
    rw [List.reverse_cons, List.reverse_cons]
    exact DVs.append (DVs.reverse h2) ⟨v, [], rfl, h1, rfl⟩
def kdD : PyData → Kn
  | .none => .non
  | .bool _ => .bl
  | .int _ => .int
  | .str _ => .str
  | .tuple _ => .tup
  | .list _ => .lst
  | .dict _ => .dct
theorem DV.kd {K : PySem.W.Frag} {Z : Addr → Prop} {H : Hp} {d : PyData} {v : V} (h : DV K Z H d v) : KdV K H v (kdD d) := by
  cases d with
  | none => have e : v = .non := h; subst e; trivial
  | bool _ => have e : v = .bl _ := h; subst e; trivial
  | int _ => have e : v = .int _ := h; subst e; trivial
  | str _ => have e : v = .str _ := h; subst e; trivial
  | tuple ds =>
    simp only [DV] at h
    obtain ⟨a, xs, e, hq, _⟩ := h
    subst e
    exact ⟨xs, hq⟩
  | list ds =>
    simp only [DV] at h
    obtain ⟨a, xs, e, _, hq, _⟩ := h
    subst e
    exact ⟨xs, SqL.of hq⟩
  | dict kvs =>
    simp only [DV] at h
    obtain ⟨a, es, e, _, hq, _⟩ := h
    subst e
    exact ⟨es, hq⟩
section
variable {X : Cx} {pins : List (Addr × Obj)} {σ : St} {H : Hp} {s : Shared} {Z : Addr → Prop}
theorem pairs_reads {h : Heap} {P : Program} {w : World} : ∀ {l : List (Key × Int)} {vs : List (Key × Value)} {es : List DictEntry}, KV (l.map fun p => (p.1, V.int p.2)) vs → Pairs (mixKind P w) es vs →
    ReadsAll h (es.map (·.key)) ((l.map fun p => (keyD p.1, PyData.int p.2)).map (·.1)) [] ∧ ReadsAll h (es.map (·.val)) ((l.map fun p => (keyD p.1, PyData.int p.2)).map (·.2)) []
  | [], _, _, .nil, .nil => ⟨.nil, .nil⟩
  | (k, i) :: l, _, _, .cons (b := q) r t, .cons (e := e) h1 h2 h3 => by
    obtain ⟨a1, a2⟩ := pairs_reads (h := h) t h3
    obtain ⟨r1, t', r2⟩ := r
    have r1 : k = q.1 := r1
    have r2 : q.2 = Value.int i t' := r2
    refine ⟨?_, ?_⟩
    · have hk : keyIs q.1 e.key = true := h1
      rw [← r1] at hk
      have : Reads h e.key (keyD k) [] := by
        rcases keyIs_shape hk with ⟨j, u, e1, e2⟩ | ⟨x, u, e1, e2⟩
        · rw [e1, e2]; exact .int j u
        · rw [e1, e2]; exact .str x u
      exact ReadsAll.cons (as := []) (bs := []) this a1
    · have : Reads h e.val (.int i) [] := by rw [h2, r2]; exact .int i t'
      exact ReadsAll.cons (as := []) (bs := []) this a2
mutual
theorem DV.reads (I : Inv X pins σ H s) : ∀ {d : PyData} {v : V} {u : Value}, DV X.K Z H d v → RelV v u → ∃ as, Reads s.heap u d as
  | .none, v, u, h, r => by
    have e : v = .non := h
    subst e; cases r
    exact ⟨[], .none⟩
  | .bool b, v, u, h, r => by
    have e : v = .bl b := h
    subst e; cases r
    exact ⟨[], .bool b⟩
  | .int i, v, u, h, r => by
    have e : v = .int i := h
    subst e; obtain ⟨t, rfl⟩ := r
    exact ⟨[], .int i t⟩
  | .str x, v, u, h, r => by
    have e : v = .str x := h
    subst e; obtain ⟨t, rfl⟩ := r
    exact ⟨[], .str x t⟩
  | .tuple ds, v, u, h, r => by
    simp only [DV] at h
    obtain ⟨a, xs, e, hq, hr⟩ := h
    subst e; cases r
    obtain ⟨its, rv, ⟨o, e, c, n, hd⟩, _⟩ := I.tuple hq
    obtain ⟨as, rs⟩ := DVs.reads I hr rv
    exact ⟨as, .tuple e c hd (by simpa using rs)⟩
  | .list ds, v, u, h, r => by
    simp only [DV] at h
    obtain ⟨a, xs, e, _, hq, hr⟩ := h
    subst e; cases r
    obtain ⟨its, rv, ⟨o, n, e, c, _, hd⟩, _⟩ := I.list (SqL.of hq)
    obtain ⟨as, rs⟩ := DVs.reads I hr rv
    exact ⟨a :: as, .list e c hd (by simpa using rs)⟩
  | .dict kvs, v, u, h, r => by
    simp only [DV] at h
    obtain ⟨a, es, e, _, hq, l, e1, e2⟩ := h
    subst e e1 e2; cases r
    obtain ⟨_, _, vs, kv, o, es', ep, g1, g2, g3, _, g5, _⟩ := (show ObjOk X.prog X.w H s.heap a (.dK _) from I.hok a _ hq)
    obtain ⟨r1, r2⟩ := pairs_reads (h := s.heap) kv g5
    exact ⟨a :: [] ++ [], .dict g1 g2.1 g3 r1 r2⟩
theorem DVs.reads (I : Inv X pins σ H s) : ∀ {ds : List PyData} {vs : List V} {us : List Value}, DVs X.K Z H ds vs → Vals vs us → ∃ as, ReadsAll s.heap us ds as
  | [], vs, us, h, r => by
    have e : vs = [] := h
    subst e; cases r
    exact ⟨[], .nil⟩
  | d :: ds, vs, us, h, r => by
    obtain ⟨v, rr, e, h1, h2⟩ := h
    subst e
    cases r with
    | cons ru rt =>
      obtain ⟨as, a1⟩ := DV.reads I h1 ru
      obtain ⟨bs, a2⟩ := DVs.reads I h2 rt
      exact ⟨as ++ bs, .cons a1 a2⟩
end
theorem call_repr {k : Nat} (hr : Room k X.A) : CallR X (.builtin "repr") (fun xs H Q => ∃ (x : V) (d : PyData) (Z : Addr → Prop), xs = [x] ∧ DV X.K Z H d x ∧ d.showable = true ∧ (d.hasDict = false ∨ kdD d = .dct) ∧ d.depth ≤ 100 ∧ d.shown.length ≤ sizeLine ∧ Q (.str d.shown) H) := by
  intro pins s σ H xs us Q I r h
  obtain ⟨x, d, Z, rfl, hd, hs, hnd, hdp, hz, q⟩ := h
  obtain ⟨u, rfl, ru⟩ := vals1 r
  have hun : X.A.units + (d.depth + 1) < cLine := by have := hr.un; omega
  obtain ⟨as, rd⟩ := hd.reads I ru
  have go : ∀ a, u = .ref a → (d.hasDict = true → sysModules ∉ as) → wpAny (model X.prog X.w) X.A (call (.builtin "repr") [u]) (EP X pins σ Q) X.xe s := fun a e hsm => by
    subst e
    exact repr_of_reads' rd hs hsm hr.gd hun (fun _ _ e => e) (fun h' t tk hk => ⟨.str d.shown, H, I.kept (t' := tk) hk, ⟨t, rfl⟩, q⟩) hz
  cases d with
  | none =>
    cases rd
    exact P.repr_of_none ⟨.str _, H, I.tok _, ⟨_, rfl⟩, q⟩
  | bool b =>
    cases rd
    exact P.repr_of_bool ⟨.str _, H, I.tok _, ⟨_, rfl⟩, q⟩
  | int i =>
    cases rd
    exact P.repr_of_int (by simpa [PyData.showable] using hs) ⟨.str _, H, I.tok _, ⟨_, rfl⟩, q⟩
  | str y =>
    cases rd
    exact P.repr_of_str ⟨.str _, H, I.tok _, ⟨_, rfl⟩, q⟩ hz
  | list ds =>
    cases rd with
    | list h1 h2 h3 h4 =>
      refine go _ rfl fun z => ?_
      rcases hnd with e | e
      · rw [e] at z; cases z
      · cases e
  | tuple ds =>
    cases rd with
    | tuple h1 h2 h3 h4 =>
      refine go _ rfl fun z => ?_
      rcases hnd with e | e
      · rw [e] at z; cases z
      · cases e
  | dict kvs =>
    simp only [DV] at hd
    obtain ⟨a, es, e, _, hq, l, e1, e2⟩ := hd
    subst e e1 e2; cases ru
    obtain ⟨_, hsys, vs, kv, o, es', ep, g1, g2, g3, _, g5, _⟩ := (show ObjOk X.prog X.w H s.heap a (.dK _) from I.hok a _ hq)
    obtain ⟨r1, r2⟩ := pairs_reads (h := s.heap) kv g5
    have rd' : Reads s.heap (.ref a) (.dict (l.map fun p => (keyD p.1, PyData.int p.2))) (a :: [] ++ []) := .dict g1 g2.1 g3 r1 r2
    refine repr_of_reads' rd' hs (fun _ hm => ?_) hr.gd hun (fun _ _ e => e) (fun h' t tk hk => ⟨.str _, H, I.kept (t' := tk) hk, ⟨t, rfl⟩, q⟩) hz
    have e : sysModules = a := by simpa using hm
    subst e
    simp at hsys
def rEqD (K : PySem.W.Frag) (neg : Bool) : R2 := fun x y H Q => ∃ (d e : PyData) (Z : Addr → Prop), DV K Z H d x ∧ DV K Z H e y ∧ d.canLay0 = true ∧ e.canLay0 = true ∧ min d.depth e.depth ≤ 100 ∧ Q (.bl (if neg then !PyData.eqv d e else PyData.eqv d e)) H
theorem op_eqD {k : Nat} (hr : Room k X.A) : OpR X (compareOp .Eq) (rEqD X.K false) := by
  intro pins s σ H x y v u Q I rx ry h
  obtain ⟨d, e, Z, h1, h2, l1, l2, hd, q⟩ := h
  obtain ⟨as, r1⟩ := h1.reads I rx
  obtain ⟨bs, r2⟩ := h2.reads I ry
  exact SeqAt.eqOverData _ _ _ _ _ _ _ _ _ _ _ _ r1 r2 l1 l2 (by have := hr.un; omega) ⟨.bl _, H, I, rfl, q⟩
theorem op_neD {k : Nat} (hr : Room k X.A) : OpR X (compareOp .NotEq) (rEqD X.K true) := by
  intro pins s σ H x y v u Q I rx ry h
  obtain ⟨d, e, Z, h1, h2, l1, l2, hd, q⟩ := h
  obtain ⟨as, r1⟩ := h1.reads I rx
  obtain ⟨bs, r2⟩ := h2.reads I ry
  exact SeqAt.neOverData _ _ _ _ _ _ _ _ _ _ _ _ r1 r2 l1 l2 (by have := hr.un; omega) ⟨.bl _, H, I, rfl, q⟩
end
end L2

set_option Elab.async false
set_option linter.all false
set_option maxRecDepth 100000
set_option maxHeartbeats 4000000
namespace HT
open PySem PySem.Spec PyProof.Rows
section
variable {prog : Program} {w : World} {A : Around} {E : Value → Shared → Prop} {s : Shared}
theorem exact_tup {t : Addr} {items : Array Value} {Q : Bool → Shared → Prop} (ht : IsTup s.heap t items) (h : Q true s) : wpAny (model prog w) A (Builtin.Tuple.tupleIsExact (.ref t)) Q E s := by
  unfold Builtin.Tuple.tupleIsExact
  exact wpAny_bind (wpAny_typeOf ht.typeIs (wpAny_pure h))
theorem item_tuple_all {t sl : Addr} {items : Array Value} {vl vu : Value} {lo hi : Option Int} {Q : Value → Shared → Prop} (ht : IsTup s.heap t items) (hs : s.heap.IsSliceOf sl vl vu .none) (pl : IsPart vl lo) (pu : IsPart vu hi)
    (hw : sIx items.size 0 lo = 0 ∧ sIx items.size items.size hi = items.size) (h : Q (.ref t) s) : wpAny (model prog w) A (getItem (.ref t) (.ref sl)) Q E s := by
  obtain ⟨os, hos, hcs, hds⟩ := id hs
  have hTs : s.TypeIs (.ref sl) "slice" := ⟨os, hos, hcs⟩
  unfold getItem
  try with_reducible refine wpAny_holding ?_
  first | refine wpAny_bind (wpAny_pure ?_) | skip
  refine wpAny_bind (wpAny_sequenceKey ht.typeIs (by decide) ?_)
  refine wpAny_bind (wpAny_callSpecial?_slot (name := Str.ofString "__getitem__") ht.typeIs PyProof.Rows.slot_tuple_getitem
    (wpAny_call_entry PyProof.Rows.slot_tuple_getitem ht.typeIs entry_tuple_getitem ?_ (args_tuple_getitem _ _)))
  show wpAny _ _ (Builtin.Tuple.tupleItemsOf (.ref t) >>= _) _ _ s
  refine wpAny_bind (tupleItemsOf_ ht ?_)
  refine wpAny_bind (wpAny_typeOf hTs ?_)
  rw [if_pos (by decide)]
  refine wpAny_bind (sliceApplied_gen hs pl pu ?_)
  obtain ⟨w1, w2⟩ := hw
  show wpAny _ _ (if (((sIx items.size 0 lo : Nat) : Int) == 0 && (1 : Int) == 1 && (sIx items.size items.size hi - sIx items.size 0 lo) == items.size) = true then _ else _) _ _ s
  rw [w1, w2, if_pos (by simp)]
  first
    | exact wpAny_bind (exact_tup ht (by simp only [if_true]; exact wpAny_bind (wpAny_rule (wpAny_pure ⟨_, rfl, wpAny_pure h⟩))))
    | exact wpAny_bind (exact_tup ht (by simp only [if_true]; exact wpAny_bind (wpAny_rule (wpAny_bind (wpAny_pure (wpAny_pure ⟨_, rfl, wpAny_pure h⟩))))))
end
end HT
namespace L2
open PySem PySem.Spec PyProof.Rows
theorem Same.sqT {K : PySem.W.Frag} {H H' : Hp} {a : Addr} {xs : List V} (e : Same H H') (h : SqT K H a xs) : SqT K H' a xs := by
  rcases h with (h | ⟨o, h⟩) | h
  · exact .inl (.inl (e _ _ h))
  · exact .inl (.inr ⟨o, e _ _ h⟩)
  · exact .inr h
theorem Same.upd {H : Hp} {p : Addr} {o : HO} (hn : H p = none) : Same H (upd H p o) := fun b u e => by rw [upd_ne (ne_of_none e hn)]; exact e
theorem Same.stay {K : PySem.W.Frag} {Z : Addr → Prop} {H H' : Hp} (e : Same H H') : Stay K Z H H' := ⟨fun _ _ h => e.sqT h, fun _ _ _ h => e _ _ h, fun _ _ _ h => e _ _ h⟩
def NewT (K : PySem.W.Frag) (H : Hp) (ys : List V) (Q : VK) : Prop := ∀ a H', Same H H' → SqT K H' a ys → Q (.ref a) H'
theorem NewT.here {K : PySem.W.Frag} {H : Hp} {ys : List V} {Q : VK} {a : Addr} (h : NewT K H ys Q) (hs : SqT K H a ys) : Q (.ref a) H := h a H (Same.refl H) hs
theorem NewT.new {K : PySem.W.Frag} {H : Hp} {ys : List V} {Q : VK} {p : Addr} (h : NewT K H ys Q) (hn : H p = none) : Q (.ref p) (L2.upd H p (.tup ys)) := h p _ (Same.upd hn) (SqT.of upd_same)
section
variable {X : Cx} {e : Expr} {te : TE} {pos p2 p3 p4 : Pos}
theorem drop_all {xs : List V} {lo hi : Option Int} (h : HT.sIx xs.length 0 lo = 0 ∧ HT.sIx xs.length xs.length hi = xs.length) : cutV xs lo hi = xs := by
  unfold cutV
  rw [h.1, h.2]
  simp
def rSlG (K : PySem.W.Frag) : V → Option Int → Option Int → Hp → VK → Prop := fun x lo hi H Q => ∃ a xs, x = .ref a ∧ SqT K H a xs ∧ NewT K H (cutV xs lo hi) Q
theorem sl_tupG : SlR X (rSlG X.K) := by
  intro pins s σ H x v vl vu lo hi sl Q I rx hs pl pu h
  obtain ⟨a, xs, rfl, hx, q⟩ := h
  by_cases hw : HT.sIx xs.length 0 lo = 0 ∧ HT.sIx xs.length xs.length hi = xs.length
  · cases rx
    obtain ⟨its, r, ht, hz⟩ := I.tuple hx
    have hlen : its.toArray.size = xs.length := by rw [List.size_toArray]; exact r.length.symm
    rw [drop_all hw] at q
    exact ⟨"tuple", _, PyProof.Rows.slot_tuple_getitem.lookup, ht.typeIs, HT.item_tuple_all ht hs pl pu (by rw [hlen]; exact hw) ⟨.ref a, H, I, rfl, q.here hx⟩⟩
  · exact sl_tup pins s σ H _ v vl vu lo hi sl Q I rx hs pl pu ⟨a, xs, rfl, hx, hw, fun p hp => q.new hp⟩
def tRev (K : PySem.W.Frag) (te : TE) : TE := fun σ H Q => te σ H fun x H1 => ∃ a xs, x = .ref a ∧ SqT K H1 a xs ∧ NewT K H1 xs.reverse Q
def rCatG (K : PySem.W.Frag) : R2 := fun x y H Q => ∃ a b xs ys, x = .ref a ∧ y = .ref b ∧ SqT K H a xs ∧ SqT K H b ys ∧ xs.length + ys.length ≤ sizeLine ∧ NewT K H (xs ++ ys) Q
theorem op_catG : OpR X (binaryOp .Add) (rCatG X.K) := by
  intro pins s σ H x y v u Q I rx ry h
  obtain ⟨a, b, xs, ys, rfl, rfl, ha, hb, hz, q⟩ := h
  by_cases hx : xs = []
  · subst hx
    cases rx
    cases ry
    obtain ⟨its, r1, p1, _⟩ := I.tuple ha
    obtain ⟨its2, r2, p2, _⟩ := I.tuple hb
    cases r1
    obtain ⟨⟨cls, dd, data, sl⟩, ho, hc, n, hd⟩ := id p1
    obtain ⟨⟨cls2, dd2, data2, sl2⟩, ho2, hc2, n2, hd2⟩ := id p2
    simp only at hc hd hc2 hd2
    subst hc hd hc2 hd2
    exact concat_meets ⟨_, ho, rfl⟩ ⟨_, ho2, rfl⟩ noFill_tuple_add seq_tuple_add PySem.F.slot_tuple_add PySem.F.entry_tuple_add (PySem.F.args_tuple_add_2 _ _)
      (tuple_addW0 a b _ its2.toArray n n2 dd dd2 sl sl2 (by simp)) ⟨ho, ho2, ⟨.ref b, H, I, rfl, q.here hb⟩⟩
  · refine op_catT pins s σ H _ _ v u Q I rx ry ⟨a, b, xs, ys, rfl, rfl, ha, hb, hx, hz, fun e => ?_, fun _ p hp => q.new hp⟩
    subst e
    rw [List.append_nil] at q
    exact q.here ha
end
end L2

set_option Elab.async false
set_option linter.all false
set_option maxRecDepth 100000
set_option maxHeartbeats 4000000
namespace HZ
open PySem PySem.Spec PyProof.Rows
structure Stp (P : Program) (w : World) (A : Around) (i l : Addr) (tn : Nat → Heap → Prop) (val : Nat → Option Value) : Prop where
  keep : ∀ k h h', tn k h → (∀ o, h.get? i = some o → h'.get? i = some o) → (∀ o, h.get? l = some o → h'.get? l = some o) → tn k h'
  item : ∀ k (s : Shared) (Q : Value → Shared → Prop) (E : Value → Shared → Prop) x, tn k s.heap → val k = some x → (∀ h', tn (k + 1) h' → Heap.SameBut i s.heap h' → Q x { s with heap := h' }) → wpAny (model P w) A (Builtin.SmallTypes.nextOf (.ref i)) Q E s
  stop : ∀ k (s : Shared) (Q : Value → Shared → Prop) (E : Value → Shared → Prop), tn k s.heap → val k = none → (∀ h' e, Heap.ExtBut i s.heap h' → (∃ o, h'.get? e = some o ∧ o.cls = .type "StopIteration") → E (.ref e) { s with heap := h' }) → wpAny (model P w) A (Builtin.SmallTypes.nextOf (.ref i)) Q E s
  obj : ∀ k h, tn k h → ∃ o, h.get? i = some o ∧ ∀ v, o.data ≠ .cell v
section
variable {P : Program} {w : World} {A : Around} {E : Value → Shared → Prop} {s : Shared}
theorem nextOf_tup {it t : Addr} {k : Nat} {its : Array Value} {x : Value} {Q : Value → Shared → Prop} (g : s.heap.IsTupleIter it t k) (gt : s.heap.IsTuple t its) (gx : its[k]? = some x)
    (q : ∀ h', h'.IsTupleIter it t (k + 1) → Heap.SameBut it s.heap h' → Q x { s with heap := h' }) : wpAny (model P w) A (Builtin.SmallTypes.nextOf (.ref it)) Q E s := by
  obtain ⟨o, go, gc, gd⟩ := id g
  obtain ⟨ol, gol, _, nl, gdl⟩ := gt
  unfold Builtin.SmallTypes.nextOf
  refine wpAny_bind (wpAny_callSpecial?_slot (name := Str.ofString "__next__") g.typeIs F.slot_tuple_iterator_next
    (wpAny_call_entry F.slot_tuple_iterator_next g.typeIs F.entry_tuple_iterator_next ?_ (F.args_tuple_iterator_next_1 _)))
  show wpAny _ _ (field (.ref it) 0 >>= _) _ _ _
  refine wpAny_bind (wpAny_field go gd (x := .ref t) rfl ?_)
  show wpAny _ _ (if (Value.ref t == Value.none) = true then _ else _) _ _ _
  rw [if_neg (fun z : (Value.ref t == Value.none) = true => Bool.false_ne_true z)]
  show wpAny _ _ (field (.ref it) 1 >>= _) _ _ _
  refine wpAny_bind (wpAny_field go gd (x := .int k 0) rfl ?_)
  show wpAny _ _ (seqItems? (.ref t) >>= _) _ _ _
  refine wpAny_bind (wpAny_seqItems gol gdl ?_)
  simp only [Int.toNat_natCast, gx]
  refine wpAny_bind (wpAny_setField go gd (by simp) (wpAny_pure ⟨x, rfl, wpAny_pure (q _ ?_ (Heap.SameBut.update ..))⟩))
  exact ⟨_, Heap.get?_update_self _ go (Obj.isFreed_of_fields (Obj.data_mapFields gd _)), (Obj.cls_mapFields ..).trans gc, by rw [Obj.data_mapFields gd]; simp [rawInt]⟩
theorem nextOf_tup_end {it t : Addr} {k : Nat} {its : Array Value} {Q : Value → Shared → Prop} (gh : A.handled = none) (g : s.heap.IsTupleIter it t k) (gt : s.heap.IsTuple t its) (gx : its[k]? = none)
    (q : ∀ h' e, Heap.ExtBut it s.heap h' → (∃ o, h'.get? e = some o ∧ o.cls = .type "StopIteration") → E (.ref e) { s with heap := h' }) : wpAny (model P w) A (Builtin.SmallTypes.nextOf (.ref it)) Q E s := by
  obtain ⟨o, go, gc, gd⟩ := id g
  obtain ⟨ol, gol, _, nl, gdl⟩ := gt
  unfold Builtin.SmallTypes.nextOf
  refine wpAny_bind (wpAny_callSpecial?_slot (name := Str.ofString "__next__") g.typeIs F.slot_tuple_iterator_next
    (wpAny_call_entry F.slot_tuple_iterator_next g.typeIs F.entry_tuple_iterator_next ?_ (F.args_tuple_iterator_next_1 _)))
  show wpAny _ _ (field (.ref it) 0 >>= _) _ _ _
  refine wpAny_bind (wpAny_field go gd (x := .ref t) rfl ?_)
  show wpAny _ _ (if (Value.ref t == Value.none) = true then _ else _) _ _ _
  rw [if_neg (fun z : (Value.ref t == Value.none) = true => Bool.false_ne_true z)]
  show wpAny _ _ (field (.ref it) 1 >>= _) _ _ _
  refine wpAny_bind (wpAny_field go gd (x := .int k 0) rfl ?_)
  show wpAny _ _ (seqItems? (.ref t) >>= _) _ _ _
  refine wpAny_bind (wpAny_seqItems gol gdl ?_)
  simp only [Int.toNat_natCast, gx]
  refine wpAny_bind (wpAny_rule (wpAny_bind (wpAny_setField go gd (by simp) ?_)))
  show wpAny _ _ (newExc (.type "StopIteration") [] >>= _) _ _ (_ : Shared)
  refine wpAny_bind ?_
  simp only [newExc, newTuple]
  refine wpAny_bind (wpAny_newObj_type ?_ (by size_fits))
  refine wpAny_bind (m := firstArgMember _ _) (wpAny_of_eq (a := Value.none) (by first | rfl | (unfold firstArgMember; rfl)) ?_)
  refine wpAny_newObj_type ?_ (by size_fits)
  simp only [raiseNew]
  refine wpAny_bind (wpAny_handled ?_)
  first | rw [gh] | rw [show A.in1.handled = none from gh]
  refine wpAny_bind (wpAny_pure (wpAny_throw ?_))
  exact q _ _ (((Heap.SameBut.update ..).extBut.push _).push _) ⟨_, Heap.get?_push_size _ rfl, rfl⟩
theorem stp_tup (gh : A.handled = none) (i l : Addr) (its : Array Value) : Stp P w A i l (fun k h => h.IsTupleIter i l k ∧ h.IsTuple l its) (fun k => its[k]?) where
  keep := fun k h h' st k1 k2 => ⟨st.1.at k1, by obtain ⟨o, e, r⟩ := st.2; exact ⟨o, k2 o e, r⟩⟩
  item := fun k s Q E x st e q => nextOf_tup st.1 st.2 e fun h' g sb => by
    by_cases hl : l = i
    · exfalso
      subst hl
      obtain ⟨o, e1, c1, _⟩ := st.1
      obtain ⟨o', e2, c2, _⟩ := st.2
      rw [e1] at e2; cases e2; rw [c1] at c2; simp at c2
    · obtain ⟨o, e2, r⟩ := st.2
      exact q h' ⟨g, o, (sb.2 l hl).trans e2, r⟩ sb
  stop := fun k s Q E st e q => nextOf_tup_end gh st.1 st.2 e q
  obj := fun k h st => by
    obtain ⟨o, e, _, d⟩ := st.1
    exact ⟨o, e, fun v z => by rw [d] at z; cases z⟩
theorem stp_lst (gh : A.handled = none) (i l : Addr) (its : Array Value) : Stp P w A i l (fun k h => h.IsListIter i l k ∧ h.IsList l its) (fun k => its[k]?) where
  keep := fun k h h' st k1 k2 => ⟨st.1.at k1, st.2.at k2⟩
  item := fun k s Q E x st e q => wpAny_nextOf_list_item st.1 st.2 e fun h' g sb => by
    by_cases hl : l = i
    · exfalso
      subst hl
      obtain ⟨o, e1, c1, _⟩ := st.1
      obtain ⟨o', e2, c2, _⟩ := st.2
      rw [e1] at e2; cases e2; rw [c1] at c2; simp at c2
    · exact q h' ⟨g, st.2.at fun o e2 => (sb.2 l hl).trans e2⟩ sb
  stop := fun k s Q E st e q => wpAny_nextOf_list_end gh st.1 st.2 e q
  obj := fun k h st => by
    obtain ⟨o, e, _, d⟩ := st.1
    exact ⟨o, e, fun v z => by rw [d] at z; cases z⟩
structure Apart (z ti to j1 j2 m1 m2 : Addr) : Prop where
  a1 : ti ≠ z
  a2 : to ≠ z
  a3 : j1 ≠ z
  a4 : j2 ≠ z
  a5 : ti ≠ to
  a6 : ti ≠ j1
  a7 : ti ≠ j2
  a8 : to ≠ j1
  a9 : to ≠ j2
  b0 : j1 ≠ j2
  b1 : m1 ≠ z
  b2 : m1 ≠ to
  b3 : m1 ≠ j1
  b4 : m1 ≠ j2
  b5 : m2 ≠ z
  b6 : m2 ≠ to
  b7 : m2 ≠ j1
  b8 : m2 ≠ j2
theorem zip_item {z ti to j1 j2 m1 m2 : Addr} {t1 t2 : Nat → Heap → Prop} {v1 v2 : Nat → Option Value} {k : Nat} {x y a b : Value} {Q : Value → Shared → Prop} (D : Apart z ti to j1 j2 m1 m2) (S1 : Stp P w A j1 m1 t1 v1) (S2 : Stp P w A j2 m2 t2 v2)
    (gz : IsZip s.heap z ti to .none) (gi : IsPair s.heap ti (.ref j1) (.ref j2)) (go : IsPair s.heap to a b) (h1 : t1 k s.heap) (h2 : t2 k s.heap) (hx : v1 k = some x) (hy : v2 k = some y)
    (q : ∀ h', IsZip h' z ti to (rawInt s.heap.objs.size) → IsPair h' to x y → t1 (k + 1) h' → t2 (k + 1) h' → IsPair h' s.heap.objs.size x y → h'.objs.size = s.heap.objs.size + 1 →
      (∀ c o, c ≠ z → c ≠ to → c ≠ j1 → c ≠ j2 → s.heap.get? c = some o → h'.get? c = some o) → Q (.ref s.heap.objs.size) { s with heap := h' }) :
    wpAny (model P w) A (Builtin.«zip.__next__» ⟨[.ref z], []⟩) (fun fin s' => ∃ v, fin = .done (.ret v) ∧ Q v s') E s := by
  show wpAny _ _ (field (.ref z) 2 >>= _) _ _ (_ : Shared)
  refine wpAny_bind (wpAny_field gz rfl (x := .bool false) rfl ?_)
  show wpAny _ _ (field (.ref z) 3 >>= _) _ _ (_ : Shared)
  refine wpAny_bind (wpAny_field gz rfl (x := .ref ti) rfl ?_)
  refine wpAny_bind (wpAny_seqItems gi rfl ?_)
  show wpAny _ _ (Builtin.SmallTypes.ownedTupleIsFree (.ref z) >>= _) _ _ (_ : Shared)
  refine wpAny_bind ?_
  unfold Builtin.SmallTypes.ownedTupleIsFree
  refine wpAny_bind (wpAny_field gz rfl (x := .none) rfl (wpAny_pure ?_))
  simp only [if_true]
  refine wpAny_bind (wpAny_rule ?_)
  refine wpAny_bind (wpAny_field gz rfl (x := .ref to) rfl ?_)
  refine wpAny_bind (wpAny_setField_rec gz (by simp) fun p1 z1 s1 => ?_)
  replace z1 : IsZip p1 z ti to .ellipsis := z1
  refine wpAny_bind ?_
  simp only [List.zipIdx_cons, List.zipIdx_nil, List.forIn_cons, List.forIn_nil]
  refine wpAny_bind (wpAny_bind (wpAny_onRaise ?_))
  show wpAny _ _ (Builtin.SmallTypes.nextOf (.ref j1) >>= _) _ _ (_ : Shared)
  refine wpAny_bind (S1.item k _ _ _ x (S1.keep k _ _ h1 (fun o e => s1.extBut _ _ D.a3 e) (fun o e => s1.extBut _ _ D.b1 e)) hx fun p2 h12 s2 => wpAny_pure ?_)
  have o2 : IsPair p2 to a b := s2.extBut _ _ D.a8 (s1.extBut _ _ D.a2 go)
  refine wpAny_bind (wpAny_seqItems o2 rfl ?_)
  refine wpAny_bind (wpAny_updateSeq_pair o2 fun p3 o3 s3 => ?_)
  replace o3 : IsPair p3 to x b := o3
  refine wpAny_bind (wpAny_letGo (wpAny_pure ?_))
  refine wpAny_bind (wpAny_bind (wpAny_onRaise ?_))
  show wpAny _ _ (Builtin.SmallTypes.nextOf (.ref j2) >>= _) _ _ (_ : Shared)
  refine wpAny_bind (S2.item k _ _ _ y (S2.keep k _ _ h2 (fun o e => s3.extBut _ _ D.a9.symm (s2.extBut _ _ D.b0.symm (s1.extBut _ _ D.a4 e))) (fun o e => s3.extBut _ _ D.b6 (s2.extBut _ _ D.b7 (s1.extBut _ _ D.b5 e)))) hy fun p4 h24 s4 => wpAny_pure ?_)
  have o4 : IsPair p4 to x b := s4.extBut _ _ D.a9 o3
  refine wpAny_bind (wpAny_seqItems o4 rfl ?_)
  refine wpAny_bind (wpAny_updateSeq_pair o4 fun p5 o5 s5 => ?_)
  replace o5 : IsPair p5 to x y := o5
  refine wpAny_bind (wpAny_letGo (wpAny_pure (wpAny_pure ?_)))
  refine wpAny_bind (wpAny_seqItems o5 rfl ?_)
  refine wpAny_bind (wpAny_newTuple ?_)
  have gs : p5.objs.size = s.heap.objs.size := by rw [s5.1, s4.1, s3.1, s2.1, s1.1]
  have z5 : IsZip p5 z ti to .ellipsis := s5.extBut _ _ D.a2.symm (s4.extBut _ _ D.a4.symm (s3.extBut _ _ D.a2.symm (s2.extBut _ _ D.a3.symm z1)))
  have k5 : ∀ c o, c ≠ z → c ≠ to → c ≠ j1 → c ≠ j2 → s.heap.get? c = some o → p5.get? c = some o := fun c o c1 c2 c3 c4 e => s5.extBut _ _ c2 (s4.extBut _ _ c4 (s3.extBut _ _ c2 (s2.extBut _ _ c3 (s1.extBut _ _ c1 e))))
  have h15 : t1 (k + 1) p5 := S1.keep _ _ _ h12 (fun o e => s5.extBut _ _ D.a8.symm (s4.extBut _ _ D.b0 (s3.extBut _ _ D.a8.symm e))) (fun o e => s5.extBut _ _ D.b2 (s4.extBut _ _ D.b4 (s3.extBut _ _ D.b2 e)))
  have h25 : t2 (k + 1) p5 := S2.keep _ _ _ h24 (fun o e => s5.extBut _ _ D.a9.symm e) (fun o e => s5.extBut _ _ D.b6 e)
  have lz : z < p5.objs.size := Heap.lt_size z5
  show wpAny _ _ (Builtin.SmallTypes.ownedTupleHandOut (.ref z) (.ref p5.objs.size) >>= _) _ _ (_ : Shared)
  refine wpAny_bind ?_
  unfold Builtin.SmallTypes.ownedTupleHandOut
  have z6 : IsZip (p5.push { cls := .type "tuple", data := .seq #[x, y] }) z ti to .ellipsis := Heap.get?_push_of_some _ z5
  refine wpAny_bind (wpAny_setField_rec z6 (by simp) fun p7 z7 s7 => ?_)
  replace z7 : IsZip p7 z ti to (rawInt p5.objs.size) := z7
  refine wpAny_setField_rec z7 (by simp) fun p8 z8 s8 => ?_
  replace z8 : IsZip p8 z ti to (rawInt p5.objs.size) := z8
  have up : ∀ c o, c ≠ z → p5.get? c = some o → p8.get? c = some o := fun c o c1 e => s8.extBut _ _ c1 (s7.extBut _ _ c1 (Heap.get?_push_of_some _ e))
  have w8 : IsPair p8 p5.objs.size x y := s8.extBut _ _ (Nat.ne_of_gt lz) (s7.extBut _ _ (Nat.ne_of_gt lz) (Heap.get?_push_size _ rfl))
  have n8 : p8.objs.size = p5.objs.size + 1 := by rw [s8.1, s7.1, Heap.size_push]
  rw [gs] at z8 w8 n8
  refine wpAny_pure ⟨_, rfl, ?_⟩
  show Q (.ref p5.objs.size) _
  rw [gs]
  exact q p8 z8 (up _ _ D.a2 o5) (S1.keep _ _ _ h15 (fun o e => up _ o D.a3 e) (fun o e => up _ o D.b1 e)) (S2.keep _ _ _ h25 (fun o e => up _ o D.a4 e) (fun o e => up _ o D.b5 e)) w8 n8 fun c o c1 c2 c3 c4 e => up c o c1 (k5 c o c1 c2 c3 c4 e)
theorem zip_end {z ti to j1 j2 m1 m2 : Addr} {t1 t2 : Nat → Heap → Prop} {v1 v2 : Nat → Option Value} {k : Nat} {a b : Value} {Q : Fin → Shared → Prop} (D : Apart z ti to j1 j2 m1 m2) (S1 : Stp P w A j1 m1 t1 v1) (S2 : Stp P w A j2 m2 t2 v2)
    (gz : IsZip s.heap z ti to .none) (gi : IsPair s.heap ti (.ref j1) (.ref j2)) (go : IsPair s.heap to a b) (h1 : t1 k s.heap) (h2 : t2 k s.heap) (hend : v1 k = none ∨ v2 k = none)
    (q : ∀ h' e, (∀ c o, c ≠ z → c ≠ to → c ≠ j1 → c ≠ j2 → s.heap.get? c = some o → h'.get? c = some o) → (∃ o, h'.get? e = some o ∧ o.cls = .type "StopIteration") → E (.ref e) { s with heap := h' }) :
    wpAny (model P w) A (Builtin.«zip.__next__» ⟨[.ref z], []⟩) Q E s := by
  show wpAny _ _ (field (.ref z) 2 >>= _) _ _ (_ : Shared)
  refine wpAny_bind (wpAny_field gz rfl (x := .bool false) rfl ?_)
  show wpAny _ _ (field (.ref z) 3 >>= _) _ _ (_ : Shared)
  refine wpAny_bind (wpAny_field gz rfl (x := .ref ti) rfl ?_)
  refine wpAny_bind (wpAny_seqItems gi rfl ?_)
  show wpAny _ _ (Builtin.SmallTypes.ownedTupleIsFree (.ref z) >>= _) _ _ (_ : Shared)
  refine wpAny_bind ?_
  unfold Builtin.SmallTypes.ownedTupleIsFree
  refine wpAny_bind (wpAny_field gz rfl (x := .none) rfl (wpAny_pure ?_))
  simp only [if_true]
  refine wpAny_bind (wpAny_rule ?_)
  refine wpAny_bind (wpAny_field gz rfl (x := .ref to) rfl ?_)
  refine wpAny_bind (wpAny_setField_rec gz (by simp) fun p1 z1 s1 => ?_)
  replace z1 : IsZip p1 z ti to .ellipsis := z1
  refine wpAny_bind ?_
  simp only [List.zipIdx_cons, List.zipIdx_nil, List.forIn_cons, List.forIn_nil]
  refine wpAny_bind (wpAny_bind (wpAny_onRaise ?_))
  show wpAny _ _ (Builtin.SmallTypes.nextOf (.ref j1) >>= _) _ _ (_ : Shared)
  have h11 : t1 k p1 := S1.keep k _ _ h1 (fun o e => s1.extBut _ _ D.a3 e) (fun o e => s1.extBut _ _ D.b1 e)
  cases hx : v1 k with
  | none =>
    refine wpAny_bind (S1.stop k _ _ _ h11 hx fun p2 e s2 he => ?_)
    obtain ⟨oe, g1, g2⟩ := he
    have z2 : IsZip p2 z ti to .ellipsis := s2 _ _ D.a3.symm z1
    have ne : e ≠ z := fun u => by subst u; rw [z2] at g1; cases g1; simp at g2
    refine wpAny_setField_rec z2 (by simp) fun p3 _ s3 => q p3 e (fun c o c1 _ c3 _ u => s3.extBut _ _ c1 (s2 _ _ c3 (s1.extBut _ _ c1 u))) ⟨oe, s3.extBut _ _ ne g1, g2⟩
  | some x =>
    have hy : v2 k = none := by
      rcases hend with h | h
      · rw [hx] at h; cases h
      · exact h
    refine wpAny_bind (S1.item k _ _ _ x h11 hx fun p2 h12 s2 => wpAny_pure ?_)
    have o2 : IsPair p2 to a b := s2.extBut _ _ D.a8 (s1.extBut _ _ D.a2 go)
    refine wpAny_bind (wpAny_seqItems o2 rfl ?_)
    refine wpAny_bind (wpAny_updateSeq_pair o2 fun p3 o3 s3 => ?_)
    refine wpAny_bind (wpAny_letGo (wpAny_pure ?_))
    refine wpAny_bind (wpAny_bind (wpAny_onRaise ?_))
    show wpAny _ _ (Builtin.SmallTypes.nextOf (.ref j2) >>= _) _ _ (_ : Shared)
    refine wpAny_bind (S2.stop k _ _ _ (S2.keep k _ _ h2 (fun o e => s3.extBut _ _ D.a9.symm (s2.extBut _ _ D.b0.symm (s1.extBut _ _ D.a4 e))) (fun o e => s3.extBut _ _ D.b6 (s2.extBut _ _ D.b7 (s1.extBut _ _ D.b5 e)))) hy fun p4 e s4 he => ?_)
    obtain ⟨oe, g1, g2⟩ := he
    have z4 : IsZip p4 z ti to .ellipsis := s4 _ _ D.a4.symm (s3.extBut _ _ D.a2.symm (s2.extBut _ _ D.a3.symm z1))
    have ne : e ≠ z := fun u => by subst u; rw [z4] at g1; cases g1; simp at g2
    refine wpAny_setField_rec z4 (by simp) fun p5 _ s5 => q p5 e (fun c o c1 c2 c3 c4 u => s5.extBut _ _ c1 (s4 _ _ c4 (s3.extBut _ _ c2 (s2.extBut _ _ c3 (s1.extBut _ _ c1 u))))) ⟨oe, s5.extBut _ _ ne g1, g2⟩
theorem next_item {z ti to j1 j2 m1 m2 : Addr} {t1 t2 : Nat → Heap → Prop} {v1 v2 : Nat → Option Value} {k : Nat} {x y a b : Value} {Q : Option Value → Shared → Prop} (D : Apart z ti to j1 j2 m1 m2) (S1 : Stp P w A.in1 j1 m1 t1 v1) (S2 : Stp P w A.in1 j2 m2 t2 v2)
    (gz : IsZip s.heap z ti to .none) (gi : IsPair s.heap ti (.ref j1) (.ref j2)) (go : IsPair s.heap to a b) (h1 : t1 k s.heap) (h2 : t2 k s.heap) (hx : v1 k = some x) (hy : v2 k = some y)
    (q : ∀ h', IsZip h' z ti to (rawInt s.heap.objs.size) → IsPair h' to x y → t1 (k + 1) h' → t2 (k + 1) h' → IsPair h' s.heap.objs.size x y → h'.objs.size = s.heap.objs.size + 1 →
      (∀ c o, c ≠ z → c ≠ to → c ≠ j1 → c ≠ j2 → s.heap.get? c = some o → h'.get? c = some o) → Q (some (.ref s.heap.objs.size)) { s with heap := h' }) : wpAny (model P w) A (pyNext (.ref z)) Q E s := by
  have hT : s.TypeIs (.ref z) "zip" := ⟨_, gz, rfl⟩
  unfold pyNext
  exact wpAny_bind (wpAny_attempt (wpAny_callSpecial?_slot (name := Str.ofString "__next__") hT F.slot_zip_next
    (wpAny_call_entry F.slot_zip_next hT F.entry_zip_next (zip_item D S1 S2 gz gi go h1 h2 hx hy fun h' a1 a2 a3 a4 a5 a6 a7 => wpAny_pure (q h' a1 a2 a3 a4 a5 a6 a7)) (F.args_zip_next_1 _))))
theorem next_end {z ti to j1 j2 m1 m2 : Addr} {t1 t2 : Nat → Heap → Prop} {v1 v2 : Nat → Option Value} {k : Nat} {a b : Value} {Q : Option Value → Shared → Prop} (D : Apart z ti to j1 j2 m1 m2) (S1 : Stp P w A.in1 j1 m1 t1 v1) (S2 : Stp P w A.in1 j2 m2 t2 v2)
    (gz : IsZip s.heap z ti to .none) (gi : IsPair s.heap ti (.ref j1) (.ref j2)) (go : IsPair s.heap to a b) (h1 : t1 k s.heap) (h2 : t2 k s.heap) (hend : v1 k = none ∨ v2 k = none)
    (q : ∀ h', (∀ c o, c ≠ z → c ≠ to → c ≠ j1 → c ≠ j2 → s.heap.get? c = some o → h'.get? c = some o) → Q none { s with heap := h' }) : wpAny (model P w) A (pyNext (.ref z)) Q E s := by
  have hT : s.TypeIs (.ref z) "zip" := ⟨_, gz, rfl⟩
  unfold pyNext
  refine wpAny_bind (wpAny_attempt (wpAny_callSpecial?_slot (name := Str.ofString "__next__") hT F.slot_zip_next
    (wpAny_call_entry F.slot_zip_next hT F.entry_zip_next (zip_end D S1 S2 gz gi go h1 h2 hend fun h' e hk he => ?_) (F.args_zip_next_1 _))))
  obtain ⟨o, ho, hc⟩ := he
  exact wpAny_bind (wpAny_isInstance (T := "StopIteration") (b := true) ⟨o, ho, hc⟩ isSubtype_stop (wpAny_pure (q _ hk)))
end
end HZ

set_option Elab.async false
set_option linter.all false
set_option maxRecDepth 100000
set_option maxHeartbeats 4000000
namespace L2
open PySem PySem.Spec PyProof.Rows
theorem sqT_ne {X : Cx} {pins : List (Addr × Obj)} {σ : St} {H : Hp} {s : Shared} {a b : Addr} {xs : List V} (I : Inv X pins σ H s) (h : SqT X.K H a xs) (f : FpOk X pins H b) : a ≠ b := by
  rintro rfl
  obtain ⟨f0, _, _, f3, _⟩ := f
  rcases h with (h | ⟨o, h⟩) | ⟨o, its, n, hk, _⟩
  · rw [f0] at h; cases h
  · rw [f0] at h; cases h
  · have hb := I.mod.kin a o hk
    rcases f3 with z | z
    · exact I.ok.noex a o hb z
    · exact absurd (Nat.lt_of_lt_of_le (Heap.lt_size hb) (Nat.le_trans I.ok.bsz z)) (Nat.lt_irrefl _)
theorem sqL_ne {X : Cx} {pins : List (Addr × Obj)} {σ : St} {H : Hp} {s : Shared} {a b : Addr} {xs : List V} (I : Inv X pins σ H s) (h : SqL X.K H a xs) (f : FpOk X pins H b) : a ≠ b := by
  rintro rfl
  obtain ⟨f0, _, _, f3, _⟩ := f
  rcases h with (h | ⟨o, h⟩) | ⟨o, its, n, hk, _⟩
  · rw [f0] at h; cases h
  · rw [f0] at h; cases h
  · have hb := I.mod.kin a o hk
    rcases f3 with z | z
    · exact I.ok.noex a o hb z
    · exact absurd (Nat.lt_of_lt_of_le (Heap.lt_size hb) (Nat.le_trans I.ok.bsz z)) (Nat.lt_irrefl _)
theorem Inv.turnedAll {X : Cx} {pins : List (Addr × Obj)} {σ : St} {H : Hp} {s : Shared} {h' : Heap} {t' : Nat} {ch : List Addr} (I : Inv X pins σ H s) (k : ∀ b o, b ∉ ch → s.heap.get? b = some o → h'.get? b = some o) (hf : ∀ b ∈ ch, FpOk X pins H b) :
    Inv X pins σ H { s with heap := h', toks := t' } := by
  have nin : ∀ b u, H b = some u → b ∉ ch := fun b u e z => by rw [(hf b z).1] at e; cases e
  refine I.step (g' := s.gens) (d' := s.drawn) (ch := ch) (fun b hb => ?_) (fun b o _ _ hc e _ => k b o hc e) (fun b o _ _ hc e _ => ⟨o.slots, k b o hc e⟩) (fun _ _ _ _ n => n) (fun b o hc e => ⟨o, k b o hc e⟩) (fun _ _ e => e) (fun _ _ _ e => e)
    (fun b ps e => ⟨#[], by rw [e]; simp⟩) (fun m hm => ?_) (fun b u e => ?_) I.bare
  · obtain ⟨_, f1, _, f3, f4, f5⟩ := hf b hb
    exact ⟨f3, f1, f4, f5⟩
  · obtain ⟨o, es, ep, ho, r⟩ := hm
    exact ⟨o, es, ep, k _ o (fun z => (hf _ z).2.1 rfl) ho, r⟩
  · refine (I.hok b u e).stay (fun c v hc q => k c v ?_ q) (fun _ q => q) fun _ _ q => q
    rcases hc with z | z
    · rw [z]; exact nin b u e
    · exact nin c _ z
theorem Inv.turnedLay {X : Cx} {pins : List (Addr × Obj)} {σ : St} {H : Hp} {s : Shared} {h' : Heap} {t' : Nat} {ch : List Addr} {p : Addr} {u : HO} (I : Inv X pins σ H s) (k : ∀ b o, b ∉ ch → s.heap.get? b = some o → h'.get? b = some o) (hf : ∀ b ∈ ch, FpOk X pins H b)
    (hp : s.heap.objs.size ≤ p) (new : ObjOk X.prog X.w (upd H p u) h' p u) : Inv X pins σ (upd H p u) { s with heap := h', toks := t' } := by
  have hn : H p = none := I.hok.fresh hp
  have hok : HOk X.prog X.w (upd H p u) h' := (I.turnedAll (t' := t') k hf).hok.adopt hn new
  refine I.step (g' := s.gens) (d' := s.drawn) (ch := ch) (fun b hb => ?_) (fun b o _ _ hc e _ => k b o hc e) (fun b o _ _ hc e _ => ⟨o.slots, k b o hc e⟩) (fun b o _ e n => ?_) (fun b o hc e => ⟨o, k b o hc e⟩) (fun c xs e => by rw [upd_ne (ne_of_none e hn)]; exact e) (fun c o v e => by rw [upd_ne (ne_of_none e hn)]; exact e)
    (fun c ps e => ⟨#[], by rw [upd_ne (ne_of_none e hn), e]; simp⟩) (fun m hm => ?_) hok I.bare
  · obtain ⟨_, f1, _, f3, f4, f5⟩ := hf b hb
    exact ⟨f3, f1, f4, f5⟩
  · rw [upd_ne (Nat.ne_of_lt (Nat.lt_of_lt_of_le (Heap.lt_size e) hp))]
    exact n
  · obtain ⟨o, es, ep, ho, r⟩ := hm
    exact ⟨o, es, ep, k _ o (fun z => (hf _ z).2.1 rfl) ho, r⟩
def ItzT (K : PySem.W.Frag) (a b : Addr) : It :=
  ⟨fun i H => ∃ xs ys x y, SqT K H a xs ∧ SqT K H b ys ∧ xs[i]? = some x ∧ ys[i]? = some y, fun i H v H' => ∃ p x y, H p = none ∧ v = .ref p ∧ H' = upd H p (.tup [x, y]) ∧ ∀ xs ys, SqT K H a xs → SqT K H b ys → xs[i]? = some x ∧ ys[i]? = some y,
    fun i H => ∃ xs ys, SqT K H a xs ∧ SqT K H b ys ∧ (xs.length ≤ i ∨ ys.length ≤ i)⟩
def ItzL (K : PySem.W.Frag) (a b : Addr) : It :=
  ⟨fun i H => ∃ xs ys x y, SqL K H a xs ∧ SqL K H b ys ∧ xs[i]? = some x ∧ ys[i]? = some y, fun i H v H' => ∃ p x y, H p = none ∧ v = .ref p ∧ H' = upd H p (.tup [x, y]) ∧ ∀ xs ys, SqL K H a xs → SqL K H b ys → xs[i]? = some x ∧ ys[i]? = some y,
    fun i H => ∃ xs ys, SqL K H a xs ∧ SqL K H b ys ∧ (xs.length ≤ i ∨ ys.length ≤ i)⟩
structure ZipSt (it : Nat → Heap → Prop) (it2 : Nat → Heap → Prop) (z ti to j1 j2 : Addr) (i : Nat) (h : Heap) : Prop where
  z : IsZip h z ti to .none
  ti : IsPair h ti (.ref j1) (.ref j2)
  to : ∃ u v, IsPair h to u v
  h1 : it i h
  h2 : it2 i h
structure Five (z ti to j1 j2 : Addr) : Prop where
  a1 : ti ≠ z
  a2 : to ≠ z
  a3 : j1 ≠ z
  a4 : j2 ≠ z
  a5 : ti ≠ to
  a6 : ti ≠ j1
  a7 : ti ≠ j2
  a8 : to ≠ j1
  a9 : to ≠ j2
  b0 : j1 ≠ j2
theorem turn_zipT {P : Program} {w : World} {K : PySem.W.Frag} {elts : List Expr} {kk : Nat} {pos : Pos} (a b z ti to j1 j2 : Addr) (F : Five z ti to j1 j2) :
    Turn P w K (.Tuple elts kk pos) (ItzT K a b) [z, ti, to, j1, j2] z (ZipSt (fun i h => h.IsTupleIter j1 a i) (fun i h => h.IsTupleIter j2 b i) z ti to j1 j2) where
  mem := by simp
  obj := fun i h st c hc => by
    have hc' : c = z ∨ c = ti ∨ c = to ∨ c = j1 ∨ c = j2 := by simpa using hc
    rcases hc' with rfl | rfl | rfl | rfl | rfl
    · exact ⟨_, st.z, fun v q => nomatch q⟩
    · exact ⟨_, st.ti, fun v q => nomatch q⟩
    · obtain ⟨u, v, q⟩ := st.to; exact ⟨_, q, fun v q => nomatch q⟩
    · obtain ⟨o, e, _, d⟩ := st.h1; exact ⟨o, e, fun v q => by rw [d] at q; cases q⟩
    · obtain ⟨o, e, _, d⟩ := st.h2; exact ⟨o, e, fun v q => by rw [d] at q; cases q⟩
  keep := fun i h h' st k => ⟨k z (by simp) _ st.z, k ti (by simp) _ st.ti, by obtain ⟨u, v, q⟩ := st.to; exact ⟨u, v, k to (by simp) _ q⟩, st.h1.at fun o e => k j1 (by simp) o e, st.h2.at fun o e => k j2 (by simp) o e⟩
  item := by
    intro X hP hw hK hc i pins s σ H E I hf st hg
    subst hP hw hK
    obtain ⟨xs, ys, x, y, hx, hy, ex, ey⟩ := hg
    obtain ⟨i1, r1, p1, z1⟩ := I.tuple hx
    obtain ⟨i2, r2, p2, z2⟩ := I.tuple hy
    obtain ⟨u, eu, ru⟩ := r1.get ex
    obtain ⟨v, ev, rv⟩ := r2.get ey
    have ne : ∀ c ∈ [z, ti, to, j1, j2], a ≠ c ∧ b ≠ c := fun c hcm => ⟨sqT_ne I hx (hf c hcm), sqT_ne I hy (hf c hcm)⟩
    have D : HZ.Apart z ti to j1 j2 a b := ⟨F.a1, F.a2, F.a3, F.a4, F.a5, F.a6, F.a7, F.a8, F.a9, F.b0, (ne z (by simp)).1, (ne to (by simp)).1, (ne j1 (by simp)).1, (ne j2 (by simp)).1, (ne z (by simp)).2, (ne to (by simp)).2, (ne j1 (by simp)).2, (ne j2 (by simp)).2⟩
    obtain ⟨w1, w2, hto⟩ := st.to
    have hh : X.A.in1.handled = none := I.ok.hd hc
    refine HZ.next_item D (HZ.stp_tup hh j1 a i1.toArray) (HZ.stp_tup hh j2 b i2.toArray) st.z st.ti hto ⟨st.h1, p1⟩ ⟨st.h2, p2⟩ (by simpa using eu) (by simpa using ev) fun h' c1 c2 c3 c4 c5 c6 c7 => ⟨_, rfl, ?_⟩
    refine wpAny_letOwnedTupleGo_zip c1 fun h2 d1 d2 => ?_
    have hn : H s.heap.objs.size = none := I.hok.fresh (Nat.le_refl _)
    have zlt : z < s.heap.objs.size := Heap.lt_size st.z
    have newT : IsTup h2 s.heap.objs.size #[u, v] := ⟨_, d2.extBut _ _ (Nat.ne_of_gt zlt) c5, rfl, _, rfl⟩
    have I2 : Inv X pins σ (upd H s.heap.objs.size (.tup [x, y])) { s with heap := h2, toks := s.toks } := I.turnedLay (ch := [z, ti, to, j1, j2]) (fun c o hcn e => by
      have q : c ≠ z ∧ c ≠ ti ∧ c ≠ to ∧ c ≠ j1 ∧ c ≠ j2 := by simpa using hcn
      exact d2.extBut c o q.1 (c7 c o q.1 q.2.2.1 q.2.2.2.1 q.2.2.2.2 e)) hf (Nat.le_refl _) ⟨by show 2 ≤ sizeLine; decide, [u, v], .cons ru (.cons rv .nil), newT⟩
    refine ⟨.ref s.heap.objs.size, _, I2, rfl, ⟨_, x, y, hn, rfl, rfl, fun xs' ys' q1 q2 => ?_⟩, ?_, fun c hcm => ?_⟩
    · rw [I.tuple_inj q1 hx, I.tuple_inj q2 hy]; exact ⟨ex, ey⟩
    · refine ⟨d1, d2.extBut _ _ F.a1 (c7 _ _ F.a1 F.a5 F.a6 F.a7 st.ti), ⟨_, _, d2.extBut _ _ F.a2 c2⟩, c3.1.extBut d2.extBut F.a3, c4.1.extBut d2.extBut F.a4⟩
    · rw [upd_ne]
      · exact (hf c hcm).1
      · intro e
        obtain ⟨o, eo⟩ : ∃ o, s.heap.get? c = some o := by
          have hc' : c = z ∨ c = ti ∨ c = to ∨ c = j1 ∨ c = j2 := by simpa using hcm
          rcases hc' with q | q | q | q | q
          · rw [q]; exact ⟨_, st.z⟩
          · rw [q]; exact ⟨_, st.ti⟩
          · rw [q]; exact ⟨_, hto⟩
          · rw [q]; obtain ⟨o, e, _⟩ := st.h1; exact ⟨o, e⟩
          · rw [q]; obtain ⟨o, e, _⟩ := st.h2; exact ⟨o, e⟩
        exact absurd (Heap.lt_size eo) (by rw [e]; exact Nat.lt_irrefl _)
  done := by
    intro X hP hw hK hc i pins s σ H E I hf st hg
    subst hP hw hK
    obtain ⟨xs, ys, hx, hy, hle⟩ := hg
    obtain ⟨i1, r1, p1, z1⟩ := I.tuple hx
    obtain ⟨i2, r2, p2, z2⟩ := I.tuple hy
    have ne : ∀ c ∈ [z, ti, to, j1, j2], a ≠ c ∧ b ≠ c := fun c hcm => ⟨sqT_ne I hx (hf c hcm), sqT_ne I hy (hf c hcm)⟩
    have D : HZ.Apart z ti to j1 j2 a b := ⟨F.a1, F.a2, F.a3, F.a4, F.a5, F.a6, F.a7, F.a8, F.a9, F.b0, (ne z (by simp)).1, (ne to (by simp)).1, (ne j1 (by simp)).1, (ne j2 (by simp)).1, (ne z (by simp)).2, (ne to (by simp)).2, (ne j1 (by simp)).2, (ne j2 (by simp)).2⟩
    obtain ⟨w1, w2, hto⟩ := st.to
    have hh : X.A.in1.handled = none := I.ok.hd hc
    have l1 := r1.length
    have l2 := r2.length
    refine HZ.next_end D (HZ.stp_tup hh j1 a i1.toArray) (HZ.stp_tup hh j2 b i2.toArray) st.z st.ti hto ⟨st.h1, p1⟩ ⟨st.h2, p2⟩ ?_ fun h' c7 => ⟨rfl, I.turnedAll (t' := s.toks) (ch := [z, ti, to, j1, j2]) (fun c o hcn e => by
      have q : c ≠ z ∧ c ≠ ti ∧ c ≠ to ∧ c ≠ j1 ∧ c ≠ j2 := by simpa using hcn
      exact c7 c o q.1 q.2.2.1 q.2.2.2.1 q.2.2.2.2 e) hf⟩
    rcases hle with q | q
    · left; simp; omega
    · right; simp; omega
  self := fun A i s Q E st h => wpAny_pyIter_zip st.z h
theorem turn_zipL {P : Program} {w : World} {K : PySem.W.Frag} {elts : List Expr} {kk : Nat} {pos : Pos} (a b z ti to j1 j2 : Addr) (F : Five z ti to j1 j2) :
    Turn P w K (.Tuple elts kk pos) (ItzL K a b) [z, ti, to, j1, j2] z (ZipSt (fun i h => h.IsListIter j1 a i) (fun i h => h.IsListIter j2 b i) z ti to j1 j2) where
  mem := by simp
  obj := fun i h st c hc => by
    have hc' : c = z ∨ c = ti ∨ c = to ∨ c = j1 ∨ c = j2 := by simpa using hc
    rcases hc' with rfl | rfl | rfl | rfl | rfl
    · exact ⟨_, st.z, fun v q => nomatch q⟩
    · exact ⟨_, st.ti, fun v q => nomatch q⟩
    · obtain ⟨u, v, q⟩ := st.to; exact ⟨_, q, fun v q => nomatch q⟩
    · obtain ⟨o, e, _, d⟩ := st.h1; exact ⟨o, e, fun v q => by rw [d] at q; cases q⟩
    · obtain ⟨o, e, _, d⟩ := st.h2; exact ⟨o, e, fun v q => by rw [d] at q; cases q⟩
  keep := fun i h h' st k => ⟨k z (by simp) _ st.z, k ti (by simp) _ st.ti, by obtain ⟨u, v, q⟩ := st.to; exact ⟨u, v, k to (by simp) _ q⟩, st.h1.at fun o e => k j1 (by simp) o e, st.h2.at fun o e => k j2 (by simp) o e⟩
  item := by
    intro X hP hw hK hc i pins s σ H E I hf st hg
    subst hP hw hK
    obtain ⟨xs, ys, x, y, hx, hy, ex, ey⟩ := hg
    obtain ⟨i1, r1, p1, z1⟩ := I.list hx
    obtain ⟨i2, r2, p2, z2⟩ := I.list hy
    obtain ⟨u, eu, ru⟩ := r1.get ex
    obtain ⟨v, ev, rv⟩ := r2.get ey
    have ne : ∀ c ∈ [z, ti, to, j1, j2], a ≠ c ∧ b ≠ c := fun c hcm => ⟨sqL_ne I hx (hf c hcm), sqL_ne I hy (hf c hcm)⟩
    have D : HZ.Apart z ti to j1 j2 a b := ⟨F.a1, F.a2, F.a3, F.a4, F.a5, F.a6, F.a7, F.a8, F.a9, F.b0, (ne z (by simp)).1, (ne to (by simp)).1, (ne j1 (by simp)).1, (ne j2 (by simp)).1, (ne z (by simp)).2, (ne to (by simp)).2, (ne j1 (by simp)).2, (ne j2 (by simp)).2⟩
    obtain ⟨w1, w2, hto⟩ := st.to
    have hh : X.A.in1.handled = none := I.ok.hd hc
    refine HZ.next_item D (HZ.stp_lst hh j1 a i1.toArray) (HZ.stp_lst hh j2 b i2.toArray) st.z st.ti hto ⟨st.h1, p1.isList⟩ ⟨st.h2, p2.isList⟩ (by simpa using eu) (by simpa using ev) fun h' c1 c2 c3 c4 c5 c6 c7 => ⟨_, rfl, ?_⟩
    refine wpAny_letOwnedTupleGo_zip c1 fun h2 d1 d2 => ?_
    have hn : H s.heap.objs.size = none := I.hok.fresh (Nat.le_refl _)
    have zlt : z < s.heap.objs.size := Heap.lt_size st.z
    have newT : IsTup h2 s.heap.objs.size #[u, v] := ⟨_, d2.extBut _ _ (Nat.ne_of_gt zlt) c5, rfl, _, rfl⟩
    have I2 : Inv X pins σ (upd H s.heap.objs.size (.tup [x, y])) { s with heap := h2, toks := s.toks } := I.turnedLay (ch := [z, ti, to, j1, j2]) (fun c o hcn e => by
      have q : c ≠ z ∧ c ≠ ti ∧ c ≠ to ∧ c ≠ j1 ∧ c ≠ j2 := by simpa using hcn
      exact d2.extBut c o q.1 (c7 c o q.1 q.2.2.1 q.2.2.2.1 q.2.2.2.2 e)) hf (Nat.le_refl _) ⟨by show 2 ≤ sizeLine; decide, [u, v], .cons ru (.cons rv .nil), newT⟩
    refine ⟨.ref s.heap.objs.size, _, I2, rfl, ⟨_, x, y, hn, rfl, rfl, fun xs' ys' q1 q2 => ?_⟩, ?_, fun c hcm => ?_⟩
    · rw [I.list_inj q1 hx, I.list_inj q2 hy]; exact ⟨ex, ey⟩
    · refine ⟨d1, d2.extBut _ _ F.a1 (c7 _ _ F.a1 F.a5 F.a6 F.a7 st.ti), ⟨_, _, d2.extBut _ _ F.a2 c2⟩, c3.1.extBut d2.extBut F.a3, c4.1.extBut d2.extBut F.a4⟩
    · rw [upd_ne]
      · exact (hf c hcm).1
      · intro e
        obtain ⟨o, eo⟩ : ∃ o, s.heap.get? c = some o := by
          have hc' : c = z ∨ c = ti ∨ c = to ∨ c = j1 ∨ c = j2 := by simpa using hcm
          rcases hc' with q | q | q | q | q
          · rw [q]; exact ⟨_, st.z⟩
          · rw [q]; exact ⟨_, st.ti⟩
          · rw [q]; exact ⟨_, hto⟩
          · rw [q]; obtain ⟨o, e, _⟩ := st.h1; exact ⟨o, e⟩
          · rw [q]; obtain ⟨o, e, _⟩ := st.h2; exact ⟨o, e⟩
        exact absurd (Heap.lt_size eo) (by rw [e]; exact Nat.lt_irrefl _)
  done := by
    intro X hP hw hK hc i pins s σ H E I hf st hg
    subst hP hw hK
    obtain ⟨xs, ys, hx, hy, hle⟩ := hg
    obtain ⟨i1, r1, p1, z1⟩ := I.list hx
    obtain ⟨i2, r2, p2, z2⟩ := I.list hy
    have ne : ∀ c ∈ [z, ti, to, j1, j2], a ≠ c ∧ b ≠ c := fun c hcm => ⟨sqL_ne I hx (hf c hcm), sqL_ne I hy (hf c hcm)⟩
    have D : HZ.Apart z ti to j1 j2 a b := ⟨F.a1, F.a2, F.a3, F.a4, F.a5, F.a6, F.a7, F.a8, F.a9, F.b0, (ne z (by simp)).1, (ne to (by simp)).1, (ne j1 (by simp)).1, (ne j2 (by simp)).1, (ne z (by simp)).2, (ne to (by simp)).2, (ne j1 (by simp)).2, (ne j2 (by simp)).2⟩
    obtain ⟨w1, w2, hto⟩ := st.to
    have hh : X.A.in1.handled = none := I.ok.hd hc
    have l1 := r1.length
    have l2 := r2.length
    refine HZ.next_end D (HZ.stp_lst hh j1 a i1.toArray) (HZ.stp_lst hh j2 b i2.toArray) st.z st.ti hto ⟨st.h1, p1.isList⟩ ⟨st.h2, p2.isList⟩ ?_ fun h' c7 => ⟨rfl, I.turnedAll (t' := s.toks) (ch := [z, ti, to, j1, j2]) (fun c o hcn e => by
      have q : c ≠ z ∧ c ≠ ti ∧ c ≠ to ∧ c ≠ j1 ∧ c ≠ j2 := by simpa using hcn
      exact c7 c o q.1 q.2.2.1 q.2.2.2.1 q.2.2.2.2 e) hf⟩
    rcases hle with q | q
    · left; simp; omega
    · right; simp; omega
  self := fun A i s Q E st h => wpAny_pyIter_zip st.z h
end L2
namespace HZ
open PySem PySem.Spec PyProof.Rows
abbrev y1 (h : Heap) (m1 : Addr) : Heap := h.push { cls := .type "tuple_iterator", data := .fields #[.ref m1, .int 0 0] }
abbrev y2 (h : Heap) (m1 m2 : Addr) : Heap := (y1 h m1).push { cls := .type "tuple_iterator", data := .fields #[.ref m2, .int 0 0] }
abbrev y3 (h : Heap) (m1 m2 : Addr) : Heap := (y2 h m1 m2).push { cls := .type "tuple", data := .seq #[.ref h.objs.size, .ref (y1 h m1).objs.size] }
abbrev y4 (h : Heap) (m1 m2 : Addr) : Heap := (y3 h m1 m2).push { cls := .type "tuple", data := .seq #[.none, .none] }
abbrev y5 (h : Heap) (m1 m2 : Addr) : Heap := (y4 h m1 m2).push { cls := .type "zip", data := .fields #[.none, .bool false, .bool false, .ref (y2 h m1 m2).objs.size, .ref (y3 h m1 m2).objs.size] }
theorem meets_tups (m1 m2 : Addr) (xs ys : Array Value) :
    Meets (Builtin.«zip.__new__» ⟨[.type "zip", .ref m1, .ref m2], []⟩) (fun _ R s => s.heap.IsTuple m1 xs ∧ s.heap.IsTuple m2 ys ∧ R (.ok (.ret (.ref (y4 s.heap m1 m2).objs.size))) { s with heap := y5 s.heap m1 m2 }) :=
  .of_wp fun prog w A R s h => by
    obtain ⟨hp, g, d, tk, os⟩ := s; obtain ⟨h1, h2, h⟩ := h
    have hsub := sub_zip
    have L1 : Heap.IsTuple (Shared.heap ⟨hp, g, d, tk, os⟩) m1 xs := h1
    have L2 : Heap.IsTuple (Shared.heap ⟨hp.push { cls := .type "tuple_iterator", data := .fields #[.ref m1, .int 0 0] }, g, d, tk, os⟩) m2 ys := Heap.IsTuple.push h2 _
    wp_walk using wpAny_pyIter_tuple L1, wpAny_pyIter_tuple L2
    exact ⟨_, rfl, h⟩
section
variable {P : Program} {w : World} {A : Around} {E : Value → Shared → Prop} {s : Shared}
theorem call_zip_tups {m1 m2 : Addr} {xs ys : Array Value} {Q : Value → Shared → Prop} (h1 : s.heap.IsTuple m1 xs) (h2 : s.heap.IsTuple m2 ys)
    (h : ∀ h', IsZip h' (s.heap.objs.size + 4) (s.heap.objs.size + 2) (s.heap.objs.size + 3) .none → IsPair h' (s.heap.objs.size + 2) (.ref s.heap.objs.size) (.ref (s.heap.objs.size + 1)) →
      IsPair h' (s.heap.objs.size + 3) .none .none → h'.IsTupleIter s.heap.objs.size m1 0 → h'.IsTupleIter (s.heap.objs.size + 1) m2 0 → h'.objs.size = s.heap.objs.size + 5 →
      (∀ c o, s.heap.get? c = some o → h'.get? c = some o) → Q (.ref (s.heap.objs.size + 4)) { s with heap := h' }) : wpAny (model P w) A (call (.type "zip") [.ref m1, .ref m2]) Q E s := by
  refine callType_new F.called_zip (by decide) (F.typeCall_zip_2 _ _) (F.newCall_zip_2 _ _) (fun obj => F.args_object_init_3 obj _ _) F.entry_zip_new (meets_tups m1 m2 xs ys) ⟨h1, h2, ?_⟩
  have e1 : (y1 s.heap m1).objs.size = s.heap.objs.size + 1 := Heap.size_push ..
  have e2 : (y2 s.heap m1 m2).objs.size = s.heap.objs.size + 2 := by rw [Heap.size_push, e1]
  have e3 : (y3 s.heap m1 m2).objs.size = s.heap.objs.size + 3 := by rw [Heap.size_push, e2]
  have e4 : (y4 s.heap m1 m2).objs.size = s.heap.objs.size + 4 := by rw [Heap.size_push, e3]
  have e5 : (y5 s.heap m1 m2).objs.size = s.heap.objs.size + 5 := by rw [Heap.size_push, e4]
  have g5 : (y5 s.heap m1 m2).get? (y4 s.heap m1 m2).objs.size = some _ := Heap.get?_push_size _ rfl
  have g4 : (y5 s.heap m1 m2).get? (y3 s.heap m1 m2).objs.size = some _ := Heap.get?_push_of_some _ (Heap.get?_push_size _ rfl)
  have g3 : (y5 s.heap m1 m2).get? (y2 s.heap m1 m2).objs.size = some _ := Heap.get?_push_of_some _ (Heap.get?_push_of_some _ (Heap.get?_push_size _ rfl))
  have g2 : (y5 s.heap m1 m2).get? (y1 s.heap m1).objs.size = some _ := Heap.get?_push_of_some _ (Heap.get?_push_of_some _ (Heap.get?_push_of_some _ (Heap.get?_push_size _ rfl)))
  have g1 : (y5 s.heap m1 m2).get? s.heap.objs.size = some _ := Heap.get?_push_of_some _ (Heap.get?_push_of_some _ (Heap.get?_push_of_some _ (Heap.get?_push_of_some _ (Heap.get?_push_size _ rfl))))
  show _ ∧ _
  rw [e2, e3, e4] at g5
  rw [e1, e2] at g3
  rw [e3] at g4
  rw [e1] at g2
  rw [e4]
  exact ⟨⟨_, g5, rfl⟩, h _ g5 g3 g4 ⟨_, g1, rfl, rfl⟩ ⟨_, g2, rfl, rfl⟩ e5 fun c o q => Heap.get?_push_of_some _ (Heap.get?_push_of_some _ (Heap.get?_push_of_some _ (Heap.get?_push_of_some _ (Heap.get?_push_of_some _ q))))⟩
end
end HZ
namespace L2
open PySem PySem.Spec PyProof.Rows
theorem five_new (n : Nat) : Five (n + 4) (n + 2) (n + 3) n (n + 1) := by constructor <;> (show (_ : Nat) ≠ _) <;> omega
section
variable {X : Cx} {elts : List Expr} {kk : Nat} {tp : Pos}
def iZipT (K : PySem.W.Frag) (ta : TA) : TI := fun σ H R => ta σ H fun vs H1 => ∃ a b xs ys, vs = [.ref a, .ref b] ∧ SqT K H1 a xs ∧ SqT K H1 b ys ∧ R (ItzT K a b) H1
def iZipL (K : PySem.W.Frag) (ta : TA) : TI := fun σ H R => ta σ H fun vs H1 => ∃ a b xs ys, vs = [.ref a, .ref b] ∧ SqL K H1 a xs ∧ SqL K H1 b ys ∧ R (ItzL K a b) H1
theorem boot_zip' : bootBuiltins "zip" = some (.type "zip") := by decide +kernel
theorem fp_new {pins : List (Addr × Obj)} {σ : St} {H : Hp} {s : Shared} (I : Inv X pins σ H s) : ∀ b ∈ [s.heap.objs.size + 4, s.heap.objs.size + 2, s.heap.objs.size + 3, s.heap.objs.size, s.heap.objs.size + 1], FpOk X pins H b := fun b hb => by
  have hb' : s.heap.objs.size ≤ b := by
    have q : b = s.heap.objs.size + 4 ∨ b = s.heap.objs.size + 2 ∨ b = s.heap.objs.size + 3 ∨ b = s.heap.objs.size ∨ b = s.heap.objs.size + 1 := by simpa using hb
    omega
  exact I.fpOk hb' (I.hok.fresh hb')
theorem pi_zipT {a b : Expr} {ta : TA} {p pos : Pos} (hg : Gl X "zip") (hm : X.mg "zip" = none) (ha : PA X [a, b] ta) (hs : starEach [a, b] X.env = [(false, eval a X.env), (false, eval b X.env)] := by rfl) (hs2 : starEach [b] X.env = [(false, eval b X.env)] := by rfl) :
    PI X (.Tuple elts kk tp) (.Call (.Name "zip" p) [a, b] [] pos) (iZipT X.K ta) := by
  intro pins s σ H R I h
  refine Call_ (ld_blt I hg hm boot_zip' (PyProof.Rows.callWith_type1 (thn (ha pos pins s σ H _ I h) fun us s1 ⟨vs, H1, I1, r1, q1⟩ => ?_) (by rw [hs, hs2]) (by rw [hs2]; rfl)))
  obtain ⟨a, b, xs, ys, e, hx, hy, q⟩ := q1
  subst e
  obtain ⟨u, v, rfl, ru, rv⟩ := vals2 r1
  cases ru
  cases rv
  obtain ⟨i1, _, p1, _⟩ := I1.tuple hx
  obtain ⟨i2, _, p2, _⟩ := I1.tuple hy
  refine HZ.call_zip_tups (xs := i1.toArray) (ys := i2.toArray) p1 p2 fun h' c1 c2 c3 c4 c5 c6 c7 => ?_
  refine wpAny_pyIter_zip (s := { s1 with heap := h' }) c1 ?_
  exact ⟨_, [s1.heap.objs.size + 4, s1.heap.objs.size + 2, s1.heap.objs.size + 3, s1.heap.objs.size, s1.heap.objs.size + 1], _, _, H1, rfl, I1.kept (t' := s1.toks) c7, turn_zipT a b _ _ _ _ _ (five_new _), ⟨c1, c2, ⟨_, _, c3⟩, c4, c5⟩, fp_new I1, q⟩
theorem pi_zipL {a b : Expr} {ta : TA} {p pos : Pos} (hg : Gl X "zip") (hm : X.mg "zip" = none) (ha : PA X [a, b] ta) (hs : starEach [a, b] X.env = [(false, eval a X.env), (false, eval b X.env)] := by rfl) (hs2 : starEach [b] X.env = [(false, eval b X.env)] := by rfl) :
    PI X (.Tuple elts kk tp) (.Call (.Name "zip" p) [a, b] [] pos) (iZipL X.K ta) := by
  intro pins s σ H R I h
  refine Call_ (ld_blt I hg hm boot_zip' (PyProof.Rows.callWith_type1 (thn (ha pos pins s σ H _ I h) fun us s1 ⟨vs, H1, I1, r1, q1⟩ => ?_) (by rw [hs, hs2]) (by rw [hs2]; rfl)))
  obtain ⟨a, b, xs, ys, e, hx, hy, q⟩ := q1
  subst e
  obtain ⟨u, v, rfl, ru, rv⟩ := vals2 r1
  cases ru
  cases rv
  obtain ⟨i1, _, p1, _⟩ := I1.list hx
  obtain ⟨i2, _, p2, _⟩ := I1.list hy
  refine call_zip_2 (xs := i1.toArray) (ys := i2.toArray) p1.isList p2.isList fun h' c1 c2 c3 c4 c5 c6 c7 => ?_
  refine wpAny_pyIter_zip (s := { s1 with heap := h' }) c1 ?_
  exact ⟨_, [s1.heap.objs.size + 4, s1.heap.objs.size + 2, s1.heap.objs.size + 3, s1.heap.objs.size, s1.heap.objs.size + 1], _, _, H1, rfl, I1.kept (t' := s1.toks) c7, turn_zipL a b _ _ _ _ _ (five_new _), ⟨c1, c2, ⟨_, _, c3⟩, c4, c5⟩, fp_new I1, q⟩
end
end L2

set_option Elab.async false
set_option linter.all false
set_option maxRecDepth 100000
set_option maxHeartbeats 4000000
namespace PySem
section
variable {P : Program} {w : World} {A : Around} {E : Value → Shared → Prop} {s : Shared}
end
end PySem
namespace L2
open PySem PySem.Spec PyProof.Rows
def nDiff (ns : List Int) : Nat := (ns.foldl step_dedup []).length
theorem map_getD (ns : List Int) : (List.range ns.length).map (fun i => ns.getD i 0) = ns := by
  apply List.ext_getElem?
  intro i
  rw [List.getElem?_map]
  by_cases h : i < ns.length
  · rw [List.getElem?_range h, List.getElem?_eq_getElem h]
    simp [List.getD, List.getElem?_eq_getElem h]
  · rw [List.getElem?_eq_none (by simpa using h), List.getElem?_eq_none (by omega)]
    rfl
section
variable {X : Cx}
end
end L2

set_option Elab.async false
set_option linter.all false
set_option maxRecDepth 100000
set_option maxHeartbeats 4000000
namespace L2
open PySem PySem.Spec PyProof.Rows
section
variable {κ : Type} [DecidableEq κ]
def valV (kvs : List (κ × V)) (k : κ) : Option V := (kvs.find? fun kv => decide (kv.1 = k)).map (·.2)
def putK (kvs : List (κ × V)) (k : κ) (v : V) : List (κ × V) :=
  if (kvs.any fun kv => decide (kv.1 = k)) = true then kvs.map (fun kv => if kv.1 = k then (kv.1, v) else kv) else kvs ++ [(k, v)]
def dropK (kvs : List (κ × V)) (k : κ) : List (κ × V) := kvs.filter fun kv => decide (kv.1 ≠ k)
theorem valV_pos {p : κ × V} {r : List (κ × V)} {k : κ} (e : p.1 = k) : valV (p :: r) k = some p.2 := by simp [valV, List.find?_cons, e]
theorem valV_neg {p : κ × V} {r : List (κ × V)} {k : κ} (e : ¬ p.1 = k) : valV (p :: r) k = valV r k := by simp [valV, List.find?_cons, e]
theorem valV_any (k : κ) : ∀ kvs : List (κ × V), (kvs.any fun kv => decide (kv.1 = k)) = (valV kvs k).isSome
  | [] => rfl
  | p :: r => by
    rw [List.any_cons]
    by_cases e : p.1 = k
    · simp only [valV_pos e, decide_eq_true e, Bool.true_or, Option.isSome_some]
    · rw [valV_neg e, decide_eq_false e, Bool.false_or]; exact valV_any k r
theorem RelO.isSome_eq {o : Option V} {u : Option Value} (r : RelO o u) : o.isSome = u.isSome := by
  cases o with
  | none => cases u with
    | none => rfl
    | some _ => exact (show False from r).elim
  | some _ => cases u with
    | none => exact (show False from r).elim
    | some _ => rfl
theorem RelO.getD {o : Option V} {u : Option Value} {d : V} {d' : Value} (r : RelO o u) (rd : RelV d d') : RelV (o.getD d) (u.getD d') := by
  cases o with
  | none => cases u with
    | none => exact rd
    | some _ => exact (show False from r).elim
  | some _ => cases u with
    | none => exact (show False from r).elim
    | some _ => exact r
theorem KV.val {kvs : List (κ × V)} {vs : List (κ × Value)} (r : KV kvs vs) (k : κ) : RelO (valV kvs k) (valueAt vs k) := by
  unfold KV at r
  induction r with
  | nil => exact True.intro
  | @cons p q ps qs h t ih =>
    obtain ⟨h1, h2⟩ := h
    by_cases e : p.1 = k
    · have e' : q.1 = k := h1.symm.trans e
      have b : valueAt (q :: qs) k = some q.2 := by simp [valueAt, List.find?_cons, e']
      rw [valV_pos e, b]; exact h2
    · have e' : ¬ q.1 = k := fun z => e (h1.trans z)
      have b : valueAt (q :: qs) k = valueAt qs k := by simp [valueAt, List.find?_cons, e']
      rw [valV_neg e, b]; exact ih
theorem KV.any {kvs : List (κ × V)} {vs : List (κ × Value)} (r : KV kvs vs) (k : κ) : (kvs.any fun kv => decide (kv.1 = k)) = vs.any fun kv => decide (kv.1 = k) := by
  unfold KV at r
  induction r with
  | nil => rfl
  | cons h t ih => rw [List.any_cons, List.any_cons, ih, h.1]
theorem KV.repl {kvs : List (κ × V)} {vs : List (κ × Value)} (r : KV kvs vs) (k : κ) {y : V} {u : Value} (ry : RelV y u) :
    KV (kvs.map fun kv => if kv.1 = k then (kv.1, y) else kv) (vs.map fun kv => if kv.1 = k then (kv.1, u) else kv) := by
  unfold KV at r ⊢
  induction r with
  | nil => exact .nil
  | @cons p q ps qs h t ih =>
    rw [List.map_cons, List.map_cons]
    refine .cons ?_ ih
    obtain ⟨h1, h2⟩ := h
    by_cases e : p.1 = k
    · rw [if_pos e, if_pos (h1.symm.trans e)]; exact ⟨h1, ry⟩
    · rw [if_neg e, if_neg (fun z => e (h1.trans z))]; exact ⟨h1, h2⟩
theorem KV.put {kvs : List (κ × V)} {vs : List (κ × Value)} (r : KV kvs vs) (k : κ) {y : V} {u : Value} (ry : RelV y u) : KV (putK kvs k y) (stored vs k u) := by
  unfold putK stored
  rw [r.any k]
  by_cases e : (vs.any fun kv => decide (kv.1 = k)) = true
  · rw [if_pos e, if_pos e]; exact r.repl k ry
  · rw [if_neg e, if_neg e]; exact Paired.snoc r ⟨rfl, ry⟩
theorem KV.drop {kvs : List (κ × V)} {vs : List (κ × Value)} (r : KV kvs vs) (k : κ) : KV (dropK kvs k) (without vs k) := by
  unfold KV at r ⊢
  unfold dropK without
  induction r with
  | nil => exact .nil
  | @cons p q ps qs h t ih =>
    obtain ⟨h1, h2⟩ := h
    rw [List.filter_cons, List.filter_cons]
    by_cases e : p.1 = k
    · have a : ¬ decide (p.1 ≠ k) = true := by simp [e]
      have b : ¬ decide (q.1 ≠ k) = true := by simp [h1.symm.trans e]
      rw [if_neg a, if_neg b]; exact ih
    · have e' : ¬ q.1 = k := fun z => e (h1.trans z)
      have a : decide (p.1 ≠ k) = true := by simp [e]
      have b : decide (q.1 ≠ k) = true := by simp [e']
      rw [if_pos a, if_pos b]; exact .cons ⟨h1, h2⟩ ih
theorem KV.keys {kvs : List (κ × V)} {vs : List (κ × Value)} (r : KV kvs vs) : kvs.map (·.1) = vs.map (·.1) := by
  unfold KV at r
  induction r with
  | nil => rfl
  | cons h t ih => rw [List.map_cons, List.map_cons, ih, h.1]
theorem KV.length {kvs : List (κ × V)} {vs : List (κ × Value)} (r : KV kvs vs) : kvs.length = vs.length := Paired.length r
end
abbrev KT (H : Hp) : List (List Key × V) → List (List Key × Addr × Value) → Prop := Paired fun p q => p.1 = q.1 ∧ H q.2.1 = some (.tup (p.1.map kV)) ∧ RelV p.2 q.2.2
theorem KT.val {H : Hp} {kvs : List (List Key × V)} {xs : List (List Key × Addr × Value)} (r : KT H kvs xs) (k : List Key) : RelO (valV kvs k) ((atKey xs k).map (·.2)) := by
  induction r with
  | nil => exact True.intro
  | @cons p q ps qs h t ih =>
    obtain ⟨h1, _, h2⟩ := h
    by_cases e : p.1 = k
    · have e' : q.1 = k := h1.symm.trans e
      have b : atKey (q :: qs) k = some q.2 := by simp [atKey, List.find?_cons, e']
      rw [valV_pos e, b]; exact h2
    · have e' : ¬ q.1 = k := fun z => e (h1.trans z)
      have b : atKey (q :: qs) k = atKey qs k := by simp [atKey, List.find?_cons, e']
      rw [valV_neg e, b]; exact ih
theorem KT.repl {H : Hp} {kvs : List (List Key × V)} {xs : List (List Key × Addr × Value)} (r : KT H kvs xs) (k : List Key) {y : V} {u : Value} (ry : RelV y u) :
    KT H (kvs.map fun kv => if kv.1 = k then (kv.1, y) else kv) (xs.map (putAt k u)) := by
  induction r with
  | nil => exact .nil
  | @cons p q ps qs h t ih =>
    rw [List.map_cons, List.map_cons]
    refine .cons ?_ ih
    obtain ⟨h1, h2, h3⟩ := h
    unfold putAt
    by_cases e : p.1 = k
    · rw [if_pos e, if_pos (h1.symm.trans e)]; exact ⟨h1, h2, ry⟩
    · rw [if_neg e, if_neg (fun z => e (h1.trans z))]; exact ⟨h1, h2, h3⟩
theorem KT.put {H : Hp} {kvs : List (List Key × V)} {xs : List (List Key × Addr × Value)} (r : KT H kvs xs) (k : List Key) {b : Addr} {y : V} {u : Value} (hb : H b = some (.tup (k.map kV))) (ry : RelV y u) :
    KT H (putK kvs k y) (storedH xs k b u) := by
  have e : (kvs.any fun kv => decide (kv.1 = k)) = (atKey xs k).isSome := by
    rw [valV_any, (r.val k).isSome_eq, Option.isSome_map]
  unfold putK storedH
  rw [e]
  by_cases q : (atKey xs k).isSome = true
  · rw [if_pos q, if_pos q]; exact r.repl k ry
  · rw [if_neg q, if_neg q]; exact Paired.snoc r ⟨rfl, hb, ry⟩
theorem KT.keeps {H H' : Hp} {kvs : List (List Key × V)} {xs : List (List Key × Addr × Value)} (r : KT H kvs xs) (ht : ∀ b ys, H b = some (.tup ys) → H' b = some (.tup ys)) : KT H' kvs xs :=
  Paired.mapP r fun _ _ z => ⟨z.1, ht _ _ z.2.1, z.2.2⟩
section
variable {P : Program} {w : World} {H : Hp} {h : Heap} {a : Addr}
end
def DGet (H : Hp) (a : Addr) (y : V) (r : Option V) : Prop :=
  (∃ kvs k, Rd H a (.dK kvs) ∧ y = kV k ∧ r = valV kvs k) ∨ ∃ kvs k b, Rd H a (.dT kvs) ∧ y = .ref b ∧ H b = some (.tup (k.map kV)) ∧ r = valV kvs k
def DPut (H : Hp) (a : Addr) (y v : V) (H' : Hp) : Prop :=
  (∃ kvs k, H a = some (.dK kvs) ∧ y = kV k ∧ kvs.length < sizeLine ∧ H' = upd H a (.dK (putK kvs k v))) ∨
  ∃ kvs k b, H a = some (.dT kvs) ∧ y = .ref b ∧ H b = some (.tup (k.map kV)) ∧ kvs.length < sizeLine ∧ H' = upd H a (.dT (putK kvs k v))
theorem DGet.k {H : Hp} {a : Addr} {kvs : List (Key × V)} {k : Key} (e : H a = some (.dK kvs)) : DGet H a (kV k) (valV kvs k) := .inl ⟨kvs, k, .inl e, rfl, rfl⟩
theorem DGet.t {H : Hp} {a b : Addr} {kvs : List (List Key × V)} {k : List Key} (e : H a = some (.dT kvs)) (eb : H b = some (.tup (k.map kV))) : DGet H a (.ref b) (valV kvs k) := .inr ⟨kvs, k, b, .inl e, rfl, eb, rfl⟩
theorem DPut.k {H : Hp} {a : Addr} {kvs : List (Key × V)} {k : Key} {v : V} (e : H a = some (.dK kvs)) (hl : kvs.length < sizeLine) : DPut H a (kV k) v (upd H a (.dK (putK kvs k v))) := .inl ⟨kvs, k, e, rfl, hl, rfl⟩
theorem DPut.t {H : Hp} {a b : Addr} {kvs : List (List Key × V)} {k : List Key} {v : V} (e : H a = some (.dT kvs)) (eb : H b = some (.tup (k.map kV))) (hl : kvs.length < sizeLine) :
    DPut H a (.ref b) v (upd H a (.dT (putK kvs k v))) := .inr ⟨kvs, k, b, e, rfl, eb, hl, rfl⟩
section
variable {X : Cx} {pins : List (Addr × Obj)} {σ : St} {H : Hp} {s : Shared} {a : Addr} {y v : V} {u r : Value} {o : Option V} {A : Around} {E : Value → Shared → Prop}
end
section
variable {X : Cx} {pins : List (Addr × Obj)} {σ : St} {H : Hp} {s : Shared} {a : Addr} {kvs : List (Key × V)} {k : Key} {u : Value} {A : Around} {E : Value → Shared → Prop}
end
def NoSl (i : Expr) : Prop := ∀ ov iv, subscripted i false ov iv = operate [ov, iv] (getItem ov iv)
def tDGet (td ty : TE) : TE := fun σ H Q => td σ H fun x H1 => ty σ H1 fun y H2 => ∃ a v, x = .ref a ∧ DGet H2 a y (some v) ∧ Q v H2
def tDIn (ty td : TE) : TE := fun σ H Q => ty σ H fun y H1 => td σ H1 fun x H2 => ∃ a o, x = .ref a ∧ DGet H2 a y o ∧ Q (.bl o.isSome) H2
def tDNotIn (ty td : TE) : TE := fun σ H Q => ty σ H fun y H1 => td σ H1 fun x H2 => ∃ a o, x = .ref a ∧ DGet H2 a y o ∧ Q (.bl (!o.isSome)) H2
def sDPut (td ty tv : TE) : TS := fun D σ H => tv σ H fun v H1 => td σ H1 fun x H2 => ty σ H2 fun y H3 => ∃ a H4, x = .ref a ∧ DPut H3 a y v H4 ∧ D.nx σ H4
def sDAug (td ty tv : TE) (rd : V → V → Hp → VK → Prop) : TS := fun D σ H => td σ H fun x H1 => ty σ H1 fun y H2 => ∃ a v, x = .ref a ∧ DGet H2 a y (some v) ∧
  tv σ H2 fun y2 H3 => rd v y2 H3 fun z H4 => ∃ H5, DPut H4 a y z H5 ∧ D.nx σ H5
def sDDel (td ty : TE) : TS := fun D σ H => td σ H fun x H1 => ty σ H1 fun y H2 => ∃ a kvs k, x = .ref a ∧ H2 a = some (.dK kvs) ∧ y = kV k ∧ (valV kvs k).isSome = true ∧ D.nx σ (upd H2 a (.dK (dropK kvs k)))
section
variable {X : Cx} {o i e value : Expr} {pos pos' tpos : Pos} {td ty tv : TE}
end
def tDNewK : TE := fun _ H Q => ∀ p, H p = none → Q (.ref p) (upd H p (.dK []))
def tDNewT : TE := fun _ H Q => ∀ p, H p = none → Q (.ref p) (upd H p (.dT []))
section
variable {X : Cx} {pos : Pos}
end
def tPairs : List (TE × TE) → St → Hp → (List (V × V) → Hp → Prop) → Prop
  | [], _, H, Q => Q [] H
  | (tk, tv) :: r, σ, H, Q => tk σ H fun x H1 => tv σ H1 fun y H2 => tPairs r σ H2 fun ps H3 => Q ((x, y) :: ps) H3
abbrev VV : List (V × V) → List (Value × Value) → Prop := Paired fun p q => RelV p.1 q.1 ∧ RelV p.2 q.2
def PPs (X : Cx) (pos : Pos) (keys : List (Option Expr)) (values : List Expr) (trs : List (TE × TE)) : Prop :=
  ∀ (pins : List (Addr × Obj)) (s : Shared) (σ : St) (H : Hp) (Q : List (V × V) → Hp → Prop), Inv X pins σ H s → tPairs trs σ H Q →
    wpAny (model X.prog X.w) X.A (evalPairs (pairTrees keys values X.env pos)) (fun vs s' => ∃ ps H', Inv X pins σ H' s' ∧ VV ps vs ∧ Q ps H') X.xe s
def mergeK (kvs more : List (Key × V)) : List (Key × V) := more.foldl (fun acc kv => putK acc kv.1 kv.2) kvs
def tDisp (trs : List (TE × TE)) : TE := fun σ H Q => ∀ p, H p = none → tPairs trs σ (upd H p (.dK [])) fun ps H2 => H2 p = some (.dK []) ∧ ∃ kvs : List (Key × V), ps = kvs.map (fun kv => (kV kv.1, kv.2)) ∧ kvs.length ≤ 15 ∧ Q (.ref p) (upd H2 p (.dK (mergeK [] kvs)))
structure M1 (X : Cx) (o : Expr) (m : Str) (apos : Pos) (e : Expr) (cpos : Pos) : Prop where
  base : attributeBase o m X.env (eval o X.env) = eval o X.env
  few : ((backTo cpos (starEach [e] X.env)).all (fun x => !x.1) && (backToKw cpos (keywordEach [] X.env)).all (fun x => x.1.isSome)
    && decide (([e] : List Expr).length + ([] : List Keyword).length + (if ([] : List Keyword).isEmpty then 0 else 1) < 30)) = true
  line : (apos.endLine == cpos.line) = true
  trees : backTo cpos (starEach [e] X.env) = [(false, eval e X.env)]
structure M2 (X : Cx) (o : Expr) (m : Str) (apos : Pos) (e f : Expr) (cpos : Pos) : Prop where
  base : attributeBase o m X.env (eval o X.env) = eval o X.env
  few : ((backTo cpos (starEach [e, f] X.env)).all (fun x => !x.1) && (backToKw cpos (keywordEach [] X.env)).all (fun x => x.1.isSome)
    && decide (([e, f] : List Expr).length + ([] : List Keyword).length + (if ([] : List Keyword).isEmpty then 0 else 1) < 30)) = true
  line : (apos.endLine == cpos.line) = true
  trees : backTo cpos (starEach [e, f] X.env) = [(false, eval e X.env), (false, eval f X.env)]
def IsD (H : Hp) (a : Addr) : Prop := (∃ kvs, Rd H a (.dK kvs)) ∨ ∃ kvs, Rd H a (.dT kvs)
section
variable {X : Cx} {pins : List (Addr × Obj)} {σ : St} {H : Hp} {s : Shared} {a : Addr} {y d : V} {u r : Value} {o : Option V} {A : Around} {E : Value → Shared → Prop}
end
def tDGet1 (td ty : TE) : TE := fun σ H Q => td σ H fun x H1 => ∃ a, x = .ref a ∧ IsD H1 a ∧ ty σ H1 fun y H2 => ∃ o, DGet H2 a y o ∧ Q (o.getD .non) H2
def tDGet2 (td ty tx : TE) : TE := fun σ H Q => td σ H fun x H1 => ∃ a, x = .ref a ∧ IsD H1 a ∧ ty σ H1 fun y H2 => tx σ H2 fun z H3 => ∃ o, DGet H3 a y o ∧ Q (o.getD z) H3
def tDPop1 (td ty : TE) : TE := fun σ H Q => td σ H fun x H1 => ∃ a, x = .ref a ∧ IsD H1 a ∧ ty σ H1 fun y H2 => ∃ kvs k v, H2 a = some (.dK kvs) ∧ y = kV k ∧ valV kvs k = some v ∧ Q v (upd H2 a (.dK (dropK kvs k)))
def tDPop2 (td ty tx : TE) : TE := fun σ H Q => td σ H fun x H1 => ∃ a, x = .ref a ∧ IsD H1 a ∧ ty σ H1 fun y H2 => tx σ H2 fun z H3 => ∃ kvs k, H3 a = some (.dK kvs) ∧ y = kV k ∧
  (∀ v, valV kvs k = some v → Q v (upd H3 a (.dK (dropK kvs k)))) ∧ (valV kvs k = none → Q z H3)
section
variable {X : Cx} {o e f : Expr} {apos cpos : Pos} {td ty tx : TE}
end
section
variable {X : Cx} {pins : List (Addr × Obj)} {σ : St} {H : Hp} {s : Shared} {a : Addr} {kvs : List (Key × V)} {A : Around} {E : Value → Shared → Prop}
end
section
variable {X : Cx} {pins : List (Addr × Obj)} {σ : St} {H : Hp} {s : Shared} {a : Addr} {y : V} {u : Value} {A : Around} {E : Value → Shared → Prop}
end
end L2

set_option Elab.async false
set_option linter.all false
set_option maxRecDepth 100000
set_option maxHeartbeats 4000000
namespace L2
open PySem PySem.Spec PyProof.Rows
section
variable {K : PySem.W.Frag} {caps : St} {H : Hp} {tf : TT} {te : TE} {Q : VK}
end
def checkC (sc : Scope) (on : List (Str × NameKind)) (oN N : List Str) (nt : Nat) (cap : List Nat) : Bool :=
  decide (sc.kind = .function) && sc.names.all (fun x => decide (x.2 ≠ .cell)) && sc.names.all (fun x => decide (x.2 = .local → sc.names.lookup x.1 = some .local)) &&
  sc.names.all (fun x => decide (x.2 = .free → sc.names.lookup x.1 = some .free ∧ (on.lookup x.1 = some .cell ∨ on.lookup x.1 = some .free))) && decide (N.length = nt + cap.length) &&
  (List.range cap.length).all (fun k => match cap[k]? with
    | some j => match oN[j]? with
      | some x => decide (N[nt + k]? = some x) && decide ((x, NameKind.free) ∈ sc.names)
      | none => false
    | none => true)
theorem cs_of {X : Cx} {sc : Scope} {N : List Str} {nt : Nat} {cap : List Nat} (h : checkC sc X.env.scope.names X.N N nt cap = true) : CScope X sc N nt cap := by
  unfold checkC at h
  simp only [Bool.and_eq_true, List.all_eq_true, decide_eq_true_eq] at h
  obtain ⟨⟨⟨⟨⟨h1, h2⟩, h3⟩, h4⟩, h5⟩, h6⟩ := h
  refine ⟨h1, h2, h3, fun x hx e => h4 x hx e, h5, fun k j e => ?_⟩
  have hk : k < cap.length := (List.getElem?_eq_some_iff.mp e).1
  have := h6 k (List.mem_range.mpr hk)
  rw [e] at this
  dsimp only at this
  cases ex : X.N[j]? with
  | none => rw [ex] at this; cases this
  | some x =>
    rw [ex] at this
    simp only [Bool.and_eq_true, decide_eq_true_eq] at this
    exact ⟨x, rfl, this.1, this.2⟩
end L2

set_option Elab.async false
set_option linter.all false
set_option maxRecDepth 100000
set_option maxHeartbeats 4000000
namespace TS
open PySem
abbrev Rise (l : List Nat) : Prop := l.Pairwise (· < ·)
theorem getD_arr (xs : Array Nat) (k d : Nat) : xs.getD k d = xs.toList.getD k d := by
  cases xs with
  | mk l =>
    by_cases h : k < l.length
    · simp [Array.getD, List.getD, h]
    · simp [Array.getD, List.getD, h]
theorem rise_lt {l : List Nat} (h : Rise l) {a b : Nat} (hab : a < b) (hb : b < l.length) : l.getD a 0 < l.getD b 0 := by
  have := List.pairwise_iff_getElem.mp h a b (by omega) hb hab
  simpa [List.getD, List.getElem?_eq_getElem hb, List.getElem?_eq_getElem (show a < l.length by omega)] using this
theorem getD_any (l : List Nat) {k : Nat} (hk : k < l.length) (d e : Nat) : l.getD k d = l.getD k e := by
  simp [List.getD, List.getElem?_eq_getElem hk]
theorem go_spec (xs : Array Nat) (j : Nat) (hr : Rise xs.toList) : ∀ (fuel lo hi : Nat), hi - lo ≤ fuel → lo ≤ hi → hi ≤ xs.toList.length → (∀ k, k < lo → xs.toList.getD k 0 < j) → (∀ k, hi ≤ k → k < xs.toList.length → j ≤ xs.toList.getD k 0) →
    SetTable.below.go xs j fuel lo hi ≤ xs.toList.length ∧ (∀ k, k < SetTable.below.go xs j fuel lo hi → xs.toList.getD k 0 < j) ∧ (∀ k, SetTable.below.go xs j fuel lo hi ≤ k → k < xs.toList.length → j ≤ xs.toList.getD k 0)
  | 0, lo, hi, hf, hl, hh, h1, h2 => by
    have e : lo = hi := by omega
    subst e
    exact ⟨hh, h1, h2⟩
  | fuel + 1, lo, hi, hf, hl, hh, h1, h2 => by
    unfold SetTable.below.go
    by_cases hlt : lo < hi
    · rw [if_pos hlt]
      dsimp only
      have hm : (lo + hi) / 2 < xs.toList.length := by omega
      rw [getD_arr, getD_any _ hm j 0]
      by_cases hc : xs.toList.getD ((lo + hi) / 2) 0 < j
      · rw [if_pos hc]
        refine go_spec xs j hr fuel _ _ (by omega) (by omega) hh (fun k hk => ?_) h2
        by_cases hk2 : k = (lo + hi) / 2
        · rw [hk2]; exact hc
        · exact Nat.lt_trans (rise_lt hr (by omega) hm) hc
      · rw [if_neg hc]
        refine go_spec xs j hr fuel _ _ (by omega) (by omega) (by omega) h1 (fun k hk hk2 => ?_)
        by_cases hk3 : k = (lo + hi) / 2
        · rw [hk3]; omega
        · have := rise_lt hr (show (lo + hi) / 2 < k by omega) hk2
          omega
    · rw [if_neg hlt]
      have e : lo = hi := by omega
      subst e
      exact ⟨hh, h1, h2⟩
theorem below_spec (xs : Array Nat) (j : Nat) (hr : Rise xs.toList) : SetTable.below xs j ≤ xs.toList.length ∧ (∀ k, k < SetTable.below xs j → xs.toList.getD k 0 < j) ∧ (∀ k, SetTable.below xs j ≤ k → k < xs.toList.length → j ≤ xs.toList.getD k 0) := by
  unfold SetTable.below
  exact go_spec xs j hr xs.size 0 xs.size (by omega) (Nat.zero_le _) (by simp) (fun k hk => by omega) (fun k hk hk2 => by simp at hk2; omega)
theorem mem_take_lt {l : List Nat} {p j : Nat} (h : ∀ k, k < p → l.getD k 0 < j) : ∀ x ∈ l.take p, x < j := by
  intro x hx
  obtain ⟨k, hk, e⟩ := List.getElem_of_mem hx
  have hk' : k < p ∧ k < l.length := by rw [List.length_take] at hk; omega
  have := h k hk'.1
  rw [List.getElem_take] at e
  rw [← e]
  simpa [List.getD, List.getElem?_eq_getElem hk'.2] using this
theorem mem_drop_ge {l : List Nat} {p j : Nat} (h : ∀ k, p ≤ k → k < l.length → j ≤ l.getD k 0) : ∀ x ∈ l.drop p, j ≤ x := by
  intro x hx
  obtain ⟨k, hk, e⟩ := List.getElem_of_mem hx
  have hk' : p + k < l.length := by rw [List.length_drop] at hk; omega
  have := h (p + k) (by omega) hk'
  rw [List.getElem_drop] at e
  rw [← e]
  simpa [List.getD, List.getElem?_eq_getElem hk'] using this
theorem put_rise {xs : Array Nat} {j : Nat} (hr : Rise xs.toList) (hn : xs[SetTable.below xs j]? ≠ some j) : Rise (SetTable.insertAt xs (SetTable.below xs j) j).toList := by
  obtain ⟨h0, h1, h2⟩ := below_spec xs j hr
  rw [SetTable.toList_insertAt]
  have a1 := mem_take_lt h1
  have a2 : ∀ x ∈ xs.toList.drop (SetTable.below xs j), j < x := by
    intro x hx
    have hge := mem_drop_ge h2
    have hd : Rise (xs.toList.drop (SetTable.below xs j)) := List.Pairwise.sublist (List.drop_sublist _ _) hr
    cases hc : xs.toList.drop (SetTable.below xs j) with
    | nil => rw [hc] at hx; cases hx
    | cons y r =>
      rw [hc] at hd hx hge
      have hy : j ≠ y := by
        intro e
        apply hn
        have : (xs.toList.drop (SetTable.below xs j))[0]? = some y := by rw [hc]; rfl
        rw [List.getElem?_drop] at this
        have e2 : xs.toList[SetTable.below xs j]? = some y := by simpa using this
        rw [← Array.getElem?_toList, e2, e]
      have hjy : j < y := Nat.lt_of_le_of_ne (hge y List.mem_cons_self) hy
      rcases List.mem_cons.mp hx with e | hx
      · rw [e]; exact hjy
      · exact Nat.lt_trans hjy ((List.pairwise_cons.mp hd).1 x hx)
  first
    | (refine List.pairwise_append.mpr ⟨List.Pairwise.sublist (List.take_sublist _ _) hr, List.pairwise_cons.mpr ⟨a2, List.Pairwise.sublist (List.drop_sublist _ _) hr⟩, fun x hx y hy => ?_⟩
       rcases List.mem_cons.mp hy with e | hy
       · rw [e]; exact a1 x hx
       · exact Nat.lt_trans (a1 x hx) (a2 y hy))
    | trace_state
theorem go_free (t : SetTable) (h : Int) : ∀ (fuel : Nat) (p : SetTable.Probe) (j : Nat) (dm : Option Nat), (∀ d, p.dummy = some d → t.slot d = .dummy) → SetTable.probe.go t (fun _ => h + 1) h fuel p = some (.empty j dm) → t.slot j = .empty ∧ ∀ d, dm = some d → t.slot d = .dummy
  | 0, p, j, dm, hp, e => by simp [SetTable.probe.go] at e
  | fuel + 1, p, j, dm, hp, e => by
    unfold SetTable.probe.go at e
    cases hs : t.slot p.j with
    | empty =>
      rw [hs] at e
      simp at e
      rw [← e.1, ← e.2]
      exact ⟨hs, hp⟩
    | dummy =>
      rw [hs] at e
      refine go_free t h fuel _ j dm (fun d hd => ?_) e
      unfold SetTable.advance at hd
      split at hd
      · simp at hd; rw [← hd]; exact hs
      · simp at hd; rw [← hd]; exact hs
    | live i =>
      rw [hs] at e
      have hne : (h + 1 == h) = false := by simp; omega
      simp only [hne, Bool.false_eq_true, if_false] at e
      refine go_free t h fuel _ j dm (fun d hd => ?_) e
      unfold SetTable.advance at hd
      split at hd
      · exact hp d hd
      · exact hp d hd
theorem slot_free {t : SetTable} {j : Nat} (h : t.slot j = .empty ∨ t.slot j = .dummy) : t.place[SetTable.below t.place j]? ≠ some j := by
  intro e
  have : t.slot j = .live (SetTable.below t.place j) := by
    unfold SetTable.slot
    simp [e]
  rw [this] at h
  rcases h with h | h <;> cases h
theorem free_slot {t : SetTable} {h : Int} {j : Nat} {b : Bool} (e : t.freeSlot h = some (j, b)) : t.place[SetTable.below t.place j]? ≠ some j := by
  unfold SetTable.freeSlot SetTable.probe at e
  split at e
  · rename_i j' dm hg
    have k := go_free t h _ _ j' dm (fun d hd => by simp [SetTable.probeStart] at hd) hg
    simp at e
    rw [← e.1]
    cases dm with
    | none => exact slot_free (.inl k.1)
    | some d => exact slot_free (.inr (k.2 d rfl))
  · cases e
structure TabOk (led : Bool) (t : SetTable) : Prop where
  led : t.led = led
  rise : t.plain = true → Rise t.place.toList
theorem tab_standIn {led : Bool} {t : SetTable} (h : TabOk led t) (n : Nat) : TabOk led (t.standIn n) := ⟨h.led, fun z => by simp [SetTable.standIn] at z⟩
theorem tab_layNew {led : Bool} {t : SetTable} (h : TabOk led t) (es : Array (Int × Value)) (hs : Int) (x : Value) : TabOk led (layNew t es hs x).2.1 := by
  unfold layNew
  split
  · rename_i slot wd e
    dsimp only
    unfold SetTable.orStandIn
    have hp : TabOk led (t.put slot).1 := ⟨h.led, fun z => put_rise (h.rise z) (free_slot e)⟩
    split
    · exact hp
    · exact tab_standIn hp _
  · exact tab_standIn h _
theorem tab_laid {mask finger moves : Nat} {led plain : Bool} {hs : Array Int} {t : SetTable} {o : Array Nat} (e : SetTable.laid mask finger moves led plain hs = some (t, o)) : TabOk led t ∧ t.plain = plain := by
  unfold SetTable.laid at e
  cases hl : SetTable.layClean mask hs with
  | none => rw [hl] at e; simp at e
  | some owner =>
    rw [hl] at e
    simp at e
    obtain ⟨e1, e2⟩ := e
    subst e1
    refine ⟨⟨rfl, fun _ => ?_⟩, rfl⟩
    show Rise (List.toArray _).toList
    simp only [List.map_filterMap]
    refine List.pairwise_filterMap.mpr ?_
    refine List.Pairwise.imp (R := (· < ·)) ?_ (List.pairwise_lt_range)
    intro a b hab x hx y hy
    cases ha : (owner[a]?.getD none) with
    | none => rw [ha] at hx; simp at hx
    | some q =>
      cases hb : (owner[b]?.getD none) with
      | none => rw [hb] at hy; simp at hy
      | some r =>
        rw [ha] at hx; rw [hb] at hy
        simp at hx hy
        omega
theorem tab_relay {led : Bool} {t : SetTable} (h : TabOk led t) (es : Array (Int × Value)) (n : Nat) : TabOk led (relayAll t es n).2.1 := by
  unfold relayAll
  split
  · rename_i t' o e
    dsimp only
    split
    · unfold SetTable.relaid at e
      have k := tab_laid e
      exact ⟨k.1.led.trans h.led, k.1.rise⟩
    · exact tab_standIn h _
  · exact tab_standIn h _
theorem tab_fresh (led : Bool) : TabOk led (.fresh 0 0 led) := ⟨rfl, fun _ => List.Pairwise.nil⟩
end TS

set_option Elab.async false
set_option linter.all false
set_option maxRecDepth 100000
set_option maxHeartbeats 4000000
namespace TS
open PySem PySem.Spec PyProof.Rows
section
variable {P : Program} {w : World} {A : Around} {E : Value → Shared → Prop} {s : Shared} {led : Bool}
def SetT (P : Program) (w : World) (led : Bool) (h : Heap) (a : Addr) (S : Int → Bool) (n : Nat) : Prop :=
  ∃ o es ep t, h.get? a = some o ∧ o.ExactSet ∧ o.data = .set es ep t ∧ ElemsOf (intKind P w) es.toList ∧ (∀ k, S k = true ↔ ∃ e ∈ es.toList, (intKind P w).is k e.2 = true) ∧ es.size < scanBound ∧ t.fits es.size = true ∧ es.size = n ∧ TabOk led t
theorem SetT.at {h h' : Heap} {a : Addr} {S : Int → Bool} {n : Nat} (x : SetT P w led h a S n) (k : ∀ o, h.get? a = some o → h'.get? a = some o) : SetT P w led h' a S n := by
  obtain ⟨o, es, ep, t, ho, r⟩ := x
  exact ⟨o, es, ep, t, k o ho, r⟩
theorem SetT.congr {h : Heap} {a : Addr} {S S' : Int → Bool} {n n' : Nat} (x : SetT P w led h a S n) (e : ∀ k, S k = S' k) (en : n = n') : SetT P w led h a S' n' := by
  obtain rfl : S = S' := funext e
  subst en; exact x
theorem put_set {a : Addr} {u : Obj} {es es' : Array (Int × Value)} {ep : Nat} {t t' : SetTable} {h : Heap} (hu : h.get? a = some u) (hx : u.ExactSet) (hd : u.data = .set es ep t) {S : Int → Bool}
    (c1 : ElemsOf (intKind P w) es'.toList) (c2 : ∀ k, S k = true ↔ ∃ e ∈ es'.toList, (intKind P w).is k e.2 = true) (c3 : es'.size < scanBound) (c4 : t'.fits es'.size = true) (c5 : TabOk led t') :
    (h.update a (Obj.putSet es' t')).get? a = some { u with data := .set es' (ep + 1) t' } ∧ SetT P w led (h.update a (Obj.putSet es' t')) a S es'.size := by
  have g := (SetOf_store (knd := intKind P w) hu hx hd c1 c2 c3 c4).1
  exact ⟨g, _, es', ep + 1, t', g, hx, rfl, c1, c2, c3, c4, rfl, c5⟩
theorem set_add {a : Addr} {S : Int → Bool} {n : Nat} {k : Int} {tk : Tok} {Q : Bool → Shared → Prop} (hS : SetT P w led s.heap a S n) (hroom : n + 1 < scanBound)
    (h : ∀ h', Heap.SameBut a s.heap h' → SetT P w led h' a (fun j => S j || decide (j = k)) (if S k then n else n + 1) → Q (!S k) { s with heap := h' }) :
    wpAny (model P w) A (setAddHashed a (.int k tk) ((intKind P w).hash k)) Q E s := by
  obtain ⟨u, es, ep, t, hu, hx, hd, c1, c2, c3, c4, hn, c5⟩ := hS
  have ky : (intKind P w).is k (.int k tk) = true := intKind_is _ _ _ _
  have sc : (Value.int k tk).scannable = true := rfl
  have hb1 : es.size + 1 < scanBound := by rw [hn]; exact hroom
  unfold setAddHashed setAddHashedIn
  refine wpAny_holding ?_
  refine wpAny_bind (wpAny_setState_of hu hd c4 ?_)
  dsimp only
  rw [byScan_of sc c3 c1, if_pos rfl]
  unfold setAddByScan
  refine wpAny_bind (wpAny_bind (wpAny_rule ?_))
  refine wpAny_bind (wpAny_setScan_of ky hu hd c4 c1 ?_)
  cases fnd : es.toList.findIdx? (fun e => (intKind P w).is k e.2) with
  | some j =>
    dsimp only
    obtain ⟨hj, pj, _⟩ := List.findIdx?_eq_some_iff_getElem.mp fnd
    have Sk : S k = true := (c2 k).mpr ⟨es.toList[j], List.getElem_mem hj, pj⟩
    have q := h s.heap (Heap.SameBut.refl a s.heap) ⟨u, es, ep, t, hu, hx, hd, c1, fun j' => by
      rw [Bool.or_eq_true, decide_eq_true_eq, ← c2 j']
      exact ⟨fun z => z.elim id fun e => by rw [e]; exact Sk, Or.inl⟩, c3, c4, by rw [Sk]; exact hn, c5⟩
    rw [Sk] at q
    exact wpAny_pure (wpAny_pure q)
  | none =>
    dsimp only
    have Sk : S k = false := by
      rw [← Bool.not_eq_true, c2 k]
      rintro ⟨e, he, pe⟩
      have z := List.findIdx?_eq_none_iff.mp fnd e he
      rw [pe] at z; cases z
    have way : ∀ (b : Bool) {s1 : Shared} {Q1 : Unit → Shared → Prop}, Q1 () s1 → wpAny (model P w) A (match b with | true => rule "set.scan.the-table-gave-way" | false => pure ()) Q1 E s1 :=
      fun b s1 Q1 q => by cases b <;> first | exact wpAny_pure q | exact wpAny_rule q
    have pm := layNew_perm t es ((intKind P w).hash k) (.int k tk)
    have ft := layNew_fits t es ((intKind P w).hash k) (.int k tk)
    have tb := tab_layNew c5 es ((intKind P w).hash k) (.int k tk)
    generalize layNew t es ((intKind P w).hash k) (.int k tk) = L at pm ft tb ⊢
    obtain ⟨es1, t1, wasDummy, gave⟩ := L
    dsimp only at pm ft tb ⊢
    rw [Array.toList_push] at pm
    have d1 : ElemsOf (intKind P w) es1.toList := (c1.push ky sc).perm pm
    have d2 : ∀ j, (S j || decide (j = k)) = true ↔ ∃ e ∈ es1.toList, (intKind P w).is j e.2 = true := mem_push_iff ky c2 pm
    have z1 : es1.size = n + 1 := by
      have l := pm.length_eq
      rw [List.length_append, Array.length_toList, Array.length_toList, hn] at l
      exact l
    have d3 : es1.size < scanBound := by omega
    refine wpAny_bind (way _ ?_)
    obtain ⟨g1, T1⟩ := put_set (S := fun j => S j || decide (j = k)) hu hx hd d1 d2 d3 ft tb
    have sb1 := Heap.SameBut.update s.heap a (Obj.putSet es1 t1)
    have fin : ∀ h', Heap.SameBut a s.heap h' → SetT P w led h' a (fun j => S j || decide (j = k)) es1.size → Q true { s with heap := h' } := fun h' sb T => by
      have q := h h' sb
      rw [Sk] at q
      rw [z1] at T
      exact q T
    have pm2 := relayAll_perm t1 es1 (SetTable.grown es1.size)
    have ft2 := relayAll_fits t1 es1 (SetTable.grown es1.size)
    have tb2 := tab_relay tb es1 (SetTable.grown es1.size)
    have hv : hashByValue 8 (Value.int k tk) = pure true := rfl
    split
    · refine wpAny_bind ?_
      rw [hv]
      refine wpAny_pure ?_
      simp only [if_true]
      refine wpAny_bind (wpAny_storeSet_of hu hd ?_ (fits_of_scanBound d3))
      split
      · generalize relayAll t1 es1 (SetTable.grown es1.size) = L2 at pm2 ft2 tb2 ⊢
        obtain ⟨es2, t2, gave2⟩ := L2
        dsimp only at pm2 ft2 tb2 ⊢
        have z2 : es2.size = es1.size := by
          have l := pm2.length_eq
          rwa [Array.length_toList, Array.length_toList] at l
        have f2 : ∀ j, (S j || decide (j = k)) = true ↔ ∃ e ∈ es2.toList, (intKind P w).is j e.2 = true := fun j => (d2 j).trans ⟨fun ⟨e, he, q⟩ => ⟨e, pm2.mem_iff.mpr he, q⟩, fun ⟨e, he, q⟩ => ⟨e, pm2.mem_iff.mp he, q⟩⟩
        refine wpAny_bind (way _ ?_)
        refine wpAny_bind (wpAny_storeSet_of g1 rfl ?_ (fits_of_scanBound (by rw [z2]; exact d3)))
        obtain ⟨g2, T2⟩ := put_set (S := fun j => S j || decide (j = k)) (led := led) g1 hx rfl (d1.perm pm2) f2 (by rw [z2]; exact d3) ft2 tb2
        rw [z2] at T2
        exact wpAny_pure (wpAny_pure (fin _ (sb1.trans (Heap.SameBut.update _ a _)) T2))
      · exact wpAny_pure (wpAny_pure (fin _ sb1 T1))
    · refine wpAny_bind (wpAny_pure ?_)
      simp only [if_true]
      refine wpAny_bind (wpAny_storeSet_of hu hd ?_ (fits_of_scanBound d3))
      split
      · generalize relayAll t1 es1 (SetTable.grown es1.size) = L2 at pm2 ft2 tb2 ⊢
        obtain ⟨es2, t2, gave2⟩ := L2
        dsimp only at pm2 ft2 tb2 ⊢
        have z2 : es2.size = es1.size := by
          have l := pm2.length_eq
          rwa [Array.length_toList, Array.length_toList] at l
        have f2 : ∀ j, (S j || decide (j = k)) = true ↔ ∃ e ∈ es2.toList, (intKind P w).is j e.2 = true := fun j => (d2 j).trans ⟨fun ⟨e, he, q⟩ => ⟨e, pm2.mem_iff.mpr he, q⟩, fun ⟨e, he, q⟩ => ⟨e, pm2.mem_iff.mp he, q⟩⟩
        refine wpAny_bind (way _ ?_)
        refine wpAny_bind (wpAny_storeSet_of g1 rfl ?_ (fits_of_scanBound (by rw [z2]; exact d3)))
        obtain ⟨g2, T2⟩ := put_set (S := fun j => S j || decide (j = k)) (led := led) g1 hx rfl (d1.perm pm2) f2 (by rw [z2]; exact d3) ft2 tb2
        rw [z2] at T2
        exact wpAny_pure (wpAny_pure (fin _ (sb1.trans (Heap.SameBut.update _ a _)) T2))
      · exact wpAny_pure (wpAny_pure (fin _ sb1 T1))
end
end TS

set_option Elab.async false
set_option linter.all false
set_option maxRecDepth 100000
set_option maxHeartbeats 4000000
namespace TS
open PySem PySem.Spec PyProof.Rows
theorem entry_set_iter : entryFor table "set.__iter__" = some Builtin.«frozenset.__iter__» := entryFor_alias (id' := "frozenset.__iter__") (by kernel_rfl) rfl (by decide +kernel) (by kernel_rfl)
theorem slot_si_next : Slot "set_iterator" "__next__" "set_iterator.__next__" :=
  .of (owner := "set_iterator") (n := "__next__") (by rw [typeLookup_type, builtinLookup_eq_fast]; kernel_rfl) (by decide +kernel) (by decide +kernel) (by decide +kernel)
    (by first | exact .inl (by decide +kernel) | exact .inr (by decide +kernel)) (by rw [isSubtype_type]; kernel_rfl)
theorem entry_si_next : entryFor table "set_iterator.__next__" = some Builtin.«set_iterator.__next__» := entryFor_of_tree (by kernel_rfl)
theorem args_si_next (a : Value) : argsOk "set_iterator.__next__" ⟨[a], []⟩ := by unfold argsOk; kernel_rfl
theorem slot_si_iter : Slot "set_iterator" "__iter__" "set_iterator.__iter__" :=
  .of (owner := "set_iterator") (n := "__iter__") (by rw [typeLookup_type, builtinLookup_eq_fast]; kernel_rfl) (by decide +kernel) (by decide +kernel) (by decide +kernel)
    (by first | exact .inl (by decide +kernel) | exact .inr (by decide +kernel)) (by rw [isSubtype_type]; kernel_rfl)
def IsSI (h : Heap) (I a : Addr) (first : Value) (i n ep : Nat) : Prop := ∃ o, h.get? I = some o ∧ o.cls = .type "set_iterator" ∧ o.data = .fields #[first, .int i 0, .ref a, .int n 0, .int ep 0]
section
variable {P : Program} {w : World} {A : Around} {E : Value → Shared → Prop} {s : Shared}
theorem si_next {I a : Addr} {slot i n ep nx : Nat} {u : Obj} {es : Array (Int × Value)} {t : SetTable} {x : Value} {Q : Option Value → Shared → Prop} (hit : IsSI s.heap I a (.int slot 0) i n ep)
    (hu : s.heap.get? a = some u) (hd : u.data = .set es ep t) (hf : t.fits es.size = true) (hn : es.size = n)
    (hs : ∀ (A' : Around) (Q' : Option (Value × Nat) → Shared → Prop) (E' : Value → Shared → Prop), Q' (some (x, nx)) s → wpAny (model P w) A' (setNext a slot i ep) Q' E' s)
    (hQ : ∀ h', IsSI h' I a (.int nx 0) (i + 1) n ep → Heap.SameBut I s.heap h' → Q (some x) { s with heap := h' }) : wpAny (model P w) A (pyNext (.ref I)) Q E s := by
  obtain ⟨o, ho, hc, hdo⟩ := id hit
  have hT : s.TypeIs (.ref I) "set_iterator" := ⟨o, ho, hc⟩
  unfold pyNext
  refine wpAny_bind (wpAny_attempt (wpAny_callSpecial?_slot (name := Str.ofString "__next__") hT slot_si_next
    (wpAny_call_entry slot_si_next hT entry_si_next ?_ (args_si_next _))))
  unfold Builtin.«set_iterator.__next__» slotArgs
  simp only [List.isEmpty_nil, Bool.not_true, Bool.false_eq_true, ↓reduceIte, bind_assoc, List.length_nil, bne_self_eq_false]
  refine wpAny_bind (wpAny_pure ?_)
  refine wpAny_bind (wpAny_fieldsOf ho hdo ?_)
  dsimp only
  refine wpAny_bind (wpAny_setEntries_of hu hd hf ?_)
  rw [hn]
  simp only [bne_self_eq_false, Bool.false_eq_true, ↓reduceIte, Int.toNat_natCast]
  refine wpAny_bind (hs _ _ _ ?_)
  dsimp only
  refine wpAny_bind (wpAny_setField ho hdo (by simp) ?_)
  refine wpAny_bind (wpAny_setField (Heap.get?_update_self _ ho (Obj.isFreed_of_fields (Obj.data_mapFields hdo _))) (Obj.data_mapFields hdo _) (by simp) ?_)
  refine wpAny_pure ⟨x, rfl, wpAny_pure (hQ _ ⟨_, Heap.get?_update_self _ (Heap.get?_update_self _ ho (Obj.isFreed_of_fields (Obj.data_mapFields hdo _))) (Obj.isFreed_of_fields (Obj.data_mapFields (Obj.data_mapFields hdo _) _)), (Obj.cls_mapFields ..).trans ((Obj.cls_mapFields ..).trans hc), ?_⟩ ((Heap.SameBut.update ..).trans (Heap.SameBut.update ..)))⟩
  rw [Obj.data_mapFields (Obj.data_mapFields hdo _)]
  simp [rawInt]
theorem wpAny_pick {src : Source} {m : Nat} {Q : Nat → Shared → Prop} (hm : m ≠ 0) (h : Q (w.draws src (s.drawn.get src) % m) { s with drawn := s.drawn.bump src }) : wpAny (model P w) A (choose src m) Q E s := fun Γ p hΓ => by
  unfold choose
  rw [Sem.wp_choose]
  exact ⟨hm, h⟩
theorem stop_here {I : Addr} {o : Obj} {vs : Array Value} {Q : Option Value → Shared → Prop} (hh : A.handled = none) (ho : s.heap.get? I = some o) (hdo : o.data = .fields vs) (h2 : 2 < vs.size)
    (hQ : ∀ h', Heap.ExtBut I s.heap h' → Q none { s with heap := h' }) :
    wpAny (model P w) A.in1 (setField (.ref I) 2 .none >>= fun _ => newExc (.type "StopIteration") [] >>= fun e => (raiseNew e : Sem Fin)) (fun fin s' => ∃ v, fin = Fin.done (Flow.ret v) ∧ wpAny (model P w) A (pure (some v)) Q E s')
      (fun e s' => wpAny (model P w) A (isInstance e (Value.type "StopIteration") >>= fun b => if b = true then pure none else throw e) Q E s') s := by
  refine wpAny_bind (wpAny_setField ho hdo h2 ?_)
  refine wpAny_bind ?_
  simp only [newExc, newTuple]
  refine wpAny_bind (wpAny_newObj_type ?_ (by size_fits))
  refine wpAny_bind (m := firstArgMember _ _) (wpAny_of_eq (a := Value.none) (by first | rfl | (simp only [firstArgMember]; rfl)) ?_)
  refine wpAny_newObj_type ?_ (by size_fits)
  simp only [raiseNew]
  refine wpAny_bind (wpAny_handled ?_)
  first | rw [show A.in1.handled = none from hh] | rw [hh]
  refine wpAny_bind (wpAny_pure (wpAny_throw ?_))
  refine wpAny_bind (wpAny_isInstance (T := "StopIteration") (b := true) ⟨_, Heap.get?_push_size _ rfl, rfl⟩ isSubtype_stop ?_)
  exact wpAny_pure (hQ _ (((Heap.SameBut.update ..).extBut.push _).push _))
theorem si_end {I a : Addr} {slot i n ep : Nat} {u : Obj} {es : Array (Int × Value)} {t : SetTable} {Q : Option Value → Shared → Prop} (hh : A.handled = none) (hit : IsSI s.heap I a (.int slot 0) i n ep)
    (hu : s.heap.get? a = some u) (hd : u.data = .set es ep t) (hf : t.fits es.size = true) (hn : es.size = n)
    (hs : ∀ (A' : Around) (Q' : Option (Value × Nat) → Shared → Prop) (E' : Value → Shared → Prop), Q' none s → wpAny (model P w) A' (setNext a slot i ep) Q' E' s)
    (hQ : ∀ h', Heap.ExtBut I s.heap h' → Q none { s with heap := h' }) : wpAny (model P w) A (pyNext (.ref I)) Q E s := by
  obtain ⟨o, ho, hc, hdo⟩ := id hit
  have hT : s.TypeIs (.ref I) "set_iterator" := ⟨o, ho, hc⟩
  unfold pyNext
  refine wpAny_bind (wpAny_attempt (wpAny_callSpecial?_slot (name := Str.ofString "__next__") hT slot_si_next
    (wpAny_call_entry slot_si_next hT entry_si_next ?_ (args_si_next _))))
  unfold Builtin.«set_iterator.__next__» slotArgs
  simp only [List.isEmpty_nil, Bool.not_true, Bool.false_eq_true, ↓reduceIte, bind_assoc, List.length_nil, bne_self_eq_false]
  refine wpAny_bind (wpAny_pure ?_)
  refine wpAny_bind (wpAny_fieldsOf ho hdo ?_)
  dsimp only
  refine wpAny_bind (wpAny_setEntries_of hu hd hf ?_)
  rw [hn]
  simp only [bne_self_eq_false, Bool.false_eq_true, ↓reduceIte, Int.toNat_natCast]
  refine wpAny_bind (hs _ _ _ ?_)
  dsimp only
  exact stop_here hh ho hdo (by simp) hQ
theorem si_nextD {I a tp : Addr} {i n ep pl : Nat} {u : Obj} {es : Array (Int × Value)} {t : SetTable} {x : Int × Value} {places : Array Value} {tk : Tok} {Q : Option Value → Shared → Prop} (hit : IsSI s.heap I a (.ref tp) i n ep)
    (hu : s.heap.get? a = some u) (hd : u.data = .set es ep t) (hf : t.fits es.size = true) (hn : es.size = n) (htp : s.heap.IsTuple tp places) (hpl : places[i]? = some (.int pl tk)) (hx : es[pl]? = some x)
    (hQ : ∀ h', IsSI h' I a (.ref tp) (i + 1) n ep → Heap.SameBut I s.heap h' → Q (some x.2) { s with heap := h' }) : wpAny (model P w) A (pyNext (.ref I)) Q E s := by
  obtain ⟨o, ho, hc, hdo⟩ := id hit
  obtain ⟨op, hop, hcp, np, hdp⟩ := htp
  have hT : s.TypeIs (.ref I) "set_iterator" := ⟨o, ho, hc⟩
  unfold pyNext
  refine wpAny_bind (wpAny_attempt (wpAny_callSpecial?_slot (name := Str.ofString "__next__") hT slot_si_next
    (wpAny_call_entry slot_si_next hT entry_si_next ?_ (args_si_next _))))
  unfold Builtin.«set_iterator.__next__» slotArgs
  simp only [List.isEmpty_nil, Bool.not_true, Bool.false_eq_true, ↓reduceIte, bind_assoc, List.length_nil, bne_self_eq_false]
  refine wpAny_bind (wpAny_pure ?_)
  refine wpAny_bind (wpAny_fieldsOf ho hdo ?_)
  dsimp only
  refine wpAny_bind (wpAny_setEntries_of hu hd hf ?_)
  rw [hn]
  simp only [bne_self_eq_false, Bool.false_eq_true, ↓reduceIte, Int.toNat_natCast]
  refine wpAny_bind (wpAny_seqItems hop hdp ?_)
  dsimp only
  rw [hpl]
  dsimp only
  unfold setNextDrawn
  refine wpAny_bind (wpAny_bind (wpAny_setState_of hu hd hf ?_))
  dsimp only
  simp only [bne_self_eq_false, Bool.false_eq_true, ↓reduceIte, Int.toNat_natCast]
  rw [hx]
  dsimp only
  refine wpAny_pure ?_
  refine wpAny_bind (wpAny_setField ho hdo (by simp) ?_)
  refine wpAny_pure ⟨x.2, rfl, wpAny_pure (hQ _ ⟨_, Heap.get?_update_self _ ho (Obj.isFreed_of_fields (Obj.data_mapFields hdo _)), (Obj.cls_mapFields ..).trans hc, ?_⟩ (Heap.SameBut.update ..))⟩
  rw [Obj.data_mapFields hdo]
  simp [rawInt]
theorem si_endD {I a tp : Addr} {i n ep : Nat} {u : Obj} {es : Array (Int × Value)} {t : SetTable} {places : Array Value} {Q : Option Value → Shared → Prop} (hh : A.handled = none) (hit : IsSI s.heap I a (.ref tp) i n ep)
    (hu : s.heap.get? a = some u) (hd : u.data = .set es ep t) (hf : t.fits es.size = true) (hn : es.size = n) (htp : s.heap.IsTuple tp places) (hpl : places[i]? = none)
    (hQ : ∀ h', Heap.ExtBut I s.heap h' → Q none { s with heap := h' }) : wpAny (model P w) A (pyNext (.ref I)) Q E s := by
  obtain ⟨o, ho, hc, hdo⟩ := id hit
  obtain ⟨op, hop, hcp, np, hdp⟩ := htp
  have hT : s.TypeIs (.ref I) "set_iterator" := ⟨o, ho, hc⟩
  unfold pyNext
  refine wpAny_bind (wpAny_attempt (wpAny_callSpecial?_slot (name := Str.ofString "__next__") hT slot_si_next
    (wpAny_call_entry slot_si_next hT entry_si_next ?_ (args_si_next _))))
  unfold Builtin.«set_iterator.__next__» slotArgs
  simp only [List.isEmpty_nil, Bool.not_true, Bool.false_eq_true, ↓reduceIte, bind_assoc, List.length_nil, bne_self_eq_false]
  refine wpAny_bind (wpAny_pure ?_)
  refine wpAny_bind (wpAny_fieldsOf ho hdo ?_)
  dsimp only
  refine wpAny_bind (wpAny_setEntries_of hu hd hf ?_)
  rw [hn]
  simp only [bne_self_eq_false, Bool.false_eq_true, ↓reduceIte, Int.toNat_natCast]
  refine wpAny_bind (wpAny_seqItems hop hdp ?_)
  dsimp only
  rw [hpl]
  dsimp only
  refine wpAny_bind (wpAny_setField ho hdo (by simp) ?_)
  exact stop_here (s := { s with heap := _ }) hh (Heap.get?_update_self _ ho (Obj.isFreed_of_fields (Obj.data_mapFields hdo _))) (Obj.data_mapFields hdo _) (by simp) fun h' e => hQ h' (Heap.ExtBut.trans (Heap.SameBut.update ..).extBut e)
end
end TS

set_option Elab.async false
set_option linter.all false
set_option maxRecDepth 100000
set_option maxHeartbeats 4000000
namespace TS
open PySem PySem.Spec PyProof.Rows
theorem entry_si_iter : entryFor table "set_iterator.__iter__" = some Builtin.«dict_keyiterator.__iter__» := entryFor_alias (id' := "dict_keyiterator.__iter__") (by kernel_rfl) rfl (by decide +kernel) (by kernel_rfl)
theorem args_si_iter (a : Value) : argsOk "set_iterator.__iter__" ⟨[a], []⟩ := by unfold argsOk; kernel_rfl
section
variable {P : Program} {w : World} {A : Around} {E : Value → Shared → Prop} {s : Shared}
theorem si_self {I a : Addr} {f : Value} {i n ep : Nat} {Q : Value → Shared → Prop} (hit : IsSI s.heap I a f i n ep) (h : Q (.ref I) s) : wpAny (model P w) A (pyIter (.ref I)) Q E s := by
  obtain ⟨o, ho, hc, hdo⟩ := id hit
  have hT : s.TypeIs (.ref I) "set_iterator" := ⟨o, ho, hc⟩
  refine wpAny_pyIter_slot hT slot_si_iter (wpAny_call_entry slot_si_iter hT entry_si_iter ?_ (args_si_iter _))
  show wpAny _ _ (ret (.ref I)) _ _ s
  exact wpAny_pure ⟨_, rfl, "set_iterator", _, hT, slot_si_next.lookup, h⟩
theorem IsSI.at {h h' : Heap} {I a : Addr} {f : Value} {i n ep : Nat} (x : IsSI h I a f i n ep) (k : ∀ o, h.get? I = some o → h'.get? I = some o) : IsSI h' I a f i n ep := by
  obtain ⟨o, ho, r⟩ := x
  exact ⟨o, k o ho, r⟩
theorem next_text {a : Addr} {slot i ep : Nat} {u : Obj} {es : Array (Int × Value)} {t : SetTable} (hbt : w.params.followText "set-order" = true) (hu : s.heap.get? a = some u) (hd : u.data = .set es ep t) (hf : t.fits es.size = true)
    {Q' : Option (Value × Nat) → Shared → Prop} (h : Q' (((pickOrder (w.params.setOrder a ep) es)[i]?).map fun e => (e.2, slot)) s) : wpAny (model P w) A (setNext a slot i ep) Q' E s := by
  unfold setNext
  refine wpAny_bind (wpAny_setState_of hu hd hf ?_)
  dsimp only
  unfold setsByText
  refine wpAny_bind (wpAny_bind (wpAny_askSetting (wpAny_pure ?_)))
  show wpAny _ _ (if w.params.followText "set-order" = true then _ else _) _ _ _
  rw [if_pos hbt]
  simp only [bne_self_eq_false, Bool.false_eq_true, ↓reduceIte]
  unfold setWalk
  refine wpAny_bind (wpAny_bind (wpAny_setState_of hu hd hf ?_))
  dsimp only
  unfold setsByText
  refine wpAny_bind (wpAny_bind (wpAny_askSetting (wpAny_pure ?_)))
  show wpAny _ _ (if w.params.followText "set-order" = true then _ else _) _ _ _
  rw [if_pos hbt]
  refine wpAny_bind (wpAny_askSetting (wpAny_pure ?_))
  exact wpAny_pure h
theorem below_eq {xs : Array Nat} {slot i : Nat} (hr : Rise xs.toList) (hi : i ≤ xs.toList.length) (h1 : ∀ k, k < i → xs.toList.getD k 0 < slot) (h2 : ∀ k, i ≤ k → k < xs.toList.length → slot ≤ xs.toList.getD k 0) : SetTable.below xs slot = i := by
  obtain ⟨a0, a1, a2⟩ := below_spec xs slot hr
  by_cases hlt : SetTable.below xs slot < i
  · have b1 := a2 _ (Nat.le_refl _) (by omega)
    have b2 := h1 _ hlt
    omega
  · by_cases hgt : i < SetTable.below xs slot
    · have b1 := a1 i hgt
      have b2 := h2 i (Nat.le_refl _) (by omega)
      omega
    · omega
theorem next_plain {a : Addr} {slot i ep : Nat} {u : Obj} {es : Array (Int × Value)} {t : SetTable} (hbt : w.params.followText "set-order" = false) (hu : s.heap.get? a = some u) (hd : u.data = .set es ep t) (hf : t.fits es.size = true)
    (hl : t.led = true) (hp : t.plain = true ∨ es.size ≤ 1) (hb : SetTable.below t.place slot = i)
    {Q' : Option (Value × Nat) → Shared → Prop} (h : Q' (match es[i]?, t.place[i]? with | some (_, x), some j => some (x, j + 1) | _, _ => none) s) : wpAny (model P w) A (setNext a slot i ep) Q' E s := by
  unfold setNext
  refine wpAny_bind (wpAny_setState_of hu hd hf ?_)
  dsimp only
  unfold setsByText
  refine wpAny_bind (wpAny_bind (wpAny_askSetting (wpAny_pure ?_)))
  show wpAny _ _ (if w.params.followText "set-order" = true then _ else _) _ _ _
  rw [if_neg (by rw [hbt]; decide)]
  split
  · rename_i hdr
    have hdr' : (!t.plain && decide (es.size > 1)) = true := hdr
    rcases hp with hp | hp
    · rw [hp] at hdr'; cases hdr'
    · simp at hdr'; omega
  · refine wpAny_bind ?_
    show wpAny _ _ (if (!t.led && !es.isEmpty) = true then _ else _) _ _ _
    rw [hl]
    simp only [Bool.not_true, Bool.false_and, Bool.false_eq_true, ↓reduceIte]
    refine wpAny_pure ?_
    rw [hb]
    exact wpAny_pure h
theorem moved_next {I : Addr} {h' : Heap} (sb : Heap.SameBut I s.heap h') : Moved [I] (fun a b => b = a) s { s with heap := h' } := ⟨fun b o hb e => by rw [sb.2 b (fun z => hb (by simp [z]))]; exact e, rfl, rfl, rfl, Nat.le_refl _⟩
theorem moved_end {I : Addr} {h' : Heap} (sb : Heap.ExtBut I s.heap h') : Moved [I] (fun a b => b = a) s { s with heap := h' } := ⟨fun b o hb e => sb b o (fun z => hb (by simp [z])) e, rfl, rfl, rfl, Nat.le_refl _⟩
end
theorem walks_text {P : Program} {w : World} {A : Around} (hh : A.handled = none) {I a : Addr} (hne : a ≠ I) {u : Obj} {es : Array (Int × Value)} {ep : Nat} {t : SetTable} (hbt : w.params.followText "set-order" = true) (hd : u.data = .set es ep t) (hf : t.fits es.size = true) (hsz : (pickOrder (w.params.setOrder a ep) es).size = es.size) :
    WalksS P w A I [I, a] [I] (fun a b => b = a) es.size (fun i v => ((pickOrder (w.params.setOrder a ep) es).map (·.2))[i]? = some v) (fun i s => IsSI s.heap I a (.int 0 0) i es.size ep ∧ s.heap.get? a = some u) where
  sub := fun b hb => by simp at hb; simp [hb]
  grefl := fun _ => rfl
  gtrans := fun _ _ _ h1 h2 => h2.trans h1
  frame := fun i s h' tk st _ hk => ⟨st.1.at fun o e => hk I (by simp) o e, hk a (by simp) _ st.2⟩
  item := fun i s Q E hi st hQ => by
    have hx : i < (pickOrder (w.params.setOrder a ep) es).size := by rw [hsz]; exact hi
    have ex : (pickOrder (w.params.setOrder a ep) es)[i]? = some (pickOrder (w.params.setOrder a ep) es)[i] := by simp [hx]
    refine si_next (nx := 0) (x := (pickOrder (w.params.setOrder a ep) es)[i].2) (slot := 0) st.1 st.2 hd hf rfl (fun A' Q' E' q => next_text hbt st.2 hd hf (by rw [ex]; exact q)) fun h' it sb => ?_
    exact hQ _ _ (by simp [ex]) ⟨it, by rw [sb.2 a hne]; exact st.2⟩ (moved_next sb)
  done := fun s Q E st hQ => by
    refine si_end (slot := 0) hh st.1 st.2 hd hf rfl (fun A' Q' E' q => next_text hbt st.2 hd hf (by
      rw [show (pickOrder (w.params.setOrder a ep) es)[es.size]? = none by simp [hsz]]; exact q)) fun h' sb => hQ _ (moved_end sb)
  self := fun i s Q E st hQ => si_self st.1 hQ
theorem walks_plain {P : Program} {w : World} {A : Around} (hh : A.handled = none) {I a : Addr} (hne : a ≠ I) {u : Obj} {es : Array (Int × Value)} {ep : Nat} {t : SetTable} (hbt : w.params.followText "set-order" = false) (hd : u.data = .set es ep t) (hf : t.fits es.size = true) (hl : t.led = true) (hp : t.plain = true ∨ es.size ≤ 1) (hr : Rise t.place.toList) :
    WalksS P w A I [I, a] [I] (fun a b => b = a) es.size (fun i v => (es.map (·.2))[i]? = some v) (fun i s => ∃ slot : Nat, IsSI s.heap I a (.int slot 0) i es.size ep ∧ s.heap.get? a = some u ∧ i ≤ es.size ∧ (∀ k, k < i → t.place.toList.getD k 0 < slot) ∧ ∀ k, i ≤ k → k < t.place.toList.length → slot ≤ t.place.toList.getD k 0) where
  sub := fun b hb => by simp at hb; simp [hb]
  grefl := fun _ => rfl
  gtrans := fun _ _ _ h1 h2 => h2.trans h1
  frame := fun i s h' tk st _ hk => by
    obtain ⟨slot, x1, x2, x3⟩ := st
    exact ⟨slot, x1.at fun o e => hk I (by simp) o e, hk a (by simp) _ x2, x3⟩
  item := fun i s Q E hi st hQ => by
    obtain ⟨slot, x1, x2, x3, x4, x5⟩ := st
    have hpl : t.place.toList.length = es.size := by
      simp only [SetTable.fits, Bool.and_eq_true, beq_iff_eq, decide_eq_true_eq] at hf
      simpa using hf.1
    have hil : i < t.place.toList.length := by omega
    have e1 : es[i]? = some es[i] := by simp [hi]
    have e2 : t.place[i]? = some (t.place.toList.getD i 0) := by
      rw [← Array.getElem?_toList, List.getElem?_eq_getElem hil]
      simp [List.getD, List.getElem?_eq_getElem hil]
    refine si_next (nx := t.place.toList.getD i 0 + 1) (x := es[i].2) (slot := slot) x1 x2 hd hf rfl (fun A' Q' E' q => next_plain hbt x2 hd hf hl hp (below_eq hr (by omega) x4 x5) (by rw [e1, e2]; exact q)) fun h' it sb => ?_
    refine hQ _ _ (by simp [e1]) ⟨_, it, by rw [sb.2 a hne]; exact x2, hi, fun k hk => ?_, fun k hk hk2 => ?_⟩ (moved_next sb)
    · by_cases hki : k = i
      · rw [hki]; omega
      · have := rise_lt hr (show k < i by omega) hil
        omega
    · have := rise_lt hr (show i < k by omega) hk2
      omega
  done := fun s Q E st hQ => by
    obtain ⟨slot, x1, x2, x3, x4, x5⟩ := st
    have hpl : t.place.toList.length = es.size := by
      simp only [SetTable.fits, Bool.and_eq_true, beq_iff_eq, decide_eq_true_eq] at hf
      simpa using hf.1
    refine si_end (slot := slot) hh x1 x2 hd hf rfl (fun A' Q' E' q => next_plain hbt x2 hd hf hl hp (below_eq hr (by omega) x4 x5) (by
      rw [show es[es.size]? = none by simp]; exact q)) fun h' sb => hQ _ (moved_end sb)
  self := fun i s Q E st hQ => by
    obtain ⟨slot, x1, _⟩ := st
    exact si_self x1 hQ
theorem walks_drawn {P : Program} {w : World} {A : Around} (hh : A.handled = none) {I a tp : Addr} (hne : a ≠ I) (hnt : tp ≠ I) {u : Obj} {es : Array (Int × Value)} {ep : Nat} {t : SetTable} (hd : u.data = .set es ep t) (hf : t.fits es.size = true) (pl : List Nat) (hpl : pl.length = es.size) (hin : ∀ x ∈ pl, x < es.size) :
    WalksS P w A I [I, a, tp] [I] (fun a b => b = a) es.size (fun i v => (pl.map fun k => (es.getD k (0, Value.none)).2)[i]? = some v) (fun i s => IsSI s.heap I a (.ref tp) i es.size ep ∧ s.heap.get? a = some u ∧ s.heap.IsTuple tp (pl.map fun (k : Nat) => rawInt k).toArray) where
  sub := fun b hb => by simp at hb; simp [hb]
  grefl := fun _ => rfl
  gtrans := fun _ _ _ h1 h2 => h2.trans h1
  frame := fun i s h' tk st _ hk => ⟨st.1.at fun o e => hk I (by simp) o e, hk a (by simp) _ st.2.1, let ⟨o, ho, r⟩ := st.2.2; ⟨o, hk tp (by simp) o ho, r⟩⟩
  item := fun i s Q E hi st hQ => by
    have hil : i < pl.length := by omega
    have e1 : pl[i]? = some pl[i] := List.getElem?_eq_getElem hil
    have hk := hin _ (List.getElem_mem hil)
    refine si_nextD (pl := pl[i]) (x := es.getD pl[i] (0, Value.none)) (tk := 0) st.1 st.2.1 hd hf rfl st.2.2 (by simp [e1, rawInt]) (by simp [hk, Array.getD]) fun h' it sb => ?_
    refine hQ _ _ (by simp [e1]) ⟨it, by rw [sb.2 a hne]; exact st.2.1, let ⟨o, ho, r⟩ := st.2.2; ⟨o, by rw [sb.2 tp hnt]; exact ho, r⟩⟩ (moved_next sb)
  done := fun s Q E st hQ => si_endD hh st.1 st.2.1 hd hf rfl st.2.2 (by simp [hpl]) fun h' sb => hQ _ (moved_end sb)
  self := fun i s Q E st hQ => si_self st.1 hQ
end TS

set_option Elab.async false
set_option linter.all false
set_option maxRecDepth 100000
set_option maxHeartbeats 4000000
namespace TS
open PySem PySem.Spec PyProof.Rows
def led0 (w : World) : Bool := !(w.params.followText "set-order")
section
variable {P : Program} {w : World} {A : Around} {E : Value → Shared → Prop} {s : Shared}
theorem new_set1 (a : Value) {Q₁ : Value → Shared → Prop}
    (hq : Q₁ (.ref s.heap.objs.size) { s with heap := s.heap.push { cls := .type "set", dict := none, data := .set #[] 0 (.fresh 0 0 (led0 w)) } }) :
    codeAny (model P w) A (.call (.builtin "set.__new__") ⟨[.type "set", a], []⟩) (wants Q₁ E) s := by
  refine codeAny_of_tree ?_
  show wpAny _ A.in1 (checkBuiltinCall "set.__new__" ⟨[.type "set", a], []⟩ >>= fun _ => again (.builtin "set.__new__" ⟨[.type "set", a], []⟩)) _ _ s
  refine wpAny_bind ?_
  refine wpAny_of_eq (F.newCall_set_1 a) ?_
  refine wpAny_pure ⟨plainId_quiet F.plain_set_new _, codeAny_builtin F.entry_set_new ?_⟩
  rw [Around.under_plainId F.plain_set_new _]
  unfold Builtin.«set.__new__» Builtin.Frozenset.newClass
  have ss := sub_set_self
  obtain ⟨h1, h2, h3, h4, h5⟩ := s
  dsimp only
  wp_walk
  refine wpAny_askSetting (wpAny_pure ?_)
  dsimp only
  simp only [newObj]
  refine wpAny_bind (wpAny_alloc ?_)
  exact wpAny_pure (wpAny_pure hq)
end
section
variable {P : Program} {w : World} {A : Around} {R : Result → Shared → Prop} {I : Addr} {fp wr : List Addr} {G : Array GenState → Array GenState → Prop} {n : Nat} {Pv : Nat → Value → Prop} {St : Nat → Shared → Prop} {led : Bool}
theorem set_loop (W : WalksS P w A.in1 I fp wr G n Pv St) (S : Addr) (hSf : S ∉ fp)
    (val : Nat → Int) (hval : ∀ i v, Pv i v → ∃ t, v = .int (val i) t) (hb : n + 1 < scanBound) :
    ∀ (k i : Nat) (s : Shared), n - i = k → i ≤ n → St i s →
      SetT P w led s.heap S (fun j => (firstMet val i).any (· == j)) (firstMet val i).length →
      (∀ s', Moved (S :: wr) G s s' → SetT P w led s'.heap S (fun j => (firstMet val n).any (· == j)) (firstMet val n).length → R (.ok (.ret .none)) s') →
      codeAny (model P w) A (.builtin "set.update.loop" ⟨[.ref S, .ref I], []⟩) R s := by
  have nw : S ∉ wr := fun z => hSf (W.sub _ z)
  have sw : ∀ b ∈ wr, b ∈ S :: wr := fun b z => List.mem_cons_of_mem _ z
  intro k
  induction k with
  | zero =>
    intro i s hk hi st T hR
    obtain rfl : i = n := by omega
    refine codeAny_builtin F.entry_set_update_loop ?_
    rw [Around.under_plainId F.plain_set_update_loop _]
    show wpAny _ A.in1 (pyNext (.ref I) >>= _) _ _ s
    refine wpAny_bind (W.done s _ _ st fun s' m => ?_)
    show wpAny _ A.in1 (ret Value.none) _ _ s'
    exact wpAny_pure (hR s' (m.mono sw) (T.at fun o e => m.heap S o nw e))
  | succ k ih =>
    intro i s hk hi st T hR
    have lt : i < n := by omega
    refine codeAny_builtin F.entry_set_update_loop ?_
    rw [Around.under_plainId F.plain_set_update_loop _]
    show wpAny _ A.in1 (pyNext (.ref I) >>= _) _ _ s
    refine wpAny_bind (W.item i s _ _ lt st fun v s' pv st' m => ?_)
    obtain ⟨t, rfl⟩ := hval i v pv
    have T' := T.at (h' := s'.heap) fun o e => m.heap S o nw e
    show wpAny _ A.in1 (holding [Value.int (val i) t] (setAdd S (.int (val i) t)) >>= _) _ _ s'
    refine wpAny_bind (wpAny_holding ?_)
    unfold setAdd
    refine wpAny_holding ?_
    refine wpAny_bind ((intKind P w).pyHash (k := val i) (intKind_is _ _ _ _) ?_)
    have room : (firstMet val i).length + 1 < scanBound := by have := firstMet_length_le val i; omega
    refine set_add (s := { s' with toks := s'.toks + 1 }) T' room fun h' sb T2 => ?_
    have T3 : SetT P w led h' S (fun j => (firstMet val (i + 1)).any (· == j)) (firstMet val (i + 1)).length := T2.congr (fun j => by rw [firstMet_succ, step_any]) (by rw [firstMet_succ, step_length])
    refine wpAny_pure ⟨plainId_quiet F.plain_set_update_loop _, ih (i + 1) _ (by omega) lt (W.frame _ s' _ _ st' (Nat.le_succ _) fun b hb' o e => ?_) T3 fun s'' m'' T'' => ?_⟩
    · rw [sb.2 b fun z : b = S => hSf (z ▸ hb')]; exact e
    · refine hR s'' (Moved.trans W.gtrans ((m.mono sw).then_heap (Nat.le_succ _) fun b o hb' e => ?_) m'') T''
      rw [sb.2 b fun z : b = S => hb' (by rw [z]; exact List.mem_cons_self)]; exact e
end
section
variable {P : Program} {w : World} {A : Around} {E : Value → Shared → Prop} {s : Shared}
theorem set_of_tup {l : Addr} {its : Array Value} {ns : List Int} {Q : Value → Shared → Prop}
    (hh : A.handled = none) (hl : s.heap.IsTuple l its) (hi : IntsAre its.toList ns) (hb : its.size + 1 < scanBound)
    (h : ∀ (h' : Heap) (tk : Nat), SetT P w (led0 w) h' s.heap.objs.size (fun k' => (firstMet (fun i => ns.getD i 0) its.size).any (· == k')) (firstMet (fun i => ns.getD i 0) its.size).length →
      (∀ b o, b < s.heap.objs.size → s.heap.get? b = some o → h'.get? b = some o) → Q (.ref s.heap.objs.size) { s with heap := h', toks := tk }) :
    wpAny (model P w) A (call (.type "set") [.ref l]) Q E s := by
  obtain ⟨c, tl, ur⟩ := F.called_set.mro
  have um := F.called_set.made
  have ub := F.called_set.sub
  refine wpAny_call (codeAny_of_tree ?_)
  show wpAny _ _ (callAny (.type "set") _) _ _ _
  refine wpAny_pure ⟨Code.quiet_builtin _ (by decide +kernel), codeAny_builtin F.entry_type_call ?_⟩
  rw [Around.under_plain (weight_type_call_type "set" [.ref l] []) rfl]
  have h1 := F.called_set.notType
  have h2 := F.called_set.canCreate
  have uct := F.typeCall_set_1 (.ref l)
  repeat (any_goals (first | assumption | wp_step))
  refine codeAny_mono (new_set1 (.ref l) (E := E) (Q₁ := fun obj s₁ => obj = .ref s.heap.objs.size ∧ s₁ = { s with heap := s.heap.push { cls := .type "set", dict := none, data := .set #[] 0 (.fresh 0 0 (led0 w)) } }) ⟨rfl, rfl⟩) fun r s₁ hr => ?_
  cases r with
  | error e => exact hr
  | ok fl =>
    cases fl with
    | ret obj =>
      obtain ⟨rfl, rfl⟩ := hr
      have v : (s.heap.push { cls := .type "set", dict := none, data := .set #[] 0 (.fresh 0 0 (led0 w)) }).get? s.heap.objs.size = some { cls := .type "set", dict := none, data := .set #[] 0 (.fresh 0 0 (led0 w)) } := Heap.get?_push_size _ rfl
      have vT : Shared.TypeIs { s with heap := s.heap.push { cls := .type "set", dict := none, data := .set #[] 0 (.fresh 0 0 (led0 w)) } } (.ref s.heap.objs.size) "set" := ⟨_, v, rfl⟩
      have vl := F.called_set.init.lookup
      have vb := F.called_set.init.bind (.ref s.heap.objs.size)
      repeat (any_goals (first | assumption | wp_step))
      refine codeAny_mono (codeAny_call_builtin (R := wants (fun r s₂ => r = .none ∧ ∃ h' tk, s₂ = { s with heap := h', toks := tk } ∧
          SetT P w (led0 w) h' s.heap.objs.size (fun k' => (firstMet (fun i => ns.getD i 0) its.size).any (· == k')) (firstMet (fun i => ns.getD i 0) its.size).length ∧
          (∀ b o, b < s.heap.objs.size → s.heap.get? b = some o → h'.get? b = some o)) E) F.called_set.init.plain F.entry_set_init (check_set_init_1 vT ?_)) fun r₂ s₂ vr => ?_
      · obtain ⟨ol, uo, uc, nn, ud⟩ := hl
        obtain ⟨oc, od, oa, os1⟩ := ol
        simp only at uc ud
        subst uc; subst ud
        have uo' : (s.heap.push { cls := .type "set", dict := none, data := .set #[] 0 (.fresh 0 0 (led0 w)) }).get? l = some { cls := .type "tuple", dict := od, data := .seq its nn, slots := os1 } := Heap.get?_push_of_some _ uo
        have u1 := F.sub_tuple_set
        have u2 := F.sub_tuple_frozenset
        have hne : (Value.type "tuple" == Value.type "dict") = false := by decide
        have ul : (s.heap.push { cls := .type "set", dict := none, data := .set #[] 0 (.fresh 0 0 (led0 w)) }).IsTuple l its := ⟨_, uo', rfl, nn, rfl⟩
        unfold Builtin.«set.__init__» noKeywords Builtin.Frozenset.updateFrom
        generalize vP : pyIter = PI
        wp_walk
        subst vP
        refine wpAny_pyIter_tuple ul ?_
        refine wpAny_bind (wpAny_runValue ?_)
        have uS : l < s.heap.objs.size := Heap.lt_size uo
        have v3 : A.in1.in1.in1.handled = none := by simp [hh]
        have uI : l ≠ (s.heap.push { cls := .type "set", dict := none, data := .set #[] 0 (.fresh 0 0 (led0 w)) }).objs.size := by
          rw [Heap.size_push]; exact Nat.ne_of_lt (Nat.lt_succ_of_lt uS)
        have uf : s.heap.objs.size ∉ [(s.heap.push { cls := .type "set", dict := none, data := .set #[] 0 (.fresh 0 0 (led0 w)) }).objs.size, l] := by
          rw [Heap.size_push]; simp only [List.mem_cons, List.mem_singleton, List.not_mem_nil, or_false, not_or]
          exact ⟨Nat.ne_of_lt (Nat.lt_succ_self _), Nat.ne_of_gt uS⟩
        have uv : ∀ (i : Nat) (v : Value), its[i]? = some v → ∃ t, v = .int ((fun i => ns.getD i 0) i) t := fun i v hv =>
          IntsAre.int_at hi i v (by rw [Array.getElem?_toList]; exact hv)
        refine set_loop (led := led0 w) ((Walks.tuple v3 _ l uI its).toS) s.heap.objs.size
          uf (fun i => ns.getD i 0) uv hb (its.size - 0) 0 _ (by omega) (Nat.zero_le _)
          ⟨⟨_, Heap.get?_push_size _ rfl, rfl, rfl⟩, (ul.push _)⟩ ?v0 ?vR
        case v0 =>
          have vg : ((s.heap.push { cls := .type "set", dict := none, data := .set #[] 0 (.fresh 0 0 (led0 w)) }).push { cls := .type "tuple_iterator", data := .fields #[.ref l, .int 0 0] }).get? s.heap.objs.size
              = some { cls := .type "set", dict := none, data := .set #[] 0 (.fresh 0 0 (led0 w)) } := Heap.get?_push_of_some _ v
          exact ⟨_, #[], 0, _, vg, ⟨rfl, rfl, rfl⟩, rfl, fun e he => by simp at he, fun k => by simp [firstMet_zero], by unfold scanBound; simp, by rfl, rfl, tab_fresh _⟩
        case vR =>
          intro s' hm vS
          obtain ⟨h', g', d', tq, os'⟩ := s'
          have eg : g' = s.gens := hm.gens
          have ed : d' = s.drawn := hm.drawn
          have eo : os' = s.os := hm.os
          subst eg; subst ed; subst eo
          show wpAny _ _ _ _ _ _
          refine wpAny_pure ?_
          show wpAny _ _ (ret Value.none) _ _ _
          refine wpAny_pure ⟨rfl, h', tq, rfl, vS, fun b o hb e => ?_⟩
          have v1 : b ≠ s.heap.objs.size := Nat.ne_of_lt hb
          have v2 : b ≠ (s.heap.push { cls := .type "set", dict := none, data := .set #[] 0 (.fresh 0 0 (led0 w)) }).objs.size := by
            rw [Heap.size_push]; exact Nat.ne_of_lt (Nat.lt_succ_of_lt hb)
          exact hm.heap b o (by simp only [List.mem_cons, List.mem_singleton, List.not_mem_nil, or_false, not_or]; exact ⟨v1, v2⟩) (Heap.get?_push_of_some _ (Heap.get?_push_of_some _ e))
      · cases r₂ with
        | error e => exact vr
        | ok fl₂ =>
          cases fl₂ with
          | ret r =>
            obtain ⟨rfl, h', tk, rfl, vS, vk⟩ := vr
            repeat (any_goals (first | assumption | wp_step))
            exact h _ _ vS vk
          | _ => exact vr.elim
    | _ => exact hr.elim
theorem set_of_lst {l : Addr} {its : Array Value} {ns : List Int} {Q : Value → Shared → Prop}
    (hh : A.handled = none) (hl : s.heap.IsList l its) (hi : IntsAre its.toList ns) (hb : its.size + 1 < scanBound)
    (h : ∀ (h' : Heap) (tk : Nat), SetT P w (led0 w) h' s.heap.objs.size (fun k' => (firstMet (fun i => ns.getD i 0) its.size).any (· == k')) (firstMet (fun i => ns.getD i 0) its.size).length →
      (∀ b o, b < s.heap.objs.size → s.heap.get? b = some o → h'.get? b = some o) → Q (.ref s.heap.objs.size) { s with heap := h', toks := tk }) :
    wpAny (model P w) A (call (.type "set") [.ref l]) Q E s := by
  obtain ⟨c, tl, ur⟩ := F.called_set.mro
  have um := F.called_set.made
  have ub := F.called_set.sub
  refine wpAny_call (codeAny_of_tree ?_)
  show wpAny _ _ (callAny (.type "set") _) _ _ _
  refine wpAny_pure ⟨Code.quiet_builtin _ (by decide +kernel), codeAny_builtin F.entry_type_call ?_⟩
  rw [Around.under_plain (weight_type_call_type "set" [.ref l] []) rfl]
  have h1 := F.called_set.notType
  have h2 := F.called_set.canCreate
  have uct := F.typeCall_set_1 (.ref l)
  repeat (any_goals (first | assumption | wp_step))
  refine codeAny_mono (new_set1 (.ref l) (E := E) (Q₁ := fun obj s₁ => obj = .ref s.heap.objs.size ∧ s₁ = { s with heap := s.heap.push { cls := .type "set", dict := none, data := .set #[] 0 (.fresh 0 0 (led0 w)) } }) ⟨rfl, rfl⟩) fun r s₁ hr => ?_
  cases r with
  | error e => exact hr
  | ok fl =>
    cases fl with
    | ret obj =>
      obtain ⟨rfl, rfl⟩ := hr
      have v : (s.heap.push { cls := .type "set", dict := none, data := .set #[] 0 (.fresh 0 0 (led0 w)) }).get? s.heap.objs.size = some { cls := .type "set", dict := none, data := .set #[] 0 (.fresh 0 0 (led0 w)) } := Heap.get?_push_size _ rfl
      have vT : Shared.TypeIs { s with heap := s.heap.push { cls := .type "set", dict := none, data := .set #[] 0 (.fresh 0 0 (led0 w)) } } (.ref s.heap.objs.size) "set" := ⟨_, v, rfl⟩
      have vl := F.called_set.init.lookup
      have vb := F.called_set.init.bind (.ref s.heap.objs.size)
      repeat (any_goals (first | assumption | wp_step))
      refine codeAny_mono (codeAny_call_builtin (R := wants (fun r s₂ => r = .none ∧ ∃ h' tk, s₂ = { s with heap := h', toks := tk } ∧
          SetT P w (led0 w) h' s.heap.objs.size (fun k' => (firstMet (fun i => ns.getD i 0) its.size).any (· == k')) (firstMet (fun i => ns.getD i 0) its.size).length ∧
          (∀ b o, b < s.heap.objs.size → s.heap.get? b = some o → h'.get? b = some o)) E) F.called_set.init.plain F.entry_set_init (check_set_init_1 vT ?_)) fun r₂ s₂ vr => ?_
      · obtain ⟨ol, uo, uc, nn, ud⟩ := hl
        obtain ⟨oc, od, oa, os1⟩ := ol
        simp only at uc ud
        subst uc; subst ud
        have uo' : (s.heap.push { cls := .type "set", dict := none, data := .set #[] 0 (.fresh 0 0 (led0 w)) }).get? l = some { cls := .type "list", dict := od, data := .seq its nn, slots := os1 } := Heap.get?_push_of_some _ uo
        have u1 := F.sub_list_set
        have u2 := F.sub_list_frozenset
        have hne : (Value.type "list" == Value.type "dict") = false := by decide
        have ul : (s.heap.push { cls := .type "set", dict := none, data := .set #[] 0 (.fresh 0 0 (led0 w)) }).IsList l its := ⟨_, uo', rfl, nn, rfl⟩
        unfold Builtin.«set.__init__» noKeywords Builtin.Frozenset.updateFrom
        generalize vP : pyIter = PI
        wp_walk
        subst vP
        refine wpAny_pyIter_list ul ?_
        refine wpAny_bind (wpAny_runValue ?_)
        have uS : l < s.heap.objs.size := Heap.lt_size uo
        have v3 : A.in1.in1.in1.handled = none := by simp [hh]
        have uI : l ≠ (s.heap.push { cls := .type "set", dict := none, data := .set #[] 0 (.fresh 0 0 (led0 w)) }).objs.size := by
          rw [Heap.size_push]; exact Nat.ne_of_lt (Nat.lt_succ_of_lt uS)
        have uf : s.heap.objs.size ∉ [(s.heap.push { cls := .type "set", dict := none, data := .set #[] 0 (.fresh 0 0 (led0 w)) }).objs.size, l] := by
          rw [Heap.size_push]; simp only [List.mem_cons, List.mem_singleton, List.not_mem_nil, or_false, not_or]
          exact ⟨Nat.ne_of_lt (Nat.lt_succ_self _), Nat.ne_of_gt uS⟩
        have uv : ∀ (i : Nat) (v : Value), its[i]? = some v → ∃ t, v = .int ((fun i => ns.getD i 0) i) t := fun i v hv =>
          IntsAre.int_at hi i v (by rw [Array.getElem?_toList]; exact hv)
        refine set_loop (led := led0 w) ((Walks.list v3 _ l uI its).toS) s.heap.objs.size
          uf (fun i => ns.getD i 0) uv hb (its.size - 0) 0 _ (by omega) (Nat.zero_le _)
          ⟨⟨_, Heap.get?_push_size _ rfl, rfl, rfl⟩, (ul.push _)⟩ ?v0 ?vR
        case v0 =>
          have vg : ((s.heap.push { cls := .type "set", dict := none, data := .set #[] 0 (.fresh 0 0 (led0 w)) }).push { cls := .type "list_iterator", data := .fields #[.ref l, .int 0 0] }).get? s.heap.objs.size
              = some { cls := .type "set", dict := none, data := .set #[] 0 (.fresh 0 0 (led0 w)) } := Heap.get?_push_of_some _ v
          exact ⟨_, #[], 0, _, vg, ⟨rfl, rfl, rfl⟩, rfl, fun e he => by simp at he, fun k => by simp [firstMet_zero], by unfold scanBound; simp, by rfl, rfl, tab_fresh _⟩
        case vR =>
          intro s' hm vS
          obtain ⟨h', g', d', tq, os'⟩ := s'
          have eg : g' = s.gens := hm.gens
          have ed : d' = s.drawn := hm.drawn
          have eo : os' = s.os := hm.os
          subst eg; subst ed; subst eo
          show wpAny _ _ _ _ _ _
          refine wpAny_pure ?_
          show wpAny _ _ (ret Value.none) _ _ _
          refine wpAny_pure ⟨rfl, h', tq, rfl, vS, fun b o hb e => ?_⟩
          have v1 : b ≠ s.heap.objs.size := Nat.ne_of_lt hb
          have v2 : b ≠ (s.heap.push { cls := .type "set", dict := none, data := .set #[] 0 (.fresh 0 0 (led0 w)) }).objs.size := by
            rw [Heap.size_push]; exact Nat.ne_of_lt (Nat.lt_succ_of_lt hb)
          exact hm.heap b o (by simp only [List.mem_cons, List.mem_singleton, List.not_mem_nil, or_false, not_or]; exact ⟨v1, v2⟩) (Heap.get?_push_of_some _ (Heap.get?_push_of_some _ e))
      · cases r₂ with
        | error e => exact vr
        | ok fl₂ =>
          cases fl₂ with
          | ret r =>
            obtain ⟨rfl, h', tk, rfl, vS, vk⟩ := vr
            repeat (any_goals (first | assumption | wp_step))
            exact h _ _ vS vk
          | _ => exact vr.elim
    | _ => exact hr.elim
end
end TS

set_option Elab.async false
set_option linter.all false
set_option maxRecDepth 100000
set_option maxHeartbeats 4000000
namespace TS
open PySem PySem.Spec PyProof.Rows
theorem erase_perm {α : Type} : ∀ {l : List α} {i : Nat} {x : α}, l[i]? = some x → (x :: l.eraseIdx i).Perm l
  | [], i, x, h => by simp at h
  | y :: l, 0, x, h => by
    have : y = x := by simpa using h
    subst this
    exact List.Perm.refl _
  | y :: l, i + 1, x, h => by
    have ih := erase_perm (l := l) (i := i) (x := x) (by simpa using h)
    rw [List.eraseIdx_cons_succ]
    exact (List.Perm.swap y x _).trans (List.Perm.cons y ih)
theorem pick_go {α : Type} (next : Nat → Nat) : ∀ (fuel k : Nat) (left : List α) (out : Array α), left.length = fuel → (pickOrder.go next fuel k left out).toList.Perm (out.toList ++ left)
  | 0, k, left, out, h => by
    have : left = [] := List.length_eq_zero_iff.mp h
    subst this
    unfold pickOrder.go
    simp
  | fuel + 1, k, left, out, h => by
    unfold pickOrder.go
    have hm : next k % left.length < left.length := Nat.mod_lt _ (by omega)
    rw [List.getElem?_eq_getElem hm]
    dsimp only
    have he := erase_perm (List.getElem?_eq_getElem hm)
    have ih := pick_go next fuel (k + 1) (left.eraseIdx (next k % left.length)) (out.push left[next k % left.length]) (by rw [List.length_eraseIdx_of_lt hm]; omega)
    refine ih.trans ?_
    rw [Array.toList_push, List.append_assoc]
    exact List.Perm.append_left _ he
theorem pick_perm {α : Type} (next : Nat → Nat) (xs : Array α) : (pickOrder next xs).toList.Perm xs.toList := by
  unfold pickOrder
  have := pick_go next xs.size 0 xs.toList #[] (by simp)
  simpa using this
section
variable {P : Program} {w : World} {A : Around} {E : Value → Shared → Prop}
theorem draw_order {α : Type} : ∀ (n : Nat) (xs : List α) (s : Shared) (Q : List α → Shared → Prop), xs.length = n → (∀ ys d, ys.Perm xs → Q ys { s with drawn := d }) → wpAny (model P w) A (drawOrder n xs) Q E s
  | 0, xs, s, Q, h, hQ => by
    have : xs = [] := List.length_eq_zero_iff.mp h
    subst this
    unfold drawOrder
    exact wpAny_pure (hQ [] s.drawn (List.Perm.refl _))
  | n + 1, x :: xs, s, Q, h, hQ => by
    unfold drawOrder
    refine wpAny_bind (wpAny_pick (by simp) ?_)
    have hm : w.draws .order (s.drawn.get .order) % (x :: xs).length < (x :: xs).length := Nat.mod_lt _ (by simp)
    rw [List.getElem?_eq_getElem hm]
    dsimp only
    refine wpAny_bind (draw_order n _ _ _ (by rw [List.length_eraseIdx_of_lt hm]; omega) fun ys d hp => ?_)
    refine wpAny_pure (hQ _ d ?_)
    exact (List.Perm.cons _ hp).trans (erase_perm (List.getElem?_eq_getElem hm))
theorem iter_set {s : Shared} {a : Addr} {u : Obj} {es : Array (Int × Value)} {ep : Nat} {t : SetTable} {Q : Value → Shared → Prop} (hu : s.heap.get? a = some u) (hx : u.ExactSet) (hd : u.data = .set es ep t) (hf : t.fits es.size = true) (ht : TabOk (led0 w) t)
    (hsz : es.size ≤ sizeLine)
    (hQ : ∀ (h' : Heap) (d' : Drawn) (I : Addr) (fp : List Addr) (St : Nat → Shared → Prop) (order : List Value), (∀ b o, s.heap.get? b = some o → h'.get? b = some o) → (∀ b ∈ fp, b < h'.objs.size) → (∀ b ∈ fp, b = a ∨ s.heap.objs.size ≤ b) → I ∈ fp → s.heap.objs.size ≤ I → order.Perm (es.toList.map (·.2)) →
      (∀ A' : Around, A'.handled = none → WalksS P w A' I fp [I] (fun a b => b = a) es.size (fun i v => order[i]? = some v) St) → St 0 { s with heap := h', drawn := d' } → Q (.ref I) { s with heap := h', drawn := d' }) :
    wpAny (model P w) A (pyIter (.ref a)) Q E s := by
  have hT : s.TypeIs (.ref a) "set" := ⟨u, hu, hx.1⟩
  have hlt : a < s.heap.objs.size := Heap.lt_size hu
  refine wpAny_pyIter_slot hT F.slot_set_iter (wpAny_call_entry F.slot_set_iter hT entry_set_iter ?_ (F.args_set_iter_1 _))
  unfold Builtin.«frozenset.__iter__» Builtin.Frozenset.slot0 slotArgs
  simp only [List.isEmpty_nil, Bool.not_true, Bool.false_eq_true, ↓reduceIte, bind_assoc, List.length_nil, bne_self_eq_false]
  unfold Builtin.Frozenset.addrOf Builtin.Frozenset.sizeOf
  refine wpAny_bind (wpAny_pure ?_)
  try dsimp only
  refine wpAny_bind (wpAny_pure ?_)
  refine wpAny_bind (wpAny_bind (wpAny_setEntries_of hu hd hf (wpAny_pure ?_)))
  unfold setDrawn
  refine wpAny_bind (wpAny_bind (wpAny_setState_of hu hd hf ?_))
  dsimp only
  unfold setsByText
  refine wpAny_bind (wpAny_bind (wpAny_askSetting (wpAny_pure ?_)))
  refine wpAny_pure ?_
  show wpAny _ _ (if (!(w.params.followText "set-order") && (!t.plain && decide (es.size > 1))) = true then _ else _) _ _ _
  have oth : ∀ (o1 : Obj) b o, s.heap.get? b = some o → (s.heap.push o1).get? b = some o := fun o1 b o e => Heap.get?_push_of_some _ e
  by_cases hc : (!w.params.followText "set-order" && (!t.plain && decide (es.size > 1))) = true
  · rw [if_pos hc]
    refine wpAny_bind (draw_order _ _ _ _ (by simp) fun ys d hp => ?_)
    refine wpAny_bind ?_
    simp only [newTuple]
    refine wpAny_newObj_type ?_ (by have := hp.length_eq; rw [List.length_range] at this; show (List.toArray _).size ≤ sizeLine; rw [List.size_toArray, List.length_map, this]; exact hsz)
    have hin : ∀ x ∈ ys, x < es.size := fun x hx => by simpa using hp.mem_iff.mp hx
    have hl : ys.length = es.size := by simpa using hp.length_eq
    refine wpAny_bind (wpAny_setEpoch_of (Heap.get?_push_of_some _ hu) hd hf ?_)
    refine wpAny_bind (wpAny_newObj_type ?_)
    refine wpAny_pure ⟨_, rfl, "set_iterator", _, ⟨_, Heap.get?_push_size _ rfl, rfl⟩, slot_si_next.lookup, ?_⟩
    have sz1 : (s.heap.push { cls := .type "tuple", data := .seq (ys.map fun (i : Nat) => rawInt i).toArray }).objs.size = s.heap.objs.size + 1 := by simp [Heap.size_push]
    refine hQ _ d _ [_, a, s.heap.objs.size] _ (ys.map fun k => (es.getD k (0, Value.none)).2) (fun b o e => Heap.get?_push_of_some _ (Heap.get?_push_of_some _ e)) ?_ ?_ (by simp) (by rw [sz1]; exact Nat.le_succ _) ?_ (fun A' ha => walks_drawn (u := u) (t := t) (ep := ep) ha (I := _) (a := a) (tp := s.heap.objs.size) (by rw [sz1]; exact Nat.ne_of_lt (Nat.lt_succ_of_lt hlt)) (by rw [sz1]; exact Nat.ne_of_lt (Nat.lt_succ_self _)) hd hf ys hl hin) ⟨⟨_, Heap.get?_push_size _ rfl, rfl, rfl⟩, Heap.get?_push_of_some _ (Heap.get?_push_of_some _ hu), ⟨_, Heap.get?_push_of_some _ (Heap.get?_push_size _ rfl), rfl, _, rfl⟩⟩
    · intro b hb
      simp only [List.mem_cons, List.not_mem_nil, or_false] at hb
      rw [Heap.size_push]
      rcases hb with e | e | e
      · rw [e]; exact Nat.lt_succ_self _
      · rw [e, sz1]; exact Nat.lt_succ_of_lt (Nat.lt_succ_of_lt hlt)
      · rw [e, sz1]; exact Nat.lt_succ_of_lt (Nat.lt_succ_self _)
    · intro b hb
      simp only [List.mem_cons, List.not_mem_nil, or_false] at hb
      rcases hb with e | e | e
      · right; rw [e, sz1]; exact Nat.le_succ _
      · exact .inl e
      · right; rw [e]; exact Nat.le_refl _
    · refine (List.Perm.map _ hp).trans ?_
      have : (List.range es.size).map (fun k => (es.getD k (0, Value.none)).2) = es.toList.map (·.2) := by
        apply List.ext_getElem?
        intro i
        rw [List.getElem?_map, List.getElem?_map]
        by_cases hi : i < es.size
        · rw [List.getElem?_range hi, Array.getElem?_toList]
          simp [Array.getD, hi]
        · rw [List.getElem?_eq_none (by simpa using hi), List.getElem?_eq_none (by simpa using hi)]
          rfl
      rw [this]
  · rw [if_neg hc]
    refine wpAny_bind (wpAny_pure ?_)
    refine wpAny_bind (wpAny_setEpoch_of hu hd hf ?_)
    refine wpAny_bind (wpAny_newObj_type ?_)
    refine wpAny_pure ⟨_, rfl, "set_iterator", _, ⟨_, Heap.get?_push_size _ rfl, rfl⟩, slot_si_next.lookup, ?_⟩
    have bnd : ∀ (o1 : Obj), ∀ b ∈ [s.heap.objs.size, a], b < (s.heap.push o1).objs.size := fun o1 b hb => by
      simp only [List.mem_cons, List.not_mem_nil, or_false] at hb
      rw [Heap.size_push]
      rcases hb with e | e
      · rw [e]; exact Nat.lt_succ_self _
      · rw [e]; exact Nat.lt_succ_of_lt hlt
    have bnd2 : ∀ b ∈ [s.heap.objs.size, a], b = a ∨ s.heap.objs.size ≤ b := fun b hb => by
      simp only [List.mem_cons, List.not_mem_nil, or_false] at hb
      rcases hb with e | e
      · right; rw [e]; exact Nat.le_refl _
      · exact .inl e
    cases hbt : w.params.followText "set-order" with
    | true =>
      have hps : (pickOrder (w.params.setOrder a ep) es).size = es.size := by
        have := (pick_perm (w.params.setOrder a ep) es).length_eq
        simpa using this
      have hw : ∀ A' : Around, A'.handled = none → WalksS P w A' s.heap.objs.size [s.heap.objs.size, a] [s.heap.objs.size] (fun a b => b = a) es.size (fun i v => ((pickOrder (w.params.setOrder a ep) es).toList.map (·.2))[i]? = some v) _ := fun A' ha => by
        have := walks_text (P := P) (u := u) (t := t) ha (I := s.heap.objs.size) (a := a) (Nat.ne_of_lt hlt) hbt hd hf hps
        simpa using this
      exact hQ _ s.drawn _ [_, a] _ ((pickOrder (w.params.setOrder a ep) es).toList.map (·.2)) (fun b o e => Heap.get?_push_of_some _ e) (bnd _) bnd2 (by simp) (Nat.le_refl _) (List.Perm.map _ (pick_perm _ _)) hw ⟨⟨_, Heap.get?_push_size _ rfl, rfl, rfl⟩, Heap.get?_push_of_some _ hu⟩
    | false =>
      have hp : t.plain = true ∨ es.size ≤ 1 := by
        rw [hbt] at hc
        simp at hc
        cases hpl : t.plain with
        | true => exact .inl rfl
        | false => exact .inr (hc hpl)
      have hl : t.led = true := by rw [ht.led]; unfold led0; rw [hbt]; rfl
      have hr : Rise t.place.toList := by
        rcases hp with hp | hp
        · exact ht.rise hp
        · simp only [SetTable.fits, Bool.and_eq_true, beq_iff_eq, decide_eq_true_eq] at hf
          have hle : t.place.toList.length ≤ 1 := by simp [hf.1]; exact hp
          match t.place.toList, hle with
          | [], _ => exact List.Pairwise.nil
          | [x], _ => exact List.pairwise_singleton _ _
      have hw : ∀ A' : Around, A'.handled = none → WalksS P w A' s.heap.objs.size [s.heap.objs.size, a] [s.heap.objs.size] (fun a b => b = a) es.size (fun i v => (es.toList.map (·.2))[i]? = some v) _ := fun A' ha => by
        have := walks_plain (P := P) (u := u) (t := t) (ep := ep) ha (I := s.heap.objs.size) (a := a) (Nat.ne_of_lt hlt) hbt hd hf hl hp hr
        simpa using this
      exact hQ _ s.drawn _ [_, a] _ (es.toList.map (·.2)) (fun b o e => Heap.get?_push_of_some _ e) (bnd _) bnd2 (by simp) (Nat.le_refl _) (List.Perm.refl _) hw ⟨0, ⟨_, Heap.get?_push_size _ rfl, rfl, rfl⟩, Heap.get?_push_of_some _ hu, Nat.zero_le _, fun k hk => by omega, fun k _ _ => Nat.zero_le _⟩
end
end TS

set_option Elab.async false
set_option linter.all false
set_option maxRecDepth 100000
set_option maxHeartbeats 4000000
namespace TS
open PySem PySem.Spec PyProof.Rows
section
variable {P : Program} {w : World} {A : Around} {E : Value → Shared → Prop} {s : Shared}
theorem split_len : splitId "set.__len__" = some ("set", "__len__") := by decide +kernel
theorem ints_of {es : List (Int × Value)} (h : ElemsOf (intKind P w) es) {vs : List Value} (hp : vs.Perm (es.map (·.2))) : ∃ ns, IntsAre vs ns := by
  have hv : ∀ v ∈ vs, ∃ k t, v = .int k t := fun v hv => by
    obtain ⟨e, he, rfl⟩ := List.mem_map.mp (hp.mem_iff.mp hv)
    obtain ⟨⟨k, hk, _⟩, _⟩ := h e he
    cases hx : e.2 with
    | int i t => exact ⟨i, t, rfl⟩
    | _ => rw [hx] at hk; simp [intKind, Value.isInt] at hk
  clear hp
  induction vs with
  | nil => exact ⟨[], .nil⟩
  | cons v vs ih =>
    obtain ⟨k, t, rfl⟩ := hv v List.mem_cons_self
    obtain ⟨ns, h2⟩ := ih fun x hx => hv x (List.mem_cons_of_mem _ hx)
    exact ⟨k :: ns, .cons k t h2⟩
theorem ite_wp {α : Type} {c : Bool} {x y : Sem α} {Q : α → Shared → Prop} (hc : c = true) (h : wpAny (model P w) A x Q E s) : wpAny (model P w) A (if c = true then x else y) Q E s := by
  rw [if_pos hc]; exact h
theorem collect_set {a : Addr} {u : Obj} {es : Array (Int × Value)} {ep : Nat} {t : SetTable} {Q : List Value → Shared → Prop} (hh : A.handled = none) (hu : s.heap.get? a = some u) (hx : u.ExactSet) (hd : u.data = .set es ep t) (hf : t.fits es.size = true) (ht : TabOk (led0 w) t) (hsz : es.size < scanBound)
    (hQ : ∀ (h' : Heap) (d' : Drawn) (tk : Nat) (vs : List Value), s.heap.objs.size ≤ h'.objs.size → (∀ b o, s.heap.get? b = some o → h'.get? b = some o) → vs.Perm (es.toList.map (·.2)) → Q vs { s with heap := h', drawn := d', toks := tk }) : wpAny (model P w) A (collect (.ref a)) Q E s := by
  have hz : es.size ≤ sizeLine := fits_of_scanBound hsz
  have hlt : a < s.heap.objs.size := Heap.lt_size hu
  unfold collect
  refine wpAny_bind (wpAny_runValue (codeAny_builtin F.entry_proto_collect ?_))
  rw [Around.under_plainId F.plain_proto_collect _]
  show wpAny _ A.in1 (newList [] >>= fun l => again (.builtin "list.__iadd__" ⟨[l, .ref a], []⟩)) _ _ s
  refine wpAny_bind (wpAny_newObj_type ?_)
  refine wpAny_pure ⟨plainId_quiet F.plain_list_iadd _, codeAny_builtin F.entry_list_iadd ?_⟩
  rw [Around.under_plainId F.plain_list_iadd _]
  show wpAny _ A.in1 (Builtin.List.listExtendWith (.ref s.heap.objs.size) (.ref a) (.ref s.heap.objs.size)) _ _ _
  generalize hs1 : ({ s with heap := s.heap.push { cls := .type "list", data := .seq ([] : List Value).toArray } } : Shared) = s1
  have hz1 : s1.heap.objs.size = s.heap.objs.size + 1 := by rw [← hs1]; simp [Heap.size_push]
  have old1 : ∀ b o, s.heap.get? b = some o → s1.heap.get? b = some o := fun b o e => by rw [← hs1]; exact Heap.get?_push_of_some _ e
  have hu1 : s1.heap.get? a = some u := by rw [← hs1]; exact Heap.get?_push_of_some _ hu
  have hT : s1.TypeIs (.ref a) "set" := ⟨u, hu1, hx.1⟩
  have hL1 : s1.heap.get? s.heap.objs.size = some { cls := .type "list", data := .seq ([] : List Value).toArray } := by rw [← hs1]; exact Heap.get?_push_size _ rfl
  unfold Builtin.List.listExtendWith
  refine wpAny_bind (wpAny_typeOf hT ?_)
  have n1 : Builtin.List.listSameRef (.ref s.heap.objs.size) (.ref a) = false := by
    simp [Builtin.List.listSameRef]
    exact Nat.ne_of_gt hlt
  have n2 : (Value.type "set" == Value.type "list") = false := by decide
  have n3 : (Value.type "set" == Value.type "tuple") = false := by decide
  simp only [n1, n2, n3, Bool.or_false, Bool.false_eq_true, if_false]
  refine wpAny_bind (iter_set hu1 hx hd hf ht hz fun h' d' I fp St order k1 k2 k6 k3 k4 k5 W st => ?_)
  have hT2 : Shared.TypeIs { s1 with heap := h', drawn := d' } (.ref a) "set" := ⟨u, k1 _ _ hu1, hx.1⟩
  have hL2 := k1 _ _ hL1
  refine wpAny_bind (wpAny_holding ?_)
  unfold Builtin.List.listLengthHint
  refine wpAny_bind (wpAny_specialOf hT2 F.slot_set_len.lookup ?_)
  dsimp only
  rw [split_len]
  dsimp only
  refine wpAny_bind (wpAny_isInstance hT2 sub_set_self ?_)
  rw [if_neg (by decide)]
  refine ite_wp (by decide +kernel) ?_
  refine wpAny_bind (wpAny_typeOf hT2 ?_)
  dsimp only
  refine wpAny_pure ?_
  refine ite_wp (by decide +kernel) ?_
  · · refine wpAny_bind (wpAny_rule ?_)
      refine wpAny_bind ?_
      show wpAny _ A.in1 (updateSeq s.heap.objs.size (·.push .none) >>= fun _ => updateSeq s.heap.objs.size (·.pop)) _ _ _
      refine wpAny_bind (wpAny_updateSeq hL2 rfl ?_)
      have hL3 := Heap.get?_update_self (Obj.mapSeq (·.push Value.none)) hL2 rfl
      refine wpAny_updateSeq hL3 rfl ?_
      have hL4 := Heap.get?_update_self (Obj.mapSeq (·.pop)) hL3 rfl
      have hSf : s.heap.objs.size ∉ fp := fun hm => by
        rcases k6 _ hm with e | e
        · exact Nat.ne_of_gt hlt e
        · rw [hz1] at e; exact Nat.not_succ_le_self _ e
      have oth : ∀ b o, b ≠ s.heap.objs.size → h'.get? b = some o → ((h'.update s.heap.objs.size (Obj.mapSeq (·.push Value.none))).update s.heap.objs.size (Obj.mapSeq (·.pop))).get? b = some o :=
        fun b o hb e => (Heap.get?_update_other _ _ (Ne.symm hb)).trans ((Heap.get?_update_other _ _ (Ne.symm hb)).trans e)
      refine wpAny_pure ⟨plainId_quiet F.plain_extend_loop _, codeAny_extend_loopS (W A.in1 (by simp [hh])) hz _ hSf _ es.size 0 _ _ _ rfl (Nat.zero_le _) ((W A.in1 (by simp [hh])).frame 0 ({ s1 with heap := h', drawn := d' } : Shared) _ s1.toks st (Nat.le_refl _) fun b hb o e => oth b o (fun z => hSf (z ▸ hb)) e) hL4 (ItemsOf.nil _) fun s' acc c m hS' hacc => ?_⟩
      show wpAny _ A (load s.heap.objs.size >>= _) _ _ s'
      refine wpAny_bind (wpAny_load hS' ?_)
      refine wpAny_pure ?_
      have hol : order.length = es.size := by simpa using k5.length_eq
      have eacc : acc.toList = order := by
        apply List.ext_getElem?
        intro j
        by_cases hj : j < acc.size
        · have e1 : acc[j]? = some acc[j] := by simp [hj]
          rw [Array.getElem?_toList, e1, hacc.2 j _ e1]
        · rw [List.getElem?_eq_none (by simpa using hj), List.getElem?_eq_none (by rw [hol, ← hacc.1]; omega)]
      obtain ⟨h2, g2, d2, t2, o2⟩ := s'
      have eg : g2 = s1.gens := m.gens
      have ed : d2 = d' := m.drawn
      have eo : o2 = s1.os := m.os
      subst eg ed eo
      have q := hQ h2 d2 t2 acc.toList (Nat.le_of_lt (Heap.lt_size hS')) (fun b o e => m.heap b o (fun hb => by
        simp only [List.mem_cons, List.not_mem_nil, or_false] at hb
        have hb0 := Heap.lt_size e
        rcases hb with z | z
        · rw [z] at hb0; exact Nat.lt_irrefl _ hb0
        · rw [hz1] at k4; rw [z] at hb0; exact Nat.lt_irrefl _ (Nat.lt_of_lt_of_le hb0 (Nat.le_of_succ_le k4))) (oth b o (fun z => by
          have hb0 := Heap.lt_size e
          rw [z] at hb0; exact Nat.lt_irrefl _ hb0) (k1 b o (old1 b o e)))) (by rw [eacc]; exact k5)
      rw [← hs1]
      exact q
end
end TS

set_option Elab.async false
set_option linter.all false
set_option maxRecDepth 100000
set_option maxHeartbeats 4000000
namespace TS
open PySem PySem.Spec PyProof.Rows
section
variable {P : Program} {w : World} {A : Around} {E : Value → Shared → Prop} {s : Shared}
theorem sorted_set {a : Addr} {u : Obj} {es : Array (Int × Value)} {ep : Nat} {t : SetTable} {Q : Value → Shared → Prop} (hh : A.handled = none) (hu : s.heap.get? a = some u) (hx : u.ExactSet) (hd : u.data = .set es ep t) (hf : t.fits es.size = true) (ht : TabOk (led0 w) t) (hel : ElemsOf (intKind P w) es.toList) (h64 : es.size < 64)
    (h : ∀ (h' : Heap) (d' : Drawn) (tk : Nat) (p : Addr) (vs : List Value) (ns : List Int) (out : List Value) (ms : List Int) (e : Nat), (∀ b o, s.heap.get? b = some o → h'.get? b = some o) → s.heap.objs.size ≤ p → vs.Perm (es.toList.map (·.2)) → IntsAre vs ns → h'.get? p = some { cls := .type "list", data := .seq out.toArray e } → IntsAre out ms → ms.Perm ns → ms.Pairwise (· ≤ ·) → Q (.ref p) { s with heap := h', drawn := d', toks := tk }) :
    wpAny (model P w) A (call (.builtin "sorted") [.ref a]) Q E s := by
  refine Calls.call_function_entry kind_sorted plain_sorted entry_sorted (args_sorted1 _) ?_
  unfold Builtin.«sorted»
  refine wpAny_bind (m := checkCount "sorted" 1 1 _) (wpAny_pure ?_)
  refine wpAny_bind (collect_set (by simp [hh]) hu hx hd hf ht (by unfold scanBound; omega) fun h' d' tk vs k0 k1 k2 => ?_)
  obtain ⟨ns, hI⟩ := ints_of hel k2
  have hl : vs.length < 64 := by have := k2.length_eq; simp at this; omega
  refine wpAny_bind (wpAny_newList ?_)
  have hoL : (h'.push (seqObj "list" vs.toArray 0)).get? h'.objs.size = some (seqObj "list" vs.toArray 0) := Heap.get?_push_size _ rfl
  refine wpAny_bind (wpAny_holding (wpAny_call_entry slot_list_sort ⟨_, hoL, rfl⟩ entry_list_sort (list_sort_tree hoL hI hl fun out ms a1 a2 a3 => ⟨_, rfl, ?_⟩) (args_list_sort _)))
  obtain ⟨e, he⟩ := sortedHeap_at (out := out) hoL
  refine wpAny_pure ⟨_, rfl, h _ d' tk h'.objs.size vs ns out.toList ms e (fun b o hb => ?_) ?_ k2 hI (by simpa [seqObj] using he) a1 a2 a3⟩
  · have hb' := k1 b o hb
    have hlt := Heap.lt_size hb'
    rw [sortedHeap_old (Nat.ne_of_lt hlt) (by rw [size_push']; exact Nat.lt_succ_of_lt hlt)]
    exact Heap.get?_push_of_some _ hb'
  · exact k0
end
end TS
namespace L2
open PySem PySem.Spec PyProof.Rows
def SetX (P : Program) (w : World) (p : Addr) (ns : List Int) : Heap → Prop := fun h => ∃ (S : Int → Bool) (n : Nat), TS.SetT P w (TS.led0 w) h p S n ∧ (∀ k, S k = true ↔ k ∈ ns) ∧ n ≤ ns.length ∧ n = (ns.foldl step_dedup []).length
section
variable {X : Cx}
theorem any_mem (l : List Int) (k : Int) : (l.any (· == k)) = true ↔ k ∈ l := by
  rw [List.any_eq_true]
  exact ⟨fun ⟨x, h1, h2⟩ => by rw [← beq_iff_eq.mp h2]; exact h1, fun h => ⟨k, h, by simp⟩⟩
theorem setX_of {h : Heap} {p : Addr} {ns : List Int} {m : Nat} (hm : m = ns.length) (hS : TS.SetT X.prog X.w (TS.led0 X.w) h p (fun k' => (firstMet (fun i => ns.getD i 0) m).any (· == k')) (firstMet (fun i => ns.getD i 0) m).length) : SetX X.prog X.w p ns h := by
  subst hm
  refine ⟨_, _, hS, fun k => ?_, firstMet_length_le _ _, ?_⟩
  · rw [firstMet_any, map_getD]
    exact any_mem ns k
  · unfold firstMet
    rw [map_getD]
theorem setX_ok {H : Hp} {h : Heap} {p : Addr} {ns : List Int} (hx : SetX X.prog X.w p ns h) : ObjOk X.prog X.w (upd H p (.ext (SetX X.prog X.w p ns))) h p (.ext (SetX X.prog X.w p ns)) := by
  refine ⟨hx, ?_, fun h1 h2 q k => ?_⟩
  · obtain ⟨_, _, ⟨o, _, _, _, ho, _⟩, _⟩ := hx
    exact ⟨o, ho⟩
  · obtain ⟨S, n, T, r⟩ := q
    exact ⟨S, n, T.at k, r⟩
theorem call_setX (hc : X.calm = true) : CallR X (.type "set") (fun xs H Q => ∃ (a : Addr) (ns : List Int), xs = [.ref a] ∧ (SqL X.K H a (ns.map V.int) ∨ SqT X.K H a (ns.map V.int)) ∧ ns.length < 4000 ∧ ∀ p, H p = none → Q (.ref p) (upd H p (.ext (SetX X.prog X.w p ns)))) := by
  intro pins s σ H xs us Q I r h
  obtain ⟨a, ns, rfl, ha, hl, q⟩ := h
  obtain ⟨u, rfl, ru⟩ := vals1 r
  cases ru
  rcases ha with ha | ha
  · obtain ⟨its, rv, p, _⟩ := I.list ha
    have hn : its.toArray.size = ns.length := by
      have e := rv.length
      rw [List.length_map] at e
      simpa using e.symm
    refine TS.set_of_lst (its := its.toArray) (ns := ns) (I.ok.hd hc) p.isList (by simpa using intsAre_of rv) (by rw [hn]; show ns.length + 1 < 4096; omega) fun h' tk hS hk => ?_
    exact ⟨.ref _, _, I.laid (t' := tk) (fun b o e => hk b o (Heap.lt_size e) e) (Nat.le_refl _) (setX_ok (setX_of hn hS)), rfl, q _ (I.hok.fresh (Nat.le_refl _))⟩
  · obtain ⟨its, rv, p, _⟩ := I.tuple ha
    have hn : its.toArray.size = ns.length := by
      have e := rv.length
      rw [List.length_map] at e
      simpa using e.symm
    refine TS.set_of_tup (its := its.toArray) (ns := ns) (I.ok.hd hc) p (by simpa using intsAre_of rv) (by rw [hn]; show ns.length + 1 < 4096; omega) fun h' tk hS hk => ?_
    exact ⟨.ref _, _, I.laid (t' := tk) (fun b o e => hk b o (Heap.lt_size e) e) (Nat.le_refl _) (setX_ok (setX_of hn hS)), rfl, q _ (I.hok.fresh (Nat.le_refl _))⟩
theorem vals_of_ints : ∀ {out : List Value} {ms : List Int}, IntsAre out ms → Vals (ms.map V.int) out
  | _, _, .nil => .nil
  | _, _, .cons n t h => .cons ⟨t, rfl⟩ (vals_of_ints h)
theorem dedup_nodup : ∀ (ns acc : List Int), acc.Nodup → (ns.foldl step_dedup acc).Nodup
  | [], acc, h => h
  | n :: ns, acc, h => by
    refine dedup_nodup ns _ ?_
    unfold step_dedup
    split
    · exact h
    · rename_i hn
      rw [Bool.not_eq_true] at hn
      refine List.nodup_append.mpr ⟨h, by simp, fun a ha b hb => ?_⟩
      have : b = n := by simpa using hb
      subst this
      intro e
      subst e
      rw [(any_mem acc a).mpr ha] at hn
      cases hn
theorem ints_mem : ∀ {vs : List Value} {ns : List Int}, IntsAre vs ns → ∀ k, k ∈ ns ↔ ∃ t, Value.int k t ∈ vs
  | _, _, .nil, k => by simp
  | _, _, .cons n t h, k => by
    rw [List.mem_cons, ints_mem h k]
    constructor
    · rintro (e | ⟨t', h'⟩)
      · subst e; exact ⟨t, List.mem_cons_self⟩
      · exact ⟨t', List.mem_cons_of_mem _ h'⟩
    · rintro ⟨t', h'⟩
      rcases List.mem_cons.mp h' with e | h'
      · injection e with e _; exact .inl e
      · exact .inr ⟨t', h'⟩
theorem sub_len : ∀ {m l : List Int}, m.Nodup → (∀ k, k ∈ m → k ∈ l) → m.length ≤ l.length
  | [], l, _, _ => Nat.zero_le _
  | x :: m, l, h, hk => by
    obtain ⟨h1, h2⟩ := List.nodup_cons.mp h
    have hx := hk x List.mem_cons_self
    have ih := sub_len (m := m) (l := l.erase x) h2 fun k hm => (List.mem_erase_of_ne (fun (e : k = x) => h1 (by rw [← e]; exact hm))).mpr (hk k (List.mem_cons_of_mem _ hm))
    rw [List.length_erase_of_mem hx] at ih
    have := List.length_pos_of_mem hx
    rw [List.length_cons]
    omega
theorem nodup_of_len : ∀ {l m : List Int}, m.Nodup → (∀ k, k ∈ m ↔ k ∈ l) → l.length ≤ m.length → l.Nodup
  | [], m, _, _, _ => List.nodup_nil
  | a :: r, m, hm, hk, hl => by
    have ha : a ∉ r := fun h => by
      have := sub_len hm fun k h' => (List.mem_cons.mp ((hk k).mp h')).elim (fun e => e ▸ h) id
      rw [List.length_cons] at hl
      omega
    have ham : a ∈ m := (hk a).mpr List.mem_cons_self
    refine List.nodup_cons.mpr ⟨ha, nodup_of_len (m := m.erase a) (hm.erase a) (fun k => ?_) ?_⟩
    · rw [hm.mem_erase_iff, hk k, List.mem_cons]
      constructor
      · rintro ⟨h1, h2 | h2⟩
        · exact absurd h2 h1
        · exact h2
      · intro h
        exact ⟨fun e => ha (e ▸ h), .inr h⟩
    · rw [List.length_erase_of_mem ham]
      rw [List.length_cons] at hl
      omega
theorem call_sortedX (hc : X.calm = true) : CallR X (.builtin "sorted") (fun xs H Q => ∃ (p : Addr) (ns : List Int), xs = [.ref p] ∧ H p = some (.ext (SetX X.prog X.w p ns)) ∧ ns.length < 64 ∧
    ∀ (l : Addr) (ms : List Int), H l = none → ms.Pairwise (· < ·) → (∀ k, k ∈ ms ↔ k ∈ ns) → Q (.ref l) (upd H l (.lst (ms.map V.int)))) := by
  intro pins s σ H xs us Q I r h
  obtain ⟨p, ns, rfl, hp, hl, q⟩ := h
  obtain ⟨v, rfl, rv⟩ := vals1 r
  cases rv
  obtain ⟨⟨S, n, ⟨u, es, ep, t, hu, hx, hd, hel, hmem, hb, hf, hn, ht⟩, hS, hnl, hnd⟩, _⟩ := I.hok p _ hp
  refine TS.sorted_set (I.ok.hd hc) hu hx hd hf ht hel (by omega) fun h' d' tk l vs ks out ms e k1 k2 k3 k4 k5 k6 k7 k8 => ?_
  have hmem' : ∀ k, k ∈ ms ↔ k ∈ ns := fun k => by
    rw [k7.mem_iff, ints_mem k4 k, ← hS k, hmem k]
    constructor
    · rintro ⟨t', ht'⟩
      obtain ⟨x, hx1, hx2⟩ := List.mem_map.mp (k3.mem_iff.mp ht')
      exact ⟨x, hx1, by rw [hx2]; exact intKind_is _ _ _ _⟩
    · rintro ⟨x, hx1, hx2⟩
      obtain ⟨i, t', e'⟩ : ∃ i t', x.2 = .int i t' := by
        cases hv : x.2 with
        | int i t' => exact ⟨i, t', rfl⟩
        | _ => rw [hv] at hx2; simp [intKind, Value.isInt] at hx2
      have hik : k = i := (intKind X.prog X.w).inj (.int i t') k i (by rw [← e']; exact hx2) (intKind_is _ _ _ _)
      subst hik
      exact ⟨t', k3.mem_iff.mpr (List.mem_map.mpr ⟨x, hx1, e'⟩)⟩
  have hnod : ms.Nodup := by
    have hdd := dedup_nodup ns [] List.nodup_nil
    refine nodup_of_len hdd (fun k => ?_) ?_
    · rw [hmem' k, ← any_mem, ← any_mem]
      have := firstMet_any (fun i => ns.getD i 0) ns.length k
      unfold firstMet at this
      rw [map_getD] at this
      rw [this]
    · rw [← hnd, ← hn]
      have e1 := k7.length_eq
      have e2 := k4.length
      have e3 := k3.length_eq
      simp at e3
      omega
  have hlt : ms.Pairwise (· < ·) := by
    have := List.pairwise_and_iff.mpr ⟨k8, hnod⟩
    exact this.imp fun ⟨a, b⟩ => by omega
  have J := I.laid (t' := tk) (a := l) (o := .lst (ms.map V.int)) k1 k2 ⟨by
    rw [List.length_map, sizeLine_eq]
    have e1 := k7.length_eq
    have e2 := k4.length
    have e3 := k3.length_eq
    simp at e3
    omega, out, e, vals_of_ints k6, k5⟩
  exact ⟨.ref l, _, J.call' (s' := { s with heap := h', drawn := d', toks := tk }) (ch := []) rfl Un.refl J.hok J.bare (fun b hb => by cases hb), rfl, q l ms (I.hok.fresh k2) hlt hmem'⟩
end
end L2

set_option Elab.async false
set_option linter.all false
set_option maxRecDepth 100000
set_option maxHeartbeats 4000000
namespace L2
open PySem PySem.Spec PyProof.Rows
section
variable {X : Cx}
theorem ps_comp {el tg src : Expr} {tests : List Expr} {sc : Scope} {ps pos pos' : Pos} {N : List Str} {nt : Nat} {cap : List Nat} {wi : TI} {g : TG} {tf : TT} {te : TE} {i0 : Nat} {x0 : Str} (hN0 : X.N.Nodup) (hi0 : X.N[i0]? = some x0) (hx0 : Loc X.env.scope x0) (hc : X.calm = true) (S : CScope X sc N nt cap) (hgo : GOk g nt) (hi : PI X tg src wi)
    (hY : ∀ (cl : List (Str × Addr)) (C : Addr) (s : Shared) (H : Hp) (ex : List Addr) (pn : List (Addr × Obj)), PG (cxC X N sc cl C s H ex pn) tg g ∧ PF (cxC X N sc cl C s H ex pn) tests tf ∧ PE (cxC X N sc cl C s H ex pn) el te)
    (hs : ∀ x, foldedSetIterable src X.env x = pure x := by intro _; rfl)
    (hsw : swapsWith (.ListComp el [⟨tg, src, tests, 0⟩] sc ps) (some (.Name x0 pos')) pos.line X.env = pure true := by rfl)
    (hf0 : X.fn x0 = true ∨ X.env.scope.names.lookup x0 = some .local := by first | exact .inl rfl | exact .inr rfl | assumption) : PS X (.Assign [.Name x0 pos'] (.ListComp el [⟨tg, src, tests, 0⟩] sc ps) pos) (tAsg (tComp wi nt cap g tf te) (gName i0)) := by
  intro pins s σ H D0 I h
  obtain ⟨cl, hclos, hcl⟩ := clo_of (env := X.env) (sc := sc) fun n hn => I.ok.has n (S.frees _ hn rfl).2
  rw [exec_Assign_Name_used _ _ _ _ hsw]
  refine wpAny_bind (wpAny_standAt (wpAny_bind ?_))
  obtain ⟨Q, hQ⟩ : ∃ Q : VK, Q = fun v H1 => gName i0 v σ H1 D0.nx := ⟨_, rfl⟩
  have h : tComp wi nt cap g tf te σ H Q := by rw [hQ]; exact h
  have hQ' : ∀ v H1, Q v H1 → D0.nx (σ.set i0 (some v)) H1 := fun v H1 q => by rw [hQ] at q; exact q
  unfold evalThenUse
  refine wpAny_bind (wpAny_mono (Q := fun _ s' => SP X pins D0 .next s') ?_ (fun _ s' q => wpAny_pure (wpAny_pure q)) (fun _ _ z => z))
  refine wpAny_comprehension_free (use := some (assign (.Name x0 pos') X.env)) rfl hs hclos S.kind S.names (thn (hi pins s σ H _ I h) fun xv s1 h1 => thn h1 fun itv s2 h2 => ?_)
  obtain ⟨it, fp, tn, J, H2, e, I2, T, st2, f2, W, ⟨m0, w0⟩, turn⟩ := h2
  subst e
  refine wpAny_newObj_type (wpAny_newFunctionEnv S.nocell (by intro y hy; simp at hy) (fun h3 hns3 hsb3 => ?_) S.kind)
  dsimp only at hns3 hsb3 ⊢
  generalize hD : s2.heap.objs.size = D at hns3 hsb3 ⊢
  generalize hG : s2.heap.push { cls := .type "list", dict := none, data := .seq ([] : List Value).toArray } = G at hns3 hsb3 ⊢
  generalize hCe : G.objs.size = C at hns3 hsb3 ⊢
  have hC : C = D + 1 := by rw [← hCe, ← hG, Heap.size_push, hD]
  have hDC : D ≠ C := by omega
  have hDle : s2.heap.objs.size ≤ D := Nat.le_of_eq hD
  have hCle : s2.heap.objs.size ≤ C := by omega
  have old : ∀ b o, s2.heap.get? b = some o → h3.get? b = some o := fun b o e => hsb3.extBut b o (Nat.ne_of_lt (Nat.lt_of_lt_of_le (Heap.lt_size e) hCle)) (Heap.get?_push_of_some _ (hG ▸ Heap.get?_push_of_some _ e))
  have hacc : h3.PlainList D #[] := ⟨_, hsb3.extBut _ _ hDC (Heap.get?_push_of_some _ (hG ▸ hD ▸ Heap.get?_push_size _ rfl))⟩
  have hfs : ∀ b ∈ fp, b < s2.heap.objs.size := fun b hb => by
    obtain ⟨o, e, _⟩ := T.obj _ _ st2 b hb
    exact Heap.lt_size e
  have IB := I2.block (t' := s2.toks + ([] : List (Str × Value)).length) S hcl f2 hfs old hCle ⟨_, hns3⟩
  have hDs : D ∉ frs X.stack := fun z => by
    rcases List.mem_cons.mp (I2.stkSub D z) with e | e
    · exact absurd (Nat.lt_of_lt_of_le I2.lt hDle) (by rw [e]; exact Nat.lt_irrefl _)
    · exact I2.nofs hDle e
  have hDf : D ∉ fp := fun z => absurd (Nat.lt_of_lt_of_le (hfs D z) hDle) (Nat.lt_irrefl _)
  have hDcell : ∀ x c, cl.lookup x = some c → c ≠ D := fun x c e z => by
    obtain ⟨v, o, ho, _⟩ := I2.cell x c ((hcl x c).mp e).2
    exact absurd (Nat.lt_of_lt_of_le (Heap.lt_size ho) (by rw [z]; exact hDle)) (Nat.lt_irrefl _)
  have hDpin : ∀ p ∈ X.pn ++ pins, p.1 ≠ D := fun p hp z => absurd (Nat.lt_of_lt_of_le (Heap.lt_size (I2.pin p hp).1) (by rw [z]; exact hDle)) (Nat.lt_irrefl _)
  generalize hYe : cxC X N sc cl C s2 H2 fp (X.pn ++ pins) = Y at IB
  have fpY : ∀ {H' : Hp} {pl : List (Addr × Obj)}, (∀ b ∈ fp, H' b = none) → (∀ p ∈ pl, p.1 ∉ fp) → ∀ b ∈ fp, FpOk Y pl H' b := fun {H' pl} hn hp b hb => by
    subst hYe
    obtain ⟨_, f1, f2', f3, f4, f5⟩ := f2 b hb
    refine ⟨hn b hb, Nat.ne_of_lt (Nat.lt_of_lt_of_le (hfs b hb) hCle), fun z => ?_, .inl hb, fun x c e => f4 x c ((hcl x c).mp e).2, fun p hpp => ?_⟩
    · rcases List.mem_cons.mp (I2.stkSub b z) with e | e
      · exact f1 e
      · exact f2' e
    · rcases List.mem_append.mp hpp with z | z
      · exact f5 p z
      · exact fun e => hp p z (e ▸ hb)
  have hG1 : PG Y tg g := by subst hYe; exact (hY _ _ _ _ _ _).1
  have hF1 : PF Y tests tf := by subst hYe; exact (hY _ _ _ _ _ _).2.1
  have hE1 : PE Y el te := by subst hYe; exact (hY _ _ _ _ _ _).2.2
  have eP : Y.prog = X.prog := by subst hYe; rfl
  have eW : Y.w = X.w := by subst hYe; rfl
  have eA : Y.A = X.A := by subst hYe; rfl
  have eK : Y.K = X.K := by subst hYe; rfl
  have eE : Y.env = compEnvC sc cl C X.env := by subst hYe; rfl
  have eX : Y.xe = fun _ _ => False := by subst hYe; rfl
  have eC : Y.calm = true := by subst hYe; exact hc
  have eS : Y.s₀.heap.objs.size ≤ D := by subst hYe; exact hDle
  have eF : D ∉ Y.fs := by subst hYe; exact hDs
  have eL : D ≠ Y.env.locals := by subst hYe; exact hDC
  have eCl : ∀ x c, Y.env.cells.lookup x = some c → c ≠ D := by subst hYe; exact hDcell
  have eN : ∀ p ∈ Y.pn, p.1 ≠ D := by subst hYe; exact hDpin
  have fin : ∀ (s' : Shared) (τ : St) (H' : Hp) (acc : List V) (ys : Array Value), Inv Y [] τ H' s' → s'.heap.PlainList D ys → Vals acc ys.toList → H' D = none → acc.length ≤ sizeLine → (∀ D, H' D = none → Q (.ref D) (upd H' D (.lst acc))) →
      compPost (model X.prog X.w) X.A X.xe (some (assign (.Name x0 pos') X.env)) (fun _ s' => SP X pins D0 .next s') (.ref D) C (.ok .next) s' := by
    intro s' τ H' acc ys I' pl rv hn hz q
    subst hYe
    obtain ⟨m, hm, _⟩ := id I'.loc
    have hokD : HOk X.prog X.w H' s'.heap := I'.hok
    obtain ⟨n, ho⟩ := pl
    have new : ObjOk X.prog X.w (upd H' D (.lst acc)) s'.heap D (.lst acc) := ⟨hz, ys.toList, n, rv, by simpa using ho⟩
    have u := (I'.base.but hCle (Heap.SameBut.refl _ _)).adopt (o := .lst acc) hDle hn
    have IX : Inv X pins σ (upd H' D (.lst acc)) s' := I2.call' (s' := s') (ch := fp) I'.os u (hokD.adopt hn new) I'.bare (fun b hb => by
      obtain ⟨_, f1, _, f3, f4, f5⟩ := f2 b hb
      exact ⟨f3, f1, f4, f5⟩)
    have hCn : upd H' D (.lst acc) C = none := by
      rw [upd_ne (Ne.symm hDC)]
      exact I'.free
    have hCl : C ≠ X.env.locals := fun z => absurd (Nat.lt_of_lt_of_le I2.lt hCle) (by rw [z]; exact Nat.lt_irrefl _)
    have hCf : C ∉ X.fs := I2.nofs hCle
    obtain ⟨oC, es, ep, hoC, hdC, hst⟩ := id hm
    have IP : Inv X ((C, oC) :: pins) σ (upd H' D (.lst acc)) s' := IX.pins_of fun p hp => by
      rcases List.mem_cons.mp hp with e | e
      · subst e
        exact ⟨hoC, hCn, hCl, hCf, fun v z => by rw [hdC] at z; cases z⟩
      · exact IX.pin p (List.mem_append_right _ e)
    show wpAny _ _ (assign (.Name x0 pos') X.env (.ref D)) _ _ s'
    refine wpAny_assign_Name (store_ok IP hN0 hi0 hx0 (show RelV (.ref D) (.ref D) from rfl) (fun s3 I3 => ?_) hf0)
    have p3 := (I3.pin (C, oC) (List.mem_append_right _ (List.mem_cons_self ..))).1
    refine ⟨m, ⟨oC, es, ep, p3, hdC, hst⟩, fun h' sb => ⟨_, upd H' D (.lst acc), ?_, hQ' _ _ (q D hn)⟩⟩
    have I4 : Inv X pins (σ.set i0 (some (.ref D))) (upd H' D (.lst acc)) s3 := I3.pins_of fun p hp => I3.pin p (List.mem_append_right _ (List.mem_cons_of_mem _ hp))
    refine I4.turned (it := C) (t' := s3.toks) (fun b o hb e => (sb.2 b hb).trans e) hCn hCl (.inr (Nat.le_trans I2.sz hCle)) (fun x c e z => ?_) (fun p hp z => ?_)
    · obtain ⟨v, o, ho2, _⟩ := I2.cell x c e
      exact absurd (Nat.lt_of_lt_of_le (Heap.lt_size ho2) (by rw [z]; exact hCle)) (Nat.lt_irrefl _)
    · exact absurd (Nat.lt_of_lt_of_le (Heap.lt_size (I2.pin p hp).1) (by rw [z]; exact hCle)) (Nat.lt_irrefl _)
  have loop : codeAny (model X.prog X.w) X.A (.compLoop (.ListComp el [⟨tg, src, tests, 0⟩] sc ps) 0 (.ref it) (.ref D) (compEnvC sc cl C X.env)) (compPost (model X.prog X.w) X.A X.xe (some (assign (.Name x0 pos') X.env)) (fun _ s' => SP X pins D0 .next s') (.ref D) C)
      { s2 with heap := h3, toks := s2.toks + ([] : List (Str × Value)).length } := by
    refine comp_turns (fun n s' => ∃ i acc o H' ys, Inv Y [] (o ++ capsC cap σ) H' s' ∧ o.length = nt ∧ tn i s'.heap ∧ (∀ b ∈ fp, H' b = none) ∧ s'.heap.PlainList D ys ∧ Vals acc ys.toList ∧ H' D = none ∧ W i n acc H') ?_ m0
      ⟨0, [], List.replicate nt none, H2, #[], IB, by simp, T.keep _ _ _ st2 fun b _ o e => old b o e, fun b hb => (f2 b hb).1, hacc, .nil, I2.hok.fresh hDle, w0⟩
    rintro n s3 ⟨i, acc, o3, H3, ys, I3, ho3, st3, fr3, pl3, rv3, nD3, w3⟩
    generalize hτ : o3 ++ capsC cap σ = τ at I3
    obtain ⟨nn, ho⟩ := id pl3
    generalize hoD : ({ cls := .type "list", data := .seq ys nn } : Obj) = oD at ho
    have cellD : ∀ v, oD.data ≠ .cell v := fun v z => by subst hoD; cases z
    have I3' : Inv Y [(D, oD)] τ H3 s3 := I3.pins_of fun p hp => by
      have e : p = (D, oD) := by simpa using hp
      subst e
      exact ⟨ho, nD3, eL, eF, cellD⟩
    have nfp : ∀ p ∈ [(D, oD)], p.1 ∉ fp := fun p hp => by
      have e : p = (D, oD) := by simpa using hp
      subst e
      exact hDf
    have atD : ∀ {pl : List (Addr × Obj)} {τ' : St} {H' : Hp} {s' : Shared}, Inv Y ([(D, oD)] ++ pl) τ' H' s' → s'.heap.PlainList D ys ∧ H' D = none := fun {pl τ' H' s'} I' => by
      have q := I'.pin (D, oD) (List.mem_append_right _ (List.mem_append_left _ (by simp)))
      exact ⟨⟨nn, by rw [hoD]; exact q.1⟩, q.2.1⟩
    rcases turn i n acc H3 w3 with ⟨stop, hz, q⟩ | ⟨go, hz, N', hN, step⟩
    · have hd := T.done Y eP eW eK eC i [(D, oD)] s3 τ H3 (fun _ _ => False) I3' (fpY fr3 nfp) st3 stop
      rw [eA] at hd
      refine thn hd fun r s4 h4 => ?_
      obtain ⟨hr, I4⟩ := h4
      subst hr
      obtain ⟨pl4, n4⟩ := atD (pl := []) (by simpa using I4)
      exact fin s4 τ H3 acc ys (Inv.unpinned (pins := []) I4) pl4 rv3 n4 hz q
    · have hd := T.item Y eP eW eK eC i [(D, oD)] s3 τ H3 (fun _ _ => False) I3' (fpY fr3 nfp) st3 go
      rw [eA] at hd
      refine thn hd fun r s4 h4 => ?_
      obtain ⟨u, hr, h4⟩ := h4
      subst hr
      refine thn h4 fun _ s5 h5 => ?_
      obtain ⟨x, H5, I5, r5, y5, st5, fr5⟩ := h5
      have I5' := I5.pinned (fpY fr5 nfp) (T.obj _ _ st5)
      have q5 := hG1 _ s5 τ H5 x u _ I5' r5 (hτ ▸ hgo x o3 _ H5 _ ho3 (step o3 x H5 ho3 y5))
      rw [eP, eW, eA, eE, eX] at q5
      refine thn q5 fun _ s6 h6 => ?_
      obtain ⟨τ6, H6, I6, ⟨o6, ho6, eτ6⟩, q6⟩ := h6
      have q7 := hF1 _ s6 τ6 H6 _ I6 q6
      rw [eP, eW, eA, eE, eX] at q7
      refine thn q7 fun b s7 h7 => ?_
      obtain ⟨H7, I7, q7⟩ := h7
      have frAt : ∀ {τ' : St} {H' : Hp} {s' : Shared}, Inv Y ([(D, oD)] ++ pinsAt fp s5.heap) τ' H' s' → tn (i + 1) s'.heap ∧ ∀ b ∈ fp, H' b = none := fun {τ' H' s'} I' => by
        refine ⟨T.keep _ _ _ st5 fun b hb o e => (I'.pin (b, o) (List.mem_append_right _ (List.mem_append_right _ (mem_pinsAt hb e)))).1, fun b hb => ?_⟩
        obtain ⟨o, e, _⟩ := T.obj _ _ st5 b hb
        exact (I'.pin (b, o) (List.mem_append_right _ (List.mem_append_right _ (mem_pinsAt hb e)))).2.1
      cases b with
      | false =>
        rw [if_neg Bool.false_ne_true] at q7 ⊢
        obtain ⟨m', hm, w7⟩ := hN _ _ q7
        obtain ⟨pl7, n7⟩ := atD I7
        obtain ⟨t7, f7⟩ := frAt I7
        exact ⟨m', hm, i + 1, acc, o6, H7, ys, eτ6 ▸ I7.pins_of (fun p hp => by simp at hp), ho6, t7, f7, pl7, rv3, n7, w7⟩
      | true =>
        rw [if_pos rfl] at q7 ⊢
        have q8 := hE1 _ s7 τ6 H7 _ I7 q7
        rw [eP, eW, eA, eE, eX] at q8
        refine thn q8 fun y s8 h8 => ?_
        obtain ⟨v, H8, I8, r8, q9⟩ := h8
        obtain ⟨m', hm, w8⟩ := hN _ _ q9
        obtain ⟨pl8, n8⟩ := atD I8
        obtain ⟨t8, f8⟩ := frAt I8
        have hys : ys.size ≤ sizeLine := by
          have e := rv3.length
          simp only [Array.length_toList] at e
          omega
        refine wpAny_list_append_plain (hsz := hys) pl8 fun h9 pl9 sb9 => ?_
        have I8' : Inv Y [] τ6 H8 s8 := I8.pins_of (fun p hp => by simp at hp)
        have I9 : Inv Y [] τ6 H8 { s8 with heap := h9, toks := s8.toks } := I8'.turned (it := D) (fun b o hb e => (sb9.2 b hb).trans e) n8 eL (.inr eS) eCl (fun p hp => eN p (by simpa using hp))
        refine ⟨m', hm, i + 1, acc ++ [v], o6, H8, ys.push y, eτ6 ▸ I9, ho6, T.keep _ _ _ t8 fun b hb o e => (sb9.2 b (fun z => hDf (z ▸ hb))).trans e, f8, pl9, ?_, n8, w8⟩
        rw [Array.toList_push]
        exact Vals.append rv3 (.cons r8 .nil)
  exact codeAny_compStart_list loop (T.self _ _ _ _ _ (T.keep _ _ _ st2 fun b _ o e => old b o e) loop)
end
end L2

set_option Elab.async false
set_option linter.all false
set_option maxRecDepth 100000
set_option maxHeartbeats 4000000
namespace L2
open PySem PySem.Spec PyProof.Rows
mutual
def noL : PyData → Bool
  | .tuple ds => noLs ds
  | .list _ => false
  | _ => true
def noLs : List PyData → Bool
  | [] => true
  | d :: ds => noL d && noLs ds
end
section
variable {X : Cx} {pins : List (Addr × Obj)} {σ : St} {H : Hp} {s : Shared} {Z : Addr → Prop}
mutual
theorem DV.readsN (I : Inv X pins σ H s) : ∀ {d : PyData} {v : V} {u : Value}, DV X.K Z H d v → RelV v u → noL d = true → ∃ as, Reads s.heap u d as ∧ sysModules ∉ as
  | .none, v, u, h, r, _ => by
    have e : v = .non := h
    subst e; cases r
    exact ⟨[], .none, by simp⟩
  | .bool b, v, u, h, r, _ => by
    have e : v = .bl b := h
    subst e; cases r
    exact ⟨[], .bool b, by simp⟩
  | .int i, v, u, h, r, _ => by
    have e : v = .int i := h
    subst e; obtain ⟨t, rfl⟩ := r
    exact ⟨[], .int i t, by simp⟩
  | .str x, v, u, h, r, _ => by
    have e : v = .str x := h
    subst e; obtain ⟨t, rfl⟩ := r
    exact ⟨[], .str x t, by simp⟩
  | .tuple ds, v, u, h, r, hn => by
    simp only [DV] at h
    obtain ⟨a, xs, e, hq, hr⟩ := h
    subst e; cases r
    obtain ⟨its, rv, ⟨o, e, c, n, hd⟩, _⟩ := I.tuple hq
    obtain ⟨as, rs, hs⟩ := DVs.readsN I hr rv (by simpa only [noL] using hn)
    exact ⟨as, .tuple e c hd (by simpa using rs), hs⟩
  | .list ds, v, u, h, r, hn => by
    simp only [noL] at hn
    cases hn
  | .dict kvs, v, u, h, r, _ => by
    simp only [DV] at h
    obtain ⟨a, es, e, _, hq, l, e1, e2⟩ := h
    subst e e1 e2; cases r
    obtain ⟨_, hsys, vs, kv, o, es', ep, g1, g2, g3, _, g5, _⟩ := (show ObjOk X.prog X.w H s.heap a (.dK _) from I.hok a _ hq)
    obtain ⟨r1, r2⟩ := pairs_reads (h := s.heap) kv g5
    refine ⟨a :: [] ++ [], .dict g1 g2.1 g3 r1 r2, fun hm => ?_⟩
    have e : sysModules = a := by simpa using hm
    subst e
    simp at hsys
theorem DVs.readsN (I : Inv X pins σ H s) : ∀ {ds : List PyData} {vs : List V} {us : List Value}, DVs X.K Z H ds vs → Vals vs us → noLs ds = true → ∃ as, ReadsAll s.heap us ds as ∧ sysModules ∉ as
  | [], vs, us, h, r, _ => by
    have e : vs = [] := h
    subst e; cases r
    exact ⟨[], .nil, by simp⟩
  | d :: ds, vs, us, h, r, hn => by
    obtain ⟨v, rr, e, h1, h2⟩ := h
    subst e
    simp only [noLs, Bool.and_eq_true] at hn
    cases r with
    | cons ru rt =>
      obtain ⟨as, a1, n1⟩ := DV.readsN I h1 ru hn.1
      obtain ⟨bs, a2, n2⟩ := DVs.readsN I h2 rt hn.2
      refine ⟨as ++ bs, .cons a1 a2, fun hm => ?_⟩
      rcases List.mem_append.mp hm with z | z
      · exact n1 z
      · exact n2 z
end
end
section
variable {X : Cx}
theorem call_reprT {k : Nat} (hr : Room k X.A) : CallR X (.builtin "repr") (fun xs H Q => ∃ (x : V) (ds : List PyData) (Z : Addr → Prop), xs = [x] ∧ DV X.K Z H (.tuple ds) x ∧ (PyData.tuple ds).showable = true ∧ ((PyData.tuple ds).hasDict = false ∨ noLs ds = true) ∧ (PyData.tuple ds).depth ≤ 100 ∧ (PyData.tuple ds).shown.length ≤ sizeLine ∧ Q (.str (PyData.tuple ds).shown) H) := by
  intro pins s σ H xs us Q I r h
  obtain ⟨x, ds, Z, rfl, hd, hs, hnd, hdp, hz, q⟩ := h
  obtain ⟨u, rfl, ru⟩ := vals1 r
  have hun : X.A.units + ((PyData.tuple ds).depth + 1) < cLine := by have := hr.un; omega
  have go : ∀ as, Reads s.heap u (.tuple ds) as → ((PyData.tuple ds).hasDict = true → sysModules ∉ as) → wpAny (model X.prog X.w) X.A (call (.builtin "repr") [u]) (EP X pins σ Q) X.xe s := fun as rd hsm => by
    obtain ⟨a, e⟩ : ∃ a, u = .ref a := by cases rd; exact ⟨_, rfl⟩
    subst e
    exact repr_of_reads' rd hs hsm hr.gd hun (fun _ _ e => e) (fun h' t tk hk => ⟨.str _, H, I.kept (t' := tk) hk, ⟨t, rfl⟩, q⟩) hz
  rcases hnd with e | e
  · obtain ⟨as, rd⟩ := hd.reads I ru
    exact go as rd fun z => by rw [e] at z; cases z
  · obtain ⟨as, rd, hn⟩ := hd.readsN I ru (by simpa only [noL] using e)
    exact go as rd fun _ => hn
end
end L2

set_option Elab.async false
set_option linter.all false
set_option maxRecDepth 100000
set_option maxHeartbeats 4000000
namespace HZ
open PySem PySem.Spec PyProof.Rows
open AutoSeq1 (wpAny_loadPart')
section
variable {P : Program} {w : World} {A : Around} {E : Value → Shared → Prop} {s : Shared}
end
end HZ
namespace L2
open PySem PySem.Spec PyProof.Rows
def IteT (K : PySem.W.Frag) (a : Addr) : It :=
  ⟨fun i H => ∃ xs x, SqT K H a xs ∧ xs[i]? = some x, fun i H v H' => ∃ p x, H p = none ∧ v = .ref p ∧ H' = upd H p (.tup [.int i, x]) ∧ ∀ xs, SqT K H a xs → xs[i]? = some x, fun i H => ∃ xs, SqT K H a xs ∧ xs.length ≤ i⟩
section
variable {X : Cx} {elts : List Expr} {kk : Nat} {tp : Pos}
def iEnT (K : PySem.W.Frag) (ta : TA) : TI := fun σ H R => ta σ H fun vs H1 => ∃ a xs, vs = [.ref a] ∧ SqT K H1 a xs ∧ R (IteT K a) H1
end
end L2

set_option Elab.async false
set_option linter.all false
set_option maxRecDepth 100000
set_option maxHeartbeats 4000000
namespace L2
open PySem PySem.Spec PyProof.Rows
section
variable {K : PySem.W.Frag} {caps : St} {H : Hp} {tf : TT} {te : TE} {Q : VK}
end
end L2

set_option Elab.async false
set_option linter.all false
set_option maxRecDepth 100000
set_option maxHeartbeats 4000000
namespace HZ
open PySem PySem.Spec PyProof.Rows
theorem noFill_tuple_mul : fillsNumberSlot (.type "tuple") "mul" = pure false := by
  first | rfl | (unfold fillsNumberSlot; kernel_rfl) | kernel_rfl
theorem repeat_tuple : seqRepeat? (.type "tuple") = pure (some (.builtin "tuple.__mul__")) := by
  first | rfl | kernel_rfl
theorem rmul_tuple (a : Int) (t : Tok) (l : Addr) (items : Array Value) (n : Nat) (d : Option Addr) (sl : Array (Option Value)) :
    Meets (Builtin.«int.__rmul__» ⟨[.int a t, .ref l], []⟩) (fun _ R s => s.heap.get? l = some { cls := .type "tuple", dict := d, data := .seq items n, slots := sl } ∧ R (.ok (.ret Value.notImplemented)) s) :=
  .of_wp fun prog w A R s h => by
    obtain ⟨h1, h2, h3, h4, h5⟩ := s; obtain ⟨hl, h⟩ := h; wp_walk; exact ⟨_, rfl, h⟩
section
variable {P : Program} {w : World} {A : Around} {E : Value → Shared → Prop} {s : Shared}
theorem mul_tup {t : Addr} {vs : List Value} {k : Int} {tk : Tok} {Q : Value → Shared → Prop} (ht : IsTup s.heap t vs.toArray) (hv : vs ≠ []) (hk : 1 ≤ k) (hz : vs.length * k.toNat ≤ sizeLine)
    (h1 : k = 1 → Q (.ref t) s) (h2 : k ≠ 1 → Q (.ref s.heap.objs.size) { s with heap := s.heap.push { cls := .type "tuple", data := .seq (List.replicate k.toNat vs).flatten.toArray } }) :
    wpAny (model P w) A (binaryOp .Mult (.ref t) (.int k tk)) Q E s := by
  obtain ⟨⟨cls, dd, data, sl⟩, ho, hc, n, hd⟩ := id ht
  simp only at hc hd
  subst hc hd
  have hk2 : k ≤ 16777216 := by
    have hl : 1 ≤ vs.length := by
      cases vs with
      | nil => exact absurd rfl hv
      | cons a r => simp
    have hz' : vs.length * k.toNat ≤ 16777216 := by rw [← sizeLine_eq]; exact hz
    have : 1 * k.toNat ≤ vs.length * k.toNat := Nat.mul_le_mul_right _ hl
    omega
  refine wpAny_binaryOp_repeat_ref (T := "tuple") (U := "int") (by decide) ⟨_, ho, rfl⟩ (fun s' => typeIs_int s' k tk) noFill_tuple_mul F.fills_int_mul F.slot_int_rmul repeat_tuple F.slot_int_index.lookup
    (call_meets F.slot_int_rmul (typeIs_int s k tk) F.entry_int_rmul (F.args_int_rmul_2 _ _) (rmul_tuple k tk t vs.toArray n dd sl) ⟨ho, rfl, ⟨_, ho, rfl⟩, ?_⟩)
  refine wpAny_call_entry F.slot_tuple_mul ⟨_, ho, rfl⟩ F.entry_tuple_mul ?_ (F.args_tuple_mul_2 _ _)
  show wpAny _ _ (asIndex (.int k tk) >>= _) _ _ _
  refine wpAny_bind ?_
  refine wpAny_of_eq (a := k) (by first | rfl | (unfold asIndex; rfl)) ?_
  dsimp only
  rw [if_neg (by simp; omega)]
  unfold Builtin.Tuple.tupleItemsOf
  refine wpAny_bind (wpAny_bind (wpAny_seqItems ho rfl ?_))
  refine wpAny_pure ?_
  have ne : vs.toArray.isEmpty = false := by
    cases vs with
    | nil => exact absurd rfl hv
    | cons a r => simp
  by_cases h : k = 1
  · rw [if_pos (by rw [h]; simp)]
    unfold Builtin.Tuple.tupleIsExact
    refine wpAny_bind (wpAny_bind (wpAny_typeOf (T := "tuple") ⟨_, ho, rfl⟩ (wpAny_pure ?_)))
    rw [if_pos (by decide)]
    exact wpAny_bind (wpAny_rule (wpAny_pure ⟨_, rfl, h1 h⟩))
  · rw [if_neg (by rw [ne]; simp [h])]
    rw [if_neg (by rw [ne]; simp; omega)]
    have hm : (vs.toArray.size : Int) * k = ((vs.length * k.toNat : Nat) : Int) := by
      rw [List.size_toArray, Int.natCast_mul]
      congr 1
      omega
    have hz2 : vs.length * k.toNat ≤ 16777216 := by rw [← sizeLine_eq]; exact hz
    rw [if_neg (by rw [hm]; omega)]
    rw [if_neg (by
      unfold Builtin.Tuple.tupleTooMany
      rw [hm, sizeLine_eq, decide_eq_true_eq]
      generalize vs.length * k.toNat = q at hz2
      omega)]
    unfold Builtin.Tuple.tupleExact
    have e : List.foldl (fun x1 x2 => x1 ++ x2) #[] (List.replicate k.toNat vs.toArray) = (List.replicate k.toNat vs).flatten.toArray := by
      have := L2.foldl_rep vs k.toNat []
      rw [List.nil_append] at this
      exact this
    rw [e]
    refine wpAny_bind (wpAny_newObj_type ?_ (by
      show (List.toArray _).size ≤ sizeLine
      rw [List.size_toArray, L2.len_rep, Nat.mul_comm]
      exact hz))
    exact wpAny_pure ⟨_, rfl, h2 h⟩
end
end HZ
namespace L2
open PySem PySem.Spec PyProof.Rows
section
variable {X : Cx}
def rRepT (K : PySem.W.Frag) : R2 := fun x y H Q => ∃ a xs k, x = .ref a ∧ y = .int k ∧ SqT K H a xs ∧ xs ≠ [] ∧ 1 ≤ k ∧ xs.length * k.toNat ≤ sizeLine ∧ NewT K H (List.replicate k.toNat xs).flatten Q
theorem op_repT : OpR X (binaryOp .Mult) (rRepT X.K) := by
  intro pins s σ H x y v u Q I rx ry h
  obtain ⟨a, xs, k, rfl, rfl, hs, hx, hk, hz, q⟩ := h
  cases rx
  obtain ⟨t, rfl⟩ := ry
  obtain ⟨its, r, p, z⟩ := I.tuple hs
  have hl := r.length
  refine HZ.mul_tup p (fun e => hx (by rw [e] at hl; exact List.length_eq_zero_iff.mp hl)) hk (by rw [← hl]; exact hz) (fun e => ?_) (fun _ => ?_)
  · have e1 : (List.replicate k.toNat xs).flatten = xs := by rw [e]; simp
    rw [e1] at q
    exact ⟨.ref a, H, I, rfl, q.here hs⟩
  · have hz' : (List.replicate k.toNat xs).flatten.length ≤ sizeLine := by rw [len_rep, Nat.mul_comm]; exact hz
    exact ⟨.ref _, _, I.laid (t' := s.toks) (o := .tup (List.replicate k.toNat xs).flatten) (fun b o e => Heap.get?_push_of_some _ e) (Nat.le_refl _) ⟨hz', _, r.rep k.toNat, ⟨_, Heap.get?_push_size _ rfl, rfl, _, rfl⟩⟩, rfl, q.new (I.hok.fresh (Nat.le_refl _))⟩
end
end L2

set_option Elab.async false
set_option linter.all false
set_option maxRecDepth 100000
set_option maxHeartbeats 4000000
namespace HZ
open PySem PySem.Spec PyProof.Rows
section
variable {P : Program} {w : World} {A : Around} {E : Value → Shared → Prop} {s : Shared}
end
end HZ
namespace L2
open PySem PySem.Spec PyProof.Rows
def ItRv (n : Nat) : It := ⟨fun i _ => i < n, fun i H x H' => H' = H ∧ x = .int ((n : Int) - 1 - i), fun i _ => n ≤ i⟩
section
variable {X : Cx} {tg : Expr}
def iRev (ta : TA) : TI := fun σ H R => ta σ H fun vs H1 => ∃ (p : Addr) (n : Nat), vs = [.ref p] ∧ H1 p = some (.rng 0 n) ∧ n < 2 ^ 62 ∧ R (ItRv n) H1
end
end L2

set_option Elab.async false
set_option linter.all false
set_option maxRecDepth 100000
set_option maxHeartbeats 4000000
namespace HZ
open PySem PySem.Spec PyProof.Rows
section
variable {P : Program} {w : World} {A : Around} {R : Result → Shared → Prop} {I : Addr} {fp wr : List Addr} {n : Nat} {Pv : Nat → Value → Prop} {St : Nat → Heap → Prop} {kw : List (Str × Value)}
end
end HZ

set_option Elab.async false
set_option linter.all false
set_option maxRecDepth 100000
set_option maxHeartbeats 4000000
namespace HZ
open PySem PySem.Spec PyProof.Rows
section
variable {P : Program} {w : World} {A : Around} {E : Value → Shared → Prop} {s : Shared}
end
end HZ
namespace L2
open PySem PySem.Spec PyProof.Rows
section
variable {X : Cx} {p pos kp : Pos} {e d : Expr} {ta tk : TA}
def tMinD (K : PySem.W.Frag) (ta tk : TA) : TE := fun σ H Q => ta σ H fun vs H1 => tk σ H1 fun zs H2 => ∃ (a : Addr) (ns : List Int) (y : V), vs = [.ref a] ∧ zs = [y] ∧ SqL K H2 a (ns.map V.int) ∧ ∀ v, (ns = [] → v = y) → (ns ≠ [] → ∃ m, v = .int m ∧ m ∈ ns ∧ ∀ k ∈ ns, m ≤ k) → Q v H2
end
end L2

set_option Elab.async false
set_option linter.all false
set_option maxRecDepth 100000
set_option maxHeartbeats 4000000
namespace DI
open PySem L2
inductive D where
  | non | bl (b : Bool) | int (i : Int) | str (x : Str) | tup (ds : List D) | lst (ds : List D) | dct (kvs : List (Key × Int)) | han (k : Nat) | ty (n : String) | scr (ns : List Int)
inductive Cell where
  | dead | lst (ds : List D) | dK (kvs : List (Key × D))
abbrev Sto := List Cell
abbrev Env := List (Option D)
structure Exn where
  c : Str
  many : Option D
abbrev Res (α : Type) := Option (Except Exn α × Sto)
abbrev ok {α : Type} (a : α) (s : Sto) : Res α := some (.ok a, s)
def bnd {α β : Type} (r : Res α) (k : α → Sto → Res β) : Res β := match r with
  | some (.ok a, s) => k a s
  | some (.error x, s) => some (.error x, s)
  | none => none
@[simp] theorem bnd_ok {α β : Type} {a : α} {s : Sto} {k : α → Sto → Res β} : bnd (some (.ok a, s)) k = k a s := rfl
structure Wd where
  ρ : List Addr
  sto : Sto
  H : Hp
def Wd.Z (w : Wd) (a : Addr) : Prop := ∃ (k : Nat) (c : Cell), w.ρ[k]? = some a ∧ w.sto[k]? = some c ∧ c ≠ .dead
def LstAt (w : Wd) (a : Addr) (xs : List V) : Prop := ¬ w.Z a ∧ w.H a = some (.lst xs)
theorem LstAt.sq {K : PySem.W.Frag} {w : Wd} {a : Addr} {xs : List V} (h : LstAt w a xs) : SqL K w.H a xs := SqL.of h.2
def ScrAt (K : PySem.W.Frag) (w : Wd) (a : Addr) (xs : List V) : Prop := (¬ w.Z a ∧ Rd w.H a (.lst xs)) ∨
  ∃ (o : Obj) (its : Array Value) (n : Nat), K.lookup a = some o ∧ o.cls = .type "list" ∧ o.dict = none ∧ o.data = .seq its n ∧ its.size ≤ sizeLine ∧ Vals xs its.toList
theorem ScrAt.sq {K : PySem.W.Frag} {w : Wd} {a : Addr} {xs : List V} (h : ScrAt K w a xs) : SqL K w.H a xs := by
  rcases h with ⟨_, h⟩ | h
  · exact .inl h
  · exact .inr h
mutual
def DV (K : PySem.W.Frag) (w : Wd) : D → V → Prop
  | .non, v => v = .non
  | .bl b, v => v = .bl b
  | .int i, v => v = .int i
  | .str x, v => v = .str x
  | .tup ds, v => ∃ a xs, v = .ref a ∧ SqT K w.H a xs ∧ DVs K w ds xs
  | .lst ds, v => ∃ a xs, v = .ref a ∧ LstAt w a xs ∧ DVs K w ds xs
  | .dct kvs, v => ∃ a, v = .ref a ∧ ¬ w.Z a ∧ w.H a = some (.dK (kvs.map fun p => (p.1, V.int p.2)))
  | .han k, v => ∃ a, w.ρ[k]? = some a ∧ v = .ref a
  | .ty n, v => v = .ty n
  | .scr ns, v => ∃ a, v = .ref a ∧ ScrAt K w a (ns.map V.int)
def DVs (K : PySem.W.Frag) (w : Wd) : List D → List V → Prop
  | [], vs => vs = []
  | d :: ds, vs => ∃ v r, vs = v :: r ∧ DV K w d v ∧ DVs K w ds r
end
structure Fw (K : PySem.W.Frag) (w w' : Wd) : Prop where
  rho : ∀ (k : Nat) a, w.ρ[k]? = some a → w'.ρ[k]? = some a
  tup : ∀ a xs, SqT K w.H a xs → SqT K w'.H a xs
  lst : ∀ a xs, ¬ w.Z a → w.H a = some (.lst xs) → ¬ w'.Z a ∧ w'.H a = some (.lst xs)
  frz : ∀ a o xs, ¬ w.Z a → w.H a = some (.frz o (.lst xs)) → ¬ w'.Z a ∧ w'.H a = some (.frz o (.lst xs))
  dct : ∀ a es, ¬ w.Z a → w.H a = some (.dK es) → ¬ w'.Z a ∧ w'.H a = some (.dK es)
theorem Fw.lstAt {K : PySem.W.Frag} {w w' : Wd} (S : Fw K w w') {a : Addr} {xs : List V} (h : LstAt w a xs) : LstAt w' a xs := S.lst a xs h.1 h.2
theorem Fw.scrAt {K : PySem.W.Frag} {w w' : Wd} (S : Fw K w w') {a : Addr} {xs : List V} (h : ScrAt K w a xs) : ScrAt K w' a xs := by
  rcases h with ⟨h1, h2 | ⟨o, h2⟩⟩ | h
  · have q := S.lst a xs h1 h2
    exact .inl ⟨q.1, .inl q.2⟩
  · have q := S.frz a o xs h1 h2
    exact .inl ⟨q.1, .inr ⟨o, q.2⟩⟩
  · exact .inr h
mutual
theorem DV.fw {K : PySem.W.Frag} {w w' : Wd} (S : Fw K w w') : ∀ {d : D} {v : V}, DV K w d v → DV K w' d v
  | .non, _, h => h
  | .bl _, _, h => h
  | .int _, _, h => h
  | .str _, _, h => h
  | .tup ds, v, h => by
    simp only [DV] at h ⊢
    obtain ⟨a, xs, e, hq, r⟩ := h
    exact ⟨a, xs, e, S.tup a xs hq, DVs.fw S r⟩
  | .lst ds, v, h => by
    simp only [DV] at h ⊢
    obtain ⟨a, xs, e, hq, r⟩ := h
    exact ⟨a, xs, e, S.lstAt hq, DVs.fw S r⟩
  | .dct kvs, v, h => by
    simp only [DV] at h ⊢
    obtain ⟨a, e, hz, hq⟩ := h
    obtain ⟨h1, h2⟩ := S.dct a _ hz hq
    exact ⟨a, e, h1, h2⟩
  | .han k, v, h => by
    simp only [DV] at h ⊢
    obtain ⟨a, e, e2⟩ := h
    exact ⟨a, S.rho k a e, e2⟩
  | .ty _, _, h => h
  | .scr ns, v, h => by
    simp only [DV] at h ⊢
    obtain ⟨a, e, hq⟩ := h
    exact ⟨a, e, S.scrAt hq⟩
theorem DVs.fw {K : PySem.W.Frag} {w w' : Wd} (S : Fw K w w') : ∀ {ds : List D} {vs : List V}, DVs K w ds vs → DVs K w' ds vs
  | [], _, h => h
  | d :: ds, vs, h => by
    simp only [DVs] at h ⊢
    obtain ⟨v, r, e, h1, h2⟩ := h
    exact ⟨v, r, e, DV.fw S h1, DVs.fw S h2⟩
end
structure Le (K : PySem.W.Frag) (w w' : Wd) : Prop where
  dv : ∀ d v, DV K w d v → DV K w' d v
  lst : ∀ a xs, LstAt w a xs → LstAt w' a xs
  tup : ∀ a xs, SqT K w.H a xs → SqT K w'.H a xs
instance {K : PySem.W.Frag} {w w' : Wd} : CoeFun (Le K w w') (fun _ => ∀ d v, DV K w d v → DV K w' d v) := ⟨Le.dv⟩
theorem Le.refl {K : PySem.W.Frag} (w : Wd) : Le K w w := ⟨fun _ _ h => h, fun _ _ h => h, fun _ _ h => h⟩
theorem Le.trans {K : PySem.W.Frag} {a b c : Wd} (h : Le K a b) (g : Le K b c) : Le K a c := ⟨fun d v x => g.dv d v (h.dv d v x), fun p xs x => g.lst p xs (h.lst p xs x), fun p xs x => g.tup p xs (h.tup p xs x)⟩
theorem Fw.le {K : PySem.W.Frag} {w w' : Wd} (S : Fw K w w') : Le K w w' := ⟨fun _ _ h => h.fw S, fun _ _ h => S.lstAt h, S.tup⟩
theorem Le.all {K : PySem.W.Frag} {w w' : Wd} (h : Le K w w') : ∀ {ds : List D} {vs : List V}, DVs K w ds vs → DVs K w' ds vs
  | [], _, x => x
  | d :: ds, vs, x => by
    simp only [DVs] at x ⊢
    obtain ⟨v, r, e, h1, h2⟩ := x
    exact ⟨v, r, e, h d v h1, Le.all h h2⟩
theorem DVs.length {K : PySem.W.Frag} {w : Wd} : ∀ {ds : List D} {vs : List V}, DVs K w ds vs → ds.length = vs.length
  | [], vs, h => by
    have e : vs = [] := h
    subst e
    rfl
  | d :: ds, vs, h => by
    obtain ⟨v, r, e, _, h2⟩ := h
    subst e
    simp [DVs.length h2]
theorem DVs.get {K : PySem.W.Frag} {w : Wd} : ∀ {ds : List D} {vs : List V}, DVs K w ds vs → ∀ (i : Nat) v, vs[i]? = some v → ∃ d, ds[i]? = some d ∧ DV K w d v
  | [], vs, h, i, v, e => by
    have e' : vs = [] := h
    subst e'
    simp at e
  | d :: ds, vs, h, i, v, e => by
    obtain ⟨u, r, e', h1, h2⟩ := h
    subst e'
    cases i with
    | zero =>
      have : u = v := by simpa using e
      subst this
      exact ⟨d, rfl, h1⟩
    | succ i => exact DVs.get h2 i v (by simpa using e)
theorem DVs.get' {K : PySem.W.Frag} {w : Wd} : ∀ {ds : List D} {vs : List V}, DVs K w ds vs → ∀ (i : Nat) d, ds[i]? = some d → ∃ v, vs[i]? = some v ∧ DV K w d v
  | [], vs, h, i, d, e => by simp at e
  | d :: ds, vs, h, i, d', e => by
    obtain ⟨u, r, e', h1, h2⟩ := h
    subst e'
    cases i with
    | zero =>
      have : d = d' := by simpa using e
      subst this
      exact ⟨u, rfl, h1⟩
    | succ i => exact DVs.get' h2 i d' (by simpa using e)
theorem DVs.append {K : PySem.W.Frag} {w : Wd} : ∀ {ds es : List D} {vs ws : List V}, DVs K w ds vs → DVs K w es ws → DVs K w (ds ++ es) (vs ++ ws)
  | [], es, vs, ws, h, h' => by
    have e : vs = [] := h
    subst e
    exact h'
  | d :: ds, es, vs, ws, h, h' => by
    obtain ⟨v, r, e, h1, h2⟩ := h
    subst e
    exact ⟨v, r ++ ws, rfl, h1, DVs.append h2 h'⟩
theorem DVs.take {K : PySem.W.Frag} {w : Wd} : ∀ {ds : List D} {vs : List V} (n : Nat), DVs K w ds vs → DVs K w (ds.take n) (vs.take n)
  | [], vs, n, h => by
    have e : vs = [] := h
    subst e
    simp [DVs]
  | d :: ds, vs, 0, h => by simp [DVs]
  | d :: ds, vs, n + 1, h => by
    obtain ⟨v, r, e, h1, h2⟩ := h
    subst e
    exact ⟨v, r.take n, rfl, h1, DVs.take n h2⟩
theorem DVs.drop {K : PySem.W.Frag} {w : Wd} : ∀ {ds : List D} {vs : List V} (n : Nat), DVs K w ds vs → DVs K w (ds.drop n) (vs.drop n)
  | [], vs, n, h => by
    have e : vs = [] := h
    subst e
    simp [DVs]
  | d :: ds, vs, 0, h => h
  | d :: ds, vs, n + 1, h => by
    obtain ⟨v, r, e, h1, h2⟩ := h
    subst e
    exact DVs.drop n h2
theorem DVs.reverse {K : PySem.W.Frag} {w : Wd} : ∀ {ds : List D} {vs : List V}, DVs K w ds vs → DVs K w ds.reverse vs.reverse
  | [], vs, h => by
    have e : vs = [] := h
    subst e
    simp [DVs]
  | d :: ds, vs, h => by
    obtain ⟨v, r, e, h1, h2⟩ := h
    subst e
    rw [List.reverse_cons, List.reverse_cons]
    exact DVs.append (DVs.reverse h2) ⟨v, [], rfl, h1, rfl⟩
theorem DVs.set {K : PySem.W.Frag} {w : Wd} {d : D} {v : V} (hd : DV K w d v) : ∀ {ds : List D} {vs : List V} (i : Nat), DVs K w ds vs → DVs K w (ds.set i d) (vs.set i v)
  | [], vs, i, h => by
    have e : vs = [] := h
    subst e
    simp [DVs]
  | d' :: ds, vs, 0, h => by
    obtain ⟨u, r, e, h1, h2⟩ := h
    subst e
    exact ⟨v, r, rfl, hd, h2⟩
  | d' :: ds, vs, i + 1, h => by
    obtain ⟨u, r, e, h1, h2⟩ := h
    subst e
    exact ⟨u, r.set i v, rfl, h1, DVs.set hd i h2⟩
theorem DVs.one {K : PySem.W.Frag} {w : Wd} {d : D} {v : V} (h : DV K w d v) : DVs K w [d] [v] := ⟨v, [], rfl, h, rfl⟩
theorem DVs.two {K : PySem.W.Frag} {w : Wd} {d d' : D} {v v' : V} (h : DV K w d v) (h' : DV K w d' v') : DVs K w [d, d'] [v, v'] := ⟨v, _, rfl, h, DVs.one h'⟩
theorem DVs.ints {K : PySem.W.Frag} {w : Wd} : ∀ (ns : List Int), DVs K w (ns.map D.int) (ns.map V.int)
  | [] => rfl
  | n :: ns => ⟨.int n, _, rfl, rfl, DVs.ints ns⟩
theorem DVs.ints_inv {K : PySem.W.Frag} {w : Wd} : ∀ {ns : List Int} {vs : List V}, DVs K w (ns.map D.int) vs → vs = ns.map V.int
  | [], _, h => h
  | n :: ns, vs, h => by
    obtain ⟨v, r, e, h1, h2⟩ := h
    have e1 : v = .int n := h1
    rw [e, e1, DVs.ints_inv h2]
    rfl
theorem DVs.bls_inv {K : PySem.W.Frag} {w : Wd} : ∀ {bs : List Bool} {vs : List V}, DVs K w (bs.map D.bl) vs → vs = bs.map V.bl
  | [], _, h => h
  | n :: ns, vs, h => by
    obtain ⟨v, r, e, h1, h2⟩ := h
    have e1 : v = .bl n := h1
    rw [e, e1, DVs.bls_inv h2]
    rfl
def CellOk (K : PySem.W.Frag) (w : Wd) (a : Addr) : Cell → Prop
  | .dead => True
  | .lst ds => ∃ xs, w.H a = some (.lst xs) ∧ DVs K w ds xs
  | .dK kvs => ∃ es : List (Key × V), w.H a = some (.dK es) ∧ es.map (·.1) = kvs.map (·.1) ∧ DVs K w (kvs.map (·.2)) (es.map (·.2))
structure StoOk (K : PySem.W.Frag) (w : Wd) : Prop where
  len : w.ρ.length = w.sto.length
  nd : w.ρ.Nodup
  there : ∀ (k : Nat) a, w.ρ[k]? = some a → w.H a ≠ none
  cell : ∀ (k : Nat) a c, w.ρ[k]? = some a → w.sto[k]? = some c → CellOk K w a c
theorem CellOk.le {K : PySem.W.Frag} {w w' : Wd} {a : Addr} {c : Cell} (h : CellOk K w a c) (le : Le K w w') (e : c ≠ .dead → w'.H a = w.H a) : CellOk K w' a c := by
  cases c with
  | dead => trivial
  | lst ds =>
    obtain ⟨xs, h1, h2⟩ := h
    exact ⟨xs, (e (by intro z; cases z)).trans h1, le.all h2⟩
  | dK kvs =>
    obtain ⟨es, h1, h2, h3⟩ := h
    exact ⟨es, (e (by intro z; cases z)).trans h1, h2, le.all h3⟩
section
variable {K : PySem.W.Frag} {w : Wd}
def Wd.grow (w : Wd) (p : Addr) (o : HO) : Wd := { w with H := upd w.H p o }
theorem Rd.grow {H : Hp} {p a : Addr} {o u : HO} (hp : H p = none) (h : Rd H a u) : Rd (upd H p o) a u := by
  rcases h with h | ⟨ob, h⟩
  · exact .inl (by rw [upd_ne (ne_of_none h hp)]; exact h)
  · exact .inr ⟨ob, by rw [upd_ne (ne_of_none h hp)]; exact h⟩
theorem SqT.grow {H : Hp} {p a : Addr} {o : HO} {xs : List V} (hp : H p = none) (h : SqT K H a xs) : SqT K (upd H p o) a xs := by
  rcases h with h | h
  · exact .inl (Rd.grow hp h)
  · exact .inr h
theorem Fw.grow {p : Addr} {o : HO} (hp : w.H p = none) : Fw K w (w.grow p o) where
  rho := fun _ _ e => e
  tup := fun a xs h => SqT.grow hp h
  lst := fun a xs hz h => ⟨hz, by show upd w.H p o a = _; rw [upd_ne (ne_of_none h hp)]; exact h⟩
  frz := fun a ob xs hz h => ⟨hz, by show upd w.H p o a = _; rw [upd_ne (ne_of_none h hp)]; exact h⟩
  dct := fun a es hz h => ⟨hz, by show upd w.H p o a = _; rw [upd_ne (ne_of_none h hp)]; exact h⟩
theorem StoOk.grow {p : Addr} {o : HO} (S : StoOk K w) (hp : w.H p = none) : StoOk K (w.grow p o) where
  len := S.len
  nd := S.nd
  there := fun k a e => by
    have h := S.there k a e
    show upd w.H p o a ≠ none
    unfold upd
    split
    · intro z; cases z
    · exact h
  cell := fun k a c e1 e2 => (S.cell k a c e1 e2).le (Fw.grow hp).le fun _ => by
    have h := S.there k a e1
    show upd w.H p o a = w.H a
    rw [upd_ne]
    intro z; rw [z] at h; exact h hp
def Wd.cell (w : Wd) (p : Addr) (o : HO) (c : Cell) : Wd := ⟨w.ρ ++ [p], w.sto ++ [c], upd w.H p o⟩
theorem Wd.Z_cell {p : Addr} {o : HO} {c : Cell} (S : StoOk K w) {a : Addr} (h : (w.cell p o c).Z a) : w.Z a ∨ a = p := by
  obtain ⟨k, c', e1, e2, e3⟩ := h
  have e1 : (w.ρ ++ [p])[k]? = some a := e1
  have e2 : (w.sto ++ [c])[k]? = some c' := e2
  by_cases hk : k < w.ρ.length
  · rw [List.getElem?_append_left hk] at e1
    rw [List.getElem?_append_left (by rw [← S.len]; exact hk)] at e2
    exact .inl ⟨k, c', e1, e2, e3⟩
  · rw [List.getElem?_append_right (by omega)] at e1
    right
    cases hj : k - w.ρ.length with
    | zero => rw [hj] at e1; exact (Option.some.inj e1).symm
    | succ j => rw [hj] at e1; cases e1
theorem Fw.cell {p : Addr} {o : HO} {c : Cell} (S : StoOk K w) (hp : w.H p = none) : Fw K w (w.cell p o c) where
  rho := fun k a e => by
    show (w.ρ ++ [p])[k]? = some a
    rw [List.getElem?_append_left (List.getElem?_eq_some_iff.mp e).1]; exact e
  tup := fun a xs h => SqT.grow hp h
  lst := fun a xs hz h => ⟨fun z => (Wd.Z_cell S z).elim hz (fun e => by (subst e; rw [hp] at h; cases h)), by show upd w.H p o a = _; rw [upd_ne (ne_of_none h hp)]; exact h⟩
  frz := fun a ob xs hz h => ⟨fun z => (Wd.Z_cell S z).elim hz (fun e => by (subst e; rw [hp] at h; cases h)), by show upd w.H p o a = _; rw [upd_ne (ne_of_none h hp)]; exact h⟩
  dct := fun a es hz h => ⟨fun z => (Wd.Z_cell S z).elim hz (fun e => by (subst e; rw [hp] at h; cases h)), by show upd w.H p o a = _; rw [upd_ne (ne_of_none h hp)]; exact h⟩
theorem StoOk.cellw {p : Addr} {o : HO} {c : Cell} (S : StoOk K w) (hp : w.H p = none) (hc : CellOk K (w.cell p o c) p c) : StoOk K (w.cell p o c) where
  len := by show (w.ρ ++ [p]).length = (w.sto ++ [c]).length; simp [S.len]
  nd := by
    show (w.ρ ++ [p]).Nodup
    rw [List.nodup_append]
    refine ⟨S.nd, by simp, fun a ha b hb => ?_⟩
    obtain ⟨k, e⟩ := List.getElem?_of_mem ha
    have h := S.there k a e
    have e' : b = p := by simpa using hb
    rw [e']
    intro z; rw [z] at h; exact h hp
  there := fun k a e => by
    have e : (w.ρ ++ [p])[k]? = some a := e
    show upd w.H p o a ≠ none
    unfold upd
    split
    · intro z; cases z
    · rename_i hne
      by_cases hk : k < w.ρ.length
      · rw [List.getElem?_append_left hk] at e
        exact S.there k a e
      · rw [List.getElem?_append_right (by omega)] at e
        cases hj : k - w.ρ.length with
        | zero => rw [hj] at e; exact absurd (Option.some.inj e).symm hne
        | succ j => rw [hj] at e; cases e
  cell := fun k a c' e1 e2 => by
    have e1 : (w.ρ ++ [p])[k]? = some a := e1
    have e2 : (w.sto ++ [c])[k]? = some c' := e2
    by_cases hk : k < w.ρ.length
    · rw [List.getElem?_append_left hk] at e1
      rw [List.getElem?_append_left (by rw [← S.len]; exact hk)] at e2
      refine (S.cell k a c' e1 e2).le (Fw.cell S hp).le fun _ => ?_
      have h := S.there k a e1
      show upd w.H p o a = w.H a
      rw [upd_ne]
      intro z; rw [z] at h; exact h hp
    · rw [List.getElem?_append_right (by omega)] at e1
      rw [List.getElem?_append_right (by rw [← S.len]; omega)] at e2
      rw [← S.len] at e2
      cases hj : k - w.ρ.length with
      | zero =>
        rw [hj] at e1 e2
        have e1 : p = a := Option.some.inj e1
        have e2 : c = c' := Option.some.inj e2
        subst e1 e2
        exact hc
      | succ j => rw [hj] at e1; cases e1
def Wd.same (w : Wd) (H' : Hp) : Wd := { w with H := H' }
theorem Fw.same {H' : Hp} (e : Same w.H H') : Fw K w (w.same H') :=
  ⟨fun _ _ e => e, fun a xs h => e.sqT h, fun a xs hz h => ⟨hz, e _ _ h⟩, fun a o xs hz h => ⟨hz, e _ _ h⟩, fun a es hz h => ⟨hz, e _ _ h⟩⟩
theorem StoOk.same {H' : Hp} (S : StoOk K w) (e : Same w.H H') : StoOk K (w.same H') where
  len := S.len
  nd := S.nd
  there := fun k a q => by
    have h := S.there k a q
    show H' a ≠ none
    cases hq : w.H a with
    | none => exact absurd hq h
    | some o => rw [e _ _ hq]; intro z; cases z
  cell := fun k a c e1 e2 => (S.cell k a c e1 e2).le (Fw.same e).le fun _ => by
    have h := S.there k a e1
    show H' a = w.H a
    cases hq : w.H a with
    | none => exact absurd hq h
    | some o => exact e _ _ hq
def Wd.put (w : Wd) (k : Nat) (a : Addr) (o : HO) (c : Cell) : Wd := ⟨w.ρ, w.sto.set k c, upd w.H a o⟩
theorem inj_of_nodup {α : Type} {l : List α} (nd : l.Nodup) {i j : Nat} {a : α} (h1 : l[i]? = some a) (h2 : l[j]? = some a) : i = j := by
  exact (List.getElem?_inj (List.getElem?_eq_some_iff.mp h1).1 nd).mp (h1.trans h2.symm)
theorem Wd.Z_put {k : Nat} {a b : Addr} {o : HO} {c c0 : Cell} (h0 : w.ρ[k]? = some a) (h1 : w.sto[k]? = some c0) (h2 : c0 ≠ .dead) (h : (w.put k a o c).Z b) : w.Z b := by
  obtain ⟨j, c', e1, e2, e3⟩ := h
  have e1 : w.ρ[j]? = some b := e1
  have e2 : (w.sto.set k c)[j]? = some c' := e2
  by_cases hj : k = j
  · subst hj
    exact ⟨k, c0, e1, h1, h2⟩
  · rw [List.getElem?_set_ne hj] at e2
    exact ⟨j, c', e1, e2, e3⟩
theorem Fw.put {k : Nat} {a : Addr} {o : HO} {c c0 : Cell} (S : StoOk K w) (h0 : w.ρ[k]? = some a) (h1 : w.sto[k]? = some c0) (h2 : c0 ≠ .dead) : Fw K w (w.put k a o c) := by
  have hz : w.Z a := ⟨k, c0, h0, h1, h2⟩
  have nt : ∀ xs, ¬ Rd w.H a (.tup xs) := fun xs h => by
    have q := S.cell k a c0 h0 h1
    cases c0 with
    | dead => exact h2 rfl
    | lst ds => obtain ⟨ys, e, _⟩ := q; rcases h with h | ⟨_, h⟩ <;> (rw [e] at h; cases h)
    | dK kvs => obtain ⟨ys, e, _⟩ := q; rcases h with h | ⟨_, h⟩ <;> (rw [e] at h; cases h)
  refine ⟨fun _ _ e => e, fun b xs h => ?_, fun b xs hb h => ⟨fun z => hb (Wd.Z_put h0 h1 h2 z), ?_⟩, fun b ob xs hb h => ⟨fun z => hb (Wd.Z_put h0 h1 h2 z), ?_⟩, fun b es hb h => ⟨fun z => hb (Wd.Z_put h0 h1 h2 z), ?_⟩⟩
  · rcases h with h | h
    · have ne : b ≠ a := fun e => by subst e; exact nt xs h
      refine .inl ?_
      rcases h with h | ⟨ob, h⟩
      · exact .inl (by show upd w.H a o b = _; rw [upd_ne ne]; exact h)
      · exact .inr ⟨ob, by show upd w.H a o b = _; rw [upd_ne ne]; exact h⟩
    · exact .inr h
  · have ne : b ≠ a := fun e => by subst e; exact hb hz
    show upd w.H a o b = _
    rw [upd_ne ne]; exact h
  · have ne : b ≠ a := fun e => by subst e; exact hb hz
    show upd w.H a o b = _
    rw [upd_ne ne]; exact h
  · have ne : b ≠ a := fun e => by subst e; exact hb hz
    show upd w.H a o b = _
    rw [upd_ne ne]; exact h
theorem StoOk.putw {k : Nat} {a : Addr} {o : HO} {c c0 : Cell} (S : StoOk K w) (h0 : w.ρ[k]? = some a) (h1 : w.sto[k]? = some c0) (h2 : c0 ≠ .dead) (hc : CellOk K (w.put k a o c) a c) : StoOk K (w.put k a o c) where
  len := by show w.ρ.length = (w.sto.set k c).length; rw [List.length_set]; exact S.len
  nd := S.nd
  there := fun j b e => by
    show upd w.H a o b ≠ none
    unfold upd
    split
    · intro z; cases z
    · exact S.there j b e
  cell := fun j b c' e1 e2 => by
    have e1 : w.ρ[j]? = some b := e1
    have e2 : (w.sto.set k c)[j]? = some c' := e2
    by_cases hj : k = j
    · subst hj
      rw [h0] at e1
      have e1 : a = b := Option.some.inj e1
      rw [List.getElem?_set_self (List.getElem?_eq_some_iff.mp h1).1] at e2
      have e2 : c = c' := Option.some.inj e2
      subst e1 e2
      exact hc
    · rw [List.getElem?_set_ne hj] at e2
      refine (S.cell j b c' e1 e2).le (Fw.put S h0 h1 h2).le fun _ => ?_
      show upd w.H a o b = w.H b
      rw [upd_ne]
      intro z
      subst z
      exact hj (inj_of_nodup S.nd h0 e1)
def Wd.freeze (w : Wd) (k : Nat) : Wd := { w with sto := w.sto.set k .dead }
theorem Wd.Z_freeze {k : Nat} {b : Addr} (h : (w.freeze k).Z b) : w.Z b := by
  obtain ⟨j, c', e1, e2, e3⟩ := h
  have e2 : (w.sto.set k .dead)[j]? = some c' := e2
  by_cases hj : k = j
  · subst hj
    have hl := (List.getElem?_eq_some_iff.mp e2).1
    rw [List.length_set] at hl
    rw [List.getElem?_set_self hl] at e2
    exact absurd (Option.some.inj e2).symm e3
  · rw [List.getElem?_set_ne hj] at e2
    exact ⟨j, c', e1, e2, e3⟩
theorem Fw.freeze {k : Nat} : Fw K w (w.freeze k) :=
  ⟨fun _ _ e => e, fun _ _ h => h, fun _ _ hz h => ⟨fun z => hz (Wd.Z_freeze z), h⟩, fun _ _ _ hz h => ⟨fun z => hz (Wd.Z_freeze z), h⟩, fun _ _ hz h => ⟨fun z => hz (Wd.Z_freeze z), h⟩⟩
theorem StoOk.freeze {k : Nat} (S : StoOk K w) : StoOk K (w.freeze k) where
  len := by show w.ρ.length = (w.sto.set k .dead).length; rw [List.length_set]; exact S.len
  nd := S.nd
  there := S.there
  cell := fun j b c' e1 e2 => by
    have e2 : (w.sto.set k .dead)[j]? = some c' := e2
    by_cases hj : k = j
    · subst hj
      have hl := (List.getElem?_eq_some_iff.mp e2).1
      rw [List.length_set] at hl
      rw [List.getElem?_set_self hl] at e2
      rw [← Option.some.inj e2]
      trivial
    · rw [List.getElem?_set_ne hj] at e2
      exact (S.cell j b c' e1 e2).le Fw.freeze.le fun _ => rfl
theorem Wd.nZ_freeze {k : Nat} {a : Addr} (S : StoOk K w) (h : w.ρ[k]? = some a) : ¬ (w.freeze k).Z a := by
  rintro ⟨j, c', e1, e2, e3⟩
  have e1 : w.ρ[j]? = some a := e1
  have e2 : (w.sto.set k .dead)[j]? = some c' := e2
  have hj := inj_of_nodup S.nd h e1
  subst hj
  have hl := (List.getElem?_eq_some_iff.mp e2).1
  rw [List.length_set] at hl
  rw [List.getElem?_set_self hl] at e2
  exact e3 (Option.some.inj e2).symm
end
structure EnvOk (K : PySem.W.Frag) (w : Wd) (env : Env) (σ : St) : Prop where
  len : env.length = σ.length
  val : ∀ (i : Nat) d, env[i]? = some (some d) → ∃ v, σ[i]? = some (some v) ∧ DV K w d v
theorem EnvOk.le {K : PySem.W.Frag} {w w' : Wd} {env : Env} {σ : St} (h : EnvOk K w env σ) (le : Le K w w') : EnvOk K w' env σ :=
  ⟨h.len, fun i d e => by obtain ⟨v, e1, e2⟩ := h.val i d e; exact ⟨v, e1, le d v e2⟩⟩
theorem EnvOk.set {K : PySem.W.Frag} {w : Wd} {env : Env} {σ : St} {d : D} {v : V} (h : EnvOk K w env σ) (hd : DV K w d v) (i : Nat) : EnvOk K w (env.set i (some d)) (σ.set i (some v)) := by
  refine ⟨by rw [List.length_set, List.length_set]; exact h.len, fun j d' e => ?_⟩
  by_cases hj : i = j
  · subst hj
    have hl := (List.getElem?_eq_some_iff.mp e).1
    rw [List.length_set] at hl
    rw [List.getElem?_set_self hl] at e
    have e : d = d' := Option.some.inj (Option.some.inj e)
    subst e
    exact ⟨v, by rw [List.getElem?_set_self (by rw [← h.len]; exact hl)], hd⟩
  · rw [List.getElem?_set_ne hj] at e
    rw [List.getElem?_set_ne hj]
    exact h.val j d' e
def Out (K : PySem.W.Frag) (Ξ : Wd → Exn → Prop) (w : Wd) {α : Type} (r : Res α) (k : Wd → α → Prop) : Prop := match r with
  | none => False
  | some (.ok a, s) => ∀ w', Le K w w' → StoOk K w' → w'.sto = s → k w' a
  | some (.error x, s) => ∀ w', Le K w w' → StoOk K w' → w'.sto = s → Ξ w' x
section
variable {K : PySem.W.Frag} {Ξ : Wd → Exn → Prop} {w w' : Wd} {α β : Type} {r : Res α} {k k' : Wd → α → Prop}
theorem Out.from (h : Out K Ξ w r k) (le : Le K w w') : Out K Ξ w' r k := by
  unfold Out at h ⊢
  split <;> simp only at h
  · exact fun w2 l2 o2 e2 => h w2 (le.trans l2) o2 e2
  · exact fun w2 l2 o2 e2 => h w2 (le.trans l2) o2 e2
theorem Out.mono (h : Out K Ξ w r k) (hk : ∀ w2 a, Le K w w2 → StoOk K w2 → k w2 a → k' w2 a) : Out K Ξ w r k' := by
  unfold Out at h ⊢
  split <;> simp only at h
  · exact fun w2 l2 o2 e2 => hk w2 _ l2 o2 (h w2 l2 o2 e2)
  · exact h
theorem Out.bnd {g : α → Sto → Res β} {q : Wd → β → Prop} (h : Out K Ξ w (DI.bnd r g) q) : Out K Ξ w r (fun w2 a => Out K Ξ w2 (g a w2.sto) q) := by
  match r, h with
  | some (.ok a, s), h =>
    intro w2 l2 o2 e2
    rw [e2]
    exact Out.from h l2
  | some (.error x, s), h => exact h
theorem Out.done {a : α} (h : Out K Ξ w (some (.ok a, w.sto)) k) (S : StoOk K w) : k w a := h w (Le.refl w) S rfl
end
end DI

set_option Elab.async false
set_option linter.all false
set_option maxRecDepth 100000
set_option maxHeartbeats 4000000
namespace DI
open PySem L2
def tE (K : PySem.W.Frag) (Ξ : Wd → Exn → Prop) (f : Env → Sto → Res D) : TE := fun σ H Q => ∃ w env, w.H = H ∧ StoOk K w ∧ EnvOk K w env σ ∧ Out K Ξ w (f env w.sto) fun w' d => ∀ v, DV K w' d v → Q v w'.H
def tT (K : PySem.W.Frag) (Ξ : Wd → Exn → Prop) (f : Env → Sto → Res Bool) : TT := fun σ H Q => ∃ w env, w.H = H ∧ StoOk K w ∧ EnvOk K w env σ ∧ Out K Ξ w (f env w.sto) fun w' b => Q b w'.H
def tA (K : PySem.W.Frag) (Ξ : Wd → Exn → Prop) (f : Env → Sto → Res (List D)) : TA := fun σ H Q => ∃ w env, w.H = H ∧ StoOk K w ∧ EnvOk K w env σ ∧ Out K Ξ w (f env w.sto) fun w' ds => ∀ vs, DVs K w' ds vs → Q vs w'.H
def rO (K : PySem.W.Frag) (Ξ : Wd → Exn → Prop) (o : D → D → Sto → Res D) : R2 := fun x y H Q => ∃ w dx dy, w.H = H ∧ StoOk K w ∧ DV K w dx x ∧ DV K w dy y ∧ Out K Ξ w (o dx dy w.sto) fun w' d => ∀ v, DV K w' d v → Q v w'.H
def rU (K : PySem.W.Frag) (Ξ : Wd → Exn → Prop) (o : D → Sto → Res D) : V → Hp → VK → Prop := fun x H Q => ∃ w dx, w.H = H ∧ StoOk K w ∧ DV K w dx x ∧ Out K Ξ w (o dx w.sto) fun w' d => ∀ v, DV K w' d v → Q v w'.H
def rC (K : PySem.W.Frag) (Ξ : Wd → Exn → Prop) (o : List D → Sto → Res D) : List V → Hp → VK → Prop := fun xs H Q => ∃ w ds, w.H = H ∧ StoOk K w ∧ DVs K w ds xs ∧ Out K Ξ w (o ds w.sto) fun w' d => ∀ v, DV K w' d v → Q v w'.H
def eLoc (i : Nat) : Env → Sto → Res D := fun env s => match env[i]? with
  | some (some d) => ok d s
  | _ => none
def eC (d : D) : Env → Sto → Res D := fun _ s => ok d s
def e1 (o : D → Sto → Res D) (f : Env → Sto → Res D) : Env → Sto → Res D := fun env s => bnd (f env s) fun x s => o x s
def e2 (o : D → D → Sto → Res D) (f g : Env → Sto → Res D) : Env → Sto → Res D := fun env s => bnd (f env s) fun x s => bnd (g env s) fun y s => o x y s
def aNil : Env → Sto → Res (List D) := fun _ s => ok [] s
def aCons (f : Env → Sto → Res D) (g : Env → Sto → Res (List D)) : Env → Sto → Res (List D) := fun env s => bnd (f env s) fun x s => bnd (g env s) fun xs s => ok (x :: xs) s
def eB (o : List D → Sto → Res D) (f : Env → Sto → Res (List D)) : Env → Sto → Res D := fun env s => bnd (f env s) fun ds s => o ds s
def lenOk {α : Type} (ds : List D) (r : Res α) : Res α := if ds.length ≤ sizeLine then r else none
def eTup (f : Env → Sto → Res (List D)) : Env → Sto → Res D := fun env s => bnd (f env s) fun ds s => lenOk ds (ok (.tup ds) s)
def eLst (f : Env → Sto → Res (List D)) : Env → Sto → Res D := fun env s => bnd (f env s) fun ds s => lenOk ds (ok (.lst ds) s)
def eNew (f : Env → Sto → Res (List D)) : Env → Sto → Res D := fun env s => bnd (f env s) fun ds s => lenOk ds (ok (.han s.length) (s ++ [.lst ds]))
def frz : D → Sto → Res D := fun d s => match d with
  | .han k => match s[k]? with
    | some (.lst ds) => ok (.lst ds) (s.set k .dead)
    | _ => none
  | _ => none
def eFrz (f : Env → Sto → Res D) : Env → Sto → Res D := fun env s => bnd (f env s) frz
def isBl (d : D) (s : Sto) : Res Bool := match d with
  | .bl b => ok b s
  | _ => none
def tBl (f : Env → Sto → Res D) : Env → Sto → Res Bool := fun env s => bnd (f env s) isBl
def truth (d : D) (s : Sto) : Res Bool := match d with
  | .non => ok false s
  | .bl b => ok b s
  | .int i => ok (i != 0) s
  | .str x => if x.length ≤ sizeLine then ok ((x.length : Int) != 0) s else none
  | .tup ds => ok (!ds.isEmpty) s
  | .lst ds => ok (!ds.isEmpty) s
  | .dct kvs => ok (!kvs.isEmpty) s
  | .han k => match s[k]? with
    | some (.lst ds) => ok (!ds.isEmpty) s
    | some (.dK kvs) => ok (!kvs.isEmpty) s
    | _ => none
  | .ty _ => none
  | .scr _ => none
def tTru (f : Env → Sto → Res D) : Env → Sto → Res Bool := fun env s => bnd (f env s) truth
def tAnd (f g : Env → Sto → Res Bool) : Env → Sto → Res Bool := fun env s => bnd (f env s) fun b s => if b = true then g env s else ok false s
def tOr (f g : Env → Sto → Res Bool) : Env → Sto → Res Bool := fun env s => bnd (f env s) fun b s => if b = true then ok true s else g env s
def tNot (f : Env → Sto → Res Bool) : Env → Sto → Res Bool := fun env s => bnd (f env s) fun b s => ok (!b) s
def eAnd (f g : Env → Sto → Res D) : Env → Sto → Res D := fun env s => bnd (f env s) fun x s => bnd (isBl x s) fun b s => if b = true then g env s else ok (.bl false) s
def eOr (f g : Env → Sto → Res D) : Env → Sto → Res D := fun env s => bnd (f env s) fun x s => bnd (isBl x s) fun b s => if b = true then ok (.bl true) s else g env s
def eNot (f : Env → Sto → Res D) : Env → Sto → Res D := fun env s => bnd (f env s) fun x s => bnd (isBl x s) fun b s => ok (.bl (!b)) s
def eIf (c : Env → Sto → Res Bool) (f g : Env → Sto → Res D) : Env → Sto → Res D := fun env s => bnd (c env s) fun b s => if b = true then f env s else g env s
def eCh (o o' : D → D → Sto → Res D) (f g h : Env → Sto → Res D) : Env → Sto → Res D := fun env s => bnd (f env s) fun x s => bnd (g env s) fun y s => bnd (o x y s) fun z s => bnd (isBl z s) fun b s =>
  if b = true then bnd (h env s) fun u s => o' y u s else ok (.bl false) s
section
variable {X : Cx} {Ξ : Wd → Exn → Prop} {e a b c : Expr} {es rest : List Expr} {pos : Pos} {f g h : Env → Sto → Res D} {fa : Env → Sto → Res (List D)} {ft gt : Env → Sto → Res Bool}
theorem pe_imp {t t' : TE} (h : PE X e t) (i : ∀ σ H Q, t' σ H Q → t σ H Q) : PE X e t' := fun pins s σ H Q I hq => h pins s σ H Q I (i σ H Q hq)
theorem pt_imp {t t' : TT} (h : PT X e t) (i : ∀ σ H Q, t' σ H Q → t σ H Q) : PT X e t' := fun pins s σ H Q I hq => h pins s σ H Q I (i σ H Q hq)
theorem pw_imp {t t' : TT} (h : PW X e t) (i : ∀ σ H Q, t' σ H Q → t σ H Q) : PW X e t' := fun wh pins s σ H Q I hq => h wh pins s σ H Q I (i σ H Q hq)
theorem pa_imp {t t' : TA} (h : PA X es t) (i : ∀ σ H Q, t' σ H Q → t σ H Q) : PA X es t' := fun p pins s σ H Q I hq => h p pins s σ H Q I (i σ H Q hq)
theorem ps_imp {st : Stmt} {t t' : TS} (h : PS X st t) (i : ∀ D σ H, t' D σ H → t D σ H) : PS X st t' := fun pins s σ H D I hq => h pins s σ H D I (i D σ H hq)
theorem pss_imp {st : List Stmt} {t t' : TS} (h : PSs X st t) (i : ∀ D σ H, t' D σ H → t D σ H) : PSs X st t' := fun pins s σ H D I hq => h pins s σ H D I (i D σ H hq)
theorem out_of {α : Type} {K : PySem.W.Frag} {w : Wd} {a : α} {k : Wd → α → Prop} (S : StoOk K w) (h : Out K Ξ w (ok a w.sto) k) : k w a := h w (Le.refl w) S rfl
theorem e_loc (i : Nat) {x : Str} (hN : X.N[i]? = some x := by rfl) (hv : Vis X.env.scope x := by first | exact Or.inl rfl | exact Or.inr (Or.inl rfl) | exact Or.inr (Or.inr rfl)) (hd : (x == ("__debug__" : Str)) = false := by decide)
    (hcd : (x == ("__classdict__" : Str)) = false := by decide) : PE X (.Name x pos) (tE X.K Ξ (eLoc i)) := pe_imp (pe_var hN hv hd hcd) fun σ H Q ⟨w, env, eH, S, eo, h⟩ => by
  unfold eLoc at h
  split at h
  · rename_i d he
    obtain ⟨v, e1, e2⟩ := eo.val i d he
    subst eH
    exact ⟨v, e1, out_of S h v e2⟩
  · exact h.elim
theorem e_con {d : D} {v : V} (h : PE X e (tC v)) (hd : ∀ w, DV X.K w d v) : PE X e (tE X.K Ξ (eC d)) := pe_imp h fun σ H Q ⟨w, env, eH, S, eo, h⟩ => by
  subst eH
  exact out_of S h v (hd w)
theorem e_int {i j} : PE X (.Constant (.int i) j pos) (tE X.K Ξ (eC (.int i))) := e_con pe_int fun _ => rfl
theorem e_bl {b j} : PE X (.Constant (.bool b) j pos) (tE X.K Ξ (eC (.bl b))) := e_con pe_bl fun _ => rfl
theorem e_non {j} : PE X (.Constant .none j pos) (tE X.K Ξ (eC .non)) := e_con pe_non fun _ => rfl
theorem two_imp {K : PySem.W.Frag} {o : D → D → Sto → Res D} (σ : St) (H : Hp) (Q : VK) : tE K Ξ (e2 o f g) σ H Q → tOp (rO K Ξ o) (tE K Ξ f) (tE K Ξ g) σ H Q := by
  rintro ⟨w, env, rfl, S, eo, h⟩
  exact ⟨w, env, rfl, S, eo, (Out.bnd h).mono fun w1 x l1 S1 h1 v1 dv1 => ⟨w1, env, rfl, S1, eo.le l1, (Out.bnd h1).mono fun w2 y l2 S2 h2 v2 dv2 => ⟨w2, x, y, rfl, S2, l2 _ _ dv1, dv2, h2⟩⟩⟩
theorem e_bin {op : Operator} {o : D → D → Sto → Res D} (ho : OpR X (binaryOp op) (rO X.K Ξ o)) (ha : PE X a (tE X.K Ξ f)) (hb : PE X b (tE X.K Ξ g)) : PE X (.BinOp a op b pos) (tE X.K Ξ (e2 o f g)) := pe_imp (pe_op ho ha hb) two_imp
theorem e_cmp {op : CmpOp} {o : D → D → Sto → Res D} (ho : OpR X (compareOp op) (rO X.K Ξ o)) (ha : PE X a (tE X.K Ξ f)) (hb : PE X b (tE X.K Ξ g)) (hm : behindInMarks op b = false) : PE X (.Compare a [op] [b] pos) (tE X.K Ξ (e2 o f g)) := pe_imp (pe_cmpR ho ha hb hm) two_imp
theorem bl_imp {K : PySem.W.Frag} (σ : St) (H : Hp) (Q : Bool → Hp → Prop) : tT K Ξ (tBl f) σ H Q → tTest (tE K Ξ f) σ H Q := by
  rintro ⟨w, env, rfl, S, eo, h⟩
  refine ⟨w, env, rfl, S, eo, (Out.bnd h).mono fun w1 x l1 S1 h1 v1 dv1 => ?_⟩
  cases x with
  | bl b =>
    have e : v1 = .bl b := dv1
    exact ⟨b, e, out_of S1 h1⟩
  | _ => exact h1.elim
theorem tTest_mono {t t' : TE} (i : ∀ σ H Q, t' σ H Q → t σ H Q) (σ : St) (H : Hp) (Q : Bool → Hp → Prop) : tTest t' σ H Q → tTest t σ H Q := fun h => i _ _ _ h
theorem t_cmp {op : CmpOp} {o : D → D → Sto → Res D} (ho : OpR X (compareOp op) (rO X.K Ξ o)) (ha : PE X a (tE X.K Ξ f)) (hb : PE X b (tE X.K Ξ g)) (hm : behindInMarks op b = false) : PT X (.Compare a [op] [b] pos) (tT X.K Ξ (tBl (e2 o f g))) :=
  pt_imp (pt_cmpR ho ha hb hm) fun σ H Q h => tTest_mono two_imp σ H Q (bl_imp σ H Q h)
theorem ch_imp {K : PySem.W.Frag} {o o' : D → D → Sto → Res D} (σ : St) (H : Hp) (Q : VK) : tE K Ξ (eCh o o' f g h) σ H Q → tChain (rO K Ξ o) (rO K Ξ o') (tE K Ξ f) (tE K Ξ g) (tE K Ξ h) σ H Q := by
  rintro ⟨w, env, rfl, S, eo, h⟩
  refine ⟨w, env, rfl, S, eo, (Out.bnd h).mono fun w1 x l1 S1 h1 v1 dv1 => ⟨w1, env, rfl, S1, eo.le l1, (Out.bnd h1).mono fun w2 y l2 S2 h2 v2 dv2 => ⟨w2, x, y, rfl, S2, l2 _ _ dv1, dv2, (Out.bnd h2).mono fun w3 z l3 S3 h3 v3 dv3 => ?_⟩⟩⟩
  have h4 := Out.bnd h3
  cases z with
  | bl b =>
    have e : v3 = .bl b := dv3
    have h5 := out_of S3 h4
    refine ⟨b, e, ?_⟩
    cases b with
    | true =>
      rw [if_pos rfl] at h5 ⊢
      exact ⟨w3, env, rfl, S3, eo.le (l1.trans (l2.trans l3)), (Out.bnd h5).mono fun w4 u l4 S4 h6 v4 dv4 => ⟨w4, y, u, rfl, S4, (l3.trans l4) _ _ dv2, dv4, h6⟩⟩
    | false =>
      rw [if_neg Bool.false_ne_true] at h5 ⊢
      exact out_of S3 h5 _ rfl
  | _ => exact h4.elim
theorem e_chain {op op' : CmpOp} {o o' : D → D → Sto → Res D} (ho : OpR X (compareOp op) (rO X.K Ξ o)) (ho' : OpR X (compareOp op') (rO X.K Ξ o')) (ha : PE X a (tE X.K Ξ f)) (hb : PE X b (tE X.K Ξ g)) (hc : PE X c (tE X.K Ξ h))
    (hm : lastMarks [op, op'] [b, c] = false := by with_unfolding_all rfl) : PE X (.Compare a [op, op'] [b, c] pos) (tE X.K Ξ (eCh o o' f g h)) := pe_imp (pe_chain ho ho' ha hb hc hm) ch_imp
theorem e_un {op : UnaryOp} {o : D → Sto → Res D} (ho : UnR X (unaryOp op) (rU X.K Ξ o)) (ha : PE X a (tE X.K Ξ f)) : PE X (.UnaryOp op a pos) (tE X.K Ξ (e1 o f)) := pe_imp (pe_un ho ha) fun σ H Q ⟨w, env, eH, S, eo, h⟩ => by
  subst eH
  exact ⟨w, env, rfl, S, eo, (Out.bnd h).mono fun w1 x l1 S1 h1 v1 dv1 => ⟨w1, x, rfl, S1, dv1, h1⟩⟩
theorem a_nil : PA X [] (tA X.K Ξ aNil) := pa_imp pa_nil fun σ H Q ⟨w, env, eH, S, eo, h⟩ => by
  subst eH
  exact out_of S h _ rfl
theorem a_cons (ha : PE X e (tE X.K Ξ f)) (hr : PA X es (tA X.K Ξ fa)) (hs : starEach (e :: es) X.env = (false, eval e X.env) :: starEach es X.env := by rfl) : PA X (e :: es) (tA X.K Ξ (aCons f fa)) := pa_imp (pa_cons ha hr hs) fun σ H Q ⟨w, env, eH, S, eo, h⟩ => by
  subst eH
  exact ⟨w, env, rfl, S, eo, (Out.bnd h).mono fun w1 x l1 S1 h1 v1 dv1 => ⟨w1, env, rfl, S1, eo.le l1, (Out.bnd h1).mono fun w2 xs l2 S2 h2 vs dvs => out_of S2 h2 _ ⟨v1, vs, rfl, l2 _ _ dv1, dvs⟩⟩⟩
theorem lenOk_of {α : Type} {K : PySem.W.Frag} {w : Wd} {ds : List D} {r : Res α} {k : Wd → α → Prop} (h : Out K Ξ w (lenOk ds r) k) : ds.length ≤ sizeLine ∧ Out K Ξ w r k := by
  unfold lenOk at h
  split at h
  · exact ⟨by assumption, h⟩
  · exact h.elim
theorem e_tup {x1} (ha : PA X es (tA X.K Ξ fa)) : PE X (.Tuple es x1 pos) (tE X.K Ξ (eTup fa)) := pe_imp (pe_tup ha) fun σ H Q ⟨w, env, eH, S, eo, h⟩ => by
  subst eH
  refine ⟨w, env, rfl, S, eo, (Out.bnd h).mono fun w1 ds l1 S1 h1 vs dvs => ?_⟩
  obtain ⟨hl, h2⟩ := lenOk_of h1
  refine ⟨by rw [← dvs.length]; exact hl, fun p hp => ?_⟩
  exact h2 (w1.grow p (.tup vs)) (Fw.grow hp).le (S1.grow hp) rfl (.ref p) ⟨p, vs, rfl, SqT.of upd_same, (Fw.grow hp).le.all dvs⟩
theorem nZ_new {K : PySem.W.Frag} {w : Wd} {p : Addr} (S : StoOk K w) (hp : w.H p = none) : ¬ w.Z p := fun ⟨k, c, e1, _, _⟩ => S.there k p e1 hp
theorem e_lst (ha : PA X es (tA X.K Ξ fa)) : PE X (.List es pos) (tE X.K Ξ (eLst fa)) := pe_imp (pe_lst ha) fun σ H Q ⟨w, env, eH, S, eo, h⟩ => by
  subst eH
  refine ⟨w, env, rfl, S, eo, (Out.bnd h).mono fun w1 ds l1 S1 h1 vs dvs => ?_⟩
  obtain ⟨hl, h2⟩ := lenOk_of h1
  refine ⟨by rw [← dvs.length]; exact hl, fun p hp => ?_⟩
  exact h2 (w1.grow p (.lst vs)) (Fw.grow hp).le (S1.grow hp) rfl (.ref p) ⟨p, vs, rfl, ⟨(show ¬ w1.Z p from nZ_new S1 hp), upd_same⟩, (Fw.grow hp).le.all dvs⟩
theorem e_new (ha : PA X es (tA X.K Ξ fa)) : PE X (.List es pos) (tE X.K Ξ (eNew fa)) := pe_imp (pe_lst ha) fun σ H Q ⟨w, env, eH, S, eo, h⟩ => by
  subst eH
  refine ⟨w, env, rfl, S, eo, (Out.bnd h).mono fun w1 ds l1 S1 h1 vs dvs => ?_⟩
  obtain ⟨hl, h2⟩ := lenOk_of h1
  refine ⟨by rw [← dvs.length]; exact hl, fun p hp => ?_⟩
  have le := (Fw.cell (o := .lst vs) (c := .lst ds) S1 hp).le
  refine h2 (w1.cell p (.lst vs) (.lst ds)) le (S1.cellw hp ⟨vs, upd_same, le.all dvs⟩) rfl (.ref p) ⟨p, ?_, rfl⟩
  show (w1.ρ ++ [p])[w1.sto.length]? = some p
  rw [← S1.len]
  simp
theorem e_frz (ha : PE X a (tE X.K Ξ f)) : PE X a (tE X.K Ξ (eFrz f)) := pe_imp ha fun σ H Q ⟨w, env, eH, S, eo, h⟩ => by
  subst eH
  refine ⟨w, env, rfl, S, eo, (Out.bnd h).mono fun w1 x l1 S1 h1 v1 dv1 => ?_⟩
  unfold frz at h1
  split at h1
  · rename_i k
    split at h1
    · rename_i ds hk
      obtain ⟨p, e1, e2⟩ := dv1
      obtain ⟨xs, q1, q2⟩ := S1.cell k p _ e1 hk
      exact h1 (w1.freeze k) Fw.freeze.le S1.freeze rfl v1 ⟨p, xs, e2, ⟨Wd.nZ_freeze S1 e1, q1⟩, Fw.freeze.le.all q2⟩
    · exact h1.elim
  · exact h1.elim
theorem TruV.of {K : PySem.W.Frag} {w : Wd} {d : D} {v : V} {k : Wd → Bool → Prop} (S : StoOk K w) (hd : DV K w d v) (h : Out K Ξ w (truth d w.sto) k) : ∃ b, TruV K v w.H b ∧ k w b := by
  cases d with
  | non => have e : v = .non := hd; subst e; exact ⟨_, rfl, out_of S h⟩
  | bl b => have e : v = .bl b := hd; subst e; exact ⟨_, rfl, out_of S h⟩
  | int i => have e : v = .int i := hd; subst e; exact ⟨_, rfl, out_of S h⟩
  | str x =>
    have e : v = .str x := hd
    subst e
    unfold truth at h
    split at h <;> first | contradiction | skip
    all_goals (rename_i e; cases e)
    split at h
    · exact ⟨_, ⟨by assumption, rfl⟩, out_of S h⟩
    · exact h.elim
  | tup ds =>
    simp only [DV] at hd
    obtain ⟨a, xs, rfl, hq, r⟩ := hd
    refine ⟨_, .inr (.inl ⟨xs, hq, ?_⟩), out_of S h⟩
    have e := r.length
    cases ds <;> cases xs <;> first | rfl | cases e
  | lst ds =>
    simp only [DV] at hd
    obtain ⟨a, xs, rfl, hq, r⟩ := hd
    refine ⟨_, .inl ⟨xs, hq.sq, ?_⟩, out_of S h⟩
    have e := r.length
    cases ds <;> cases xs <;> first | rfl | cases e
  | dct kvs =>
    simp only [DV] at hd
    obtain ⟨a, rfl, _, hq⟩ := hd
    refine ⟨_, .inr (.inr ⟨_, hq, ?_⟩), out_of S h⟩
    cases kvs <;> rfl
  | han j =>
    simp only [DV] at hd
    obtain ⟨a, e1, rfl⟩ := hd
    simp only [truth] at h
    split at h
    · rename_i ds hk
      obtain ⟨xs, q1, q2⟩ := S.cell j a _ e1 hk
      refine ⟨_, .inl ⟨xs, SqL.of q1, ?_⟩, out_of S h⟩
      have e := q2.length
      cases ds <;> cases xs <;> first | rfl | cases e
    · rename_i kvs hk
      obtain ⟨es, q1, q2, q3⟩ := S.cell j a _ e1 hk
      refine ⟨_, .inr (.inr ⟨es, q1, ?_⟩), out_of S h⟩
      have e := congrArg List.length q2
      cases kvs <;> cases es <;> first | rfl | simp at e
    · exact h.elim
  | ty n => exact h.elim
  | scr ns => exact h.elim
theorem t_tru (ha : PE X a (tE X.K Ξ f)) (he : ∀ whole, isTrue a X.env whole = (do let v ← whole; standAt a.pos; holding [v] (truthy v)) := by intro _; rfl) : PT X a (tT X.K Ξ (tTru f)) := pt_imp (pt_truth ha he) fun σ H Q ⟨w, env, eH, S, eo, h⟩ => by
  subst eH
  exact ⟨w, env, rfl, S, eo, (Out.bnd h).mono fun w1 x l1 S1 h1 v1 dv1 => TruV.of S1 dv1 h1⟩
theorem t_not (ha : PT X a (tT X.K Ξ ft)) : PT X (.UnaryOp .Not a pos) (tT X.K Ξ (tNot ft)) := pt_imp (pt_not ha) fun σ H Q ⟨w, env, eH, S, eo, h⟩ => by
  subst eH
  exact ⟨w, env, rfl, S, eo, (Out.bnd h).mono fun w1 b l1 S1 h1 => out_of S1 h1⟩
theorem w_or1 (ha : PT X a (tT X.K Ξ ft)) : PW X (.BoolOp .Or [a] pos) (tT X.K Ξ ft) := pw_or1 ha
theorem w_or (ha : PT X a (tT X.K Ξ ft)) (hb : PW X (.BoolOp .Or (b :: rest) pos) (tT X.K Ξ gt)) : PW X (.BoolOp .Or (a :: b :: rest) pos) (tT X.K Ξ (tOr ft gt)) := pw_imp (pw_or ha hb) fun σ H Q ⟨w, env, eH, S, eo, h⟩ => by
  subst eH
  refine ⟨w, env, rfl, S, eo, (Out.bnd h).mono fun w1 b l1 S1 h1 => ?_⟩
  cases b with
  | false => exact ⟨w1, env, rfl, S1, eo.le l1, h1⟩
  | true => exact out_of S1 h1
theorem e_one {op} (ha : PE X a (tE X.K Ξ f)) : PE X (.BoolOp op [a] pos) (tE X.K Ξ f) := pe_one ha
theorem isBl_of {K : PySem.W.Frag} {w : Wd} {d : D} {v : V} {k : Wd → Bool → Prop} (S : StoOk K w) (hd : DV K w d v) (h : Out K Ξ w (isBl d w.sto) k) : ∃ b, v = .bl b ∧ k w b := by
  cases d with
  | bl b => exact ⟨b, hd, out_of S h⟩
  | _ => exact h.elim
theorem e_and (ha : PE X a (tE X.K Ξ f)) (hb : PE X (.BoolOp .And (b :: rest) pos) (tE X.K Ξ g)) : PE X (.BoolOp .And (a :: b :: rest) pos) (tE X.K Ξ (eAnd f g)) := pe_imp (pe_and ha hb) fun σ H Q ⟨w, env, eH, S, eo, h⟩ => by
  subst eH
  refine ⟨w, env, rfl, S, eo, (Out.bnd h).mono fun w1 x l1 S1 h1 v1 dv1 => ?_⟩
  obtain ⟨b, e, h2⟩ := isBl_of S1 dv1 (Out.bnd h1)
  refine ⟨b, e, ?_⟩
  cases b with
  | true => exact ⟨w1, env, rfl, S1, eo.le l1, h2⟩
  | false => exact out_of S1 h2 _ rfl
theorem e_not (ha : PE X a (tE X.K Ξ f)) : PE X (.UnaryOp .Not a pos) (tE X.K Ξ (eNot f)) := pe_imp (pe_not ha) fun σ H Q ⟨w, env, eH, S, eo, h⟩ => by
  subst eH
  refine ⟨w, env, rfl, S, eo, (Out.bnd h).mono fun w1 x l1 S1 h1 v1 dv1 => ?_⟩
  obtain ⟨b, e, h2⟩ := isBl_of S1 dv1 (Out.bnd h1)
  exact ⟨b, e, out_of S1 h2 _ rfl⟩
theorem e_if (hc : PT X c (tT X.K Ξ ft)) (ha : PE X a (tE X.K Ξ f)) (hb : PE X b (tE X.K Ξ g)) : PE X (.IfExp c a b pos) (tE X.K Ξ (eIf ft f g)) := pe_imp (pe_ifExp hc ha hb) fun σ H Q ⟨w, env, eH, S, eo, h⟩ => by
  subst eH
  refine ⟨w, env, rfl, S, eo, (Out.bnd h).mono fun w1 b l1 S1 h1 => ?_⟩
  cases b with
  | true => exact ⟨w1, env, rfl, S1, eo.le l1, h1⟩
  | false => exact ⟨w1, env, rfl, S1, eo.le l1, h1⟩
theorem cb_imp {K : PySem.W.Frag} {o : List D → Sto → Res D} (σ : St) (H : Hp) (Q : VK) : tE K Ξ (eB o fa) σ H Q → tCB (rC K Ξ o) (tA K Ξ fa) σ H Q := by
  rintro ⟨w, env, rfl, S, eo, h⟩
  exact ⟨w, env, rfl, S, eo, (Out.bnd h).mono fun w1 ds l1 S1 h1 vs dvs => ⟨w1, ds, rfl, S1, dvs, h1⟩⟩
theorem e_callB {x : Str} {p : Pos} {id : String} {o : List D → Sto → Res D} (hc : CallR X (.builtin id) (rC X.K Ξ o)) (hg : Gl X x) (hm : X.mg x = none) (hv : bootBuiltins x = some (.builtin id)) (ha : PA X (e :: es) (tA X.K Ξ fa)) (hn : x ≠ "__name__" := by decide) (hdb : (x == ("__debug__" : Str)) = false := by decide)
    (he : starEach (e :: es) X.env = (false, eval e X.env) :: starEach es X.env := by rfl) (hpl : (backTo pos (starEach es X.env)).any (·.1) = false := by rfl) : PE X (.Call (.Name x p) (e :: es) [] pos) (tE X.K Ξ (eB o fa)) := pe_imp (pe_callB hc hg hm hv ha hn hdb he hpl) cb_imp
theorem e_callTy {x : Str} {p : Pos} {T : String} {o : List D → Sto → Res D} (hc : CallR X (.type T) (rC X.K Ξ o)) (hg : Gl X x) (hm : X.mg x = none) (hv : bootBuiltins x = some (.type T)) (ha : PA X (e :: es) (tA X.K Ξ fa)) (hn : x ≠ "__name__" := by decide) (hdb : (x == ("__debug__" : Str)) = false := by decide)
    (he : starEach (e :: es) X.env = (false, eval e X.env) :: starEach es X.env := by rfl) (hpl : (backTo pos (starEach es X.env)).any (·.1) = false := by rfl) : PE X (.Call (.Name x p) (e :: es) [] pos) (tE X.K Ξ (eB o fa)) := pe_imp (pe_callTy hc hg hm hv ha hn hdb he hpl) cb_imp
end
end DI

set_option Elab.async false
set_option linter.all false
set_option maxRecDepth 100000
set_option maxHeartbeats 4000000
namespace DI
open PySem L2
inductive Fl where
  | nx (env : Env) | rt (d : D) | bk (env : Env) | ct (env : Env)
def fEnd (K : PySem.W.Frag) (D : Ends) (w : Wd) : Fl → Prop
  | .nx env => ∀ σ, EnvOk K w env σ → D.nx σ w.H
  | .rt d => ∀ v, DV K w d v → D.rt v w.H
  | .bk env => ∀ σ, EnvOk K w env σ → D.bk σ w.H
  | .ct env => ∀ σ, EnvOk K w env σ → D.ct σ w.H
def tS (K : PySem.W.Frag) (Ξ : Wd → Exn → Prop) (f : Env → Sto → Res Fl) : TS := fun D σ H => ∃ w env, w.H = H ∧ StoOk K w ∧ EnvOk K w env σ ∧ Out K Ξ w (f env w.sto) (fEnd K D)
def sNil : Env → Sto → Res Fl := fun env s => ok (.nx env) s
def sSeq (f g : Env → Sto → Res Fl) : Env → Sto → Res Fl := fun env s => bnd (f env s) fun fl s => match fl with
  | .nx env => g env s
  | fl => ok fl s
def sRet (f : Env → Sto → Res D) : Env → Sto → Res Fl := fun env s => bnd (f env s) fun d s => ok (.rt d) s
def sRetN : Env → Sto → Res Fl := fun env s => ok (.rt .non) s
def sExpr (f : Env → Sto → Res D) : Env → Sto → Res Fl := fun env s => bnd (f env s) fun _ s => ok (.nx env) s
def sIf (c : Env → Sto → Res Bool) (f g : Env → Sto → Res Fl) : Env → Sto → Res Fl := fun env s => bnd (c env s) fun b s => if b = true then f env s else g env s
def sCont : Env → Sto → Res Fl := fun env s => ok (.ct env) s
def sBrk : Env → Sto → Res Fl := fun env s => ok (.bk env) s
def sAsg (f : Env → Sto → Res D) (g : D → Env → Option Env) : Env → Sto → Res Fl := fun env s => bnd (f env s) fun d s => match g d env with
  | some env' => ok (.nx env') s
  | none => none
def gN (i : Nat) : D → Env → Option Env := fun d env => some (env.set i (some d))
def gAll : List (D → Env → Option Env) → List D → Env → Option Env
  | [], [], env => some env
  | g :: gs, d :: ds, env => match g d env with
    | some env' => gAll gs ds env'
    | none => none
  | _, _, _ => none
def gT (gs : List (D → Env → Option Env)) : D → Env → Option Env := fun d env => match d with
  | .tup ds => gAll gs ds env
  | _ => none
def forGo (g : D → Env → Option Env) (b : Env → Sto → Res Fl) : List D → Env → Sto → Res Fl
  | [], env, s => ok (.nx env) s
  | d :: ds, env, s => match g d env with
    | none => none
    | some env' => bnd (b env' s) fun fl s => match fl with
      | .nx e => forGo g b ds e s
      | .ct e => forGo g b ds e s
      | .bk e => ok (.nx e) s
      | .rt d => ok (.rt d) s
def sFor (it : Env → Sto → Res (List D)) (g : D → Env → Option Env) (b : Env → Sto → Res Fl) : Env → Sto → Res Fl := fun env s => bnd (it env s) fun ds s => forGo g b ds env s
def whlGo (c : Env → Sto → Res Bool) (b : Env → Sto → Res Fl) : Nat → Env → Sto → Res Fl
  | 0, _, _ => none
  | n + 1, env, s => bnd (c env s) fun t s => if t = true then bnd (b env s) fun fl s => match fl with
      | .nx e => whlGo c b n e s
      | .ct e => whlGo c b n e s
      | .bk e => ok (.nx e) s
      | .rt d => ok (.rt d) s
    else ok (.nx env) s
def sWhl (n : Nat) (c : Env → Sto → Res Bool) (b : Env → Sto → Res Fl) : Env → Sto → Res Fl := whlGo c b n
def ne {α : Type} (r : Res α) : Res α := match r with
  | some (.ok a, s) => some (.ok a, s)
  | _ => none
@[simp] theorem ne_ok {α : Type} {a : α} {s : Sto} : ne (some (.ok a, s)) = some (.ok a, s) := rfl
def capsE (cap : List Nat) (env : Env) : Env := cap.map fun j => (env[j]?).getD none
def compGo (nt : Nat) (caps : Env) (g : D → Env → Option Env) (t : Env → Sto → Res Bool) (f : Env → Sto → Res D) : List D → Sto → Res (List D)
  | [], s => ok [] s
  | d :: ds, s => match g d (List.replicate nt none ++ caps) with
    | none => none
    | some env => bnd (ne (t env s)) fun b s => if b = true then bnd (ne (f env s)) fun x s => bnd (compGo nt caps g t f ds s) fun xs s => ok (x :: xs) s
      else compGo nt caps g t f ds s
def eComp (nt : Nat) (cap : List Nat) (it : Env → Sto → Res (List D)) (g : D → Env → Option Env) (t : Env → Sto → Res Bool) (f : Env → Sto → Res D) : Env → Sto → Res D := fun env s =>
  bnd (it env s) fun ds s => lenOk ds (bnd (compGo nt (capsE cap env) g t f ds s) fun xs s => ok (.lst xs) s)
def tTT : Env → Sto → Res Bool := fun _ s => ok true s
def fnRun (np ns : Nat) (b : Env → Sto → Res Fl) : List D → Sto → Res D := fun ds s => if ds.length = np then bnd (b (ds.map some ++ List.replicate (ns - np) none) s) fun fl s => match fl with
  | .rt d => ok d s
  | .nx _ => ok .non s
  | _ => none else none
abbrev NoX : Wd → Exn → Prop := fun _ _ => False
def spI (K : PySem.W.Frag) (f : List D → Sto → Res D) : Sp := fun vs H Q _ => ∃ w ds, w.H = H ∧ StoOk K w ∧ DVs K w ds vs ∧ Out K NoX w (f ds w.sto) fun w' d => ∀ v, DV K w' d v → Q v w'.H
section
variable {X : Cx} {Ξ : Wd → Exn → Prop} {e a b c tg : Expr} {es rest : List Expr} {pos : Pos} {f g h : Env → Sto → Res D} {fa : Env → Sto → Res (List D)} {ft gt : Env → Sto → Res Bool} {st : Stmt} {sts sts' : List Stmt} {fs gs : Env → Sto → Res Fl}
theorem s_nil : PSs X [] (tS X.K Ξ sNil) := pss_imp pss_nil fun D σ H ⟨w, env, eH, S, eo, h⟩ => by
  subst eH
  exact out_of S h σ eo
theorem s_cons (h1 : PS X st (tS X.K Ξ fs)) (h2 : PSs X sts (tS X.K Ξ gs)) : PSs X (st :: sts) (tS X.K Ξ (sSeq fs gs)) := pss_imp (pss_cons h1 h2) fun D σ H ⟨w, env, eH, S, eo, h⟩ => by
  subst eH
  refine ⟨w, env, rfl, S, eo, (Out.bnd h).mono fun w1 fl l1 S1 h1 => ?_⟩
  cases fl with
  | nx env' => exact fun σ' eo' => ⟨w1, env', rfl, S1, eo', h1⟩
  | rt d => have q := out_of S1 h1; exact q
  | bk env' => have q := out_of S1 h1; exact q
  | ct env' => have q := out_of S1 h1; exact q
theorem s_one (h1 : PS X st (tS X.K Ξ fs)) : PSs X [st] (tS X.K Ξ fs) := pss_one h1
theorem s_ret (he : PE X e (tE X.K Ξ f)) : PS X (.Return (some e) pos) (tS X.K Ξ (sRet f)) := ps_imp (ps_ret he) fun D σ H ⟨w, env, eH, S, eo, h⟩ => by
  subst eH
  exact ⟨w, env, rfl, S, eo, (Out.bnd h).mono fun w1 d l1 S1 h1 => out_of S1 h1⟩
theorem s_expr (he : PE X e (tE X.K Ξ f)) (hs : swapsWith e none pos.line X.env = pure false := by rfl) : PS X (.Expr e pos) (tS X.K Ξ (sExpr f)) := ps_imp (ps_expr he hs) fun D σ H ⟨w, env, eH, S, eo, h⟩ => by
  subst eH
  exact ⟨w, env, rfl, S, eo, (Out.bnd h).mono fun w1 d l1 S1 h1 _ _ => out_of S1 h1 σ (eo.le l1)⟩
theorem s_if (hc : PT X c (tT X.K Ξ ft)) (ha : PSs X sts (tS X.K Ξ fs)) (hb : PSs X sts' (tS X.K Ξ gs)) : PS X (.If c sts sts' pos) (tS X.K Ξ (sIf ft fs gs)) := ps_imp (ps_if hc ha hb) fun D σ H ⟨w, env, eH, S, eo, h⟩ => by
  subst eH
  refine ⟨w, env, rfl, S, eo, (Out.bnd h).mono fun w1 b l1 S1 h1 => ?_⟩
  cases b with
  | true => exact ⟨w1, env, rfl, S1, eo.le l1, h1⟩
  | false => exact ⟨w1, env, rfl, S1, eo.le l1, h1⟩
def sNo : Env → Sto → Res Fl := fun _ _ => none
theorem ss_never : PSs X sts (tS X.K Ξ sNo) := fun _ _ _ _ _ _ h => by obtain ⟨w, env, _, _, _, h⟩ := h; exact h.elim
def gD (K : PySem.W.Frag) (g : D → Env → Option Env) : TG := fun v σ H Q => ∃ w env d env', w.H = H ∧ StoOk K w ∧ EnvOk K w env σ ∧ DV K w d v ∧ g d env = some env' ∧ ∀ σ', EnvOk K w env' σ' → Q σ' H
def gDs (K : PySem.W.Frag) (g : List D → Env → Option Env) : TGs := fun vs σ H Q => ∃ w env ds env', w.H = H ∧ StoOk K w ∧ EnvOk K w env σ ∧ DVs K w ds vs ∧ g ds env = some env' ∧ ∀ σ', EnvOk K w env' σ' → Q σ' H
theorem pg_imp {t t' : TG} (h : PG X e t) (i : ∀ v σ H Q, t' v σ H Q → t v σ H Q) : PG X e t' := fun pins s σ H v u Q I r hq => h pins s σ H v u Q I r (i v σ H Q hq)
theorem pgs_imp {t t' : TGs} (h : PGs X es t) (i : ∀ v σ H Q, t' v σ H Q → t v σ H Q) : PGs X es t' := fun pins s σ H v u Q I r hq => h pins s σ H v u Q I r (i v σ H Q hq)
theorem g_name (i : Nat) {x : Str} (hN : X.N.Nodup) (hi : X.N[i]? = some x := by rfl) (hx : Loc X.env.scope x := by first | exact Or.inl rfl | exact Or.inr rfl) (hf : X.fn x = true ∨ X.env.scope.names.lookup x = some .local := by first | exact .inl rfl | exact .inr rfl) : PG X (.Name x pos) (gD X.K (gN i)) :=
  pg_imp (pg_name hN hi hx hf) fun v σ H Q ⟨w, env, d, env', eH, S, eo, dv, eg, k⟩ => by
    have e : env.set i (some d) = env' := Option.some.inj eg
    subst e
    exact k _ (eo.set dv i)
theorem gs_nil : PGs X [] (gDs X.K (gAll [])) := pgs_imp pgs_nil fun vs σ H Q ⟨w, env, ds, env', eH, S, eo, dvs, eg, k⟩ => by
  cases ds with
  | nil =>
    have e : env = env' := Option.some.inj eg
    subst e
    exact ⟨dvs, k _ eo⟩
  | cons d ds => cases eg
theorem gs_cons {g : D → Env → Option Env} {gl : List (D → Env → Option Env)} (h1 : PG X e (gD X.K g)) (h2 : PGs X es (gDs X.K (gAll gl)))
    (hs : (assignEach (e :: es) X.env).map (·.2) = assign e X.env :: (assignEach es X.env).map (·.2) := by rfl) : PGs X (e :: es) (gDs X.K (gAll (g :: gl))) := pgs_imp (pgs_cons h1 h2 hs) fun vs σ H Q ⟨w, env, ds, env', eH, S, eo, dvs, eg, k⟩ => by
  cases ds with
  | nil => cases eg
  | cons d ds =>
    obtain ⟨v, r, rfl, dv, dr⟩ := dvs
    simp only [gAll] at eg
    cases hgd : g d env with
    | none => rw [hgd] at eg; cases eg
    | some env1 =>
      rw [hgd] at eg
      refine ⟨v, r, rfl, w, env, d, env1, eH, S, eo, dv, hgd, fun σ1 eo1 => ⟨w, env1, ds, env', eH, S, eo1, dr, eg, k⟩⟩
theorem gAll_len : ∀ {gl : List (D → Env → Option Env)} {ds : List D} {env env' : Env}, gAll gl ds env = some env' → ds.length = gl.length
  | [], [], _, _, _ => rfl
  | g :: gl, d :: ds, env, env', h => by
    simp only [gAll] at h
    cases hgd : g d env with
    | none => rw [hgd] at h; cases h
    | some e1 => rw [hgd] at h; simp [gAll_len h]
  | [], _ :: _, _, _, h => by cases h
  | _ :: _, [], _, _, h => by cases h
theorem g_tup {gl : List (D → Env → Option Env)} {k : Nat} (hc : X.calm = true) (h : PGs X es (gDs X.K (gAll gl))) (hn : (assignEach es X.env).length = gl.length := by rfl) (hst : (assignEach es X.env).findIdx? (·.1) = none := by rfl) : PG X (.Tuple es k pos) (gD X.K (gT gl)) :=
  pg_imp (pg_tup hc h hn hst) fun v σ H Q ⟨w, env, d, env', eH, S, eo, dv, eg, k⟩ => by
    cases d with
    | tup ds =>
      simp only [DV] at dv
      obtain ⟨p, xs, e1, hq, dvs⟩ := dv
      subst eH
      exact ⟨p, xs, e1, hq, by rw [← dvs.length]; exact gAll_len eg, w, env, ds, env', rfl, S, eo, dvs, eg, k⟩
    | _ => cases eg
theorem asg_imp {K : PySem.W.Frag} {g : D → Env → Option Env} (D : Ends) (σ : St) (H : Hp) : tS K Ξ (sAsg f g) D σ H → tAsg (tE K Ξ f) (gD K g) D σ H := by
  rintro ⟨w, env, rfl, S, eo, h⟩
  refine ⟨w, env, rfl, S, eo, (Out.bnd h).mono fun w1 d l1 S1 h1 v dv => ?_⟩
  cases hg : g d env with
  | none => rw [hg] at h1; exact h1.elim
  | some env' =>
    rw [hg] at h1
    exact ⟨w1, env, d, env', rfl, S1, eo.le l1, dv, hg, out_of S1 h1⟩
theorem s_asg {g : D → Env → Option Env} (he : PE X e (tE X.K Ξ f)) (hg : PG X tg (gD X.K g)) (hs : swapsWithSole [tg] e pos.line X.env = pure false := by rfl) (hw : swappedStores [tg] e X.env = pure none := by rfl)
    (h1 : (assignEach [tg] X.env).map (·.2) = [assign tg X.env] := by rfl) : PS X (.Assign [tg] e pos) (tS X.K Ξ (sAsg f g)) := ps_imp (ps_asg he hg hs hw h1) asg_imp
theorem gName_imp {K : PySem.W.Frag} {te : TE} {i : Nat} (D : Ends) (σ : St) (H : Hp) : tAsg (tE K Ξ f) (gD K (gN i)) D σ H → tAsg (tE K Ξ f) (gName i) D σ H := by
  rintro ⟨w, env, rfl, S, eo, h⟩
  refine ⟨w, env, rfl, S, eo, h.mono fun w1 d l1 S1 h1 v dv => ?_⟩
  obtain ⟨w', env1, d', env', e', S', eo', dv', eg, k⟩ := h1 v dv
  have e : env1.set i (some d') = env' := Option.some.inj eg
  subst e
  exact k _ (eo'.set dv' i)
theorem s_set (i : Nat) {x : Str} {pos' : Pos} (hN : X.N.Nodup) (he : PE X e (tE X.K Ξ f)) (hi : X.N[i]? = some x := by rfl) (hx : Loc X.env.scope x := by first | exact Or.inl rfl | exact Or.inr rfl) (hs : swapsWith e (some (.Name x pos')) pos.line X.env = pure false := by rfl) (hf : X.fn x = true ∨ X.env.scope.names.lookup x = some .local := by first | exact .inl rfl | exact .inr rfl) :
    PS X (.Assign [.Name x pos'] e pos) (tS X.K Ξ (sAsg f (gN i))) := ps_imp (ps_set hN hi hx he hs hf) fun D σ H h => gName_imp (te := tE X.K Ξ f) D σ H (asg_imp D σ H h)
def ItD (K : PySem.W.Frag) (w : Wd) (J : It) (ds : List D) : Prop := ∀ w', Le K w w' → StoOk K w' → ∀ i,
  (∀ d, ds[i]? = some d → J.go i w'.H ∧ ∀ x H', J.yld i w'.H x H' → ∃ w2, w2.H = H' ∧ Le K w' w2 ∧ StoOk K w2 ∧ w2.sto = w'.sto ∧ DV K w2 d x) ∧ (ds.length ≤ i → J.stop i w'.H)
def tIt (K : PySem.W.Frag) (Ξ : Wd → Exn → Prop) (f : Env → Sto → Res (List D)) : TI := fun σ H R => ∃ w env, w.H = H ∧ StoOk K w ∧ EnvOk K w env σ ∧ Out K Ξ w (f env w.sto) fun w' ds => ∀ J, ItD K w' J ds → R J w'.H
theorem pi_imp {t t' : TI} (h : PI X tg e t) (i : ∀ σ H R, t' σ H R → t σ H R) : PI X tg e t' := fun pins s σ H R I hq => h pins s σ H R I (i σ H R hq)
theorem for_imp {K : PySem.W.Frag} {it : Env → Sto → Res (List D)} {g : D → Env → Option Env} (D0 : Ends) (σ : St) (H : Hp) : tS K Ξ (sFor it g fs) D0 σ H → tFor (tIt K Ξ it) (gD K g) (tS K Ξ fs) D0 σ H := by
  rintro ⟨w, env, rfl, S, eo, h⟩
  refine ⟨w, env, rfl, S, eo, (Out.bnd h).mono fun w1 ds l1 S1 h1 J hJ => ?_⟩
  refine ⟨fun i m σ' H' => m = ds.length - i ∧ i ≤ ds.length ∧ ∃ w' env', w'.H = H' ∧ Le K w1 w' ∧ StoOk K w' ∧ EnvOk K w' env' σ' ∧ Out K Ξ w' (forGo g fs (ds.drop i) env' w'.sto) (fEnd K D0),
    ⟨ds.length, rfl, Nat.zero_le _, w1, env, rfl, Le.refl _, S1, eo.le l1, h1⟩, ?_⟩
  rintro i m σ' H' ⟨rfl, hi, w', env', rfl, l', S', eo', h'⟩
  by_cases hlt : i < ds.length
  · right
    obtain ⟨hgo, hy⟩ := (hJ w' l' S' i).1 _ (List.getElem?_eq_getElem hlt)
    rw [List.drop_eq_getElem_cons hlt] at h'
    simp only [forGo] at h'
    cases hg : g ds[i] env' with
    | none => rw [hg] at h'; exact h'.elim
    | some env2 =>
      rw [hg] at h'
      refine ⟨hgo, fun σ2 H2 => ∃ w2 env3, w2.H = H2 ∧ Le K w1 w2 ∧ StoOk K w2 ∧ EnvOk K w2 env3 σ2 ∧ Out K Ξ w2 (forGo g fs (ds.drop (i + 1)) env3 w2.sto) (fEnd K D0), fun σ2 H2 ⟨w2, env3, q⟩ => ⟨ds.length - (i + 1), by omega, rfl, hlt, w2, env3, q⟩, fun x H2 y => ?_⟩
      obtain ⟨w2, rfl, l2, S2, es, dv⟩ := hy x H2 y
      refine ⟨w2, env', ds[i], env2, rfl, S2, eo'.le l2, dv, hg, fun σ2 eo2 => ⟨w2, env2, rfl, S2, eo2, ?_⟩⟩
      rw [← es] at h'
      refine (Out.bnd (h'.from l2)).mono fun w3 fl l3 S3 h3 => ?_
      cases fl with
      | nx e3 => exact fun σ3 eo3 => ⟨w3, e3, rfl, l'.trans (l2.trans l3), S3, eo3, h3⟩
      | ct e3 => exact fun σ3 eo3 => ⟨w3, e3, rfl, l'.trans (l2.trans l3), S3, eo3, h3⟩
      | bk e3 => have q := out_of S3 h3; exact q
      | rt d => have q := out_of S3 h3; exact q
  · left
    have e : i = ds.length := by omega
    subst e
    rw [List.drop_length] at h'
    exact ⟨(hJ w' l' S' _).2 (Nat.le_refl _), out_of S' h' σ' eo'⟩
theorem s_for {iter : Expr} {it : Env → Sto → Res (List D)} {g : D → Env → Option Env} (hp : PassesOwn (model X.prog X.w) X.A X.env X.xe) (hc : X.calm = true) (hi : PI X tg iter (tIt X.K Ξ it)) (hg : PG X tg (gD X.K g)) (hb : PSs X sts (tS X.K Ξ fs))
    (hs : ∀ x, foldedSetIterable iter X.env x = pure x := by intro _; rfl) : PS X (.For tg iter sts [] pos) (tS X.K Ξ (sFor it g fs)) := ps_imp (ps_for hp hc hi hg hb hs) for_imp
theorem Out.ne {α : Type} {K : PySem.W.Frag} {w : Wd} {r : Res α} {k : Wd → α → Prop} (h : Out K Ξ w (DI.ne r) k) : Out K NoX w r k := by
  match r, h with
  | some (.ok a, s), h => exact h
theorem EnvOk.block {K : PySem.W.Frag} {w : Wd} {env : Env} {σ : St} (h : EnvOk K w env σ) (nt : Nat) (cap : List Nat) (o : St) (ho : o.length = nt) : EnvOk K w (List.replicate nt none ++ capsE cap env) (o ++ capsC cap σ) := by
  refine ⟨by simp [capsE, capsC, ho], fun i d e => ?_⟩
  by_cases hi : i < nt
  · rw [List.getElem?_append_left (by simpa using hi), List.getElem?_replicate, if_pos hi] at e
    cases e
  · rw [List.getElem?_append_right (by simpa using Nat.le_of_not_lt hi)] at e
    rw [List.getElem?_append_right (by omega), ho]
    simp only [List.length_replicate] at e
    unfold capsE at e
    unfold capsC
    rw [List.getElem?_map] at e ⊢
    cases ej : cap[i - nt]? with
    | none => rw [ej] at e; cases e
    | some j =>
      rw [ej] at e
      have ev : (env[j]?).getD none = some d := Option.some.inj e
      have ev' : env[j]? = some (some d) := by
        cases q : env[j]? with
        | none => rw [q] at ev; cases ev
        | some z => rw [q] at ev; exact congrArg some ev
      obtain ⟨v, e1, e2⟩ := h.val j d ev'
      exact ⟨v, by rw [Option.map_some, e1]; rfl, e2⟩
theorem comp_imp {K : PySem.W.Frag} {nt : Nat} {cap : List Nat} {it : Env → Sto → Res (List D)} {g : D → Env → Option Env} (σ : St) (H : Hp) (Q : VK) :
    tE K Ξ (eComp nt cap it g ft f) σ H Q → tComp (tIt K Ξ it) nt cap (gD K g) (tT K NoX ft) (tE K NoX f) σ H Q := by
  rintro ⟨w, env, rfl, S, eo, h⟩
  refine ⟨w, env, rfl, S, eo, (Out.bnd h).mono fun w1 ds l1 S1 h1 J hJ => ?_⟩
  obtain ⟨hz, h1⟩ := lenOk_of h1
  refine ⟨fun i m acc H' => m = ds.length - i ∧ i ≤ ds.length ∧ acc.length ≤ i ∧ ∃ w' accD, w'.H = H' ∧ Le K w1 w' ∧ StoOk K w' ∧ DVs K w' accD acc ∧ Out K Ξ w' (compGo nt (capsE cap env) g ft f (ds.drop i) w'.sto) fun w2 xs => ∀ vs, DVs K w2 (accD ++ xs) vs → ∀ p, w2.H p = none → Q (.ref p) (upd w2.H p (.lst vs)),
    ⟨ds.length, rfl, Nat.zero_le _, Nat.zero_le _, w1, [], rfl, Le.refl _, S1, rfl, (Out.bnd h1).mono fun w2 xs l2 S2 h2 vs dvs p hp => ?_⟩, ?_⟩
  · exact h2 (w2.grow p (.lst vs)) (Fw.grow hp).le (S2.grow hp) rfl (.ref p) ⟨p, vs, rfl, ⟨(show ¬ w2.Z p from nZ_new S2 hp), upd_same⟩, (Fw.grow hp).le.all dvs⟩
  rintro i m acc H' ⟨rfl, hi, ha, w', accD, rfl, l', S', da, h'⟩
  by_cases hlt : i < ds.length
  · right
    obtain ⟨hgo, hy⟩ := (hJ w' l' S' i).1 _ (List.getElem?_eq_getElem hlt)
    rw [List.drop_eq_getElem_cons hlt] at h'
    simp only [compGo] at h'
    cases hg : g ds[i] (List.replicate nt none ++ capsE cap env) with
    | none => rw [hg] at h'; exact h'.elim
    | some env2 =>
      rw [hg] at h'
      refine ⟨hgo, by omega, fun acc2 H2 => acc2.length ≤ i + 1 ∧ ∃ w' accD, w'.H = H2 ∧ Le K w1 w' ∧ StoOk K w' ∧ DVs K w' accD acc2 ∧ Out K Ξ w' (compGo nt (capsE cap env) g ft f (ds.drop (i + 1)) w'.sto) fun w2 xs => ∀ vs, DVs K w2 (accD ++ xs) vs → ∀ p, w2.H p = none → Q (.ref p) (upd w2.H p (.lst vs)),
        fun acc2 H2 ⟨ha2, q⟩ => ⟨ds.length - (i + 1), by omega, rfl, hlt, ha2, q⟩, fun o x H3 ho y => ?_⟩
      obtain ⟨w2, rfl, l2, S2, es, dv⟩ := hy x H3 y
      refine ⟨w2, _, ds[i], env2, rfl, S2, (eo.le (l1.trans (l'.trans l2))).block nt cap o ho, dv, hg, fun σ2 eo2 => ?_⟩
      rw [← es] at h'
      refine ⟨w2, env2, rfl, S2, eo2, (Out.bnd (h'.from l2)).ne.mono fun w3 b l3 S3 h3 => ?_⟩
      cases b with
      | true =>
        refine ⟨w3, env2, rfl, S3, eo2.le l3, (Out.bnd h3).ne.mono fun w4 d l4 S4 h4 v dv4 => ⟨by rw [List.length_append]; simp; omega, w4, accD ++ [d], rfl, l'.trans (l2.trans (l3.trans l4)), S4, DVs.append ((l2.trans (l3.trans l4)).all da) (DVs.one dv4), (Out.bnd h4).mono fun w5 xs l5 S5 h5 vs dvs p hp => ?_⟩⟩
        exact out_of S5 h5 vs (by rw [List.append_assoc] at dvs; exact dvs) p hp
      | false =>
        exact ⟨by omega, w3, accD, rfl, l'.trans (l2.trans l3), S3, (l2.trans l3).all da, h3⟩
  · left
    have e : i = ds.length := by omega
    subst e
    rw [List.drop_length] at h'
    refine ⟨(hJ w' l' S' _).2 (Nat.le_refl _), by omega, fun p hp => out_of S' h' acc (by rw [List.append_nil]; exact da) p hp⟩
end
end DI

set_option Elab.async false
set_option linter.all false
set_option maxRecDepth 100000
set_option maxHeartbeats 4000000
namespace DI
open PySem L2
theorem sets_ok {o caps : St} {v : V} {i nt : Nat} (ho : o.length = nt) (hi : i < nt) : (o ++ caps).set i (some v) = o.set i (some v) ++ caps := by
  rw [List.set_append_left _ _ (by omega)]
theorem gok_nameI {i nt : Nat} (hi : i < nt) : GOk (gName i) nt := by
  intro x o caps H R ho h
  exact ⟨⟨o.set i (some x), by rw [List.length_set]; exact ho, sets_ok ho hi⟩, h⟩
def GOks (g : TGs) (nt : Nat) : Prop := ∀ (xs : List V) (o caps : St) (H : Hp) (R : St → Hp → Prop), o.length = nt → g xs (o ++ caps) H R → g xs (o ++ caps) H fun τ H2 => (∃ o2 : St, o2.length = nt ∧ τ = o2 ++ caps) ∧ R τ H2
theorem goks_nil {nt : Nat} : GOks gNil nt := fun xs o caps H R ho h => ⟨h.1, ⟨o, ho, rfl⟩, h.2⟩
theorem goks_cons {i nt : Nat} {g : TGs} (hi : i < nt) (hg : GOks g nt) : GOks (gCons (gName i) g) nt := by
  rintro xs o caps H R ho ⟨v, r, e, h⟩
  refine ⟨v, r, e, ?_⟩
  have h : g r ((o ++ caps).set i (some v)) H R := h
  show g r ((o ++ caps).set i (some v)) H _
  rw [sets_ok ho hi] at h ⊢
  exact hg r _ caps H R (by rw [List.length_set]; exact ho) h
theorem gok_tupI {K : PySem.W.Frag} {n nt : Nat} {g : TGs} (hg : GOks g nt) : GOk (gTup K n g) nt := by
  rintro x o caps H R ho ⟨a, xs, e, hq, hl, h⟩
  exact ⟨a, xs, e, hq, hl, hg xs o caps H R ho h⟩
structure Tg (K : PySem.W.Frag) (g0 : TG) (g : D → Env → Option Env) (nt : Nat) : Prop where
  gok : GOk g0 nt
  imp : ∀ v σ H Q, gD K g v σ H Q → g0 v σ H Q
structure Tgs (K : PySem.W.Frag) (g0 : TGs) (g : List (D → Env → Option Env)) (nt : Nat) : Prop where
  gok : GOks g0 nt
  imp : ∀ v σ H Q, gDs K (gAll g) v σ H Q → g0 v σ H Q
theorem tg_name {K : PySem.W.Frag} (i : Nat) {nt : Nat} (hi : i < nt := by decide) : Tg K (gName i) (gN i) nt := ⟨gok_nameI hi, fun v σ H Q ⟨w, env, d, env', eH, S, eo, dv, eg, k⟩ => by
  have e : env.set i (some d) = env' := Option.some.inj eg
  subst e
  exact k _ (eo.set dv i)⟩
theorem tgs_nil {K : PySem.W.Frag} {nt : Nat} : Tgs K gNil [] nt := ⟨goks_nil, fun vs σ H Q ⟨w, env, ds, env', eH, S, eo, dvs, eg, k⟩ => by
  cases ds with
  | nil =>
    have e : env = env' := Option.some.inj eg
    subst e
    exact ⟨dvs, k _ eo⟩
  | cons d ds => cases eg⟩
theorem tgs_cons {K : PySem.W.Frag} (i : Nat) {nt : Nat} {g0 : TGs} {gl : List (D → Env → Option Env)} (h : Tgs K g0 gl nt) (hi : i < nt := by decide) : Tgs K (gCons (gName i) g0) (gN i :: gl) nt := ⟨goks_cons hi h.gok, fun vs σ H Q ⟨w, env, ds, env', eH, S, eo, dvs, eg, k⟩ => by
  cases ds with
  | nil => cases eg
  | cons d ds =>
    obtain ⟨v, r, rfl, dv, dr⟩ := dvs
    exact ⟨v, r, rfl, h.imp _ _ _ _ ⟨w, _, ds, env', eH, S, eo.set dv i, dr, eg, k⟩⟩⟩
theorem tg_tup {K : PySem.W.Frag} {nt n : Nat} {g0 : TGs} {gl : List (D → Env → Option Env)} (h : Tgs K g0 gl nt) (hn : gl.length = n := by rfl) : Tg K (gTup K n g0) (gT gl) nt := ⟨gok_tupI h.gok, fun v σ H Q ⟨w, env, d, env', eH, S, eo, dv, eg, k⟩ => by
  cases d with
  | tup ds =>
    simp only [DV] at dv
    obtain ⟨p, xs, e1, hq, dvs⟩ := dv
    subst eH
    exact ⟨p, xs, e1, hq, by rw [← dvs.length, gAll_len eg]; exact hn, h.imp _ _ _ _ ⟨w, env, ds, env', rfl, S, eo, dvs, eg, k⟩⟩
  | _ => cases eg⟩
section
variable {X : Cx} {Ξ : Wd → Exn → Prop} {e a b c tg el src : Expr} {es rest tests : List Expr} {pos : Pos} {f g h : Env → Sto → Res D} {fa : Env → Sto → Res (List D)} {ft gt : Env → Sto → Res Bool} {st : Stmt} {sts sts' : List Stmt} {fs gs : Env → Sto → Res Fl}
theorem pf_imp {t t' : TT} (h : PF X tests t) (i : ∀ σ H Q, t' σ H Q → t σ H Q) : PF X tests t' := fun pins s σ H Q I hq => h pins s σ H Q I (i σ H Q hq)
theorem f_nil {K : PySem.W.Frag} : PF X [] (tT K Ξ tTT) := pf_imp pf_nil fun σ H Q ⟨w, env, eH, S, eo, h⟩ => by
  subst eH
  exact out_of S h
theorem f_one {K : PySem.W.Frag} (h : PT X c (tT K Ξ ft)) : PF X [c] (tT K Ξ ft) := pf_one h
theorem tComp_mono {wi : TI} {nt : Nat} {cap : List Nat} {g0 g1 : TG} {tf : TT} {te : TE} (i_ : ∀ v σ H Q, g1 v σ H Q → g0 v σ H Q) {σ : St} {H : Hp} {Q : VK} (wm : ∀ R R' : It → Hp → Prop, (∀ J H', R J H' → R' J H') → wi σ H R → wi σ H R') (h : tComp wi nt cap g1 tf te σ H Q) : tComp wi nt cap g0 tf te σ H Q := by
  refine wm _ _ (fun J H' hc => ?_) h
  obtain ⟨W, w0, step⟩ := hc
  refine ⟨W, w0, fun i m acc H2 hw => ?_⟩
  rcases step i m acc H2 hw with q | ⟨q1, q2, N, q3, q4⟩
  · exact .inl q
  · exact .inr ⟨q1, q2, N, q3, fun o x H3 ho y => i_ _ _ _ _ (q4 o x H3 ho y)⟩
theorem tIt_mono {K : PySem.W.Frag} {it : Env → Sto → Res (List D)} {σ : St} {H : Hp} (R R' : It → Hp → Prop) (i : ∀ J H', R J H' → R' J H') (h : tIt K Ξ it σ H R) : tIt K Ξ it σ H R' := by
  obtain ⟨w, env, eH, S, eo, h⟩ := h
  exact ⟨w, env, eH, S, eo, h.mono fun w1 ds _ _ h1 J hJ => i J _ (h1 J hJ)⟩
theorem e_comp {sc : Scope} {ps : Pos} {N : List Str} {nt : Nat} {cap : List Nat} {it : Env → Sto → Res (List D)} {gd : D → Env → Option Env} {g0 : TG} (hc : X.calm = true) (S : CScope X sc N nt cap) (T : Tg X.K g0 gd nt) (hi : PI X tg src (tIt X.K Ξ it))
    (hY : ∀ (cl : List (Str × Addr)) (C : Addr) (s : Shared) (H : Hp) (ex : List Addr) (pn : List (Addr × Obj)), PG (cxC X N sc cl C s H ex pn) tg g0 ∧ PF (cxC X N sc cl C s H ex pn) tests (tT X.K NoX ft) ∧ PE (cxC X N sc cl C s H ex pn) el (tE X.K NoX f))
    (hs : ∀ x, foldedSetIterable src X.env x = pure x := by intro _; rfl) : PE X (.ListComp el [⟨tg, src, tests, 0⟩] sc ps) (tE X.K Ξ (eComp nt cap it gd ft f)) :=
  pe_imp (pe_comp hc S T.gok hi hY hs) fun σ H Q h => tComp_mono T.imp (fun R R' i h => tIt_mono R R' i h) (comp_imp σ H Q h)
theorem s_comp {sc : Scope} {ps pos' : Pos} {N : List Str} {nt : Nat} {cap : List Nat} {it : Env → Sto → Res (List D)} {gd : D → Env → Option Env} {g0 : TG} (i0 : Nat) {x0 : Str} (hN0 : X.N.Nodup) (hc : X.calm = true) (S : CScope X sc N nt cap) (T : Tg X.K g0 gd nt) (hi : PI X tg src (tIt X.K Ξ it))
    (hY : ∀ (cl : List (Str × Addr)) (C : Addr) (s : Shared) (H : Hp) (ex : List Addr) (pn : List (Addr × Obj)), PG (cxC X N sc cl C s H ex pn) tg g0 ∧ PF (cxC X N sc cl C s H ex pn) tests (tT X.K NoX ft) ∧ PE (cxC X N sc cl C s H ex pn) el (tE X.K NoX f))
    (hi0 : X.N[i0]? = some x0 := by rfl) (hx0 : Loc X.env.scope x0 := by first | exact Or.inl rfl | exact Or.inr rfl)
    (hs : ∀ x, foldedSetIterable src X.env x = pure x := by intro _; rfl)
    (hsw : swapsWith (.ListComp el [⟨tg, src, tests, 0⟩] sc ps) (some (.Name x0 pos')) pos.line X.env = pure true := by rfl)
    (hf0 : X.fn x0 = true ∨ X.env.scope.names.lookup x0 = some .local := by first | exact .inl rfl | exact .inr rfl) : PS X (.Assign [.Name x0 pos'] (.ListComp el [⟨tg, src, tests, 0⟩] sc ps) pos) (tS X.K Ξ (sAsg (eComp nt cap it gd ft f) (gN i0))) :=
  ps_imp (ps_comp hN0 hi0 hx0 hc S T.gok hi hY hs hsw hf0) fun D σ H h => by
    have h2 := gName_imp (te := tE X.K Ξ f) D σ H (asg_imp D σ H h)
    exact tComp_mono T.imp (fun R R' i h => tIt_mono R R' i h) (comp_imp σ H _ h2)
def iSeq (f : Env → Sto → Res D) : Env → Sto → Res (List D) := fun env s => bnd (f env s) fun d s => match d with
  | .lst ds => ok ds s
  | .tup ds => ok ds s
  | _ => none
theorem itd_list {K : PySem.W.Frag} {w : Wd} {a : Addr} {ds : List D} (h : DV K w (.lst ds) (.ref a)) : ItD K w (Itl K a) ds := fun w' l' S' i => by
  have h' := l' _ _ h
  simp only [DV] at h'
  obtain ⟨p, xs, e, hq, dvs⟩ := h'
  cases e
  refine ⟨fun d ed => ?_, fun hl => ⟨xs, hq.sq, by rw [← dvs.length]; exact hl⟩⟩
  obtain ⟨v, ev, dv⟩ := dvs.get' i d ed
  exact ⟨⟨xs, v, hq.sq, ev⟩, fun x H' ⟨e1, e2⟩ => ⟨w', e1.symm, Le.refl _, S', rfl, by
    have q := e2 xs hq.sq
    rw [ev] at q
    cases q
    exact dv⟩⟩
theorem itd_tup {K : PySem.W.Frag} {w : Wd} {a : Addr} {ds : List D} (h : DV K w (.tup ds) (.ref a)) : ItD K w (Itt K a) ds := fun w' l' S' i => by
  have h' := l' _ _ h
  simp only [DV] at h'
  obtain ⟨p, xs, e, hq, dvs⟩ := h'
  cases e
  refine ⟨fun d ed => ?_, fun hl => ⟨xs, hq, by rw [← dvs.length]; exact hl⟩⟩
  obtain ⟨v, ev, dv⟩ := dvs.get' i d ed
  exact ⟨⟨xs, v, hq, ev⟩, fun x H' ⟨e1, e2⟩ => ⟨w', e1.symm, Le.refl _, S', rfl, by
    have q := e2 xs hq
    rw [ev] at q
    cases q
    exact dv⟩⟩
theorem i_seq (hl : PE X a (tE X.K Ξ f)) : PI X tg a (tIt X.K Ξ (iSeq f)) := by
  have both : PI X tg a (fun σ H R => iList X.K (tE X.K Ξ f) σ H R ∨ iTup X.K (tE X.K Ξ f) σ H R) := fun pins s σ H R I h => h.elim (pi_list hl pins s σ H R I) (pi_tup hl pins s σ H R I)
  refine pi_imp both fun σ H R ⟨w, env, eH, S, eo, h⟩ => ?_
  subst eH
  simp only [iSeq] at h
  cases hf : f env w.sto with
  | none => rw [hf] at h; exact h.elim
  | some r =>
    obtain ⟨r, s⟩ := r
    rw [hf] at h
    cases r with
    | error x => exact .inl ⟨w, env, rfl, S, eo, by rw [hf]; exact h⟩
    | ok d =>
      rw [bnd_ok] at h
      cases d with
      | lst ds =>
        refine .inl ⟨w, env, rfl, S, eo, ?_⟩
        rw [hf]
        intro w1 l1 S1 e1 v dv
        have dv' := dv
        simp only [DV] at dv
        obtain ⟨p, xs, rfl, hq, dvs⟩ := dv
        exact ⟨p, rfl, ⟨xs, hq.sq⟩, h w1 l1 S1 e1 _ (itd_list dv')⟩
      | tup ds =>
        refine .inr ⟨w, env, rfl, S, eo, ?_⟩
        rw [hf]
        intro w1 l1 S1 e1 v dv
        have dv' := dv
        simp only [DV] at dv
        obtain ⟨p, xs, rfl, hq, dvs⟩ := dv
        exact ⟨p, rfl, ⟨xs, hq⟩, h w1 l1 S1 e1 _ (itd_tup dv')⟩
      | _ => exact h.elim
def rng (lo : Int) (n : Nat) : List D := (List.range n).map fun (i : Nat) => D.int (lo + (i : Int))
theorem rng_get {lo : Int} {n i : Nat} : (rng lo n)[i]? = if i < n then some (.int (lo + i)) else none := by
  unfold rng
  rw [List.getElem?_map]
  by_cases h : i < n
  · rw [List.getElem?_range h, if_pos h]; rfl
  · rw [List.getElem?_eq_none (by simp; omega), if_neg h]; rfl
theorem rng_len {lo : Int} {n : Nat} : (rng lo n).length = n := by simp [rng]
theorem itd_rng {K : PySem.W.Frag} {w : Wd} {lo : Int} {n : Nat} : ItD K w (Itr lo n) (rng lo n) := fun w' l' S' i => by
  refine ⟨fun d ed => ?_, fun hl => by rw [rng_len] at hl; exact hl⟩
  rw [rng_get] at ed
  split at ed
  · cases ed
    exact ⟨by assumption, fun x H' ⟨e1, e2⟩ => ⟨w', e1.symm, Le.refl _, S', rfl, e2⟩⟩
  · cases ed
def inRng (j : Int) : Bool := decide (-(2 ^ 62) ≤ j) && decide (j < 2 ^ 62)
def iR1 (fa : Env → Sto → Res (List D)) : Env → Sto → Res (List D) := fun env s => bnd (fa env s) fun ds s => match ds with
  | [.int j] => if inRng j = true then ok (rng 0 j.toNat) s else none
  | _ => none
def iR2 (fa : Env → Sto → Res (List D)) : Env → Sto → Res (List D) := fun env s => bnd (fa env s) fun ds s => match ds with
  | [.int i, .int j] => if (inRng i && inRng j) = true then ok (rng i (j - i).toNat) s else none
  | _ => none
theorem i_rng1 {p : Pos} (hg : Gl X "range") (hm : X.mg "range" = none) (ha : PA X [a] (tA X.K Ξ fa)) (hs : starEach [a] X.env = [(false, eval a X.env)] := by rfl) : PI X tg (.Call (.Name "range" p) [a] [] pos) (tIt X.K Ξ (iR1 fa)) :=
  pi_imp (pi_range1 hg hm ha hs) fun σ H R ⟨w, env, eH, S, eo, h⟩ => by
    subst eH
    refine ⟨w, env, rfl, S, eo, (Out.bnd h).mono fun w1 ds l1 S1 h1 vs dvs => ?_⟩
    split at h1
    · rename_i j
      split at h1
      · rename_i hj
        simp only [inRng, Bool.and_eq_true, decide_eq_true_eq] at hj
        obtain ⟨v, r, rfl, dv, dr⟩ := dvs
        have e1 : v = .int j := dv
        have e2 : r = [] := dr
        subst e1 e2
        exact ⟨j, rfl, hj.1, hj.2, out_of S1 h1 _ itd_rng⟩
      · exact h1.elim
    · exact h1.elim
theorem i_rng2 {p : Pos} (hg : Gl X "range") (hm : X.mg "range" = none) (ha : PA X [a, b] (tA X.K Ξ fa)) (hs : starEach [a, b] X.env = [(false, eval a X.env), (false, eval b X.env)] := by rfl) (hs2 : starEach [b] X.env = [(false, eval b X.env)] := by rfl) : PI X tg (.Call (.Name "range" p) [a, b] [] pos) (tIt X.K Ξ (iR2 fa)) :=
  pi_imp (pi_range2 hg hm ha hs hs2) fun σ H R ⟨w, env, eH, S, eo, h⟩ => by
    subst eH
    refine ⟨w, env, rfl, S, eo, (Out.bnd h).mono fun w1 ds l1 S1 h1 vs dvs => ?_⟩
    split at h1
    · rename_i i j
      split at h1
      · rename_i hj
        simp only [inRng, Bool.and_eq_true, decide_eq_true_eq] at hj
        obtain ⟨v, r, rfl, dv, v2, r2, rfl, dv2, dr⟩ := dvs
        have e1 : v = .int i := dv
        have e2 : v2 = .int j := dv2
        have e3 : r2 = [] := dr
        subst e1 e2 e3
        exact ⟨i, j, rfl, ⟨hj.1.1, hj.1.2, hj.2.1, hj.2.2⟩, out_of S1 h1 _ itd_rng⟩
      · exact h1.elim
    · exact h1.elim
def zipD (xs ys : List D) : List D := (xs.zip ys).map fun p => .tup [p.1, p.2]
theorem zipD_get {xs ys : List D} {i : Nat} {d : D} (h : (zipD xs ys)[i]? = some d) : ∃ x y, xs[i]? = some x ∧ ys[i]? = some y ∧ d = .tup [x, y] := by
  unfold zipD at h
  rw [List.getElem?_map] at h
  cases hz : (xs.zip ys)[i]? with
  | none => rw [hz] at h; cases h
  | some p =>
    rw [hz] at h
    obtain ⟨q1, q2⟩ := List.getElem?_zip_eq_some.mp hz
    exact ⟨p.1, p.2, q1, q2, (Option.some.inj h).symm⟩
theorem zipD_len {xs ys : List D} : (zipD xs ys).length = min xs.length ys.length := by simp [zipD]
theorem pair_grow {K : PySem.W.Frag} {w' : Wd} {d d2 : D} {x y : V} {p : Addr} (S' : StoOk K w') (hp : w'.H p = none) (h1 : DV K w' d x) (h2 : DV K w' d2 y) :
    ∃ w2, w2.H = upd w'.H p (.tup [x, y]) ∧ Le K w' w2 ∧ StoOk K w2 ∧ w2.sto = w'.sto ∧ DV K w2 (.tup [d, d2]) (.ref p) :=
  ⟨w'.grow p (.tup [x, y]), rfl, (Fw.grow hp).le, S'.grow hp, rfl, p, [x, y], rfl, SqT.of upd_same, (Fw.grow hp).le.all (DVs.two h1 h2)⟩
theorem itd_zipT {K : PySem.W.Frag} {w : Wd} {a b : Addr} {ds es : List D} (h : DV K w (.tup ds) (.ref a)) (g : DV K w (.tup es) (.ref b)) : ItD K w (ItzT K a b) (zipD ds es) := fun w' l' S' i => by
  have h' := l' _ _ h
  have g' := l' _ _ g
  simp only [DV] at h' g'
  obtain ⟨p, xs, e, hq, dvs⟩ := h'
  obtain ⟨q, ys, e', gq, evs⟩ := g'
  cases e; cases e'
  refine ⟨fun d ed => ?_, fun hl => ⟨xs, ys, hq, gq, ?_⟩⟩
  · obtain ⟨x, y, e1, e2, rfl⟩ := zipD_get ed
    obtain ⟨v, ev, dv⟩ := dvs.get' i x e1
    obtain ⟨u, eu, du⟩ := evs.get' i y e2
    refine ⟨⟨xs, ys, v, u, hq, gq, ev, eu⟩, fun z H' ⟨r, x1, y1, hr, ez, eH, hxy⟩ => ?_⟩
    obtain ⟨q1, q2⟩ := hxy xs ys hq gq
    rw [ev] at q1; rw [eu] at q2
    cases q1; cases q2
    subst ez eH
    exact pair_grow S' hr dv du
  · rw [zipD_len] at hl
    have := dvs.length
    have := evs.length
    omega
theorem itd_zipL {K : PySem.W.Frag} {w : Wd} {a b : Addr} {ds es : List D} (h : DV K w (.lst ds) (.ref a)) (g : DV K w (.lst es) (.ref b)) : ItD K w (ItzL K a b) (zipD ds es) := fun w' l' S' i => by
  have h' := l' _ _ h
  have g' := l' _ _ g
  simp only [DV] at h' g'
  obtain ⟨p, xs, e, hq, dvs⟩ := h'
  obtain ⟨q, ys, e', gq, evs⟩ := g'
  cases e; cases e'
  refine ⟨fun d ed => ?_, fun hl => ⟨xs, ys, hq.sq, gq.sq, ?_⟩⟩
  · obtain ⟨x, y, e1, e2, rfl⟩ := zipD_get ed
    obtain ⟨v, ev, dv⟩ := dvs.get' i x e1
    obtain ⟨u, eu, du⟩ := evs.get' i y e2
    refine ⟨⟨xs, ys, v, u, hq.sq, gq.sq, ev, eu⟩, fun z H' ⟨r, x1, y1, hr, ez, eH, hxy⟩ => ?_⟩
    obtain ⟨q1, q2⟩ := hxy xs ys hq.sq gq.sq
    rw [ev] at q1; rw [eu] at q2
    cases q1; cases q2
    subst ez eH
    exact pair_grow S' hr dv du
  · rw [zipD_len] at hl
    have := dvs.length
    have := evs.length
    omega
def iZip (fa : Env → Sto → Res (List D)) : Env → Sto → Res (List D) := fun env s => bnd (fa env s) fun ds s => match ds with
  | [.tup xs, .tup ys] => ok (zipD xs ys) s
  | [.lst xs, .lst ys] => ok (zipD xs ys) s
  | _ => none
theorem i_zip {p : Pos} {elts : List Expr} {kk : Nat} {tpos : Pos} (hg : Gl X "zip") (hm : X.mg "zip" = none) (ha : PA X [a, b] (tA X.K Ξ fa)) (hs : starEach [a, b] X.env = [(false, eval a X.env), (false, eval b X.env)] := by rfl) (hs2 : starEach [b] X.env = [(false, eval b X.env)] := by rfl) :
    PI X (.Tuple elts kk tpos) (.Call (.Name "zip" p) [a, b] [] pos) (tIt X.K Ξ (iZip fa)) := by
  have both : PI X (.Tuple elts kk tpos) (.Call (.Name "zip" p) [a, b] [] pos) (fun σ H R => iZipT X.K (tA X.K Ξ fa) σ H R ∨ iZipL X.K (tA X.K Ξ fa) σ H R) := fun pins s σ H R I h => h.elim (pi_zipT hg hm ha hs hs2 pins s σ H R I) (pi_zipL hg hm ha hs hs2 pins s σ H R I)
  refine pi_imp both fun σ H R ⟨w, env, eH, S, eo, h⟩ => ?_
  subst eH
  simp only [iZip] at h
  cases hf : fa env w.sto with
  | none => rw [hf] at h; exact h.elim
  | some r =>
    obtain ⟨r, s⟩ := r
    rw [hf] at h
    cases r with
    | error x => exact .inl ⟨w, env, rfl, S, eo, by rw [hf]; exact h⟩
    | ok ds =>
      rw [bnd_ok] at h
      split at h
      · refine .inl ⟨w, env, rfl, S, eo, ?_⟩
        rw [hf]
        intro w1 l1 S1 e1 vs dvs
        obtain ⟨v, r, rfl, dv, v2, r2, rfl, dv2, dr⟩ := dvs
        have e3 : r2 = [] := dr
        subst e3
        have q1 := dv
        have q2 := dv2
        simp only [DV] at q1 q2
        obtain ⟨p, xs, rfl, hq, _⟩ := q1
        obtain ⟨q, ys, rfl, gq, _⟩ := q2
        exact ⟨p, q, xs, ys, rfl, hq, gq, h w1 l1 S1 e1 _ (itd_zipT dv dv2)⟩
      · refine .inr ⟨w, env, rfl, S, eo, ?_⟩
        rw [hf]
        intro w1 l1 S1 e1 vs dvs
        obtain ⟨v, r, rfl, dv, v2, r2, rfl, dv2, dr⟩ := dvs
        have e3 : r2 = [] := dr
        subst e3
        have q1 := dv
        have q2 := dv2
        simp only [DV] at q1 q2
        obtain ⟨p, xs, rfl, hq, _⟩ := q1
        obtain ⟨q, ys, rfl, gq, _⟩ := q2
        exact ⟨p, q, xs, ys, rfl, hq.sq, gq.sq, h w1 l1 S1 e1 _ (itd_zipL dv dv2)⟩
      · exact h.elim
def enumD (xs : List D) : List D := xs.zipIdx.map fun p => .tup [.int p.2, p.1]
def iEnum (fa : Env → Sto → Res (List D)) : Env → Sto → Res (List D) := fun env s => bnd (fa env s) fun ds s => match ds with
  | [.tup xs] => ok (enumD xs) s
  | _ => none
def eCall (fn : List D → Sto → Res D) (fa : Env → Sto → Res (List D)) : Env → Sto → Res D := fun env s => bnd (fa env s) fun ds s => ne (fn ds s)
theorem e_call {k : Nat} {fA : Addr} {fd : FuncData} {pms : List Str} {fn : List D → Sto → Res D} {x : Str} {p : Pos} (F : FnOk X.prog X.w X.K X.mg X.base CX0 k fA fd pms (spI X.K fn)) (hr : Room k X.A) (hg : Gl X x) (hm : X.mg x = some (.ref fA)) (hk : PySem.W.keepIn X.K (.ref fA) = true) (hb : Binds X.K fd pms [])
    (ha : PA X (e :: es) (tA X.K Ξ fa)) (hdb : (x == ("__debug__" : Str)) = false := by decide) (he : starEach (e :: es) X.env = (false, eval e X.env) :: starEach es X.env := by rfl) (hpl : (backTo pos (starEach es X.env)).any (·.1) = false := by rfl) :
    PE X (.Call (.Name x p) (e :: es) [] pos) (tE X.K Ξ (eCall fn fa)) := pe_imp (pe_call F hr hg hm hk hb .nil pass0 ha hdb he hpl) fun σ H Q ⟨w, env, eH, S, eo, h⟩ => by
  subst eH
  refine ⟨w, env, rfl, S, eo, (Out.bnd h).mono fun w1 ds l1 S1 h1 vs dvs => ?_⟩
  show spI X.K fn (vs ++ []) w1.H Q E0
  rw [List.append_nil]
  exact ⟨w1, ds, rfl, S1, dvs, h1.ne⟩
theorem DVs.env {K : PySem.W.Frag} {w : Wd} {ds : List D} {vs : List V} (h : DVs K w ds vs) (n : Nat) : EnvOk K w (ds.map some ++ List.replicate (n - ds.length) none) (vs.map some ++ List.replicate (n - vs.length) none) := by
  have hl := h.length
  refine ⟨by simp [hl], fun i d e => ?_⟩
  by_cases hi : i < ds.length
  · rw [List.getElem?_append_left (by simpa using hi), List.getElem?_map] at e
    rw [List.getElem?_append_left (by simp; omega), List.getElem?_map]
    cases hd : ds[i]? with
    | none => rw [hd] at e; cases e
    | some d' =>
      rw [hd] at e
      cases e
      obtain ⟨v, ev, dv⟩ := h.get' i d hd
      exact ⟨v, by rw [ev]; rfl, dv⟩
  · rw [List.getElem?_append_right (by simpa using Nat.le_of_not_lt hi), List.getElem?_replicate] at e
    split at e <;> cases e
end
theorem fn_ok {P : Program} {w : World} {K : PySem.W.Frag} {mg : Str → Option Value} {base : Heap} {x qual : Str} {st : Stmt} {f : Addr} {fd : FuncData} {N ps : List Str} {k : Nat} {b : Env → Sto → Res Fl} (F : Fun K x qual st f fd) (S : FnScope N ps (defScope st))
    (hb : ∀ (cdv : Value) (A : Around) (outer : List PySem.Env) (s : Shared) (H : Hp) (E : XK), Room k (A.deeper (PyProof.Rows.envOfC qual (defScope st) s.heap.objs.size f cdv)) → PSs (cxOf CX0 P w K mg base N qual (defScope st) f cdv A outer s H E).nox (defBody st) (tS K NoX b)) :
    FnOk P w K mg base CX0 (k + 1) f fd ps (spI K (fnRun ps.length N.length b)) := by
  refine F.ok S (fun vs H Q E h => ?_) (fun cdv A outer s H vs Q E hr h => ?_)
  · obtain ⟨w, ds, rfl, S, dvs, h⟩ := h
    rw [← dvs.length]
    unfold fnRun at h
    split at h
    · assumption
    · exact h.elim
  · obtain ⟨w, ds, rfl, S, dvs, h⟩ := h
    refine ⟨_, hb cdv A outer s w.H E hr, ?_⟩
    unfold fnRun at h
    split at h
    · rename_i hl
      rw [← hl] at h
      refine ⟨w, _, rfl, S, dvs.env N.length, (Out.bnd h).mono fun w1 fl l1 S1 h1 => ?_⟩
      cases fl with
      | nx env => intro σ' _; exact out_of S1 h1 _ rfl
      | rt d => have q := out_of S1 h1; exact q
      | bk env => exact h1.elim
      | ct env => exact h1.elim
    · exact h.elim
end DI

set_option Elab.async false
set_option linter.all false
set_option maxRecDepth 100000
set_option maxHeartbeats 4000000
namespace DI
open PySem L2
mutual
def py : D → PyData
  | .non => .none
  | .bl b => .bool b
  | .int i => .int i
  | .str x => .str x
  | .tup ds => .tuple (pys ds)
  | .lst ds => .list (pys ds)
  | .dct kvs => .dict (kvs.map fun p => (keyD p.1, PyData.int p.2))
  | .han _ => .none
  | .ty _ => .none
  | .scr _ => .none
def pys : List D → List PyData
  | [] => []
  | d :: ds => py d :: pys ds
end
mutual
def plain : D → Bool
  | .non => true
  | .bl _ => true
  | .int _ => true
  | .str _ => true
  | .tup ds => plains ds
  | .lst ds => plains ds
  | .dct _ => true
  | .han _ => false
  | .ty _ => false
  | .scr _ => false
def plains : List D → Bool
  | [] => true
  | d :: ds => plain d && plains ds
end
mutual
def lay : D → Bool
  | .non => true
  | .bl _ => true
  | .int _ => true
  | .str x => PyData.strOk x
  | .tup ds => lays ds
  | .lst ds => lays ds
  | .dct _ => false
  | .han _ => false
  | .ty _ => false
  | .scr _ => false
def lays : List D → Bool
  | [] => true
  | d :: ds => lay d && lays ds
end
mutual
def dep : D → Nat
  | .tup ds => deps ds + 1
  | .lst ds => deps ds + 1
  | .dct kvs => 1
  | .non => 0
  | .bl _ => 0
  | .int _ => 0
  | .str _ => 0
  | .han _ => 0
  | .ty _ => 0
  | .scr _ => 0
def deps : List D → Nat
  | [] => 0
  | d :: ds => max (dep d) (deps ds)
end
mutual
def beq : D → D → Bool
  | .non, .non => true
  | .bl a, .bl b => a == b
  | .bl a, .int j => (if a then 1 else 0) == j
  | .int i, .bl b => i == (if b then 1 else 0)
  | .int i, .int j => i == j
  | .str x, .str y => x == y
  | .tup xs, .tup ys => beqs xs ys
  | .lst xs, .lst ys => beqs xs ys
  | _, _ => false
def beqs : List D → List D → Bool
  | [], [] => true
  | x :: xs, y :: ys => beq x y && beqs xs ys
  | _, _ => false
end
mutual
theorem lay_plain : ∀ (d : D), lay d = true → plain d = true
  | .non, _ => rfl
  | .bl _, _ => rfl
  | .int _, _ => rfl
  | .str _, _ => rfl
  | .tup ds, h => by simp only [lay, plain] at h ⊢; exact lays_plains ds h
  | .lst ds, h => by simp only [lay, plain] at h ⊢; exact lays_plains ds h
  | .dct _, h => by simp [lay] at h
  | .han _, h => by simp [lay] at h
  | .ty _, h => by simp [lay] at h
  | .scr _, h => by simp [lay] at h
theorem lays_plains : ∀ (ds : List D), lays ds = true → plains ds = true
  | [], _ => rfl
  | d :: ds, h => by
    simp only [lays, plains, Bool.and_eq_true] at h ⊢
    exact ⟨lay_plain d h.1, lays_plains ds h.2⟩
end
mutual
theorem lay_py : ∀ (d : D), lay d = true → (py d).canLay0 = true ∧ (py d).depth = dep d
  | .non, _ => ⟨rfl, by simp [py, dep, PyData.depth]⟩
  | .bl _, _ => ⟨rfl, by simp [py, dep, PyData.depth]⟩
  | .int _, _ => ⟨rfl, by simp [py, dep, PyData.depth]⟩
  | .str _, h => ⟨h, by simp [py, dep, PyData.depth]⟩
  | .tup ds, h => by
    obtain ⟨h1, h2⟩ := lays_pys ds (by simpa [lay] using h)
    simp only [py, dep, PyData.depth, PyData.canLay0]
    exact ⟨h1, by rw [h2]⟩
  | .lst ds, h => by
    obtain ⟨h1, h2⟩ := lays_pys ds (by simpa [lay] using h)
    simp only [py, dep, PyData.depth, PyData.canLay0]
    exact ⟨h1, by rw [h2]⟩
  | .dct _, h => by simp [lay] at h
  | .han _, h => by simp [lay] at h
  | .ty _, h => by simp [lay] at h
  | .scr _, h => by simp [lay] at h
theorem lays_pys : ∀ (ds : List D), lays ds = true → PyData.canLayAll0 (pys ds) = true ∧ PyData.depthAll (pys ds) = deps ds
  | [], _ => ⟨rfl, rfl⟩
  | d :: ds, h => by
    simp only [lays, Bool.and_eq_true] at h
    obtain ⟨a1, a2⟩ := lay_py d h.1
    obtain ⟨b1, b2⟩ := lays_pys ds h.2
    simp only [pys, deps, PyData.canLayAll0, PyData.depthAll, a1, b1, a2, b2, Bool.and_self, and_self]
end
mutual
theorem beq_py : ∀ (d e : D), lay d = true → lay e = true → PyData.eqv (py d) (py e) = beq d e
  | .tup xs, .tup ys, h, g => by
    simp only [py, beq, PyData.eqv]
    exact beqs_pys xs ys (by simpa [lay] using h) (by simpa [lay] using g)
  | .lst xs, .lst ys, h, g => by
    simp only [py, beq, PyData.eqv]
    exact beqs_pys xs ys (by simpa [lay] using h) (by simpa [lay] using g)
  | .non, e, _, g => by cases e <;> simp_all [py, beq, PyData.eqv, lay]
  | .bl _, e, _, g => by cases e <;> simp_all [py, beq, PyData.eqv, lay]
  | .int _, e, _, g => by cases e <;> simp_all [py, beq, PyData.eqv, lay]
  | .str _, e, _, g => by cases e <;> simp_all [py, beq, PyData.eqv, lay]
  | .tup _, .non, _, _ => by simp [py, beq, PyData.eqv]
  | .tup _, .bl _, _, _ => by simp [py, beq, PyData.eqv]
  | .tup _, .int _, _, _ => by simp [py, beq, PyData.eqv]
  | .tup _, .str _, _, _ => by simp [py, beq, PyData.eqv]
  | .tup _, .lst _, _, _ => by simp [py, beq, PyData.eqv]
  | .lst _, .non, _, _ => by simp [py, beq, PyData.eqv]
  | .lst _, .bl _, _, _ => by simp [py, beq, PyData.eqv]
  | .lst _, .int _, _, _ => by simp [py, beq, PyData.eqv]
  | .lst _, .str _, _, _ => by simp [py, beq, PyData.eqv]
  | .lst _, .tup _, _, _ => by simp [py, beq, PyData.eqv]
  | .dct _, _, h, _ => by simp [lay] at h
  | .han _, _, h, _ => by simp [lay] at h
  | .ty _, _, h, _ => by simp [lay] at h
  | .scr _, _, h, _ => by simp [lay] at h
  | _, .dct _, _, h => by simp [lay] at h
  | _, .han _, _, h => by simp [lay] at h
  | _, .ty _, _, h => by simp [lay] at h
  | _, .scr _, _, h => by simp [lay] at h
theorem beqs_pys : ∀ (ds es : List D), lays ds = true → lays es = true → PyData.eqvAll (pys ds) (pys es) = beqs ds es
  | [], [], _, _ => rfl
  | [], _ :: _, _, _ => rfl
  | _ :: _, [], _, _ => rfl
  | d :: ds, e :: es, h, g => by
    simp only [lays, Bool.and_eq_true] at h g
    simp only [pys, beqs, PyData.eqvAll, beq_py d e h.1 g.1, beqs_pys ds es h.2 g.2]
end
mutual
theorem DV.py {K : PySem.W.Frag} {w : Wd} : ∀ {d : D} {v : V}, DV K w d v → plain d = true → L2.DV K (fun _ => False) w.H (DI.py d) v
  | .non, _, h, _ => h
  | .bl _, _, h, _ => h
  | .int _, _, h, _ => h
  | .str _, _, h, _ => h
  | .tup ds, v, h, p => by
    simp only [DV] at h
    obtain ⟨a, xs, e, hq, r⟩ := h
    simp only [DI.py, L2.DV]
    exact ⟨a, xs, e, hq, DVs.py r (by simpa [plain] using p)⟩
  | .lst ds, v, h, p => by
    simp only [DV] at h
    obtain ⟨a, xs, e, hq, r⟩ := h
    simp only [DI.py, L2.DV]
    exact ⟨a, xs, e, not_false, hq.2, DVs.py r (by simpa [plain] using p)⟩
  | .dct kvs, v, h, p => by
    simp only [DV] at h
    obtain ⟨a, e, hz, hq⟩ := h
    simp only [DI.py, L2.DV]
    exact ⟨a, _, e, not_false, hq, kvs, rfl, rfl⟩
  | .han _, _, _, p => by simp [plain] at p
  | .ty _, _, _, p => by simp [plain] at p
  | .scr _, _, _, p => by simp [plain] at p
theorem DVs.py {K : PySem.W.Frag} {w : Wd} : ∀ {ds : List D} {vs : List V}, DVs K w ds vs → plains ds = true → L2.DVs K (fun _ => False) w.H (DI.pys ds) vs
  | [], _, h, _ => h
  | d :: ds, vs, h, p => by
    simp only [DVs] at h
    obtain ⟨v, r, e, h1, h2⟩ := h
    simp only [plains, Bool.and_eq_true] at p
    exact ⟨v, r, e, DV.py h1 p.1, DVs.py h2 p.2⟩
end
def res (d : D) (s : Sto) : D := match d with
  | .han k => match s[k]? with
    | some (.lst ds) => .lst ds
    | _ => d
  | _ => d
theorem DV.res {K : PySem.W.Frag} {w : Wd} {d : D} {v : V} (S : StoOk K w) (h : DV K w d v) (p : plain (DI.res d w.sto) = true) : L2.DV K (fun _ => False) w.H (DI.py (DI.res d w.sto)) v := by
  cases d with
  | han k =>
    unfold DI.res at p ⊢
    simp only at p ⊢
    split at p <;> rename_i hk
    · rename_i ds
      obtain ⟨a, e1, rfl⟩ := h
      obtain ⟨xs, q1, q2⟩ := S.cell k a _ e1 hk
      simp only [DI.py, L2.DV]
      exact ⟨a, xs, rfl, not_false, q1, q2.py (by simpa [plain] using p)⟩
    · simp [plain] at p
  | _ => exact h.py p
def sc : D → D → Bool
  | .non, .non => true | .non, .int _ => true | .int _, .non => true | .non, .bl _ => true | .bl _, .non => true | .non, .str _ => true | .str _, .non => true
  | .int _, .int _ => true | .bl _, .bl _ => true | .str _, .str _ => true
  | .int _, .str _ => true | .str _, .int _ => true | .bl _, .str _ => true | .str _, .bl _ => true
  | _, _ => false
def eqAns (x y : D) : Option Bool := if sc x y = true then some (beq x y) else if (lay x && lay y && decide (min (dep x) (dep y) ≤ 100)) = true then some (beq x y) else none
def opEq (x y : D) (s : Sto) : Res D := match eqAns (res x s) (res y s) with
  | some b => ok (.bl b) s
  | none => none
def opNe (x y : D) (s : Sto) : Res D := match eqAns (res x s) (res y s) with
  | some b => ok (.bl (!b)) s
  | none => none
theorem eq_core {K : PySem.W.Frag} {w : Wd} {x y : D} {v u : V} {b : Bool} (S : StoOk K w) (hx : DV K w x v) (hy : DV K w y u) (h : eqAns (res x w.sto) (res y w.sto) = some b) :
    (scal v u = true ∧ decide (v = u) = b) ∨ ∃ (d e : PyData), L2.DV K (fun _ => False) w.H d v ∧ L2.DV K (fun _ => False) w.H e u ∧ d.canLay0 = true ∧ e.canLay0 = true ∧ min d.depth e.depth ≤ 100 ∧ PyData.eqv d e = b := by
  unfold eqAns at h
  split at h
  · rename_i hs
    left
    have e := Option.some.inj h
    have nr : ∀ k, (∃ ds, res (.han k) w.sto = .lst ds) ∨ res (.han k) w.sto = .han k := fun k => by
      unfold res
      simp only
      split
      · exact .inl ⟨_, rfl⟩
      · exact .inr rfl
    have nx : ∀ k, x ≠ .han k := fun k z => by
      subst z
      rcases nr k with ⟨ds, q⟩ | q <;> (rw [q] at hs; simp [sc] at hs)
    have ny : ∀ k, y ≠ .han k := fun k z => by
      subst z
      rcases nr k with ⟨ds, q⟩ | q <;> (rw [q] at hs; cases hq : res x w.sto <;> rw [hq] at hs <;> simp [sc] at hs)
    have rx : res x w.sto = x := by cases x <;> first | rfl | exact absurd rfl (nx _)
    have ry : res y w.sto = y := by cases y <;> first | rfl | exact absurd rfl (ny _)
    rw [rx, ry] at e hs
    cases x <;> cases y <;> simp only [sc, Bool.false_eq_true] at hs <;> (cases hx; cases hy; refine ⟨rfl, ?_⟩; rw [← e]) <;> simp only [beq] <;> first | rfl | exact dec_int | exact dec_bl | exact dec_str | simp
  · split at h
    · rename_i hl
      right
      simp only [Bool.and_eq_true, decide_eq_true_eq] at hl
      obtain ⟨⟨l1, l2⟩, l3⟩ := hl
      obtain ⟨p1, p2⟩ := lay_py _ l1
      obtain ⟨q1, q2⟩ := lay_py _ l2
      exact ⟨_, _, hx.res S (lay_plain _ l1), hy.res S (lay_plain _ l2), p1, q1, by rw [p2, q2]; exact l3, by rw [beq_py _ _ l1 l2]; exact Option.some.inj h⟩
    · cases h
section
variable {X : Cx} {Ξ : Wd → Exn → Prop}
theorem o_eq {k : Nat} (hr : Room k X.A) : OpR X (compareOp .Eq) (rO X.K Ξ opEq) := by
  rintro pins s σ H x y v u Q I rx ry ⟨w, dx, dy, rfl, S, hx, hy, h⟩
  unfold opEq at h
  split at h
  · rename_i b hb
    rcases eq_core S hx hy hb with ⟨h1, h2⟩ | ⟨d, e, h1, h2, h3, h4, h5, h6⟩
    · exact op_eq pins s σ w.H x y v u Q I rx ry ⟨h1, by rw [h2]; exact out_of S h _ rfl⟩
    · exact op_eqD hr pins s σ w.H x y v u Q I rx ry ⟨d, e, _, h1, h2, h3, h4, h5, by simp only [Bool.false_eq_true, if_false]; rw [h6]; exact out_of S h _ rfl⟩
  · exact h.elim
theorem o_ne {k : Nat} (hr : Room k X.A) : OpR X (compareOp .NotEq) (rO X.K Ξ opNe) := by
  rintro pins s σ H x y v u Q I rx ry ⟨w, dx, dy, rfl, S, hx, hy, h⟩
  unfold opNe at h
  split at h
  · rename_i b hb
    rcases eq_core S hx hy hb with ⟨h1, h2⟩ | ⟨d, e, h1, h2, h3, h4, h5, h6⟩
    · exact op_ne pins s σ w.H x y v u Q I rx ry ⟨h1, by rw [h2]; exact out_of S h _ rfl⟩
    · exact op_neD hr pins s σ w.H x y v u Q I rx ry ⟨d, e, _, h1, h2, h3, h4, h5, by simp only [if_true]; rw [h6]; exact out_of S h _ rfl⟩
  · exact h.elim
end
end DI

set_option Elab.async false
set_option linter.all false
set_option maxRecDepth 100000
set_option maxHeartbeats 4000000
namespace DI
open PySem L2
def pur (r : Option D) (s : Sto) : Res D := match r with
  | some d => ok d s
  | none => none
theorem pur_out {K : PySem.W.Frag} {Ξ : Wd → Exn → Prop} {w : Wd} {r : Option D} {k : Wd → D → Prop} (h : Out K Ξ w (pur r w.sto) k) : ∃ d, r = some d ∧ Out K Ξ w (ok d w.sto) k := by
  unfold pur at h
  split at h
  · exact ⟨_, rfl, h⟩
  · exact h.elim
def fewD (xs ys : List D) : Bool := decide (xs.length + ys.length ≤ sizeLine)
def addD : D → D → Option D
  | .int i, .int j => some (.int (i + j))
  | .tup xs, .tup ys => if fewD xs ys = true then some (.tup (xs ++ ys)) else none
  | .lst xs, .lst ys => if fewD xs ys = true then some (.lst (xs ++ ys)) else none
  | .str x, .str y => if decide (x.length + y.length ≤ sizeLine) = true then some (.str (x ++ y)) else none
  | _, _ => none
def opAdd (x y : D) (s : Sto) : Res D := pur (addD (res x s) (res y s)) s
def subD : D → D → Option D
  | .int i, .int j => some (.int (i - j))
  | _, _ => none
def opSub (x y : D) (s : Sto) : Res D := pur (subD x y) s
def mulOk (i j : Int) : Bool := (decide (-(2 ^ 64) < i) && decide (i < 2 ^ 64)) || (decide (-(2 ^ 64) < j) && decide (j < 2 ^ 64))
def mulD : D → D → Option D
  | .int i, .int j => if mulOk i j = true then some (.int (i * j)) else none
  | .tup xs, .int k => if (!xs.isEmpty && decide (1 ≤ k) && decide (xs.length * k.toNat ≤ sizeLine)) = true then some (.tup (List.replicate k.toNat xs).flatten) else none
  | .lst xs, .int k => if (decide (-(2 ^ 63) ≤ k) && decide (k < 2 ^ 63) && decide (xs.length * k.toNat ≤ sizeLine)) = true then some (.lst (List.replicate k.toNat xs).flatten) else none
  | _, _ => none
def opMul (x y : D) (s : Sto) : Res D := pur (mulD x y) s
def modD : D → D → Option D
  | .int i, .int j => if decide (0 < j) = true then some (.int (i % j)) else none
  | _, _ => none
def opMod (x y : D) (s : Sto) : Res D := pur (modD x y) s
def divD : D → D → Option D
  | .int i, .int j => if (decide (0 < j) && decide (j < 1073741824)) = true then some (.int (i / j)) else none
  | _, _ => none
def opDiv (x y : D) (s : Sto) : Res D := pur (divD x y) s
def powD : D → D → Option D
  | .int i, .int j => if (decide (0 ≤ j) && decide (j ≤ 1000000) && decide (i.natAbs < 2 ^ 64)) = true then some (.int (i ^ j.toNat)) else none
  | _, _ => none
def opPow (x y : D) (s : Sto) : Res D := pur (powD x y) s
def negD : D → Option D
  | .int i => some (.int (-i))
  | _ => none
def opNeg (x : D) (s : Sto) : Res D := pur (negD x) s
theorem DVs.flat {K : PySem.W.Frag} {w : Wd} {ds : List D} {vs : List V} (h : DVs K w ds vs) : ∀ n : Nat, DVs K w (List.replicate n ds).flatten (List.replicate n vs).flatten
  | 0 => rfl
  | n + 1 => by
    rw [List.replicate_succ, List.replicate_succ, List.flatten_cons, List.flatten_cons]
    exact DVs.append h (DVs.flat h n)
theorem res_lst {K : PySem.W.Frag} {w : Wd} {d : D} {v : V} {ds : List D} (S : StoOk K w) (h : DV K w d v) (e : res d w.sto = .lst ds) : ∃ a xs, v = .ref a ∧ w.H a = some (.lst xs) ∧ DVs K w ds xs := by
  unfold res at e
  split at e
  · rename_i k
    split at e
    · rename_i es hk
      cases e
      obtain ⟨a, e1, rfl⟩ := h
      obtain ⟨xs, q1, q2⟩ := S.cell k a _ e1 hk
      exact ⟨a, xs, rfl, q1, q2⟩
    · cases e
  · subst e
    simp only [DV] at h
    obtain ⟨a, xs, e, hq, r⟩ := h
    exact ⟨a, xs, e, hq.2, r⟩
theorem res_not {d e : D} {s : Sto} (h : res d s = e) (hl : ∀ ds, e ≠ .lst ds) : d = e := by
  unfold res at h
  split at h
  · split at h
    · exact absurd h.symm (hl _)
    · exact h
  · exact h
section
variable {X : Cx} {Ξ : Wd → Exn → Prop}
theorem newT {K : PySem.W.Frag} {w : Wd} {ds : List D} {vs : List V} {Q : VK} (S : StoOk K w) (dvs : DVs K w ds vs) (h : Out K Ξ w (ok (D.tup ds) w.sto) fun w' d => ∀ v, DV K w' d v → Q v w'.H) : NewT K w.H vs Q := fun a H' e hq =>
  h (w.same H') (Fw.same e).le (S.same e) rfl (.ref a) ⟨a, vs, rfl, hq, (Fw.same e).le.all dvs⟩
theorem newL {K : PySem.W.Frag} {w : Wd} {ds : List D} {vs : List V} {Q : VK} (S : StoOk K w) (dvs : DVs K w ds vs) (h : Out K Ξ w (ok (D.lst ds) w.sto) fun w' d => ∀ v, DV K w' d v → Q v w'.H) : ∀ p, w.H p = none → Q (.ref p) (upd w.H p (.lst vs)) := fun p hp =>
  h (w.grow p (.lst vs)) (Fw.grow hp).le (S.grow hp) rfl (.ref p) ⟨p, vs, rfl, ⟨(show ¬ w.Z p from nZ_new S hp), upd_same⟩, (Fw.grow hp).le.all dvs⟩
theorem newTup {K : PySem.W.Frag} {w : Wd} {ds : List D} {vs : List V} {Q : VK} (S : StoOk K w) (dvs : DVs K w ds vs) (h : Out K Ξ w (ok (D.tup ds) w.sto) fun w' d => ∀ v, DV K w' d v → Q v w'.H) : ∀ p, w.H p = none → Q (.ref p) (upd w.H p (.tup vs)) := fun p hp =>
  h (w.grow p (.tup vs)) (Fw.grow hp).le (S.grow hp) rfl (.ref p) ⟨p, vs, rfl, SqT.of upd_same, (Fw.grow hp).le.all dvs⟩
theorem o_add : OpR X (binaryOp .Add) (rO X.K Ξ opAdd) := by
  rintro pins s σ H x y v u Q I rx ry ⟨w, dx, dy, rfl, S, hx, hy, h⟩
  obtain ⟨d, e, h⟩ := pur_out h
  unfold addD at e
  split at e
  · rename_i i j e1 e2
    rw [res_not e1 (by intro _ z; cases z)] at hx
    rw [res_not e2 (by intro _ z; cases z)] at hy
    cases e; cases hx; cases hy
    exact op_add pins s σ w.H _ _ v u Q I rx ry ⟨i, j, rfl, rfl, out_of S h _ rfl⟩
  · rename_i xs ys e1 e2
    rw [res_not e1 (by intro _ z; cases z)] at hx
    rw [res_not e2 (by intro _ z; cases z)] at hy
    split at e
    · rename_i hl
      cases e
      simp only [DV] at hx hy
      obtain ⟨a, as, rfl, ha, dva⟩ := hx
      obtain ⟨b, bs, rfl, hb, dvb⟩ := hy
      exact op_catG pins s σ w.H _ _ v u Q I rx ry ⟨a, b, as, bs, rfl, rfl, ha, hb, by rw [← dva.length, ← dvb.length]; exact of_decide_eq_true hl, newT S (dva.append dvb) h⟩
    · cases e
  · rename_i xs ys e1 e2
    split at e
    · rename_i hl
      cases e
      obtain ⟨a, as, rfl, ha, dva⟩ := res_lst S hx e1
      obtain ⟨b, bs, rfl, hb, dvb⟩ := res_lst S hy e2
      exact op_cat pins s σ w.H _ _ v u Q I rx ry ⟨a, b, as, bs, rfl, rfl, ha, hb, by rw [← dva.length, ← dvb.length]; exact of_decide_eq_true hl, newL S (dva.append dvb) h⟩
    · cases e
  · rename_i i j e1 e2
    rw [res_not e1 (by intro _ z; cases z)] at hx
    rw [res_not e2 (by intro _ z; cases z)] at hy
    split at e
    · rename_i hl
      cases e; cases hx; cases hy
      exact op_add_str pins s σ w.H _ _ v u Q I rx ry ⟨i, j, rfl, rfl, of_decide_eq_true hl, out_of S h _ rfl⟩
    · cases e
  · cases e
theorem o_sub : OpR X (binaryOp .Sub) (rO X.K Ξ opSub) := by
  rintro pins s σ H x y v u Q I rx ry ⟨w, dx, dy, rfl, S, hx, hy, h⟩
  obtain ⟨d, e, h⟩ := pur_out h
  unfold subD at e
  split at e
  · rename_i i j
    cases e; cases hx; cases hy
    exact op_sub pins s σ w.H _ _ v u Q I rx ry ⟨i, j, rfl, rfl, out_of S h _ rfl⟩
  · cases e
theorem o_mul : OpR X (binaryOp .Mult) (rO X.K Ξ opMul) := by
  rintro pins s σ H x y v u Q I rx ry ⟨w, dx, dy, rfl, S, hx, hy, h⟩
  obtain ⟨d, e, h⟩ := pur_out h
  unfold mulD at e
  split at e
  · rename_i i j
    split at e
    · rename_i hm
      cases e; cases hx; cases hy
      refine op_mul pins s σ w.H _ _ v u Q I rx ry ⟨i, j, rfl, rfl, ?_, out_of S h _ rfl⟩
      unfold CMul
      simpa [mulOk] using hm
    · cases e
  · rename_i xs k
    split at e
    · rename_i hm
      cases e; cases hy
      simp only [Bool.and_eq_true, decide_eq_true_eq] at hm
      simp only [DV] at hx
      obtain ⟨a, as, rfl, ha, dva⟩ := hx
      have hl := dva.length
      refine op_repT pins s σ w.H _ _ v u Q I rx ry ⟨a, as, k, rfl, rfl, ha, ?_, hm.1.2, by rw [← hl]; exact hm.2, newT S (dva.flat _) h⟩
      intro z
      subst z
      cases xs with
      | nil => simp at hm
      | cons _ _ => cases hl
    · cases e
  · rename_i xs k
    split at e
    · rename_i hm
      cases e; cases hy
      simp only [Bool.and_eq_true, decide_eq_true_eq] at hm
      simp only [DV] at hx
      obtain ⟨a, as, rfl, ha, dva⟩ := hx
      exact op_rep pins s σ w.H _ _ v u Q I rx ry ⟨a, k, as, rfl, rfl, ha.2, hm.1.1, hm.1.2, by rw [← dva.length]; exact hm.2, newL S (dva.flat _) h⟩
    · cases e
  · cases e
theorem o_mod : OpR X (binaryOp .Mod) (rO X.K Ξ opMod) := by
  rintro pins s σ H x y v u Q I rx ry ⟨w, dx, dy, rfl, S, hx, hy, h⟩
  obtain ⟨d, e, h⟩ := pur_out h
  unfold modD at e
  split at e
  · rename_i i j
    split at e
    · rename_i hm
      cases e; cases hx; cases hy
      exact op_mod pins s σ w.H _ _ v u Q I rx ry ⟨i, j, rfl, rfl, of_decide_eq_true hm, out_of S h _ rfl⟩
    · cases e
  · cases e
theorem o_div : OpR X (binaryOp .FloorDiv) (rO X.K Ξ opDiv) := by
  rintro pins s σ H x y v u Q I rx ry ⟨w, dx, dy, rfl, S, hx, hy, h⟩
  obtain ⟨d, e, h⟩ := pur_out h
  unfold divD at e
  split at e
  · rename_i i j
    split at e
    · rename_i hm
      simp only [Bool.and_eq_true, decide_eq_true_eq] at hm
      cases e; cases hx; cases hy
      exact op_fdiv pins s σ w.H _ _ v u Q I rx ry ⟨i, j, rfl, rfl, hm, out_of S h _ rfl⟩
    · cases e
  · cases e
theorem o_pow : OpR X (binaryOp .Pow) (rO X.K Ξ opPow) := by
  rintro pins s σ H x y v u Q I rx ry ⟨w, dx, dy, rfl, S, hx, hy, h⟩
  obtain ⟨d, e, h⟩ := pur_out h
  unfold powD at e
  split at e
  · rename_i i j
    split at e
    · rename_i hm
      simp only [Bool.and_eq_true, decide_eq_true_eq] at hm
      cases e; cases hx; cases hy
      exact op_pow pins s σ w.H _ _ v u Q I rx ry ⟨i, j, rfl, rfl, ⟨hm.1.1, hm.1.2, hm.2⟩, out_of S h _ rfl⟩
    · cases e
  · cases e
theorem o_neg : UnR X (unaryOp .USub) (rU X.K Ξ opNeg) := by
  rintro pins s σ H x v Q I rx ⟨w, dx, rfl, S, hx, h⟩
  obtain ⟨d, e, h⟩ := pur_out h
  unfold negD at e
  split at e
  · rename_i i
    cases e; cases hx
    exact un_neg pins s σ w.H _ v Q I rx ⟨i, rfl, out_of S h _ rfl⟩
  · cases e
def cmpI (p : Int → Int → Bool) : D → D → Option D
  | .int i, .int j => some (.bl (p i j))
  | _, _ => none
def opLe (x y : D) (s : Sto) : Res D := pur (cmpI (fun i j => decide (i ≤ j)) x y) s
def opGt (x y : D) (s : Sto) : Res D := pur (cmpI (fun i j => decide (j < i)) x y) s
def opGe (x y : D) (s : Sto) : Res D := pur (cmpI (fun i j => decide (j ≤ i)) x y) s
def opLtI (x y : D) (s : Sto) : Res D := pur (cmpI (fun i j => decide (i < j)) x y) s
theorem o_le : OpR X (compareOp .LtE) (rO X.K Ξ opLe) := by
  rintro pins s σ H x y v u Q I rx ry ⟨w, dx, dy, rfl, S, hx, hy, h⟩
  obtain ⟨d, e, h⟩ := pur_out h
  unfold cmpI at e
  split at e
  · rename_i i j
    cases e; cases hx; cases hy
    exact op_le pins s σ w.H _ _ v u Q I rx ry ⟨i, j, rfl, rfl, out_of S h _ rfl⟩
  · cases e
theorem o_gt : OpR X (compareOp .Gt) (rO X.K Ξ opGt) := by
  rintro pins s σ H x y v u Q I rx ry ⟨w, dx, dy, rfl, S, hx, hy, h⟩
  obtain ⟨d, e, h⟩ := pur_out h
  unfold cmpI at e
  split at e
  · rename_i i j
    cases e; cases hx; cases hy
    exact op_gt pins s σ w.H _ _ v u Q I rx ry ⟨i, j, rfl, rfl, out_of S h _ rfl⟩
  · cases e
theorem o_ge : OpR X (compareOp .GtE) (rO X.K Ξ opGe) := by
  rintro pins s σ H x y v u Q I rx ry ⟨w, dx, dy, rfl, S, hx, hy, h⟩
  obtain ⟨d, e, h⟩ := pur_out h
  unfold cmpI at e
  split at e
  · rename_i i j
    cases e; cases hx; cases hy
    exact op_ge pins s σ w.H _ _ v u Q I rx ry ⟨i, j, rfl, rfl, out_of S h _ rfl⟩
  · cases e
def isN : D → Bool
  | .non => true
  | _ => false
def opIsN (x y : D) (s : Sto) : Res D := match y with
  | .non => ok (.bl (isN x)) s
  | _ => none
def opNotN (x y : D) (s : Sto) : Res D := match y with
  | .non => ok (.bl (!isN x)) s
  | _ => none
theorem isN_of {K : PySem.W.Frag} {w : Wd} {d : D} {v : V} (h : DV K w d v) : decide (v = .non) = isN d := by
  cases d with
  | non => cases h; rfl
  | bl b => cases h; rfl
  | int b => cases h; rfl
  | str b => cases h; rfl
  | ty b => cases h; rfl
  | tup ds => simp only [DV] at h; obtain ⟨a, xs, rfl, _⟩ := h; rfl
  | lst ds => simp only [DV] at h; obtain ⟨a, xs, rfl, _⟩ := h; rfl
  | dct ds => simp only [DV] at h; obtain ⟨a, rfl, _⟩ := h; rfl
  | han k => simp only [DV] at h; obtain ⟨a, _, rfl⟩ := h; rfl
  | scr k => simp only [DV] at h; obtain ⟨a, rfl, _⟩ := h; rfl
theorem o_isN : OpR X (compareOp .Is) (rO X.K Ξ opIsN) := by
  rintro pins s σ H x y v u Q I rx ry ⟨w, dx, dy, rfl, S, hx, hy, h⟩
  unfold opIsN at h
  split at h
  · cases hy
    exact op_isN pins s σ w.H _ _ v u Q I rx ry ⟨rfl, by rw [isN_of hx]; exact out_of S h _ rfl⟩
  · exact h.elim
def ixD (d i : D) (s : Sto) : Option D := match res d s, i with
  | .lst ds, .int i => atI ds i
  | .tup ds, .int i => atI ds i
  | .scr ns, .int i => (atI ns i).map D.int
  | .str x, .int i => if decide (x.length ≤ sizeLine) = true then (atI x.cps.toList i).map fun c => .str ⟨#[c]⟩ else none
  | _, _ => none
def opIx (x y : D) (s : Sto) : Res D := pur (ixD x y s) s
theorem DVs.at {K : PySem.W.Frag} {w : Wd} {ds : List D} {vs : List V} {i : Int} {d : D} (h : DVs K w ds vs) (e : atI ds i = some d) : ∃ v, atI vs i = some v ∧ DV K w d v := by
  unfold atI at e ⊢
  rw [h.length] at e
  cases hi : ixN vs.length i with
  | none => rw [hi] at e; cases e
  | some j =>
    rw [hi] at e
    exact h.get' j d e
theorem x_ix : IxR X (rO X.K Ξ opIx) := by
  rintro value slice pins s σ H x y v u Q I rx ry ⟨w, dx, dy, rfl, S, hx, hy, h⟩ hs
  obtain ⟨d, e, h2⟩ := pur_out h
  clear h
  unfold ixD at e
  split at e
  · rename_i ds i e1
    cases hy
    obtain ⟨a, xs, rfl, ha, dvs⟩ := res_lst S hx e1
    obtain ⟨z, ez, dz⟩ := dvs.at e
    exact ix_list value slice pins s σ w.H _ _ v u Q I rx ry ⟨a, xs, i, z, rfl, rfl, SqL.of ha, ez, out_of S h2 _ dz⟩ hs
  · rename_i ds i e1
    cases hy
    rw [res_not e1 (by intro _ z; cases z)] at hx
    simp only [DV] at hx
    obtain ⟨a, xs, rfl, ha, dvs⟩ := hx
    obtain ⟨z, ez, dz⟩ := dvs.at e
    exact ix_tup value slice pins s σ w.H _ _ v u Q I rx ry ⟨a, xs, i, z, rfl, rfl, ha, ez, out_of S h2 _ dz⟩ hs
  · rename_i ns i e1
    cases hy
    rw [res_not e1 (by intro _ z; cases z)] at hx
    simp only [DV] at hx
    obtain ⟨a, rfl, ha⟩ := hx
    cases hn : atI ns i with
    | none => rw [hn] at e; cases e
    | some n =>
      rw [hn] at e
      cases e
      refine ix_list value slice pins s σ w.H _ _ v u Q I rx ry ⟨a, ns.map V.int, i, .int n, rfl, rfl, ha.sq, ?_, out_of S h2 _ rfl⟩ hs
      unfold atI at hn ⊢
      rw [List.length_map]
      cases hj : ixN ns.length i with
      | none => rw [hj] at hn; cases hn
      | some j =>
        rw [hj] at hn
        show (ns.map V.int)[j]? = some (.int n)
        rw [List.getElem?_map, show ns[j]? = some n from hn]
        rfl
  · rename_i z i e1
    cases hy
    rw [res_not e1 (by intro _ z; cases z)] at hx
    cases hx
    split at e
    · rename_i hl
      cases hc : atI z.cps.toList i with
      | none => rw [hc] at e; cases e
      | some c =>
        rw [hc] at e
        cases e
        exact ix_str value slice pins s σ w.H _ _ v u Q I rx ry ⟨z, i, c, rfl, rfl, of_decide_eq_true hl, hc, out_of S h2 _ rfl⟩ hs
    · cases e
  · cases e
theorem e_ix {a b : Expr} {pos : Pos} {f g : Env → Sto → Res D} (ha : PE X a (tE X.K Ξ f)) (hb : PE X b (tE X.K Ξ g)) (hs : PlainIx b := by intro _ _; rfl) : PE X (.Subscript a b pos) (tE X.K Ξ (e2 opIx f g)) := pe_imp (pe_ix x_ix ha hb hs) two_imp
def lenD (d : D) (s : Sto) : Option D := match res d s with
  | .lst ds => some (.int ds.length)
  | .tup ds => some (.int ds.length)
  | .scr ns => some (.int ns.length)
  | .str x => if decide (x.length ≤ sizeLine) = true then some (.int x.length) else none
  | _ => none
def bLen (ds : List D) (s : Sto) : Res D := match ds with
  | [d] => pur (lenD d s) s
  | _ => none
theorem one_of {K : PySem.W.Frag} {w : Wd} {d : D} {vs : List V} (h : DVs K w [d] vs) : ∃ v, vs = [v] ∧ DV K w d v := by
  obtain ⟨v, r, rfl, dv, dr⟩ := h
  have e : r = [] := dr
  subst e
  exact ⟨v, rfl, dv⟩
theorem two_of {K : PySem.W.Frag} {w : Wd} {d e : D} {vs : List V} (h : DVs K w [d, e] vs) : ∃ v u, vs = [v, u] ∧ DV K w d v ∧ DV K w e u := by
  obtain ⟨v, r, rfl, dv, h⟩ := h
  obtain ⟨u, rfl, du⟩ := one_of h
  exact ⟨v, u, rfl, dv, du⟩
theorem c_len : CallR X (.builtin "len") (rC X.K Ξ bLen) := by
  rintro pins s σ H xs us Q I r ⟨w, ds, rfl, S, dvs, h⟩
  unfold bLen at h
  split at h
  · obtain ⟨v, rfl, dv⟩ := one_of dvs
    obtain ⟨d, e, h⟩ := pur_out h
    unfold lenD at e
    split at e
    · rename_i ys e1
      cases e
      obtain ⟨a, xs, rfl, ha, dvs⟩ := res_lst S dv e1
      exact call_len_seq pins s σ w.H _ us Q I r ⟨a, xs, rfl, .inl (SqL.of ha), by rw [← dvs.length]; exact out_of S h _ rfl⟩
    · rename_i ys e1
      cases e
      rw [res_not e1 (by intro _ z; cases z)] at dv
      simp only [DV] at dv
      obtain ⟨a, xs, rfl, ha, dvs⟩ := dv
      exact call_len_seq pins s σ w.H _ us Q I r ⟨a, xs, rfl, .inr ha, by rw [← dvs.length]; exact out_of S h _ rfl⟩
    · rename_i ns e1
      cases e
      rw [res_not e1 (by intro _ z; cases z)] at dv
      simp only [DV] at dv
      obtain ⟨a, rfl, ha⟩ := dv
      exact call_len_seq pins s σ w.H _ us Q I r ⟨a, ns.map V.int, rfl, .inl ha.sq, by rw [List.length_map]; exact out_of S h _ rfl⟩
    · rename_i z e1
      rw [res_not e1 (by intro _ z; cases z)] at dv
      cases dv
      split at e
      · rename_i hl
        cases e
        exact call_len_str pins s σ w.H _ us Q I r ⟨z, rfl, of_decide_eq_true hl, out_of S h _ rfl⟩
      · cases e
    · cases e
  · exact h.elim
def bls : List D → Option (List Bool)
  | [] => some []
  | .bl b :: ds => (bls ds).map fun r => b :: r
  | _ :: _ => none
theorem bls_of : ∀ {ds : List D} {bs : List Bool}, bls ds = some bs → ds = bs.map D.bl
  | [], bs, h => by cases h; rfl
  | .bl b :: ds, bs, h => by
    simp only [bls] at h
    cases hd : bls ds with
    | none => rw [hd] at h; cases h
    | some r => rw [hd] at h; cases h; rw [bls_of hd]; rfl
  | .non :: _, _, h => by cases h
  | .int _ :: _, _, h => by cases h
  | .str _ :: _, _, h => by cases h
  | .tup _ :: _, _, h => by cases h
  | .lst _ :: _, _, h => by cases h
  | .dct _ :: _, _, h => by cases h
  | .han _ :: _, _, h => by cases h
  | .ty _ :: _, _, h => by cases h
  | .scr _ :: _, _, h => by cases h
theorem bls_map {bs : List Bool} : bls (bs.map D.bl) = some bs := by
  induction bs with
  | nil => rfl
  | cons b bs ih => simp only [List.map_cons, bls, ih, Option.map_some]
def bAll (ds : List D) (s : Sto) : Res D := match ds with
  | [d] => match res d s with
    | .lst es => pur ((bls es).map fun bs => .bl (bs.all id)) s
    | _ => none
  | _ => none
def bAny (ds : List D) (s : Sto) : Res D := match ds with
  | [d] => match res d s with
    | .lst es => pur ((bls es).map fun bs => .bl (bs.any id)) s
    | _ => none
  | _ => none
theorem c_all (hc : X.calm = true) : CallR X (.builtin "all") (rC X.K Ξ bAll) := by
  rintro pins s σ H xs us Q I r ⟨w, ds, rfl, S, dvs, h⟩
  unfold bAll at h
  split at h
  · obtain ⟨v, rfl, dv⟩ := one_of dvs
    split at h
    · rename_i es e1
      obtain ⟨d, e, h⟩ := pur_out h
      cases hb : bls es with
      | none => rw [hb] at e; cases e
      | some bs =>
        rw [hb] at e
        cases e
        obtain ⟨a, xs, rfl, ha, dvs⟩ := res_lst S dv e1
        rw [bls_of hb] at dvs
        rw [dvs.bls_inv] at ha
        exact call_all hc pins s σ w.H _ us Q I r ⟨a, bs, rfl, SqL.of ha, out_of S h _ rfl⟩
    · exact h.elim
  · exact h.elim
def bMax2 (ds : List D) (s : Sto) : Res D := match ds with
  | [.int i, .int j] => ok (.int (if j > i then j else i)) s
  | _ => none
def bMin2 (ds : List D) (s : Sto) : Res D := match ds with
  | [.int i, .int j] => ok (.int (if j < i then j else i)) s
  | _ => none
theorem c_max2 (hc : X.calm = true) : CallR X (.builtin "max") (rC X.K Ξ bMax2) := by
  rintro pins s σ H xs us Q I r ⟨w, ds, rfl, S, dvs, h⟩
  unfold bMax2 at h
  split at h
  · rename_i i j
    obtain ⟨v, u, rfl, dv, du⟩ := two_of dvs
    cases dv; cases du
    exact call_max2 hc pins s σ w.H _ us Q I r ⟨i, j, rfl, out_of S h _ rfl⟩
  · exact h.elim
theorem c_min2 (hc : X.calm = true) : CallR X (.builtin "min") (rC X.K Ξ bMin2) := by
  rintro pins s σ H xs us Q I r ⟨w, ds, rfl, S, dvs, h⟩
  unfold bMin2 at h
  split at h
  · rename_i i j
    obtain ⟨v, u, rfl, dv, du⟩ := two_of dvs
    cases dv; cases du
    exact call_min2 hc pins s σ w.H _ us Q I r ⟨i, j, rfl, out_of S h _ rfl⟩
  · exact h.elim
def bTuple (ds : List D) (s : Sto) : Res D := match ds with
  | [d] => match res d s with
    | .lst es => ok (.tup es) s
    | .tup es => ok (.tup es) s
    | _ => none
  | _ => none
theorem c_tuple : CallR X (.type "tuple") (rC X.K Ξ bTuple) := by
  rintro pins s σ H xs us Q I r ⟨w, ds, rfl, S, dvs, h⟩
  unfold bTuple at h
  split at h
  · obtain ⟨v, rfl, dv⟩ := one_of dvs
    split at h
    · rename_i es e1
      obtain ⟨a, xs, rfl, ha, dvs⟩ := res_lst S dv e1
      exact call_tuple_of pins s σ w.H _ us Q I r ⟨a, xs, rfl, .inl ⟨SqL.of ha, newTup S dvs h⟩⟩
    · rename_i es e1
      rw [res_not e1 (by intro _ z; cases z)] at dv
      have dv' := dv
      simp only [DV] at dv
      obtain ⟨a, xs, rfl, ha, dvs⟩ := dv
      exact call_tuple_of pins s σ w.H _ us Q I r ⟨a, xs, rfl, .inr ⟨ha, out_of S h _ dv'⟩⟩
    · exact h.elim
  · exact h.elim
def bList (ds : List D) (s : Sto) : Res D := match ds with
  | [d] => match res d s with
    | .lst es => ok (.lst es) s
    | .tup es => ok (.lst es) s
    | _ => none
  | _ => none
theorem c_list : CallR X (.type "list") (rC X.K Ξ bList) := by
  rintro pins s σ H xs us Q I r ⟨w, ds, rfl, S, dvs, h⟩
  unfold bList at h
  split at h
  · obtain ⟨v, rfl, dv⟩ := one_of dvs
    split at h
    · rename_i es e1
      obtain ⟨a, xs, rfl, ha, dvs⟩ := res_lst S dv e1
      exact call_list_of pins s σ w.H _ us Q I r ⟨a, xs, rfl, .inl (SqL.of ha), newL S dvs h⟩
    · rename_i es e1
      rw [res_not e1 (by intro _ z; cases z)] at dv
      simp only [DV] at dv
      obtain ⟨a, xs, rfl, ha, dvs⟩ := dv
      exact call_list_of pins s σ w.H _ us Q I r ⟨a, xs, rfl, .inr ha, newL S dvs h⟩
    · exact h.elim
  · exact h.elim
end
end DI

set_option Elab.async false
set_option linter.all false
set_option maxRecDepth 100000
set_option maxHeartbeats 4000000
namespace DI
open PySem L2
def laysD (n : Nat) (x : D) (ds : List D) : Bool := lay x && lays ds && decide (dep x ≤ n)
def inD (x : D) (ds : List D) : Option Bool := if laysD 100 x ds = true then some (ds.any fun y => beq y x) else none
def seqOf (d : D) (s : Sto) : Option (List D) := match res d s with
  | .lst ds => some ds
  | .tup ds => some ds
  | _ => none
def opIn (x y : D) (s : Sto) : Res D := match seqOf y s with
  | some ds => pur ((inD x ds).map D.bl) s
  | none => none
def opNotIn (x y : D) (s : Sto) : Res D := match seqOf y s with
  | some ds => pur ((inD x ds).map fun b => D.bl (!b)) s
  | none => none
theorem seqOf_of {K : PySem.W.Frag} {w : Wd} {d : D} {v : V} {ds : List D} (S : StoOk K w) (h : DV K w d v) (e : seqOf d w.sto = some ds) : ∃ a xs, v = .ref a ∧ (w.H a = some (.lst xs) ∨ SqT K w.H a xs) ∧ DVs K w ds xs := by
  unfold seqOf at e
  split at e
  · rename_i es e1
    cases e
    obtain ⟨a, xs, rfl, ha, dvs⟩ := res_lst S h e1
    exact ⟨a, xs, rfl, .inl ha, dvs⟩
  · rename_i es e1
    cases e
    rw [res_not e1 (by intro _ z; cases z)] at h
    simp only [DV] at h
    obtain ⟨a, xs, rfl, ha, dvs⟩ := h
    exact ⟨a, xs, rfl, .inr ha, dvs⟩
  · cases e
section
variable {X : Cx} {Ξ : Wd → Exn → Prop} {pins : List (Addr × Obj)} {σ : St} {s : Shared}
theorem any_py {x : D} (lx : lay x = true) : ∀ {ds : List D}, lays ds = true → ((pys ds).any fun y => PyData.eqv y (py x)) = ds.any fun y => beq y x
  | [], _ => rfl
  | d :: ds, h => by
    simp only [lays, Bool.and_eq_true] at h
    simp only [pys, List.any_cons, beq_py d x h.1 lx, any_py lx h.2]
theorem inD_of {x : D} {ds : List D} {b : Bool} (h : inD x ds = some b) : lay x = true ∧ lays ds = true ∧ dep x ≤ 100 ∧ (ds.any fun y => beq y x) = b := by
  unfold inD laysD at h
  split at h
  · rename_i hl
    simp only [Bool.and_eq_true, decide_eq_true_eq] at hl
    exact ⟨hl.1.1, hl.1.2, hl.2, Option.some.inj h⟩
  · cases h
theorem o_in {k : Nat} (hr : Room k X.A) : OpR X (compareOp .In) (rO X.K Ξ opIn) := by
  rintro pins s σ H x y v u Q I rx ry ⟨w, dx, dy, rfl, S, hx, hy, h⟩
  unfold opIn at h
  split at h
  · rename_i ds hd
    obtain ⟨d, e, h⟩ := pur_out h
    cases hb : inD dx ds with
    | none => rw [hb] at e; cases e
    | some b =>
      rw [hb] at e
      cases e
      obtain ⟨l1, l2, l3, l4⟩ := inD_of hb
      obtain ⟨p1, p2⟩ := lay_py _ l1
      obtain ⟨q1, q2⟩ := lays_pys _ l2
      obtain ⟨bs, rd⟩ := (hx.py (lay_plain _ l1)).reads I rx
      have hu : X.A.units + 1 + min (PyData.depthAll (pys ds)) (py dx).depth < cLine := by
        have := hr.un
        rw [p2]
        omega
      obtain ⟨a, xs, rfl, ha, dvs⟩ := seqOf_of S hy hd
      have fin : EP X pins σ Q (.bool ((pys ds).any fun y => PyData.eqv y (py dx))) s := ⟨.bl b, w.H, I, by rw [any_py l1 l2, l4]; rfl, out_of S h _ rfl⟩
      rcases ha with ha | ha
      · obtain ⟨cs, rc⟩ := (show L2.DV X.K (fun _ => False) w.H (.list (pys ds)) (.ref a) by simp only [L2.DV]; exact ⟨a, xs, rfl, not_false, ha, dvs.py (lays_plains _ l2)⟩).reads I ry
        exact SeqAt.in_list_reads rc rd q1 p1 hu fin
      · obtain ⟨cs, rc⟩ := (show L2.DV X.K (fun _ => False) w.H (.tuple (pys ds)) (.ref a) by simp only [L2.DV]; exact ⟨a, xs, rfl, ha, dvs.py (lays_plains _ l2)⟩).reads I ry
        exact SeqAt.in_tuple_reads rc rd q1 p1 hu fin
  · exact h.elim
theorem o_notIn {k : Nat} (hr : Room k X.A) : OpR X (compareOp .NotIn) (rO X.K Ξ opNotIn) := by
  rintro pins s σ H x y v u Q I rx ry ⟨w, dx, dy, rfl, S, hx, hy, h⟩
  unfold opNotIn at h
  split at h
  · rename_i ds hd
    obtain ⟨d, e, h⟩ := pur_out h
    cases hb : inD dx ds with
    | none => rw [hb] at e; cases e
    | some b =>
      rw [hb] at e
      cases e
      obtain ⟨l1, l2, l3, l4⟩ := inD_of hb
      obtain ⟨p1, p2⟩ := lay_py _ l1
      obtain ⟨q1, q2⟩ := lays_pys _ l2
      obtain ⟨bs, rd⟩ := (hx.py (lay_plain _ l1)).reads I rx
      have hu : X.A.units + 1 + min (PyData.depthAll (pys ds)) (py dx).depth < cLine := by
        have := hr.un
        rw [p2]
        omega
      obtain ⟨a, xs, rfl, ha, dvs⟩ := seqOf_of S hy hd
      have fin : EP X pins σ Q (.bool (!(pys ds).any fun y => PyData.eqv y (py dx))) s := ⟨.bl (!b), w.H, I, by rw [any_py l1 l2, l4]; rfl, out_of S h _ rfl⟩
      rcases ha with ha | ha
      · obtain ⟨cs, rc⟩ := (show L2.DV X.K (fun _ => False) w.H (.list (pys ds)) (.ref a) by simp only [L2.DV]; exact ⟨a, xs, rfl, not_false, ha, dvs.py (lays_plains _ l2)⟩).reads I ry
        exact SeqAt.notIn_list_reads rc rd q1 p1 hu fin
      · obtain ⟨cs, rc⟩ := (show L2.DV X.K (fun _ => False) w.H (.tuple (pys ds)) (.ref a) by simp only [L2.DV]; exact ⟨a, xs, rfl, ha, dvs.py (lays_plains _ l2)⟩).reads I ry
        exact SeqAt.notIn_tuple_reads rc rd q1 p1 hu fin
  · exact h.elim
def tP (K : PySem.W.Frag) (Ξ : Wd → Exn → Prop) (f : Env → Sto → Res (Option Int)) : TO := fun σ H Q => ∃ w env, w.H = H ∧ StoOk K w ∧ EnvOk K w env σ ∧ Out K Ξ w (f env w.sto) fun w' i => Q i w'.H
def pNo : Env → Sto → Res (Option Int) := fun _ s => ok none s
def pInt (f : Env → Sto → Res D) : Env → Sto → Res (Option Int) := fun env s => bnd (f env s) fun d s => match d with
  | .int i => ok (some i) s
  | _ => none
variable {e a b : Expr} {lo hi : Option Expr} {pos p2 p3 p4 : Pos} {f g : Env → Sto → Res D}
theorem po_imp {lo : Option Expr} {t t' : TO} (h : PO X lo t) (i : ∀ σ H Q, t' σ H Q → t σ H Q) : PO X lo t' := fun pins s σ H Q I hq => h pins s σ H Q I (i σ H Q hq)
theorem p_no : PO X none (tP X.K Ξ pNo) := po_imp po_none fun σ H Q ⟨w, env, eH, S, eo, h⟩ => by
  subst eH
  exact out_of S h
theorem p_int (he : PE X e (tE X.K Ξ f)) : PO X (some e) (tP X.K Ξ (pInt f)) := po_imp (po_some he) fun σ H Q ⟨w, env, eH, S, eo, h⟩ => by
  subst eH
  refine ⟨w, env, rfl, S, eo, (Out.bnd h).mono fun w1 d l1 S1 h1 v dv => ?_⟩
  cases d with
  | int i => exact ⟨i, dv, out_of S1 h1⟩
  | _ => exact h1.elim
def cutD (xs : List D) (lo hi : Option Int) : List D := (xs.drop (HT.sIx xs.length 0 lo)).take (HT.sIx xs.length xs.length hi - HT.sIx xs.length 0 lo)
def sliceD (d : D) (lo hi : Option Int) (s : Sto) : Res D := match res d s with
  | .tup ds => ok (.tup (cutD ds lo hi)) s
  | .lst ds => ok (.lst (cutD ds lo hi)) s
  | _ => none
def eSl (f : Env → Sto → Res D) (l h : Env → Sto → Res (Option Int)) : Env → Sto → Res D := fun env s => bnd (f env s) fun d s => bnd (l env s) fun lo s => bnd (h env s) fun hi s => sliceD d lo hi s
def rSl (K : PySem.W.Frag) (Ξ : Wd → Exn → Prop) : V → Option Int → Option Int → Hp → VK → Prop := fun x lo hi H Q => ∃ w dx, w.H = H ∧ StoOk K w ∧ DV K w dx x ∧ Out K Ξ w (sliceD dx lo hi w.sto) fun w' d => ∀ v, DV K w' d v → Q v w'.H
theorem sl_seq : SlR X (rSl X.K Ξ) := by
  rintro pins s σ H x v vl vu lo hi sl Q I rx hs pl pu ⟨w, dx, rfl, S, hx, h⟩
  unfold sliceD at h
  split at h
  · rename_i ds e1
    rw [res_not e1 (by intro _ z; cases z)] at hx
    simp only [DV] at hx
    obtain ⟨a, xs, rfl, ha, dvs⟩ := hx
    refine sl_tupG pins s σ w.H _ v vl vu lo hi sl Q I rx hs pl pu ⟨a, xs, rfl, ha, newT S ?_ h⟩
    unfold cutD cutV
    rw [dvs.length]
    exact (dvs.drop _).take _
  · rename_i ds e1
    obtain ⟨a, xs, rfl, ha, dvs⟩ := res_lst S hx e1
    refine sl_list pins s σ w.H _ v vl vu lo hi sl Q I rx hs pl pu ⟨a, xs, rfl, SqL.of ha, newL S ?_ h⟩
    unfold cutD cutV
    rw [dvs.length]
    exact (dvs.drop _).take _
  · exact h.elim
theorem e_sl {fl fh : Env → Sto → Res (Option Int)} (he : PE X e (tE X.K Ξ f)) (hl : PO X lo (tP X.K Ξ fl)) (hu : PO X hi (tP X.K Ξ fh)) : PE X (.Subscript e (.Slice lo hi none p2) pos) (tE X.K Ξ (eSl f fl fh)) :=
  pe_imp (pe_slice sl_seq he hl hu) fun σ H Q ⟨w, env, eH, S, eo, h⟩ => by
    subst eH
    exact ⟨w, env, rfl, S, eo, (Out.bnd h).mono fun w1 d l1 S1 h1 v dv => ⟨w1, env, rfl, S1, eo.le l1, (Out.bnd h1).mono fun w2 i l2 S2 h2 => ⟨w2, env, rfl, S2, eo.le (l1.trans l2), (Out.bnd h2).mono fun w3 j l3 S3 h3 => ⟨w3, d, rfl, S3, (l2.trans l3) _ _ dv, h3⟩⟩⟩⟩
def revD (d : D) (s : Sto) : Res D := match d with
  | .tup ds => ok (.tup ds.reverse) s
  | _ => none
def appD (d x : D) (s : Sto) : Res D := match d with
  | .han k => match s[k]? with
    | some (.lst ds) => if decide (ds.length < sizeLine) = true then ok .non (s.set k (.lst (ds ++ [x]))) else none
    | _ => none
  | _ => none
def lstH (d : D) (s : Sto) : Bool := match d with
  | .han k => match s[k]? with
    | some (.lst _) => true
    | _ => false
  | _ => false
def eApp (f g : Env → Sto → Res D) : Env → Sto → Res D := fun env s => bnd (f env s) fun d s => if lstH d s = true then bnd (g env s) fun x s => appD d x s else none
theorem lstH_of {K : PySem.W.Frag} {w : Wd} {d : D} {v : V} (S : StoOk K w) (dv : DV K w d v) (h : lstH d w.sto = true) : ∃ k a ds xs, d = .han k ∧ v = .ref a ∧ w.ρ[k]? = some a ∧ w.sto[k]? = some (.lst ds) ∧ w.H a = some (.lst xs) ∧ DVs K w ds xs := by
  unfold lstH at h
  split at h
  · rename_i k
    split at h
    · rename_i ds hk
      obtain ⟨a, e1, rfl⟩ := dv
      obtain ⟨xs, q1, q2⟩ := S.cell k a _ e1 hk
      exact ⟨k, a, ds, xs, rfl, rfl, e1, hk, q1, q2⟩
    · cases h
  · cases h
theorem app_of {K : PySem.W.Frag} {w : Wd} {d y : D} {v u : V} {q : Wd → D → Prop} (S : StoOk K w) (dv : DV K w d v) (du : DV K w y u) (h : Out K Ξ w (appD d y w.sto) q) : ∃ a xs, v = .ref a ∧ w.H a = some (.lst xs) ∧ xs.length < sizeLine ∧ ∃ w', w'.H = upd w.H a (.lst (xs ++ [u])) ∧ q w' .non := by
  unfold appD at h
  split at h
  · rename_i k
    split at h
    · rename_i ds hk
      split at h
      · rename_i hl
        obtain ⟨a, e1, rfl⟩ := dv
        obtain ⟨xs, q1, q2⟩ := S.cell k a _ e1 hk
        have nd : (Cell.lst ds) ≠ .dead := by intro z; cases z
        have le := (Fw.put (K := K) (o := .lst (xs ++ [u])) (c := .lst (ds ++ [y])) S e1 hk nd).le
        refine ⟨a, xs, rfl, q1, by rw [← q2.length]; exact of_decide_eq_true hl, w.put k a (.lst (xs ++ [u])) (.lst (ds ++ [y])), rfl, ?_⟩
        exact h _ le (S.putw e1 hk nd ⟨_, upd_same, le.all (q2.append (DVs.one du))⟩) rfl
      · exact h.elim
    · exact h.elim
  · exact h.elim
theorem e_app {o : Expr} {apos cpos : Pos} (ho : PE X o (tE X.K Ξ f)) (ha : PE X a (tE X.K Ξ g))
    (hbase : attributeBase o "append" X.env (eval o X.env) = eval o X.env := by rfl)
    (hfew : ((backTo cpos (starEach [a] X.env)).all (fun x => !x.1) && (backToKw cpos (keywordEach [] X.env)).all (fun x => x.1.isSome)
      && decide (([a] : List Expr).length + ([] : List Keyword).length + (if ([] : List Keyword).isEmpty then 0 else 1) < 30)) = true := by rfl)
    (hline : (apos.endLine == cpos.line) = true := by rfl) (hs : starEach [a] X.env = (false, eval a X.env) :: starEach [] X.env := by rfl) (hplain : (backTo cpos (starEach [] X.env)).any (·.1) = false := by rfl) :
    PE X (.Call (.Attribute o "append" apos) [a] [] cpos) (tE X.K Ξ (eApp f g)) :=
  pe_imp (pe_bm PySem.F.plainAttrs_list PySem.F.slot_list_append PySem.F.type_list_append mt_append ho (pa_cons ha pa_nil hs) hbase hfew hline hs hplain) fun σ H Q ⟨w, env, eH, S, eo, h⟩ => by
    subst eH
    refine ⟨w, env, rfl, S, eo, (Out.bnd h).mono fun w1 d l1 S1 h1 v dv => ?_⟩
    split at h1
    · rename_i hl
      obtain ⟨k, p, ds, xs, rfl, rfl, e1, e2, e3, e4⟩ := lstH_of S1 dv hl
      refine ⟨.inl ⟨rfl, xs, SqL.of e3⟩, w1, env, rfl, S1, eo.le l1, (Out.bnd h1).mono fun w2 y l2 S2 h2 u du => ?_⟩
      obtain ⟨a', ys, ea, q1, q2, w3, eH, q3⟩ := app_of S2 (l2 _ _ dv) du h2
      refine ⟨a', ys, u, ea, rfl, q1, q2, ?_⟩
      rw [← eH]
      exact q3 _ rfl
    · exact h1.elim
def setD (d i x : D) (s : Sto) : Option Sto := match d, i with
  | .han k, .int n => match s[k]? with
    | some (.lst ds) => (ixN ds.length n).map fun j => s.set k (.lst (ds.set j x))
    | _ => none
  | _, _ => none
def sSub (f o i : Env → Sto → Res D) : Env → Sto → Res Fl := fun env s => bnd (f env s) fun x s => bnd (o env s) fun d s => bnd (i env s) fun n s => match setD d n x s with
  | some s' => ok (.nx env) s'
  | none => none
theorem set_of {K : PySem.W.Frag} {w : Wd} {d i x : D} {v n u : V} {s' : Sto} (S : StoOk K w) (dv : DV K w d v) (dn : DV K w i n) (du : DV K w x u) (h : setD d i x w.sto = some s') : ∃ a xs k j, v = .ref a ∧ n = .int k ∧ w.H a = some (.lst xs) ∧ ixN xs.length k = some j ∧ ∃ w', w'.H = upd w.H a (.lst (xs.set j u)) ∧ w'.sto = s' ∧ Le K w w' ∧ StoOk K w' := by
  unfold setD at h
  split at h
  · rename_i k m
    split at h
    · rename_i ds hk
      cases hj : ixN ds.length m with
      | none => rw [hj] at h; cases h
      | some j =>
        rw [hj] at h
        cases h
        obtain ⟨a, e1, rfl⟩ := dv
        obtain ⟨xs, q1, q2⟩ := S.cell k a _ e1 hk
        have nd : (Cell.lst ds) ≠ .dead := by intro z; cases z
        have le := (Fw.put (K := K) (o := .lst (xs.set j u)) (c := .lst (ds.set j x)) S e1 hk nd).le
        exact ⟨a, xs, m, j, rfl, dn, q1, by rw [← q2.length]; exact hj, w.put k a (.lst (xs.set j u)) (.lst (ds.set j x)), rfl, rfl, le, S.putw e1 hk nd ⟨_, upd_same, le.all (q2.set du j)⟩⟩
    · cases h
  · cases h
theorem s_sub {o i : Expr} {spos : Pos} {fo fi : Env → Sto → Res D} (he : PE X e (tE X.K Ξ f)) (ho : PE X o (tE X.K Ξ fo)) (hi : PE X i (tE X.K Ξ fi))
    (ha : ∀ v, assign (.Subscript o i spos) X.env v = (do
      let ov ← holding [v] (eval o X.env)
      let iv ← holding [v, ov] (eval i X.env)
      standAt spos
      holding [v, ov, iv] (setItem ov iv v)
      release [v, ov, iv] []) := by intro _; rfl)
    (hs : swapsWithSole [.Subscript o i spos] e pos.line X.env = pure false := by rfl) (hw : swappedStores [.Subscript o i spos] e X.env = pure none := by rfl)
    (h1 : (assignEach [.Subscript o i spos] X.env).map (·.2) = [assign (.Subscript o i spos) X.env] := by rfl) : PS X (.Assign [.Subscript o i spos] e pos) (tS X.K Ξ (sSub f fo fi)) :=
  ps_imp (ps_asg he (pg_sub ho hi set_list ha) hs hw h1) fun D0 σ H ⟨w, env, eH, S, eo, h⟩ => by
    subst eH
    refine ⟨w, env, rfl, S, eo, (Out.bnd h).mono fun w1 x l1 S1 h1 u du => ?_⟩
    refine ⟨w1, env, rfl, S1, eo.le l1, (Out.bnd h1).mono fun w2 d l2 S2 h2 v dv => ?_⟩
    refine ⟨w2, env, rfl, S2, eo.le (l1.trans l2), (Out.bnd h2).mono fun w3 n l3 S3 h3 m dm => ?_⟩
    cases hd : setD d n x w3.sto with
    | none => rw [hd] at h3; exact h3.elim
    | some s' =>
      rw [hd] at h3
      obtain ⟨a, xs, k, j, e1, e2, q1, q2, w4, eH, es, le, S4⟩ := set_of S3 (l3 _ _ dv) dm ((l2.trans l3) _ _ du) hd
      refine ⟨a, xs, k, j, e1, e2, q1, q2, ?_⟩
      rw [← eH]
      exact h3 w4 le S4 es σ (eo.le (l1.trans (l2.trans (l3.trans le))))
end
end DI

set_option Elab.async false
set_option linter.all false
set_option maxRecDepth 100000
set_option maxHeartbeats 4000000
namespace DI
open PySem L2
def kd (d : D) (s : Sto) : Option Kn := match res d s with
  | .non => some .non
  | .bl _ => some .bl
  | .int _ => some .int
  | .str _ => some .str
  | .tup _ => some .tup
  | .lst _ => some .lst
  | .dct _ => some .dct
  | _ => none
theorem kd_of {K : PySem.W.Frag} {w : Wd} {d : D} {v : V} {k : Kn} (S : StoOk K w) (h : DV K w d v) (e : kd d w.sto = some k) : KdV K w.H v k := by
  unfold kd at e
  split at e <;> rename_i e1 <;> first | (cases e; done) | (try cases e)
  · rw [res_not e1 (by intro _ z; cases z)] at h; cases h; trivial
  · rw [res_not e1 (by intro _ z; cases z)] at h; cases h; trivial
  · rw [res_not e1 (by intro _ z; cases z)] at h; cases h; trivial
  · rw [res_not e1 (by intro _ z; cases z)] at h; cases h; trivial
  · rw [res_not e1 (by intro _ z; cases z)] at h
    simp only [DV] at h
    obtain ⟨a, xs, rfl, ha, _⟩ := h
    exact ⟨xs, ha⟩
  · obtain ⟨a, xs, rfl, ha, _⟩ := res_lst S h e1
    exact ⟨xs, SqL.of ha⟩
  · rw [res_not e1 (by intro _ z; cases z)] at h
    simp only [DV] at h
    obtain ⟨a, rfl, _, ha⟩ := h
    exact ⟨_, ha⟩
def isiOk (T : String) : Bool := T == "int" || T == "bool" || T == "str" || T == "tuple" || T == "list"
def bIsi (ds : List D) (s : Sto) : Res D := match ds with
  | [d, .ty T] => if isiOk T = true then pur ((kd d s).map fun k => .bl (isiK k T)) s else none
  | _ => none
section
variable {X : Cx} {Ξ : Wd → Exn → Prop} {e a b : Expr} {es : List Expr} {pos : Pos} {f g : Env → Sto → Res D} {fa : Env → Sto → Res (List D)}
theorem c_isi : CallR X (.builtin "isinstance") (rC X.K Ξ bIsi) := by
  rintro pins s σ H xs us Q I r ⟨w, ds, rfl, S, dvs, h⟩
  unfold bIsi at h
  split at h
  · rename_i d T
    obtain ⟨v, u, rfl, dv, du⟩ := two_of dvs
    have eu : u = .ty T := du
    subst eu
    split at h
    · rename_i hT
      obtain ⟨d', e, h⟩ := pur_out h
      cases hk : kd d w.sto with
      | none => rw [hk] at e; cases e
      | some k =>
        rw [hk] at e
        cases e
        have hkv := kd_of S dv hk
        simp only [isiOk, Bool.or_eq_true, beq_iff_eq] at hT
        rcases hT with (((rfl | rfl) | rfl) | rfl) | rfl
        · exact call_isi_int pins s σ w.H _ us Q I r ⟨v, k, rfl, hkv, out_of S h _ rfl⟩
        · exact call_isi_bool pins s σ w.H _ us Q I r ⟨v, k, rfl, hkv, out_of S h _ rfl⟩
        · exact call_isi_str pins s σ w.H _ us Q I r ⟨v, k, rfl, hkv, out_of S h _ rfl⟩
        · exact call_isi_tuple pins s σ w.H _ us Q I r ⟨v, k, rfl, hkv, out_of S h _ rfl⟩
        · exact call_isi_list pins s σ w.H _ us Q I r ⟨v, k, rfl, hkv, out_of S h _ rfl⟩
    · exact h.elim
  · exact h.elim
theorem e_ty {x : Str} {T : String} (hv : bootBuiltins x = some (.type T)) (hg : Gl X x) (hm : X.mg x = none) (hn : x ≠ "__name__" := by decide) (hd : (x == ("__debug__" : Str)) = false := by decide) : PE X (.Name x pos) (tE X.K Ξ (eC (.ty T))) := e_con (v := .ty T) (pe_bltn hg hm hv rfl hn hd) fun _ => rfl
theorem e_gi {x : Str} {i : Int} (g : ∃ t, X.mg x = some (.int i t)) (hg : Gl X x) (hd : (x == ("__debug__" : Str)) = false := by decide) : PE X (.Name x pos) (tE X.K Ξ (eC (.int i))) := by
  obtain ⟨t, e⟩ := g
  exact e_con (v := .int i) (pe_glob hg e ⟨t, rfl⟩ hd) fun _ => rfl
def isTL (d : D) (s : Sto) : Res D := pur ((kd d s).map fun k => .bl (decide (k = .tup) || decide (k = .lst))) s
theorem e_isiTL {p p1 p2 p3 : Pos} {x1} (ha : PE X a (tE X.K Ξ f)) (hg : Gl X "isinstance") (hm : X.mg "isinstance" = none) (hv : bootBuiltins "isinstance" = some (.builtin "isinstance")) (h1 : PE X (.Name "tuple" p1) (tC (.ty "tuple"))) (h2 : PE X (.Name "list" p2) (tC (.ty "list")))
    (he : starEach (a :: [.Tuple [.Name "tuple" p1, .Name "list" p2] x1 p3]) X.env = (false, eval a X.env) :: starEach [.Tuple [.Name "tuple" p1, .Name "list" p2] x1 p3] X.env := by rfl) :
    PE X (.Call (.Name "isinstance" p) [a, .Tuple [.Name "tuple" p1, .Name "list" p2] x1 p3] [] pos) (tE X.K Ξ (e1 isTL f)) :=
  pe_imp (pe_callB call_isi_tl hg hm hv (pa_cons ha (pa_cons (pe_tytup (pa_cons h1 (pa_cons h2 pa_nil))) pa_nil) he) (by decide) (by decide) he) fun σ H Q ⟨w, env, eH, S, eo, h⟩ => by
    subst eH
    refine ⟨w, env, rfl, S, eo, (Out.bnd h).mono fun w1 d l1 S1 h1 v dv => ?_⟩
    refine ⟨["tuple", "list"], rfl, (by show 2 ≤ sizeLine; decide), fun p hp => ?_⟩
    obtain ⟨d', e, h1⟩ := pur_out h1
    cases hk : kd d w1.sto with
    | none => rw [hk] at e; cases e
    | some k =>
      rw [hk] at e
      cases e
      have S2 := S1.grow (o := .ext (TyTup p ["tuple", "list"])) hp
      have l2 := (Fw.grow (K := X.K) (o := .ext (TyTup p ["tuple", "list"])) hp).le
      exact ⟨v, k, p, rfl, kd_of (w := w1.grow p _) S2 (l2 _ _ dv) hk, upd_same, h1 _ l2 S2 rfl _ rfl⟩
def repOk (d : D) : Bool := plain d && (py d).showable && (!(py d).hasDict || (match py d with | .tuple ds => noLs ds | .dict _ => true | _ => false)) && decide ((py d).depth ≤ 100) && decide ((py d).shown.length ≤ sizeLine)
def bRepr (ds : List D) (s : Sto) : Res D := match ds with
  | [d] => if repOk (res d s) = true then ok (.str (py (res d s)).shown) s else none
  | _ => none
theorem c_repr {k : Nat} (hr : Room k X.A) : CallR X (.builtin "repr") (rC X.K Ξ bRepr) := by
  rintro pins s σ H xs us Q I r ⟨w, ds, rfl, S, dvs, h⟩
  unfold bRepr at h
  split at h
  · rename_i d
    obtain ⟨v, rfl, dv⟩ := one_of dvs
    split at h
    · rename_i hk
      simp only [repOk, Bool.and_eq_true, decide_eq_true_eq] at hk
      obtain ⟨⟨⟨⟨h1, h2⟩, h3⟩, h4⟩, h5⟩ := hk
      have dp := dv.res S h1
      have fin := out_of S h _ rfl
      generalize hp : py (res d w.sto) = P at *
      cases P with
      | tuple ps =>
        refine call_reprT hr pins s σ w.H _ us Q I r ⟨v, ps, _, rfl, dp, h2, ?_, h4, h5, fin⟩
        simpa using h3
      | dict kvs => exact call_repr hr pins s σ w.H _ us Q I r ⟨v, _, _, rfl, dp, h2, .inr rfl, h4, h5, fin⟩
      | _ =>
        refine call_repr hr pins s σ w.H _ us Q I r ⟨v, _, _, rfl, dp, h2, .inl ?_, h4, h5, fin⟩
        simpa using h3
    · exact h.elim
  · exact h.elim
def ints? : List D → Option (List Int)
  | [] => some []
  | .int i :: ds => (ints? ds).map fun r => i :: r
  | _ :: _ => none
theorem ints?_of : ∀ {ds : List D} {ns : List Int}, ints? ds = some ns → ds = ns.map D.int
  | [], ns, h => by cases h; rfl
  | .int b :: ds, ns, h => by
    simp only [ints?] at h
    cases hd : ints? ds with
    | none => rw [hd] at h; cases h
    | some r => rw [hd] at h; cases h; rw [ints?_of hd]; rfl
  | .non :: _, _, h => by cases h
  | .bl _ :: _, _, h => by cases h
  | .str _ :: _, _, h => by cases h
  | .tup _ :: _, _, h => by cases h
  | .lst _ :: _, _, h => by cases h
  | .dct _ :: _, _, h => by cases h
  | .han _ :: _, _, h => by cases h
  | .ty _ :: _, _, h => by cases h
  | .scr _ :: _, _, h => by cases h
theorem ints?_map {ns : List Int} : ints? (ns.map D.int) = some ns := by
  induction ns with
  | nil => rfl
  | cons b bs ih => simp only [List.map_cons, ints?, ih, Option.map_some]
def uput (i : Int) : List Int → List Int
  | [] => [i]
  | j :: r => if i < j then i :: j :: r else if i = j then j :: r else j :: uput i r
def usort : List Int → List Int
  | [] => []
  | i :: r => uput i (usort r)
theorem uput_mem {i k : Int} : ∀ {l : List Int}, k ∈ uput i l ↔ k = i ∨ k ∈ l
  | [] => by simp [uput]
  | j :: r => by
    unfold uput
    split
    · simp
    · split
      · rename_i h; subst h; simp
      · rw [List.mem_cons, uput_mem, List.mem_cons]
        constructor
        · rintro (h | h | h)
          · exact .inr (.inl h)
          · exact .inl h
          · exact .inr (.inr h)
        · rintro (h | h | h)
          · exact .inr (.inl h)
          · exact .inl h
          · exact .inr (.inr h)
theorem uput_sorted {i : Int} : ∀ {l : List Int}, l.Pairwise (· < ·) → (uput i l).Pairwise (· < ·)
  | [], _ => by simp [uput]
  | j :: r, h => by
    obtain ⟨h1, h2⟩ := List.pairwise_cons.mp h
    unfold uput
    split
    · rename_i hij
      refine List.pairwise_cons.mpr ⟨fun k hk => ?_, h⟩
      rcases List.mem_cons.mp hk with rfl | hk
      · exact hij
      · have := h1 k hk; omega
    · split
      · exact h
      · refine List.pairwise_cons.mpr ⟨fun k hk => ?_, uput_sorted h2⟩
        rcases uput_mem.mp hk with rfl | hk
        · omega
        · exact h1 k hk
theorem usort_mem {k : Int} : ∀ {l : List Int}, k ∈ usort l ↔ k ∈ l
  | [] => by simp [usort]
  | i :: r => by simp [usort, uput_mem, usort_mem]
theorem usort_sorted : ∀ (l : List Int), (usort l).Pairwise (· < ·)
  | [] => List.Pairwise.nil
  | i :: r => uput_sorted (usort_sorted r)
theorem sorted_unique : ∀ {l m : List Int}, l.Pairwise (· < ·) → m.Pairwise (· < ·) → (∀ k, k ∈ l ↔ k ∈ m) → l = m
  | [], [], _, _, _ => rfl
  | [], j :: m, _, _, h => by have := (h j).mpr List.mem_cons_self; cases this
  | i :: l, [], _, _, h => by have := (h i).mp List.mem_cons_self; cases this
  | i :: l, j :: m, hl, hm, h => by
    obtain ⟨l1, l2⟩ := List.pairwise_cons.mp hl
    obtain ⟨m1, m2⟩ := List.pairwise_cons.mp hm
    have e : i = j := by
      rcases List.mem_cons.mp ((h i).mp List.mem_cons_self) with e | e
      · exact e
      · rcases List.mem_cons.mp ((h j).mpr List.mem_cons_self) with e' | e'
        · exact e'.symm
        · have := m1 i e; have := l1 j e'; omega
    subst e
    congr 1
    refine sorted_unique l2 m2 fun k => ?_
    constructor
    · intro hk
      rcases List.mem_cons.mp ((h k).mp (List.mem_cons_of_mem _ hk)) with e | e
      · subst e; have := l1 k hk; omega
      · exact e
    · intro hk
      rcases List.mem_cons.mp ((h k).mpr (List.mem_cons_of_mem _ hk)) with e | e
      · subst e; have := m1 k hk; omega
      · exact e
def sortSet (d : D) (s : Sto) : Res D := match seqOf d s with
  | some ds => match ints? ds with
    | some ns => if decide (ns.length < 64) = true then ok (.lst ((usort ns).map D.int)) s else none
    | none => none
  | none => none
theorem e_sortSet {p p2 pos2 : Pos} (ha : PE X a (tE X.K Ξ f)) (hc : X.calm = true) (hg : Gl X "sorted") (hm : X.mg "sorted" = none) (hv : bootBuiltins "sorted" = some (.builtin "sorted")) (hg2 : Gl X "set") (hm2 : X.mg "set" = none) (hv2 : bootBuiltins "set" = some (.type "set"))
    (he : starEach [a] X.env = (false, eval a X.env) :: starEach [] X.env := by rfl) (hpl : (backTo pos2 (starEach [] X.env)).any (·.1) = false := by rfl)
    (he2 : starEach [.Call (.Name "set" p2) [a] [] pos2] X.env = (false, eval (.Call (.Name "set" p2) [a] [] pos2) X.env) :: starEach [] X.env := by rfl) (hpl2 : (backTo pos (starEach [] X.env)).any (·.1) = false := by rfl) :
    PE X (.Call (.Name "sorted" p) [.Call (.Name "set" p2) [a] [] pos2] [] pos) (tE X.K Ξ (e1 sortSet f)) :=
  pe_imp (pe_callB (call_sortedX hc) hg hm hv (pa_cons (pe_callTy (call_setX hc) hg2 hm2 hv2 (pa_cons ha pa_nil he) (by decide) (by decide) he hpl) pa_nil he2) (by decide) (by decide) he2 hpl2) fun σ H Q ⟨w, env, eH, S, eo, h⟩ => by
    subst eH
    refine ⟨w, env, rfl, S, eo, (Out.bnd h).mono fun w1 d l1 S1 h1 v dv => ?_⟩
    unfold sortSet at h1
    split at h1
    · rename_i ds hd
      split at h1
      · rename_i ns hn
        split at h1
        · rename_i hl
          have hl := of_decide_eq_true hl
          obtain ⟨p, xs, rfl, hp, dvs⟩ := seqOf_of S1 dv hd
          rw [ints?_of hn] at dvs
          rw [dvs.ints_inv] at hp
          refine ⟨p, ns, rfl, hp.elim (fun z => .inl (SqL.of z)) .inr, by omega, fun q hq => ?_⟩
          refine ⟨q, ns, rfl, upd_same, hl, fun l ms hl2 hs hk => ?_⟩
          have e := sorted_unique hs (usort_sorted ns) fun k => (hk k).trans usort_mem.symm
          subst e
          have hp1 : (w1.grow q (.ext (SetX X.prog X.w q ns))).H l = none := hl2
          have S2 := S1.grow (o := .ext (SetX X.prog X.w q ns)) hq
          exact h1 ((w1.grow q (.ext (SetX X.prog X.w q ns))).grow l (.lst ((usort ns).map V.int))) ((Fw.grow hq).le.trans (Fw.grow hp1).le) (S2.grow hp1) rfl (.ref l) ⟨l, _, rfl, ⟨(show ¬ (w1.grow q (.ext (SetX X.prog X.w q ns))).Z l from nZ_new S2 hp1), upd_same⟩, DVs.ints _⟩
        · exact h1.elim
      · exact h1.elim
    · exact h1.elim
def par2 (i j : Nat) (fa : Env → Sto → Res (List D)) : Env → Sto → Res Fl := fun env s => bnd (fa env s) fun ds s => match ds with
  | [x, y] => ok (.nx ((env.set i (some x)).set j (some y))) s
  | _ => none
theorem s_par2 (i j : Nat) {x y : Str} {px py pt : Pos} {kt k2 pt2} (hc : X.calm = true) (hN : X.N.Nodup) (ha : PA X [a, b] (tA X.K Ξ fa)) (hi : X.N[i]? = some x := by rfl) (hj : X.N[j]? = some y := by rfl) (hij : i ≠ j := by decide)
    (hx : X.env.scope.names.lookup x = some .local := by rfl) (hy : X.env.scope.names.lookup y = some .local := by rfl)
    (hw : swappedStores [.Tuple [.Name x px, .Name y py] kt pt] (.Tuple [a, b] k2 pt2) X.env = pure (some [x, y]) := by rfl)
    (hs : swapsWithSole [.Tuple [.Name x px, .Name y py] kt pt] (.Tuple [a, b] k2 pt2) pos.line X.env = pure false := by rfl) :
    PS X (.Assign [.Tuple [.Name x px, .Name y py] kt pt] (.Tuple [a, b] k2 pt2) pos) (tS X.K Ξ (par2 i j fa)) := ps_imp (ps_par hc hN hi hj hij hx hy ha hw hs) fun D0 σ H ⟨w, env, eH, S, eo, h⟩ => by
  subst eH
  refine ⟨w, env, rfl, S, eo, (Out.bnd h).mono fun w1 ds l1 S1 h1 vs dvs => ?_⟩
  split at h1
  · obtain ⟨v, u, rfl, dv, du⟩ := two_of dvs
    exact ⟨v, u, rfl, out_of S1 h1 _ (((eo.le l1).set dv i).set du j)⟩
  · exact h1.elim
end
end DI

set_option Elab.async false
set_option linter.all false
set_option maxRecDepth 100000
set_option maxHeartbeats 4000000
namespace L2
open PySem PySem.Spec PyProof.Rows
structure DS (Y : Cx) (D : Addr) (pins : List (Addr × Obj)) : Prop where
  loc : D ≠ Y.env.locals
  fs : D ∉ Y.fs
  new : Y.s₀.heap.objs.size ≤ D
  cell : ∀ x c, Y.env.cells.lookup x = some c → c ≠ D
  pin : ∀ p ∈ Y.pn ++ pins, p.1 ≠ D
structure BOk (Y : Cx) (D : Addr) (nt : Nat) (caps : St) (pins : List (Addr × Obj)) (o : St) (H : Hp) (s : Shared) (acc : List V) : Prop where
  inv : Inv Y pins (o ++ caps) H s
  len : o.length = nt
  lst : ∃ ys, s.heap.PlainList D ys ∧ Vals acc ys.toList
  free : H D = none
  few : acc.length ≤ sizeLine
abbrev TAct := St → Hp → List V → (St → List V → Hp → Prop) → Prop
def PAct (Y : Cx) (D : Addr) (nt : Nat) (caps : St) (c : Code) (m : Sem PySem.Fin) (ta : TAct) : Prop :=
  ∀ (pins : List (Addr × Obj)) (o : St) (H : Hp) (s : Shared) (acc : List V) (Q : St → List V → Hp → Prop), DS Y D pins → BOk Y D nt caps pins o H s acc → ta (o ++ caps) H acc Q →
    wpAny (model Y.prog Y.w) Y.A m (fun fn s' => fn = .again c ∧ ∃ o' H' acc', BOk Y D nt caps pins o' H' s' acc' ∧ Q (o' ++ caps) acc' H') (fun _ _ => False) s
def CA (J : It) (g : TG) (tf : TT) (ta : TAct) (τ : St) (acc : List V) (H : Hp) (Q : St → List V → Hp → Prop) : Prop := ∃ W : Nat → Nat → St → List V → Hp → Prop, (∃ m, W 0 m τ acc H) ∧
  ∀ i m τ acc H2, W i m τ acc H2 → (J.stop i H2 ∧ Q τ acc H2) ∨
    (J.go i H2 ∧ ∃ N : St → List V → Hp → Prop, (∀ τ' acc' H', N τ' acc' H' → ∃ m', m' < m ∧ W (i + 1) m' τ' acc' H') ∧
      ∀ x H3, J.yld i H2 x H3 → g x τ H3 fun τ2 H4 => tf τ2 H4 fun b H5 => if b = true then ta τ2 H5 acc N else N τ2 acc H5)
def tEmit (te : TE) : TAct := fun τ H acc Q => acc.length + 1 ≤ sizeLine ∧ te τ H fun v H' => Q τ (acc ++ [v]) H'
def tMore (wi : TI) (g : TG) (tf : TT) (ta : TAct) : TAct := fun τ H acc Q => wi τ H fun J H1 => CA J g tf ta τ acc H1 Q
section
variable {Y : Cx} {D : Addr} {nt : Nat} {caps : St}
theorem DS.obj {pins : List (Addr × Obj)} {o : St} {H : Hp} {s : Shared} {acc : List V} (ds : DS Y D pins) (B : BOk Y D nt caps pins o H s acc) : ∃ oD ys nn, s.heap.get? D = some oD ∧ oD = { cls := .type "list", data := .seq ys nn } ∧ Vals acc ys.toList ∧ Inv Y (pins ++ [(D, oD)]) (o ++ caps) H s := by
  obtain ⟨ys, ⟨nn, ho⟩, rv⟩ := B.lst
  refine ⟨_, ys, nn, ho, rfl, rv, B.inv.pins_of fun p hp => ?_⟩
  rcases List.mem_append.mp hp with z | z
  · exact B.inv.pin p (List.mem_append_right _ z)
  · have e : p = (D, { cls := .type "list", data := .seq ys nn }) := by simpa using z
    subst e
    exact ⟨ho, B.free, ds.loc, ds.fs, fun v z => by cases z⟩
theorem act_emit {el : Expr} {te : TE} {c : Code} (hx : Y.xe = fun _ _ => False) (hE : PE Y el te) : PAct Y D nt caps c ((do let _ ← call (.builtin "list.append") [.ref D, ← eval el Y.env] : Sem Unit) >>= fun _ => again c) (tEmit te) := by
  intro pins o H s acc Q ds B h
  obtain ⟨hz, h⟩ := h
  obtain ⟨oD, ys, nn, ho, eo, rv, I⟩ := ds.obj B
  have q := hE _ s _ H _ I h
  rw [hx] at q
  refine wpAny_bind (wpAny_bind (thn q fun y s8 h8 => ?_))
  obtain ⟨v, H8, I8, r8, q9⟩ := h8
  have pD := I8.pin (D, oD) (List.mem_append_right _ (List.mem_append_right _ (by simp)))
  have pl8 : s8.heap.PlainList D ys := ⟨nn, by rw [← eo]; exact pD.1⟩
  have hys : ys.size ≤ sizeLine := by
    have e := rv.length
    simp only [Array.length_toList] at e
    omega
  refine wpAny_bind (wpAny_list_append_plain (hsz := hys) pl8 fun h9 pl9 sb9 => wpAny_pure (wpAny_pure ⟨rfl, ?_⟩))
  have I8' : Inv Y pins (o ++ caps) H8 s8 := I8.unpinned
  have I9 : Inv Y pins (o ++ caps) H8 { s8 with heap := h9, toks := s8.toks } := I8'.turned (it := D) (fun b o hb e => (sb9.2 b hb).trans e) pD.2.1 ds.loc (.inr ds.new) ds.cell ds.pin
  refine ⟨o, H8, acc ++ [v], ⟨I9, B.len, ⟨ys.push y, pl9, ?_⟩, pD.2.1, by rw [List.length_append]; simpa using hz⟩, q9⟩
  rw [Array.toList_push]
  exact Vals.append rv (.cons r8 .nil)
theorem comp_loopA {e tg : Expr} {tests : List Expr} {d : Nat} {it : Addr} {J : It} {fp : List Addr} {tn : Nat → Heap → Prop} {g : TG} {tf : TT} {ta : TAct} {act : Sem PySem.Fin} {p0 : Pos} {pins : List (Addr × Obj)} {o : St} {H : Hp} {s : Shared} {acc : List V} {Q : St → List V → Hp → Prop} (hx : Y.xe = fun _ _ => False) (hc : Y.calm = true)
    (T : Turn Y.prog Y.w Y.K tg J fp it tn) (st0 : tn 0 s.heap) (hf : ∀ b ∈ fp, FpOk Y pins H b) (hDf : D ∉ fp) (hG : PG Y tg g) (hgo : GOk g nt) (hF : PF Y tests tf) (hA : PAct Y D nt caps (.compLoop e d (.ref it) (.ref D) Y.env) act ta) (ds : DS Y D pins) (B : BOk Y D nt caps pins o H s acc) (hq : (Code.compLoop e d (.ref it) (.ref D) Y.env).quiet = true)
    (hden : ∀ (M : Model) (A : Around) (Q' : Fin → Shared → Prop) (E' : Value → Shared → Prop) (s' : Shared), wpAny (model Y.prog Y.w) A (compTurn e d (.ref it) (.ref D) Y.env) Q' (fun _ _ => False) s' → wpAny (model Y.prog Y.w) (A.under (.compLoop e d (.ref it) (.ref D) Y.env)) ((model Y.prog Y.w).den (.compLoop e d (.ref it) (.ref D) Y.env)) Q' E' s')
    (ht : compTurn e d (.ref it) (.ref D) Y.env = (do
      standAt p0
      match ← pyNext (.ref it) with
      | none => pure (.done .next)
      | some v =>
        letOwnedTupleGo tg (.ref it) v
        assign tg Y.env v
        let mut ok := true
        for c in tests do
          if ok then ok ← isTrue c Y.env (eval c Y.env)
        if ok then act else again (.compLoop e d (.ref it) (.ref D) Y.env)))
    (h : CA J g tf ta (o ++ caps) acc H Q) :
    codeAny (model Y.prog Y.w) Y.A (.compLoop e d (.ref it) (.ref D) Y.env) (fun r s' => r = .ok .next ∧ ∃ o' H' acc', BOk Y D nt caps pins o' H' s' acc' ∧ Q (o' ++ caps) acc' H') s := by
  obtain ⟨W, ⟨m0, w0⟩, turn⟩ := h
  have fpY : ∀ {H' : Hp} {pl : List (Addr × Obj)}, (∀ b ∈ fp, H' b = none) → (∀ p ∈ pl, p.1 ∉ fp) → ∀ b ∈ fp, FpOk Y (pins ++ pl) H' b := fun {H' pl} hn hp b hb => by
    obtain ⟨_, f1, f2', f3, f4, f5⟩ := hf b hb
    refine ⟨hn b hb, f1, f2', f3, f4, fun p hpp => ?_⟩
    rcases List.mem_append.mp hpp with z | z
    · exact f5 p (List.mem_append_left _ z)
    · rcases List.mem_append.mp z with z | z
      · exact f5 p (List.mem_append_right _ z)
      · exact fun e => hp p z (e ▸ hb)
  refine codeAny_loop hq (fun n s' => ∃ i acc o H', BOk Y D nt caps pins o H' s' acc ∧ tn i s'.heap ∧ (∀ b ∈ fp, H' b = none) ∧ W i n (o ++ caps) acc H') (fun n s3 hJ => ?_) m0 ⟨0, acc, o, H, B, st0, fun b hb => (hf b hb).1, w0⟩
  obtain ⟨i, acc, o3, H3, B3, st3, fr3, w3⟩ := hJ
  refine hden (model Y.prog Y.w) _ _ _ _ ?_
  rw [ht]
  obtain ⟨oD, ys, nn, ho, eo, rv3, I3'⟩ := ds.obj B3
  have nfp : ∀ p ∈ [(D, oD)], p.1 ∉ fp := fun p hp => by
    have e : p = (D, oD) := by simpa using hp
    subst e
    exact hDf
  have atD : ∀ {pl : List (Addr × Obj)} {τ' : St} {H' : Hp} {s' : Shared}, Inv Y (pins ++ [(D, oD)] ++ pl) τ' H' s' → s'.heap.PlainList D ys ∧ H' D = none := fun {pl τ' H' s'} I' => by
    have q := I'.pin (D, oD) (List.mem_append_right _ (List.mem_append_left _ (List.mem_append_right _ (by simp))))
    exact ⟨⟨nn, by rw [← eo]; exact q.1⟩, q.2.1⟩
  refine wpAny_bind (wpAny_standAt (wpAny_bind ?_))
  rcases turn i n _ acc H3 w3 with ⟨stop, q⟩ | ⟨go, N', hN, step⟩
  · have hd := T.done Y rfl rfl rfl hc i _ s3 _ H3 (fun _ _ => False) I3' (fpY fr3 nfp) st3 stop
    refine thn hd fun r s4 h4 => ?_
    obtain ⟨hr, I4⟩ := h4
    subst hr
    obtain ⟨pl4, n4⟩ := atD (pl := []) (by simpa using I4)
    exact wpAny_pure ⟨rfl, o3, H3, acc, ⟨I4.unpinned, B3.len, ⟨ys, pl4, rv3⟩, n4, B3.few⟩, q⟩
  · have hd := T.item Y rfl rfl rfl hc i _ s3 _ H3 (fun _ _ => False) I3' (fpY fr3 nfp) st3 go
    refine thn hd fun r s4 h4 => ?_
    obtain ⟨u, hr, h4⟩ := h4
    subst hr
    refine wpAny_bind (thn h4 fun _ s5 h5 => ?_)
    obtain ⟨x, H5, I5, r5, y5, st5, fr5⟩ := h5
    have I5' := I5.pinned (fpY fr5 nfp) (T.obj _ _ st5)
    have q5 := hG _ s5 _ H5 x u _ I5' r5 (hgo x o3 _ H5 _ B3.len (step x H5 y5))
    rw [hx] at q5
    refine wpAny_bind (thn q5 fun _ s6 h6 => ?_)
    obtain ⟨τ6, H6, I6, ⟨o6, ho6, eτ6⟩, q6⟩ := h6
    have q7 := hF _ s6 τ6 H6 _ I6 q6
    rw [hx] at q7
    refine wpAny_bind (thn q7 fun b s7 h7 => ?_)
    obtain ⟨H7, I7, q7⟩ := h7
    subst eτ6
    obtain ⟨pl7, n7⟩ := atD I7
    have I7' : Inv Y (pins ++ pinsAt fp s5.heap) (o6 ++ caps) H7 s7 := I7.pins_of fun p hp => by
      rcases List.mem_append.mp hp with z | z
      · exact I7.pin p (List.mem_append_right _ (List.mem_append_left _ (List.mem_append_left _ z)))
      · exact I7.pin p (List.mem_append_right _ (List.mem_append_right _ z))
    have frAt : ∀ {τ' : St} {H' : Hp} {s' : Shared}, Inv Y (pins ++ pinsAt fp s5.heap) τ' H' s' → tn (i + 1) s'.heap ∧ ∀ b ∈ fp, H' b = none := fun {τ' H' s'} I' => by
      refine ⟨T.keep _ _ _ st5 fun b hb o e => (I'.pin (b, o) (List.mem_append_right _ (List.mem_append_right _ (mem_pinsAt hb e)))).1, fun b hb => ?_⟩
      obtain ⟨o, e, _⟩ := T.obj _ _ st5 b hb
      exact (I'.pin (b, o) (List.mem_append_right _ (List.mem_append_right _ (mem_pinsAt hb e)))).2.1
    cases b with
    | false =>
      rw [if_neg Bool.false_ne_true] at q7
      obtain ⟨m', hm, w7⟩ := hN _ _ _ q7
      obtain ⟨t7, f7⟩ := frAt I7'
      exact wpAny_pure ⟨rfl, m', hm, i + 1, acc, o6, H7, ⟨I7'.unpinned, ho6, ⟨ys, pl7, rv3⟩, n7, B3.few⟩, t7, f7, w7⟩
    | true =>
      rw [if_pos rfl] at q7
      have ds' : DS Y D (pins ++ pinsAt fp s5.heap) := ⟨ds.loc, ds.fs, ds.new, ds.cell, fun p hp => by
        rcases List.mem_append.mp hp with z | z
        · exact ds.pin p (List.mem_append_left _ z)
        · rcases List.mem_append.mp z with z | z
          · exact ds.pin p (List.mem_append_right _ z)
          · exact fun e => hDf (e ▸ (of_pinsAt z).1)⟩
      refine thn (hA _ o6 H7 s7 acc N' ds' ⟨I7', ho6, ⟨ys, pl7, rv3⟩, n7, B3.few⟩ q7) fun fn s8 h8 => ?_
      obtain ⟨efn, o8, H8, acc8, B8, q8⟩ := h8
      subst efn
      obtain ⟨m', hm, w8⟩ := hN _ _ _ q8
      obtain ⟨t8, f8⟩ := frAt B8.inv
      exact ⟨rfl, m', hm, i + 1, acc8, o8, H8, ⟨B8.inv.unpinned, B8.len, B8.lst, B8.free, B8.few⟩, t8, f8, w8⟩
end
end L2

set_option Elab.async false
set_option linter.all false
set_option maxRecDepth 100000
set_option maxHeartbeats 4000000
namespace L2
open PySem PySem.Spec PyProof.Rows
theorem den_of {P : Program} {w : World} {el : Expr} {gens : List Comprehension} {sc : Scope} {ps : Pos} {d : Nat} {itv av : Value} {ce : Env} (A : Around) (Q' : Fin → Shared → Prop) (E' : Value → Shared → Prop) (s' : Shared)
    (h : wpAny (model P w) A (compTurn (.ListComp el gens sc ps) d itv av ce) Q' (fun _ _ => False) s') : wpAny (model P w) (A.under (.compLoop (.ListComp el gens sc ps) d itv av ce)) ((model P w).den (.compLoop (.ListComp el gens sc ps) d itv av ce)) Q' E' s' := by
  show wpAny _ A ((compTurn (.ListComp el gens sc ps) d itv av ce).onRaise (fun x => do noteFrame x ce; theTreesLotGoes x)) _ _ s'
  exact wpAny_noted (wpAny_mono h (fun _ _ q => q) fun _ _ z => z.elim)
theorem start_of {P : Program} {w : World} {A : Around} {R : Result → Shared → Prop} {s : Shared} {el target iter : Expr} {ifs : List Expr} {gens : List Comprehension} {sc : Scope} {ps : Pos} {d : Nat} {it acc : Value} {env : Env} (hd : gens[d]? = some ⟨target, iter, ifs, 0⟩)
    (h0 : codeAny (model P w) A (.compLoop (.ListComp el gens sc ps) d it acc env) R s)
    (h : wpAny (model P w) A (pyIter it) (fun it' s' => codeAny (model P w) A (.compLoop (.ListComp el gens sc ps) d it' acc env) R s') (fun _ _ => False) s) :
    codeAny (model P w) A (.compStart (.ListComp el gens sc ps) d it acc env) R s := by
  refine codeAny_of_tree ?_
  show wpAny _ _ ((compStart (.ListComp el gens sc ps) d it acc env).onRaise (fun x => do noteFrame x env; standAt theWindowsPlace)) _ _ s
  refine wpAny_notedAt ?_
  have hd' : (clausesOf (.ListComp el gens sc ps))[d]? = some ⟨target, iter, ifs, 0⟩ := hd
  unfold compStart
  rw [hd']
  show wpAny _ _ (ask >>= _) _ _ s
  refine wpAny_bind (wpAny_askSetting (wpAny_ite ?_))
  split
  · first
      | exact wpAny_bind (wpAny_pure (wpAny_pure (And.intro rfl h0)))
      | exact wpAny_pure (And.intro rfl h0)
  · refine wpAny_bind (wpAny_rule ?_)
    show wpAny _ _ (standAt iter.pos >>= _) _ _ s
    exact wpAny_bind (wpAny_standAt (wpAny_bind (wpAny_mono h (fun it' s' h' => wpAny_pure (And.intro rfl h')) fun _ _ x => x.elim)))
section
variable {Y : Cx} {D : Addr} {nt : Nat} {caps : St}
theorem act_more {el tg src : Expr} {gens : List Comprehension} {sc : Scope} {ps : Pos} {tests : List Expr} {d : Nat} {wi : TI} {g : TG} {tf : TT} {ta : TAct} {act : Addr → Sem PySem.Fin} {c : Code} (hx : Y.xe = fun _ _ => False) (hc : Y.calm = true) (hd : gens[d]? = some ⟨tg, src, tests, 0⟩)
    (hi : PI Y tg src wi) (hG : PG Y tg g) (hgo : GOk g nt) (hF : PF Y tests tf) (hA : ∀ it : Addr, PAct Y D nt caps (.compLoop (.ListComp el gens sc ps) d (.ref it) (.ref D) Y.env) (act it) ta)
    (ht : ∀ it : Addr, compTurn (.ListComp el gens sc ps) d (.ref it) (.ref D) Y.env = (do
      standAt src.pos
      match ← pyNext (.ref it) with
      | none => pure (.done .next)
      | some v =>
        letOwnedTupleGo tg (.ref it) v
        assign tg Y.env v
        let mut ok := true
        for c in tests do
          if ok then ok ← isTrue c Y.env (eval c Y.env)
        if ok then act it else again (.compLoop (.ListComp el gens sc ps) d (.ref it) (.ref D) Y.env)))
    (hs : ∀ x, foldedSetIterable src Y.env x = pure x) :
    PAct Y D nt caps c (do
      let x ← eval src Y.env
      standAt src.pos
      let x ← foldedSetIterable src Y.env x
      let _ ← runOwn (.compStart (.ListComp el gens sc ps) d (← holding [x] (pyIter x)) (.ref D) Y.env) Y.env
      again c) (tMore wi g tf ta) := by
  intro pins o H s acc Q ds B h
  obtain ⟨oD, ys, nn, ho, eo, rv, I⟩ := ds.obj B
  have q := hi _ s _ H _ I h
  rw [hx] at q
  refine wpAny_bind (thn q fun v s1 h1 => wpAny_bind (wpAny_standAt ?_))
  rw [hs]
  refine wpAny_bind (wpAny_pure (wpAny_bind (wpAny_holding (thn h1 fun itv s2 h2 => ?_))))
  obtain ⟨it, fp, tn, J, H2, e, I2, T, st2, f2, ca⟩ := h2
  subst e
  have pD := I2.pin (D, oD) (List.mem_append_right _ (List.mem_append_right _ (by simp)))
  have hDf : D ∉ fp := fun z => (f2 D z).2.2.2.2.2 (D, oD) (List.mem_append_right _ (List.mem_append_right _ (by simp))) rfl
  have f2' : ∀ b ∈ fp, FpOk Y pins H2 b := fun b hb => by
    obtain ⟨a1, a2, a3, a4, a5, a6⟩ := f2 b hb
    refine ⟨a1, a2, a3, a4, a5, fun p hp => a6 p ?_⟩
    rcases List.mem_append.mp hp with z | z
    · exact List.mem_append_left _ z
    · exact List.mem_append_right _ (List.mem_append_left _ z)
  have B2 : BOk Y D nt caps pins o H2 s2 acc := ⟨I2.unpinned, B.len, ⟨ys, ⟨nn, by rw [← eo]; exact pD.1⟩, rv⟩, pD.2.1, B.few⟩
  have loop := comp_loopA (e := .ListComp el gens sc ps) (d := d) hx hc T st2 f2' hDf hG hgo hF (hA it) ds B2 rfl (fun _ A Q' E' s' h => den_of A Q' E' s' h) (ht it) ca
  refine wpAny_bind (wpAny_runOwn ?_)
  refine codeAny_mono (start_of hd loop (T.self _ _ _ _ _ st2 loop)) fun r s' hr => ?_
  obtain ⟨e, q⟩ := hr
  subst e
  exact wpAny_pure ⟨rfl, q⟩
end
def tCompA (wi : TI) (nt : Nat) (cap : List Nat) (g : TG) (tf : TT) (ta : TAct) : TE := fun σ H Q => wi σ H fun J H1 => CA J g tf ta (List.replicate nt none ++ capsC cap σ) [] H1 fun _ acc H2 => ∀ D, H2 D = none → Q (.ref D) (upd H2 D (.lst acc))
section
variable {X : Cx}
theorem ps_compA {el tg src : Expr} {tests : List Expr} {rest : List Comprehension} {sc : Scope} {ps pos pos' : Pos} {N : List Str} {nt : Nat} {cap : List Nat} {wi : TI} {g : TG} {tf : TT} {ta : TAct} {act : Env → Addr → Addr → Sem PySem.Fin} {i0 : Nat} {x0 : Str} (hN0 : X.N.Nodup) (hi0 : X.N[i0]? = some x0) (hx0 : Loc X.env.scope x0) (hc : X.calm = true) (S : CScope X sc N nt cap) (hgo : GOk g nt) (hi : PI X tg src wi)
    (hY : ∀ (cl : List (Str × Addr)) (C : Addr) (s : Shared) (H : Hp) (ex : List Addr) (pn : List (Addr × Obj)), PG (cxC X N sc cl C s H ex pn) tg g ∧ PF (cxC X N sc cl C s H ex pn) tests tf ∧ ∀ D caps it, PAct (cxC X N sc cl C s H ex pn) D nt caps (.compLoop (.ListComp el (⟨tg, src, tests, 0⟩ :: rest) sc ps) 0 (.ref it) (.ref D) (compEnvC sc cl C X.env)) (act (compEnvC sc cl C X.env) D it) ta)
    (ht : ∀ (it D : Addr) (ce : Env), compTurn (.ListComp el (⟨tg, src, tests, 0⟩ :: rest) sc ps) 0 (.ref it) (.ref D) ce = (do
      standAt src.pos
      match ← pyNext (.ref it) with
      | none => pure (.done .next)
      | some v =>
        letOwnedTupleGo tg (.ref it) v
        assign tg ce v
        let mut ok := true
        for c in tests do
          if ok then ok ← isTrue c ce (eval c ce)
        if ok then act ce D it else again (.compLoop (.ListComp el (⟨tg, src, tests, 0⟩ :: rest) sc ps) 0 (.ref it) (.ref D) ce)))
    (hs : ∀ x, foldedSetIterable src X.env x = pure x := by intro _; rfl)
    (hsw : swapsWith (.ListComp el (⟨tg, src, tests, 0⟩ :: rest) sc ps) (some (.Name x0 pos')) pos.line X.env = pure true := by rfl)
    (hf0 : X.fn x0 = true ∨ X.env.scope.names.lookup x0 = some .local := by first | exact .inl rfl | exact .inr rfl | assumption) : PS X (.Assign [.Name x0 pos'] (.ListComp el (⟨tg, src, tests, 0⟩ :: rest) sc ps) pos) (tAsg (tCompA wi nt cap g tf ta) (gName i0)) := by
  intro pins s σ H D0 I h
  obtain ⟨cl, hclos, hcl⟩ := clo_of (env := X.env) (sc := sc) fun n hn => I.ok.has n (S.frees _ hn rfl).2
  rw [exec_Assign_Name_used _ _ _ _ hsw]
  refine wpAny_bind (wpAny_standAt (wpAny_bind ?_))
  obtain ⟨Q, hQ⟩ : ∃ Q : VK, Q = fun v H1 => gName i0 v σ H1 D0.nx := ⟨_, rfl⟩
  have h : tCompA wi nt cap g tf ta σ H Q := by rw [hQ]; exact h
  have hQ' : ∀ v H1, Q v H1 → D0.nx (σ.set i0 (some v)) H1 := fun v H1 q => by rw [hQ] at q; exact q
  unfold evalThenUse
  refine wpAny_bind (wpAny_mono (Q := fun _ s' => SP X pins D0 .next s') ?_ (fun _ s' q => wpAny_pure (wpAny_pure q)) (fun _ _ z => z))
  refine wpAny_comprehension_free (use := some (assign (.Name x0 pos') X.env)) rfl hs hclos S.kind S.names (thn (hi pins s σ H _ I h) fun xv s1 h1 => thn h1 fun itv s2 h2 => ?_)
  obtain ⟨it, fp, tn, J, H2, e, I2, T, st2, f2, ca⟩ := h2
  subst e
  refine wpAny_newObj_type (wpAny_newFunctionEnv S.nocell (by intro y hy; simp at hy) (fun h3 hns3 hsb3 => ?_) S.kind)
  dsimp only at hns3 hsb3 ⊢
  generalize hD : s2.heap.objs.size = D at hns3 hsb3 ⊢
  generalize hG : s2.heap.push { cls := .type "list", dict := none, data := .seq ([] : List Value).toArray } = G at hns3 hsb3 ⊢
  generalize hCe : G.objs.size = C at hns3 hsb3 ⊢
  have hC : C = D + 1 := by rw [← hCe, ← hG, Heap.size_push, hD]
  have hDC : D ≠ C := by omega
  have hDle : s2.heap.objs.size ≤ D := Nat.le_of_eq hD
  have hCle : s2.heap.objs.size ≤ C := by omega
  have old : ∀ b o, s2.heap.get? b = some o → h3.get? b = some o := fun b o e => hsb3.extBut b o (Nat.ne_of_lt (Nat.lt_of_lt_of_le (Heap.lt_size e) hCle)) (Heap.get?_push_of_some _ (hG ▸ Heap.get?_push_of_some _ e))
  have hacc : h3.PlainList D #[] := ⟨_, hsb3.extBut _ _ hDC (Heap.get?_push_of_some _ (hG ▸ hD ▸ Heap.get?_push_size _ rfl))⟩
  have hfs : ∀ b ∈ fp, b < s2.heap.objs.size := fun b hb => by
    obtain ⟨o, e, _⟩ := T.obj _ _ st2 b hb
    exact Heap.lt_size e
  have IB := I2.block (t' := s2.toks + ([] : List (Str × Value)).length) S hcl f2 hfs old hCle ⟨_, hns3⟩
  have hDs : D ∉ frs X.stack := fun z => by
    rcases List.mem_cons.mp (I2.stkSub D z) with e | e
    · exact absurd (Nat.lt_of_lt_of_le I2.lt hDle) (by rw [e]; exact Nat.lt_irrefl _)
    · exact I2.nofs hDle e
  have hDf : D ∉ fp := fun z => absurd (Nat.lt_of_lt_of_le (hfs D z) hDle) (Nat.lt_irrefl _)
  have hDcell : ∀ x c, cl.lookup x = some c → c ≠ D := fun x c e z => by
    obtain ⟨v, o, ho, _⟩ := I2.cell x c ((hcl x c).mp e).2
    exact absurd (Nat.lt_of_lt_of_le (Heap.lt_size ho) (by rw [z]; exact hDle)) (Nat.lt_irrefl _)
  have hDpin : ∀ p ∈ X.pn ++ pins, p.1 ≠ D := fun p hp z => absurd (Nat.lt_of_lt_of_le (Heap.lt_size (I2.pin p hp).1) (by rw [z]; exact hDle)) (Nat.lt_irrefl _)
  have fin : ∀ (s' : Shared) (τ : St) (H' : Hp) (acc : List V) (ys : Array Value), Inv (cxC X N sc cl C s2 H2 fp (X.pn ++ pins)) [] τ H' s' → s'.heap.PlainList D ys → Vals acc ys.toList → H' D = none → acc.length ≤ sizeLine → (∀ D, H' D = none → Q (.ref D) (upd H' D (.lst acc))) →
      compPost (model X.prog X.w) X.A X.xe (some (assign (.Name x0 pos') X.env)) (fun _ s' => SP X pins D0 .next s') (.ref D) C (.ok .next) s' := by
    intro s' τ H' acc ys I' pl rv hn hz q
    obtain ⟨m, hm, _⟩ := id I'.loc
    have hokD : HOk X.prog X.w H' s'.heap := I'.hok
    obtain ⟨n, ho⟩ := pl
    have new : ObjOk X.prog X.w (upd H' D (.lst acc)) s'.heap D (.lst acc) := ⟨hz, ys.toList, n, rv, by simpa using ho⟩
    have u := (I'.base.but hCle (Heap.SameBut.refl _ _)).adopt (o := .lst acc) hDle hn
    have IX : Inv X pins σ (upd H' D (.lst acc)) s' := I2.call' (s' := s') (ch := fp) I'.os u (hokD.adopt hn new) I'.bare (fun b hb => by
      obtain ⟨_, f1, _, f3, f4, f5⟩ := f2 b hb
      exact ⟨f3, f1, f4, f5⟩)
    have hCn : upd H' D (.lst acc) C = none := by
      rw [upd_ne (Ne.symm hDC)]
      exact I'.free
    have hCl : C ≠ X.env.locals := fun z => absurd (Nat.lt_of_lt_of_le I2.lt hCle) (by rw [z]; exact Nat.lt_irrefl _)
    have hCf : C ∉ X.fs := I2.nofs hCle
    obtain ⟨oC, es, ep, hoC, hdC, hst⟩ := id hm
    have IP : Inv X ((C, oC) :: pins) σ (upd H' D (.lst acc)) s' := IX.pins_of fun p hp => by
      rcases List.mem_cons.mp hp with e | e
      · subst e
        exact ⟨hoC, hCn, hCl, hCf, fun v z => by rw [hdC] at z; cases z⟩
      · exact IX.pin p (List.mem_append_right _ e)
    show wpAny _ _ (assign (.Name x0 pos') X.env (.ref D)) _ _ s'
    refine wpAny_assign_Name (store_ok IP hN0 hi0 hx0 (show RelV (.ref D) (.ref D) from rfl) (fun s3 I3 => ?_) hf0)
    have p3 := (I3.pin (C, oC) (List.mem_append_right _ (List.mem_cons_self ..))).1
    refine ⟨m, ⟨oC, es, ep, p3, hdC, hst⟩, fun h' sb => ⟨_, upd H' D (.lst acc), ?_, hQ' _ _ (q D hn)⟩⟩
    have I4 : Inv X pins (σ.set i0 (some (.ref D))) (upd H' D (.lst acc)) s3 := I3.pins_of fun p hp => I3.pin p (List.mem_append_right _ (List.mem_cons_of_mem _ hp))
    refine I4.turned (it := C) (t' := s3.toks) (fun b o hb e => (sb.2 b hb).trans e) hCn hCl (.inr (Nat.le_trans I2.sz hCle)) (fun x c e z => ?_) (fun p hp z => ?_)
    · obtain ⟨v, o, ho2, _⟩ := I2.cell x c e
      exact absurd (Nat.lt_of_lt_of_le (Heap.lt_size ho2) (by rw [z]; exact hCle)) (Nat.lt_irrefl _)
    · exact absurd (Nat.lt_of_lt_of_le (Heap.lt_size (I2.pin p hp).1) (by rw [z]; exact hCle)) (Nat.lt_irrefl _)
  have fpY : ∀ b ∈ fp, FpOk (cxC X N sc cl C s2 H2 fp (X.pn ++ pins)) [] H2 b := fun b hb => by
    obtain ⟨f0, f1, f2', f3, f4, f5⟩ := f2 b hb
    refine ⟨f0, Nat.ne_of_lt (Nat.lt_of_lt_of_le (hfs b hb) hCle), fun z => ?_, .inl hb, fun x c e => f4 x c ((hcl x c).mp e).2, fun p hpp => ?_⟩
    · rcases List.mem_cons.mp (I2.stkSub b z) with e | e
      · exact f1 e
      · exact f2' e
    · exact f5 p (by simpa using hpp)
  obtain ⟨hG1, hF1, hA1⟩ := hY cl C s2 H2 fp (X.pn ++ pins)
  have loop := comp_loopA (Y := cxC X N sc cl C s2 H2 fp (X.pn ++ pins)) (D := D) (nt := nt) (caps := capsC cap σ) (e := .ListComp el (⟨tg, src, tests, 0⟩ :: rest) sc ps) (d := 0) (pins := []) (o := List.replicate nt none) (acc := []) rfl hc T
    (T.keep _ _ _ st2 fun b _ o e => old b o e) fpY hDf hG1 hgo hF1 (hA1 D _ it) ⟨hDC, hDs, hDle, hDcell, fun p hp => hDpin p (by simpa using hp)⟩ ⟨IB, by simp, ⟨#[], hacc, .nil⟩, I2.hok.fresh hDle, Nat.zero_le _⟩ rfl (fun _ A Q' E' s' h => den_of A Q' E' s' h) (ht it D _) ca
  have loop' := codeAny_mono loop (R' := compPost (model X.prog X.w) X.A X.xe (some (assign (.Name x0 pos') X.env)) (fun _ s' => SP X pins D0 .next s') (.ref D) C) fun r s' hr => by
    obtain ⟨e, o', H', acc', B', q'⟩ := hr
    subst e
    obtain ⟨ys, pl, rv⟩ := B'.lst
    exact fin s' _ H' acc' ys B'.inv pl rv B'.free B'.few q'
  exact codeAny_compStart_list loop' (T.self _ _ _ _ _ (T.keep _ _ _ st2 fun b _ o e => old b o e) loop')
end
end L2

set_option Elab.async false
set_option linter.all false
set_option maxRecDepth 100000
set_option maxHeartbeats 4000000
namespace DI
open PySem L2
theorem b_isinstance : bootBuiltins "isinstance" = some (.builtin "isinstance") := by decide +kernel
theorem b_int : bootBuiltins "int" = some (.type "int") := by decide +kernel
theorem b_bool : bootBuiltins "bool" = some (.type "bool") := by decide +kernel
theorem b_tuple : bootBuiltins "tuple" = some (.type "tuple") := by decide +kernel
theorem b_list : bootBuiltins "list" = some (.type "list") := by decide +kernel
theorem b_set : bootBuiltins "set" = some (.type "set") := by decide +kernel
theorem b_all : bootBuiltins "all" = some (.builtin "all") := by decide +kernel
theorem b_len : bootBuiltins "len" = some (.builtin "len") := by decide +kernel
theorem b_repr : bootBuiltins "repr" = some (.builtin "repr") := by decide +kernel
theorem b_max : bootBuiltins "max" = some (.builtin "max") := by decide +kernel
theorem b_min : bootBuiltins "min" = some (.builtin "min") := by decide +kernel
theorem b_sorted : bootBuiltins "sorted" = some (.builtin "sorted") := by decide +kernel
structure Gd (K : PySem.W.Frag) (mg : Str → Option Value) (x : Str) (st : Stmt) (ps : List Str) (f : Addr) (fd : FuncData) : Prop where
  mg : mg x = some (.ref f)
  fn : Fun K x x st f fd
  b : Binds K fd ps []
theorem fn_no {P : Program} {w : World} {K : PySem.W.Frag} {mg : Str → Option Value} {base : Heap} {k : Nat} {f : Addr} {fd : FuncData} {ps : List Str} {g : List D → Sto → Res D} (h : ∀ ds s, g ds s = none) : FnOk P w K mg base CX0 k f fd ps (spI K g) :=
  ⟨fun vs H Q E h' => by obtain ⟨w, ds, _, _, _, q⟩ := h'; rw [h] at q; exact q.elim, fun A outer s H args us vs Q E _ _ _ _ h' => by obtain ⟨w, ds, _, _, _, q⟩ := h'; rw [h] at q; exact q.elim⟩
def spLaw (K : PySem.W.Frag) : Sp := fun vs H Q _ => ∃ (a : Addr) (ns : List Int), vs = [.ref a] ∧ SqL K H a (ns.map V.int) ∧ ns.length ≤ 63 ∧ ∀ H', Q (.bl true) H'
theorem law_of {P : Program} {w : World} {K : PySem.W.Frag} {mg : Str → Option Value} {base : Heap} {k : Nat} {f : Addr} {fd : FuncData} {x : Str} {g : List D → Sto → Res D} (F : FnOk P w K mg base CX0 k f fd [x] (spI K g))
    (h : ∀ ns : List Int, ns.length ≤ 63 → ∃ s, g [.scr ns] [] = some (.ok (.bl true), s)) : FnOk P w K mg base CX0 k f fd [x] (spLaw K) := F.imp fun vs H Q E ⟨a, ns, e, hS, hl, q⟩ => by
  subst e
  obtain ⟨s, hs⟩ := h ns hl
  have nz : ∀ b, ¬ (⟨[], [], H⟩ : Wd).Z b := fun b ⟨k, c, e1, _, _⟩ => by simp at e1
  refine ⟨⟨[], [], H⟩, [.scr ns], rfl, ⟨rfl, List.nodup_nil, fun k a e => by simp at e, fun k a c e => by simp at e⟩, DVs.one ⟨a, rfl, ?_⟩, ?_⟩
  · rcases hS with hS | hS
    · exact .inl ⟨nz a, hS⟩
    · exact .inr hS
  · show Out K NoX _ (g [.scr ns] []) _
    rw [hs]
    intro w' _ _ _ v dv
    have e : v = .bl true := dv
    subst e
    exact q _
end DI

set_option Elab.async false
set_option linter.all false
set_option maxRecDepth 100000
set_option maxHeartbeats 4000000
namespace DI
open PySem L2
def clGo (g : D → Env → Option Env) (t : Env → Sto → Res Bool) (act : Env → Sto → Res (List D)) (env0 : Env) : List D → Sto → Res (List D)
  | [], s => ok [] s
  | d :: ds, s => match g d env0 with
    | none => none
    | some env => bnd (ne (t env s)) fun b s => if b = true then bnd (ne (act env s)) fun xs s => bnd (clGo g t act env0 ds s) fun ys s => ok (xs ++ ys) s
      else clGo g t act env0 ds s
def emit (f : Env → Sto → Res D) : Env → Sto → Res (List D) := fun env s => bnd (f env s) fun x s => ok [x] s
def more (it : Env → Sto → Res (List D)) (g : D → Env → Option Env) (t : Env → Sto → Res Bool) (act : Env → Sto → Res (List D)) : Env → Sto → Res (List D) := fun env s => bnd (it env s) fun ds s => clGo g t act env ds s
def eCompA (nt : Nat) (cap : List Nat) (it : Env → Sto → Res (List D)) (g : D → Env → Option Env) (t : Env → Sto → Res Bool) (act : Env → Sto → Res (List D)) : Env → Sto → Res D := fun env s =>
  bnd (it env s) fun ds s => bnd (ne (clGo g t act (List.replicate nt none ++ capsE cap env) ds s)) fun xs s => lenOk xs (ok (.lst xs) s)
def Sl (g : D → Env → Option Env) (sl : List Nat) : Prop := ∀ d env env', g d env = some env' → env'.length = env.length ∧ ∀ i, i ∉ sl → env'[i]? = env[i]?
theorem sl_name (i : Nat) : Sl (gN i) [i] := fun d env env' h => by
  have e : env.set i (some d) = env' := Option.some.inj h
  subst e
  refine ⟨List.length_set .., fun j hj => ?_⟩
  rw [List.getElem?_set_ne (fun z => hj (by simp [z]))]
theorem slAll : ∀ (is : List Nat) (ds : List D) (env env' : Env), gAll (is.map gN) ds env = some env' → env'.length = env.length ∧ ∀ i, i ∉ is → env'[i]? = env[i]?
  | [], [], env, env', h => by
    have e : env = env' := Option.some.inj h
    rw [e]
    exact ⟨rfl, fun _ _ => rfl⟩
  | [], _ :: _, _, _, h => by cases h
  | _ :: _, [], _, _, h => by cases h
  | j :: is, d :: ds, env, env', h => by
    have h' : gAll (is.map gN) ds (env.set j (some d)) = some env' := h
    obtain ⟨h1, h2⟩ := slAll is ds _ env' h'
    refine ⟨by rw [h1, List.length_set], fun i hi => ?_⟩
    rw [h2 i (fun z => hi (List.mem_cons_of_mem _ z)), List.getElem?_set_ne (fun z => hi (by rw [z]; exact List.mem_cons_self ..))]
theorem sl_tup (is : List Nat) : Sl (gT (is.map gN)) is := fun d env env' h => by
  cases d with
  | tup ds => exact slAll is ds env env' h
  | _ => cases h
theorem len_same {g : D → Env → Option Env} {sl : List Nat} {d : D} {env env' : Env} (hs : Sl g sl) (hg : g d env = some env') : env'.length = env.length := (hs d env env' hg).1
def Fre (sl : List Nat) (env : Env) : Prop := ∀ i ∈ sl, ∀ d, env[i]? ≠ some (some d)
theorem EnvOk.back {K : PySem.W.Frag} {w : Wd} {env env' : Env} {σ : St} {g : D → Env → Option Env} {sl : List Nat} {d : D} (hs : Sl g sl) (hf : Fre sl env) (hg : g d env = some env') (hl : env.length = σ.length) (h : EnvOk K w env' σ) : EnvOk K w env σ :=
  ⟨hl, fun i x e => by
    by_cases hi : i ∈ sl
    · exact absurd e (hf i hi x)
    · exact h.val i x (by rw [(hs d env env' hg).2 i hi]; exact e)⟩
def ActOk (K : PySem.W.Frag) (Pre : Env → Prop) (ta : TAct) (act : Env → Sto → Res (List D)) : Prop := ∀ (w : Wd) (env : Env) (τ : St) (acc : List V) (accD xs : List D) (s' : Sto) (Q : St → List V → Hp → Prop), Pre env → StoOk K w → EnvOk K w env τ → DVs K w accD acc →
  act env w.sto = some (.ok xs, s') → acc.length + xs.length ≤ sizeLine → (∀ w' τ' vs, Le K w w' → StoOk K w' → w'.sto = s' → EnvOk K w' env τ' → DVs K w' (accD ++ xs) vs → Q τ' vs w'.H) → ta τ w.H acc Q
theorem bnd_some {α β : Type} {r : Res α} {k : α → Sto → Res β} {b : β} {s' : Sto} (h : bnd r k = some (.ok b, s')) : ∃ a s, r = some (.ok a, s) ∧ k a s = some (.ok b, s') := by
  match r, h with
  | some (.ok a, s), h => exact ⟨a, s, rfl, h⟩
theorem ne_some {α : Type} {r : Res α} {a : α} {s : Sto} (h : ne r = some (.ok a, s)) : r = some (.ok a, s) := by
  match r, h with
  | some (.ok b, s2), h => exact h
theorem act_emit_ok {K : PySem.W.Frag} {f : Env → Sto → Res D} : ActOk K (fun _ => True) (tEmit (tE K NoX f)) (emit f) := by
  intro w env τ acc accD xs s' Q _ S eo da h hl hQ
  obtain ⟨x, s1, h1, h2⟩ := bnd_some h
  cases h2
  refine ⟨by simpa using hl, w, env, rfl, S, eo, ?_⟩
  rw [h1]
  intro w' le S' e' v dv
  exact hQ w' τ (acc ++ [v]) le S' e' (eo.le le) (DVs.append (le.all da) (DVs.one dv))
theorem clause_ok {K : PySem.W.Frag} {Pre : Env → Prop} {g0 : TG} {g : D → Env → Option Env} {nt : Nat} {sl : List Nat} {t : Env → Sto → Res Bool} {act : Env → Sto → Res (List D)} {ta : TAct} {env : Env} {w1 : Wd} {J : It} {ds xs accD : List D} {s' : Sto} {τ : St} {acc : List V} {Q : St → List V → Hp → Prop}
    (T : Tg K g0 g nt) (hs : Sl g sl) (hf : Fre sl env) (hp : ∀ d env', g d env = some env' → Pre env') (hA : ActOk K Pre ta act) (hJ : ItD K w1 J ds) (S1 : StoOk K w1) (eo : EnvOk K w1 env τ) (da : DVs K w1 accD acc)
    (h : clGo g t act env ds w1.sto = some (.ok xs, s')) (hl : acc.length + xs.length ≤ sizeLine) (hQ : ∀ w' τ' vs, Le K w1 w' → StoOk K w' → w'.sto = s' → EnvOk K w' env τ' → DVs K w' (accD ++ xs) vs → Q τ' vs w'.H) :
    CA J g0 (tT K NoX t) ta τ acc w1.H Q := by
  refine ⟨fun i m τ acc H' => m = ds.length - i ∧ i ≤ ds.length ∧ ∃ w' accD xs, w'.H = H' ∧ Le K w1 w' ∧ StoOk K w' ∧ EnvOk K w' env τ ∧ DVs K w' accD acc ∧ clGo g t act env (ds.drop i) w'.sto = some (.ok xs, s') ∧ acc.length + xs.length ≤ sizeLine ∧
      (∀ w2 τ' vs, Le K w' w2 → StoOk K w2 → w2.sto = s' → EnvOk K w2 env τ' → DVs K w2 (accD ++ xs) vs → Q τ' vs w2.H),
    ⟨ds.length, rfl, Nat.zero_le _, w1, accD, xs, rfl, Le.refl _, S1, eo, da, h, hl, hQ⟩, ?_⟩
  rintro i m τ acc H' ⟨rfl, hi, w', accD, xs, rfl, l', S', eo', da', h', hl', hQ'⟩
  by_cases hlt : i < ds.length
  · right
    obtain ⟨hgo, hy⟩ := (hJ w' l' S' i).1 _ (List.getElem?_eq_getElem hlt)
    rw [List.drop_eq_getElem_cons hlt] at h'
    simp only [clGo] at h'
    cases hg : g ds[i] env with
    | none => rw [hg] at h'; cases h'
    | some env2 =>
      rw [hg] at h'
      obtain ⟨b, s2, hb, h2⟩ := bnd_some h'
      have hb := ne_some hb
      refine ⟨hgo, fun τ acc H2 => ∃ w' accD xs, w'.H = H2 ∧ Le K w1 w' ∧ StoOk K w' ∧ EnvOk K w' env τ ∧ DVs K w' accD acc ∧ clGo g t act env (ds.drop (i + 1)) w'.sto = some (.ok xs, s') ∧ acc.length + xs.length ≤ sizeLine ∧
        (∀ w2 τ' vs, Le K w' w2 → StoOk K w2 → w2.sto = s' → EnvOk K w2 env τ' → DVs K w2 (accD ++ xs) vs → Q τ' vs w2.H), fun τ2 acc2 H2 q => ⟨ds.length - (i + 1), by omega, rfl, hlt, q⟩, fun x H3 y => ?_⟩
      obtain ⟨w2, rfl, l2, S2, es, dv⟩ := hy x H3 y
      refine T.imp _ _ _ _ ⟨w2, env, ds[i], env2, rfl, S2, eo'.le l2, dv, hg, fun σ2 eo2 => ⟨w2, env2, rfl, S2, eo2, ?_⟩⟩
      have hlen : ∀ {σ3 : St}, σ3.length = σ2.length → env2.length = σ3.length := fun e => by rw [eo2.len, e]
      have el : env.length = env2.length ∨ True := .inr trivial
      rw [es, hb]
      intro w3 l3 S3 e3
      cases b with
      | true =>
        rw [if_pos rfl] at h2 ⊢
        obtain ⟨ys, s3, hy', h3⟩ := bnd_some h2
        have hy' := ne_some hy'
        obtain ⟨zs, s4, hz, h4⟩ := bnd_some h3
        cases h4
        rw [← e3] at hy'
        refine hA w3 env2 σ2 acc accD ys s3 _ (hp _ _ hg) S3 (eo2.le l3) ((l2.trans l3).all da') hy' (by rw [List.length_append] at hl'; omega) fun w4 τ4 vs l4 S4 e4 eo4 dvs4 => ?_
        have lv := dvs4.length
        refine ⟨w4, accD ++ ys, zs, rfl, l'.trans (l2.trans (l3.trans l4)), S4, eo4.back hs hf hg ?_, dvs4, by rw [e4]; exact hz, ?_, fun w5 τ5 vs5 l5 S5 e5 eo5 dvs5 => hQ' w5 τ5 vs5 (l2.trans (l3.trans (l4.trans l5))) S5 e5 eo5 (by rw [← List.append_assoc]; exact dvs5)⟩
        · rw [← eo4.len]
          exact (len_same hs hg).symm
        · rw [List.length_append] at hl' lv
          have := da'.length
          omega
      | false =>
        rw [if_neg Bool.false_ne_true] at h2 ⊢
        exact ⟨w3, accD, xs, rfl, l'.trans (l2.trans l3), S3, (eo2.le l3).back hs hf hg (by rw [← eo2.len]; exact (len_same hs hg).symm), (l2.trans l3).all da', by rw [e3]; exact h2, hl', fun w5 τ5 vs5 l5 S5 e5 eo5 dvs5 => hQ' w5 τ5 vs5 (l2.trans (l3.trans l5)) S5 e5 eo5 dvs5⟩
  · left
    have e : i = ds.length := by omega
    subst e
    rw [List.drop_length] at h'
    cases h'
    exact ⟨(hJ w' l' S' _).2 (Nat.le_refl _), hQ' w' τ acc (Le.refl _) S' rfl eo' (by rw [List.append_nil]; exact da')⟩
theorem act_more_ok {K : PySem.W.Frag} {Pre Pre' : Env → Prop} {g0 : TG} {g : D → Env → Option Env} {nt : Nat} {sl : List Nat} {it : Env → Sto → Res (List D)} {t : Env → Sto → Res Bool} {act : Env → Sto → Res (List D)} {ta : TAct} (T : Tg K g0 g nt) (hs : Sl g sl) (hA : ActOk K Pre ta act)
    (h1 : ∀ env, Pre' env → Fre sl env) (h2 : ∀ d env env', Pre' env → g d env = some env' → Pre env') : ActOk K Pre' (tMore (tIt K NoX it) g0 (tT K NoX t) ta) (more it g t act) := by
  intro w env τ acc accD xs s' Q hp S eo da h hl hQ
  obtain ⟨ds, s1, hd, h3⟩ := bnd_some h
  refine ⟨w, env, rfl, S, eo, ?_⟩
  rw [hd]
  intro w1 l1 S1 e1 J hJ
  exact clause_ok T hs (h1 env hp) (fun d env' hg => h2 d env env' hp hg) hA hJ S1 (eo.le l1) (l1.all da) (by rw [e1]; exact h3) hl fun w' τ' vs l' S' e' eo' dvs => hQ w' τ' vs (l1.trans l') S' e' eo' dvs
theorem compA_imp {K : PySem.W.Frag} {Ξ : Wd → Exn → Prop} {Pre : Env → Prop} {nt : Nat} {cap : List Nat} {it : Env → Sto → Res (List D)} {g0 : TG} {g : D → Env → Option Env} {sl : List Nat} {t : Env → Sto → Res Bool} {act : Env → Sto → Res (List D)} {ta : TAct} (T : Tg K g0 g nt) (hs : Sl g sl) (hsl : ∀ i ∈ sl, i < nt) (hA : ActOk K Pre ta act)
    (hp : ∀ d caps env', g d (List.replicate nt none ++ caps) = some env' → Pre env') (σ : St) (H : Hp) (Q : VK) :
    tE K Ξ (eCompA nt cap it g t act) σ H Q → tCompA (tIt K Ξ it) nt cap g0 (tT K NoX t) ta σ H Q := by
  rintro ⟨w, env, rfl, S, eo, h⟩
  refine ⟨w, env, rfl, S, eo, (Out.bnd h).mono fun w1 ds l1 S1 h1 J hJ => ?_⟩
  cases hr : clGo g t act (List.replicate nt none ++ capsE cap env) ds w1.sto with
  | none => rw [hr] at h1; exact h1.elim
  | some r =>
    obtain ⟨r, s'⟩ := r
    rw [hr] at h1
    cases r with
    | error x => exact h1.elim
    | ok xs =>
      have h1 : Out K Ξ w1 (lenOk xs (ok (D.lst xs) s')) (fun w' d => ∀ v, DV K w' d v → Q v w'.H) := h1
      obtain ⟨hz, h1⟩ := lenOk_of h1
      have eb := (eo.le l1).block nt cap (List.replicate nt none) (by simp)
      refine clause_ok T hs (fun i hi d e => ?_) (fun d env' hg => hp d _ env' hg) hA hJ S1 eb (accD := []) rfl hr (by simpa using hz) fun w' τ' vs l' S' e' eo' dvs p hpn => ?_
      · rw [List.getElem?_append_left (by simpa using hsl i hi), List.getElem?_replicate, if_pos (hsl i hi)] at e
        cases e
      · exact h1 (w'.grow p (.lst vs)) (l'.trans (Fw.grow hpn).le) (S'.grow hpn) e' (.ref p) ⟨p, vs, rfl, ⟨(show ¬ w'.Z p from nZ_new S' hpn), upd_same⟩, (Fw.grow hpn).le.all dvs⟩
theorem Fre.of {nt : Nat} {g : D → Env → Option Env} {sl sl2 : List Nat} (hs : Sl g sl) (hd : ∀ i ∈ sl2, i < nt ∧ i ∉ sl) {d : D} {caps env' : Env} (hg : g d (List.replicate nt none ++ caps) = some env') : Fre sl2 env' := fun i hi x e => by
  obtain ⟨h1, h2⟩ := hd i hi
  rw [(hs _ _ _ hg).2 i h2, List.getElem?_append_left (by simpa using h1), List.getElem?_replicate, if_pos h1] at e
  cases e
theorem Fre.on {g : D → Env → Option Env} {sl sl2 : List Nat} (hs : Sl g sl) (hd : ∀ i ∈ sl2, i ∉ sl) {d : D} {env env' : Env} (hf : Fre sl2 env) (hg : g d env = some env') : Fre sl2 env' := fun i hi x e => by
  rw [(hs _ _ _ hg).2 i (hd i hi)] at e
  exact hf i hi x e
section
variable {X : Cx} {Ξ : Wd → Exn → Prop} {el tg src tg2 src2 tg3 src3 : Expr} {tests tests2 tests3 : List Expr} {sc : Scope} {ps pos : Pos} {N : List Str} {nt : Nat} {cap : List Nat} {it it2 it3 : Env → Sto → Res (List D)} {gd gd2 gd3 : D → Env → Option Env} {g0 g02 g03 : TG} {sl sl2 sl3 : List Nat} {ft ft2 ft3 : Env → Sto → Res Bool} {f : Env → Sto → Res D}
abbrev eComp2 (nt : Nat) (cap : List Nat) (it : Env → Sto → Res (List D)) (g : D → Env → Option Env) (t : Env → Sto → Res Bool) (it2 : Env → Sto → Res (List D)) (g2 : D → Env → Option Env) (t2 : Env → Sto → Res Bool) (f : Env → Sto → Res D) : Env → Sto → Res D := eCompA nt cap it g t (more it2 g2 t2 (emit f))
abbrev eComp3 (nt : Nat) (cap : List Nat) (it : Env → Sto → Res (List D)) (g : D → Env → Option Env) (t : Env → Sto → Res Bool) (it2 : Env → Sto → Res (List D)) (g2 : D → Env → Option Env) (t2 : Env → Sto → Res Bool) (it3 : Env → Sto → Res (List D)) (g3 : D → Env → Option Env) (t3 : Env → Sto → Res Bool) (f : Env → Sto → Res D) : Env → Sto → Res D := eCompA nt cap it g t (more it2 g2 t2 (more it3 g3 t3 (emit f)))
def apart (nt : Nat) (sl sl2 : List Nat) : Bool := sl2.all (fun i => decide (i < nt) && !sl.contains i)
theorem apart_of {nt : Nat} {sl sl2 : List Nat} (h : apart nt sl sl2 = true) : ∀ i ∈ sl2, i < nt ∧ i ∉ sl := fun i hi => by
  have := List.all_eq_true.mp h i hi
  simp only [Bool.and_eq_true, decide_eq_true_eq, Bool.not_eq_true', List.contains_eq_mem, decide_eq_false_iff_not] at this
  exact this
abbrev actE (e el : Expr) (d : Nat) : PySem.Env → Addr → Addr → Sem PySem.Fin := fun ce D it => (do let _ ← call (.builtin "list.append") [.ref D, ← eval el ce] : Sem Unit) >>= fun _ => again (.compLoop e d (.ref it) (.ref D) ce)
abbrev actM (e src : Expr) (d : Nat) : PySem.Env → Addr → Addr → Sem PySem.Fin := fun ce D it => do
  let x ← eval src ce
  standAt src.pos
  let x ← foldedSetIterable src ce x
  let _ ← runOwn (.compStart e (d + 1) (← holding [x] (pyIter x)) (.ref D) ce) ce
  again (.compLoop e d (.ref it) (.ref D) ce)
theorem s_comp2 {pos' : Pos} (i0 : Nat) {x0 : Str} (hN0 : X.N.Nodup) (hc : X.calm = true) (S : CScope X sc N nt cap) (T : Tg X.K g0 gd nt) (hs1 : Sl gd sl) (T2 : Tg X.K g02 gd2 nt) (hs2 : Sl gd2 sl2) (hi : PI X tg src (tIt X.K Ξ it))
    (hY : ∀ (cl : List (Str × Addr)) (C : Addr) (s : Shared) (H : Hp) (ex : List Addr) (pn : List (Addr × Obj)), PG (cxC X N sc cl C s H ex pn) tg g0 ∧ PF (cxC X N sc cl C s H ex pn) tests (tT X.K NoX ft) ∧ PI (cxC X N sc cl C s H ex pn) tg2 src2 (tIt X.K NoX it2) ∧ PG (cxC X N sc cl C s H ex pn) tg2 g02 ∧ PF (cxC X N sc cl C s H ex pn) tests2 (tT X.K NoX ft2) ∧ PE (cxC X N sc cl C s H ex pn) el (tE X.K NoX f))
    (h12 : apart nt sl sl2 = true := by rfl) (h11 : apart nt [] sl = true := by rfl)
    (hi0 : X.N[i0]? = some x0 := by rfl) (hx0 : Loc X.env.scope x0 := by first | exact Or.inl rfl | exact Or.inr rfl)
    (hs : ∀ x, foldedSetIterable src X.env x = pure x := by intro _; rfl) (hf2 : ∀ ce x, foldedSetIterable src2 ce x = pure x := by intro _ _; rfl)
    (hsw : swapsWith (.ListComp el [⟨tg, src, tests, 0⟩, ⟨tg2, src2, tests2, 0⟩] sc ps) (some (.Name x0 pos')) pos.line X.env = pure true := by rfl)
    (hf0 : X.fn x0 = true ∨ X.env.scope.names.lookup x0 = some .local := by first | exact .inl rfl | exact .inr rfl) : PS X (.Assign [.Name x0 pos'] (.ListComp el [⟨tg, src, tests, 0⟩, ⟨tg2, src2, tests2, 0⟩] sc ps) pos) (tS X.K Ξ (sAsg (eComp2 nt cap it gd ft it2 gd2 ft2 f) (gN i0))) :=
  ps_imp (ps_compA (act := actM (.ListComp el [⟨tg, src, tests, 0⟩, ⟨tg2, src2, tests2, 0⟩] sc ps) src2 0) hN0 hi0 hx0 hc S T.gok hi (fun cl C s H ex pn => by
      obtain ⟨y1, y2, y3, y4, y5, y6⟩ := hY cl C s H ex pn
      exact ⟨y1, y2, fun D caps it => act_more (d := 1) (act := fun it' => actE (.ListComp el [⟨tg, src, tests, 0⟩, ⟨tg2, src2, tests2, 0⟩] sc ps) el 1 _ D it') rfl hc rfl y3 y4 T2.gok y5 (fun it' => act_emit rfl y6) (fun _ => rfl) (hf2 _)⟩) (fun _ _ _ => rfl) hs hsw hf0)
    fun D σ H h => compA_imp (Pre := Fre sl2) T hs1 (fun i hi => (apart_of h11 i hi).1) (act_more_ok T2 hs2 act_emit_ok (fun _ h => h) (fun _ _ _ _ _ => trivial)) (fun d caps env' hg => Fre.of hs1 (apart_of h12) hg) σ H _ (gName_imp (te := tE X.K Ξ f) D σ H (asg_imp D σ H h))
end
end DI

set_option Elab.async false
set_option linter.all false
set_option maxRecDepth 100000
set_option maxHeartbeats 4000000
namespace L2
open PySem PySem.Spec PyProof.Rows
abbrev Cx.inb (X : Cx) : Cx := { X with A := X.A.in1, xe := fun _ _ => False }
theorem Inv.inb {X : Cx} {pins : List (Addr × Obj)} {σ : St} {H : Hp} {s : Shared} (I : Inv X pins σ H s) : Inv X.inb pins σ H s :=
  ⟨⟨I.ok.mod, I.ok.kind, I.ok.glob, I.ok.blt, I.ok.above, I.ok.inj, I.ok.has, I.ok.cab, I.ok.hd, I.ok.frames, I.ok.stk, I.ok.exf, I.ok.bs, I.ok.bsz, I.ok.noex, I.ok.exfs, I.ok.funs, I.ok.frf⟩, I.os, I.bare, I.base, I.loc, I.cell, I.free, I.freeC, I.pin, I.hok, I.len⟩
theorem Inv.outb {X : Cx} {pins : List (Addr × Obj)} {σ : St} {H : Hp} {s : Shared} (I : Inv X.inb pins σ H s) : Inv X pins σ H s :=
  ⟨⟨I.ok.mod, I.ok.kind, I.ok.glob, I.ok.blt, I.ok.above, I.ok.inj, I.ok.has, I.ok.cab, I.ok.hd, I.ok.frames, I.ok.stk, I.ok.exf, I.ok.bs, I.ok.bsz, I.ok.noex, I.ok.exfs, I.ok.funs, I.ok.frf⟩, I.os, I.bare, I.base, I.loc, I.cell, I.free, I.freeC, I.pin, I.hok, I.len⟩
def KeyR (X : Cx) (kv : Value) (rk : V → Hp → VK → Prop) : Prop :=
  ∀ (pins : List (Addr × Obj)) (s : Shared) (σ : St) (H : Hp) (x : V) (v : Value) (Q : VK), Inv X pins σ H s → RelV x v → rk x H Q → wpAny (model X.prog X.w) X.A (call kv [v]) (EP X pins σ Q) X.xe s
def tMM (K : PySem.W.Frag) (l : Addr) (all : List V) (rk : V → Hp → VK → Prop) (rc : R2) : List V → V → V → Hp → VK → Prop
  | [], vb, _, H, Q => SqL K H l all ∧ Q vb H
  | x :: xs, vb, kb, H, Q => SqL K H l all ∧ rk x H fun k H1 => rc k kb H1 fun z H2 => ∃ b, z = .bl b ∧ if b = true then tMM K l all rk rc xs x k H2 Q else tMM K l all rk rc xs vb kb H2 Q
def tMM0 (K : PySem.W.Frag) (l : Addr) (all : List V) (rk : V → Hp → VK → Prop) (rc : R2) (dv : V) (H : Hp) (Q : VK) : Prop := SqL K H l all ∧ match all with
  | [] => Q dv H
  | x :: xs => rk x H fun k H1 => tMM K l all rk rc xs x k H1 Q
abbrev rkN : V → Hp → VK → Prop := fun x H Q => Q x H
def mmPost (X : Cx) (pins : List (Addr × Obj)) (σ : St) (Q : VK) (r : Result) (s' : Shared) : Prop := match r with
  | .ok (.ret v) => EP X pins σ Q v s'
  | .ok _ => False
  | .error e => X.xe e s'
theorem min_loopF {X : Cx} {l I S : Addr} {q : Addr} {kw : List (Str × Value)} {all : List V} {pins : List (Addr × Obj)} {σ : St} {rk : V → Hp → VK → Prop} {rc : R2} {Q : VK} (hc : X.calm = true) (hlI : l ≠ I) (hSI : S ≠ I) (hSl : S ≠ l) (hK : KeyR X.inb (.ref q) rk) (hC : OpR X.inb (compareOp .Lt) rc) :
    ∀ (rest : List V) (j : Nat) (s : Shared) (H : Hp) (vb kb : V) (ub uk : Value) (c : Nat), all.drop j = rest → j ≤ all.length → Inv X.inb pins σ H s → FpOk X pins H S → FpOk X pins H I → s.heap.get? S = some { cls := .type "list", dict := none, data := .seq #[ub, uk] c, slots := #[] } → s.heap.IsListIter I l j → RelV vb ub → RelV kb uk →
      tMM X.K l all rk rc rest vb kb H Q → codeAny (model X.prog X.w) X.A (.builtin "min.loop" ⟨[.ref I, .ref q, .ref S], kw⟩) (mmPost X pins σ Q) s := by
  have hname : (toString "min" ++ toString ".loop" : String) = "min.loop" := by decide
  intro rest
  induction rest with
  | nil =>
    intro j s H vb kb ub uk c hd hjl I0 fS fI gS hit rb rk' h
    obtain ⟨hq, h⟩ := h
    have hj : j = all.length := Nat.le_antisymm hjl (by simpa using hd)
    subst hj
    obtain ⟨its, rv, pl, hz⟩ := I0.list hq
    have hh : X.A.in1.handled = none := I0.ok.hd hc
    have W := Walks.list (prog := X.prog) (w := X.w) (A := X.A.in1) hh I l hlI its.toArray
    have hsz : its.toArray.size = all.length := by rw [List.size_toArray]; exact rv.length.symm
    refine codeAny_builtin PySem.F.entry_min_loop ?_
    rw [Around.under_plainId PySem.F.plain_min_loop _]
    show wpAny _ X.A.in1 (seqItems? (.ref S) >>= _) _ _ _
    refine wpAny_bind (wpAny_seqItems gS rfl ?_)
    show wpAny _ X.A.in1 (tryCatch (pyNext (.ref I)) _ >>= _) _ _ _
    refine wpAny_bind (wpAny_tryCatch (W.done _ _ _ ⟨by rw [hsz]; exact hit, pl.isList⟩ fun h' tk' hk' => ?_))
    have gS' := hk' S _ (by simpa using hSI) gS
    have I1 : Inv X.inb pins σ H { s with heap := h', toks := tk' } := I0.turned (it := I) (fun b o hb e => hk' b o (by simpa using hb) e) fI.1 fI.2.1 fI.2.2.2.1 fI.2.2.2.2.1 fI.2.2.2.2.2
    show wpAny _ X.A.in1 (updateSeq S (fun _ => #[]) >>= _) _ _ _
    refine wpAny_bind ?_
    refine wpAny_updateSeq gS' rfl (wpAny_bind (wpAny_letGo (wpAny_pure ?_)))
    have I2 := I1.turned (h' := h'.update S (Obj.mapSeq fun _ => (#[] : Array Value))) (t' := tk') (it := S) (fun b o hb e => (Heap.get?_update_other _ _ (Ne.symm hb)).trans e) fS.1 fS.2.1 fS.2.2.2.1 fS.2.2.2.2.1 fS.2.2.2.2.2
    exact ⟨vb, H, I2.outb, rb, h⟩
  | cons x rest ih =>
    intro j s H vb kb ub uk c hd hjl I0 fS fI gS hit rb rkb h
    obtain ⟨hq, h⟩ := h
    have hx : all[j]? = some x := by
      have := congrArg (fun l => l[0]?) hd
      simpa using this
    have hd' : all.drop (j + 1) = rest := by
      have := congrArg (List.drop 1) hd
      simpa [List.drop_drop] using this
    obtain ⟨its, rv, pl, hz⟩ := I0.list hq
    have hh : X.A.in1.handled = none := I0.ok.hd hc
    have W := Walks.list (prog := X.prog) (w := X.w) (A := X.A.in1) hh I l hlI its.toArray
    have hsz : its.toArray.size = all.length := by rw [List.size_toArray]; exact rv.length.symm
    refine codeAny_builtin PySem.F.entry_min_loop ?_
    rw [Around.under_plainId PySem.F.plain_min_loop _]
    show wpAny _ X.A.in1 (seqItems? (.ref S) >>= _) _ _ _
    refine wpAny_bind (wpAny_seqItems gS rfl ?_)
    show wpAny _ X.A.in1 (tryCatch (pyNext (.ref I)) _ >>= _) _ _ _
    refine wpAny_bind (wpAny_tryCatch (W.item j _ _ _ (by rw [hsz]; exact (List.getElem?_eq_some_iff.mp hx).1) ⟨hit, pl.isList⟩ fun v h' tk' hP hst' hk' => ?_))
    obtain ⟨v', hv', rx⟩ := rv.get hx
    have ev : v' = v := by
      have : its.toArray[j]? = some v := hP
      rw [List.getElem?_toArray, hv'] at this
      exact Option.some.inj this
    subst ev
    have gS' := hk' S _ (by simpa using hSI) gS
    have I1 : Inv X.inb pins σ H { s with heap := h', toks := tk' } := I0.turned (it := I) (fun b o hb e => hk' b o (by simpa using hb) e) fI.1 fI.2.1 fI.2.2.2.1 fI.2.2.2.2.1 fI.2.2.2.2.2
    obtain ⟨oI, hoI, hoc, hod⟩ := id hst'.1
    have nS : ∀ v, ({ cls := .type "list", dict := none, data := .seq #[ub, uk] c, slots := #[] } : Obj).data ≠ .cell v := fun v z => by cases z
    have nI : ∀ v, oI.data ≠ .cell v := fun v z => by rw [hod] at z; cases z
    have I2 := I1.pins_of (pins' := pins ++ [(S, { cls := .type "list", dict := none, data := .seq #[ub, uk] c, slots := #[] }), (I, oI)]) fun p hp => by
      rcases List.mem_append.mp hp with z | z
      · exact I1.pin p (List.mem_append_right _ z)
      · rcases List.mem_cons.mp z with rfl | z
        · exact ⟨gS', fS.1, fS.2.1, fS.2.2.1, nS⟩
        · rw [List.mem_singleton.mp z]
          exact ⟨hoI, fI.1, fI.2.1, fI.2.2.1, nI⟩
    show wpAny _ X.A.in1 (tryCatch (holding [v'] (call (.ref q) [v'])) _ >>= _) _ _ _
    refine wpAny_bind (wpAny_tryCatch (wpAny_holding (wpAny_mono (hK _ _ σ H x v' _ I2 rx h) (fun uv s2 hk2 => ?_) fun _ _ z => z.elim)))
    obtain ⟨k, H2, I3, rk2, h⟩ := hk2
    show wpAny _ X.A.in1 (tryCatch (holding [v', uv] (richCompare .Lt uv uk >>= _)) _ >>= _) _ _ _
    refine wpAny_bind (wpAny_tryCatch (wpAny_holding (wpAny_bind (wpAny_mono (hC _ s2 σ H2 k kb uv uk _ I3 rk2 rkb h) (fun z s3 hz3 => ?_) fun _ _ z => z.elim))))
    obtain ⟨zv, H3, I4, rz, b, eb, h⟩ := hz3
    subst eb
    cases rz
    refine wpAny_bind (wpAny_holding (wpAny_truthy_bool ?_))
    refine wpAny_bind (wpAny_letGo (wpAny_pure ?_))
    have pS := I4.pin (S, { cls := .type "list", dict := none, data := .seq #[ub, uk] c, slots := #[] }) (List.mem_append_right _ (List.mem_append_right _ (by simp)))
    have pI := I4.pin (I, oI) (List.mem_append_right _ (List.mem_append_right _ (by simp)))
    have I5 : Inv X.inb pins σ H3 s3 := I4.unpinned
    have fS3 : FpOk X pins H3 S := ⟨pS.2.1, fS.2⟩
    have fI3 : FpOk X pins H3 I := ⟨pI.2.1, fI.2⟩
    cases b with
    | true =>
      rw [if_pos rfl] at h
      rw [if_pos rfl]
      refine wpAny_bind ?_
      refine wpAny_updateSeq pS.1 rfl (wpAny_bind (wpAny_letGo ?_))
      rw [hname]
      obtain ⟨c2, hc2⟩ : ∃ c2, (s3.heap.update S (Obj.mapSeq fun _ => #[v', uv])).get? S = some { cls := .type "list", dict := none, data := .seq #[v', uv] c2, slots := #[] } := ⟨_, Heap.get?_update_self _ pS.1 rfl⟩
      have I6 : Inv X.inb pins σ H3 { s3 with heap := s3.heap.update S (Obj.mapSeq fun _ => #[v', uv]), toks := s3.toks } := I5.turned (t' := s3.toks) (it := S) (fun b o hb e => (Heap.get?_update_other _ _ (Ne.symm hb)).trans e) fS3.1 fS3.2.1 fS3.2.2.2.1 fS3.2.2.2.2.1 fS3.2.2.2.2.2
      exact wpAny_pure ⟨plainId_quiet PySem.F.plain_min_loop _, ih (j + 1) _ H3 x k v' uv c2 hd' (List.getElem?_eq_some_iff.mp hx).1 I6 fS3 fI3 hc2 ⟨oI, (Heap.get?_update_other _ _ hSI).trans pI.1, hoc, hod⟩ rx rk2 h⟩
    | false =>
      rw [if_neg Bool.false_ne_true] at h
      rw [if_neg Bool.false_ne_true]
      refine wpAny_bind (wpAny_letGo ?_)
      rw [hname]
      exact wpAny_pure ⟨plainId_quiet PySem.F.plain_min_loop _, ih (j + 1) _ H3 vb kb ub uk c hd' (List.getElem?_eq_some_iff.mp hx).1 I5 fS3 fI3 pS.1 ⟨oI, pI.1, hoc, hod⟩ rb rkb h⟩
theorem args_min_kd (a v d : Value) : argsOk "min" ⟨[a], [(Str.ofString "key", v), (Str.ofString "default", d)]⟩ := by unfold argsOk; kernel_rfl
theorem min_callF {X : Cx} {l : Addr} {q : Addr} {all : List V} {pins : List (Addr × Obj)} {σ : St} {H : Hp} {s : Shared} {rk : V → Hp → VK → Prop} {rc : R2} {dv : V} {du : Value} {Q : VK} (hc : X.calm = true) (hK : KeyR X.inb (.ref q) rk) (hC : OpR X.inb (compareOp .Lt) rc)
    (I0 : Inv X pins σ H s) (rd : RelV dv du) (h : tMM0 X.K l all rk rc dv H Q) : wpAny (model X.prog X.w) X.A (call (.builtin "min") [.ref l] [(Str.ofString "key", .ref q), (Str.ofString "default", du)]) (EP X pins σ Q) X.xe s := by
  have hname : (toString "min" ++ toString ".loop" : String) = "min.loop" := by decide
  obtain ⟨hq, h⟩ := h
  obtain ⟨its, rv, pl, hz⟩ := I0.list hq
  have hll : l < s.heap.objs.size := by obtain ⟨o, n, ho, _⟩ := pl; exact Heap.lt_size ho
  have hh : X.A.in1.handled = none := I0.inb.ok.hd hc
  refine kmk_tree PySem.F.kind_min PySem.F.plain_min PySem.F.entry_min (args_min_kd _ _ _) ?_
  show wpAny _ X.A.in1 (Builtin.Builtins.bindParams "min" ["key", "default"] 0 ⟨[], [(Str.ofString "key", .ref q), (Str.ofString "default", du)]⟩ >>= _) _ _ s
  refine wpAny_bind (wpAny_of_eq (show Builtin.Builtins.bindParams "min" ["key", "default"] 0 ⟨[], [(Str.ofString "key", .ref q), (Str.ofString "default", du)]⟩ = pure [some (.ref q), some du] from rfl) ?_)
  refine wpAny_bind (wpAny_pure ?_)
  refine wpAny_bind (wpAny_pyIter_list pl.isList ?_)
  refine wpAny_bind (wpAny_newList ?_ (Nat.zero_le _))
  rw [hname]
  generalize hI : s.heap.objs.size = I at *
  have hS : (s.heap.push { cls := .type "list_iterator", data := .fields #[.ref l, .int 0 0] }).objs.size = I + 1 := by rw [← hI]; exact Heap.size_push ..
  generalize hSe : (s.heap.push { cls := .type "list_iterator", data := .fields #[.ref l, .int 0 0] }).objs.size = S at *
  have hlI : l ≠ I := Nat.ne_of_lt hll
  have hSI : S ≠ I := by rw [hS]; exact Nat.succ_ne_self _
  have hSl : S ≠ l := by rw [hS]; exact Nat.ne_of_gt (Nat.lt_succ_of_lt hll)
  have kk : ∀ b o, s.heap.get? b = some o → ((s.heap.push { cls := .type "list_iterator", data := .fields #[.ref l, .int 0 0] }).push { cls := .type "list", dict := none, data := .seq #[] 0, slots := #[] }).get? b = some o := fun b o e => Heap.get?_push_of_some _ (Heap.get?_push_of_some _ e)
  have gI : ((s.heap.push { cls := .type "list_iterator", data := .fields #[.ref l, .int 0 0] }).push { cls := .type "list", dict := none, data := .seq #[] 0, slots := #[] }).get? I = some { cls := .type "list_iterator", data := .fields #[.ref l, .int 0 0] } := Heap.get?_push_of_some _ (hI ▸ Heap.get?_push_size _ rfl)
  have gS : ((s.heap.push { cls := .type "list_iterator", data := .fields #[.ref l, .int 0 0] }).push { cls := .type "list", dict := none, data := .seq #[] 0, slots := #[] }).get? S = some { cls := .type "list", dict := none, data := .seq #[] 0, slots := #[] } := hSe ▸ Heap.get?_push_size _ rfl
  have nI : H I = none := I0.hok.fresh (Nat.le_of_eq hI)
  have nS : H S = none := I0.hok.fresh (by rw [hS]; exact Nat.le_trans (Nat.le_of_eq hI) (Nat.le_succ _))
  have fI : FpOk X pins H I := I0.fpOk (Nat.le_of_eq hI) nI
  have fS : FpOk X pins H S := I0.fpOk (by rw [hS]; exact Nat.le_trans (Nat.le_of_eq hI) (Nat.le_succ _)) nS
  have I1 := I0.inb.kept (t' := s.toks) kk
  refine wpAny_pure ⟨plainId_quiet PySem.F.plain_min_loop _, ?_⟩
  show codeAny (model X.prog X.w) X.A (.builtin "min.loop" ⟨[.ref I, .ref q, .ref S], [(Str.ofString "default", du)]⟩) (mmPost X pins σ Q) _
  have W := Walks.list (prog := X.prog) (w := X.w) (A := X.A.in1) hh I l hlI its.toArray
  have hsz : its.toArray.size = all.length := by rw [List.size_toArray]; exact rv.length.symm
  have hit : Heap.IsListIter ((s.heap.push { cls := .type "list_iterator", data := .fields #[.ref l, .int 0 0] }).push { cls := .type "list", dict := none, data := .seq #[] 0, slots := #[] }) I l 0 := ⟨_, gI, rfl, rfl⟩
  have isl : Heap.IsList ((s.heap.push { cls := .type "list_iterator", data := .fields #[.ref l, .int 0 0] }).push { cls := .type "list", dict := none, data := .seq #[] 0, slots := #[] }) l its.toArray := pl.isList.at fun o e => kk l o e
  refine codeAny_builtin PySem.F.entry_min_loop ?_
  rw [Around.under_plainId PySem.F.plain_min_loop _]
  show wpAny _ X.A.in1 (seqItems? (.ref S) >>= _) _ _ _
  refine wpAny_bind (wpAny_seqItems gS rfl ?_)
  show wpAny _ X.A.in1 (tryCatch (pyNext (.ref I)) _ >>= _) _ _ _
  cases all with
  | nil =>
    refine wpAny_bind (wpAny_tryCatch (W.done _ _ _ ⟨by rw [hsz]; exact hit, isl⟩ fun h' tk' hk' => ?_))
    have I2 := I1.turned (h' := h') (t' := tk') (it := I) (fun b o hb e => hk' b o (by simpa using hb) e) fI.1 fI.2.1 fI.2.2.2.1 fI.2.2.2.2.1 fI.2.2.2.2.2
    refine wpAny_bind (wpAny_rule (wpAny_pure ?_))
    exact ⟨dv, H, I2.outb, rd, h⟩
  | cons x rest =>
    refine wpAny_bind (wpAny_tryCatch (W.item 0 _ _ _ (by rw [hsz]; simp) ⟨hit, isl⟩ fun v h' tk' hP hst' hk' => ?_))
    obtain ⟨v', hv', rx⟩ := rv.get (i := 0) (x := x) rfl
    have ev : v' = v := by
      have : its.toArray[0]? = some v := hP
      rw [List.getElem?_toArray, hv'] at this
      exact Option.some.inj this
    subst ev
    have gS' := hk' S _ (by simpa using hSI) gS
    have I2 := I1.turned (h' := h') (t' := tk') (it := I) (fun b o hb e => hk' b o (by simpa using hb) e) fI.1 fI.2.1 fI.2.2.2.1 fI.2.2.2.2.1 fI.2.2.2.2.2
    obtain ⟨oI, hoI, hoc, hod⟩ := id hst'.1
    have cS : ∀ v, ({ cls := .type "list", dict := none, data := .seq #[] 0, slots := #[] } : Obj).data ≠ .cell v := fun v z => by cases z
    have cI : ∀ v, oI.data ≠ .cell v := fun v z => by rw [hod] at z; cases z
    have I3 := I2.pins_of (pins' := pins ++ [(S, { cls := .type "list", dict := none, data := .seq #[] 0, slots := #[] }), (I, oI)]) fun p hp => by
      rcases List.mem_append.mp hp with z | z
      · exact I2.pin p (List.mem_append_right _ z)
      · rcases List.mem_cons.mp z with rfl | z
        · exact ⟨gS', fS.1, fS.2.1, fS.2.2.1, cS⟩
        · rw [List.mem_singleton.mp z]
          exact ⟨hoI, fI.1, fI.2.1, fI.2.2.1, cI⟩
    show wpAny _ X.A.in1 (tryCatch (holding [v'] (call (.ref q) [v'])) _ >>= _) _ _ _
    refine wpAny_bind (wpAny_tryCatch (wpAny_holding (wpAny_mono (hK _ _ σ H x v' _ I3 rx h) (fun uv s2 hk2 => ?_) fun _ _ z => z.elim)))
    obtain ⟨k, H2, I4, rk2, h⟩ := hk2
    have pS := I4.pin (S, { cls := .type "list", dict := none, data := .seq #[] 0, slots := #[] }) (List.mem_append_right _ (List.mem_append_right _ (by simp)))
    have pI := I4.pin (I, oI) (List.mem_append_right _ (List.mem_append_right _ (by simp)))
    have I5 : Inv X.inb pins σ H2 s2 := I4.unpinned
    have fS3 : FpOk X pins H2 S := ⟨pS.2.1, fS.2⟩
    have fI3 : FpOk X pins H2 I := ⟨pI.2.1, fI.2⟩
    show wpAny _ X.A.in1 (updateSeq S (fun _ => #[v', uv]) >>= _) _ _ _
    refine wpAny_bind ?_
    refine wpAny_updateSeq pS.1 rfl ?_
    rw [hname]
    obtain ⟨c2, hc2⟩ : ∃ c2, (s2.heap.update S (Obj.mapSeq fun _ => #[v', uv])).get? S = some { cls := .type "list", dict := none, data := .seq #[v', uv] c2, slots := #[] } := ⟨_, Heap.get?_update_self _ pS.1 rfl⟩
    have I6 : Inv X.inb pins σ H2 { s2 with heap := s2.heap.update S (Obj.mapSeq fun _ => #[v', uv]), toks := s2.toks } := I5.turned (t' := s2.toks) (it := S) (fun b o hb e => (Heap.get?_update_other _ _ (Ne.symm hb)).trans e) fS3.1 fS3.2.1 fS3.2.2.2.1 fS3.2.2.2.2.1 fS3.2.2.2.2.2
    exact wpAny_pure ⟨plainId_quiet PySem.F.plain_min_loop _, min_loopF hc hlI hSI hSl hK hC rest 1 _ H2 x k v' uv c2 rfl (by simp) I6 fS3 fI3 hc2 ⟨oI, (Heap.get?_update_other _ _ hSI).trans pI.1, hoc, hod⟩ rx rk2 h⟩
end L2

set_option Elab.async false
set_option linter.all false
set_option maxRecDepth 100000
set_option maxHeartbeats 4000000
namespace HT
open PySem PyProof.Rows
def RcLt (A : Around) (s : Shared) (y x : Value) (b : Bool) : Prop := ∀ (prog : Program) (w : World) (E : Value → Shared → Prop) (Q : Value → Shared → Prop), Q (.bool b) s → wpAny (model prog w) A (richCompare .Lt y x) Q E s
inductive LexAns (A : Around) (s : Shared) : List Value → List Value → Bool → Prop where
  | nn : LexAns A s [] [] false
  | nc (y : Value) (ys : List Value) : LexAns A s [] (y :: ys) true
  | cn (x : Value) (xs : List Value) : LexAns A s (x :: xs) [] false
  | eq {x y : Value} {xs ys : List Value} {b : Bool} : SeqAt.EqAt A s x y true → LexAns A s xs ys b → LexAns A s (x :: xs) (y :: ys) b
  | lt {x y : Value} {xs ys : List Value} {b : Bool} : SeqAt.EqAt A s x y false → RcLt A s x y b → LexAns A s (x :: xs) (y :: ys) b
section
open PySem.SeqAt
open PySem.AutoSeq1 (wpAny_loadPart')
open PySem.MeetsSeq PySem.MeetsSeq2 PySem.MeetsSeq3
theorem tuple_lt_G (l b : Addr) (items items2 : Array Value) (n n2 : Nat) (dd dd2 : Option Addr) (sl sl2 : Array (Option Value)) (ans : Bool) :
    Meets (Builtin.«tuple.__lt__» ⟨[.ref l, .ref b], []⟩)
      (fun A R s => s.heap.get? l = some { cls := .type "tuple", dict := dd, data := .seq items n, slots := sl } ∧ s.heap.get? b = some { cls := .type "tuple", dict := dd2, data := .seq items2 n2, slots := sl2 } ∧
        LexAns A.in1 s items.toList items2.toList ans ∧ R (.ok (.ret (.bool ans))) s) :=
  .of_wp fun prog w A R s h => by
    obtain ⟨hp, g, d, tk, os⟩ := s; obtain ⟨hl, hb, hA, h⟩ := h
    have f2 := AutoSeq1.sub_tuple_tuple
    wp_walk using wpAny_loadPart' hl, wpAny_loadPart' hb, wpAny_forIn_list _ (fun rest b s' => b.1 = none ∧ s' = ⟨hp, g, d, tk, os⟩ ∧ ∃ (vs ws : List Value), rest = vs.zip ws ∧
      LexAns A.in1 ⟨hp, g, d, tk, os⟩ vs ws ans ∧ vs.length + items2.size = ws.length + items.size) _
    case turn =>
      rintro ⟨y, x⟩ rest b s' ⟨hb', rfl, vs, ws, hz, ha, hlen⟩
      cases ha with
      | nn => cases hz
      | nc _ _ => cases hz
      | cn _ _ => cases hz
      | eq he hr =>
        rw [List.zip_cons_cons] at hz
        injection hz with hyx hrest
        injection hyx with hy hx
        subst hy hx
        simp only [List.length_cons] at hlen
        refine wpAny_bind (he prog w _ _ ?_)
        wp_walk
        exact ⟨rfl, rfl, _, _, hrest, hr, by omega⟩
      | lt he hr =>
        rw [List.zip_cons_cons] at hz
        injection hz with hyx hrest
        injection hyx with hy hx
        subst hy hx
        refine wpAny_bind (he prog w _ _ ?_)
        have hri := hr prog w
        wp_walk using hri
        exact ⟨_, rfl, by simpa using h⟩
    case fin =>
      rintro ⟨b1, b2⟩ s' ⟨hb', rfl, vs, ws, hz, ha, hlen⟩
      simp only at hb'
      subst hb'
      have hv : ans = decide (items.size < items2.size) := by
        cases ha with
        | nn => simp only [List.length_nil] at hlen; exact (decide_eq_false (by omega)).symm
        | nc _ _ => simp only [List.length_nil, List.length_cons] at hlen; exact (decide_eq_true (by omega)).symm
        | cn _ _ => simp only [List.length_nil, List.length_cons] at hlen; exact (decide_eq_false (by omega)).symm
        | eq _ _ => rw [List.zip_cons_cons] at hz; cases hz
        | lt _ _ => rw [List.zip_cons_cons] at hz; cases hz
      rw [hv] at h
      wp_walk
      exact ⟨_, rfl, by simpa [Builtin.Tuple.tupleCompareSizes] using h⟩
    case h =>
      exact ⟨rfl, rfl, items.toList, items2.toList, rfl, hA, by simp only [Array.length_toList]; omega⟩
end
end HT
namespace HT
open PySem PyProof.Rows PySem.SeqAt PySem.MeetsSeq
section
variable {prog : Program} {w : World} {A : Around} {E : Value → Shared → Prop} {s : Shared}
theorem lt_tupG {l b : Addr} {items items2 : Array Value} {ans : Bool} {Q : Value → Shared → Prop} (hl : IsTup s.heap l items) (hb : IsTup s.heap b items2) (hA : ∀ A' : Around, A'.units ≤ A.units + 4 → LexAns A' s items.toList items2.toList ans)
    (hu : A.units < cLine) (h : Q (.bool ans) s) : wpAny (model prog w) A (richCompare .Lt (.ref l) (.ref b)) Q E s := by
  obtain ⟨⟨cls, dd, data, sl⟩, ho, hc, n, hd⟩ := id hl
  obtain ⟨⟨cls2, dd2, data2, sl2⟩, ho2, hc2, n2, hd2⟩ := id hb
  simp only at hc hd hc2 hd2
  subst hc hd hc2 hd2
  refine richCompare_meets_room (op := .Lt) ⟨_, ho, rfl⟩ ⟨_, ho2, rfl⟩ PySem.F.slot_tuple_lt PySem.F.entry_tuple_lt (PySem.F.args_tuple_lt_2 _ _) (tuple_lt_G l b items items2 n n2 dd dd2 sl sl2 ans)
    ⟨ho, ho2, hA _ ?_, show Value.bool ans ≠ Value.notImplemented ∧ Q (.bool ans) s from ⟨(fun x => nomatch x), h⟩⟩ hu
  show A.units + 1 ≤ A.units + 4
  omega
end
end HT
namespace DI
open PySem L2 HT
mutual
def ltD : D → D → Option Bool
  | .int i, .int j => some (decide (i < j))
  | .str x, .str y => some (decide (x.cps.toList < y.cps.toList))
  | .tup xs, .tup ys => ltDs xs ys
  | _, _ => none
def ltDs : List D → List D → Option Bool
  | [], [] => some false
  | [], _ :: _ => some true
  | _ :: _, [] => some false
  | x :: xs, y :: ys => if beq x y = true then ltDs xs ys else ltD x y
end
section
variable {X : Cx} {Ξ : Wd → Exn → Prop} {pins : List (Addr × Obj)} {σ : St} {s : Shared} {w : Wd}
theorem eq_at (I : Inv X pins σ w.H s) (A : Around) {x y : D} {v u : V} {vx vy : Value} (lx : lay x = true) (ly : lay y = true) (hu : A.units + dep x < cLine) (hx : DV X.K w x v) (hy : DV X.K w y u) (rx : RelV v vx) (ry : RelV u vy) : SeqAt.EqAt A s vx vy (beq x y) := by
  obtain ⟨as, r1⟩ := (hx.py (lay_plain _ lx)).reads I rx
  obtain ⟨bs, r2⟩ := (hy.py (lay_plain _ ly)).reads I ry
  obtain ⟨p1, p2⟩ := lay_py _ lx
  obtain ⟨q1, q2⟩ := lay_py _ ly
  have := SeqAt.eqAt_reads _ _ A s vx vy as bs r1 r2 p1 q1 (by rw [p2]; omega)
  rw [beq_py _ _ lx ly] at this
  exact this
mutual
theorem lt_at (I : Inv X pins σ w.H s) : ∀ (A : Around) (x y : D) (b : Bool) (v u : V) (vx vy : Value), ltD x y = some b → lay x = true → lay y = true → A.units + 5 * dep x + 5 < cLine → DV X.K w x v → DV X.K w y u → RelV v vx → RelV u vy → RcLt A s vx vy b
  | A, .int i, .int j, b, v, u, vx, vy, h, _, _, _, hx, hy, rx, ry => by
    cases h; cases hx; cases hy
    obtain ⟨t, rfl⟩ := rx
    obtain ⟨t', rfl⟩ := ry
    intro prog w E Q q
    exact rcLt_int A s i t j t' prog w E Q q
  | A, .str i, .str j, b, v, u, vx, vy, h, _, _, hu, hx, hy, rx, ry => by
    cases h; cases hx; cases hy
    obtain ⟨t, rfl⟩ := rx
    obtain ⟨t', rfl⟩ := ry
    intro prog w E Q q
    exact (PyProof.Rows.lt_str q : wpAny (model prog w) A (compareOp .Lt (.str i t) (.str j t')) Q E s)
  | A, .tup xs, .tup ys, b, v, u, vx, vy, h, lx, ly, hu, hx, hy, rx, ry => by
    simp only [ltD] at h
    simp only [DV] at hx hy
    obtain ⟨a, as, rfl, ha, dva⟩ := hx
    obtain ⟨c, cs, rfl, hc, dvc⟩ := hy
    cases rx; cases ry
    obtain ⟨its, r1, p1, _⟩ := I.tuple ha
    obtain ⟨its2, r2, p2, _⟩ := I.tuple hc
    intro prog w' E Q q
    simp only [dep] at hu
    exact lt_tupG p1 p2 (fun A' hA' => by
      have := lt_ats I A' xs ys b as cs its its2 h (by simpa [lay] using lx) (by simpa [lay] using ly) (by omega) dva dvc r1 r2
      simpa using this) (by omega) q
  | _, .non, _, _, _, _, _, _, h, _, _, _, _, _, _, _ => by cases h
  | _, .bl _, _, _, _, _, _, _, h, _, _, _, _, _, _, _ => by cases h
  | _, .lst _, _, _, _, _, _, _, h, _, _, _, _, _, _, _ => by cases h
  | _, .dct _, _, _, _, _, _, _, h, _, _, _, _, _, _, _ => by cases h
  | _, .han _, _, _, _, _, _, _, h, _, _, _, _, _, _, _ => by cases h
  | _, .ty _, _, _, _, _, _, _, h, _, _, _, _, _, _, _ => by cases h
  | _, .scr _, _, _, _, _, _, _, h, _, _, _, _, _, _, _ => by cases h
  | _, .int _, .non, _, _, _, _, _, h, _, _, _, _, _, _, _ => by cases h
  | _, .int _, .bl _, _, _, _, _, _, h, _, _, _, _, _, _, _ => by cases h
  | _, .int _, .str _, _, _, _, _, _, h, _, _, _, _, _, _, _ => by cases h
  | _, .int _, .tup _, _, _, _, _, _, h, _, _, _, _, _, _, _ => by cases h
  | _, .int _, .lst _, _, _, _, _, _, h, _, _, _, _, _, _, _ => by cases h
  | _, .int _, .dct _, _, _, _, _, _, h, _, _, _, _, _, _, _ => by cases h
  | _, .int _, .han _, _, _, _, _, _, h, _, _, _, _, _, _, _ => by cases h
  | _, .int _, .ty _, _, _, _, _, _, h, _, _, _, _, _, _, _ => by cases h
  | _, .int _, .scr _, _, _, _, _, _, h, _, _, _, _, _, _, _ => by cases h
  | _, .str _, .non, _, _, _, _, _, h, _, _, _, _, _, _, _ => by cases h
  | _, .str _, .bl _, _, _, _, _, _, h, _, _, _, _, _, _, _ => by cases h
  | _, .str _, .int _, _, _, _, _, _, h, _, _, _, _, _, _, _ => by cases h
  | _, .str _, .tup _, _, _, _, _, _, h, _, _, _, _, _, _, _ => by cases h
  | _, .str _, .lst _, _, _, _, _, _, h, _, _, _, _, _, _, _ => by cases h
  | _, .str _, .dct _, _, _, _, _, _, h, _, _, _, _, _, _, _ => by cases h
  | _, .str _, .han _, _, _, _, _, _, h, _, _, _, _, _, _, _ => by cases h
  | _, .str _, .ty _, _, _, _, _, _, h, _, _, _, _, _, _, _ => by cases h
  | _, .str _, .scr _, _, _, _, _, _, h, _, _, _, _, _, _, _ => by cases h
  | _, .tup _, .non, _, _, _, _, _, h, _, _, _, _, _, _, _ => by cases h
  | _, .tup _, .bl _, _, _, _, _, _, h, _, _, _, _, _, _, _ => by cases h
  | _, .tup _, .int _, _, _, _, _, _, h, _, _, _, _, _, _, _ => by cases h
  | _, .tup _, .str _, _, _, _, _, _, h, _, _, _, _, _, _, _ => by cases h
  | _, .tup _, .lst _, _, _, _, _, _, h, _, _, _, _, _, _, _ => by cases h
  | _, .tup _, .dct _, _, _, _, _, _, h, _, _, _, _, _, _, _ => by cases h
  | _, .tup _, .han _, _, _, _, _, _, h, _, _, _, _, _, _, _ => by cases h
  | _, .tup _, .ty _, _, _, _, _, _, h, _, _, _, _, _, _, _ => by cases h
  | _, .tup _, .scr _, _, _, _, _, _, h, _, _, _, _, _, _, _ => by cases h
theorem lt_ats (I : Inv X pins σ w.H s) : ∀ (A : Around) (xs ys : List D) (b : Bool) (vs us : List V) (ps qs : List Value), ltDs xs ys = some b → lays xs = true → lays ys = true → A.units + 5 * deps xs + 5 < cLine → DVs X.K w xs vs → DVs X.K w ys us → Vals vs ps → Vals us qs → LexAns A s ps qs b
  | A, [], [], b, vs, us, ps, qs, h, _, _, _, hx, hy, rx, ry => by
    cases h; cases hx; cases hy; cases rx; cases ry
    exact .nn
  | A, [], y :: ys, b, vs, us, ps, qs, h, _, _, _, hx, hy, rx, ry => by
    cases h; cases hx; cases rx
    obtain ⟨u, r, rfl, _, _⟩ := hy
    cases ry
    exact .nc _ _
  | A, x :: xs, [], b, vs, us, ps, qs, h, _, _, _, hx, hy, rx, ry => by
    cases h; cases hy; cases ry
    obtain ⟨u, r, rfl, _, _⟩ := hx
    cases rx
    exact .cn _ _
  | A, x :: xs, y :: ys, b, vs, us, ps, qs, h, lx, ly, hu, hx, hy, rx, ry => by
    obtain ⟨v, r, rfl, dx, dr⟩ := hx
    obtain ⟨u, r', rfl, dy, dr'⟩ := hy
    simp only [lays, Bool.and_eq_true] at lx ly
    simp only [deps] at hu
    have m1 := Nat.le_max_left (dep x) (deps xs)
    have m2 := Nat.le_max_right (dep x) (deps xs)
    cases rx with
    | cons rx rxs =>
      cases ry with
      | cons ry rys =>
        have he := eq_at I A lx.1 ly.1 (by omega) dx dy rx ry
        simp only [ltDs] at h
        split at h
        · rename_i hb
          rw [hb] at he
          exact .eq he (lt_ats I A xs ys b _ _ _ _ h lx.2 ly.2 (by omega) dr dr' rxs rys)
        · rename_i hb
          rw [Bool.not_eq_true] at hb
          rw [hb] at he
          exact .lt he (lt_at I A x y b _ _ _ _ h lx.1 ly.1 (by omega) dx dy rx ry)
end
def opLt (x y : D) (s : Sto) : Res D := if (lay x && lay y && decide (dep x ≤ 30)) = true then pur ((ltD x y).map D.bl) s else none
theorem o_lt {k : Nat} (hr : Room k X.A) : OpR X (compareOp .Lt) (rO X.K Ξ opLt) := by
  rintro pins s σ H x y v u Q I rx ry ⟨w, dx, dy, rfl, S, hx, hy, h⟩
  unfold opLt at h
  split at h
  · rename_i hl
    simp only [Bool.and_eq_true, decide_eq_true_eq] at hl
    obtain ⟨d, e, h⟩ := pur_out h
    cases hb : ltD dx dy with
    | none => rw [hb] at e; cases e
    | some b =>
      rw [hb] at e
      cases e
      exact lt_at I X.A dx dy b x y v u hb hl.1.1 hl.1.2 (by have := hr.un; have := hl.2; have : cLine = 9900 := rfl; omega) hx hy rx ry _ _ _ _ ⟨.bl b, w.H, I, rfl, out_of S h _ rfl⟩
  · exact h.elim
end
end DI

set_option Elab.async false
set_option linter.all false
set_option maxRecDepth 100000
set_option maxHeartbeats 4000000
namespace DI
open PySem L2
def mmGo (kf : D → Sto → Res D) (o : D → D → Sto → Res D) : D → D → List D → Sto → Res D
  | b, _, [], s => ok b s
  | b, k, d :: ds, s => bnd (ne (kf d s)) fun k' s => bnd (ne (o k' k s)) fun c s => match c with
    | .bl true => mmGo kf o d k' ds s
    | .bl false => mmGo kf o b k ds s
    | _ => none
def mmAll (kf : D → Sto → Res D) (o : D → D → Sto → Res D) (dflt : Option D) : List D → Sto → Res D
  | [], s => match dflt with
    | some d => ok d s
    | none => none
  | d :: ds, s => bnd (ne (kf d s)) fun k s => mmGo kf o d k ds s
def rK (K : PySem.W.Frag) (kf : D → Sto → Res D) : V → Hp → VK → Prop := fun x H Q => ∃ w dx, w.H = H ∧ StoOk K w ∧ DV K w dx x ∧ Out K NoX w (kf dx w.sto) fun w' d => ∀ v, DV K w' d v → Q v w'.H
theorem mm_imp {K : PySem.W.Frag} {Ξ : Wd → Exn → Prop} {kf : D → Sto → Res D} {o : D → D → Sto → Res D} {l : Addr} {all : List V} {Q : VK} : ∀ {ds : List D} {vs : List V} {w : Wd} {b k : D} {vb vk : V}, StoOk K w → LstAt w l all → DVs K w ds vs → DV K w b vb → DV K w k vk →
    Out K Ξ w (mmGo kf o b k ds w.sto) (fun w' d => ∀ v, DV K w' d v → Q v w'.H) → tMM K l all (rK K kf) (rO K NoX o) vs vb vk w.H Q
  | [], vs, w, b, k, vb, vk, S, hl, hd, hb, hk, h => by
    have e : vs = [] := hd
    subst e
    exact ⟨hl.sq, out_of S h _ hb⟩
  | d :: ds, vs, w, b, k, vb, vk, S, hl, hd, hb, hk, h => by
    obtain ⟨v, r, rfl, dv, dr⟩ := hd
    refine ⟨hl.sq, w, d, rfl, S, dv, (Out.bnd h).ne.mono fun w1 k' l1 S1 h1 vk' dk' => ⟨w1, k', k, rfl, S1, dk', l1 _ _ hk, (Out.bnd h1).ne.mono fun w2 c l2 S2 h2 vc dc => ?_⟩⟩
    have l12 := l1.trans l2
    cases c with
    | bl c =>
      have e : vc = .bl c := dc
      refine ⟨c, e, ?_⟩
      cases c with
      | true =>
        rw [if_pos rfl]
        exact mm_imp (Ξ := Ξ) S2 (l12.lst _ _ hl) (l12.all dr) (l12 _ _ dv) (l2 _ _ dk') h2
      | false =>
        rw [if_neg Bool.false_ne_true]
        exact mm_imp (Ξ := Ξ) S2 (l12.lst _ _ hl) (l12.all dr) (l12 _ _ hb) (l12 _ _ hk) h2
    | _ => exact h2.elim
theorem mm0_imp {K : PySem.W.Frag} {Ξ : Wd → Exn → Prop} {kf : D → Sto → Res D} {o : D → D → Sto → Res D} {w : Wd} {ds : List D} {v dv : V} {dflt : Option D} {Q : VK} (S : StoOk K w) (hl : DV K w (.lst ds) v) (hd : ∀ d, dflt = some d → ∀ w', DV K w' d dv)
    (h : Out K Ξ w (mmAll kf o dflt ds w.sto) (fun w' d => ∀ v, DV K w' d v → Q v w'.H)) : ∃ l all, v = .ref l ∧ (all = [] → dflt ≠ none) ∧ tMM0 K l all (rK K kf) (rO K NoX o) dv w.H Q := by
  simp only [DV] at hl
  obtain ⟨l, all, rfl, ha, dvs⟩ := hl
  refine ⟨l, all, rfl, fun e z => ?_, ha.sq, ?_⟩
  · subst e z
    have hn : ds.length = 0 := dvs.length
    cases ds with
    | nil => exact h
    | cons _ _ => cases hn
  · cases ds with
    | nil =>
      have e : all = [] := dvs
      subst e
      cases dflt with
      | none => exact h.elim
      | some d => exact out_of S h _ (hd d rfl w)
    | cons d ds =>
      obtain ⟨x, r, rfl, dx, dr⟩ := dvs
      exact ⟨w, d, rfl, S, dx, (Out.bnd h).ne.mono fun w1 k l1 S1 h1 vk dk => mm_imp (Ξ := Ξ) S1 (l1.lst _ _ ha) (l1.all dr) (l1 _ _ dx) dk h1⟩
theorem key_fn {X : Cx} {kn : Nat} {fA : Addr} {fd : FuncData} {p : Str} {fn : List D → Sto → Res D} (F : FnOk X.prog X.w X.K X.mg X.base CX0 kn fA fd [p] (spI X.K fn)) (hr : Room (kn + 1) X.A) (hb : Binds X.K fd [p] []) : KeyR X.inb (.ref fA) (rK X.K fun d s => fn [d] s) := by
  rintro pins s σ H x v Q I rx ⟨w, dx, rfl, S, hx, h⟩
  exact run_fn (X := X.inb) (us := [v]) (vs := [x]) F hr.in1 hb .nil pass0 I (.cons rx .nil) ⟨w, [dx], rfl, S, DVs.one hx, h⟩
def bestBy (kf : D → Sto → Res D) (o : D → D → Sto → Res D) (dflt : Option D) (d : D) (s : Sto) : Res D := match d with
  | .lst ds => mmAll kf o dflt ds s
  | _ => none
abbrev minBy (fn : List D → Sto → Res D) : D → Sto → Res D := bestBy (fun d s => fn [d] s) opLt (some .non)
def opGtL (x y : D) (s : Sto) : Res D := opGt x y s
abbrev maxLen : D → Sto → Res D := bestBy (fun d s => bLen [d] s) opGt none
abbrev maxI : D → Sto → Res D := bestBy (fun d s => ok d s) opGt none
abbrev minI : D → Sto → Res D := bestBy (fun d s => ok d s) opLtI none
theorem best_of {K : PySem.W.Frag} {Ξ : Wd → Exn → Prop} {kf : D → Sto → Res D} {o : D → D → Sto → Res D} {w : Wd} {d : D} {v dv : V} {dflt : Option D} {Q : VK} (S : StoOk K w) (hl : DV K w d v) (hd : ∀ d, dflt = some d → ∀ w', DV K w' d dv)
    (h : Out K Ξ w (bestBy kf o dflt d w.sto) (fun w' d => ∀ v, DV K w' d v → Q v w'.H)) : ∃ l all, v = .ref l ∧ (all = [] → dflt ≠ none) ∧ tMM0 K l all (rK K kf) (rO K NoX o) dv w.H Q := by
  unfold bestBy at h
  split at h
  · exact mm0_imp S hl hd h
  · exact h.elim
section
variable {X : Cx} {Ξ : Wd → Exn → Prop} {e : Expr} {p pos kp1 kp2 kpos dpos : Pos} {f : Env → Sto → Res D}
theorem e_minKD {j : Nat} {kn : Nat} {fA : Addr} {fd : FuncData} {pn kx : Str} {fn : List D → Sto → Res D} (F : FnOk X.prog X.w X.K X.mg X.base CX0 kn fA fd [pn] (spI X.K fn)) (hr : Room (kn + 1) X.A) (hk : X.mg kx = some (.ref fA)) (hb : Binds X.K fd [pn] []) (he : PE X e (tE X.K Ξ f)) (hc : X.calm = true) (hg : Gl X "min") (hm : X.mg "min" = none) (hgk : Gl X kx)
    (hs : starEach [e] X.env = (false, eval e X.env) :: starEach [] X.env := by rfl) (hdk : (kx == ("__debug__" : Str)) = false := by decide)
    (heb : backTo pos (starEach [e] X.env) = (false, eval e X.env) :: backTo pos (starEach [] X.env) := by rfl) (hpl : (backTo pos (starEach [e] X.env)).any (·.1) = false := by rfl) :
    PE X (.Call (.Name "min" p) [e] [⟨some "key", .Name kx kpos, kp1⟩, ⟨some "default", .Constant .none j dpos, kp2⟩] pos) (tE X.K Ξ (e1 (minBy fn) f)) := by
  rintro pins s σ H Q I ⟨w, env, rfl, S, eo, h⟩
  refine wpAny_Call_Name_kw (ld_blt I hg hm b_min ?_)
  have ha := pa_cons he (pa_nil (X := X)) hs
  have hkw : PK X [⟨some "key", .Name kx kpos, kp1⟩, ⟨some "default", .Constant .none j dpos, kp2⟩] (tCons (tC (.ref fA)) (tCons (tC .non) tNil)) := pk_cons (pe_glob hgk hk rfl hdk) (pk_cons pe_non pk_nil)
  refine PyProof.Rows.callWith_kw (thn (ha pos pins s σ w.H (fun vs H1 => ∃ v, vs = [v] ∧ ∃ (w1 : Wd) (d : D), w1.H = H1 ∧ StoOk X.K w1 ∧ DV X.K w1 d v ∧ Out X.K Ξ w1 (minBy fn d w1.sto) (fun w' d => ∀ v, DV X.K w' d v → Q v w'.H)) I ⟨w, env, rfl, S, eo, (Out.bnd h).mono fun w1 d l1 S1 h1 v dv => ⟨v, rfl, w1, d, rfl, S1, dv, h1⟩⟩) fun us s1 ⟨vs, H1, I1, r1, q1⟩ => ?_) heb hpl
  refine thn (hkw pos pins s1 σ H1 (fun zs H2 => zs = [.ref fA, .non] ∧ H2 = H1) I1 ⟨rfl, rfl⟩) fun ws s2 ⟨zs, H2, I2, r2, q2⟩ => ?_
  obtain ⟨e1, e2⟩ := q2
  subst e1 e2
  obtain ⟨v, rfl, w1, d, rfl, S1, dv, h1⟩ := q1
  obtain ⟨l, all, rfl, _, hmm⟩ := best_of (dv := .non) S1 dv (fun d e w' => by cases e; rfl) h1
  obtain ⟨u, rfl, ru⟩ := vals1 r1
  obtain ⟨z1, z2, rfl, rz1, rz2⟩ := vals2 r2
  cases ru; cases rz1; cases rz2
  exact min_callF (dv := .non) hc (key_fn F hr hb) (o_lt (X := X.inb) (hr.in1)) I2 rfl hmm
def bMax (ds : List D) (s : Sto) : Res D := match ds with
  | [d] => maxI d s
  | _ => none
def bMin (ds : List D) (s : Sto) : Res D := match ds with
  | [d] => minI d s
  | _ => none
end
end DI

set_option Elab.async false
set_option linter.all false
set_option maxRecDepth 100000
set_option maxHeartbeats 4000000
namespace DI
open PySem L2
def f_Lcell_at : List D → Sto → Res D := fnRun 2 2 (sSeq (sIf (tBl (e2 opLt (eLoc 1) (eB bLen (aCons (eLoc 0) aNil)))) (sRet (e2 opIx (eLoc 0) (eLoc 1))) sNil) (sRet (eC (.int 0))))
def f_Lstate : List D → Sto → Res D := fnRun 2 3 (sSeq (sAsg (eCall f_Lcell_at (aCons (eLoc 0) (aCons (eLoc 1) aNil))) (gN 2)) (sRet (eNew (aCons (eB bMax2 (aCons (eC (.int 0)) (aCons (e2 opSub (eLoc 2) (e2 opPow (eC (.int 10)) (eC (.int 18)))) aNil))) (aCons (e2 opMod (eLoc 2) (eC (.int 2147483647))) aNil)))))
def f_Ltake : List D → Sto → Res D := fnRun 2 4 (sSeq (sIf (tBl (e2 opGt (e2 opIx (eLoc 0) (eC (.int 0))) (eC (.int 0)))) (sSeq (sAsg (e2 opMod (e2 opIx (eLoc 0) (eC (.int 0))) (eLoc 1)) (gN 2)) (sSeq (sSub (e2 opDiv (e2 opIx (eLoc 0) (eC (.int 0))) (eLoc 1)) (eLoc 0) (eC (.int 0))) (sRet (eLoc 2)))) sNil) (sSeq (sSub (e2 opMod (e2 opAdd (e2 opMul (e2 opIx (eLoc 0) (eC (.int 1))) (eC (.int 48271))) (eC (.int 29))) (eC (.int 2147483647))) (eLoc 0) (eC (.int 1))) (sSeq (sAsg (e2 opMod (e2 opAdd (e2 opAdd (e2 opMul (e2 opIx (eLoc 0) (eC (.int 1))) (e2 opIx (eLoc 0) (eC (.int 1)))) (e2 opMul (eC (.int 39373)) (e2 opIx (eLoc 0) (eC (.int 1))))) (eC (.int 7))) (eC (.int 2147483629))) (gN 3)) (sSeq (sAsg (e2 opMod (e2 opAdd (e2 opMul (eLoc 3) (eLoc 3)) (e2 opMul (eC (.int 16807)) (eLoc 3))) (eC (.int 2147483587))) (gN 3)) (sRet (e2 opMod (e2 opDiv (eLoc 3) (eC (.int 8))) (eLoc 1)))))))
def f_Lmarks : List D → Sto → Res D := fnRun 2 3 (sSeq (sAsg (e2 opAdd (eC (.int 1)) (eCall f_Ltake (aCons (eLoc 0) (aCons (eC (.int 4)) aNil)))) (gN 2)) (sRet (eB bTuple (aCons (eComp 1 [0, 2] (iR1 (aCons (eLoc 1) aNil)) (gN 0) (tBl (e2 opEq (eCall f_Ltake (aCons (eLoc 1) (aCons (e2 opAdd (eLoc 2) (eC (.int 1))) aNil))) (eC (.int 0)))) (eLoc 0)) aNil))))
def f_Lrun : List D → Sto → Res D := fnRun 1 7 (sSeq (sAsg (eTup (aCons (eCall f_Ltake (aCons (eLoc 0) (aCons (eC (.int 4)) aNil))) (aCons (eC (.int 0)) (aCons (eNew aNil) aNil)))) (gT [(gN 1), (gN 2), (gN 3)])) (sSeq (sAsg (eNew (aCons (eCall f_Lmarks (aCons (eLoc 0) (aCons (eC (.int 3)) aNil))) (aCons (eCall f_Lmarks (aCons (eLoc 0) (aCons (eC (.int 3)) aNil))) aNil))) (gN 4)) (sSeq (sFor (iR1 (aCons (e2 opAdd (eC (.int 1)) (eCall f_Ltake (aCons (eLoc 0) (aCons (eC (.int 10)) aNil)))) aNil)) (gN 5) (sSeq (sAsg (eComp 1 [0, 1] (iR1 (aCons (eC (.int 8)) aNil)) (gN 0) (tBl (e2 opEq (eCall f_Ltake (aCons (eLoc 1) (aCons (e2 opIx (eLst (aCons (eC (.int 9)) (aCons (eC (.int 4)) (aCons (eC (.int 30)) (aCons (eC (.int 9)) aNil))))) (eLoc 2)) aNil))) (eC (.int 0)))) (eLoc 0)) (gN 6)) (sSeq (sSub (eB bTuple (aCons (e1 sortSet (e2 opAdd (eB bList (aCons (e2 opIx (eLoc 4) (eLoc 2)) aNil)) (eLoc 6))) aNil)) (eLoc 4) (eLoc 2)) (sSeq (sExpr (eApp (eLoc 3) (eIf (tBl (e2 opEq (eLoc 1) (eC (.int 3)))) (eCall f_Lmarks (aCons (eLoc 0) (aCons (eC (.int 2)) aNil))) (e2 opIx (eLoc 4) (eLoc 2))))) (sAsg (eIf (tBl (e2 opGt (eCall f_Ltake (aCons (eLoc 0) (aCons (eC (.int 5)) aNil))) (eC (.int 0)))) (e2 opSub (eC (.int 1)) (eLoc 2)) (eLoc 2)) (gN 2)))))) (sRet (eB bTuple (aCons (eLoc 3) aNil))))))
def f_Llayings : List D → Sto → Res D := fnRun 1 7 (sSeq (sAsg (eLst (aCons (eTup (aCons (eC (.int 0)) aNil)) aNil)) (gN 1)) (sSeq (sFor (iR2 (aCons (eC (.int 1)) (aCons (eB bLen (aCons (eLoc 0) aNil)) aNil))) (gN 2) (sSeq (sAsg (eNew aNil) (gN 3)) (sSeq (sFor (iSeq (eLoc 1)) (gN 4) (sFor (iSeq (eTup (aCons (eC (.int 0)) (aCons (eC (.int 1)) aNil)))) (gN 5) (sSeq (sAsg (e2 opAdd (eLst (aCons (eTup aNil) aNil)) (eComp 1 [0, 5, 4] (iR1 (aCons (eLoc 2) aNil)) (gN 0) (tBl (e2 opEq (e2 opIx (eLoc 3) (eLoc 0)) (eLoc 2))) (e2 opIx (eLoc 1) (eLoc 0)))) (gN 6)) (sIf (tBl (e2 opEq (eComp 1 [0, 2] (iSeq (e2 opIx (eLoc 6) (e1 opNeg (eC (.int 1))))) (gN 0) (tBl (e2 opNotIn (eLoc 0) (e2 opIx (eLoc 1) (eLoc 2)))) (eLoc 0)) (eLst aNil))) (sExpr (eApp (eLoc 3) (e2 opAdd (eLoc 4) (eTup (aCons (eLoc 5) aNil))))) sNil)))) (sAsg (eFrz (eLoc 3)) (gN 1))))) (sRet (eLoc 1))))
def f_Lsame : Nat → List D → Sto → Res D
  | 0 => fun _ _ => none
  | n + 1 => fnRun 2 2 (sSeq (sIf (tTru (e1 isTL (eLoc 1))) (sSeq (sIf (tOr (tBl (e2 opNe (eB bIsi (aCons (eLoc 0) (aCons (eC (.ty "tuple")) aNil))) (eB bIsi (aCons (eLoc 1) (aCons (eC (.ty "tuple")) aNil))))) (tBl (e2 opNe (eB bIsi (aCons (eLoc 0) (aCons (eC (.ty "list")) aNil))) (eB bIsi (aCons (eLoc 1) (aCons (eC (.ty "list")) aNil)))))) (sRet (eC (.bl false))) sNil) (sRet (eAnd (e2 opEq (eB bLen (aCons (eLoc 0) aNil)) (eB bLen (aCons (eLoc 1) aNil))) (eB bAll (aCons (eComp 2 [] (iZip (aCons (eLoc 0) (aCons (eLoc 1) aNil))) (gT [gN 0, gN 1]) tTT (eCall (f_Lsame n) (aCons (eLoc 0) (aCons (eLoc 1) aNil)))) aNil))))) sNil) (sRet (eAnd (e2 opEq (eB bIsi (aCons (eLoc 0) (aCons (eC (.ty "bool")) aNil))) (eB bIsi (aCons (eLoc 1) (aCons (eC (.ty "bool")) aNil)))) (e2 opEq (eLoc 0) (eLoc 1)))))
def f_breaks_in : List D → Sto → Res D := fnRun 1 1 (sRet (eComp 1 [0] (iR2 (aCons (eC (.int 1)) (aCons (eB bLen (aCons (eLoc 0) aNil)) aNil))) (gN 0) (tBl (e2 opEq (e2 opIx (eLoc 1) (eLoc 0)) (e2 opIx (eLoc 1) (e2 opSub (eLoc 0) (eC (.int 1)))))) (eLoc 0)))
def f_by_breaks : List D → Sto → Res D := fnRun 1 1 (sRet (eTup (aCons (eB bLen (aCons (eCall f_breaks_in (aCons (eLoc 0) aNil)) aNil)) (aCons (eLoc 0) aNil))))
def f_is_rising : List D → Sto → Res D := fnRun 1 1 (sRet (eB bAll (aCons (eComp 2 [] (iZip (aCons (eLoc 0) (aCons (eSl (eLoc 0) (pInt (eC (.int 1))) pNo) aNil))) (gT [gN 0, gN 1]) tTT (e2 opLt (eLoc 0) (eLoc 1))) aNil)))
def f_is_number : List D → Sto → Res D := fnRun 1 1 (sRet (eAnd (eB bIsi (aCons (eLoc 0) (aCons (eC (.ty "int")) aNil))) (eAnd (eNot (eB bIsi (aCons (eLoc 0) (aCons (eC (.ty "bool")) aNil)))) (e2 opGe (eLoc 0) (eC (.int 0))))))
def f_is_below : List D → Sto → Res D := fnRun 2 2 (sRet (eAnd (eCall f_is_number (aCons (eLoc 0) aNil)) (e2 opLt (eLoc 0) (eLoc 1))))
def f_is_mark : List D → Sto → Res D := fnRun 1 1 (sRet (eCall f_is_below (aCons (eLoc 0) (aCons (eC (.int (8))) aNil))))
def f_are_marks : List D → Sto → Res D := fnRun 1 1 (sRet (eAnd (eB bIsi (aCons (eLoc 0) (aCons (eC (.ty "tuple")) aNil))) (eAnd (eB bAll (aCons (eComp 1 [] (iSeq (eLoc 0)) (gN 0) tTT (eCall f_is_mark (aCons (eLoc 0) aNil))) aNil)) (eCall f_is_rising (aCons (eLoc 0) aNil)))))
def f_are_laid_marks : List D → Sto → Res D := fnRun 2 2 (sRet (eAnd (eB bIsi (aCons (eLoc 0) (aCons (eC (.ty "tuple")) aNil))) (eAnd (eCh opLe opLe (eC (.int 1)) (eB bLen (aCons (eLoc 0) aNil)) (eLoc 1)) (eB bAll (aCons (eComp 1 [] (iSeq (eLoc 0)) (gN 0) tTT (eCall f_are_marks (aCons (eLoc 0) aNil))) aNil)))))
def f_need_run : List D → Sto → Res D := fnRun 1 1 (sIf (tNot (tTru (eCall f_are_laid_marks (aCons (eLoc 0) (aCons (eC (.int (10))) aNil))))) sNo sNil)
def f_has_all : List D → Sto → Res D := fnRun 2 2 (sRet (eB bAll (aCons (eComp 1 [0] (iSeq (eLoc 1)) (gN 0) tTT (e2 opIn (eLoc 0) (eLoc 1))) aNil)))
def f_may_lay : List D → Sto → Res D := fnRun 3 4 (sSeq (sAsg (e2 opIx (eLoc 0) (eB bLen (aCons (eLoc 1) aNil))) (gN 3)) (sRet (eB bAll (aCons (eComp 1 [3, 0, 2, 1] (iR1 (aCons (eB bLen (aCons (eLoc 1) aNil)) aNil)) (gN 0) (tBl (e2 opEq (e2 opIx (eLoc 4) (eLoc 0)) (eLoc 3))) (eCall f_has_all (aCons (eLoc 1) (aCons (e2 opIx (eLoc 2) (eLoc 0)) aNil)))) aNil))))
def f_layings : List D → Sto → Res D := fnRun 1 3 (sSeq (sAsg (eLst (aCons (eTup (aCons (eC (.int 0)) aNil)) aNil)) (gN 1)) (sSeq (sFor (iR2 (aCons (eC (.int 1)) (aCons (eB bLen (aCons (eLoc 0) aNil)) aNil))) (gN 2) (sAsg (eComp2 2 [0] (iSeq (eLoc 1)) (gN 0) tTT (iR1 (aCons (eC (.int (2))) aNil)) (gN 1) (tTru (eCall f_may_lay (aCons (eLoc 2) (aCons (eLoc 0) (aCons (eLoc 1) aNil))))) (e2 opAdd (eLoc 0) (eTup (aCons (eLoc 1) aNil)))) (gN 1))) (sRet (eLoc 1))))
def f_best_laying : List D → Sto → Res D := fnRun 1 1 (sSeq (sExpr (eCall f_need_run (aCons (eLoc 0) aNil))) (sRet (e1 (minBy f_by_breaks) (eCall f_layings (aCons (eLoc 0) aNil)))))
end DI

set_option Elab.async false
set_option linter.all false
set_option maxRecDepth 100000
set_option maxHeartbeats 4000000
namespace DI
open PySem L2
def f_law : List D → Sto → Res D := fnRun 1 9 (sSeq (sFor (iR1 (aCons (eB bMax2 (aCons (eC (.int 1)) (aCons (eB bMin2 (aCons (eB bLen (aCons (eLoc 0) aNil)) (aCons (eC (.int 4)) aNil))) aNil))) aNil)) (gN 1) (sSeq (sAsg (eCall f_Lstate (aCons (eLoc 0) (aCons (eLoc 1) aNil))) (gN 2)) (sFor (iSeq (eLst (aCons (eCall f_Lrun (aCons (eLoc 2) aNil)) (aCons (eCall f_Lrun (aCons (eLoc 2) aNil)) (aCons (eTup (aCons (eCall f_Lmarks (aCons (eLoc 2) (aCons (eC (.int 8)) aNil))) aNil)) aNil))))) (gN 3) (sSeq (par2 4 5 (aCons (eC .non) (aCons (eB bRepr (aCons (eLoc 3) aNil)) aNil))) (sSeq (sFor (iSeq (eCall f_Llayings (aCons (eLoc 3) aNil))) (gN 6) (sSeq (sAsg (eComp 1 [6] (iR2 (aCons (eC (.int 1)) (aCons (eB bLen (aCons (eLoc 3) aNil)) aNil))) (gN 0) (tBl (e2 opEq (e2 opIx (eLoc 1) (eLoc 0)) (e2 opIx (eLoc 1) (e2 opSub (eLoc 0) (eC (.int 1)))))) (eLoc 0)) (gN 7)) (sSeq (sAsg (eTup (aCons (eB bLen (aCons (eLoc 7) aNil)) (aCons (eLoc 6) aNil))) (gN 8)) (sAsg (eIf (tOr (tBl (e2 opIsN (eLoc 4) (eC .non))) (tBl (e2 opLt (eLoc 8) (eLoc 4)))) (eLoc 8) (eLoc 4)) (gN 4))))) (sSeq (sAsg (eIf (tBl (e2 opIsN (eLoc 4) (eC .non))) (eC .non) (e2 opIx (eLoc 4) (eC (.int 1)))) (gN 4)) (sIf (tOr (tNot (tTru (eCall (f_Lsame 8) (aCons (eCall f_best_laying (aCons (eLoc 3) aNil)) (aCons (eLoc 4) aNil))))) (tOr (tNot (tTru (eCall (f_Lsame 8) (aCons (eCall f_best_laying (aCons (eLoc 3) aNil)) (aCons (eLoc 4) aNil))))) (tBl (e2 opNe (eB bRepr (aCons (eLoc 3) aNil)) (eLoc 5))))) (sRet (eC (.bl false))) sNil))))))) (sRet (eC (.bl true))))
end DI

set_option Elab.async false
set_option linter.all false
set_option maxRecDepth 100000
set_option maxHeartbeats 4000000
namespace DI.k11
open PySem L2 DI
def top (i : Nat) : Stmt := PySem.Challenge.pw_twinmoulds_k11_fewest_breaks.main.body.getD i (.Pass ⟨0, 0, 0, 0⟩)
structure Fns (K : PySem.W.Frag) (mg : Str → Option Value) : Prop where
  bl_all : mg "all" = none
  bl_bool : mg "bool" = none
  bl_int : mg "int" = none
  bl_isinstance : mg "isinstance" = none
  bl_len : mg "len" = none
  bl_list : mg "list" = none
  bl_max : mg "max" = none
  bl_min : mg "min" = none
  bl_range : mg "range" = none
  bl_repr : mg "repr" = none
  bl_set : mg "set" = none
  bl_sorted : mg "sorted" = none
  bl_tuple : mg "tuple" = none
  bl_zip : mg "zip" = none
  gi_MARKS : ∃ t, mg "MARKS" = some (.int (8) t)
  gi_RUN : ∃ t, mg "RUN" = some (.int (10) t)
  gi_TWINS : ∃ t, mg "TWINS" = some (.int (2) t)
  fn_Lcell_at : ∃ f fd, Gd K mg "_law_cell_at" (top 23) ["_law_script", "_law_k"] f fd
  fn_Lstate : ∃ f fd, Gd K mg "_law_state" (top 24) ["_law_script", "_law_k"] f fd
  fn_Ltake : ∃ f fd, Gd K mg "_law_take" (top 25) ["_law_state_here", "_law_many"] f fd
  fn_Lmarks : ∃ f fd, Gd K mg "_law_marks" (top 27) ["_law_state_here", "_law_most"] f fd
  fn_Lrun : ∃ f fd, Gd K mg "_law_run" (top 29) ["_law_state_here"] f fd
  fn_Llayings : ∃ f fd, Gd K mg "_law_layings" (top 30) ["_law_run_here"] f fd
  fn_Lsame : ∃ f fd, Gd K mg "_law_same" (top 26) ["_law_found", "_law_due"] f fd
  fn_breaks_in : ∃ f fd, Gd K mg "breaks_in" (top 20) ["laying"] f fd
  fn_by_breaks : ∃ f fd, Gd K mg "by_breaks" (top 21) ["laying"] f fd
  fn_is_rising : ∃ f fd, Gd K mg "is_rising" (top 8) ["things"] f fd
  fn_is_number : ∃ f fd, Gd K mg "is_number" (top 5) ["thing"] f fd
  fn_is_below : ∃ f fd, Gd K mg "is_below" (top 6) ["thing", "many"] f fd
  fn_is_mark : ∃ f fd, Gd K mg "is_mark" (top 7) ["thing"] f fd
  fn_are_marks : ∃ f fd, Gd K mg "are_marks" (top 10) ["thing"] f fd
  fn_are_laid_marks : ∃ f fd, Gd K mg "are_laid_marks" (top 12) ["thing", "most"] f fd
  fn_need_run : ∃ f fd, Gd K mg "need_run" (top 17) ["thing"] f fd
  fn_has_all : ∃ f fd, Gd K mg "has_all" (top 11) ["marks", "others"] f fd
  fn_may_lay : ∃ f fd, Gd K mg "may_lay" (top 18) ["run", "laid", "mould"] f fd
  fn_layings : ∃ f fd, Gd K mg "layings" (top 19) ["run"] f fd
  fn_best_laying : ∃ f fd, Gd K mg "best_laying" (top 16) ["run"] f fd
section
variable {P : Program} {w : World} {K : PySem.W.Frag} {mg : Str → Option Value} {base : Heap}
theorem sc_Lcell_at : FnScope ["_law_script", "_law_k"] ["_law_script", "_law_k"] (defScope (top 23)) := ⟨rfl, rfl, rfl, by decide +kernel, rfl, by decide +kernel, by decide +kernel⟩
theorem ok_Lcell_at (F : Fns K mg) {f : Addr} {fd : FuncData} (G : Gd K mg "_law_cell_at" (top 23) ["_law_script", "_law_k"] f fd) : FnOk P w K mg base CX0 1 f fd ["_law_script", "_law_k"] (spI K f_Lcell_at) := by
  have nd0 := sc_Lcell_at.nd
  exact fn_ok (k := 0) G.fn sc_Lcell_at fun cdv A outer s H E hr => (s_cons (s_if (t_cmp (o_lt hr) (e_loc 1) (e_callB c_len rfl F.bl_len b_len (a_cons (e_loc 0) a_nil)) (nomark _)) (s_one (s_ret (e_ix (e_loc 0) (e_loc 1)))) s_nil) (s_one (s_ret e_int)))
theorem sc_Lstate : FnScope ["_law_script", "_law_k", "_law_cell"] ["_law_script", "_law_k"] (defScope (top 24)) := ⟨rfl, rfl, rfl, by decide +kernel, rfl, by decide +kernel, by decide +kernel⟩
theorem ok_Lstate (F : Fns K mg) {f : Addr} {fd : FuncData} (G : Gd K mg "_law_state" (top 24) ["_law_script", "_law_k"] f fd) : FnOk P w K mg base CX0 2 f fd ["_law_script", "_law_k"] (spI K f_Lstate) := by
  obtain ⟨_, _, G_Lcell_at⟩ := F.fn_Lcell_at
  have nd0 := sc_Lstate.nd
  exact fn_ok (k := 1) G.fn sc_Lstate fun cdv A outer s H E hr => (s_cons (s_set 2 nd0 (e_call (ok_Lcell_at F G_Lcell_at) (hr.mono (by decide)) rfl G_Lcell_at.mg G_Lcell_at.fn.kp G_Lcell_at.b (a_cons (e_loc 0) (a_cons (e_loc 1) a_nil)))) (s_one (s_ret (e_new (a_cons (e_callB (c_max2 rfl) rfl F.bl_max b_max (a_cons e_int (a_cons (e_bin o_sub (e_loc 2) (e_bin o_pow e_int e_int)) a_nil))) (a_cons (e_bin o_mod (e_loc 2) e_int) a_nil))))))
theorem sc_Ltake : FnScope ["_law_state_here", "_law_many", "_law_found", "_law_stirred"] ["_law_state_here", "_law_many"] (defScope (top 25)) := ⟨rfl, rfl, rfl, by decide +kernel, rfl, by decide +kernel, by decide +kernel⟩
theorem ok_Ltake (F : Fns K mg) {f : Addr} {fd : FuncData} (G : Gd K mg "_law_take" (top 25) ["_law_state_here", "_law_many"] f fd) : FnOk P w K mg base CX0 1 f fd ["_law_state_here", "_law_many"] (spI K f_Ltake) := by
  have nd0 := sc_Ltake.nd
  exact fn_ok (k := 0) G.fn sc_Ltake fun cdv A outer s H E hr => (s_cons (s_if (t_cmp o_gt (e_ix (e_loc 0) e_int) e_int (nomark _)) (s_cons (s_set 2 nd0 (e_bin o_mod (e_ix (e_loc 0) e_int) (e_loc 1))) (s_cons (s_sub (e_bin o_div (e_ix (e_loc 0) e_int) (e_loc 1)) (e_loc 0) e_int) (s_one (s_ret (e_loc 2))))) s_nil) (s_cons (s_sub (e_bin o_mod (e_bin o_add (e_bin o_mul (e_ix (e_loc 0) e_int) e_int) e_int) e_int) (e_loc 0) e_int) (s_cons (s_set 3 nd0 (e_bin o_mod (e_bin o_add (e_bin o_add (e_bin o_mul (e_ix (e_loc 0) e_int) (e_ix (e_loc 0) e_int)) (e_bin o_mul e_int (e_ix (e_loc 0) e_int))) e_int) e_int)) (s_cons (s_set 3 nd0 (e_bin o_mod (e_bin o_add (e_bin o_mul (e_loc 3) (e_loc 3)) (e_bin o_mul e_int (e_loc 3))) e_int)) (s_one (s_ret (e_bin o_mod (e_bin o_div (e_loc 3) e_int) (e_loc 1))))))))
theorem sc_Lmarks : FnScope ["_law_state_here", "_law_most", "_law_way"] ["_law_state_here", "_law_most"] (defScope (top 27)) := ⟨rfl, rfl, rfl, by decide +kernel, rfl, by decide +kernel, by decide +kernel⟩
theorem ok_Lmarks (F : Fns K mg) {f : Addr} {fd : FuncData} (G : Gd K mg "_law_marks" (top 27) ["_law_state_here", "_law_most"] f fd) : FnOk P w K mg base CX0 2 f fd ["_law_state_here", "_law_most"] (spI K f_Lmarks) := by
  obtain ⟨_, _, G_Ltake⟩ := F.fn_Ltake
  have nd1 : (["_law_mark", "_law_state_here", "_law_way"] : List Str).Nodup := by decide +kernel
  have nd0 := sc_Lmarks.nd
  exact fn_ok (k := 1) G.fn sc_Lmarks fun cdv A outer s H E hr => (s_cons (s_set 2 nd0 (e_bin o_add e_int (e_call (ok_Ltake F G_Ltake) (hr.mono (by decide)) rfl G_Ltake.mg G_Ltake.fn.kp G_Ltake.b (a_cons (e_loc 0) (a_cons e_int a_nil))))) (s_one (s_ret (e_callTy c_tuple rfl F.bl_tuple b_tuple (a_cons (e_comp (N := ["_law_mark", "_law_state_here", "_law_way"]) (nt := 1) (cap := [0, 2]) rfl (cs_of (by kernel_rfl)) (tg_name 0) (i_rng1 rfl F.bl_range (a_cons (e_loc 1) a_nil)) (fun cl C s H ex pn => ⟨(pg_name (i := 0) nd1 rfl (Or.inl rfl)), (f_one (t_cmp (o_eq hr) (e_call (ok_Ltake F G_Ltake) (hr.mono (by decide)) rfl G_Ltake.mg G_Ltake.fn.kp G_Ltake.b (a_cons (e_loc 1) (a_cons (e_bin o_add (e_loc 2) e_int) a_nil))) e_int (nomark _))), (e_loc 0)⟩)) a_nil)))))
theorem sc_Lrun : FnScope ["_law_state_here", "_law_way", "_law_now", "_law_run_here", "_law_moulds", "_law_turn", "_law_more"] ["_law_state_here"] (defScope (top 29)) := ⟨rfl, rfl, rfl, by decide +kernel, rfl, by decide +kernel, by decide +kernel⟩
theorem ok_Lrun (F : Fns K mg) {f : Addr} {fd : FuncData} (G : Gd K mg "_law_run" (top 29) ["_law_state_here"] f fd) : FnOk P w K mg base CX0 3 f fd ["_law_state_here"] (spI K f_Lrun) := by
  obtain ⟨_, _, G_Ltake⟩ := F.fn_Ltake
  obtain ⟨_, _, G_Lmarks⟩ := F.fn_Lmarks
  have nd1 : (["_law_mark", "_law_state_here", "_law_way"] : List Str).Nodup := by decide +kernel
  have nd0 := sc_Lrun.nd
  exact fn_ok (k := 2) G.fn sc_Lrun fun cdv A outer s H E hr => (s_cons (s_asg (e_tup (a_cons (e_call (ok_Ltake F G_Ltake) (hr.mono (by decide)) rfl G_Ltake.mg G_Ltake.fn.kp G_Ltake.b (a_cons (e_loc 0) (a_cons e_int a_nil))) (a_cons e_int (a_cons (e_new a_nil) a_nil)))) (g_tup rfl (gs_cons (g_name 1 nd0) (gs_cons (g_name 2 nd0) (gs_cons (g_name 3 nd0) gs_nil))))) (s_cons (s_set 4 nd0 (e_new (a_cons (e_call (ok_Lmarks F G_Lmarks) (hr.mono (by decide)) rfl G_Lmarks.mg G_Lmarks.fn.kp G_Lmarks.b (a_cons (e_loc 0) (a_cons e_int a_nil))) (a_cons (e_call (ok_Lmarks F G_Lmarks) (hr.mono (by decide)) rfl G_Lmarks.mg G_Lmarks.fn.kp G_Lmarks.b (a_cons (e_loc 0) (a_cons e_int a_nil))) a_nil)))) (s_cons (s_for PassesOwn.never rfl (i_rng1 rfl F.bl_range (a_cons (e_bin o_add e_int (e_call (ok_Ltake F G_Ltake) (hr.mono (by decide)) rfl G_Ltake.mg G_Ltake.fn.kp G_Ltake.b (a_cons (e_loc 0) (a_cons e_int a_nil)))) a_nil)) (g_name 5 nd0) (s_cons (s_comp 6 (N := ["_law_mark", "_law_state_here", "_law_way"]) (nt := 1) (cap := [0, 1]) nd0 rfl (cs_of (by kernel_rfl)) (tg_name 0) (i_rng1 rfl F.bl_range (a_cons e_int a_nil)) (fun cl C s H ex pn => ⟨(pg_name (i := 0) nd1 rfl (Or.inl rfl)), (f_one (t_cmp (o_eq hr) (e_call (ok_Ltake F G_Ltake) (hr.mono (by decide)) rfl G_Ltake.mg G_Ltake.fn.kp G_Ltake.b (a_cons (e_loc 1) (a_cons (e_ix (e_lst (a_cons e_int (a_cons e_int (a_cons e_int (a_cons e_int a_nil))))) (e_loc 2)) a_nil))) e_int (nomark _))), (e_loc 0)⟩)) (s_cons (s_sub (e_callTy c_tuple rfl F.bl_tuple b_tuple (a_cons (e_sortSet (e_bin o_add (e_callTy c_list rfl F.bl_list b_list (a_cons (e_ix (e_loc 4) (e_loc 2)) a_nil)) (e_loc 6)) rfl rfl F.bl_sorted b_sorted rfl F.bl_set b_set) a_nil)) (e_loc 4) (e_loc 2)) (s_cons (s_expr (e_app (e_loc 3) (e_if (t_cmp (o_eq hr) (e_loc 1) e_int (nomark _)) (e_call (ok_Lmarks F G_Lmarks) (hr.mono (by decide)) rfl G_Lmarks.mg G_Lmarks.fn.kp G_Lmarks.b (a_cons (e_loc 0) (a_cons e_int a_nil))) (e_ix (e_loc 4) (e_loc 2))))) (s_one (s_set 2 nd0 (e_if (t_cmp o_gt (e_call (ok_Ltake F G_Ltake) (hr.mono (by decide)) rfl G_Ltake.mg G_Ltake.fn.kp G_Ltake.b (a_cons (e_loc 0) (a_cons e_int a_nil))) e_int (nomark _)) (e_bin o_sub e_int (e_loc 2)) (e_loc 2)))))))) (s_one (s_ret (e_callTy c_tuple rfl F.bl_tuple b_tuple (a_cons (e_loc 3) a_nil)))))))
theorem sc_Llayings : FnScope ["_law_run_here", "_law_found", "_law_place", "_law_longer", "_law_ahead", "_law_one", "_law_mine"] ["_law_run_here"] (defScope (top 30)) := ⟨rfl, rfl, rfl, by decide +kernel, rfl, by decide +kernel, by decide +kernel⟩
theorem ok_Llayings (F : Fns K mg) {f : Addr} {fd : FuncData} (G : Gd K mg "_law_layings" (top 30) ["_law_run_here"] f fd) : FnOk P w K mg base CX0 1 f fd ["_law_run_here"] (spI K f_Llayings) := by
  have nd1 : (["_law_at", "_law_run_here", "_law_one", "_law_ahead"] : List Str).Nodup := by decide +kernel
  have nd2 : (["_law_mark", "_law_run_here", "_law_place"] : List Str).Nodup := by decide +kernel
  have nd0 := sc_Llayings.nd
  exact fn_ok (k := 0) G.fn sc_Llayings fun cdv A outer s H E hr => (s_cons (s_set 1 nd0 (e_lst (a_cons (e_tup (a_cons e_int a_nil)) a_nil))) (s_cons (s_for PassesOwn.never rfl (i_rng2 rfl F.bl_range (a_cons e_int (a_cons (e_callB c_len rfl F.bl_len b_len (a_cons (e_loc 0) a_nil)) a_nil))) (g_name 2 nd0) (s_cons (s_set 3 nd0 (e_new a_nil)) (s_cons (s_for PassesOwn.never rfl (i_seq (e_loc 1)) (g_name 4 nd0) (s_one (s_for PassesOwn.never rfl (i_seq (e_tup (a_cons e_int (a_cons e_int a_nil)))) (g_name 5 nd0) (s_cons (s_set 6 nd0 (e_bin o_add (e_lst (a_cons (e_tup a_nil) a_nil)) (e_comp (N := ["_law_at", "_law_run_here", "_law_one", "_law_ahead"]) (nt := 1) (cap := [0, 5, 4]) rfl (cs_of (by kernel_rfl)) (tg_name 0) (i_rng1 rfl F.bl_range (a_cons (e_loc 2) a_nil)) (fun cl C s H ex pn => ⟨(pg_name (i := 0) nd1 rfl (Or.inl rfl)), (f_one (t_cmp (o_eq hr) (e_ix (e_loc 3) (e_loc 0)) (e_loc 2) (nomark _))), (e_ix (e_loc 1) (e_loc 0))⟩)))) (s_one (s_if (t_cmp (o_eq hr) (e_comp (N := ["_law_mark", "_law_run_here", "_law_place"]) (nt := 1) (cap := [0, 2]) rfl (cs_of (by kernel_rfl)) (tg_name 0) (i_seq (e_ix (e_loc 6) (e_un o_neg e_int))) (fun cl C s H ex pn => ⟨(pg_name (i := 0) nd2 rfl (Or.inl rfl)), (f_one (t_cmp (o_notIn hr) (e_loc 0) (e_ix (e_loc 1) (e_loc 2)) rfl)), (e_loc 0)⟩)) (e_lst a_nil) (nomark _)) (s_one (s_expr (e_app (e_loc 3) (e_bin o_add (e_loc 4) (e_tup (a_cons (e_loc 5) a_nil)))))) s_nil)))))) (s_one (s_set 1 nd0 (e_frz (e_loc 3))))))) (s_one (s_ret (e_loc 1)))))
theorem sc_Lsame : FnScope ["_law_found", "_law_due"] ["_law_found", "_law_due"] (defScope (top 26)) := ⟨rfl, rfl, rfl, by decide +kernel, rfl, by decide +kernel, by decide +kernel⟩
theorem ok_Lsame (F : Fns K mg) {f : Addr} {fd : FuncData} (G : Gd K mg "_law_same" (top 26) ["_law_found", "_law_due"] f fd) : ∀ n, FnOk P w K mg base CX0 (1 + n) f fd ["_law_found", "_law_due"] (spI K (f_Lsame n))
  | 0 => fn_no fun _ _ => rfl
  | n + 1 => by
    have nd1 : (["_law_one", "_law_other"] : List Str).Nodup := by decide +kernel
    have nd0 := sc_Lsame.nd
    have ih := ok_Lsame F G n
    exact fn_ok G.fn sc_Lsame fun cdv A outer s H E hr => (s_cons (s_if (t_tru (e_isiTL (e_loc 1) rfl F.bl_isinstance b_isinstance (pe_bltn rfl F.bl_tuple b_tuple rfl) (pe_bltn rfl F.bl_list b_list rfl))) (s_cons (s_if (PW.pt (w_or (t_cmp (o_ne hr) (e_callB c_isi rfl F.bl_isinstance b_isinstance (a_cons (e_loc 0) (a_cons (e_ty b_tuple rfl F.bl_tuple) a_nil))) (e_callB c_isi rfl F.bl_isinstance b_isinstance (a_cons (e_loc 1) (a_cons (e_ty b_tuple rfl F.bl_tuple) a_nil))) (nomark _)) (w_or1 (t_cmp (o_ne hr) (e_callB c_isi rfl F.bl_isinstance b_isinstance (a_cons (e_loc 0) (a_cons (e_ty b_list rfl F.bl_list) a_nil))) (e_callB c_isi rfl F.bl_isinstance b_isinstance (a_cons (e_loc 1) (a_cons (e_ty b_list rfl F.bl_list) a_nil))) (nomark _))))) (s_one (s_ret e_bl)) s_nil) (s_one (s_ret (e_and (e_cmp (o_eq hr) (e_callB c_len rfl F.bl_len b_len (a_cons (e_loc 0) a_nil)) (e_callB c_len rfl F.bl_len b_len (a_cons (e_loc 1) a_nil)) (nomark _)) (e_one (e_callB (c_all rfl) rfl F.bl_all b_all (a_cons (e_comp (N := ["_law_one", "_law_other"]) (nt := 2) (cap := []) rfl (cs_of (by kernel_rfl)) (tg_tup (tgs_cons 0 (tgs_cons 1 tgs_nil))) (i_zip rfl F.bl_zip (a_cons (e_loc 0) (a_cons (e_loc 1) a_nil))) (fun cl C s H ex pn => ⟨(pg_tup rfl (pgs_cons (pg_name (i := 0) nd1 rfl (Or.inl rfl)) (pgs_cons (pg_name (i := 1) nd1 rfl (Or.inl rfl)) pgs_nil))), f_nil, (e_call ih hr rfl G.mg G.fn.kp G.b (a_cons (e_loc 0) (a_cons (e_loc 1) a_nil)))⟩)) a_nil))))))) s_nil) (s_one (s_ret (e_and (e_cmp (o_eq hr) (e_callB c_isi rfl F.bl_isinstance b_isinstance (a_cons (e_loc 0) (a_cons (e_ty b_bool rfl F.bl_bool) a_nil))) (e_callB c_isi rfl F.bl_isinstance b_isinstance (a_cons (e_loc 1) (a_cons (e_ty b_bool rfl F.bl_bool) a_nil))) (nomark _)) (e_one (e_cmp (o_eq hr) (e_loc 0) (e_loc 1) (nomark _)))))))
theorem sc_breaks_in : FnScope ["laying"] ["laying"] (defScope (top 20)) := ⟨rfl, rfl, rfl, by decide +kernel, rfl, by decide +kernel, by decide +kernel⟩
theorem ok_breaks_in (F : Fns K mg) {f : Addr} {fd : FuncData} (G : Gd K mg "breaks_in" (top 20) ["laying"] f fd) : FnOk P w K mg base CX0 1 f fd ["laying"] (spI K f_breaks_in) := by
  have nd1 : (["at", "laying"] : List Str).Nodup := by decide +kernel
  have nd0 := sc_breaks_in.nd
  exact fn_ok (k := 0) G.fn sc_breaks_in fun cdv A outer s H E hr => (s_one (s_ret (e_comp (N := ["at", "laying"]) (nt := 1) (cap := [0]) rfl (cs_of (by kernel_rfl)) (tg_name 0) (i_rng2 rfl F.bl_range (a_cons e_int (a_cons (e_callB c_len rfl F.bl_len b_len (a_cons (e_loc 0) a_nil)) a_nil))) (fun cl C s H ex pn => ⟨(pg_name (i := 0) nd1 rfl (Or.inl rfl)), (f_one (t_cmp (o_eq hr) (e_ix (e_loc 1) (e_loc 0)) (e_ix (e_loc 1) (e_bin o_sub (e_loc 0) e_int)) (nomark _))), (e_loc 0)⟩))))
theorem sc_by_breaks : FnScope ["laying"] ["laying"] (defScope (top 21)) := ⟨rfl, rfl, rfl, by decide +kernel, rfl, by decide +kernel, by decide +kernel⟩
theorem ok_by_breaks (F : Fns K mg) {f : Addr} {fd : FuncData} (G : Gd K mg "by_breaks" (top 21) ["laying"] f fd) : FnOk P w K mg base CX0 2 f fd ["laying"] (spI K f_by_breaks) := by
  obtain ⟨_, _, G_breaks_in⟩ := F.fn_breaks_in
  have nd0 := sc_by_breaks.nd
  exact fn_ok (k := 1) G.fn sc_by_breaks fun cdv A outer s H E hr => (s_one (s_ret (e_tup (a_cons (e_callB c_len rfl F.bl_len b_len (a_cons (e_call (ok_breaks_in F G_breaks_in) (hr.mono (by decide)) rfl G_breaks_in.mg G_breaks_in.fn.kp G_breaks_in.b (a_cons (e_loc 0) a_nil)) a_nil)) (a_cons (e_loc 0) a_nil)))))
theorem sc_is_rising : FnScope ["things"] ["things"] (defScope (top 8)) := ⟨rfl, rfl, rfl, by decide +kernel, rfl, by decide +kernel, by decide +kernel⟩
theorem ok_is_rising (F : Fns K mg) {f : Addr} {fd : FuncData} (G : Gd K mg "is_rising" (top 8) ["things"] f fd) : FnOk P w K mg base CX0 1 f fd ["things"] (spI K f_is_rising) := by
  have nd1 : (["ahead", "behind"] : List Str).Nodup := by decide +kernel
  have nd0 := sc_is_rising.nd
  exact fn_ok (k := 0) G.fn sc_is_rising fun cdv A outer s H E hr => (s_one (s_ret (e_callB (c_all rfl) rfl F.bl_all b_all (a_cons (e_comp (N := ["ahead", "behind"]) (nt := 2) (cap := []) rfl (cs_of (by kernel_rfl)) (tg_tup (tgs_cons 0 (tgs_cons 1 tgs_nil))) (i_zip rfl F.bl_zip (a_cons (e_loc 0) (a_cons (e_sl (e_loc 0) (p_int e_int) p_no) a_nil))) (fun cl C s H ex pn => ⟨(pg_tup rfl (pgs_cons (pg_name (i := 0) nd1 rfl (Or.inl rfl)) (pgs_cons (pg_name (i := 1) nd1 rfl (Or.inl rfl)) pgs_nil))), f_nil, (e_cmp (o_lt hr) (e_loc 0) (e_loc 1) (nomark _))⟩)) a_nil))))
theorem sc_is_number : FnScope ["thing"] ["thing"] (defScope (top 5)) := ⟨rfl, rfl, rfl, by decide +kernel, rfl, by decide +kernel, by decide +kernel⟩
theorem ok_is_number (F : Fns K mg) {f : Addr} {fd : FuncData} (G : Gd K mg "is_number" (top 5) ["thing"] f fd) : FnOk P w K mg base CX0 1 f fd ["thing"] (spI K f_is_number) := by
  have nd0 := sc_is_number.nd
  exact fn_ok (k := 0) G.fn sc_is_number fun cdv A outer s H E hr => (s_one (s_ret (e_and (e_callB c_isi rfl F.bl_isinstance b_isinstance (a_cons (e_loc 0) (a_cons (e_ty b_int rfl F.bl_int) a_nil))) (e_and (e_not (e_callB c_isi rfl F.bl_isinstance b_isinstance (a_cons (e_loc 0) (a_cons (e_ty b_bool rfl F.bl_bool) a_nil)))) (e_one (e_cmp o_ge (e_loc 0) e_int (nomark _)))))))
theorem sc_is_below : FnScope ["thing", "many"] ["thing", "many"] (defScope (top 6)) := ⟨rfl, rfl, rfl, by decide +kernel, rfl, by decide +kernel, by decide +kernel⟩
theorem ok_is_below (F : Fns K mg) {f : Addr} {fd : FuncData} (G : Gd K mg "is_below" (top 6) ["thing", "many"] f fd) : FnOk P w K mg base CX0 2 f fd ["thing", "many"] (spI K f_is_below) := by
  obtain ⟨_, _, G_is_number⟩ := F.fn_is_number
  have nd0 := sc_is_below.nd
  exact fn_ok (k := 1) G.fn sc_is_below fun cdv A outer s H E hr => (s_one (s_ret (e_and (e_call (ok_is_number F G_is_number) (hr.mono (by decide)) rfl G_is_number.mg G_is_number.fn.kp G_is_number.b (a_cons (e_loc 0) a_nil)) (e_one (e_cmp (o_lt hr) (e_loc 0) (e_loc 1) (nomark _))))))
theorem sc_is_mark : FnScope ["thing"] ["thing"] (defScope (top 7)) := ⟨rfl, rfl, rfl, by decide +kernel, rfl, by decide +kernel, by decide +kernel⟩
theorem ok_is_mark (F : Fns K mg) {f : Addr} {fd : FuncData} (G : Gd K mg "is_mark" (top 7) ["thing"] f fd) : FnOk P w K mg base CX0 3 f fd ["thing"] (spI K f_is_mark) := by
  obtain ⟨_, _, G_is_below⟩ := F.fn_is_below
  have nd0 := sc_is_mark.nd
  exact fn_ok (k := 2) G.fn sc_is_mark fun cdv A outer s H E hr => (s_one (s_ret (e_call (ok_is_below F G_is_below) (hr.mono (by decide)) rfl G_is_below.mg G_is_below.fn.kp G_is_below.b (a_cons (e_loc 0) (a_cons (e_gi F.gi_MARKS rfl) a_nil)))))
theorem sc_are_marks : FnScope ["thing"] ["thing"] (defScope (top 10)) := ⟨rfl, rfl, rfl, by decide +kernel, rfl, by decide +kernel, by decide +kernel⟩
theorem ok_are_marks (F : Fns K mg) {f : Addr} {fd : FuncData} (G : Gd K mg "are_marks" (top 10) ["thing"] f fd) : FnOk P w K mg base CX0 4 f fd ["thing"] (spI K f_are_marks) := by
  obtain ⟨_, _, G_is_mark⟩ := F.fn_is_mark
  obtain ⟨_, _, G_is_rising⟩ := F.fn_is_rising
  have nd1 : (["mark"] : List Str).Nodup := by decide +kernel
  have nd0 := sc_are_marks.nd
  exact fn_ok (k := 3) G.fn sc_are_marks fun cdv A outer s H E hr => (s_one (s_ret (e_and (e_callB c_isi rfl F.bl_isinstance b_isinstance (a_cons (e_loc 0) (a_cons (e_ty b_tuple rfl F.bl_tuple) a_nil))) (e_and (e_callB (c_all rfl) rfl F.bl_all b_all (a_cons (e_comp (N := ["mark"]) (nt := 1) (cap := []) rfl (cs_of (by kernel_rfl)) (tg_name 0) (i_seq (e_loc 0)) (fun cl C s H ex pn => ⟨(pg_name (i := 0) nd1 rfl (Or.inl rfl)), f_nil, (e_call (ok_is_mark F G_is_mark) (hr.mono (by decide)) rfl G_is_mark.mg G_is_mark.fn.kp G_is_mark.b (a_cons (e_loc 0) a_nil))⟩)) a_nil)) (e_one (e_call (ok_is_rising F G_is_rising) (hr.mono (by decide)) rfl G_is_rising.mg G_is_rising.fn.kp G_is_rising.b (a_cons (e_loc 0) a_nil)))))))
theorem sc_are_laid_marks : FnScope ["thing", "most"] ["thing", "most"] (defScope (top 12)) := ⟨rfl, rfl, rfl, by decide +kernel, rfl, by decide +kernel, by decide +kernel⟩
theorem ok_are_laid_marks (F : Fns K mg) {f : Addr} {fd : FuncData} (G : Gd K mg "are_laid_marks" (top 12) ["thing", "most"] f fd) : FnOk P w K mg base CX0 5 f fd ["thing", "most"] (spI K f_are_laid_marks) := by
  obtain ⟨_, _, G_are_marks⟩ := F.fn_are_marks
  have nd1 : (["marks"] : List Str).Nodup := by decide +kernel
  have nd0 := sc_are_laid_marks.nd
  exact fn_ok (k := 4) G.fn sc_are_laid_marks fun cdv A outer s H E hr => (s_one (s_ret (e_and (e_callB c_isi rfl F.bl_isinstance b_isinstance (a_cons (e_loc 0) (a_cons (e_ty b_tuple rfl F.bl_tuple) a_nil))) (e_and (e_chain o_le o_le e_int (e_callB c_len rfl F.bl_len b_len (a_cons (e_loc 0) a_nil)) (e_loc 1)) (e_one (e_callB (c_all rfl) rfl F.bl_all b_all (a_cons (e_comp (N := ["marks"]) (nt := 1) (cap := []) rfl (cs_of (by kernel_rfl)) (tg_name 0) (i_seq (e_loc 0)) (fun cl C s H ex pn => ⟨(pg_name (i := 0) nd1 rfl (Or.inl rfl)), f_nil, (e_call (ok_are_marks F G_are_marks) (hr.mono (by decide)) rfl G_are_marks.mg G_are_marks.fn.kp G_are_marks.b (a_cons (e_loc 0) a_nil))⟩)) a_nil)))))))
theorem sc_need_run : FnScope ["thing"] ["thing"] (defScope (top 17)) := ⟨rfl, rfl, rfl, by decide +kernel, rfl, by decide +kernel, by decide +kernel⟩
theorem ok_need_run (F : Fns K mg) {f : Addr} {fd : FuncData} (G : Gd K mg "need_run" (top 17) ["thing"] f fd) : FnOk P w K mg base CX0 6 f fd ["thing"] (spI K f_need_run) := by
  obtain ⟨_, _, G_are_laid_marks⟩ := F.fn_are_laid_marks
  have nd0 := sc_need_run.nd
  exact fn_ok (k := 5) G.fn sc_need_run fun cdv A outer s H E hr => (s_one (s_if (t_not (t_tru (e_call (ok_are_laid_marks F G_are_laid_marks) (hr.mono (by decide)) rfl G_are_laid_marks.mg G_are_laid_marks.fn.kp G_are_laid_marks.b (a_cons (e_loc 0) (a_cons (e_gi F.gi_RUN rfl) a_nil))))) ss_never s_nil))
theorem sc_has_all : FnScope ["marks", "others"] ["marks", "others"] (defScope (top 11)) := ⟨rfl, rfl, rfl, by decide +kernel, rfl, by decide +kernel, by decide +kernel⟩
theorem ok_has_all (F : Fns K mg) {f : Addr} {fd : FuncData} (G : Gd K mg "has_all" (top 11) ["marks", "others"] f fd) : FnOk P w K mg base CX0 1 f fd ["marks", "others"] (spI K f_has_all) := by
  have nd1 : (["mark", "marks"] : List Str).Nodup := by decide +kernel
  have nd0 := sc_has_all.nd
  exact fn_ok (k := 0) G.fn sc_has_all fun cdv A outer s H E hr => (s_one (s_ret (e_callB (c_all rfl) rfl F.bl_all b_all (a_cons (e_comp (N := ["mark", "marks"]) (nt := 1) (cap := [0]) rfl (cs_of (by kernel_rfl)) (tg_name 0) (i_seq (e_loc 1)) (fun cl C s H ex pn => ⟨(pg_name (i := 0) nd1 rfl (Or.inl rfl)), f_nil, (e_cmp (o_in hr) (e_loc 0) (e_loc 1) rfl)⟩)) a_nil))))
theorem sc_may_lay : FnScope ["run", "laid", "mould", "marks"] ["run", "laid", "mould"] (defScope (top 18)) := ⟨rfl, rfl, rfl, by decide +kernel, rfl, by decide +kernel, by decide +kernel⟩
theorem ok_may_lay (F : Fns K mg) {f : Addr} {fd : FuncData} (G : Gd K mg "may_lay" (top 18) ["run", "laid", "mould"] f fd) : FnOk P w K mg base CX0 2 f fd ["run", "laid", "mould"] (spI K f_may_lay) := by
  obtain ⟨_, _, G_has_all⟩ := F.fn_has_all
  have nd1 : (["at", "marks", "run", "mould", "laid"] : List Str).Nodup := by decide +kernel
  have nd0 := sc_may_lay.nd
  exact fn_ok (k := 1) G.fn sc_may_lay fun cdv A outer s H E hr => (s_cons (s_set 3 nd0 (e_ix (e_loc 0) (e_callB c_len rfl F.bl_len b_len (a_cons (e_loc 1) a_nil)))) (s_one (s_ret (e_callB (c_all rfl) rfl F.bl_all b_all (a_cons (e_comp (N := ["at", "marks", "run", "mould", "laid"]) (nt := 1) (cap := [3, 0, 2, 1]) rfl (cs_of (by kernel_rfl)) (tg_name 0) (i_rng1 rfl F.bl_range (a_cons (e_callB c_len rfl F.bl_len b_len (a_cons (e_loc 1) a_nil)) a_nil)) (fun cl C s H ex pn => ⟨(pg_name (i := 0) nd1 rfl (Or.inl rfl)), (f_one (t_cmp (o_eq hr) (e_ix (e_loc 4) (e_loc 0)) (e_loc 3) (nomark _))), (e_call (ok_has_all F G_has_all) (hr.mono (by decide)) rfl G_has_all.mg G_has_all.fn.kp G_has_all.b (a_cons (e_loc 1) (a_cons (e_ix (e_loc 2) (e_loc 0)) a_nil)))⟩)) a_nil)))))
theorem sc_layings : FnScope ["run", "told", "at"] ["run"] (defScope (top 19)) := ⟨rfl, rfl, rfl, by decide +kernel, rfl, by decide +kernel, by decide +kernel⟩
theorem ok_layings (F : Fns K mg) {f : Addr} {fd : FuncData} (G : Gd K mg "layings" (top 19) ["run"] f fd) : FnOk P w K mg base CX0 3 f fd ["run"] (spI K f_layings) := by
  obtain ⟨_, _, G_may_lay⟩ := F.fn_may_lay
  have nd1 : (["laid", "mould", "run"] : List Str).Nodup := by decide +kernel
  have nd0 := sc_layings.nd
  exact fn_ok (k := 2) G.fn sc_layings fun cdv A outer s H E hr => (s_cons (s_set 1 nd0 (e_lst (a_cons (e_tup (a_cons e_int a_nil)) a_nil))) (s_cons (s_for PassesOwn.never rfl (i_rng2 rfl F.bl_range (a_cons e_int (a_cons (e_callB c_len rfl F.bl_len b_len (a_cons (e_loc 0) a_nil)) a_nil))) (g_name 2 nd0) (s_one (s_comp2 1 (N := ["laid", "mould", "run"]) (nt := 2) (cap := [0]) nd0 rfl (cs_of (by kernel_rfl)) (tg_name 0) (sl_name 0) (tg_name 1) (sl_name 1) (i_seq (e_loc 1)) (fun cl C s H ex pn => ⟨(pg_name (i := 0) nd1 rfl (Or.inl rfl)), f_nil, (i_rng1 rfl F.bl_range (a_cons (e_gi F.gi_TWINS rfl) a_nil)), (pg_name (i := 1) nd1 rfl (Or.inl rfl)), (f_one (t_tru (e_call (ok_may_lay F G_may_lay) (hr.mono (by decide)) rfl G_may_lay.mg G_may_lay.fn.kp G_may_lay.b (a_cons (e_loc 2) (a_cons (e_loc 0) (a_cons (e_loc 1) a_nil)))))), (e_bin o_add (e_loc 0) (e_tup (a_cons (e_loc 1) a_nil)))⟩)))) (s_one (s_ret (e_loc 1)))))
theorem sc_best_laying : FnScope ["run"] ["run"] (defScope (top 16)) := ⟨rfl, rfl, rfl, by decide +kernel, rfl, by decide +kernel, by decide +kernel⟩
theorem ok_best_laying (F : Fns K mg) {f : Addr} {fd : FuncData} (G : Gd K mg "best_laying" (top 16) ["run"] f fd) : FnOk P w K mg base CX0 8 f fd ["run"] (spI K f_best_laying) := by
  obtain ⟨_, _, G_need_run⟩ := F.fn_need_run
  obtain ⟨_, _, G_layings⟩ := F.fn_layings
  obtain ⟨_, _, G_by_breaks⟩ := F.fn_by_breaks
  have nd0 := sc_best_laying.nd
  exact fn_ok (k := 7) G.fn sc_best_laying fun cdv A outer s H E hr => (s_cons (s_expr (e_call (ok_need_run F G_need_run) (hr.mono (by decide)) rfl G_need_run.mg G_need_run.fn.kp G_need_run.b (a_cons (e_loc 0) a_nil))) (s_one (s_ret (e_minKD (ok_by_breaks F G_by_breaks) (hr.mono (by decide)) G_by_breaks.mg G_by_breaks.b (e_call (ok_layings F G_layings) (hr.mono (by decide)) rfl G_layings.mg G_layings.fn.kp G_layings.b (a_cons (e_loc 0) a_nil)) rfl rfl F.bl_min rfl))))
theorem sc_law : FnScope ["_law_script", "_law_k", "_law_state_here", "_law_run_here", "_law_due", "_law_kept", "_law_laying", "_law_broken", "_law_row"] ["_law_script"] (defScope (top 31)) := ⟨rfl, rfl, rfl, by decide +kernel, rfl, by decide +kernel, by decide +kernel⟩
theorem ok_law (F : Fns K mg) {f : Addr} {fd : FuncData} (G : Gd K mg "law" (top 31) ["_law_script"] f fd) : FnOk P w K mg base CX0 10 f fd ["_law_script"] (spI K f_law) := by
  obtain ⟨_, _, G_Lstate⟩ := F.fn_Lstate
  obtain ⟨_, _, G_Lrun⟩ := F.fn_Lrun
  obtain ⟨_, _, G_Lmarks⟩ := F.fn_Lmarks
  obtain ⟨_, _, G_Llayings⟩ := F.fn_Llayings
  obtain ⟨_, _, G_best_laying⟩ := F.fn_best_laying
  obtain ⟨_, _, G_Lsame⟩ := F.fn_Lsame
  have nd1 : (["_law_place", "_law_laying"] : List Str).Nodup := by decide +kernel
  have nd0 := sc_law.nd
  exact fn_ok (k := 9) G.fn sc_law fun cdv A outer s H E hr => (s_cons (s_for PassesOwn.never rfl (i_rng1 rfl F.bl_range (a_cons (e_callB (c_max2 rfl) rfl F.bl_max b_max (a_cons e_int (a_cons (e_callB (c_min2 rfl) rfl F.bl_min b_min (a_cons (e_callB c_len rfl F.bl_len b_len (a_cons (e_loc 0) a_nil)) (a_cons e_int a_nil))) a_nil))) a_nil)) (g_name 1 nd0) (s_cons (s_set 2 nd0 (e_call (ok_Lstate F G_Lstate) (hr.mono (by decide)) rfl G_Lstate.mg G_Lstate.fn.kp G_Lstate.b (a_cons (e_loc 0) (a_cons (e_loc 1) a_nil)))) (s_one (s_for PassesOwn.never rfl (i_seq (e_lst (a_cons (e_call (ok_Lrun F G_Lrun) (hr.mono (by decide)) rfl G_Lrun.mg G_Lrun.fn.kp G_Lrun.b (a_cons (e_loc 2) a_nil)) (a_cons (e_call (ok_Lrun F G_Lrun) (hr.mono (by decide)) rfl G_Lrun.mg G_Lrun.fn.kp G_Lrun.b (a_cons (e_loc 2) a_nil)) (a_cons (e_tup (a_cons (e_call (ok_Lmarks F G_Lmarks) (hr.mono (by decide)) rfl G_Lmarks.mg G_Lmarks.fn.kp G_Lmarks.b (a_cons (e_loc 2) (a_cons e_int a_nil))) a_nil)) a_nil))))) (g_name 3 nd0) (s_cons (s_par2 4 5 rfl nd0 (a_cons e_non (a_cons (e_callB (c_repr hr) rfl F.bl_repr b_repr (a_cons (e_loc 3) a_nil)) a_nil))) (s_cons (s_for PassesOwn.never rfl (i_seq (e_call (ok_Llayings F G_Llayings) (hr.mono (by decide)) rfl G_Llayings.mg G_Llayings.fn.kp G_Llayings.b (a_cons (e_loc 3) a_nil))) (g_name 6 nd0) (s_cons (s_comp 7 (N := ["_law_place", "_law_laying"]) (nt := 1) (cap := [6]) nd0 rfl (cs_of (by kernel_rfl)) (tg_name 0) (i_rng2 rfl F.bl_range (a_cons e_int (a_cons (e_callB c_len rfl F.bl_len b_len (a_cons (e_loc 3) a_nil)) a_nil))) (fun cl C s H ex pn => ⟨(pg_name (i := 0) nd1 rfl (Or.inl rfl)), (f_one (t_cmp (o_eq hr) (e_ix (e_loc 1) (e_loc 0)) (e_ix (e_loc 1) (e_bin o_sub (e_loc 0) e_int)) (nomark _))), (e_loc 0)⟩)) (s_cons (s_set 8 nd0 (e_tup (a_cons (e_callB c_len rfl F.bl_len b_len (a_cons (e_loc 7) a_nil)) (a_cons (e_loc 6) a_nil)))) (s_one (s_set 4 nd0 (e_if (PW.pt (w_or (t_cmp o_isN (e_loc 4) e_non (nomark _)) (w_or1 (t_cmp (o_lt hr) (e_loc 8) (e_loc 4) (nomark _))))) (e_loc 8) (e_loc 4))))))) (s_cons (s_set 4 nd0 (e_if (t_cmp o_isN (e_loc 4) e_non (nomark _)) e_non (e_ix (e_loc 4) e_int))) (s_one (s_if (PW.pt (w_or (t_not (t_tru (e_call (ok_Lsame F G_Lsame 8) (hr.mono (by decide)) rfl G_Lsame.mg G_Lsame.fn.kp G_Lsame.b (a_cons (e_call (ok_best_laying F G_best_laying) (hr.mono (by decide)) rfl G_best_laying.mg G_best_laying.fn.kp G_best_laying.b (a_cons (e_loc 3) a_nil)) (a_cons (e_loc 4) a_nil))))) (w_or (t_not (t_tru (e_call (ok_Lsame F G_Lsame 8) (hr.mono (by decide)) rfl G_Lsame.mg G_Lsame.fn.kp G_Lsame.b (a_cons (e_call (ok_best_laying F G_best_laying) (hr.mono (by decide)) rfl G_best_laying.mg G_best_laying.fn.kp G_best_laying.b (a_cons (e_loc 3) a_nil)) (a_cons (e_loc 4) a_nil))))) (w_or1 (t_cmp (o_ne hr) (e_callB (c_repr hr) rfl F.bl_repr b_repr (a_cons (e_loc 3) a_nil)) (e_loc 5) (nomark _)))))) (s_one (s_ret e_bl)) s_nil))))))))) (s_one (s_ret e_bl)))
end
end DI.k11

set_option Elab.async false
set_option linter.all false
set_option maxRecDepth 100000
set_option maxHeartbeats 4000000
namespace DI
open PySem L2
def Wp {α : Type} (r : Res α) (Q : α → Sto → Prop) : Prop := ∃ a s, r = some (.ok a, s) ∧ Q a s
section
variable {α β : Type} {r : Res α} {k : α → Sto → Res β} {Q Q' : α → Sto → Prop} {R : β → Sto → Prop} {env : Env} {s : Sto}
theorem Wp.ok {a : α} (h : Q a s) : Wp (DI.ok a s) Q := ⟨a, s, rfl, h⟩
theorem Wp.mono (h : Wp r Q) (i : ∀ a s, Q a s → Q' a s) : Wp r Q' := by
  obtain ⟨a, s, e, q⟩ := h
  exact ⟨a, s, e, i a s q⟩
theorem Wp.bnd (h : Wp r fun a s => Wp (k a s) R) : Wp (DI.bnd r k) R := by
  obtain ⟨a, s, e, b, s', e', q⟩ := h
  exact ⟨b, s', by rw [e]; exact e', q⟩
theorem Wp.ne (h : Wp r Q) : Wp (DI.ne r) Q := by
  obtain ⟨a, s, e, q⟩ := h
  exact ⟨a, s, by rw [e]; rfl, q⟩
theorem Wp.of {a : α} (e : r = some (.ok a, s)) (h : Q a s) : Wp r Q := ⟨a, s, e, h⟩
theorem Wp.seq {f g : Env → Sto → Res Fl} {Q : Fl → Sto → Prop} (h : Wp (f env s) fun fl s => match fl with
    | .nx env => Wp (g env s) Q
    | fl => Q fl s) : Wp (sSeq f g env s) Q := by
  obtain ⟨fl, s', e, h⟩ := h
  unfold sSeq
  rw [e]
  cases fl with
  | nx env => exact h
  | rt d => exact ⟨_, _, rfl, h⟩
  | bk e => exact ⟨_, _, rfl, h⟩
  | ct e => exact ⟨_, _, rfl, h⟩
theorem Wp.for_ {g : D → Env → Option Env} {b : Env → Sto → Res Fl} {Q : Fl → Sto → Prop} (I : Nat → Env → Sto → Prop) (all : List D) (h0 : I 0 env s)
    (step : ∀ i d env s, all[i]? = some d → I i env s → ∃ env', g d env = some env' ∧ Wp (b env' s) fun fl s => match fl with
      | .nx e => I (i + 1) e s
      | .ct e => I (i + 1) e s
      | .bk e => Q (.nx e) s
      | .rt d => Q (.rt d) s) (fin : ∀ env s, I all.length env s → Q (.nx env) s) : Wp (forGo g b all env s) Q := by
  have key : ∀ (ds : List D) (i : Nat) (env : Env) (s : Sto), all.drop i = ds → i ≤ all.length → I i env s → Wp (forGo g b ds env s) Q := by
    intro ds
    induction ds with
    | nil =>
      intro i env s hd hi h
      have e : i = all.length := by
        have := congrArg List.length hd
        simp at this
        omega
      subst e
      exact Wp.ok (fin _ _ h)
    | cons d ds ih =>
      intro i env s hd hi h
      have hx : all[i]? = some d := by
        have := congrArg (fun l => l[0]?) hd
        simpa using this
      have hd' : all.drop (i + 1) = ds := by
        have := congrArg (List.drop 1) hd
        simpa [List.drop_drop] using this
      obtain ⟨env', hg, hb⟩ := step i d env s hx h
      have hlt := (List.getElem?_eq_some_iff.mp hx).1
      unfold forGo
      rw [hg]
      refine Wp.bnd (hb.mono fun fl s q => ?_)
      cases fl with
      | nx e => exact ih (i + 1) e s hd' hlt q
      | ct e => exact ih (i + 1) e s hd' hlt q
      | bk e => exact Wp.ok q
      | rt d => exact Wp.ok q
  exact key all 0 env s rfl (Nat.zero_le _) h0
theorem comp_wp {nt : Nat} {caps : Env} {g : D → Env → Option Env} {t : Env → Sto → Res Bool} {f : Env → Sto → Res D} {Q : List D → Sto → Prop} (I : Nat → List D → Sto → Prop) (all : List D) (h0 : I 0 [] s)
    (step : ∀ i d acc s, all[i]? = some d → I i acc s → ∃ env, g d (List.replicate nt none ++ caps) = some env ∧ Wp (t env s) fun b s => if b = true then Wp (f env s) fun x s => I (i + 1) (acc ++ [x]) s else I (i + 1) acc s)
    (fin : ∀ acc s, I all.length acc s → Q acc s) : Wp (compGo nt caps g t f all s) Q := by
  have key : ∀ (ds : List D) (i : Nat) (acc : List D) (s : Sto), all.drop i = ds → i ≤ all.length → I i acc s → Wp (compGo nt caps g t f ds s) fun xs s => Q (acc ++ xs) s := by
    intro ds
    induction ds with
    | nil =>
      intro i acc s hd hi h
      have e : i = all.length := by
        have := congrArg List.length hd
        simp at this
        omega
      subst e
      exact Wp.ok (by rw [List.append_nil]; exact fin _ _ h)
    | cons d ds ih =>
      intro i acc s hd hi h
      have hx : all[i]? = some d := by
        have := congrArg (fun l => l[0]?) hd
        simpa using this
      have hd' : all.drop (i + 1) = ds := by
        have := congrArg (List.drop 1) hd
        simpa [List.drop_drop] using this
      obtain ⟨env', hg, hb⟩ := step i d acc s hx h
      have hlt := (List.getElem?_eq_some_iff.mp hx).1
      unfold compGo
      rw [hg]
      refine Wp.bnd (Wp.ne (hb.mono fun b s q => ?_))
      cases b with
      | true =>
        rw [if_pos rfl] at q ⊢
        refine Wp.bnd (Wp.ne (q.mono fun x s q => ?_))
        refine Wp.bnd ((ih (i + 1) (acc ++ [x]) s hd' hlt q).mono fun xs s q => Wp.ok ?_)
        rw [List.append_assoc] at q
        exact q
      | false =>
        rw [if_neg Bool.false_ne_true] at q ⊢
        exact ih (i + 1) acc s hd' hlt q
  have := key all 0 [] s rfl (Nat.zero_le _) h0
  simpa using this
end
section
variable {α β : Type} {Q : D → Sto → Prop} {QL : List D → Sto → Prop} {QB : Bool → Sto → Prop} {QF : Fl → Sto → Prop} {QO : Option Int → Sto → Prop} {env : Env} {s : Sto} {f g h : Env → Sto → Res D} {fa : Env → Sto → Res (List D)} {c c' : Env → Sto → Res Bool} {st st' : Env → Sto → Res Fl} {o o' : D → D → Sto → Res D} {u : D → Sto → Res D} {bf : List D → Sto → Res D}
theorem wp_ok {a : α} {Q : α → Sto → Prop} : Wp (ok a s) Q = Q a s := propext ⟨fun ⟨b, s', e, q⟩ => by cases e; exact q, fun q => ⟨a, s, rfl, q⟩⟩
theorem wp_ok' {a : α} {Q : α → Sto → Prop} : Wp (some (Except.ok a, s)) Q = Q a s := wp_ok
theorem wp_bnd {r : Res α} {k : α → Sto → Res β} {R : β → Sto → Prop} : Wp (bnd r k) R = Wp r fun a s => Wp (k a s) R := propext ⟨fun ⟨b, s', e, q⟩ => by
  obtain ⟨a, s, e1, e2⟩ := bnd_some e
  exact ⟨a, s, e1, b, s', e2, q⟩, fun h => Wp.bnd h⟩
theorem wp_ne {r : Res α} {Q : α → Sto → Prop} : Wp (ne r) Q = Wp r Q := propext ⟨fun ⟨b, s', e, q⟩ => ⟨b, s', ne_some e, q⟩, fun h => h.ne⟩
theorem wp_loc0 {a : D} {r : Env} : Wp (eLoc 0 (some a :: r) s) Q = Q a s := by rw [show eLoc 0 (some a :: r) s = ok a s from rfl, wp_ok]
theorem wp_locS {i : Nat} {a : Option D} {r : Env} : Wp (eLoc (i + 1) (a :: r) s) Q = Wp (eLoc i r s) Q := by rw [show eLoc (i + 1) (a :: r) s = eLoc i r s from rfl]
theorem wp_C {d : D} : Wp (eC d env s) Q = Q d s := by rw [show eC d env s = ok d s from rfl, wp_ok]
theorem wp_e1 : Wp (e1 u f env s) Q = Wp (f env s) fun x s => Wp (u x s) Q := by unfold e1; rw [wp_bnd]
theorem wp_e2 : Wp (e2 o f g env s) Q = Wp (f env s) fun x s => Wp (g env s) fun y s => Wp (o x y s) Q := by unfold e2; simp only [wp_bnd]
theorem wp_aNil : Wp (aNil env s) QL = QL [] s := by unfold aNil; rw [wp_ok]
theorem wp_aCons : Wp (aCons f fa env s) QL = Wp (f env s) fun x s => Wp (fa env s) fun xs s => QL (x :: xs) s := by unfold aCons; simp only [wp_bnd, wp_ok]
theorem wp_eB : Wp (eB bf fa env s) Q = Wp (fa env s) fun ds s => Wp (bf ds s) Q := by unfold eB; rw [wp_bnd]
theorem wp_call {fn : List D → Sto → Res D} : Wp (eCall fn fa env s) Q = Wp (fa env s) fun ds s => Wp (fn ds s) Q := by unfold eCall; simp only [wp_bnd, wp_ne]
theorem wp_lenOk {ds : List D} {r : Res α} {Q : α → Sto → Prop} : Wp (lenOk ds r) Q = (ds.length ≤ sizeLine ∧ Wp r Q) := propext ⟨fun ⟨b, s', e, q⟩ => by
  unfold lenOk at e
  split at e
  · exact ⟨by assumption, b, s', e, q⟩
  · (cases e), fun ⟨hl, b, s', e, q⟩ => ⟨b, s', by unfold lenOk; rw [if_pos hl]; exact e, q⟩⟩
theorem wp_tup : Wp (eTup fa env s) Q = Wp (fa env s) fun ds s => ds.length ≤ sizeLine ∧ Q (.tup ds) s := by unfold eTup; simp only [wp_bnd, wp_lenOk, wp_ok]
theorem wp_lst : Wp (eLst fa env s) Q = Wp (fa env s) fun ds s => ds.length ≤ sizeLine ∧ Q (.lst ds) s := by unfold eLst; simp only [wp_bnd, wp_lenOk, wp_ok]
theorem wp_new : Wp (eNew fa env s) Q = Wp (fa env s) fun ds s => ds.length ≤ sizeLine ∧ Q (.han s.length) (s ++ [.lst ds]) := by unfold eNew; simp only [wp_bnd, wp_lenOk, wp_ok]
theorem wp_frz : Wp (eFrz f env s) Q = Wp (f env s) fun d s => Wp (frz d s) Q := by unfold eFrz; rw [wp_bnd]
theorem wp_tBl : Wp (tBl f env s) QB = Wp (f env s) fun d s => Wp (isBl d s) QB := by unfold tBl; rw [wp_bnd]
theorem wp_isBl {b : Bool} : Wp (isBl (.bl b) s) QB = QB b s := by rw [show isBl (.bl b) s = ok b s from rfl, wp_ok]
theorem wp_tru : Wp (tTru f env s) QB = Wp (f env s) fun d s => Wp (truth d s) QB := by unfold tTru; rw [wp_bnd]
theorem wp_truB {b : Bool} : Wp (truth (.bl b) s) QB = QB b s := by rw [show truth (.bl b) s = ok b s from rfl, wp_ok]
theorem wp_tAnd : Wp (tAnd c c' env s) QB = Wp (c env s) fun b s => if b = true then Wp (c' env s) QB else QB false s := by
  unfold tAnd
  rw [wp_bnd]
  congr 1
  funext b s
  cases b <;> simp [wp_ok]
theorem wp_tOr : Wp (tOr c c' env s) QB = Wp (c env s) fun b s => if b = true then QB true s else Wp (c' env s) QB := by
  unfold tOr
  rw [wp_bnd]
  congr 1
  funext b s
  cases b <;> simp [wp_ok]
theorem wp_tNot : Wp (tNot c env s) QB = Wp (c env s) fun b s => QB (!b) s := by unfold tNot; simp only [wp_bnd, wp_ok]
theorem wp_eAnd : Wp (eAnd f g env s) Q = Wp (f env s) fun x s => Wp (isBl x s) fun b s => if b = true then Wp (g env s) Q else Q (.bl false) s := by
  unfold eAnd
  rw [wp_bnd]
  congr 1
  funext x s
  rw [wp_bnd]
  congr 1
  funext b s
  cases b <;> simp [wp_ok]
theorem wp_eOr : Wp (eOr f g env s) Q = Wp (f env s) fun x s => Wp (isBl x s) fun b s => if b = true then Q (.bl true) s else Wp (g env s) Q := by
  unfold eOr
  rw [wp_bnd]
  congr 1
  funext x s
  rw [wp_bnd]
  congr 1
  funext b s
  cases b <;> simp [wp_ok]
theorem wp_eNot : Wp (eNot f env s) Q = Wp (f env s) fun x s => Wp (isBl x s) fun b s => Q (.bl (!b)) s := by unfold eNot; simp only [wp_bnd, wp_ok]
theorem wp_eIf : Wp (eIf c f g env s) Q = Wp (c env s) fun b s => if b = true then Wp (f env s) Q else Wp (g env s) Q := by
  unfold eIf
  rw [wp_bnd]
  congr 1
  funext b s
  cases b <;> simp
theorem wp_eCh : Wp (eCh o o' f g h env s) Q = Wp (f env s) fun x s => Wp (g env s) fun y s => Wp (o x y s) fun z s => Wp (isBl z s) fun b s => if b = true then Wp (h env s) fun u s => Wp (o' y u s) Q else Q (.bl false) s := by
  unfold eCh
  simp only [wp_bnd]
  congr 1
  funext x s
  congr 1
  funext y s
  congr 1
  funext z s
  congr 1
  funext b s
  cases b <;> simp [wp_ok, wp_bnd]
theorem wp_ite {b : Bool} {r r' : Res α} {Q : α → Sto → Prop} : Wp (if b = true then r else r') Q = if b = true then Wp r Q else Wp r' Q := by cases b <;> simp
theorem wp_sNil : Wp (sNil env s) QF = QF (.nx env) s := by unfold sNil; rw [wp_ok]
theorem wp_sRet : Wp (sRet f env s) QF = Wp (f env s) fun d s => QF (.rt d) s := by unfold sRet; simp only [wp_bnd, wp_ok]
theorem wp_sExpr : Wp (sExpr f env s) QF = Wp (f env s) fun _ s => QF (.nx env) s := by unfold sExpr; simp only [wp_bnd, wp_ok]
theorem wp_sCont : Wp (sCont env s) QF = QF (.ct env) s := by unfold sCont; rw [wp_ok]
def aft (st : Env → Sto → Res Fl) (Q : Fl → Sto → Prop) : Fl → Sto → Prop := fun fl s => match fl with
  | .nx env => Wp (st env s) Q
  | fl => Q fl s
theorem wp_sSeq : Wp (sSeq st st' env s) QF = Wp (st env s) (aft st' QF) := propext ⟨fun h => by
  unfold sSeq at h
  rw [wp_bnd] at h
  refine h.mono fun fl s q => ?_
  cases fl with
  | nx e => exact q
  | rt d => have q : Wp (ok (Fl.rt d) s) QF := q; rw [wp_ok] at q; exact q
  | bk d => have q : Wp (ok (Fl.bk d) s) QF := q; rw [wp_ok] at q; exact q
  | ct d => have q : Wp (ok (Fl.ct d) s) QF := q; rw [wp_ok] at q; exact q, fun h => Wp.seq (h.mono fun fl s q => by cases fl <;> exact q)⟩
theorem aft_nx : aft st QF (.nx env) s = Wp (st env s) QF := rfl
theorem aft_rt {d : D} : aft st QF (.rt d) s = QF (.rt d) s := rfl
theorem aft_ct : aft st QF (.ct env) s = QF (.ct env) s := rfl
theorem wp_sIf : Wp (sIf c st st' env s) QF = Wp (c env s) fun b s => if b = true then Wp (st env s) QF else Wp (st' env s) QF := by
  unfold sIf
  rw [wp_bnd]
  congr 1
  funext b s
  cases b <;> simp
theorem wp_sAsg {gd : D → Env → Option Env} : Wp (sAsg f gd env s) QF = Wp (f env s) fun d s => ∃ e, gd d env = some e ∧ QF (.nx e) s := by
  unfold sAsg
  rw [wp_bnd]
  congr 1
  funext d s
  cases h : gd d env with
  | none => exact propext ⟨fun ⟨_, _, e, _⟩ => (by cases e), fun ⟨_, e, _⟩ => (by cases e)⟩
  | some e => rw [wp_ok]; exact propext ⟨fun q => ⟨e, rfl, q⟩, fun ⟨e', z, q⟩ => by cases z; exact q⟩
theorem asg_N {i : Nat} {d : D} {P : Env → Prop} : (∃ e, gN i d env = some e ∧ P e) = P (env.set i (some d)) := propext ⟨fun ⟨e, z, q⟩ => by cases z; exact q, fun q => ⟨_, rfl, q⟩⟩
theorem asg_T {gs : List (D → Env → Option Env)} {ds : List D} {P : Env → Prop} : (∃ e, gT gs (.tup ds) env = some e ∧ P e) = ∃ e, gAll gs ds env = some e ∧ P e := rfl
theorem asg_nil {P : Env → Prop} : (∃ e, gAll [] [] env = some e ∧ P e) = P env := propext ⟨fun ⟨e, z, q⟩ => by cases z; exact q, fun q => ⟨_, rfl, q⟩⟩
theorem asg_cons {i : Nat} {gs : List (D → Env → Option Env)} {d : D} {ds : List D} {P : Env → Prop} : (∃ e, gAll (gN i :: gs) (d :: ds) env = some e ∧ P e) = ∃ e, gAll gs ds (env.set i (some d)) = some e ∧ P e := rfl
theorem wp_par2 {i j : Nat} : Wp (par2 i j fa env s) QF = Wp (fa env s) fun ds s => ∃ x y, ds = [x, y] ∧ QF (.nx ((env.set i (some x)).set j (some y))) s := by
  unfold par2
  rw [wp_bnd]
  congr 1
  funext ds s
  match ds with
  | [x, y] =>
    show Wp (ok (Fl.nx ((env.set i (some x)).set j (some y))) s) QF = _
    rw [wp_ok]
    exact propext ⟨fun q => ⟨x, y, rfl, q⟩, fun ⟨x', y', e, q⟩ => by cases e; exact q⟩
  | [] => exact propext ⟨fun ⟨_, _, e, _⟩ => (by cases e), fun ⟨_, _, e, _⟩ => (by cases e)⟩
  | [_] => exact propext ⟨fun ⟨_, _, e, _⟩ => (by cases e), fun ⟨_, _, e, _⟩ => (by cases e)⟩
  | _ :: _ :: _ :: _ => exact propext ⟨fun ⟨_, _, e, _⟩ => (by cases e), fun ⟨_, _, e, _⟩ => (by cases e)⟩
theorem par_of {x y : D} {P : D → D → Prop} : (∃ x' y', [x, y] = [x', y'] ∧ P x' y') = P x y := propext ⟨fun ⟨_, _, e, q⟩ => by cases e; exact q, fun q => ⟨x, y, rfl, q⟩⟩
theorem wp_sFor {it : Env → Sto → Res (List D)} {gd : D → Env → Option Env} : Wp (sFor it gd st env s) QF = Wp (it env s) fun ds s => Wp (forGo gd st ds env s) QF := by unfold sFor; rw [wp_bnd]
theorem wp_sSub {fo fi : Env → Sto → Res D} : Wp (sSub f fo fi env s) QF = Wp (f env s) fun x s => Wp (fo env s) fun d s => Wp (fi env s) fun n s => ∃ s', setD d n x s = some s' ∧ QF (.nx env) s' := by
  unfold sSub
  simp only [wp_bnd]
  congr 1
  funext x s
  congr 1
  funext d s
  congr 1
  funext n s
  cases h : setD d n x s with
  | none => exact propext ⟨fun ⟨_, _, e, _⟩ => (by cases e), fun ⟨_, e, _⟩ => (by cases e)⟩
  | some e => simp only [wp_ok]; exact propext ⟨fun q => ⟨e, rfl, q⟩, fun ⟨e', z, q⟩ => by cases z; exact q⟩
theorem wp_app : Wp (eApp f g env s) Q = Wp (f env s) fun d s => lstH d s = true ∧ Wp (g env s) fun x s => Wp (appD d x s) Q := by
  unfold eApp
  rw [wp_bnd]
  congr 1
  funext d s
  cases h : lstH d s with
  | true => rw [if_pos rfl, wp_bnd]; simp
  | false => rw [if_neg Bool.false_ne_true]; exact propext ⟨fun ⟨_, _, e, _⟩ => (by cases e), fun ⟨e, _⟩ => (by cases e)⟩
def fin_ (Q : D → Sto → Prop) : Fl → Sto → Prop := fun fl s => match fl with
  | .rt d => Q d s
  | .nx _ => Q .non s
  | _ => False
theorem wp_fn {np ns : Nat} {ds : List D} : Wp (fnRun np ns st ds s) Q = (ds.length = np ∧ Wp (st (ds.map some ++ List.replicate (ns - np) none) s) (fin_ Q)) := by
  unfold fnRun
  by_cases h : ds.length = np
  · rw [if_pos h, wp_bnd]
    refine propext ⟨fun q => ⟨h, q.mono fun fl s q => ?_⟩, fun ⟨_, q⟩ => q.mono fun fl s q => ?_⟩
    · cases fl with
      | rt d => exact (show Wp (ok d s) Q from q) |> fun z => by rw [wp_ok] at z; exact z
      | nx e => exact (show Wp (ok D.non s) Q from q) |> fun z => by rw [wp_ok] at z; exact z
      | bk e => obtain ⟨_, _, e, _⟩ := q; cases e
      | ct e => obtain ⟨_, _, e, _⟩ := q; cases e
    · cases fl with
      | rt d => exact Wp.ok q
      | nx e => exact Wp.ok q
      | bk e => exact q.elim
      | ct e => exact q.elim
  · rw [if_neg h]
    exact propext ⟨fun ⟨_, _, e, _⟩ => (by cases e), fun ⟨e, _⟩ => absurd e h⟩
theorem fin_rt {d : D} : fin_ Q (.rt d) s = Q d s := rfl
theorem fin_nx : fin_ Q (.nx env) s = Q .non s := rfl
theorem wp_comp {nt : Nat} {cap : List Nat} {it : Env → Sto → Res (List D)} {gd : D → Env → Option Env} : Wp (eComp nt cap it gd c f env s) Q = Wp (it env s) fun ds s => ds.length ≤ sizeLine ∧ Wp (compGo nt (capsE cap env) gd c f ds s) fun xs s => Q (.lst xs) s := by
  unfold eComp; simp only [wp_bnd, wp_lenOk, wp_ok]
theorem wp_sl {l' h' : Env → Sto → Res (Option Int)} : Wp (eSl f l' h' env s) Q = Wp (f env s) fun d s => Wp (l' env s) fun lo s => Wp (h' env s) fun hi s => Wp (sliceD d lo hi s) Q := by unfold eSl; simp only [wp_bnd]
theorem wp_pNo : Wp (pNo env s) QO = QO none s := by unfold pNo; rw [wp_ok]
theorem wp_pInt {i : Int} (hi : f env s = ok (.int i) s) : Wp (pInt f env s) QO = QO (some i) s := by unfold pInt; rw [hi, bnd_ok, wp_ok]
end
end DI

set_option Elab.async false
set_option linter.all false
set_option maxRecDepth 100000
set_option maxHeartbeats 4000000
namespace DI
open PySem L2
def StAt (s : Sto) (k : Nat) : Prop := ∃ a b : Int, s[k]? = some (.lst [.int a, .int b]) ∧ 0 ≤ a ∧ 0 ≤ b ∧ b < 2147483647
structure Ex (k : Nat) (s s' : Sto) : Prop where
  len : s.length ≤ s'.length
  val : ∀ j, j < s.length → j ≠ k → s'[j]? = s[j]?
theorem Ex.refl (k : Nat) (s : Sto) : Ex k s s := ⟨Nat.le_refl _, fun _ _ _ => rfl⟩
theorem Ex.trans {k : Nat} {a b c : Sto} (h : Ex k a b) (g : Ex k b c) : Ex k a c := ⟨Nat.le_trans h.len g.len, fun j hj hk => (g.val j (Nat.lt_of_lt_of_le hj h.len) hk).trans (h.val j hj hk)⟩
theorem Ex.set (k : Nat) (s : Sto) (c : Cell) : Ex k s (s.set k c) := ⟨by simp, fun j _ hj => List.getElem?_set_ne (Ne.symm hj)⟩
theorem Ex.app (k : Nat) (s : Sto) (c : List Cell) : Ex k s (s ++ c) := ⟨by simp, fun j hj _ => List.getElem?_append_left hj⟩
theorem StAt.lt {s : Sto} {k : Nat} (h : StAt s k) : k < s.length := by
  obtain ⟨a, b, e, _⟩ := h
  exact (List.getElem?_eq_some_iff.mp e).1
theorem StAt.app {s : Sto} {k : Nat} (h : StAt s k) (c : List Cell) : StAt (s ++ c) k := by
  obtain ⟨a, b, e, r⟩ := h
  exact ⟨a, b, by rw [List.getElem?_append_left (List.getElem?_eq_some_iff.mp e).1]; exact e, r⟩
theorem StAt.set {s : Sto} {k j : Nat} (h : StAt s k) (hj : j ≠ k) (c : Cell) : StAt (s.set j c) k := by
  obtain ⟨a, b, e, r⟩ := h
  exact ⟨a, b, by rw [List.getElem?_set_ne hj]; exact e, r⟩
theorem ix0 (x y : D) (k : Nat) (s : Sto) (h : s[k]? = some (.lst [x, y])) : opIx (.han k) (.int 0) s = ok x s := by
  simp [opIx, ixD, res, h, atI, ixN, pur]
theorem ix1 (x y : D) (k : Nat) (s : Sto) (h : s[k]? = some (.lst [x, y])) : opIx (.han k) (.int 1) s = ok y s := by
  simp [opIx, ixD, res, h, atI, ixN, pur]
theorem set0 (x y z : D) (k : Nat) (s : Sto) (h : s[k]? = some (.lst [x, y])) : setD (.han k) (.int 0) z s = some (s.set k (.lst [z, y])) := by
  simp [setD, h, ixN]
theorem set1 (x y z : D) (k : Nat) (s : Sto) (h : s[k]? = some (.lst [x, y])) : setD (.han k) (.int 1) z s = some (s.set k (.lst [x, z])) := by
  simp [setD, h, ixN]
@[simp] theorem eLoc_0 {a : D} {r : Env} {s : Sto} : eLoc 0 (some a :: r) s = ok a s := rfl
@[simp] theorem eLoc_s {i : Nat} {a : Option D} {r : Env} {s : Sto} : eLoc (i + 1) (a :: r) s = eLoc i r s := rfl
theorem ltI (i j : Int) (s : Sto) : opLt (.int i) (.int j) s = ok (.bl (decide (i < j))) s := rfl
theorem gtI (i j : Int) (s : Sto) : opGt (.int i) (.int j) s = ok (.bl (decide (j < i))) s := rfl
theorem geI (i j : Int) (s : Sto) : opGe (.int i) (.int j) s = ok (.bl (decide (j ≤ i))) s := rfl
theorem leI (i j : Int) (s : Sto) : opLe (.int i) (.int j) s = ok (.bl (decide (i ≤ j))) s := rfl
theorem addI (i j : Int) (s : Sto) : opAdd (.int i) (.int j) s = ok (.int (i + j)) s := rfl
theorem subI (i j : Int) (s : Sto) : opSub (.int i) (.int j) s = ok (.int (i - j)) s := rfl
theorem eqI (i j : Int) (s : Sto) : opEq (.int i) (.int j) s = ok (.bl (i == j)) s := rfl
theorem neI (i j : Int) (s : Sto) : opNe (.int i) (.int j) s = ok (.bl (!(i == j))) s := rfl
theorem modI {i j : Int} (s : Sto) (h : 0 < j) : opMod (.int i) (.int j) s = ok (.int (i % j)) s := by
  simp [opMod, modD, h, pur]
theorem divI {i j : Int} (s : Sto) (h : 0 < j) (h2 : j < 1073741824) : opDiv (.int i) (.int j) s = ok (.int (i / j)) s := by
  simp [opDiv, divD, h, h2, pur]
theorem mulI {i j : Int} (s : Sto) (h : mulOk i j = true) : opMul (.int i) (.int j) s = ok (.int (i * j)) s := by
  simp [opMul, mulD, h, pur]
theorem mulOk_of {i j : Int} (h1 : -(2 ^ 64) < i) (h2 : i < 2 ^ 64) : mulOk i j = true := by
  unfold mulOk
  rw [decide_eq_true h1, decide_eq_true h2]
  rfl
theorem take_ok {s : Sto} {k : Nat} {m : Int} (h : StAt s k) (h1 : 0 < m) (h2 : m < 1073741824) : Wp (f_Ltake [.han k, .int m] s) fun d s' => ∃ r : Int, d = .int r ∧ 0 ≤ r ∧ r < m ∧ StAt s' k ∧ Ex k s s' := by
  obtain ⟨a, b, e, ha, hb, hb2⟩ := h
  have hk := (List.getElem?_eq_some_iff.mp e).1
  by_cases h0 : 0 < a
  · have es : (s.set k (.lst [.int (a / m), .int b]))[k]? = some (.lst [.int (a / m), .int b]) := List.getElem?_set_self hk
    refine ⟨.int (a % m), s.set k (.lst [.int (a / m), .int b]), ?_, a % m, rfl, Int.emod_nonneg _ (by omega), Int.emod_lt_of_pos _ h1, ⟨a / m, b, es, Int.ediv_nonneg ha (by omega), hb, hb2⟩, Ex.set _ _ _⟩
    simp only [f_Ltake, fnRun, sSeq, sIf, tBl, e2, eLoc_0, eLoc_s, eC, bnd_ok, List.map_cons, List.map_nil, List.cons_append, List.nil_append, ix0 _ _ k s e, gtI, isBl, List.length_cons, List.length_nil, decide_eq_true h0, if_true, sAsg, gN, modI s h1, sSub, divI s h1 h2, set0 _ _ _ k s e, sRet, List.set_cons_succ, List.set_cons_zero, List.replicate]
  · have hn : decide (0 < a) = false := decide_eq_false h0
    have ex : 0 ≤ (b * 48271 + 29) % 2147483647 ∧ (b * 48271 + 29) % 2147483647 < 2147483647 := ⟨Int.emod_nonneg _ (by decide), Int.emod_lt_of_pos _ (by decide)⟩
    generalize hx : (b * 48271 + 29) % 2147483647 = x at ex
    have es : (s.set k (.lst [.int a, .int x]))[k]? = some (.lst [.int a, .int x]) := List.getElem?_set_self hk
    generalize hy : (x * x + 39373 * x + 7) % 2147483629 = y
    have ey : 0 ≤ y ∧ y < 2147483629 := by rw [← hy]; exact ⟨Int.emod_nonneg _ (by decide), Int.emod_lt_of_pos _ (by decide)⟩
    generalize hz : (y * y + 16807 * y) % 2147483587 = z
    refine ⟨.int (z / 8 % m), s.set k (.lst [.int a, .int x]), ?_, _, rfl, Int.emod_nonneg _ (by omega), Int.emod_lt_of_pos _ h1, ⟨a, x, es, ha, ex.1, ex.2⟩, Ex.set _ _ _⟩
    have m1 : opMul (.int b) (.int 48271) s = ok (.int (b * 48271)) s := mulI s (mulOk_of (by omega) (by omega))
    have m2 : ∀ s', opMul (.int x) (.int x) s' = ok (.int (x * x)) s' := fun s' => mulI s' (mulOk_of (by omega) (by omega))
    have m3 : ∀ s', opMul (.int 39373) (.int x) s' = ok (.int (39373 * x)) s' := fun s' => mulI s' (mulOk_of (by decide) (by decide))
    have m4 : ∀ s', opMul (.int y) (.int y) s' = ok (.int (y * y)) s' := fun s' => mulI s' (mulOk_of (by omega) (by omega))
    have m5 : ∀ s', opMul (.int 16807) (.int y) s' = ok (.int (16807 * y)) s' := fun s' => mulI s' (mulOk_of (by decide) (by decide))
    simp only [f_Ltake, fnRun, sSeq, sIf, tBl, e2, eLoc_0, eLoc_s, eC, bnd_ok, List.map_cons, List.map_nil, List.cons_append, List.nil_append, ix0 _ _ k s e, ix1 _ _ k s e, gtI, isBl, List.length_cons, List.length_nil, hn, Bool.false_eq_true, if_false, if_true, sNil, sSub, m1, addI, modI _ (show (0 : Int) < 2147483647 by decide), hx, set1 _ _ _ k s e, sAsg, gN, ix1 _ _ k _ es, m2, m3,
      modI _ (show (0 : Int) < 2147483629 by decide), hy, List.set_cons_succ, List.set_cons_zero, List.replicate, m4, m5, modI _ (show (0 : Int) < 2147483587 by decide), hz, sRet, divI _ (show (0 : Int) < 8 by decide) (by decide), modI _ h1]
theorem le_size {n : Nat} (h : n ≤ 1000000) : n ≤ sizeLine := Nat.le_trans h (by decide)
theorem inRng_of {j : Int} (h1 : -1000000 ≤ j) (h2 : j ≤ 1000000) : inRng j = true := by
  unfold inRng
  rw [decide_eq_true (show -(2 ^ 62) ≤ j by omega), decide_eq_true (show j < 2 ^ 62 by omega)]
  rfl
theorem lenOk_ok {α : Type} {ds : List D} {r : Res α} (h : ds.length ≤ 1000000) : lenOk ds r = r := if_pos (le_size h)
theorem atI_lt {α : Type} {xs : List α} {i : Int} (h0 : 0 ≤ i) (h1 : i < xs.length) : ∃ x, atI xs i = some x ∧ xs[i.toNat]? = some x := by
  have hj : i.toNat < xs.length := by omega
  refine ⟨xs[i.toNat], ?_, List.getElem?_eq_getElem hj⟩
  unfold atI ixN
  rw [if_pos h0, if_pos h1]
  exact List.getElem?_eq_getElem hj
theorem cell_ok {ns : List Int} {i : Int} {s : Sto} (h0 : 0 ≤ i) : ∃ c : Int, f_Lcell_at [.scr ns, .int i] s = ok (.int c) s := by
  by_cases h : i < (ns.length : Int)
  · obtain ⟨x, h1, _⟩ := atI_lt h0 h
    refine ⟨x, ?_⟩
    have hx : opIx (.scr ns) (.int i) s = ok (.int x) s := by simp [opIx, ixD, res, h1, pur]
    simp only [f_Lcell_at, fnRun, sSeq, sIf, tBl, e2, eB, aCons, aNil, bLen, lenD, res, pur, eLoc_0, eLoc_s, eC, bnd_ok, List.map_cons, List.map_nil, List.cons_append, List.nil_append, List.length_cons, List.length_nil, if_true, ltI, isBl, decide_eq_true h, sRet, hx, List.replicate]
  · refine ⟨0, ?_⟩
    simp only [f_Lcell_at, fnRun, sSeq, sIf, tBl, e2, eB, aCons, aNil, bLen, lenD, res, pur, eLoc_0, eLoc_s, eC, bnd_ok, List.map_cons, List.map_nil, List.cons_append, List.nil_append, List.length_cons, List.length_nil, if_true, ltI, isBl, decide_eq_false h, Bool.false_eq_true, if_false, sNil, sRet, List.replicate]
theorem state_ok {ns : List Int} {i : Int} {s : Sto} (h0 : 0 ≤ i) : Wp (f_Lstate [.scr ns, .int i] s) fun d s' => d = .han s.length ∧ StAt s' s.length ∧ ∃ c, s' = s ++ [c] := by
  obtain ⟨c, hc⟩ := cell_ok (ns := ns) (s := s) h0
  have hp : ∀ s, opPow (.int 10) (.int 18) s = ok (.int (10 ^ 18)) s := fun s => by
    have e : powD (.int 10) (.int 18) = some (.int (10 ^ 18)) := by
      show (if (decide ((0 : Int) ≤ 18) && decide ((18 : Int) ≤ 1000000) && decide ((10 : Int).natAbs < 2 ^ 64)) = true then some (D.int (10 ^ (18 : Int).toNat)) else none) = _
      rw [if_pos (by decide)]
      rfl
    simp only [opPow, e, pur]
  refine ⟨.han s.length, s ++ [.lst [.int (if c - 10 ^ 18 > 0 then c - 10 ^ 18 else 0), .int (c % 2147483647)]], ?_, rfl, ⟨_, _, by simp; exact ⟨rfl, rfl⟩, ?_, Int.emod_nonneg _ (by decide), Int.emod_lt_of_pos _ (by decide)⟩, _, rfl⟩
  · simp only [f_Lstate, fnRun, sSeq, sAsg, eCall, aCons, aNil, eLoc_0, eLoc_s, eC, bnd_ok, List.map_cons, List.map_nil, List.cons_append, List.nil_append, List.length_cons, List.length_nil, if_true, hc, ne_ok, gN, List.set_cons_succ, List.set_cons_zero, List.replicate, sRet, eNew, eB, bMax2, e2, hp, subI, modI _ (show (0 : Int) < 2147483647 by decide)]
    rw [lenOk_ok (by simp)]
    rfl
  · split <;> omega
structure Mks (m : Nat) (ns : List Int) : Prop where
  lo : ∀ x ∈ ns, 0 ≤ x ∧ x < m
  up : ns.Pairwise (· < ·)
abbrev mD (ns : List Int) : D := .tup (ns.map D.int)
theorem Mks.len {m : Nat} {ns : List Int} (h : Mks m ns) : ns.length ≤ m := by
  have key : ∀ (l : List Int) (b : Int), l.Pairwise (· < ·) → (∀ x ∈ l, b ≤ x ∧ x < m) → (l.length : Int) ≤ m - b ∨ l = [] := by
    intro l
    induction l with
    | nil => intro b _ _; exact .inr rfl
    | cons x l ih =>
      intro b hp hb
      obtain ⟨h1, h2⟩ := List.pairwise_cons.mp hp
      have hx := hb x List.mem_cons_self
      left
      rcases ih (x + 1) h2 (fun y hy => ⟨by have := h1 y hy; omega, (hb y (List.mem_cons_of_mem _ hy)).2⟩) with h | h
      · rw [List.length_cons]; omega
      · subst h
        simp
        omega
  rcases key ns 0 h.up h.lo with h' | h'
  · omega
  · subst h'; simp
theorem marks_aux {s1 : Sto} {k n : Nat} {w : Int} (h1 : StAt s1 k) (w0 : 0 ≤ w) (w1 : w < 4) : Wp (compGo 1 (capsE [0, 2] [some (.han k), some (.int n), some (.int (1 + w))]) (gN 0) (tBl (e2 opEq (eCall f_Ltake (aCons (eLoc 1) (aCons (e2 opAdd (eLoc 2) (eC (.int 1))) aNil))) (eC (.int 0)))) (eLoc 0) (rng 0 n) s1)
      fun xs s' => ∃ ns, xs = ns.map D.int ∧ Mks n ns ∧ StAt s' k ∧ Ex k s1 s' := by
  refine comp_wp (fun i acc s' => ∃ ns : List Int, acc = ns.map D.int ∧ Mks i ns ∧ StAt s' k ∧ Ex k s1 s') (rng 0 n) ⟨[], rfl, ⟨by simp, .nil⟩, h1, Ex.refl _ _⟩ (fun i d acc s' hd hI => ?_) fun acc s' hI => ?_
  · obtain ⟨ns, rfl, hm, h2, x2⟩ := hI
    rw [rng_get] at hd
    split at hd
    · cases hd
      refine ⟨[some (.int (0 + i)), some (.han k), some (.int (1 + w))], rfl, ?_⟩
      have ht := take_ok h2 (m := 1 + w + 1) (by omega) (by omega)
      obtain ⟨d, s3, e3, r, rfl, r0, r1, h3, x3⟩ := ht
      have hb : tBl (e2 opEq (eCall f_Ltake (aCons (eLoc 1) (aCons (e2 opAdd (eLoc 2) (eC (.int 1))) aNil))) (eC (.int 0))) [some (.int (0 + (i : Int))), some (.han k), some (.int (1 + w))] s' = ok (r == 0) s3 := by
        simp only [tBl, e2, eCall, aCons, aNil, eLoc_0, eLoc_s, eC, bnd_ok, addI, e3, ne_ok, eqI, isBl]
      refine Wp.of hb ?_
      split
      · refine Wp.ok ⟨ns ++ [0 + (i : Int)], by simp, ⟨fun x hx => ?_, ?_⟩, h3, x2.trans x3⟩
        · rcases List.mem_append.mp hx with hx | hx
          · have := hm.lo x hx; omega
          · rw [List.mem_singleton.mp hx]; omega
        · refine List.pairwise_append.mpr ⟨hm.up, by simp, fun x hx y hy => ?_⟩
          rw [List.mem_singleton.mp hy]
          have := hm.lo x hx; omega
      · exact ⟨ns, rfl, ⟨fun x hx => by have := hm.lo x hx; omega, hm.up⟩, h3, x2.trans x3⟩
    · cases hd
  · rw [rng_len] at hI
    exact hI
theorem iR1_of {fa : Env → Sto → Res (List D)} {env : Env} {s s1 : Sto} {n : Nat} (h : fa env s = ok [.int n] s1) (hn : n ≤ 1000000) : iR1 fa env s = ok (rng 0 n) s1 := by
  unfold iR1
  rw [h, bnd_ok]
  show (if inRng (n : Int) = true then ok (rng 0 (n : Int).toNat) s1 else none) = _
  rw [if_pos (inRng_of (by omega) (by omega)), Int.toNat_natCast]
theorem iR2_of {fa : Env → Sto → Res (List D)} {env : Env} {s s1 : Sto} {i j : Int} (h : fa env s = ok [.int i, .int j] s1) (h1 : -1000000 ≤ i) (h2 : i ≤ 1000000) (h3 : -1000000 ≤ j) (h4 : j ≤ 1000000) : iR2 fa env s = ok (rng i (j - i).toNat) s1 := by
  unfold iR2
  rw [h, bnd_ok]
  show (if (inRng i && inRng j) = true then ok (rng i (j - i).toNat) s1 else none) = _
  rw [if_pos (by rw [inRng_of h1 h2, inRng_of h3 h4]; rfl)]
theorem wp_ltI {i j : Int} {s : Sto} {Q : D → Sto → Prop} : Wp (opLt (.int i) (.int j) s) Q = Q (.bl (decide (i < j))) s := by rw [ltI, wp_ok]
theorem wp_gtI {i j : Int} {s : Sto} {Q : D → Sto → Prop} : Wp (opGt (.int i) (.int j) s) Q = Q (.bl (decide (j < i))) s := by rw [gtI, wp_ok]
theorem wp_geI {i j : Int} {s : Sto} {Q : D → Sto → Prop} : Wp (opGe (.int i) (.int j) s) Q = Q (.bl (decide (j ≤ i))) s := by rw [geI, wp_ok]
theorem wp_leI {i j : Int} {s : Sto} {Q : D → Sto → Prop} : Wp (opLe (.int i) (.int j) s) Q = Q (.bl (decide (i ≤ j))) s := by rw [leI, wp_ok]
theorem wp_addI {i j : Int} {s : Sto} {Q : D → Sto → Prop} : Wp (opAdd (.int i) (.int j) s) Q = Q (.int (i + j)) s := by rw [addI, wp_ok]
theorem wp_subI {i j : Int} {s : Sto} {Q : D → Sto → Prop} : Wp (opSub (.int i) (.int j) s) Q = Q (.int (i - j)) s := by rw [subI, wp_ok]
theorem wp_eqI {i j : Int} {s : Sto} {Q : D → Sto → Prop} : Wp (opEq (.int i) (.int j) s) Q = Q (.bl (i == j)) s := by rw [eqI, wp_ok]
theorem wp_neI {i j : Int} {s : Sto} {Q : D → Sto → Prop} : Wp (opNe (.int i) (.int j) s) Q = Q (.bl (!(i == j))) s := by rw [neI, wp_ok]
theorem marks_ok {s : Sto} {k n : Nat} (h : StAt s k) (hn : n ≤ 8) : Wp (f_Lmarks [.han k, .int n] s) fun d s' => ∃ ns, d = mD ns ∧ Mks n ns ∧ StAt s' k ∧ Ex k s s' := by
  unfold f_Lmarks
  simp only [wp_ok, wp_ok', wp_ne, wp_loc0, wp_locS, wp_C, wp_e1, wp_e2, wp_aNil, wp_aCons, wp_eB, wp_call, wp_tup, wp_lst, wp_new, wp_frz, wp_tBl, wp_isBl, wp_tru, wp_truB, wp_tAnd, wp_tOr, wp_tNot, wp_eAnd, wp_eOr, wp_eNot, wp_eIf, wp_eCh, wp_sNil, wp_sRet, wp_sExpr, wp_sCont, wp_sSeq, aft_nx, aft_rt, aft_ct, wp_sIf, wp_sAsg, asg_N, asg_T, asg_nil, asg_cons, wp_par2, par_of, wp_sFor, wp_sSub, wp_app, wp_fn, fin_rt, fin_nx, wp_comp, wp_sl, wp_pNo, List.map_cons, List.map_nil, List.cons_append, List.nil_append, List.length_cons, List.length_nil, List.set_cons_succ, List.set_cons_zero, List.replicate, true_and, Nat.reduceSub, Nat.reduceAdd, wp_ltI, wp_gtI, wp_geI, wp_leI, wp_addI, wp_subI, wp_eqI, wp_neI]
  refine (take_ok h (by decide) (by decide)).mono fun d s1 hd => ?_
  obtain ⟨w, rfl, w0, w1, h1, x1⟩ := hd
  simp only [wp_ok, wp_ok', wp_ne, wp_loc0, wp_locS, wp_C, wp_e1, wp_e2, wp_aNil, wp_aCons, wp_eB, wp_call, wp_tup, wp_lst, wp_new, wp_frz, wp_tBl, wp_isBl, wp_tru, wp_truB, wp_tAnd, wp_tOr, wp_tNot, wp_eAnd, wp_eOr, wp_eNot, wp_eIf, wp_eCh, wp_sNil, wp_sRet, wp_sExpr, wp_sCont, wp_sSeq, aft_nx, aft_rt, aft_ct, wp_sIf, wp_sAsg, asg_N, asg_T, asg_nil, asg_cons, wp_par2, par_of, wp_sFor, wp_sSub, wp_app, wp_fn, fin_rt, fin_nx, wp_comp, wp_sl, wp_pNo, List.map_cons, List.map_nil, List.cons_append, List.nil_append, List.length_cons, List.length_nil, List.set_cons_succ, List.set_cons_zero, List.replicate, true_and, Nat.reduceSub, Nat.reduceAdd, wp_ltI, wp_gtI, wp_geI, wp_leI, wp_addI, wp_subI, wp_eqI, wp_neI]
  refine Wp.of (iR1_of rfl (by omega)) ⟨by rw [rng_len]; exact le_size (by omega), (marks_aux h1 w0 w1).mono fun xs s2 hx => ?_⟩
  obtain ⟨ns, rfl, hm, h2, x2⟩ := hx
  exact Wp.of rfl ⟨ns, rfl, hm, h2, x1.trans x2⟩
end DI

set_option Elab.async false
set_option linter.all false
set_option maxRecDepth 100000
set_option maxHeartbeats 4000000
namespace DI
open PySem L2
theorem Wp.eq {α : Type} {r : Res α} {d : α} {s : Sto} (h : Wp r fun a s' => a = d ∧ s' = s) : r = DI.ok d s := by
  obtain ⟨a, s', e, rfl, rfl⟩ := h
  exact e
theorem iSeqT_of {f : Env → Sto → Res D} {env : Env} {s s1 : Sto} {ds : List D} (h : f env s = ok (.tup ds) s1) : iSeq f env s = ok ds s1 := by
  unfold iSeq
  rw [h]
  rfl
theorem iSeqL_of {f : Env → Sto → Res D} {env : Env} {s s1 : Sto} {ds : List D} (h : f env s = ok (.lst ds) s1) : iSeq f env s = ok ds s1 := by
  unfold iSeq
  rw [h]
  rfl
theorem lays_ints : ∀ (ns : List Int), lays (ns.map D.int) = true
  | [] => rfl
  | n :: ns => by simp only [List.map_cons, lays, lay, lays_ints ns, Bool.and_self]
theorem deps_ints : ∀ (ns : List Int), deps (ns.map D.int) = 0
  | [] => rfl
  | n :: ns => by simp only [List.map_cons, deps, dep, deps_ints ns, Nat.max_self]
theorem any_int (x : Int) (ns : List Int) : ((ns.map D.int).any fun y => beq y (.int x)) = decide (x ∈ ns) := by
  induction ns with
  | nil => simp
  | cons n ns ih =>
    simp only [List.map_cons, List.any_cons, ih, beq]
    by_cases h : n = x
    · subst h; simp
    · have h' : ¬ x = n := fun e => h e.symm
      simp [h, h']
theorem in_ints {x : Int} {ns : List Int} {s : Sto} : opIn (.int x) (mD ns) s = ok (.bl (decide (x ∈ ns))) s := by
  have hl : laysD 100 (.int x) (ns.map D.int) = true := by simp only [laysD, lay, lays_ints, dep, Bool.and_self, Nat.zero_le, decide_true]
  have e : inD (.int x) (ns.map D.int) = some (decide (x ∈ ns)) := by unfold inD; rw [if_pos hl, any_int]
  unfold opIn
  rw [show seqOf (mD ns) s = some (ns.map D.int) from rfl]
  simp only [e]
  rfl
theorem notIn_ints {x : Int} {ns : List Int} {s : Sto} : opNotIn (.int x) (mD ns) s = ok (.bl (!decide (x ∈ ns))) s := by
  have hl : laysD 100 (.int x) (ns.map D.int) = true := by simp only [laysD, lay, lays_ints, dep, Bool.and_self, Nat.zero_le, decide_true]
  have e : inD (.int x) (ns.map D.int) = some (decide (x ∈ ns)) := by unfold inD; rw [if_pos hl, any_int]
  unfold opNotIn
  rw [show seqOf (mD ns) s = some (ns.map D.int) from rfl]
  simp only [e]
  rfl
def sub (a b : List Int) : Bool := a.all fun x => decide (x ∈ b)
theorem sub_iff {a b : List Int} : sub a b = true ↔ ∀ x ∈ a, x ∈ b := by simp [sub]
theorem sub_trans {a b c : List Int} (h : sub a b = true) (g : sub b c = true) : sub a c = true := by
  rw [sub_iff] at *
  exact fun x hx => g x (h x hx)
theorem all_bls {α : Type} (p : α → Bool) (xs : List α) (s : Sto) : bAll [.lst (xs.map fun x => D.bl (p x))] s = ok (.bl (xs.all p)) s := by
  have e : bls (xs.map fun x => D.bl (p x)) = some (xs.map p) := by
    have := bls_map (bs := xs.map p)
    rw [List.map_map] at this
    exact this
  show pur ((bls (xs.map fun x => D.bl (p x))).map fun (bs : List Bool) => D.bl (bs.all id)) s = _
  rw [e]
  show ok (D.bl ((xs.map p).all id)) s = _
  rw [List.all_map]
  rfl
theorem filter_tt {α : Type} (xs : List α) : xs.filter (fun _ => true) = xs := by simp
theorem comp_ints {nt : Nat} {caps : Env} {g : D → Env → Option Env} {t : Env → Sto → Res Bool} {f : Env → Sto → Res D} {s : Sto} (p : Int → Bool) (h : Int → D) (ns : List Int) (hh : ∀ n ∈ ns, ∃ env, g (.int n) (List.replicate nt none ++ caps) = some env ∧ t env s = ok (p n) s ∧ (p n = true → f env s = ok (h n) s)) :
    compGo nt caps g t f (ns.map D.int) s = ok ((ns.filter p).map h) s := by
  induction ns with
  | nil => rfl
  | cons n ns ih =>
    obtain ⟨env, h1, h2, h3⟩ := hh n List.mem_cons_self
    have ih := ih fun n' h' => hh n' (List.mem_cons_of_mem _ h')
    rw [List.map_cons]
    unfold compGo
    rw [h1]
    simp only [h2, ne_ok, bnd_ok]
    cases hp : p n with
    | true => simp only [if_true, h3 hp, ne_ok, bnd_ok, ih, List.filter_cons, hp, List.map_cons]
    | false => simp only [Bool.false_eq_true, if_false, ih, List.filter_cons, hp]
theorem comp_map {α : Type} (d : α → D) {nt : Nat} {caps : Env} {g : D → Env → Option Env} {t : Env → Sto → Res Bool} {f : Env → Sto → Res D} {s : Sto} (p : α → Bool) (h : α → D) (xs : List α) (hh : ∀ x ∈ xs, ∃ env, g (d x) (List.replicate nt none ++ caps) = some env ∧ t env s = ok (p x) s ∧ (p x = true → f env s = ok (h x) s)) :
    compGo nt caps g t f (xs.map d) s = ok ((xs.filter p).map h) s := by
  induction xs with
  | nil => rfl
  | cons n ns ih =>
    obtain ⟨env, h1, h2, h3⟩ := hh n List.mem_cons_self
    have ih := ih fun n' h' => hh n' (List.mem_cons_of_mem _ h')
    rw [List.map_cons]
    unfold compGo
    rw [h1]
    simp only [h2, ne_ok, bnd_ok]
    cases hp : p n with
    | true => simp only [if_true, h3 hp, ne_ok, bnd_ok, ih, List.filter_cons, hp, List.map_cons]
    | false => simp only [Bool.false_eq_true, if_false, ih, List.filter_cons, hp]
theorem has_all_eq {a b : List Int} {s : Sto} (hb : b.length ≤ 1000000) : f_has_all [mD a, mD b] s = ok (.bl (sub b a)) s := by
  refine Wp.eq ?_
  unfold f_has_all
  simp only [wp_ok, wp_ok', wp_ne, wp_loc0, wp_locS, wp_C, wp_e1, wp_e2, wp_aNil, wp_aCons, wp_eB, wp_call, wp_tup, wp_lst, wp_new, wp_frz, wp_tBl, wp_isBl, wp_tru, wp_truB, wp_tAnd, wp_tOr, wp_tNot, wp_eAnd, wp_eOr, wp_eNot, wp_eIf, wp_eCh, wp_sNil, wp_sRet, wp_sExpr, wp_sCont, wp_sSeq, aft_nx, aft_rt, aft_ct, wp_sIf, wp_sAsg, asg_N, asg_T, asg_nil, asg_cons, wp_par2, par_of, wp_sFor, wp_sSub, wp_app, wp_fn, fin_rt, fin_nx, wp_comp, wp_sl, wp_pNo, List.map_cons, List.map_nil, List.cons_append, List.nil_append, List.length_cons, List.length_nil, List.set_cons_succ, List.set_cons_zero, List.replicate, true_and, Nat.reduceSub, Nat.reduceAdd, wp_ltI, wp_gtI, wp_geI, wp_leI, wp_addI, wp_subI, wp_eqI, wp_neI]
  refine Wp.of (iSeqT_of rfl) ⟨le_size (by rw [List.length_map]; exact hb), ?_⟩
  refine Wp.of (comp_ints (fun _ => true) (fun x => .bl (decide (x ∈ a))) b fun n _ => ⟨[some (.int n), some (mD a)], rfl, rfl, fun _ => ?_⟩) ?_
  · show e2 opIn (eLoc 0) (eLoc 1) _ _ = _
    exact in_ints
  · rw [filter_tt]
    exact Wp.of (all_bls _ _ _) ⟨rfl, rfl⟩
end DI

set_option Elab.async false
set_option linter.all false
set_option maxRecDepth 100000
set_option maxHeartbeats 4000000
namespace DI
open PySem L2
theorem number_eq {i : Int} {s : Sto} : f_is_number [.int i] s = ok (.bl (decide (0 ≤ i))) s := by
  rfl
theorem below_eq {i m : Int} {s : Sto} : f_is_below [.int i, .int m] s = ok (.bl (decide (0 ≤ i) && decide (i < m))) s := by
  refine Wp.eq ?_
  unfold f_is_below
  simp only [wp_ok, wp_ok', wp_ne, wp_loc0, wp_locS, wp_C, wp_e1, wp_e2, wp_aNil, wp_aCons, wp_eB, wp_call, wp_tup, wp_lst, wp_new, wp_frz, wp_tBl, wp_isBl, wp_tru, wp_truB, wp_tAnd, wp_tOr, wp_tNot, wp_eAnd, wp_eOr, wp_eNot, wp_eIf, wp_eCh, wp_sNil, wp_sRet, wp_sExpr, wp_sCont, wp_sSeq, aft_nx, aft_rt, aft_ct, wp_sIf, wp_sAsg, asg_N, asg_T, asg_nil, asg_cons, wp_par2, par_of, wp_sFor, wp_sSub, wp_app, wp_fn, fin_rt, fin_nx, wp_comp, wp_sl, wp_pNo, List.map_cons, List.map_nil, List.cons_append, List.nil_append, List.length_cons, List.length_nil, List.set_cons_succ, List.set_cons_zero, List.replicate, true_and, Nat.reduceSub, Nat.reduceAdd, wp_ltI, wp_gtI, wp_geI, wp_leI, wp_addI, wp_subI, wp_eqI, wp_neI, number_eq]
  by_cases h : 0 ≤ i
  · simp [h]
  · simp [h]
theorem mark_eq {i : Int} {s : Sto} : f_is_mark [.int i] s = ok (.bl (decide (0 ≤ i) && decide (i < 8))) s := by
  refine Wp.eq ?_
  unfold f_is_mark
  simp only [wp_ok, wp_ok', wp_ne, wp_loc0, wp_locS, wp_C, wp_e1, wp_e2, wp_aNil, wp_aCons, wp_eB, wp_call, wp_tup, wp_lst, wp_new, wp_frz, wp_tBl, wp_isBl, wp_tru, wp_truB, wp_tAnd, wp_tOr, wp_tNot, wp_eAnd, wp_eOr, wp_eNot, wp_eIf, wp_eCh, wp_sNil, wp_sRet, wp_sExpr, wp_sCont, wp_sSeq, aft_nx, aft_rt, aft_ct, wp_sIf, wp_sAsg, asg_N, asg_T, asg_nil, asg_cons, wp_par2, par_of, wp_sFor, wp_sSub, wp_app, wp_fn, fin_rt, fin_nx, wp_comp, wp_sl, wp_pNo, List.map_cons, List.map_nil, List.cons_append, List.nil_append, List.length_cons, List.length_nil, List.set_cons_succ, List.set_cons_zero, List.replicate, true_and, Nat.reduceSub, Nat.reduceAdd, wp_ltI, wp_gtI, wp_geI, wp_leI, wp_addI, wp_subI, wp_eqI, wp_neI, below_eq, true_and]
theorem cutD_all (xs : List D) : cutD xs (some 1) none = xs.drop 1 := by
  unfold cutD HT.sIx
  cases xs with
  | nil => simp
  | cons x xs =>
    simp only [List.length_cons]
    have e : (if (1 : Int) < 0 then (1 + ((xs.length + 1 : Nat) : Int)).toNat else min (1 : Int).toNat (xs.length + 1)) = 1 := by simp
    simp
def rise : List Int → Bool
  | [] => true
  | [_] => true
  | a :: b :: r => decide (a < b) && rise (b :: r)
theorem rise_of {ns : List Int} (h : ns.Pairwise (· < ·)) : rise ns = true := by
  induction ns with
  | nil => rfl
  | cons a ns ih =>
    cases ns with
    | nil => rfl
    | cons b r =>
      obtain ⟨h1, h2⟩ := List.pairwise_cons.mp h
      simp only [rise, ih h2, Bool.and_true]
      exact decide_eq_true (h1 b List.mem_cons_self)
theorem zip_rise : ∀ (ns : List Int), ((ns.zip (ns.drop 1)).all fun p => decide (p.1 < p.2)) = rise ns
  | [] => rfl
  | [_] => rfl
  | a :: b :: r => by
    have ih := zip_rise (b :: r)
    simp only [List.drop_succ_cons, List.drop_zero, List.zip_cons_cons, List.all_cons, rise] at ih ⊢
    rw [ih]
theorem zipD_ints (xs ys : List Int) : zipD (xs.map D.int) (ys.map D.int) = (xs.zip ys).map fun p => D.tup [.int p.1, .int p.2] := by
  unfold zipD
  rw [List.zip_map, List.map_map]
  rfl
theorem iZipT_of {fa : Env → Sto → Res (List D)} {env : Env} {s s1 : Sto} {xs ys : List D} (h : fa env s = ok [.tup xs, .tup ys] s1) : iZip fa env s = ok (zipD xs ys) s1 := by
  unfold iZip
  rw [h]
  rfl
theorem rising_eq {ns : List Int} {s : Sto} (hl : ns.length ≤ 1000000) : f_is_rising [mD ns] s = ok (.bl (rise ns)) s := by
  refine Wp.eq ?_
  unfold f_is_rising
  simp only [wp_ok, wp_ok', wp_ne, wp_loc0, wp_locS, wp_C, wp_e1, wp_e2, wp_aNil, wp_aCons, wp_eB, wp_call, wp_tup, wp_lst, wp_new, wp_frz, wp_tBl, wp_isBl, wp_tru, wp_truB, wp_tAnd, wp_tOr, wp_tNot, wp_eAnd, wp_eOr, wp_eNot, wp_eIf, wp_eCh, wp_sNil, wp_sRet, wp_sExpr, wp_sCont, wp_sSeq, aft_nx, aft_rt, aft_ct, wp_sIf, wp_sAsg, asg_N, asg_T, asg_nil, asg_cons, wp_par2, par_of, wp_sFor, wp_sSub, wp_app, wp_fn, fin_rt, fin_nx, wp_comp, wp_sl, wp_pNo, List.map_cons, List.map_nil, List.cons_append, List.nil_append, List.length_cons, List.length_nil, List.set_cons_succ, List.set_cons_zero, List.replicate, true_and, Nat.reduceSub, Nat.reduceAdd, wp_ltI, wp_gtI, wp_geI, wp_leI, wp_addI, wp_subI, wp_eqI, wp_neI]
  have hz : iZip (aCons (eLoc 0) (aCons (eSl (eLoc 0) (pInt (eC (.int 1))) pNo) aNil)) [some (mD ns)] s = ok (zipD (ns.map D.int) ((ns.drop 1).map D.int)) s := by
    refine iZipT_of (Wp.eq ?_)
    simp only [wp_ok, wp_ok', wp_ne, wp_loc0, wp_locS, wp_C, wp_e1, wp_e2, wp_aNil, wp_aCons, wp_eB, wp_call, wp_tup, wp_lst, wp_new, wp_frz, wp_tBl, wp_isBl, wp_tru, wp_truB, wp_tAnd, wp_tOr, wp_tNot, wp_eAnd, wp_eOr, wp_eNot, wp_eIf, wp_eCh, wp_sNil, wp_sRet, wp_sExpr, wp_sCont, wp_sSeq, aft_nx, aft_rt, aft_ct, wp_sIf, wp_sAsg, asg_N, asg_T, asg_nil, asg_cons, wp_par2, par_of, wp_sFor, wp_sSub, wp_app, wp_fn, fin_rt, fin_nx, wp_comp, wp_sl, wp_pNo, List.map_cons, List.map_nil, List.cons_append, List.nil_append, List.length_cons, List.length_nil, List.set_cons_succ, List.set_cons_zero, List.replicate, true_and, Nat.reduceSub, Nat.reduceAdd, wp_ltI, wp_gtI, wp_geI, wp_leI, wp_addI, wp_subI, wp_eqI, wp_neI]
    rw [wp_pInt (i := 1) rfl]
    try simp only [wp_ok, wp_ok', wp_ne, wp_loc0, wp_locS, wp_C, wp_e1, wp_e2, wp_aNil, wp_aCons, wp_eB, wp_call, wp_tup, wp_lst, wp_new, wp_frz, wp_tBl, wp_isBl, wp_tru, wp_truB, wp_tAnd, wp_tOr, wp_tNot, wp_eAnd, wp_eOr, wp_eNot, wp_eIf, wp_eCh, wp_sNil, wp_sRet, wp_sExpr, wp_sCont, wp_sSeq, aft_nx, aft_rt, aft_ct, wp_sIf, wp_sAsg, asg_N, asg_T, asg_nil, asg_cons, wp_par2, par_of, wp_sFor, wp_sSub, wp_app, wp_fn, fin_rt, fin_nx, wp_comp, wp_sl, wp_pNo, List.map_cons, List.map_nil, List.cons_append, List.nil_append, List.length_cons, List.length_nil, List.set_cons_succ, List.set_cons_zero, List.replicate, true_and, Nat.reduceSub, Nat.reduceAdd, wp_ltI, wp_gtI, wp_geI, wp_leI, wp_addI, wp_subI, wp_eqI, wp_neI]
    refine Wp.of (show sliceD (mD ns) (some 1) none s = ok (.tup (cutD (ns.map D.int) (some 1) none)) s from rfl) ⟨?_, rfl⟩
    rw [cutD_all, List.map_drop]
  refine Wp.of hz ⟨le_size (by rw [zipD_len]; simp only [List.length_map]; omega), ?_⟩
  rw [zipD_ints]
  refine Wp.of (comp_map (fun p : Int × Int => D.tup [.int p.1, .int p.2]) (fun _ => true) (fun p => .bl (decide (p.1 < p.2))) _ fun p _ => ⟨[some (.int p.1), some (.int p.2)], rfl, rfl, fun _ => rfl⟩) ?_
  rw [filter_tt]
  exact Wp.of (all_bls _ _ _) ⟨by rw [zip_rise], rfl⟩
theorem marks_true {ns : List Int} {s : Sto} (h : Mks 8 ns) : f_are_marks [mD ns] s = ok (.bl true) s := by
  have hl := h.len
  refine Wp.eq ?_
  unfold f_are_marks
  simp only [wp_ok, wp_ok', wp_ne, wp_loc0, wp_locS, wp_C, wp_e1, wp_e2, wp_aNil, wp_aCons, wp_eB, wp_call, wp_tup, wp_lst, wp_new, wp_frz, wp_tBl, wp_isBl, wp_tru, wp_truB, wp_tAnd, wp_tOr, wp_tNot, wp_eAnd, wp_eOr, wp_eNot, wp_eIf, wp_eCh, wp_sNil, wp_sRet, wp_sExpr, wp_sCont, wp_sSeq, aft_nx, aft_rt, aft_ct, wp_sIf, wp_sAsg, asg_N, asg_T, asg_nil, asg_cons, wp_par2, par_of, wp_sFor, wp_sSub, wp_app, wp_fn, fin_rt, fin_nx, wp_comp, wp_sl, wp_pNo, List.map_cons, List.map_nil, List.cons_append, List.nil_append, List.length_cons, List.length_nil, List.set_cons_succ, List.set_cons_zero, List.replicate, true_and, Nat.reduceSub, Nat.reduceAdd, wp_ltI, wp_gtI, wp_geI, wp_leI, wp_addI, wp_subI, wp_eqI, wp_neI]
  refine Wp.of (show bIsi [mD ns, .ty "tuple"] s = ok (.bl true) s from rfl) ?_
  simp only [wp_ok, wp_ok', wp_ne, wp_loc0, wp_locS, wp_C, wp_e1, wp_e2, wp_aNil, wp_aCons, wp_eB, wp_call, wp_tup, wp_lst, wp_new, wp_frz, wp_tBl, wp_isBl, wp_tru, wp_truB, wp_tAnd, wp_tOr, wp_tNot, wp_eAnd, wp_eOr, wp_eNot, wp_eIf, wp_eCh, wp_sNil, wp_sRet, wp_sExpr, wp_sCont, wp_sSeq, aft_nx, aft_rt, aft_ct, wp_sIf, wp_sAsg, asg_N, asg_T, asg_nil, asg_cons, wp_par2, par_of, wp_sFor, wp_sSub, wp_app, wp_fn, fin_rt, fin_nx, wp_comp, wp_sl, wp_pNo, List.map_cons, List.map_nil, List.cons_append, List.nil_append, List.length_cons, List.length_nil, List.set_cons_succ, List.set_cons_zero, List.replicate, true_and, Nat.reduceSub, Nat.reduceAdd, wp_ltI, wp_gtI, wp_geI, wp_leI, wp_addI, wp_subI, wp_eqI, wp_neI, if_true]
  refine Wp.of (iSeqT_of rfl) ⟨le_size (by rw [List.length_map]; omega), ?_⟩
  refine Wp.of (comp_ints (fun _ => true) (fun x => .bl (decide (0 ≤ x) && decide (x < 8))) ns fun n _ => ⟨[some (.int n)], rfl, rfl, fun _ => ?_⟩) ?_
  · refine Wp.eq ?_
    simp only [wp_ok, wp_ok', wp_ne, wp_loc0, wp_locS, wp_C, wp_e1, wp_e2, wp_aNil, wp_aCons, wp_eB, wp_call, wp_tup, wp_lst, wp_new, wp_frz, wp_tBl, wp_isBl, wp_tru, wp_truB, wp_tAnd, wp_tOr, wp_tNot, wp_eAnd, wp_eOr, wp_eNot, wp_eIf, wp_eCh, wp_sNil, wp_sRet, wp_sExpr, wp_sCont, wp_sSeq, aft_nx, aft_rt, aft_ct, wp_sIf, wp_sAsg, asg_N, asg_T, asg_nil, asg_cons, wp_par2, par_of, wp_sFor, wp_sSub, wp_app, wp_fn, fin_rt, fin_nx, wp_comp, wp_sl, wp_pNo, List.map_cons, List.map_nil, List.cons_append, List.nil_append, List.length_cons, List.length_nil, List.set_cons_succ, List.set_cons_zero, List.replicate, true_and, Nat.reduceSub, Nat.reduceAdd, wp_ltI, wp_gtI, wp_geI, wp_leI, wp_addI, wp_subI, wp_eqI, wp_neI, mark_eq, true_and]
  · rw [filter_tt]
    refine Wp.of (all_bls _ _ _) ?_
    have e : (ns.all fun x => decide (0 ≤ x) && decide (x < 8)) = true := by
      rw [List.all_eq_true]
      intro x hx
      have := h.lo x hx
      simp only [Bool.and_eq_true, decide_eq_true_eq]
      omega
    rw [e]
    simp only [wp_ok, wp_ok', wp_ne, wp_loc0, wp_locS, wp_C, wp_e1, wp_e2, wp_aNil, wp_aCons, wp_eB, wp_call, wp_tup, wp_lst, wp_new, wp_frz, wp_tBl, wp_isBl, wp_tru, wp_truB, wp_tAnd, wp_tOr, wp_tNot, wp_eAnd, wp_eOr, wp_eNot, wp_eIf, wp_eCh, wp_sNil, wp_sRet, wp_sExpr, wp_sCont, wp_sSeq, aft_nx, aft_rt, aft_ct, wp_sIf, wp_sAsg, asg_N, asg_T, asg_nil, asg_cons, wp_par2, par_of, wp_sFor, wp_sSub, wp_app, wp_fn, fin_rt, fin_nx, wp_comp, wp_sl, wp_pNo, List.map_cons, List.map_nil, List.cons_append, List.nil_append, List.length_cons, List.length_nil, List.set_cons_succ, List.set_cons_zero, List.replicate, true_and, Nat.reduceSub, Nat.reduceAdd, wp_ltI, wp_gtI, wp_geI, wp_leI, wp_addI, wp_subI, wp_eqI, wp_neI, if_true]
    exact Wp.of (rising_eq (by omega)) ⟨by rw [rise_of h.up], rfl⟩
structure GRun (rs : List (List Int)) : Prop where
  lo : 1 ≤ rs.length
  hi : rs.length ≤ 10
  mks : ∀ r ∈ rs, Mks 8 r
abbrev rD (rs : List (List Int)) : D := .tup (rs.map mD)
theorem need_eq {rs : List (List Int)} {s : Sto} (h : GRun rs) : f_need_run [rD rs] s = ok .non s := by
  have h1 := h.lo
  have h2 := h.hi
  have hlaid : f_are_laid_marks [rD rs, .int 10] s = ok (.bl true) s := by
    refine Wp.eq ?_
    unfold f_are_laid_marks
    simp only [wp_ok, wp_ok', wp_ne, wp_loc0, wp_locS, wp_C, wp_e1, wp_e2, wp_aNil, wp_aCons, wp_eB, wp_call, wp_tup, wp_lst, wp_new, wp_frz, wp_tBl, wp_isBl, wp_tru, wp_truB, wp_tAnd, wp_tOr, wp_tNot, wp_eAnd, wp_eOr, wp_eNot, wp_eIf, wp_eCh, wp_sNil, wp_sRet, wp_sExpr, wp_sCont, wp_sSeq, aft_nx, aft_rt, aft_ct, wp_sIf, wp_sAsg, asg_N, asg_T, asg_nil, asg_cons, wp_par2, par_of, wp_sFor, wp_sSub, wp_app, wp_fn, fin_rt, fin_nx, wp_comp, wp_sl, wp_pNo, List.map_cons, List.map_nil, List.cons_append, List.nil_append, List.length_cons, List.length_nil, List.set_cons_succ, List.set_cons_zero, List.replicate, true_and, Nat.reduceSub, Nat.reduceAdd, wp_ltI, wp_gtI, wp_geI, wp_leI, wp_addI, wp_subI, wp_eqI, wp_neI]
    refine Wp.of (show bIsi [rD rs, .ty "tuple"] s = ok (.bl true) s from rfl) ?_
    simp only [wp_ok, wp_ok', wp_ne, wp_loc0, wp_locS, wp_C, wp_e1, wp_e2, wp_aNil, wp_aCons, wp_eB, wp_call, wp_tup, wp_lst, wp_new, wp_frz, wp_tBl, wp_isBl, wp_tru, wp_truB, wp_tAnd, wp_tOr, wp_tNot, wp_eAnd, wp_eOr, wp_eNot, wp_eIf, wp_eCh, wp_sNil, wp_sRet, wp_sExpr, wp_sCont, wp_sSeq, aft_nx, aft_rt, aft_ct, wp_sIf, wp_sAsg, asg_N, asg_T, asg_nil, asg_cons, wp_par2, par_of, wp_sFor, wp_sSub, wp_app, wp_fn, fin_rt, fin_nx, wp_comp, wp_sl, wp_pNo, List.map_cons, List.map_nil, List.cons_append, List.nil_append, List.length_cons, List.length_nil, List.set_cons_succ, List.set_cons_zero, List.replicate, true_and, Nat.reduceSub, Nat.reduceAdd, wp_ltI, wp_gtI, wp_geI, wp_leI, wp_addI, wp_subI, wp_eqI, wp_neI, if_true]
    refine Wp.of (show bLen [rD rs] s = ok (.int (rs.map mD).length) s from rfl) ?_
    rw [List.length_map]
    simp only [wp_ok, wp_ok', wp_ne, wp_loc0, wp_locS, wp_C, wp_e1, wp_e2, wp_aNil, wp_aCons, wp_eB, wp_call, wp_tup, wp_lst, wp_new, wp_frz, wp_tBl, wp_isBl, wp_tru, wp_truB, wp_tAnd, wp_tOr, wp_tNot, wp_eAnd, wp_eOr, wp_eNot, wp_eIf, wp_eCh, wp_sNil, wp_sRet, wp_sExpr, wp_sCont, wp_sSeq, aft_nx, aft_rt, aft_ct, wp_sIf, wp_sAsg, asg_N, asg_T, asg_nil, asg_cons, wp_par2, par_of, wp_sFor, wp_sSub, wp_app, wp_fn, fin_rt, fin_nx, wp_comp, wp_sl, wp_pNo, List.map_cons, List.map_nil, List.cons_append, List.nil_append, List.length_cons, List.length_nil, List.set_cons_succ, List.set_cons_zero, List.replicate, true_and, Nat.reduceSub, Nat.reduceAdd, wp_ltI, wp_gtI, wp_geI, wp_leI, wp_addI, wp_subI, wp_eqI, wp_neI]
    rw [decide_eq_true (show (1 : Int) ≤ rs.length by omega), decide_eq_true (show (rs.length : Int) ≤ 10 by omega)]
    simp only [wp_ok, wp_ok', wp_ne, wp_loc0, wp_locS, wp_C, wp_e1, wp_e2, wp_aNil, wp_aCons, wp_eB, wp_call, wp_tup, wp_lst, wp_new, wp_frz, wp_tBl, wp_isBl, wp_tru, wp_truB, wp_tAnd, wp_tOr, wp_tNot, wp_eAnd, wp_eOr, wp_eNot, wp_eIf, wp_eCh, wp_sNil, wp_sRet, wp_sExpr, wp_sCont, wp_sSeq, aft_nx, aft_rt, aft_ct, wp_sIf, wp_sAsg, asg_N, asg_T, asg_nil, asg_cons, wp_par2, par_of, wp_sFor, wp_sSub, wp_app, wp_fn, fin_rt, fin_nx, wp_comp, wp_sl, wp_pNo, List.map_cons, List.map_nil, List.cons_append, List.nil_append, List.length_cons, List.length_nil, List.set_cons_succ, List.set_cons_zero, List.replicate, true_and, Nat.reduceSub, Nat.reduceAdd, wp_ltI, wp_gtI, wp_geI, wp_leI, wp_addI, wp_subI, wp_eqI, wp_neI, if_true]
    refine Wp.of (iSeqT_of rfl) ⟨le_size (by rw [List.length_map]; omega), ?_⟩
    refine Wp.of (comp_map mD (fun _ => true) (fun _ => .bl true) rs fun r hr => ⟨[some (mD r)], rfl, rfl, fun _ => ?_⟩) ?_
    · refine Wp.eq ?_
      simp only [wp_ok, wp_ok', wp_ne, wp_loc0, wp_locS, wp_C, wp_e1, wp_e2, wp_aNil, wp_aCons, wp_eB, wp_call, wp_tup, wp_lst, wp_new, wp_frz, wp_tBl, wp_isBl, wp_tru, wp_truB, wp_tAnd, wp_tOr, wp_tNot, wp_eAnd, wp_eOr, wp_eNot, wp_eIf, wp_eCh, wp_sNil, wp_sRet, wp_sExpr, wp_sCont, wp_sSeq, aft_nx, aft_rt, aft_ct, wp_sIf, wp_sAsg, asg_N, asg_T, asg_nil, asg_cons, wp_par2, par_of, wp_sFor, wp_sSub, wp_app, wp_fn, fin_rt, fin_nx, wp_comp, wp_sl, wp_pNo, List.map_cons, List.map_nil, List.cons_append, List.nil_append, List.length_cons, List.length_nil, List.set_cons_succ, List.set_cons_zero, List.replicate, true_and, Nat.reduceSub, Nat.reduceAdd, wp_ltI, wp_gtI, wp_geI, wp_leI, wp_addI, wp_subI, wp_eqI, wp_neI, marks_true (h.mks r hr), true_and]
    · rw [filter_tt]
      exact Wp.of (all_bls (fun _ => true) _ _) ⟨by simp, rfl⟩
  refine Wp.eq ?_
  unfold f_need_run
  simp only [wp_ok, wp_ok', wp_ne, wp_loc0, wp_locS, wp_C, wp_e1, wp_e2, wp_aNil, wp_aCons, wp_eB, wp_call, wp_tup, wp_lst, wp_new, wp_frz, wp_tBl, wp_isBl, wp_tru, wp_truB, wp_tAnd, wp_tOr, wp_tNot, wp_eAnd, wp_eOr, wp_eNot, wp_eIf, wp_eCh, wp_sNil, wp_sRet, wp_sExpr, wp_sCont, wp_sSeq, aft_nx, aft_rt, aft_ct, wp_sIf, wp_sAsg, asg_N, asg_T, asg_nil, asg_cons, wp_par2, par_of, wp_sFor, wp_sSub, wp_app, wp_fn, fin_rt, fin_nx, wp_comp, wp_sl, wp_pNo, List.map_cons, List.map_nil, List.cons_append, List.nil_append, List.length_cons, List.length_nil, List.set_cons_succ, List.set_cons_zero, List.replicate, true_and, Nat.reduceSub, Nat.reduceAdd, wp_ltI, wp_gtI, wp_geI, wp_leI, wp_addI, wp_subI, wp_eqI, wp_neI, hlaid, Bool.not_true, Bool.false_eq_true, if_false, true_and]
end DI

set_option Elab.async false
set_option linter.all false
set_option maxRecDepth 100000
set_option maxHeartbeats 4000000
namespace DI
open PySem L2
theorem ixT_of {xs : List D} {j : Nat} {d : D} {s : Sto} (h : xs[j]? = some d) : opIx (.tup xs) (.int j) s = ok d s := by
  unfold opIx ixD
  rw [show res (.tup xs) s = .tup xs from rfl]
  simp only [atI_nat h]
  rfl
theorem getD_some {α : Type} {xs : List α} {i : Nat} {d : α} (h : i < xs.length) : xs[i]? = some (xs.getD i d) := by
  rw [List.getD_eq_getElem?_getD, List.getElem?_eq_getElem h]
  rfl
theorem ixM {ns : List Int} {i : Nat} {s : Sto} (h : i < ns.length) : opIx (mD ns) (.int i) s = ok (.int (ns.getD i 0)) s := ixT_of (by rw [List.getElem?_map, getD_some (d := 0) h]; rfl)
theorem ixR {rs : List (List Int)} {i : Nat} {s : Sto} (h : i < rs.length) : opIx (rD rs) (.int i) s = ok (mD (rs.getD i [])) s := ixT_of (by rw [List.getElem?_map, getD_some (d := []) h]; rfl)
theorem lenM {ns : List Int} {s : Sto} : bLen [mD ns] s = ok (.int ns.length) s := by
  show ok (D.int (ns.map D.int).length) s = _
  rw [List.length_map]
theorem lenR {rs : List (List Int)} {s : Sto} : bLen [rD rs] s = ok (.int rs.length) s := by
  show ok (D.int (rs.map mD).length) s = _
  rw [List.length_map]
theorem rng_map (lo : Int) (n : Nat) : rng lo n = (List.range n).map fun i : Nat => D.int (lo + i) := rfl
def mayLay (rs : List (List Int)) (laid : List Int) (m : Int) : Bool := ((List.range laid.length).filter fun i => laid.getD i 0 == m).all fun i => sub (rs.getD i []) (rs.getD laid.length [])
theorem may_eq {rs : List (List Int)} {laid : List Int} {m : Int} {s : Sto} (h : GRun rs) (hl : laid.length < rs.length) : f_may_lay [rD rs, mD laid, .int m] s = ok (.bl (mayLay rs laid m)) s := by
  have hi := h.hi
  refine Wp.eq ?_
  unfold f_may_lay
  simp only [wp_ok, wp_ok', wp_ne, wp_loc0, wp_locS, wp_C, wp_e1, wp_e2, wp_aNil, wp_aCons, wp_eB, wp_call, wp_tup, wp_lst, wp_new, wp_frz, wp_tBl, wp_isBl, wp_tru, wp_truB, wp_tAnd, wp_tOr, wp_tNot, wp_eAnd, wp_eOr, wp_eNot, wp_eIf, wp_eCh, wp_sNil, wp_sRet, wp_sExpr, wp_sCont, wp_sSeq, aft_nx, aft_rt, aft_ct, wp_sIf, wp_sAsg, asg_N, asg_T, asg_nil, asg_cons, wp_par2, par_of, wp_sFor, wp_sSub, wp_app, wp_fn, fin_rt, fin_nx, wp_comp, wp_sl, wp_pNo, List.map_cons, List.map_nil, List.cons_append, List.nil_append, List.length_cons, List.length_nil, List.set_cons_succ, List.set_cons_zero, List.replicate, true_and, Nat.reduceSub, Nat.reduceAdd, wp_ltI, wp_gtI, wp_geI, wp_leI, wp_addI, wp_subI, wp_eqI, wp_neI, lenM, ixR hl]
  refine Wp.of (iR1_of (s1 := s) (n := laid.length) ?_ (by omega)) ⟨le_size (by rw [rng_len]; omega), ?_⟩
  · refine Wp.eq ?_
    simp only [wp_ok, wp_ok', wp_ne, wp_loc0, wp_locS, wp_C, wp_e1, wp_e2, wp_aNil, wp_aCons, wp_eB, wp_call, wp_tup, wp_lst, wp_new, wp_frz, wp_tBl, wp_isBl, wp_tru, wp_truB, wp_tAnd, wp_tOr, wp_tNot, wp_eAnd, wp_eOr, wp_eNot, wp_eIf, wp_eCh, wp_sNil, wp_sRet, wp_sExpr, wp_sCont, wp_sSeq, aft_nx, aft_rt, aft_ct, wp_sIf, wp_sAsg, asg_N, asg_T, asg_nil, asg_cons, wp_par2, par_of, wp_sFor, wp_sSub, wp_app, wp_fn, fin_rt, fin_nx, wp_comp, wp_sl, wp_pNo, List.map_cons, List.map_nil, List.cons_append, List.nil_append, List.length_cons, List.length_nil, List.set_cons_succ, List.set_cons_zero, List.replicate, true_and, Nat.reduceSub, Nat.reduceAdd, wp_ltI, wp_gtI, wp_geI, wp_leI, wp_addI, wp_subI, wp_eqI, wp_neI, lenM, and_self]
  · rw [rng_map]
    refine Wp.of (comp_map (fun i : Nat => D.int (0 + (i : Int))) (fun i => laid.getD i 0 == m) (fun i => .bl (sub (rs.getD i []) (rs.getD laid.length []))) _ fun i hi' => ⟨[some (.int (0 + (i : Int))), some (mD (rs.getD laid.length [])), some (rD rs), some (.int m), some (mD laid)], rfl, ?_, fun _ => ?_⟩) ?_
    · have hi2 := List.mem_range.mp hi'
      refine Wp.eq ?_
      simp only [wp_ok, wp_ok', wp_ne, wp_loc0, wp_locS, wp_C, wp_e1, wp_e2, wp_aNil, wp_aCons, wp_eB, wp_call, wp_tup, wp_lst, wp_new, wp_frz, wp_tBl, wp_isBl, wp_tru, wp_truB, wp_tAnd, wp_tOr, wp_tNot, wp_eAnd, wp_eOr, wp_eNot, wp_eIf, wp_eCh, wp_sNil, wp_sRet, wp_sExpr, wp_sCont, wp_sSeq, aft_nx, aft_rt, aft_ct, wp_sIf, wp_sAsg, asg_N, asg_T, asg_nil, asg_cons, wp_par2, par_of, wp_sFor, wp_sSub, wp_app, wp_fn, fin_rt, fin_nx, wp_comp, wp_sl, wp_pNo, List.map_cons, List.map_nil, List.cons_append, List.nil_append, List.length_cons, List.length_nil, List.set_cons_succ, List.set_cons_zero, List.replicate, true_and, Nat.reduceSub, Nat.reduceAdd, wp_ltI, wp_gtI, wp_geI, wp_leI, wp_addI, wp_subI, wp_eqI, wp_neI, Int.zero_add, ixM hi2, and_self]
    · have hi2 := List.mem_range.mp hi'
      refine Wp.eq ?_
      have hm := (h.mks (rs.getD i []) (List.mem_of_getElem? (getD_some (d := []) (by omega)))).len
      simp only [wp_ok, wp_ok', wp_ne, wp_loc0, wp_locS, wp_C, wp_e1, wp_e2, wp_aNil, wp_aCons, wp_eB, wp_call, wp_tup, wp_lst, wp_new, wp_frz, wp_tBl, wp_isBl, wp_tru, wp_truB, wp_tAnd, wp_tOr, wp_tNot, wp_eAnd, wp_eOr, wp_eNot, wp_eIf, wp_eCh, wp_sNil, wp_sRet, wp_sExpr, wp_sCont, wp_sSeq, aft_nx, aft_rt, aft_ct, wp_sIf, wp_sAsg, asg_N, asg_T, asg_nil, asg_cons, wp_par2, par_of, wp_sFor, wp_sSub, wp_app, wp_fn, fin_rt, fin_nx, wp_comp, wp_sl, wp_pNo, List.map_cons, List.map_nil, List.cons_append, List.nil_append, List.length_cons, List.length_nil, List.set_cons_succ, List.set_cons_zero, List.replicate, true_and, Nat.reduceSub, Nat.reduceAdd, wp_ltI, wp_gtI, wp_geI, wp_leI, wp_addI, wp_subI, wp_eqI, wp_neI, Int.zero_add, ixR (show i < rs.length by omega), has_all_eq (show (rs.getD i []).length ≤ 1000000 by omega), and_self]
    · exact Wp.of (all_bls _ _ _) ⟨rfl, rfl⟩
theorem cl_map {α : Type} (d : α → D) {env0 : Env} {g : D → Env → Option Env} {t : Env → Sto → Res Bool} {act : Env → Sto → Res (List D)} {s : Sto} (p : α → Bool) (h : α → List D) (xs : List α) (hh : ∀ x ∈ xs, ∃ env, g (d x) env0 = some env ∧ t env s = ok (p x) s ∧ (p x = true → act env s = ok (h x) s)) :
    clGo g t act env0 (xs.map d) s = ok ((xs.filter p).flatMap h) s := by
  induction xs with
  | nil => rfl
  | cons n ns ih =>
    obtain ⟨env, h1, h2, h3⟩ := hh n List.mem_cons_self
    have ih := ih fun n' h' => hh n' (List.mem_cons_of_mem _ h')
    rw [List.map_cons]
    unfold clGo
    rw [h1]
    simp only [h2, ne_ok, bnd_ok]
    cases hp : p n with
    | true => simp only [if_true, h3 hp, ne_ok, bnd_ok, ih, List.filter_cons, hp, List.flatMap_cons]
    | false => simp only [Bool.false_eq_true, if_false, ih, List.filter_cons, hp]
theorem wp_compA {nt : Nat} {cap : List Nat} {it : Env → Sto → Res (List D)} {gd : D → Env → Option Env} {c : Env → Sto → Res Bool} {act : Env → Sto → Res (List D)} {env : Env} {s : Sto} {Q : D → Sto → Prop} :
    Wp (eCompA nt cap it gd c act env s) Q = Wp (it env s) fun ds s => Wp (clGo gd c act (List.replicate nt none ++ capsE cap env) ds s) fun xs s => xs.length ≤ sizeLine ∧ Q (.lst xs) s := by
  unfold eCompA; simp only [wp_bnd, wp_ne, wp_lenOk, wp_ok]
def step (rs : List (List Int)) (told : List (List Int)) : List (List Int) := told.flatMap fun laid => ([0, 1].filter fun m => mayLay rs laid m).map fun m => laid ++ [m]
def layOf (rs : List (List Int)) : Nat → List (List Int)
  | 0 => [[0]]
  | k + 1 => step rs (layOf rs k)
theorem step_len {rs told : List (List Int)} : (step rs told).length ≤ 2 * told.length := by
  unfold step
  induction told with
  | nil => simp
  | cons a r ih =>
    rw [List.flatMap_cons, List.length_append, List.length_cons, List.length_map]
    have := List.length_filter_le (fun m => mayLay rs a m) [0, 1]
    simp only [List.length_cons, List.length_nil] at this
    omega
theorem layOf_len (rs : List (List Int)) : ∀ k, (layOf rs k).length ≤ 2 ^ k
  | 0 => by simp [layOf]
  | k + 1 => by
    have := layOf_len rs k
    have h := step_len (rs := rs) (told := layOf rs k)
    rw [Nat.pow_succ]
    show (step rs (layOf rs k)).length ≤ _
    omega
theorem layOf_each (rs : List (List Int)) : ∀ k, ∀ l ∈ layOf rs k, l.length = k + 1
  | 0, l, h => by simp [layOf] at h; subst h; rfl
  | k + 1, l, h => by
    simp only [layOf, step, List.mem_flatMap, List.mem_map] at h
    obtain ⟨a, ha, m, _, rfl⟩ := h
    rw [List.length_append, layOf_each rs k a ha]
    rfl
theorem pow10 {k : Nat} (h : k ≤ 10) : 2 ^ k ≤ 1024 := by
  calc 2 ^ k ≤ 2 ^ 10 := Nat.pow_le_pow_right (by decide) h
    _ = 1024 := by decide
theorem addT {a b : List Int} {s : Sto} (h : a.length + b.length ≤ 1000000) : opAdd (mD a) (mD b) s = ok (mD (a ++ b)) s := by
  have e : addD (mD a) (mD b) = some (mD (a ++ b)) := by
    show (if fewD (a.map D.int) (b.map D.int) = true then some (D.tup (a.map D.int ++ b.map D.int)) else none) = _
    have hf : fewD (a.map D.int) (b.map D.int) = true := by
      unfold fewD
      rw [List.length_map, List.length_map]
      exact decide_eq_true (le_size h)
    rw [if_pos hf]
    show some (D.tup (a.map D.int ++ b.map D.int)) = some (D.tup ((a ++ b).map D.int))
    rw [List.map_append]
  show pur (addD (mD a) (mD b)) s = _
  rw [e]
  rfl
theorem layings_eq {rs : List (List Int)} {s : Sto} (h : GRun rs) : f_layings [rD rs] s = ok (.lst ((layOf rs (rs.length - 1)).map mD)) s := by
  have hlo := h.lo
  have hhi := h.hi
  refine Wp.eq ?_
  unfold f_layings
  simp only [wp_ok, wp_ok', wp_ne, wp_loc0, wp_locS, wp_C, wp_e1, wp_e2, wp_aNil, wp_aCons, wp_eB, wp_call, wp_tup, wp_lst, wp_new, wp_frz, wp_tBl, wp_isBl, wp_tru, wp_truB, wp_tAnd, wp_tOr, wp_tNot, wp_eAnd, wp_eOr, wp_eNot, wp_eIf, wp_eCh, wp_sNil, wp_sRet, wp_sExpr, wp_sCont, wp_sSeq, aft_nx, aft_rt, aft_ct, wp_sIf, wp_sAsg, asg_N, asg_T, asg_nil, asg_cons, wp_par2, par_of, wp_sFor, wp_sSub, wp_app, wp_fn, fin_rt, fin_nx, wp_comp, wp_sl, wp_pNo, List.map_cons, List.map_nil, List.cons_append, List.nil_append, List.length_cons, List.length_nil, List.set_cons_succ, List.set_cons_zero, List.replicate, true_and, Nat.reduceSub, Nat.reduceAdd, wp_ltI, wp_gtI, wp_geI, wp_leI, wp_addI, wp_subI, wp_eqI, wp_neI]
  refine ⟨by decide, by decide, ?_⟩
  have hr : iR2 (aCons (eC (.int 1)) (aCons (eB bLen (aCons (eLoc 0) aNil)) aNil)) [some (rD rs), some (.lst [.tup [.int 0]]), none] s = ok (rng 1 (rs.length - 1)) s := by
    have := iR2_of (fa := aCons (eC (.int 1)) (aCons (eB bLen (aCons (eLoc 0) aNil)) aNil)) (env := [some (rD rs), some (.lst [.tup [.int 0]]), none]) (s := s) (s1 := s) (i := 1) (j := rs.length) (Wp.eq (by simp only [wp_ok, wp_ok', wp_ne, wp_loc0, wp_locS, wp_C, wp_e1, wp_e2, wp_aNil, wp_aCons, wp_eB, wp_call, wp_tup, wp_lst, wp_new, wp_frz, wp_tBl, wp_isBl, wp_tru, wp_truB, wp_tAnd, wp_tOr, wp_tNot, wp_eAnd, wp_eOr, wp_eNot, wp_eIf, wp_eCh, wp_sNil, wp_sRet, wp_sExpr, wp_sCont, wp_sSeq, aft_nx, aft_rt, aft_ct, wp_sIf, wp_sAsg, asg_N, asg_T, asg_nil, asg_cons, wp_par2, par_of, wp_sFor, wp_sSub, wp_app, wp_fn, fin_rt, fin_nx, wp_comp, wp_sl, wp_pNo, List.map_cons, List.map_nil, List.cons_append, List.nil_append, List.length_cons, List.length_nil, List.set_cons_succ, List.set_cons_zero, List.replicate, true_and, Nat.reduceSub, Nat.reduceAdd, wp_ltI, wp_gtI, wp_geI, wp_leI, wp_addI, wp_subI, wp_eqI, wp_neI, lenR, and_self])) (by omega) (by omega) (by omega) (by omega)
    have e : ((rs.length : Int) - 1).toNat = rs.length - 1 := by omega
    rw [this, e]
  refine Wp.of hr ?_
  refine Wp.for_ (fun i env s' => s' = s ∧ ∃ x, env = [some (rD rs), some (.lst ((layOf rs i).map mD)), x]) _ ⟨rfl, _, rfl⟩ (fun i d env s' hd hI => ?_) (fun env s' hI => ?_)
  · obtain ⟨rfl, x, rfl⟩ := hI
    rw [rng_get] at hd
    split at hd
    · rename_i hi
      cases hd
      refine ⟨_, rfl, ?_⟩
      simp only [wp_sAsg, asg_N]
      show Wp (eComp2 2 [0] _ _ _ _ _ _ _ _ _) _
      unfold eComp2
      rw [wp_compA]
      refine Wp.of (iSeqL_of rfl) ?_
      refine Wp.of (cl_map mD (fun _ => true) (fun laid => (([0, 1].filter fun m => mayLay rs laid m).map fun m => mD (laid ++ [m]))) _ fun laid hl => ⟨[some (mD laid), none, some (rD rs)], rfl, rfl, fun _ => ?_⟩) ?_
      · have hlen := layOf_each rs i laid hl
        unfold more
        rw [iR1_of (n := 2) rfl (by decide), bnd_ok]
        rw [show rng 0 2 = ([0, 1] : List Int).map D.int from rfl]
        rw [cl_map D.int (fun m => mayLay rs laid m) (fun m => [mD (laid ++ [m])]) [0, 1] fun m hm => ⟨[some (mD laid), some (.int m), some (rD rs)], rfl, ?_, fun _ => ?_⟩]
        · rw [← List.map_eq_flatMap]
        · refine Wp.eq ?_
          simp only [wp_ok, wp_ok', wp_ne, wp_loc0, wp_locS, wp_C, wp_e1, wp_e2, wp_aNil, wp_aCons, wp_eB, wp_call, wp_tup, wp_lst, wp_new, wp_frz, wp_tBl, wp_isBl, wp_tru, wp_truB, wp_tAnd, wp_tOr, wp_tNot, wp_eAnd, wp_eOr, wp_eNot, wp_eIf, wp_eCh, wp_sNil, wp_sRet, wp_sExpr, wp_sCont, wp_sSeq, aft_nx, aft_rt, aft_ct, wp_sIf, wp_sAsg, asg_N, asg_T, asg_nil, asg_cons, wp_par2, par_of, wp_sFor, wp_sSub, wp_app, wp_fn, fin_rt, fin_nx, wp_comp, wp_sl, wp_pNo, List.map_cons, List.map_nil, List.cons_append, List.nil_append, List.length_cons, List.length_nil, List.set_cons_succ, List.set_cons_zero, List.replicate, true_and, Nat.reduceSub, Nat.reduceAdd, wp_ltI, wp_gtI, wp_geI, wp_leI, wp_addI, wp_subI, wp_eqI, wp_neI, may_eq h (show laid.length < rs.length by omega), and_self]
        · refine Wp.eq ?_
          unfold emit
          rw [wp_bnd]
          simp only [wp_ok, wp_ok', wp_ne, wp_loc0, wp_locS, wp_C, wp_e1, wp_e2, wp_aNil, wp_aCons, wp_eB, wp_call, wp_tup, wp_lst, wp_new, wp_frz, wp_tBl, wp_isBl, wp_tru, wp_truB, wp_tAnd, wp_tOr, wp_tNot, wp_eAnd, wp_eOr, wp_eNot, wp_eIf, wp_eCh, wp_sNil, wp_sRet, wp_sExpr, wp_sCont, wp_sSeq, aft_nx, aft_rt, aft_ct, wp_sIf, wp_sAsg, asg_N, asg_T, asg_nil, asg_cons, wp_par2, par_of, wp_sFor, wp_sSub, wp_app, wp_fn, fin_rt, fin_nx, wp_comp, wp_sl, wp_pNo, List.map_cons, List.map_nil, List.cons_append, List.nil_append, List.length_cons, List.length_nil, List.set_cons_succ, List.set_cons_zero, List.replicate, true_and, Nat.reduceSub, Nat.reduceAdd, wp_ltI, wp_gtI, wp_geI, wp_leI, wp_addI, wp_subI, wp_eqI, wp_neI]
          refine ⟨by decide, ?_⟩
          refine Wp.of (show opAdd (mD laid) (.tup [.int m]) _ = _ from addT (b := [m]) (by rw [hlen]; simp; omega)) ?_
          simp
      · rw [filter_tt]
        have e : ((layOf rs i).flatMap fun laid => ([0, 1].filter fun m => mayLay rs laid m).map fun m => mD (laid ++ [m])) = (layOf rs (i + 1)).map mD := by
          show _ = (step rs (layOf rs i)).map mD
          unfold step
          simp only [List.map_flatMap, List.map_map, Function.comp_def]
        rw [e]
        refine ⟨?_, rfl, _, rfl⟩
        rw [List.length_map]
        exact le_size (Nat.le_trans (layOf_len rs (i + 1)) (Nat.le_trans (pow10 (by omega)) (by decide)))
    · cases hd
  · obtain ⟨rfl, x, rfl⟩ := hI
    rw [rng_len]
    simp only [wp_ok, wp_ok', wp_ne, wp_loc0, wp_locS, wp_C, wp_e1, wp_e2, wp_aNil, wp_aCons, wp_eB, wp_call, wp_tup, wp_lst, wp_new, wp_frz, wp_tBl, wp_isBl, wp_tru, wp_truB, wp_tAnd, wp_tOr, wp_tNot, wp_eAnd, wp_eOr, wp_eNot, wp_eIf, wp_eCh, wp_sNil, wp_sRet, wp_sExpr, wp_sCont, wp_sSeq, aft_nx, aft_rt, aft_ct, wp_sIf, wp_sAsg, asg_N, asg_T, asg_nil, asg_cons, wp_par2, par_of, wp_sFor, wp_sSub, wp_app, wp_fn, fin_rt, fin_nx, wp_comp, wp_sl, wp_pNo, List.map_cons, List.map_nil, List.cons_append, List.nil_append, List.length_cons, List.length_nil, List.set_cons_succ, List.set_cons_zero, List.replicate, true_and, Nat.reduceSub, Nat.reduceAdd, wp_ltI, wp_gtI, wp_geI, wp_leI, wp_addI, wp_subI, wp_eqI, wp_neI, and_self]
end DI

set_option Elab.async false
set_option linter.all false
set_option maxRecDepth 100000
set_option maxHeartbeats 4000000
namespace DI
open PySem L2
def brk (l : List Int) : List Int := ((List.range (l.length - 1)).filter fun i => l.getD (i + 1) 0 == l.getD i 0).map fun i : Nat => 1 + (i : Int)
theorem brk_comp {l : List Int} {s : Sto} {nt : Nat} (hl : l.length ≤ 1000) : compGo 1 [some (mD l)] (gN 0) (tBl (e2 opEq (e2 opIx (eLoc 1) (eLoc 0)) (e2 opIx (eLoc 1) (e2 opSub (eLoc 0) (eC (.int 1)))))) (eLoc 0) (rng 1 (l.length - 1)) s = ok ((brk l).map D.int) s := by
  rw [rng_map, comp_map (fun i : Nat => D.int (1 + (i : Int))) (fun i => l.getD (i + 1) 0 == l.getD i 0) (fun i : Nat => D.int (1 + (i : Int))) _ fun i hi => ⟨[some (.int (1 + (i : Int))), some (mD l)], rfl, ?_, fun _ => rfl⟩]
  · unfold brk
    rw [List.map_map]
    rfl
  · have hi := List.mem_range.mp hi
    refine Wp.eq ?_
    simp only [wp_ok, wp_ok', wp_ne, wp_loc0, wp_locS, wp_C, wp_e1, wp_e2, wp_aNil, wp_aCons, wp_eB, wp_call, wp_tup, wp_lst, wp_new, wp_frz, wp_tBl, wp_isBl, wp_tru, wp_truB, wp_tAnd, wp_tOr, wp_tNot, wp_eAnd, wp_eOr, wp_eNot, wp_eIf, wp_eCh, wp_sNil, wp_sRet, wp_sExpr, wp_sCont, wp_sSeq, aft_nx, aft_rt, aft_ct, wp_sIf, wp_sAsg, asg_N, asg_T, asg_nil, asg_cons, wp_par2, par_of, wp_sFor, wp_sSub, wp_app, wp_fn, fin_rt, fin_nx, wp_comp, wp_sl, wp_pNo, List.map_cons, List.map_nil, List.cons_append, List.nil_append, List.length_cons, List.length_nil, List.set_cons_succ, List.set_cons_zero, List.replicate, true_and, Nat.reduceSub, Nat.reduceAdd, wp_ltI, wp_gtI, wp_geI, wp_leI, wp_addI, wp_subI, wp_eqI, wp_neI]
    have e1 : (1 + (i : Int)) = ((i + 1 : Nat) : Int) := by omega
    have e2 : (1 + (i : Int)) - 1 = (i : Int) := by omega
    rw [e2, e1, ixM (show i + 1 < l.length by omega)]
    simp only [wp_ok, wp_ok', wp_ne, wp_loc0, wp_locS, wp_C, wp_e1, wp_e2, wp_aNil, wp_aCons, wp_eB, wp_call, wp_tup, wp_lst, wp_new, wp_frz, wp_tBl, wp_isBl, wp_tru, wp_truB, wp_tAnd, wp_tOr, wp_tNot, wp_eAnd, wp_eOr, wp_eNot, wp_eIf, wp_eCh, wp_sNil, wp_sRet, wp_sExpr, wp_sCont, wp_sSeq, aft_nx, aft_rt, aft_ct, wp_sIf, wp_sAsg, asg_N, asg_T, asg_nil, asg_cons, wp_par2, par_of, wp_sFor, wp_sSub, wp_app, wp_fn, fin_rt, fin_nx, wp_comp, wp_sl, wp_pNo, List.map_cons, List.map_nil, List.cons_append, List.nil_append, List.length_cons, List.length_nil, List.set_cons_succ, List.set_cons_zero, List.replicate, true_and, Nat.reduceSub, Nat.reduceAdd, wp_ltI, wp_gtI, wp_geI, wp_leI, wp_addI, wp_subI, wp_eqI, wp_neI, ixM (show i < l.length by omega), and_self]
theorem rng2 {rs : Nat} {fa : Env → Sto → Res (List D)} {env : Env} {s : Sto} (h : fa env s = ok [.int 1, .int rs] s) (hl : rs ≤ 1000) : iR2 fa env s = ok (rng 1 (rs - 1)) s := by
  have := iR2_of h (by omega) (by omega) (by omega) (by omega)
  have e : ((rs : Int) - 1).toNat = rs - 1 := by omega
  rw [this, e]
theorem breaks_eq {l : List Int} {s : Sto} (hl : l.length ≤ 1000) : f_breaks_in [mD l] s = ok (.lst ((brk l).map D.int)) s := by
  refine Wp.eq ?_
  unfold f_breaks_in
  simp only [wp_ok, wp_ok', wp_ne, wp_loc0, wp_locS, wp_C, wp_e1, wp_e2, wp_aNil, wp_aCons, wp_eB, wp_call, wp_tup, wp_lst, wp_new, wp_frz, wp_tBl, wp_isBl, wp_tru, wp_truB, wp_tAnd, wp_tOr, wp_tNot, wp_eAnd, wp_eOr, wp_eNot, wp_eIf, wp_eCh, wp_sNil, wp_sRet, wp_sExpr, wp_sCont, wp_sSeq, aft_nx, aft_rt, aft_ct, wp_sIf, wp_sAsg, asg_N, asg_T, asg_nil, asg_cons, wp_par2, par_of, wp_sFor, wp_sSub, wp_app, wp_fn, fin_rt, fin_nx, wp_comp, wp_sl, wp_pNo, List.map_cons, List.map_nil, List.cons_append, List.nil_append, List.length_cons, List.length_nil, List.set_cons_succ, List.set_cons_zero, List.replicate, true_and, Nat.reduceSub, Nat.reduceAdd, wp_ltI, wp_gtI, wp_geI, wp_leI, wp_addI, wp_subI, wp_eqI, wp_neI]
  refine Wp.of (rng2 (rs := l.length) (Wp.eq (by simp only [wp_ok, wp_ok', wp_ne, wp_loc0, wp_locS, wp_C, wp_e1, wp_e2, wp_aNil, wp_aCons, wp_eB, wp_call, wp_tup, wp_lst, wp_new, wp_frz, wp_tBl, wp_isBl, wp_tru, wp_truB, wp_tAnd, wp_tOr, wp_tNot, wp_eAnd, wp_eOr, wp_eNot, wp_eIf, wp_eCh, wp_sNil, wp_sRet, wp_sExpr, wp_sCont, wp_sSeq, aft_nx, aft_rt, aft_ct, wp_sIf, wp_sAsg, asg_N, asg_T, asg_nil, asg_cons, wp_par2, par_of, wp_sFor, wp_sSub, wp_app, wp_fn, fin_rt, fin_nx, wp_comp, wp_sl, wp_pNo, List.map_cons, List.map_nil, List.cons_append, List.nil_append, List.length_cons, List.length_nil, List.set_cons_succ, List.set_cons_zero, List.replicate, true_and, Nat.reduceSub, Nat.reduceAdd, wp_ltI, wp_gtI, wp_geI, wp_leI, wp_addI, wp_subI, wp_eqI, wp_neI, lenM, and_self])) hl) ⟨le_size (by rw [rng_len]; omega), ?_⟩
  exact Wp.of (brk_comp (nt := 1) hl) ⟨rfl, rfl⟩
abbrev keyD' (l : List Int) : D := .tup [.int (brk l).length, mD l]
theorem by_eq {l : List Int} {s : Sto} (hl : l.length ≤ 1000) : f_by_breaks [mD l] s = ok (keyD' l) s := by
  refine Wp.eq ?_
  unfold f_by_breaks
  simp only [wp_ok, wp_ok', wp_ne, wp_loc0, wp_locS, wp_C, wp_e1, wp_e2, wp_aNil, wp_aCons, wp_eB, wp_call, wp_tup, wp_lst, wp_new, wp_frz, wp_tBl, wp_isBl, wp_tru, wp_truB, wp_tAnd, wp_tOr, wp_tNot, wp_eAnd, wp_eOr, wp_eNot, wp_eIf, wp_eCh, wp_sNil, wp_sRet, wp_sExpr, wp_sCont, wp_sSeq, aft_nx, aft_rt, aft_ct, wp_sIf, wp_sAsg, asg_N, asg_T, asg_nil, asg_cons, wp_par2, par_of, wp_sFor, wp_sSub, wp_app, wp_fn, fin_rt, fin_nx, wp_comp, wp_sl, wp_pNo, List.map_cons, List.map_nil, List.cons_append, List.nil_append, List.length_cons, List.length_nil, List.set_cons_succ, List.set_cons_zero, List.replicate, true_and, Nat.reduceSub, Nat.reduceAdd, wp_ltI, wp_gtI, wp_geI, wp_leI, wp_addI, wp_subI, wp_eqI, wp_neI, breaks_eq hl]
  refine Wp.of (show bLen [.lst ((brk l).map D.int)] s = ok (.int ((brk l).map D.int).length) s from rfl) ?_
  rw [List.length_map]
  simp only [wp_ok, wp_ok', wp_ne, wp_loc0, wp_locS, wp_C, wp_e1, wp_e2, wp_aNil, wp_aCons, wp_eB, wp_call, wp_tup, wp_lst, wp_new, wp_frz, wp_tBl, wp_isBl, wp_tru, wp_truB, wp_tAnd, wp_tOr, wp_tNot, wp_eAnd, wp_eOr, wp_eNot, wp_eIf, wp_eCh, wp_sNil, wp_sRet, wp_sExpr, wp_sCont, wp_sSeq, aft_nx, aft_rt, aft_ct, wp_sIf, wp_sAsg, asg_N, asg_T, asg_nil, asg_cons, wp_par2, par_of, wp_sFor, wp_sSub, wp_app, wp_fn, fin_rt, fin_nx, wp_comp, wp_sl, wp_pNo, List.map_cons, List.map_nil, List.cons_append, List.nil_append, List.length_cons, List.length_nil, List.set_cons_succ, List.set_cons_zero, List.replicate, true_and, Nat.reduceSub, Nat.reduceAdd, wp_ltI, wp_gtI, wp_geI, wp_leI, wp_addI, wp_subI, wp_eqI, wp_neI, and_self, and_true]
  decide
def lexI : List Int → List Int → Bool
  | [], [] => false
  | [], _ :: _ => true
  | _ :: _, [] => false
  | x :: xs, y :: ys => if (x == y) = true then lexI xs ys else decide (x < y)
theorem ltDs_t {x y : D} {xs ys : List D} (h : beq x y = true) : ltDs (x :: xs) (y :: ys) = ltDs xs ys := by
  rw [ltDs, if_pos h]
theorem ltDs_f {x y : D} {xs ys : List D} (h : beq x y = false) : ltDs (x :: xs) (y :: ys) = ltD x y := by
  rw [ltDs, if_neg (by rw [h]; exact Bool.false_ne_true)]
theorem lex_eq : ∀ (xs ys : List Int), ltDs (xs.map D.int) (ys.map D.int) = some (lexI xs ys)
  | [], [] => rfl
  | [], _ :: _ => rfl
  | _ :: _, [] => rfl
  | x :: xs, y :: ys => by
    rw [List.map_cons, List.map_cons, lexI]
    cases h : (x == y) with
    | true => rw [ltDs_t (show beq (.int x) (.int y) = true from h), if_pos rfl]; exact lex_eq xs ys
    | false => rw [ltDs_f (show beq (.int x) (.int y) = false from h), if_neg Bool.false_ne_true]; rfl
def ltK (a b : List Int) : Bool := if ((((brk a).length : Int) == ((brk b).length : Int))) = true then (if beq (mD a) (mD b) = true then false else lexI a b) else decide (((brk a).length : Int) < ((brk b).length : Int))
theorem ltK_eq {a b : List Int} {s : Sto} : opLt (keyD' a) (keyD' b) s = ok (.bl (ltK a b)) s := by
  have l1 : ∀ l, lay (keyD' l) = true := fun l => by simp only [lay, DI.lays, lays_ints, Bool.and_self]
  have d1 : dep (keyD' a) ≤ 30 := by simp only [dep, deps, deps_ints]; decide
  have e : ltD (keyD' a) (keyD' b) = some (ltK a b) := by
    show ltDs [.int (brk a).length, mD a] [.int (brk b).length, mD b] = _
    unfold ltK
    cases h : (((brk a).length : Int) == ((brk b).length : Int)) with
    | true =>
      rw [ltDs_t (show beq (.int (brk a).length) (.int (brk b).length) = true from h), if_pos rfl]
      cases h2 : beq (mD a) (mD b) with
      | true => rw [ltDs_t h2, if_pos rfl]; rfl
      | false => rw [ltDs_f h2, if_neg Bool.false_ne_true]; exact lex_eq a b
    | false =>
      rw [ltDs_f (show beq (.int (brk a).length) (.int (brk b).length) = false from h), if_neg Bool.false_ne_true]
      rfl
  unfold opLt
  rw [if_pos (by rw [l1 a, l1 b, decide_eq_true d1]; rfl), e]
  rfl
def fold1 : List Int → List (List Int) → List Int
  | b, [] => b
  | b, y :: ys => if ltK y b = true then fold1 y ys else fold1 b ys
def bestL : List (List Int) → D
  | [] => .non
  | x :: xs => mD (fold1 x xs)
theorem mm_eq {s : Sto} : ∀ (ys : List (List Int)) (b : List Int), (∀ y ∈ ys, y.length ≤ 1000) → mmGo (fun d s => f_by_breaks [d] s) opLt (mD b) (keyD' b) (ys.map mD) s = ok (mD (fold1 b ys)) s
  | [], b, _ => rfl
  | y :: ys, b, h => by
    have h1 := by_eq (s := s) (h y List.mem_cons_self)
    have ih := fun b => mm_eq (s := s) ys b fun z hz => h z (List.mem_cons_of_mem _ hz)
    rw [List.map_cons]
    unfold mmGo
    simp only [h1, ne_ok, bnd_ok, ltK_eq, fold1]
    cases ltK y b with
    | true => simp only [if_true]; exact ih y
    | false => simp only [Bool.false_eq_true, if_false]; exact ih b
theorem best_eq {rs : List (List Int)} {s : Sto} (h : GRun rs) : f_best_laying [rD rs] s = ok (bestL (layOf rs (rs.length - 1))) s := by
  have hhi := h.hi
  refine Wp.eq ?_
  unfold f_best_laying
  simp only [wp_ok, wp_ok', wp_ne, wp_loc0, wp_locS, wp_C, wp_e1, wp_e2, wp_aNil, wp_aCons, wp_eB, wp_call, wp_tup, wp_lst, wp_new, wp_frz, wp_tBl, wp_isBl, wp_tru, wp_truB, wp_tAnd, wp_tOr, wp_tNot, wp_eAnd, wp_eOr, wp_eNot, wp_eIf, wp_eCh, wp_sNil, wp_sRet, wp_sExpr, wp_sCont, wp_sSeq, aft_nx, aft_rt, aft_ct, wp_sIf, wp_sAsg, asg_N, asg_T, asg_nil, asg_cons, wp_par2, par_of, wp_sFor, wp_sSub, wp_app, wp_fn, fin_rt, fin_nx, wp_comp, wp_sl, wp_pNo, List.map_cons, List.map_nil, List.cons_append, List.nil_append, List.length_cons, List.length_nil, List.set_cons_succ, List.set_cons_zero, List.replicate, true_and, Nat.reduceSub, Nat.reduceAdd, wp_ltI, wp_gtI, wp_geI, wp_leI, wp_addI, wp_subI, wp_eqI, wp_neI, need_eq h, layings_eq h]
  have hl : ∀ y ∈ layOf rs (rs.length - 1), y.length ≤ 1000 := fun y hy => by rw [layOf_each _ _ y hy]; omega
  show Wp (mmAll (fun d s => f_by_breaks [d] s) opLt (some .non) ((layOf rs (rs.length - 1)).map mD) s) _
  cases hL : layOf rs (rs.length - 1) with
  | nil => exact Wp.of rfl ⟨rfl, rfl⟩
  | cons x xs =>
    rw [hL] at hl
    rw [List.map_cons]
    show Wp (bnd (ne (f_by_breaks [mD x] s)) fun k s => mmGo (fun d s => f_by_breaks [d] s) opLt (mD x) k (xs.map mD) s) _
    rw [by_eq (hl x List.mem_cons_self), ne_ok, bnd_ok]
    exact Wp.of (mm_eq xs x fun y hy => hl y (List.mem_cons_of_mem _ hy)) ⟨rfl, rfl⟩
theorem same_non {n : Nat} {s : Sto} : f_Lsame (n + 1) [.non, .non] s = ok (.bl true) s := by
  rfl
theorem same_int {n : Nat} {i : Int} {s : Sto} : f_Lsame (n + 1) [.int i, .int i] s = ok (.bl true) s := by
  refine Wp.eq ?_
  unfold f_Lsame
  simp only [wp_ok, wp_ok', wp_ne, wp_loc0, wp_locS, wp_C, wp_e1, wp_e2, wp_aNil, wp_aCons, wp_eB, wp_call, wp_tup, wp_lst, wp_new, wp_frz, wp_tBl, wp_isBl, wp_tru, wp_truB, wp_tAnd, wp_tOr, wp_tNot, wp_eAnd, wp_eOr, wp_eNot, wp_eIf, wp_eCh, wp_sNil, wp_sRet, wp_sExpr, wp_sCont, wp_sSeq, aft_nx, aft_rt, aft_ct, wp_sIf, wp_sAsg, asg_N, asg_T, asg_nil, asg_cons, wp_par2, par_of, wp_sFor, wp_sSub, wp_app, wp_fn, fin_rt, fin_nx, wp_comp, wp_sl, wp_pNo, List.map_cons, List.map_nil, List.cons_append, List.nil_append, List.length_cons, List.length_nil, List.set_cons_succ, List.set_cons_zero, List.replicate, true_and, Nat.reduceSub, Nat.reduceAdd, wp_ltI, wp_gtI, wp_geI, wp_leI, wp_addI, wp_subI, wp_eqI, wp_neI]
  refine Wp.of (show isTL (.int i) s = ok (.bl false) s from rfl) ?_
  simp only [wp_ok, wp_ok', wp_ne, wp_loc0, wp_locS, wp_C, wp_e1, wp_e2, wp_aNil, wp_aCons, wp_eB, wp_call, wp_tup, wp_lst, wp_new, wp_frz, wp_tBl, wp_isBl, wp_tru, wp_truB, wp_tAnd, wp_tOr, wp_tNot, wp_eAnd, wp_eOr, wp_eNot, wp_eIf, wp_eCh, wp_sNil, wp_sRet, wp_sExpr, wp_sCont, wp_sSeq, aft_nx, aft_rt, aft_ct, wp_sIf, wp_sAsg, asg_N, asg_T, asg_nil, asg_cons, wp_par2, par_of, wp_sFor, wp_sSub, wp_app, wp_fn, fin_rt, fin_nx, wp_comp, wp_sl, wp_pNo, List.map_cons, List.map_nil, List.cons_append, List.nil_append, List.length_cons, List.length_nil, List.set_cons_succ, List.set_cons_zero, List.replicate, true_and, Nat.reduceSub, Nat.reduceAdd, wp_ltI, wp_gtI, wp_geI, wp_leI, wp_addI, wp_subI, wp_eqI, wp_neI, Bool.false_eq_true, if_false]
  refine Wp.of (show bIsi [.int i, .ty "bool"] s = ok (.bl false) s from rfl) ?_
  refine Wp.of (show bIsi [.int i, .ty "bool"] s = ok (.bl false) s from rfl) ?_
  refine Wp.of (show opEq (.bl false) (.bl false) s = ok (.bl true) s from rfl) ?_
  simp only [wp_ok, wp_ok', wp_ne, wp_loc0, wp_locS, wp_C, wp_e1, wp_e2, wp_aNil, wp_aCons, wp_eB, wp_call, wp_tup, wp_lst, wp_new, wp_frz, wp_tBl, wp_isBl, wp_tru, wp_truB, wp_tAnd, wp_tOr, wp_tNot, wp_eAnd, wp_eOr, wp_eNot, wp_eIf, wp_eCh, wp_sNil, wp_sRet, wp_sExpr, wp_sCont, wp_sSeq, aft_nx, aft_rt, aft_ct, wp_sIf, wp_sAsg, asg_N, asg_T, asg_nil, asg_cons, wp_par2, par_of, wp_sFor, wp_sSub, wp_app, wp_fn, fin_rt, fin_nx, wp_comp, wp_sl, wp_pNo, List.map_cons, List.map_nil, List.cons_append, List.nil_append, List.length_cons, List.length_nil, List.set_cons_succ, List.set_cons_zero, List.replicate, true_and, Nat.reduceSub, Nat.reduceAdd, wp_ltI, wp_gtI, wp_geI, wp_leI, wp_addI, wp_subI, wp_eqI, wp_neI, if_true, beq_self_eq_true, and_self]
theorem same_marks {n : Nat} {l : List Int} {s : Sto} (hl : l.length ≤ 1000) : f_Lsame (n + 2) [mD l, mD l] s = ok (.bl true) s := by
  refine Wp.eq ?_
  unfold f_Lsame
  simp only [wp_ok, wp_ok', wp_ne, wp_loc0, wp_locS, wp_C, wp_e1, wp_e2, wp_aNil, wp_aCons, wp_eB, wp_call, wp_tup, wp_lst, wp_new, wp_frz, wp_tBl, wp_isBl, wp_tru, wp_truB, wp_tAnd, wp_tOr, wp_tNot, wp_eAnd, wp_eOr, wp_eNot, wp_eIf, wp_eCh, wp_sNil, wp_sRet, wp_sExpr, wp_sCont, wp_sSeq, aft_nx, aft_rt, aft_ct, wp_sIf, wp_sAsg, asg_N, asg_T, asg_nil, asg_cons, wp_par2, par_of, wp_sFor, wp_sSub, wp_app, wp_fn, fin_rt, fin_nx, wp_comp, wp_sl, wp_pNo, List.map_cons, List.map_nil, List.cons_append, List.nil_append, List.length_cons, List.length_nil, List.set_cons_succ, List.set_cons_zero, List.replicate, true_and, Nat.reduceSub, Nat.reduceAdd, wp_ltI, wp_gtI, wp_geI, wp_leI, wp_addI, wp_subI, wp_eqI, wp_neI]
  refine Wp.of (show isTL (mD l) s = ok (.bl true) s from rfl) ?_
  simp only [wp_ok, wp_ok', wp_ne, wp_loc0, wp_locS, wp_C, wp_e1, wp_e2, wp_aNil, wp_aCons, wp_eB, wp_call, wp_tup, wp_lst, wp_new, wp_frz, wp_tBl, wp_isBl, wp_tru, wp_truB, wp_tAnd, wp_tOr, wp_tNot, wp_eAnd, wp_eOr, wp_eNot, wp_eIf, wp_eCh, wp_sNil, wp_sRet, wp_sExpr, wp_sCont, wp_sSeq, aft_nx, aft_rt, aft_ct, wp_sIf, wp_sAsg, asg_N, asg_T, asg_nil, asg_cons, wp_par2, par_of, wp_sFor, wp_sSub, wp_app, wp_fn, fin_rt, fin_nx, wp_comp, wp_sl, wp_pNo, List.map_cons, List.map_nil, List.cons_append, List.nil_append, List.length_cons, List.length_nil, List.set_cons_succ, List.set_cons_zero, List.replicate, true_and, Nat.reduceSub, Nat.reduceAdd, wp_ltI, wp_gtI, wp_geI, wp_leI, wp_addI, wp_subI, wp_eqI, wp_neI, if_true]
  refine Wp.of (show bIsi [mD l, .ty "tuple"] s = ok (.bl true) s from rfl) ?_
  refine Wp.of (show bIsi [mD l, .ty "tuple"] s = ok (.bl true) s from rfl) ?_
  refine Wp.of (show opNe (.bl true) (.bl true) s = ok (.bl false) s from rfl) ?_
  simp only [wp_ok, wp_ok', wp_ne, wp_loc0, wp_locS, wp_C, wp_e1, wp_e2, wp_aNil, wp_aCons, wp_eB, wp_call, wp_tup, wp_lst, wp_new, wp_frz, wp_tBl, wp_isBl, wp_tru, wp_truB, wp_tAnd, wp_tOr, wp_tNot, wp_eAnd, wp_eOr, wp_eNot, wp_eIf, wp_eCh, wp_sNil, wp_sRet, wp_sExpr, wp_sCont, wp_sSeq, aft_nx, aft_rt, aft_ct, wp_sIf, wp_sAsg, asg_N, asg_T, asg_nil, asg_cons, wp_par2, par_of, wp_sFor, wp_sSub, wp_app, wp_fn, fin_rt, fin_nx, wp_comp, wp_sl, wp_pNo, List.map_cons, List.map_nil, List.cons_append, List.nil_append, List.length_cons, List.length_nil, List.set_cons_succ, List.set_cons_zero, List.replicate, true_and, Nat.reduceSub, Nat.reduceAdd, wp_ltI, wp_gtI, wp_geI, wp_leI, wp_addI, wp_subI, wp_eqI, wp_neI, Bool.false_eq_true, if_false]
  refine Wp.of (show bIsi [mD l, .ty "list"] s = ok (.bl false) s from rfl) ?_
  refine Wp.of (show bIsi [mD l, .ty "list"] s = ok (.bl false) s from rfl) ?_
  refine Wp.of (show opNe (.bl false) (.bl false) s = ok (.bl false) s from rfl) ?_
  simp only [wp_ok, wp_ok', wp_ne, wp_loc0, wp_locS, wp_C, wp_e1, wp_e2, wp_aNil, wp_aCons, wp_eB, wp_call, wp_tup, wp_lst, wp_new, wp_frz, wp_tBl, wp_isBl, wp_tru, wp_truB, wp_tAnd, wp_tOr, wp_tNot, wp_eAnd, wp_eOr, wp_eNot, wp_eIf, wp_eCh, wp_sNil, wp_sRet, wp_sExpr, wp_sCont, wp_sSeq, aft_nx, aft_rt, aft_ct, wp_sIf, wp_sAsg, asg_N, asg_T, asg_nil, asg_cons, wp_par2, par_of, wp_sFor, wp_sSub, wp_app, wp_fn, fin_rt, fin_nx, wp_comp, wp_sl, wp_pNo, List.map_cons, List.map_nil, List.cons_append, List.nil_append, List.length_cons, List.length_nil, List.set_cons_succ, List.set_cons_zero, List.replicate, true_and, Nat.reduceSub, Nat.reduceAdd, wp_ltI, wp_gtI, wp_geI, wp_leI, wp_addI, wp_subI, wp_eqI, wp_neI, Bool.false_eq_true, if_false, lenM, beq_self_eq_true, if_true]
  refine Wp.of (iZipT_of rfl) ⟨le_size (by rw [zipD_len]; simp only [List.length_map]; omega), ?_⟩
  rw [zipD_ints]
  refine Wp.of (comp_map (fun p : Int × Int => D.tup [.int p.1, .int p.2]) (fun _ => true) (fun p => .bl true) _ fun p hp => ⟨[some (.int p.1), some (.int p.2)], rfl, rfl, fun _ => ?_⟩) ?_
  · have e : p.1 = p.2 := by
      obtain ⟨i, hi⟩ := List.getElem?_of_mem hp
      obtain ⟨h1, h2⟩ := List.getElem?_zip_eq_some.mp hi
      rw [h1] at h2
      exact Option.some.inj h2
    refine Wp.eq ?_
    simp only [wp_ok, wp_ok', wp_ne, wp_loc0, wp_locS, wp_C, wp_e1, wp_e2, wp_aNil, wp_aCons, wp_eB, wp_call, wp_tup, wp_lst, wp_new, wp_frz, wp_tBl, wp_isBl, wp_tru, wp_truB, wp_tAnd, wp_tOr, wp_tNot, wp_eAnd, wp_eOr, wp_eNot, wp_eIf, wp_eCh, wp_sNil, wp_sRet, wp_sExpr, wp_sCont, wp_sSeq, aft_nx, aft_rt, aft_ct, wp_sIf, wp_sAsg, asg_N, asg_T, asg_nil, asg_cons, wp_par2, par_of, wp_sFor, wp_sSub, wp_app, wp_fn, fin_rt, fin_nx, wp_comp, wp_sl, wp_pNo, List.map_cons, List.map_nil, List.cons_append, List.nil_append, List.length_cons, List.length_nil, List.set_cons_succ, List.set_cons_zero, List.replicate, true_and, Nat.reduceSub, Nat.reduceAdd, wp_ltI, wp_gtI, wp_geI, wp_leI, wp_addI, wp_subI, wp_eqI, wp_neI, e, same_int, and_self]
  · rw [filter_tt]
    exact Wp.of (all_bls (fun _ => true) _ _) ⟨by simp, rfl⟩
end DI

set_option Elab.async false
set_option linter.all false
set_option maxRecDepth 100000
set_option maxHeartbeats 4000000
namespace DI
open PySem L2
def Valid (rs : List (List Int)) (l : List Int) : Prop := ∀ i j, i < j → j < l.length → l.getD i 0 = l.getD j 0 → sub (rs.getD i []) (rs.getD j []) = true
theorem layOf_valid (rs : List (List Int)) : ∀ k, ∀ l ∈ layOf rs k, Valid rs l
  | 0, l, h => by
    simp [layOf] at h
    subst h
    intro i j h1 h2 _
    simp at h2
    omega
  | k + 1, l, h => by
    simp only [layOf, step, List.mem_flatMap, List.mem_map, List.mem_filter] at h
    obtain ⟨a, ha, m, ⟨_, hm⟩, rfl⟩ := h
    have va := layOf_valid rs k a ha
    intro i j h1 h2 he
    rw [List.length_append] at h2
    simp only [List.length_cons, List.length_nil] at h2
    by_cases hj : j < a.length
    · have e1 : (a ++ [m]).getD i 0 = a.getD i 0 := by rw [List.getD_eq_getElem?_getD, List.getD_eq_getElem?_getD, List.getElem?_append_left (by omega)]
      have e2 : (a ++ [m]).getD j 0 = a.getD j 0 := by rw [List.getD_eq_getElem?_getD, List.getD_eq_getElem?_getD, List.getElem?_append_left hj]
      rw [e1, e2] at he
      exact va i j h1 hj he
    · have ej : j = a.length := by omega
      subst ej
      have e1 : (a ++ [m]).getD i 0 = a.getD i 0 := by rw [List.getD_eq_getElem?_getD, List.getD_eq_getElem?_getD, List.getElem?_append_left h1]
      have e2 : (a ++ [m]).getD a.length 0 = m := by rw [List.getD_eq_getElem?_getD]; simp
      rw [e1, e2] at he
      unfold mayLay at hm
      rw [List.all_eq_true] at hm
      exact hm i (List.mem_filter.mpr ⟨List.mem_range.mpr h1, by rw [he]; simp⟩)
def mine (rs : List (List Int)) (l : List Int) (m : Int) : List (List Int) := [] :: ((List.range l.length).filter fun i => l.getD i 0 == m).map fun i => rs.getD i []
def lastM (rs : List (List Int)) (l : List Int) (m : Int) : List Int := (((List.range l.length).filter fun i => l.getD i 0 == m).map fun i => rs.getD i []).getLastD []
def mayL (rs : List (List Int)) (l : List Int) (m : Int) : Bool := sub (lastM rs l m) (rs.getD l.length [])
theorem mayL_eq {rs : List (List Int)} {l : List Int} {m : Int} (v : Valid rs l) : mayL rs l m = mayLay rs l m := by
  have hs : ((List.range l.length).filter fun i => l.getD i 0 == m).Pairwise (· < ·) := List.Pairwise.filter _ List.pairwise_lt_range
  have hm : ∀ i ∈ ((List.range l.length).filter fun i => l.getD i 0 == m), i < l.length ∧ l.getD i 0 = m := fun i hi => by
    obtain ⟨h1, h2⟩ := List.mem_filter.mp hi
    exact ⟨List.mem_range.mp h1, by simpa using h2⟩
  unfold mayL mayLay lastM
  generalize ((List.range l.length).filter fun i => l.getD i 0 == m) = F at hs hm
  rcases List.eq_nil_or_concat F with e | ⟨pre, t, e⟩
  · subst e
    rfl
  · rw [List.concat_eq_append] at e
    subst e
    have e2 : ((pre ++ [t]).map fun i => rs.getD i []).getLastD [] = rs.getD t [] := by
      rw [List.map_append]
      simp [List.getLastD_concat]
    rw [e2]
    have ht := hm t (by simp)
    cases hb : sub (rs.getD t []) (rs.getD l.length []) with
    | true =>
      symm
      rw [List.all_eq_true]
      intro i hi
      rcases List.mem_append.mp hi with hi' | hi'
      · have hit : i < t := (List.pairwise_append.mp hs).2.2 i hi' t (by simp)
        have hh := hm i hi
        exact sub_trans (v i t hit ht.1 (by rw [hh.2, ht.2])) hb
      · rw [List.mem_singleton.mp hi']
        exact hb
    | false =>
      symm
      rw [List.all_eq_false]
      exact ⟨t, by simp, by rw [hb]; exact Bool.false_ne_true⟩
theorem ixLast {xs : List D} (h : xs ≠ []) {s : Sto} : opIx (.lst xs) (.int (-1)) s = ok (xs.getLast h) s := by
  have e : atI xs (-1) = some (xs.getLast h) := by
    conv => lhs; rw [← List.dropLast_concat_getLast h]
    exact atI_last _ _
  unfold opIx ixD
  rw [show res (.lst xs) s = .lst xs from rfl]
  simp only [e]
  rfl
theorem eqNil {ns : List Int} {s : Sto} : opEq (.lst (ns.map D.int)) (.lst []) s = ok (.bl ns.isEmpty) s := by
  have l1 : lay (.lst (ns.map D.int)) = true := by simp only [lay, lays_ints]
  have e : eqAns (.lst (ns.map D.int)) (.lst []) = some ns.isEmpty := by
    unfold eqAns
    rw [if_neg (by simp [sc]), if_pos (by rw [l1, show lay (.lst []) = true from rfl, decide_eq_true (Nat.le_trans (Nat.min_le_right (dep (.lst (ns.map D.int))) (dep (.lst []))) (by decide))]; rfl)]
    cases ns with
    | nil => rfl
    | cons _ _ => rfl
  show (match eqAns (.lst (ns.map D.int)) (.lst []) with | some b => ok (D.bl b) s | none => none) = _
  rw [e]
theorem appLast {c : Sto} {ds : List D} {x : D} (h : ds.length ≤ 1000000) : appD (.han c.length) x (c ++ [.lst ds]) = ok .non (c ++ [.lst (ds ++ [x])]) := by
  unfold appD
  have e : (c ++ [Cell.lst ds])[c.length]? = some (.lst ds) := by simp
  have hl : ds.length < sizeLine := Nat.lt_of_le_of_lt h (by decide)
  simp only [e, decide_eq_true hl, if_true]
  rw [List.set_append_right _ _ (Nat.le_refl _)]
  simp
theorem lstH_last {c : Sto} {ds : List D} : lstH (.han c.length) (c ++ [.lst ds]) = true := by
  unfold lstH
  have e : (c ++ [Cell.lst ds])[c.length]? = some (.lst ds) := by simp
  simp only [e]
theorem frzLast {c : Sto} {ds : List D} : frz (.han c.length) (c ++ [.lst ds]) = ok (.lst ds) (c ++ [.dead]) := by
  unfold frz
  have e : (c ++ [Cell.lst ds])[c.length]? = some (.lst ds) := by simp
  simp only [e]
  rw [List.set_append_right _ _ (Nat.le_refl _)]
  simp
theorem addL {xs ys : List D} {s : Sto} (h : xs.length + ys.length ≤ 1000000) : opAdd (.lst xs) (.lst ys) s = ok (.lst (xs ++ ys)) s := by
  have e : addD (.lst xs) (.lst ys) = some (.lst (xs ++ ys)) := by
    show (if fewD xs ys = true then some (D.lst (xs ++ ys)) else none) = _
    have hf : fewD xs ys = true := decide_eq_true (le_size h)
    rw [if_pos hf]
  show pur (addD (.lst xs) (.lst ys)) s = _
  rw [e]
  rfl
theorem llay_turn {rs : List (List Int)} {l : List Int} {m : Int} {c : Sto} {acc : List (List Int)} {fo : D} {x6 : Option D} {Q : Fl → Sto → Prop} (h : GRun rs) (hl : l.length < rs.length) (ha : acc.length ≤ 5000)
    (hQ : ∀ x, Q (.nx [some (rD rs), some fo, some (.int l.length), some (.han c.length), some (mD l), some (.int m), x]) (c ++ [.lst ((if mayL rs l m = true then acc ++ [l ++ [m]] else acc).map mD)])) :
    Wp (sSeq (sAsg (e2 opAdd (eLst (aCons (eTup aNil) aNil)) (eComp 1 [0, 5, 4] (iR1 (aCons (eLoc 2) aNil)) (gN 0) (tBl (e2 opEq (e2 opIx (eLoc 3) (eLoc 0)) (eLoc 2))) (e2 opIx (eLoc 1) (eLoc 0)))) (gN 6))
      (sIf (tBl (e2 opEq (eComp 1 [0, 2] (iSeq (e2 opIx (eLoc 6) (e1 opNeg (eC (.int 1))))) (gN 0) (tBl (e2 opNotIn (eLoc 0) (e2 opIx (eLoc 1) (eLoc 2)))) (eLoc 0)) (eLst aNil))) (sExpr (eApp (eLoc 3) (e2 opAdd (eLoc 4) (eTup (aCons (eLoc 5) aNil))))) sNil)
      [some (rD rs), some fo, some (.int l.length), some (.han c.length), some (mD l), some (.int m), x6] (c ++ [.lst (acc.map mD)])) Q := by
  have hi := h.hi
  simp only [wp_ok, wp_ok', wp_ne, wp_loc0, wp_locS, wp_C, wp_e1, wp_e2, wp_aNil, wp_aCons, wp_eB, wp_call, wp_tup, wp_lst, wp_new, wp_frz, wp_tBl, wp_isBl, wp_tru, wp_truB, wp_tAnd, wp_tOr, wp_tNot, wp_eAnd, wp_eOr, wp_eNot, wp_eIf, wp_eCh, wp_sNil, wp_sRet, wp_sExpr, wp_sCont, wp_sSeq, aft_nx, aft_rt, aft_ct, wp_sIf, wp_sAsg, asg_N, asg_T, asg_nil, asg_cons, wp_par2, par_of, wp_sFor, wp_sSub, wp_app, wp_fn, fin_rt, fin_nx, wp_comp, wp_sl, wp_pNo, List.map_cons, List.map_nil, List.cons_append, List.nil_append, List.length_cons, List.length_nil, List.set_cons_succ, List.set_cons_zero, List.replicate, true_and, Nat.reduceSub, Nat.reduceAdd, wp_ltI, wp_gtI, wp_geI, wp_leI, wp_addI, wp_subI, wp_eqI, wp_neI]
  refine ⟨by decide, by decide, Wp.of (iR1_of (s1 := c ++ [.lst (acc.map mD)]) (n := l.length) rfl (by omega)) ⟨le_size (by rw [rng_len]; omega), ?_⟩⟩
  rw [rng_map]
  refine Wp.of (comp_map (fun i : Nat => D.int (0 + (i : Int))) (fun i => l.getD i 0 == m) (fun i => mD (rs.getD i [])) _ fun i hi' => ⟨[some (.int (0 + (i : Int))), some (rD rs), some (.int m), some (mD l)], rfl, ?_, fun _ => ?_⟩) ?_
  · have hi2 := List.mem_range.mp hi'
    refine Wp.eq ?_
    simp only [wp_ok, wp_ok', wp_ne, wp_loc0, wp_locS, wp_C, wp_e1, wp_e2, wp_aNil, wp_aCons, wp_eB, wp_call, wp_tup, wp_lst, wp_new, wp_frz, wp_tBl, wp_isBl, wp_tru, wp_truB, wp_tAnd, wp_tOr, wp_tNot, wp_eAnd, wp_eOr, wp_eNot, wp_eIf, wp_eCh, wp_sNil, wp_sRet, wp_sExpr, wp_sCont, wp_sSeq, aft_nx, aft_rt, aft_ct, wp_sIf, wp_sAsg, asg_N, asg_T, asg_nil, asg_cons, wp_par2, par_of, wp_sFor, wp_sSub, wp_app, wp_fn, fin_rt, fin_nx, wp_comp, wp_sl, wp_pNo, List.map_cons, List.map_nil, List.cons_append, List.nil_append, List.length_cons, List.length_nil, List.set_cons_succ, List.set_cons_zero, List.replicate, true_and, Nat.reduceSub, Nat.reduceAdd, wp_ltI, wp_gtI, wp_geI, wp_leI, wp_addI, wp_subI, wp_eqI, wp_neI, Int.zero_add, ixM hi2, and_self]
  · have hi2 := List.mem_range.mp hi'
    refine Wp.eq ?_
    simp only [wp_ok, wp_ok', wp_ne, wp_loc0, wp_locS, wp_C, wp_e1, wp_e2, wp_aNil, wp_aCons, wp_eB, wp_call, wp_tup, wp_lst, wp_new, wp_frz, wp_tBl, wp_isBl, wp_tru, wp_truB, wp_tAnd, wp_tOr, wp_tNot, wp_eAnd, wp_eOr, wp_eNot, wp_eIf, wp_eCh, wp_sNil, wp_sRet, wp_sExpr, wp_sCont, wp_sSeq, aft_nx, aft_rt, aft_ct, wp_sIf, wp_sAsg, asg_N, asg_T, asg_nil, asg_cons, wp_par2, par_of, wp_sFor, wp_sSub, wp_app, wp_fn, fin_rt, fin_nx, wp_comp, wp_sl, wp_pNo, List.map_cons, List.map_nil, List.cons_append, List.nil_append, List.length_cons, List.length_nil, List.set_cons_succ, List.set_cons_zero, List.replicate, true_and, Nat.reduceSub, Nat.reduceAdd, wp_ltI, wp_gtI, wp_geI, wp_leI, wp_addI, wp_subI, wp_eqI, wp_neI, Int.zero_add, ixR (show i < rs.length by omega), and_self]
  · refine Wp.of (addL ?_) ?_
    · have := List.length_filter_le (fun i => l.getD i 0 == m) (List.range l.length)
      rw [List.length_range] at this
      simp only [List.length_cons, List.length_nil, List.length_map]
      omega
    · have em : ([D.tup []] ++ ((List.range l.length).filter fun i => l.getD i 0 == m).map fun i => mD (rs.getD i [])) = (mine rs l m).map mD := by
        unfold mine
        rw [List.map_cons, List.map_map]
        rfl
      rw [em]
      have hne : (mine rs l m).map mD ≠ [] := by unfold mine; simp
      have hlast : ((mine rs l m).map mD).getLast hne = mD (lastM rs l m) := by
        rw [List.getLast_map]
        unfold mine lastM
        rw [List.getLast_eq_getLastD]
      try simp only [wp_ok, wp_ok', wp_ne, wp_loc0, wp_locS, wp_C, wp_e1, wp_e2, wp_aNil, wp_aCons, wp_eB, wp_call, wp_tup, wp_lst, wp_new, wp_frz, wp_tBl, wp_isBl, wp_tru, wp_truB, wp_tAnd, wp_tOr, wp_tNot, wp_eAnd, wp_eOr, wp_eNot, wp_eIf, wp_eCh, wp_sNil, wp_sRet, wp_sExpr, wp_sCont, wp_sSeq, aft_nx, aft_rt, aft_ct, wp_sIf, wp_sAsg, asg_N, asg_T, asg_nil, asg_cons, wp_par2, par_of, wp_sFor, wp_sSub, wp_app, wp_fn, fin_rt, fin_nx, wp_comp, wp_sl, wp_pNo, List.map_cons, List.map_nil, List.cons_append, List.nil_append, List.length_cons, List.length_nil, List.set_cons_succ, List.set_cons_zero, List.replicate, true_and, Nat.reduceSub, Nat.reduceAdd, wp_ltI, wp_gtI, wp_geI, wp_leI, wp_addI, wp_subI, wp_eqI, wp_neI]
      have hlen : (lastM rs l m).length ≤ 8 := by
        have hmem : lastM rs l m ∈ mine rs l m := by
          have e : lastM rs l m = (mine rs l m).getLast (by unfold mine; simp) := by
            unfold mine lastM
            rw [List.getLast_eq_getLastD]
          rw [e]
          exact List.getLast_mem _
        unfold mine at hmem
        rcases List.mem_cons.mp hmem with e | e
        · rw [e]; simp
        · obtain ⟨i, hi', e⟩ := List.mem_map.mp e
          have hi2 := List.mem_range.mp (List.mem_filter.mp hi').1
          rw [← e]
          exact (h.mks (rs.getD i []) (List.mem_of_getElem? (getD_some (d := []) (by omega)))).len
      refine Wp.of (iSeqT_of (ds := (lastM rs l m).map D.int) (s1 := c ++ [.lst (acc.map mD)]) ?_) ⟨le_size (by rw [List.length_map]; omega), ?_⟩
      · refine Wp.eq ?_
        simp only [wp_ok, wp_ok', wp_ne, wp_loc0, wp_locS, wp_C, wp_e1, wp_e2, wp_aNil, wp_aCons, wp_eB, wp_call, wp_tup, wp_lst, wp_new, wp_frz, wp_tBl, wp_isBl, wp_tru, wp_truB, wp_tAnd, wp_tOr, wp_tNot, wp_eAnd, wp_eOr, wp_eNot, wp_eIf, wp_eCh, wp_sNil, wp_sRet, wp_sExpr, wp_sCont, wp_sSeq, aft_nx, aft_rt, aft_ct, wp_sIf, wp_sAsg, asg_N, asg_T, asg_nil, asg_cons, wp_par2, par_of, wp_sFor, wp_sSub, wp_app, wp_fn, fin_rt, fin_nx, wp_comp, wp_sl, wp_pNo, List.map_cons, List.map_nil, List.cons_append, List.nil_append, List.length_cons, List.length_nil, List.set_cons_succ, List.set_cons_zero, List.replicate, true_and, Nat.reduceSub, Nat.reduceAdd, wp_ltI, wp_gtI, wp_geI, wp_leI, wp_addI, wp_subI, wp_eqI, wp_neI]
        refine Wp.of (show opNeg (.int 1) _ = ok (.int (-1)) _ from rfl) ?_
        refine Wp.of (ixLast hne) ⟨hlast, rfl⟩
      · refine Wp.of (comp_ints (fun x => !decide (x ∈ rs.getD l.length [])) D.int _ fun n _ => ⟨[some (.int n), some (rD rs), some (.int l.length)], rfl, ?_, fun _ => rfl⟩) ?_
        · refine Wp.eq ?_
          simp only [wp_ok, wp_ok', wp_ne, wp_loc0, wp_locS, wp_C, wp_e1, wp_e2, wp_aNil, wp_aCons, wp_eB, wp_call, wp_tup, wp_lst, wp_new, wp_frz, wp_tBl, wp_isBl, wp_tru, wp_truB, wp_tAnd, wp_tOr, wp_tNot, wp_eAnd, wp_eOr, wp_eNot, wp_eIf, wp_eCh, wp_sNil, wp_sRet, wp_sExpr, wp_sCont, wp_sSeq, aft_nx, aft_rt, aft_ct, wp_sIf, wp_sAsg, asg_N, asg_T, asg_nil, asg_cons, wp_par2, par_of, wp_sFor, wp_sSub, wp_app, wp_fn, fin_rt, fin_nx, wp_comp, wp_sl, wp_pNo, List.map_cons, List.map_nil, List.cons_append, List.nil_append, List.length_cons, List.length_nil, List.set_cons_succ, List.set_cons_zero, List.replicate, true_and, Nat.reduceSub, Nat.reduceAdd, wp_ltI, wp_gtI, wp_geI, wp_leI, wp_addI, wp_subI, wp_eqI, wp_neI, ixR hl, notIn_ints, and_self]
        · refine ⟨by decide, ?_⟩
          rw [eqNil]
          simp only [wp_ok, wp_ok', wp_ne, wp_loc0, wp_locS, wp_C, wp_e1, wp_e2, wp_aNil, wp_aCons, wp_eB, wp_call, wp_tup, wp_lst, wp_new, wp_frz, wp_tBl, wp_isBl, wp_tru, wp_truB, wp_tAnd, wp_tOr, wp_tNot, wp_eAnd, wp_eOr, wp_eNot, wp_eIf, wp_eCh, wp_sNil, wp_sRet, wp_sExpr, wp_sCont, wp_sSeq, aft_nx, aft_rt, aft_ct, wp_sIf, wp_sAsg, asg_N, asg_T, asg_nil, asg_cons, wp_par2, par_of, wp_sFor, wp_sSub, wp_app, wp_fn, fin_rt, fin_nx, wp_comp, wp_sl, wp_pNo, List.map_cons, List.map_nil, List.cons_append, List.nil_append, List.length_cons, List.length_nil, List.set_cons_succ, List.set_cons_zero, List.replicate, true_and, Nat.reduceSub, Nat.reduceAdd, wp_ltI, wp_gtI, wp_geI, wp_leI, wp_addI, wp_subI, wp_eqI, wp_neI]
          have eb : ((lastM rs l m).filter fun x => !decide (x ∈ rs.getD l.length [])).isEmpty = mayL rs l m := by
            unfold mayL sub
            rw [Bool.eq_iff_iff]
            simp [List.filter_eq_nil_iff]
          rw [eb]
          cases hb : mayL rs l m with
          | true =>
            rw [if_pos rfl]
            refine ⟨lstH_last, by decide, ?_⟩
            refine Wp.of (show opAdd (mD l) (.tup [.int m]) _ = _ from addT (b := [m]) (by simp; omega)) ?_
            refine Wp.of (appLast (by rw [List.length_map]; omega)) ?_
            have := hQ (some (.lst ((mine rs l m).map mD)))
            rw [hb, if_pos rfl, List.map_append] at this
            exact this
          | false =>
            rw [if_neg Bool.false_ne_true]
            have := hQ (some (.lst ((mine rs l m).map mD)))
            rw [hb, if_neg Bool.false_ne_true] at this
            exact this
end DI

set_option Elab.async false
set_option linter.all false
set_option maxRecDepth 100000
set_option maxHeartbeats 4000000
namespace DI
open PySem L2
theorem stepL {rs : List (List Int)} {l : List Int} (v : Valid rs l) (acc : List (List Int)) : (if mayL rs l 1 = true then (if mayL rs l 0 = true then acc ++ [l ++ [0]] else acc) ++ [l ++ [1]] else (if mayL rs l 0 = true then acc ++ [l ++ [0]] else acc)) = acc ++ ([0, 1].filter fun m => mayLay rs l m).map fun m => l ++ [m] := by
  rw [mayL_eq v, mayL_eq v]
  cases h0 : mayLay rs l 0 <;> cases h1 : mayLay rs l 1 <;> simp [h0, h1]
theorem take_flat {α β : Type} (f : α → List β) (xs : List α) (i : Nat) (x : α) (h : xs[i]? = some x) : (xs.take (i + 1)).flatMap f = (xs.take i).flatMap f ++ f x := by
  rw [List.take_succ, h, List.flatMap_append]
  simp
theorem llay_ok {rs : List (List Int)} {s : Sto} (h : GRun rs) : Wp (f_Llayings [rD rs] s) fun d s' => d = .lst ((layOf rs (rs.length - 1)).map mD) ∧ ∃ c, s' = s ++ c := by
  have hlo := h.lo
  have hhi := h.hi
  unfold f_Llayings
  simp only [wp_ok, wp_ok', wp_ne, wp_loc0, wp_locS, wp_C, wp_e1, wp_e2, wp_aNil, wp_aCons, wp_eB, wp_call, wp_tup, wp_lst, wp_new, wp_frz, wp_tBl, wp_isBl, wp_tru, wp_truB, wp_tAnd, wp_tOr, wp_tNot, wp_eAnd, wp_eOr, wp_eNot, wp_eIf, wp_eCh, wp_sNil, wp_sRet, wp_sExpr, wp_sCont, wp_sSeq, aft_nx, aft_rt, aft_ct, wp_sIf, wp_sAsg, asg_N, asg_T, asg_nil, asg_cons, wp_par2, par_of, wp_sFor, wp_sSub, wp_app, wp_fn, fin_rt, fin_nx, wp_comp, wp_sl, wp_pNo, List.map_cons, List.map_nil, List.cons_append, List.nil_append, List.length_cons, List.length_nil, List.set_cons_succ, List.set_cons_zero, List.replicate, true_and, Nat.reduceSub, Nat.reduceAdd, wp_ltI, wp_gtI, wp_geI, wp_leI, wp_addI, wp_subI, wp_eqI, wp_neI]
  refine ⟨by decide, by decide, ?_⟩
  refine Wp.of (rng2 (rs := rs.length) (Wp.eq (by simp only [wp_ok, wp_ok', wp_ne, wp_loc0, wp_locS, wp_C, wp_e1, wp_e2, wp_aNil, wp_aCons, wp_eB, wp_call, wp_tup, wp_lst, wp_new, wp_frz, wp_tBl, wp_isBl, wp_tru, wp_truB, wp_tAnd, wp_tOr, wp_tNot, wp_eAnd, wp_eOr, wp_eNot, wp_eIf, wp_eCh, wp_sNil, wp_sRet, wp_sExpr, wp_sCont, wp_sSeq, aft_nx, aft_rt, aft_ct, wp_sIf, wp_sAsg, asg_N, asg_T, asg_nil, asg_cons, wp_par2, par_of, wp_sFor, wp_sSub, wp_app, wp_fn, fin_rt, fin_nx, wp_comp, wp_sl, wp_pNo, List.map_cons, List.map_nil, List.cons_append, List.nil_append, List.length_cons, List.length_nil, List.set_cons_succ, List.set_cons_zero, List.replicate, true_and, Nat.reduceSub, Nat.reduceAdd, wp_ltI, wp_gtI, wp_geI, wp_leI, wp_addI, wp_subI, wp_eqI, wp_neI, lenR, and_self])) (by omega)) ?_
  refine Wp.for_ (fun i env s' => (∃ c, s' = s ++ c) ∧ ∃ x2 x3 x4 x5 x6, env = [some (rD rs), some (.lst ((layOf rs i).map mD)), x2, x3, x4, x5, x6]) _ ⟨⟨[], by simp⟩, _, _, _, _, _, rfl⟩ (fun i d env s' hd hI => ?_) (fun env s' hI => ?_)
  · obtain ⟨⟨c, rfl⟩, x2, x3, x4, x5, x6, rfl⟩ := hI
    rw [rng_get] at hd
    split at hd
    · rename_i hi
      cases hd
      refine ⟨_, rfl, ?_⟩
      simp only [wp_ok, wp_ok', wp_ne, wp_loc0, wp_locS, wp_C, wp_e1, wp_e2, wp_aNil, wp_aCons, wp_eB, wp_call, wp_tup, wp_lst, wp_new, wp_frz, wp_tBl, wp_isBl, wp_tru, wp_truB, wp_tAnd, wp_tOr, wp_tNot, wp_eAnd, wp_eOr, wp_eNot, wp_eIf, wp_eCh, wp_sNil, wp_sRet, wp_sExpr, wp_sCont, wp_sSeq, aft_nx, aft_rt, aft_ct, wp_sIf, wp_sAsg, asg_N, asg_T, asg_nil, asg_cons, wp_par2, par_of, wp_sFor, wp_sSub, wp_app, wp_fn, fin_rt, fin_nx, wp_comp, wp_sl, wp_pNo, List.map_cons, List.map_nil, List.cons_append, List.nil_append, List.length_cons, List.length_nil, List.set_cons_succ, List.set_cons_zero, List.replicate, true_and, Nat.reduceSub, Nat.reduceAdd, wp_ltI, wp_gtI, wp_geI, wp_leI, wp_addI, wp_subI, wp_eqI, wp_neI]
      refine ⟨by decide, ?_⟩
      generalize hC : s ++ c = C
      have hCs : ∃ c, C = s ++ c := ⟨c, hC.symm⟩
      refine Wp.of (iSeqL_of (s1 := C ++ [.lst []]) rfl) ?_
      have bound : ∀ j, (((layOf rs i).take j).flatMap fun l => ([0, 1].filter fun m => mayLay rs l m).map fun m => l ++ [m]).length ≤ 2048 := fun j => by
        have h1 := step_len (rs := rs) (told := (layOf rs i).take j)
        have h2 := layOf_len rs i
        have h3 := pow10 (k := i) (by omega)
        have h4 : ((layOf rs i).take j).length ≤ (layOf rs i).length := by rw [List.length_take]; omega
        unfold step at h1
        omega
      refine Wp.for_ (fun j env s' => s' = C ++ [.lst ((((layOf rs i).take j).flatMap fun l => ([0, 1].filter fun m => mayLay rs l m).map fun m => l ++ [m]).map mD)] ∧ ∃ y4 y5 y6, env = [some (rD rs), some (.lst ((layOf rs i).map mD)), some (.int (1 + (i : Int))), some (.han C.length), y4, y5, y6]) _ ⟨by simp, _, _, _, rfl⟩ (fun j d env s' hd hI => ?_) (fun env s' hI => ?_)
      · obtain ⟨rfl, y4, y5, y6, rfl⟩ := hI
        rw [List.getElem?_map] at hd
        cases hl : (layOf rs i)[j]? with
        | none => rw [hl] at hd; cases hd
        | some l =>
          rw [hl] at hd
          cases hd
          have hmem := List.mem_of_getElem? hl
          have hlen := layOf_each rs i l hmem
          have v := layOf_valid rs i l hmem
          have e1 : (1 + (i : Int)) = (l.length : Int) := by rw [hlen]; omega
          refine ⟨_, rfl, ?_⟩
          simp only [wp_sFor]
          generalize hacc : (((layOf rs i).take j).flatMap fun l => ([0, 1].filter fun m => mayLay rs l m).map fun m => l ++ [m]) = acc
          have ha : acc.length ≤ 2048 := by rw [← hacc]; exact bound j
          refine Wp.of (iSeqT_of (ds := [.int 0, .int 1]) (s1 := C ++ [.lst (acc.map mD)]) (Wp.eq (by simp only [wp_ok, wp_ok', wp_ne, wp_loc0, wp_locS, wp_C, wp_e1, wp_e2, wp_aNil, wp_aCons, wp_eB, wp_call, wp_tup, wp_lst, wp_new, wp_frz, wp_tBl, wp_isBl, wp_tru, wp_truB, wp_tAnd, wp_tOr, wp_tNot, wp_eAnd, wp_eOr, wp_eNot, wp_eIf, wp_eCh, wp_sNil, wp_sRet, wp_sExpr, wp_sCont, wp_sSeq, aft_nx, aft_rt, aft_ct, wp_sIf, wp_sAsg, asg_N, asg_T, asg_nil, asg_cons, wp_par2, par_of, wp_sFor, wp_sSub, wp_app, wp_fn, fin_rt, fin_nx, wp_comp, wp_sl, wp_pNo, List.map_cons, List.map_nil, List.cons_append, List.nil_append, List.length_cons, List.length_nil, List.set_cons_succ, List.set_cons_zero, List.replicate, true_and, Nat.reduceSub, Nat.reduceAdd, wp_ltI, wp_gtI, wp_geI, wp_leI, wp_addI, wp_subI, wp_eqI, wp_neI]; exact ⟨by decide, trivial⟩))) ?_
          simp only [List.set_cons_succ, List.set_cons_zero]
          refine Wp.for_ (fun k env s' => s' = C ++ [.lst (((if k = 0 then acc else if k = 1 then (if mayL rs l 0 = true then acc ++ [l ++ [0]] else acc) else (if mayL rs l 1 = true then (if mayL rs l 0 = true then acc ++ [l ++ [0]] else acc) ++ [l ++ [1]] else (if mayL rs l 0 = true then acc ++ [l ++ [0]] else acc)))).map mD)] ∧ ∃ z5 z6, env = [some (rD rs), some (.lst ((layOf rs i).map mD)), some (.int (1 + (i : Int))), some (.han C.length), some (mD l), z5, z6]) _ ⟨by simp, _, _, rfl⟩ (fun k d env s' hd hI => ?_) (fun env s' hI => ?_)
          · obtain ⟨rfl, z5, z6, rfl⟩ := hI
            rw [e1]
            match k, hd with
            | 0, hd =>
              cases hd
              refine ⟨_, rfl, llay_turn h (by omega) (by simp; omega) fun x => ⟨rfl, _, _, rfl⟩⟩
            | 1, hd =>
              cases hd
              refine ⟨_, rfl, llay_turn h (by omega) (by show (if mayL rs l 0 = true then acc ++ [l ++ [0]] else acc).length ≤ 5000; split <;> (try simp only [List.length_append, List.length_cons, List.length_nil]) <;> omega) fun x => ⟨rfl, _, _, rfl⟩⟩
            | k + 2, hd => cases hd
          · obtain ⟨rfl, z5, z6, rfl⟩ := hI
            refine ⟨?_, _, _, _, rfl⟩
            rw [take_flat _ _ j l hl, hacc, ← stepL v]
            rfl
      · obtain ⟨rfl, y4, y5, y6, rfl⟩ := hI
        rw [List.length_map, List.take_length]
        simp only [wp_ok, wp_ok', wp_ne, wp_loc0, wp_locS, wp_C, wp_e1, wp_e2, wp_aNil, wp_aCons, wp_eB, wp_call, wp_tup, wp_lst, wp_new, wp_frz, wp_tBl, wp_isBl, wp_tru, wp_truB, wp_tAnd, wp_tOr, wp_tNot, wp_eAnd, wp_eOr, wp_eNot, wp_eIf, wp_eCh, wp_sNil, wp_sRet, wp_sExpr, wp_sCont, wp_sSeq, aft_nx, aft_rt, aft_ct, wp_sIf, wp_sAsg, asg_N, asg_T, asg_nil, asg_cons, wp_par2, par_of, wp_sFor, wp_sSub, wp_app, wp_fn, fin_rt, fin_nx, wp_comp, wp_sl, wp_pNo, List.map_cons, List.map_nil, List.cons_append, List.nil_append, List.length_cons, List.length_nil, List.set_cons_succ, List.set_cons_zero, List.replicate, true_and, Nat.reduceSub, Nat.reduceAdd, wp_ltI, wp_gtI, wp_geI, wp_leI, wp_addI, wp_subI, wp_eqI, wp_neI]
        refine Wp.of frzLast ?_
        obtain ⟨c, rfl⟩ := hCs
        exact ⟨⟨c ++ [.dead], by simp⟩, _, _, _, _, _, rfl⟩
    · cases hd
  · obtain ⟨hc, x2, x3, x4, x5, x6, rfl⟩ := hI
    rw [rng_len]
    simp only [wp_ok, wp_ok', wp_ne, wp_loc0, wp_locS, wp_C, wp_e1, wp_e2, wp_aNil, wp_aCons, wp_eB, wp_call, wp_tup, wp_lst, wp_new, wp_frz, wp_tBl, wp_isBl, wp_tru, wp_truB, wp_tAnd, wp_tOr, wp_tNot, wp_eAnd, wp_eOr, wp_eNot, wp_eIf, wp_eCh, wp_sNil, wp_sRet, wp_sExpr, wp_sCont, wp_sSeq, aft_nx, aft_rt, aft_ct, wp_sIf, wp_sAsg, asg_N, asg_T, asg_nil, asg_cons, wp_par2, par_of, wp_sFor, wp_sSub, wp_app, wp_fn, fin_rt, fin_nx, wp_comp, wp_sl, wp_pNo, List.map_cons, List.map_nil, List.cons_append, List.nil_append, List.length_cons, List.length_nil, List.set_cons_succ, List.set_cons_zero, List.replicate, true_and, Nat.reduceSub, Nat.reduceAdd, wp_ltI, wp_gtI, wp_geI, wp_leI, wp_addI, wp_subI, wp_eqI, wp_neI]
    exact hc
end DI

set_option Elab.async false
set_option linter.all false
set_option maxRecDepth 100000
set_option maxHeartbeats 4000000
namespace DI
open PySem L2
theorem Ex.get {k j : Nat} {s s' : Sto} {c : Cell} (h : Ex k s s') (e : s[j]? = some c) (hj : j ≠ k) : s'[j]? = some c := by
  rw [h.val j (List.getElem?_eq_some_iff.mp e).1 hj]
  exact e
theorem Ex.hi {k j : Nat} {s s' : Sto} (h : Ex k s s') (hj : s.length ≤ j) (c : Cell) : Ex k s (s'.set j c) := ⟨by rw [List.length_set]; exact h.len, fun i hi hk => by rw [List.getElem?_set_ne (by omega)]; exact h.val i hi hk⟩
theorem ixL4 {k : Int} {s : Sto} (h0 : 0 ≤ k) (h1 : k < 4) : ∃ n : Int, opIx (.lst [.int 9, .int 4, .int 30, .int 9]) (.int k) s = ok (.int n) s ∧ 0 < n ∧ n < 100 := by
  rcases (show k = 0 ∨ k = 1 ∨ k = 2 ∨ k = 3 by omega) with rfl | rfl | rfl | rfl
  · exact ⟨9, rfl, by decide, by decide⟩
  · exact ⟨4, rfl, by decide, by decide⟩
  · exact ⟨30, rfl, by decide, by decide⟩
  · exact ⟨9, rfl, by decide, by decide⟩
theorem more_aux {s1 : Sto} {k n : Nat} {w : Int} (h1 : StAt s1 k) (w0 : 0 ≤ w) (w1 : w < 4) : Wp (compGo 1 [some (.han k), some (.int w)] (gN 0) (tBl (e2 opEq (eCall f_Ltake (aCons (eLoc 1) (aCons (e2 opIx (eLst (aCons (eC (.int 9)) (aCons (eC (.int 4)) (aCons (eC (.int 30)) (aCons (eC (.int 9)) aNil))))) (eLoc 2)) aNil))) (eC (.int 0)))) (eLoc 0) (rng 0 n) s1)
      fun xs s' => ∃ ns, xs = ns.map D.int ∧ Mks n ns ∧ StAt s' k ∧ Ex k s1 s' := by
  refine comp_wp (fun i acc s' => ∃ ns : List Int, acc = ns.map D.int ∧ Mks i ns ∧ StAt s' k ∧ Ex k s1 s') (rng 0 n) ⟨[], rfl, ⟨by simp, .nil⟩, h1, Ex.refl _ _⟩ (fun i d acc s' hd hI => ?_) fun acc s' hI => ?_
  · obtain ⟨ns, rfl, hm, h2, x2⟩ := hI
    rw [rng_get] at hd
    split at hd
    · cases hd
      refine ⟨[some (.int (0 + i)), some (.han k), some (.int w)], rfl, ?_⟩
      obtain ⟨q, hq, q0, q1⟩ := ixL4 (s := s') w0 w1
      simp only [wp_ok, wp_ok', wp_ne, wp_loc0, wp_locS, wp_C, wp_e1, wp_e2, wp_aNil, wp_aCons, wp_eB, wp_call, wp_tup, wp_lst, wp_new, wp_frz, wp_tBl, wp_isBl, wp_tru, wp_truB, wp_tAnd, wp_tOr, wp_tNot, wp_eAnd, wp_eOr, wp_eNot, wp_eIf, wp_eCh, wp_sNil, wp_sRet, wp_sExpr, wp_sCont, wp_sSeq, aft_nx, aft_rt, aft_ct, wp_sIf, wp_sAsg, asg_N, asg_T, asg_nil, asg_cons, wp_par2, par_of, wp_sFor, wp_sSub, wp_app, wp_fn, fin_rt, fin_nx, wp_comp, wp_sl, wp_pNo, List.map_cons, List.map_nil, List.cons_append, List.nil_append, List.length_cons, List.length_nil, List.set_cons_succ, List.set_cons_zero, List.replicate, true_and, Nat.reduceSub, Nat.reduceAdd, wp_ltI, wp_gtI, wp_geI, wp_leI, wp_addI, wp_subI, wp_eqI, wp_neI]
      refine ⟨by decide, ?_⟩
      rw [hq]
      simp only [wp_ok, wp_ok', wp_ne, wp_loc0, wp_locS, wp_C, wp_e1, wp_e2, wp_aNil, wp_aCons, wp_eB, wp_call, wp_tup, wp_lst, wp_new, wp_frz, wp_tBl, wp_isBl, wp_tru, wp_truB, wp_tAnd, wp_tOr, wp_tNot, wp_eAnd, wp_eOr, wp_eNot, wp_eIf, wp_eCh, wp_sNil, wp_sRet, wp_sExpr, wp_sCont, wp_sSeq, aft_nx, aft_rt, aft_ct, wp_sIf, wp_sAsg, asg_N, asg_T, asg_nil, asg_cons, wp_par2, par_of, wp_sFor, wp_sSub, wp_app, wp_fn, fin_rt, fin_nx, wp_comp, wp_sl, wp_pNo, List.map_cons, List.map_nil, List.cons_append, List.nil_append, List.length_cons, List.length_nil, List.set_cons_succ, List.set_cons_zero, List.replicate, true_and, Nat.reduceSub, Nat.reduceAdd, wp_ltI, wp_gtI, wp_geI, wp_leI, wp_addI, wp_subI, wp_eqI, wp_neI]
      refine (take_ok h2 (m := q) q0 (by omega)).mono fun d s3 hd => ?_
      obtain ⟨r, rfl, r0, r1, h3, x3⟩ := hd
      simp only [wp_ok, wp_ok', wp_ne, wp_loc0, wp_locS, wp_C, wp_e1, wp_e2, wp_aNil, wp_aCons, wp_eB, wp_call, wp_tup, wp_lst, wp_new, wp_frz, wp_tBl, wp_isBl, wp_tru, wp_truB, wp_tAnd, wp_tOr, wp_tNot, wp_eAnd, wp_eOr, wp_eNot, wp_eIf, wp_eCh, wp_sNil, wp_sRet, wp_sExpr, wp_sCont, wp_sSeq, aft_nx, aft_rt, aft_ct, wp_sIf, wp_sAsg, asg_N, asg_T, asg_nil, asg_cons, wp_par2, par_of, wp_sFor, wp_sSub, wp_app, wp_fn, fin_rt, fin_nx, wp_comp, wp_sl, wp_pNo, List.map_cons, List.map_nil, List.cons_append, List.nil_append, List.length_cons, List.length_nil, List.set_cons_succ, List.set_cons_zero, List.replicate, true_and, Nat.reduceSub, Nat.reduceAdd, wp_ltI, wp_gtI, wp_geI, wp_leI, wp_addI, wp_subI, wp_eqI, wp_neI]
      split
      · refine ⟨ns ++ [0 + (i : Int)], by simp, ⟨fun x hx => ?_, ?_⟩, h3, x2.trans x3⟩
        · rcases List.mem_append.mp hx with hx | hx
          · have := hm.lo x hx; omega
          · rw [List.mem_singleton.mp hx]; omega
        · refine List.pairwise_append.mpr ⟨hm.up, by simp, fun x hx y hy => ?_⟩
          rw [List.mem_singleton.mp hy]
          have := hm.lo x hx; omega
      · exact ⟨ns, rfl, ⟨fun x hx => by have := hm.lo x hx; omega, hm.up⟩, h3, x2.trans x3⟩
    · cases hd
  · rw [rng_len] at hI
    exact hI
theorem sortSet_of {ns : List Int} {s : Sto} (h : ns.length < 64) : sortSet (.lst (ns.map D.int)) s = ok (.lst ((usort ns).map D.int)) s := by
  unfold sortSet
  rw [show seqOf (.lst (ns.map D.int)) s = some (ns.map D.int) from rfl]
  simp only [ints?_map, decide_eq_true h, if_true]
theorem usort_mks {a b : List Int} (ha : Mks 8 a) (hb : Mks 8 b) : Mks 8 (usort (a ++ b)) := ⟨fun x hx => by
  rw [usort_mem] at hx
  rcases List.mem_append.mp hx with h | h
  · exact ha.lo x h
  · exact hb.lo x h, usort_sorted _⟩
structure RI (s0 : Sto) (k rh mh : Nat) (rs : List (List Int)) (s : Sto) : Prop where
  st : StAt s k
  ex : Ex k s0 s
  run : s[rh]? = some (.lst (rs.map mD))
  mo : ∃ a b, s[mh]? = some (.lst [mD a, mD b]) ∧ Mks 8 a ∧ Mks 8 b
  mks : ∀ r ∈ rs, Mks 8 r
  k1 : k < s0.length
  r1 : s0.length ≤ rh
  m1 : s0.length ≤ mh
  ne : rh ≠ mh
theorem RI.draw {s0 s s' : Sto} {k rh mh : Nat} {rs : List (List Int)} (h : RI s0 k rh mh rs s) (g : StAt s' k) (x : Ex k s s') : RI s0 k rh mh rs s' := by
  have := h.k1
  have := h.r1
  have := h.m1
  obtain ⟨a, b, e, ha, hb⟩ := h.mo
  exact ⟨g, h.ex.trans x, x.get h.run (by omega), ⟨a, b, x.get e (by omega), ha, hb⟩, h.mks, h.k1, h.r1, h.m1, h.ne⟩
theorem RI.push {s0 s : Sto} {k rh mh : Nat} {rs : List (List Int)} {r : List Int} (h : RI s0 k rh mh rs s) (hr : Mks 8 r) : RI s0 k rh mh (rs ++ [r]) (s.set rh (.lst (rs.map mD ++ [mD r]))) := by
  have := h.k1
  have := h.r1
  have := h.m1
  have := h.ne
  obtain ⟨a, b, e, ha, hb⟩ := h.mo
  refine ⟨h.st.set (by omega) _, h.ex.hi (by omega) _, ?_, ⟨a, b, by rw [List.getElem?_set_ne (by omega)]; exact e, ha, hb⟩, fun x hx => ?_, h.k1, h.r1, h.m1, h.ne⟩
  · rw [List.getElem?_set_self (List.getElem?_eq_some_iff.mp h.run).1, List.map_append]
    rfl
  · rcases List.mem_append.mp hx with hx | hx
    · exact h.mks x hx
    · rw [List.mem_singleton.mp hx]; exact hr
theorem RI.put {s0 s : Sto} {k rh mh : Nat} {rs : List (List Int)} {at_ : Int} (h : RI s0 k rh mh rs s) (h0 : at_ = 0 ∨ at_ = 1) : (∃ a, opIx (.han mh) (.int at_) s = ok (mD a) s ∧ Mks 8 a) ∧ ∀ c, Mks 8 c → ∃ s', setD (.han mh) (.int at_) (mD c) s = some s' ∧ RI s0 k rh mh rs s' := by
  have := h.k1
  have := h.r1
  have := h.m1
  have := h.ne
  obtain ⟨a, b, e, ha, hb⟩ := h.mo
  have key : ∀ a b, Mks 8 a → Mks 8 b → RI s0 k rh mh rs (s.set mh (.lst [mD a, mD b])) := fun a b ha hb => ⟨h.st.set (by omega) _, h.ex.hi (by omega) _, by rw [List.getElem?_set_ne (by omega)]; exact h.run, ⟨a, b, List.getElem?_set_self (List.getElem?_eq_some_iff.mp e).1, ha, hb⟩, h.mks, h.k1, h.r1, h.m1, h.ne⟩
  rcases h0 with rfl | rfl
  · exact ⟨⟨a, ix0 _ _ _ _ e, ha⟩, fun c hc => ⟨_, set0 _ _ _ _ _ e, key _ _ hc hb⟩⟩
  · exact ⟨⟨b, ix1 _ _ _ _ e, hb⟩, fun c hc => ⟨_, set1 _ _ _ _ _ e, key _ _ ha hc⟩⟩
theorem Mks.up8 {n : Nat} {l : List Int} (h : Mks n l) (hn : n ≤ 8) : Mks 8 l := ⟨fun x hx => by have := h.lo x hx; omega, h.up⟩
theorem run_ok {s : Sto} {k : Nat} (h : StAt s k) : Wp (f_Lrun [.han k] s) fun d s' => ∃ rs, d = rD rs ∧ GRun rs ∧ StAt s' k ∧ Ex k s s' := by
  have hk := h.lt
  unfold f_Lrun
  simp only [wp_ok, wp_ok', wp_ne, wp_loc0, wp_locS, wp_C, wp_e1, wp_e2, wp_aNil, wp_aCons, wp_eB, wp_call, wp_tup, wp_lst, wp_new, wp_frz, wp_tBl, wp_isBl, wp_tru, wp_truB, wp_tAnd, wp_tOr, wp_tNot, wp_eAnd, wp_eOr, wp_eNot, wp_eIf, wp_eCh, wp_sNil, wp_sRet, wp_sExpr, wp_sCont, wp_sSeq, aft_nx, aft_rt, aft_ct, wp_sIf, wp_sAsg, asg_N, asg_T, asg_nil, asg_cons, wp_par2, par_of, wp_sFor, wp_sSub, wp_app, wp_fn, fin_rt, fin_nx, wp_comp, wp_sl, wp_pNo, List.map_cons, List.map_nil, List.cons_append, List.nil_append, List.length_cons, List.length_nil, List.set_cons_succ, List.set_cons_zero, List.replicate, true_and, Nat.reduceSub, Nat.reduceAdd, wp_ltI, wp_gtI, wp_geI, wp_leI, wp_addI, wp_subI, wp_eqI, wp_neI]
  refine (take_ok h (by decide) (by decide)).mono fun d s1 hd => ?_
  obtain ⟨kd, rfl, kd0, kd1, h1, x1⟩ := hd
  refine ⟨by decide, by decide, ?_⟩
  have hk1 := x1.len
  refine (marks_ok (n := 3) (h1.app _) (by decide)).mono fun d s2 hd => ?_
  obtain ⟨ma, rfl, hma, h2, x2⟩ := hd
  refine (marks_ok (n := 3) h2 (by decide)).mono fun d s3 hd => ?_
  obtain ⟨mb, rfl, hmb, h3, x3⟩ := hd
  refine ⟨by decide, ?_⟩
  have l2 := x2.len
  have l3 := x3.len
  rw [List.length_append, List.length_cons, List.length_nil] at l2
  have hrun : s3[s1.length]? = some (.lst []) := x3.get (x2.get (c := .lst []) (by simp) (by omega)) (by omega)
  have r0 : RI s k s1.length s3.length [] (s3 ++ [.lst [mD ma, mD mb]]) := ⟨h3.app _, ((x1.trans (Ex.app _ _ _)).trans (x2.trans x3)).trans (Ex.app _ _ _), by rw [List.getElem?_append_left (by omega)]; exact hrun, ⟨ma, mb, by simp, hma.up8 (by decide), hmb.up8 (by decide)⟩, by simp, hk, by omega, by omega, by omega⟩
  generalize hS : s3 ++ [.lst [mD ma, mD mb]] = S at r0
  generalize s1.length = rh at r0
  generalize s3.length = mh at r0
  refine Wp.mono (Q := fun ds s4 => ∃ n : Nat, ds = rng 0 n ∧ 1 ≤ n ∧ n ≤ 10 ∧ RI s k rh mh [] s4) ?_ fun ds s4 hd => ?_
  · unfold iR1
    rw [wp_bnd]
    simp only [wp_ok, wp_ok', wp_ne, wp_loc0, wp_locS, wp_C, wp_e1, wp_e2, wp_aNil, wp_aCons, wp_eB, wp_call, wp_tup, wp_lst, wp_new, wp_frz, wp_tBl, wp_isBl, wp_tru, wp_truB, wp_tAnd, wp_tOr, wp_tNot, wp_eAnd, wp_eOr, wp_eNot, wp_eIf, wp_eCh, wp_sNil, wp_sRet, wp_sExpr, wp_sCont, wp_sSeq, aft_nx, aft_rt, aft_ct, wp_sIf, wp_sAsg, asg_N, asg_T, asg_nil, asg_cons, wp_par2, par_of, wp_sFor, wp_sSub, wp_app, wp_fn, fin_rt, fin_nx, wp_comp, wp_sl, wp_pNo, List.map_cons, List.map_nil, List.cons_append, List.nil_append, List.length_cons, List.length_nil, List.set_cons_succ, List.set_cons_zero, List.replicate, true_and, Nat.reduceSub, Nat.reduceAdd, wp_ltI, wp_gtI, wp_geI, wp_leI, wp_addI, wp_subI, wp_eqI, wp_neI]
    refine (take_ok r0.st (by decide) (by decide)).mono fun d s4 hd => ?_
    obtain ⟨n, rfl, n0, n1, h4, x4⟩ := hd
    simp only [wp_ok, wp_ok', wp_ne, wp_loc0, wp_locS, wp_C, wp_e1, wp_e2, wp_aNil, wp_aCons, wp_eB, wp_call, wp_tup, wp_lst, wp_new, wp_frz, wp_tBl, wp_isBl, wp_tru, wp_truB, wp_tAnd, wp_tOr, wp_tNot, wp_eAnd, wp_eOr, wp_eNot, wp_eIf, wp_eCh, wp_sNil, wp_sRet, wp_sExpr, wp_sCont, wp_sSeq, aft_nx, aft_rt, aft_ct, wp_sIf, wp_sAsg, asg_N, asg_T, asg_nil, asg_cons, wp_par2, par_of, wp_sFor, wp_sSub, wp_app, wp_fn, fin_rt, fin_nx, wp_comp, wp_sl, wp_pNo, List.map_cons, List.map_nil, List.cons_append, List.nil_append, List.length_cons, List.length_nil, List.set_cons_succ, List.set_cons_zero, List.replicate, true_and, Nat.reduceSub, Nat.reduceAdd, wp_ltI, wp_gtI, wp_geI, wp_leI, wp_addI, wp_subI, wp_eqI, wp_neI]
    rw [if_pos (inRng_of (by omega) (by omega))]
    exact Wp.ok ⟨(1 + n).toNat, rfl, by omega, by omega, r0.draw h4 x4⟩
  obtain ⟨n, rfl, n0, n1, r1⟩ := hd
  refine Wp.for_ (fun i env s' => ∃ rs at_ x5 x6, rs.length = i ∧ (at_ = 0 ∨ at_ = 1) ∧ RI s k rh mh rs s' ∧ env = [some (.han k), some (.int kd), some (.int at_), some (.han rh), some (.han mh), x5, x6]) _ ⟨[], 0, _, _, rfl, .inl rfl, r1, rfl⟩ (fun i d env s' hd hI => ?_) (fun env s' hI => ?_)
  · obtain ⟨rs, at_, x5, x6, hl, hat, r2, rfl⟩ := hI
    rw [rng_get] at hd
    split at hd
    · rename_i hi
      cases hd
      refine ⟨_, rfl, ?_⟩
      simp only [wp_ok, wp_ok', wp_ne, wp_loc0, wp_locS, wp_C, wp_e1, wp_e2, wp_aNil, wp_aCons, wp_eB, wp_call, wp_tup, wp_lst, wp_new, wp_frz, wp_tBl, wp_isBl, wp_tru, wp_truB, wp_tAnd, wp_tOr, wp_tNot, wp_eAnd, wp_eOr, wp_eNot, wp_eIf, wp_eCh, wp_sNil, wp_sRet, wp_sExpr, wp_sCont, wp_sSeq, aft_nx, aft_rt, aft_ct, wp_sIf, wp_sAsg, asg_N, asg_T, asg_nil, asg_cons, wp_par2, par_of, wp_sFor, wp_sSub, wp_app, wp_fn, fin_rt, fin_nx, wp_comp, wp_sl, wp_pNo, List.map_cons, List.map_nil, List.cons_append, List.nil_append, List.length_cons, List.length_nil, List.set_cons_succ, List.set_cons_zero, List.replicate, true_and, Nat.reduceSub, Nat.reduceAdd, wp_ltI, wp_gtI, wp_geI, wp_leI, wp_addI, wp_subI, wp_eqI, wp_neI]
      refine Wp.of (iR1_of (n := 8) rfl (by decide)) ⟨le_size (by rw [rng_len]; decide), ?_⟩
      refine (more_aux r2.st kd0 kd1).mono fun xs s5 hx => ?_
      obtain ⟨ns, rfl, hns, h5, x5⟩ := hx
      have r3 := r2.draw h5 x5
      obtain ⟨⟨a, ea, ha⟩, hput⟩ := r3.put hat
      have la := ha.len
      have ln := hns.len
      rw [ea]
      simp only [wp_ok, wp_ok', wp_ne, wp_loc0, wp_locS, wp_C, wp_e1, wp_e2, wp_aNil, wp_aCons, wp_eB, wp_call, wp_tup, wp_lst, wp_new, wp_frz, wp_tBl, wp_isBl, wp_tru, wp_truB, wp_tAnd, wp_tOr, wp_tNot, wp_eAnd, wp_eOr, wp_eNot, wp_eIf, wp_eCh, wp_sNil, wp_sRet, wp_sExpr, wp_sCont, wp_sSeq, aft_nx, aft_rt, aft_ct, wp_sIf, wp_sAsg, asg_N, asg_T, asg_nil, asg_cons, wp_par2, par_of, wp_sFor, wp_sSub, wp_app, wp_fn, fin_rt, fin_nx, wp_comp, wp_sl, wp_pNo, List.map_cons, List.map_nil, List.cons_append, List.nil_append, List.length_cons, List.length_nil, List.set_cons_succ, List.set_cons_zero, List.replicate, true_and, Nat.reduceSub, Nat.reduceAdd, wp_ltI, wp_gtI, wp_geI, wp_leI, wp_addI, wp_subI, wp_eqI, wp_neI]
      refine Wp.of (show bList [mD a] s5 = ok (.lst (a.map D.int)) s5 from rfl) ?_
      refine Wp.of (addL (by simp only [List.length_map]; omega)) ?_
      rw [← List.map_append]
      refine Wp.of (sortSet_of (by rw [List.length_append]; omega)) ?_
      refine Wp.of (show bTuple [.lst ((usort (a ++ ns)).map D.int)] s5 = ok (mD (usort (a ++ ns))) s5 from rfl) ?_
      obtain ⟨s6, e6, r4⟩ := hput _ (usort_mks ha hns)
      refine ⟨s6, e6, ?_⟩
      refine ⟨by unfold lstH; simp only [r4.run], ?_⟩
      rw [← wp_ite]
      refine Wp.mono (Q := fun x s7 => ∃ r, x = mD r ∧ Mks 8 r ∧ RI s k rh mh rs s7) ?_ fun x s7 hx => ?_
      · split
        · refine (marks_ok (n := 2) r4.st (by decide)).mono fun d s7 hd => ?_
          obtain ⟨m, rfl, hm, h7, x7⟩ := hd
          exact ⟨m, rfl, hm.up8 (by decide), r4.draw h7 x7⟩
        · obtain ⟨⟨a', ea', ha'⟩, _⟩ := r4.put hat
          exact Wp.of ea' ⟨a', rfl, ha', r4⟩
      · obtain ⟨m, rfl, hm, r5⟩ := hx
        have r6 := r5.push hm
        refine Wp.of (show appD (.han rh) (mD m) s7 = ok .non (s7.set rh (.lst (rs.map mD ++ [mD m]))) from ?_) ?_
        · unfold appD
          have hlt : (rs.map mD).length < sizeLine := Nat.lt_of_le_of_lt (show _ ≤ 1000000 by rw [List.length_map]; omega) (by decide)
          simp only [r5.run, decide_eq_true hlt, if_true]
        · refine (take_ok r6.st (by decide) (by decide)).mono fun d s8 hd => ?_
          obtain ⟨q, rfl, _, _, h8, x8⟩ := hd
          have r7 := r6.draw h8 x8
          simp only [wp_ok, wp_ok', wp_ne, wp_loc0, wp_locS, wp_C, wp_e1, wp_e2, wp_aNil, wp_aCons, wp_eB, wp_call, wp_tup, wp_lst, wp_new, wp_frz, wp_tBl, wp_isBl, wp_tru, wp_truB, wp_tAnd, wp_tOr, wp_tNot, wp_eAnd, wp_eOr, wp_eNot, wp_eIf, wp_eCh, wp_sNil, wp_sRet, wp_sExpr, wp_sCont, wp_sSeq, aft_nx, aft_rt, aft_ct, wp_sIf, wp_sAsg, asg_N, asg_T, asg_nil, asg_cons, wp_par2, par_of, wp_sFor, wp_sSub, wp_app, wp_fn, fin_rt, fin_nx, wp_comp, wp_sl, wp_pNo, List.map_cons, List.map_nil, List.cons_append, List.nil_append, List.length_cons, List.length_nil, List.set_cons_succ, List.set_cons_zero, List.replicate, true_and, Nat.reduceSub, Nat.reduceAdd, wp_ltI, wp_gtI, wp_geI, wp_leI, wp_addI, wp_subI, wp_eqI, wp_neI]
          split
          · exact ⟨rs ++ [m], 1 - at_, _, _, by rw [List.length_append, hl]; rfl, by omega, r7, rfl⟩
          · exact ⟨rs ++ [m], at_, _, _, by rw [List.length_append, hl]; rfl, hat, r7, rfl⟩
    · cases hd
  · obtain ⟨rs, at_, x5, x6, hl, hat, r2, rfl⟩ := hI
    rw [rng_len] at hl
    simp only [wp_ok, wp_ok', wp_ne, wp_loc0, wp_locS, wp_C, wp_e1, wp_e2, wp_aNil, wp_aCons, wp_eB, wp_call, wp_tup, wp_lst, wp_new, wp_frz, wp_tBl, wp_isBl, wp_tru, wp_truB, wp_tAnd, wp_tOr, wp_tNot, wp_eAnd, wp_eOr, wp_eNot, wp_eIf, wp_eCh, wp_sNil, wp_sRet, wp_sExpr, wp_sCont, wp_sSeq, aft_nx, aft_rt, aft_ct, wp_sIf, wp_sAsg, asg_N, asg_T, asg_nil, asg_cons, wp_par2, par_of, wp_sFor, wp_sSub, wp_app, wp_fn, fin_rt, fin_nx, wp_comp, wp_sl, wp_pNo, List.map_cons, List.map_nil, List.cons_append, List.nil_append, List.length_cons, List.length_nil, List.set_cons_succ, List.set_cons_zero, List.replicate, true_and, Nat.reduceSub, Nat.reduceAdd, wp_ltI, wp_gtI, wp_geI, wp_leI, wp_addI, wp_subI, wp_eqI, wp_neI]
    refine Wp.of (show bTuple [.han rh] s' = ok (rD rs) s' from ?_) ⟨rs, rfl, ⟨by omega, by omega, r2.mks⟩, r2.st, r2.ex⟩
    unfold bTuple res
    simp only [r2.run]
end DI

set_option Elab.async false
set_option linter.all false
set_option maxRecDepth 100000
set_option maxHeartbeats 4000000
namespace DI
open PySem L2
structure Ft (n W : Nat) (d : D) : Prop where
  pl : plain d = true
  sh : (py d).showable = true
  nd : (py d).hasDict = false
  dp : (py d).depth ≤ n
  wt : (py d).weight ≤ W
  lv : (py d).leavesShort 40 = true
def lfOk (d : D) : Bool := plain d && (py d).showable && !(py d).hasDict && decide ((py d).depth ≤ 0) && decide ((py d).weight ≤ 110) && (py d).leavesShort 40
theorem lf_ft {d : D} (h : lfOk d = true) : Ft 0 110 d := by
  unfold lfOk at h
  simp only [Bool.and_eq_true, decide_eq_true_eq, Bool.not_eq_true'] at h
  obtain ⟨⟨⟨⟨⟨h0, h1⟩, h2⟩, h3⟩, h4⟩, h5⟩ := h
  exact ⟨h0, h1, h2, h3, h4, h5⟩
theorem lf_int : ∀ n : Fin 62, lfOk (.int ((n.val : Int) - 1)) = true := by decide +kernel
theorem int_ft {n : Int} (h1 : -1 ≤ n) (h2 : n ≤ 60) : Ft 0 110 (.int n) := by
  refine lf_ft ?_
  have := lf_int ⟨(n + 1).toNat, by omega⟩
  have e2 : (((n + 1).toNat : Nat) : Int) - 1 = n := by omega
  rw [e2] at this
  exact this
theorem all_ft {n W : Nat} : ∀ {ds : List D}, (∀ x ∈ ds, Ft n W x) → plains ds = true ∧ PyData.showableAll (pys ds) = true ∧ PyData.hasDictAll (pys ds) = false ∧ PyData.depthAll (pys ds) ≤ n ∧ PyData.weightAll (pys ds) ≤ ds.length * (W + 1) ∧ PyData.leavesShortAll 40 (pys ds) = true
  | [], _ => ⟨rfl, rfl, rfl, Nat.zero_le _, by simp [pys, PyData.weightAll], rfl⟩
  | x :: xs, h => by
    obtain ⟨z, a, b, c, d, e⟩ := all_ft (ds := xs) fun y hy => h y (List.mem_cons_of_mem _ hy)
    have k := h x List.mem_cons_self
    refine ⟨?_, ?_, ?_, ?_, ?_, ?_⟩
    · simp only [plains, k.pl, z, Bool.and_self]
    · simp only [pys, PyData.showableAll, k.sh, a, Bool.and_self]
    · simp only [pys, PyData.hasDictAll, k.nd, b, Bool.or_self]
    · simp only [pys, PyData.depthAll]; have := k.dp; omega
    · simp only [pys, PyData.weightAll, List.length_cons]
      have := k.wt
      rw [Nat.add_mul]
      omega
    · simp only [pys, PyData.leavesShortAll, k.lv, e, Bool.and_self]
theorem tup_ft {n W c : Nat} {ds : List D} (hl : ds.length ≤ c) (h : ∀ x ∈ ds, Ft n W x) : Ft (n + 1) (c * (W + 1)) (.tup ds) := by
  obtain ⟨z, a, b, c', d', e'⟩ := all_ft h
  have hw : PyData.weightAll (pys ds) ≤ c * (W + 1) := Nat.le_trans d' (Nat.mul_le_mul_right _ hl)
  exact ⟨by simp only [plain]; exact z, by simp only [py, PyData.showable]; exact a, by simp only [py, PyData.hasDict]; exact b, by simp only [py, PyData.depth]; omega, by simp only [py, PyData.weight]; exact hw, by simp only [py, PyData.leavesShort]; exact e'⟩
theorem ft_rep {n W : Nat} {d : D} (h : Ft n W d) (hn : n ≤ 100) (hw : W ≤ 300000) : repOk d = true := by
  have l := PyData.shown_le 40 (by decide) _ h.lv
  have w := h.wt
  have p := h.dp
  have z : sizeLine = 16777216 := sizeLine_eq
  have l' : (py d).shown.length ≤ sizeLine := by rw [z]; omega
  unfold repOk
  rw [h.pl, h.sh, h.nd, decide_eq_true (show (py d).depth ≤ 100 by omega), decide_eq_true l']
  rfl
theorem run_ft {rs : List (List Int)} (h : GRun rs) : Ft 2 (10 * (8 * (110 + 1) + 1)) (rD rs) := by
  refine tup_ft (by rw [List.length_map]; exact h.hi) fun r hr => ?_
  obtain ⟨r', h1, rfl⟩ := List.mem_map.mp hr
  have g := h.mks r' h1
  refine tup_ft (by rw [List.length_map]; exact g.len) fun x hx => ?_
  obtain ⟨x', h2, rfl⟩ := List.mem_map.mp hx
  have := g.lo x' h2
  exact int_ft (by omega) (by omega)
theorem repr_run {rs : List (List Int)} {s : Sto} (h : GRun rs) : bRepr [rD rs] s = ok (.str (py (rD rs)).shown) s := by
  show (if repOk (rD rs) = true then ok (D.str (py (rD rs)).shown) s else none) = _
  rw [if_pos (ft_rep (run_ft h) (by decide) (by decide))]
theorem ne_str {x : Str} {s : Sto} : opNe (.str x) (.str x) s = ok (.bl false) s := by
  show (match eqAns (.str x) (.str x) with | some b => ok (D.bl (!b)) s | none => none) = _
  have e : eqAns (.str x) (.str x) = some true := by
    unfold eqAns
    rw [if_pos (show sc (.str x) (.str x) = true from rfl)]
    simp [beq]
  rw [e]
  rfl
end DI

set_option Elab.async false
set_option linter.all false
set_option maxRecDepth 100000
set_option maxHeartbeats 4000000
namespace DI
open PySem L2
def dueD : List (List Int) → D
  | [] => .non
  | x :: xs => keyD' (fold1 x xs)
theorem fold1_app (y : List Int) : ∀ (xs : List (List Int)) (x : List Int), fold1 x (xs ++ [y]) = if ltK y (fold1 x xs) = true then y else fold1 x xs
  | [], x => rfl
  | z :: xs, x => by
    rw [List.cons_append, fold1, fold1]
    split
    · exact fold1_app y xs z
    · exact fold1_app y xs x
theorem fold1_mem : ∀ (xs : List (List Int)) (x : List Int), fold1 x xs ∈ x :: xs
  | [], x => by simp [fold1]
  | z :: xs, x => by
    rw [fold1]
    split
    · exact List.mem_cons_of_mem _ (fold1_mem xs z)
    · rcases List.mem_cons.mp (fold1_mem xs x) with h | h
      · rw [h]; exact List.mem_cons_self
      · exact List.mem_cons_of_mem _ (List.mem_cons_of_mem _ h)
theorem best_same {L : List (List Int)} {n : Nat} {s : Sto} (h : ∀ l ∈ L, l.length ≤ 1000) : f_Lsame (n + 2) [bestL L, bestL L] s = ok (.bl true) s := by
  cases L with
  | nil => exact same_non
  | cons x xs => exact same_marks (h _ (fold1_mem xs x))
theorem dueD_app {x y : List Int} {xs : List (List Int)} : dueD (x :: (xs ++ [y])) = if ltK y (fold1 x xs) = true then keyD' y else dueD (x :: xs) := by
  show keyD' (fold1 x (xs ++ [y])) = _
  rw [fold1_app]
  split
  · rfl
  · rfl
theorem pure_turn {rs : List (List Int)} {s : Sto} {a b c d4 d5 d6 d7 d8 : Option D} {Q : Fl → Sto → Prop} (h : GRun rs) (hQ : ∀ d4 d5 d6 d7 d8 x, Q (.nx [a, b, c, some (rD rs), d4, d5, d6, d7, d8]) (s ++ x)) :
    Wp (sSeq (par2 4 5 (aCons (eC .non) (aCons (eB bRepr (aCons (eLoc 3) aNil)) aNil))) (sSeq (sFor (iSeq (eCall f_Llayings (aCons (eLoc 3) aNil))) (gN 6) (sSeq (sAsg (eComp 1 [6] (iR2 (aCons (eC (.int 1)) (aCons (eB bLen (aCons (eLoc 3) aNil)) aNil))) (gN 0) (tBl (e2 opEq (e2 opIx (eLoc 1) (eLoc 0)) (e2 opIx (eLoc 1) (e2 opSub (eLoc 0) (eC (.int 1)))))) (eLoc 0)) (gN 7)) (sSeq (sAsg (eTup (aCons (eB bLen (aCons (eLoc 7) aNil)) (aCons (eLoc 6) aNil))) (gN 8)) (sAsg (eIf (tOr (tBl (e2 opIsN (eLoc 4) (eC .non))) (tBl (e2 opLt (eLoc 8) (eLoc 4)))) (eLoc 8) (eLoc 4)) (gN 4))))) (sSeq (sAsg (eIf (tBl (e2 opIsN (eLoc 4) (eC .non))) (eC .non) (e2 opIx (eLoc 4) (eC (.int 1)))) (gN 4)) (sIf (tOr (tNot (tTru (eCall (f_Lsame 8) (aCons (eCall f_best_laying (aCons (eLoc 3) aNil)) (aCons (eLoc 4) aNil))))) (tOr (tNot (tTru (eCall (f_Lsame 8) (aCons (eCall f_best_laying (aCons (eLoc 3) aNil)) (aCons (eLoc 4) aNil))))) (tBl (e2 opNe (eB bRepr (aCons (eLoc 3) aNil)) (eLoc 5))))) (sRet (eC (.bl false))) sNil)))
      [a, b, c, some (rD rs), d4, d5, d6, d7, d8] s) Q := by
  have hhi := h.hi
  have hlo := h.lo
  simp only [wp_ok, wp_ok', wp_ne, wp_loc0, wp_locS, wp_C, wp_e1, wp_e2, wp_aNil, wp_aCons, wp_eB, wp_call, wp_tup, wp_lst, wp_new, wp_frz, wp_tBl, wp_isBl, wp_tru, wp_truB, wp_tAnd, wp_tOr, wp_tNot, wp_eAnd, wp_eOr, wp_eNot, wp_eIf, wp_eCh, wp_sNil, wp_sRet, wp_sExpr, wp_sCont, wp_sSeq, aft_nx, aft_rt, aft_ct, wp_sIf, wp_sAsg, asg_N, asg_T, asg_nil, asg_cons, wp_par2, par_of, wp_sFor, wp_sSub, wp_app, wp_fn, fin_rt, fin_nx, wp_comp, wp_sl, wp_pNo, List.map_cons, List.map_nil, List.cons_append, List.nil_append, List.length_cons, List.length_nil, List.set_cons_succ, List.set_cons_zero, List.replicate, true_and, Nat.reduceSub, Nat.reduceAdd, wp_ltI, wp_gtI, wp_geI, wp_leI, wp_addI, wp_subI, wp_eqI, wp_neI, repr_run h]
  refine Wp.mono (Q := fun ds s' => ds = (layOf rs (rs.length - 1)).map mD ∧ ∃ x, s' = s ++ x) ?_ fun ds s' hd => ?_
  · unfold iSeq
    rw [wp_bnd]
    simp only [wp_ok, wp_ok', wp_ne, wp_loc0, wp_locS, wp_C, wp_e1, wp_e2, wp_aNil, wp_aCons, wp_eB, wp_call, wp_tup, wp_lst, wp_new, wp_frz, wp_tBl, wp_isBl, wp_tru, wp_truB, wp_tAnd, wp_tOr, wp_tNot, wp_eAnd, wp_eOr, wp_eNot, wp_eIf, wp_eCh, wp_sNil, wp_sRet, wp_sExpr, wp_sCont, wp_sSeq, aft_nx, aft_rt, aft_ct, wp_sIf, wp_sAsg, asg_N, asg_T, asg_nil, asg_cons, wp_par2, par_of, wp_sFor, wp_sSub, wp_app, wp_fn, fin_rt, fin_nx, wp_comp, wp_sl, wp_pNo, List.map_cons, List.map_nil, List.cons_append, List.nil_append, List.length_cons, List.length_nil, List.set_cons_succ, List.set_cons_zero, List.replicate, true_and, Nat.reduceSub, Nat.reduceAdd, wp_ltI, wp_gtI, wp_geI, wp_leI, wp_addI, wp_subI, wp_eqI, wp_neI]
    refine (llay_ok h).mono fun d s' hd => ?_
    obtain ⟨rfl, x, rfl⟩ := hd
    exact Wp.of rfl ⟨rfl, x, rfl⟩
  · obtain ⟨rfl, x, rfl⟩ := hd
    have hlen : ∀ l ∈ layOf rs (rs.length - 1), l.length = rs.length := fun l hl => by rw [layOf_each _ _ l hl]; omega
    generalize hL : layOf rs (rs.length - 1) = L at hlen
    refine Wp.for_ (fun i env s' => s' = s ++ x ∧ ∃ e6 e7 e8, env = [a, b, c, some (rD rs), some (dueD (L.take i)), some (.str (py (rD rs)).shown), e6, e7, e8]) _ ⟨rfl, _, _, _, rfl⟩ (fun i d env s' hd hI => ?_) (fun env s' hI => ?_)
    · obtain ⟨rfl, e6, e7, e8, rfl⟩ := hI
      rw [List.getElem?_map] at hd
      cases hl : L[i]? with
      | none => rw [hl] at hd; cases hd
      | some l =>
        rw [hl] at hd
        cases hd
        have hll := hlen l (List.mem_of_getElem? hl)
        refine ⟨_, rfl, ?_⟩
        simp only [wp_ok, wp_ok', wp_ne, wp_loc0, wp_locS, wp_C, wp_e1, wp_e2, wp_aNil, wp_aCons, wp_eB, wp_call, wp_tup, wp_lst, wp_new, wp_frz, wp_tBl, wp_isBl, wp_tru, wp_truB, wp_tAnd, wp_tOr, wp_tNot, wp_eAnd, wp_eOr, wp_eNot, wp_eIf, wp_eCh, wp_sNil, wp_sRet, wp_sExpr, wp_sCont, wp_sSeq, aft_nx, aft_rt, aft_ct, wp_sIf, wp_sAsg, asg_N, asg_T, asg_nil, asg_cons, wp_par2, par_of, wp_sFor, wp_sSub, wp_app, wp_fn, fin_rt, fin_nx, wp_comp, wp_sl, wp_pNo, List.map_cons, List.map_nil, List.cons_append, List.nil_append, List.length_cons, List.length_nil, List.set_cons_succ, List.set_cons_zero, List.replicate, true_and, Nat.reduceSub, Nat.reduceAdd, wp_ltI, wp_gtI, wp_geI, wp_leI, wp_addI, wp_subI, wp_eqI, wp_neI]
        refine Wp.of (rng2 (rs := l.length) (s := s ++ x) (Wp.eq (by simp only [wp_ok, wp_ok', wp_ne, wp_loc0, wp_locS, wp_C, wp_e1, wp_e2, wp_aNil, wp_aCons, wp_eB, wp_call, wp_tup, wp_lst, wp_new, wp_frz, wp_tBl, wp_isBl, wp_tru, wp_truB, wp_tAnd, wp_tOr, wp_tNot, wp_eAnd, wp_eOr, wp_eNot, wp_eIf, wp_eCh, wp_sNil, wp_sRet, wp_sExpr, wp_sCont, wp_sSeq, aft_nx, aft_rt, aft_ct, wp_sIf, wp_sAsg, asg_N, asg_T, asg_nil, asg_cons, wp_par2, par_of, wp_sFor, wp_sSub, wp_app, wp_fn, fin_rt, fin_nx, wp_comp, wp_sl, wp_pNo, List.map_cons, List.map_nil, List.cons_append, List.nil_append, List.length_cons, List.length_nil, List.set_cons_succ, List.set_cons_zero, List.replicate, true_and, Nat.reduceSub, Nat.reduceAdd, wp_ltI, wp_gtI, wp_geI, wp_leI, wp_addI, wp_subI, wp_eqI, wp_neI, lenR, hll, and_self])) (by omega)) ⟨le_size (by rw [rng_len]; omega), ?_⟩
        refine Wp.of (brk_comp (nt := 1) (by omega)) ?_
        refine Wp.of (show bLen [.lst ((brk l).map D.int)] (s ++ x) = ok (.int ((brk l).map D.int).length) (s ++ x) from rfl) ?_
        rw [List.length_map]
        refine ⟨by decide, ?_⟩
        rw [List.take_succ, hl]
        simp only [Option.toList]
        cases hT : L.take i with
        | nil =>
          refine Wp.of (show opIsN (dueD []) .non _ = ok (.bl true) _ from rfl) ?_
          simp only [wp_ok, wp_ok', wp_ne, wp_loc0, wp_locS, wp_C, wp_e1, wp_e2, wp_aNil, wp_aCons, wp_eB, wp_call, wp_tup, wp_lst, wp_new, wp_frz, wp_tBl, wp_isBl, wp_tru, wp_truB, wp_tAnd, wp_tOr, wp_tNot, wp_eAnd, wp_eOr, wp_eNot, wp_eIf, wp_eCh, wp_sNil, wp_sRet, wp_sExpr, wp_sCont, wp_sSeq, aft_nx, aft_rt, aft_ct, wp_sIf, wp_sAsg, asg_N, asg_T, asg_nil, asg_cons, wp_par2, par_of, wp_sFor, wp_sSub, wp_app, wp_fn, fin_rt, fin_nx, wp_comp, wp_sl, wp_pNo, List.map_cons, List.map_nil, List.cons_append, List.nil_append, List.length_cons, List.length_nil, List.set_cons_succ, List.set_cons_zero, List.replicate, true_and, Nat.reduceSub, Nat.reduceAdd, wp_ltI, wp_gtI, wp_geI, wp_leI, wp_addI, wp_subI, wp_eqI, wp_neI, if_true]
          exact ⟨_, _, _, rfl⟩
        | cons z zs =>
          refine Wp.of (show opIsN (dueD (z :: zs)) .non _ = ok (.bl false) _ from rfl) ?_
          simp only [wp_ok, wp_ok', wp_ne, wp_loc0, wp_locS, wp_C, wp_e1, wp_e2, wp_aNil, wp_aCons, wp_eB, wp_call, wp_tup, wp_lst, wp_new, wp_frz, wp_tBl, wp_isBl, wp_tru, wp_truB, wp_tAnd, wp_tOr, wp_tNot, wp_eAnd, wp_eOr, wp_eNot, wp_eIf, wp_eCh, wp_sNil, wp_sRet, wp_sExpr, wp_sCont, wp_sSeq, aft_nx, aft_rt, aft_ct, wp_sIf, wp_sAsg, asg_N, asg_T, asg_nil, asg_cons, wp_par2, par_of, wp_sFor, wp_sSub, wp_app, wp_fn, fin_rt, fin_nx, wp_comp, wp_sl, wp_pNo, List.map_cons, List.map_nil, List.cons_append, List.nil_append, List.length_cons, List.length_nil, List.set_cons_succ, List.set_cons_zero, List.replicate, true_and, Nat.reduceSub, Nat.reduceAdd, wp_ltI, wp_gtI, wp_geI, wp_leI, wp_addI, wp_subI, wp_eqI, wp_neI, Bool.false_eq_true, if_false]
          refine Wp.of (ltK_eq (a := l) (b := fold1 z zs)) ?_
          rw [dueD_app]
          simp only [wp_ok, wp_ok', wp_ne, wp_loc0, wp_locS, wp_C, wp_e1, wp_e2, wp_aNil, wp_aCons, wp_eB, wp_call, wp_tup, wp_lst, wp_new, wp_frz, wp_tBl, wp_isBl, wp_tru, wp_truB, wp_tAnd, wp_tOr, wp_tNot, wp_eAnd, wp_eOr, wp_eNot, wp_eIf, wp_eCh, wp_sNil, wp_sRet, wp_sExpr, wp_sCont, wp_sSeq, aft_nx, aft_rt, aft_ct, wp_sIf, wp_sAsg, asg_N, asg_T, asg_nil, asg_cons, wp_par2, par_of, wp_sFor, wp_sSub, wp_app, wp_fn, fin_rt, fin_nx, wp_comp, wp_sl, wp_pNo, List.map_cons, List.map_nil, List.cons_append, List.nil_append, List.length_cons, List.length_nil, List.set_cons_succ, List.set_cons_zero, List.replicate, true_and, Nat.reduceSub, Nat.reduceAdd, wp_ltI, wp_gtI, wp_geI, wp_leI, wp_addI, wp_subI, wp_eqI, wp_neI]
          split
          · exact ⟨_, _, _, rfl⟩
          · exact ⟨_, _, _, rfl⟩
    · obtain ⟨rfl, e6, e7, e8, rfl⟩ := hI
      rw [List.length_map, List.take_length]
      have hb : ∀ s, f_best_laying [rD rs] s = ok (bestL L) s := fun s => by rw [best_eq h, hL]
      have hs : ∀ s, f_Lsame 8 [bestL L, bestL L] s = ok (.bl true) s := fun s => best_same (n := 6) fun l hl => by rw [hlen l hl]; omega
      simp only [wp_ok, wp_ok', wp_ne, wp_loc0, wp_locS, wp_C, wp_e1, wp_e2, wp_aNil, wp_aCons, wp_eB, wp_call, wp_tup, wp_lst, wp_new, wp_frz, wp_tBl, wp_isBl, wp_tru, wp_truB, wp_tAnd, wp_tOr, wp_tNot, wp_eAnd, wp_eOr, wp_eNot, wp_eIf, wp_eCh, wp_sNil, wp_sRet, wp_sExpr, wp_sCont, wp_sSeq, aft_nx, aft_rt, aft_ct, wp_sIf, wp_sAsg, asg_N, asg_T, asg_nil, asg_cons, wp_par2, par_of, wp_sFor, wp_sSub, wp_app, wp_fn, fin_rt, fin_nx, wp_comp, wp_sl, wp_pNo, List.map_cons, List.map_nil, List.cons_append, List.nil_append, List.length_cons, List.length_nil, List.set_cons_succ, List.set_cons_zero, List.replicate, true_and, Nat.reduceSub, Nat.reduceAdd, wp_ltI, wp_gtI, wp_geI, wp_leI, wp_addI, wp_subI, wp_eqI, wp_neI]
      cases L with
      | nil =>
        refine Wp.of (show opIsN (dueD []) .non _ = ok (.bl true) _ from rfl) ?_
        have hs0 : ∀ s, f_Lsame 8 [bestL [], .non] s = ok (.bl true) s := hs
        simp only [wp_ok, wp_ok', wp_ne, wp_loc0, wp_locS, wp_C, wp_e1, wp_e2, wp_aNil, wp_aCons, wp_eB, wp_call, wp_tup, wp_lst, wp_new, wp_frz, wp_tBl, wp_isBl, wp_tru, wp_truB, wp_tAnd, wp_tOr, wp_tNot, wp_eAnd, wp_eOr, wp_eNot, wp_eIf, wp_eCh, wp_sNil, wp_sRet, wp_sExpr, wp_sCont, wp_sSeq, aft_nx, aft_rt, aft_ct, wp_sIf, wp_sAsg, asg_N, asg_T, asg_nil, asg_cons, wp_par2, par_of, wp_sFor, wp_sSub, wp_app, wp_fn, fin_rt, fin_nx, wp_comp, wp_sl, wp_pNo, List.map_cons, List.map_nil, List.cons_append, List.nil_append, List.length_cons, List.length_nil, List.set_cons_succ, List.set_cons_zero, List.replicate, true_and, Nat.reduceSub, Nat.reduceAdd, wp_ltI, wp_gtI, wp_geI, wp_leI, wp_addI, wp_subI, wp_eqI, wp_neI, if_true, hb, hs0, Bool.not_true, Bool.false_eq_true, if_false, repr_run h, ne_str]
        exact hQ _ _ _ _ _ _
      | cons z zs =>
        refine Wp.of (show opIsN (dueD (z :: zs)) .non _ = ok (.bl false) _ from rfl) ?_
        simp only [wp_ok, wp_ok', wp_ne, wp_loc0, wp_locS, wp_C, wp_e1, wp_e2, wp_aNil, wp_aCons, wp_eB, wp_call, wp_tup, wp_lst, wp_new, wp_frz, wp_tBl, wp_isBl, wp_tru, wp_truB, wp_tAnd, wp_tOr, wp_tNot, wp_eAnd, wp_eOr, wp_eNot, wp_eIf, wp_eCh, wp_sNil, wp_sRet, wp_sExpr, wp_sCont, wp_sSeq, aft_nx, aft_rt, aft_ct, wp_sIf, wp_sAsg, asg_N, asg_T, asg_nil, asg_cons, wp_par2, par_of, wp_sFor, wp_sSub, wp_app, wp_fn, fin_rt, fin_nx, wp_comp, wp_sl, wp_pNo, List.map_cons, List.map_nil, List.cons_append, List.nil_append, List.length_cons, List.length_nil, List.set_cons_succ, List.set_cons_zero, List.replicate, true_and, Nat.reduceSub, Nat.reduceAdd, wp_ltI, wp_gtI, wp_geI, wp_leI, wp_addI, wp_subI, wp_eqI, wp_neI, Bool.false_eq_true, if_false]
        refine Wp.of (show opIx (keyD' (fold1 z zs)) (.int 1) _ = ok (bestL (z :: zs)) _ from rfl) ?_
        simp only [wp_ok, wp_ok', wp_ne, wp_loc0, wp_locS, wp_C, wp_e1, wp_e2, wp_aNil, wp_aCons, wp_eB, wp_call, wp_tup, wp_lst, wp_new, wp_frz, wp_tBl, wp_isBl, wp_tru, wp_truB, wp_tAnd, wp_tOr, wp_tNot, wp_eAnd, wp_eOr, wp_eNot, wp_eIf, wp_eCh, wp_sNil, wp_sRet, wp_sExpr, wp_sCont, wp_sSeq, aft_nx, aft_rt, aft_ct, wp_sIf, wp_sAsg, asg_N, asg_T, asg_nil, asg_cons, wp_par2, par_of, wp_sFor, wp_sSub, wp_app, wp_fn, fin_rt, fin_nx, wp_comp, wp_sl, wp_pNo, List.map_cons, List.map_nil, List.cons_append, List.nil_append, List.length_cons, List.length_nil, List.set_cons_succ, List.set_cons_zero, List.replicate, true_and, Nat.reduceSub, Nat.reduceAdd, wp_ltI, wp_gtI, wp_geI, wp_leI, wp_addI, wp_subI, wp_eqI, wp_neI, if_true, hb, hs, Bool.not_true, Bool.false_eq_true, if_false, repr_run h, ne_str]
        exact hQ _ _ _ _ _ _
theorem one_ok {ns : List Int} (h : Mks 8 ns) : GRun [ns] := ⟨by simp, by simp, fun r hr => by rw [List.mem_singleton.mp hr]; exact h⟩
theorem pure_law (ns : List Int) (hn : ns.length ≤ 63) : ∃ s, f_law [.scr ns] [] = some (.ok (.bl true), s) := by
  suffices h : Wp (f_law [.scr ns] []) fun d _ => d = .bl true by
    obtain ⟨d, s, e, rfl⟩ := h
    exact ⟨s, e⟩
  unfold f_law
  simp only [wp_fn, List.length_cons, List.length_nil, Nat.reduceAdd, Nat.reduceSub, List.replicate, List.map_cons, List.map_nil, List.cons_append, List.nil_append, true_and, wp_sSeq, wp_sFor]
  have hr : ∃ n : Nat, n ≤ 1000 ∧ iR1 (aCons (eB bMax2 (aCons (eC (.int 1)) (aCons (eB bMin2 (aCons (eB bLen (aCons (eLoc 0) aNil)) (aCons (eC (.int 4)) aNil))) aNil))) aNil) [some (.scr ns), none, none, none, none, none, none, none, none] [] = ok (rng 0 n) [] := by
    have e : ∃ n : Nat, n ≤ 1000 ∧ (aCons (eB bMax2 (aCons (eC (.int 1)) (aCons (eB bMin2 (aCons (eB bLen (aCons (eLoc 0) aNil)) (aCons (eC (.int 4)) aNil))) aNil))) aNil) [some (.scr ns), none, none, none, none, none, none, none, none] [] = ok [.int n] [] := by
      refine ⟨(if (if (4 : Int) < ns.length then (4 : Int) else ns.length) > 1 then (if (4 : Int) < ns.length then (4 : Int) else ns.length) else 1).toNat, by split <;> split <;> omega, ?_⟩
      rw [Int.toNat_of_nonneg (by split <;> split <;> omega)]
      rfl
    obtain ⟨n, h1, h2⟩ := e
    exact ⟨n, h1, iR1_of h2 (by omega)⟩
  obtain ⟨n, hn, hr⟩ := hr
  refine Wp.of hr ?_
  refine Wp.for_ (fun i env s => ∃ e1 e2 e3 e4 e5 e6 e7 e8, env = [some (.scr ns), e1, e2, e3, e4, e5, e6, e7, e8]) _ ⟨_, _, _, _, _, _, _, _, rfl⟩ (fun i d env s hd hI => ?_) (fun env s hI => ?_)
  · obtain ⟨e1, e2, e3, e4, e5, e6, e7, e8, rfl⟩ := hI
    rw [rng_get] at hd
    split at hd
    · cases hd
      refine ⟨_, rfl, ?_⟩
      simp only [wp_sSeq, wp_sAsg, asg_N, wp_call, wp_aCons, wp_aNil, wp_loc0, wp_locS, List.set_cons_succ, List.set_cons_zero]
      refine (state_ok (by omega)).mono fun d s1 hd => ?_
      obtain ⟨rfl, h1, c1, rfl⟩ := hd
      generalize s.length = k at h1
      rw [aft_nx, wp_sFor]
      refine Wp.mono (Q := fun ds s2 => ∃ r1 r2 r3, ds = [rD r1, rD r2, rD r3] ∧ GRun r1 ∧ GRun r2 ∧ GRun r3) ?_ fun ds s2 hd => ?_
      · unfold iSeq
        rw [wp_bnd]
        simp only [wp_ok, wp_ok', wp_ne, wp_loc0, wp_locS, wp_C, wp_e1, wp_e2, wp_aNil, wp_aCons, wp_eB, wp_call, wp_tup, wp_lst, wp_new, wp_frz, wp_tBl, wp_isBl, wp_tru, wp_truB, wp_tAnd, wp_tOr, wp_tNot, wp_eAnd, wp_eOr, wp_eNot, wp_eIf, wp_eCh, wp_sNil, wp_sRet, wp_sExpr, wp_sCont, wp_sSeq, aft_nx, aft_rt, aft_ct, wp_sIf, wp_sAsg, asg_N, asg_T, asg_nil, asg_cons, wp_par2, par_of, wp_sFor, wp_sSub, wp_app, wp_fn, fin_rt, fin_nx, wp_comp, wp_sl, wp_pNo, List.map_cons, List.map_nil, List.cons_append, List.nil_append, List.length_cons, List.length_nil, List.set_cons_succ, List.set_cons_zero, List.replicate, true_and, Nat.reduceSub, Nat.reduceAdd, wp_ltI, wp_gtI, wp_geI, wp_leI, wp_addI, wp_subI, wp_eqI, wp_neI]
        refine (run_ok h1).mono fun d s2 hd => ?_
        obtain ⟨r1, rfl, g1, h2, x2⟩ := hd
        refine (run_ok h2).mono fun d s3 hd => ?_
        obtain ⟨r2, rfl, g2, h3, x3⟩ := hd
        refine (marks_ok (n := 8) h3 (by decide)).mono fun d s4 hd => ?_
        obtain ⟨m, rfl, gm, h4, x4⟩ := hd
        refine ⟨by decide, by decide, r1, r2, [m], rfl, g1, g2, one_ok gm⟩
      · obtain ⟨r1, r2, r3, rfl, g1, g2, g3⟩ := hd
        refine Wp.for_ (fun j env s => ∃ e2 e3 e4 e5 e6 e7 e8, env = [some (.scr ns), some (.int (0 + (i : Int))), e2, e3, e4, e5, e6, e7, e8]) _ ⟨_, _, _, _, _, _, _, rfl⟩ (fun j d env s hd hI => ?_) (fun env s hI => ?_)
        · obtain ⟨e2, e3, e4, e5, e6, e7, e8, rfl⟩ := hI
          have hg : ∃ rs, d = rD rs ∧ GRun rs := by
            match j, hd with
            | 0, hd => cases hd; exact ⟨_, rfl, g1⟩
            | 1, hd => cases hd; exact ⟨_, rfl, g2⟩
            | 2, hd => cases hd; exact ⟨_, rfl, g3⟩
            | j + 3, hd => cases hd
          obtain ⟨rs, rfl, g⟩ := hg
          exact ⟨_, rfl, pure_turn g fun d4 d5 d6 d7 d8 x => ⟨_, _, _, _, _, _, _, rfl⟩⟩
        · obtain ⟨e2, e3, e4, e5, e6, e7, e8, rfl⟩ := hI
          exact ⟨_, _, _, _, _, _, _, _, rfl⟩
    · cases hd
  · obtain ⟨e1, e2, e3, e4, e5, e6, e7, e8, rfl⟩ := hI
    simp only [wp_ok, wp_ok', wp_ne, wp_loc0, wp_locS, wp_C, wp_e1, wp_e2, wp_aNil, wp_aCons, wp_eB, wp_call, wp_tup, wp_lst, wp_new, wp_frz, wp_tBl, wp_isBl, wp_tru, wp_truB, wp_tAnd, wp_tOr, wp_tNot, wp_eAnd, wp_eOr, wp_eNot, wp_eIf, wp_eCh, wp_sNil, wp_sRet, wp_sExpr, wp_sCont, wp_sSeq, aft_nx, aft_rt, aft_ct, wp_sIf, wp_sAsg, asg_N, asg_T, asg_nil, asg_cons, wp_par2, par_of, wp_sFor, wp_sSub, wp_app, wp_fn, fin_rt, fin_nx, wp_comp, wp_sl, wp_pNo, List.map_cons, List.map_nil, List.cons_append, List.nil_append, List.length_cons, List.length_nil, List.set_cons_succ, List.set_cons_zero, List.replicate, true_and, Nat.reduceSub, Nat.reduceAdd, wp_ltI, wp_gtI, wp_geI, wp_leI, wp_addI, wp_subI, wp_eqI, wp_neI]
end DI

set_option Elab.async false
set_option linter.all false
set_option maxRecDepth 100000
set_option maxHeartbeats 4000000
namespace DI.k11
open PySem L2 DI
def Df (K : PySem.W.Frag) (x : Str) (st : Stmt) : Prop := ∃ (f : Addr) (oc : Value) (od : Option Addr) (sl : Array (Option Value)) (kV dc pm : Value) (an : Option Addr) (cd ct : Value), PySem.W.nsIn K mainGlobals x = some (some (.ref f)) ∧ K.lookup f = some ⟨oc, od, .func (PySem.W.fnOf x x (defArgs st) (defBody st) (defScope st) .none kV dc pm an cd ct), sl⟩ ∧ PySem.W.codeIn K cd x = true ∧ PySem.W.keepIn K (.ref f) = true
theorem df_mk {K : PySem.W.Frag} {x : Str} {st : Stmt} {f : Addr} {oc : Value} {od : Option Addr} {sl : Array (Option Value)} {kV dc pm : Value} {an : Option Addr} {cd ct : Value} (a : PySem.W.nsIn K mainGlobals x = some (some (.ref f))) (l : K.lookup f = some ⟨oc, od, .func (PySem.W.fnOf x x (defArgs st) (defBody st) (defScope st) .none kV dc pm an cd ct), sl⟩) (c : PySem.W.codeIn K cd x = true) (k : PySem.W.keepIn K (.ref f) = true) : Df K x st := ⟨f, oc, od, sl, kV, dc, pm, an, cd, ct, a, l, c, k⟩
theorem gi_mk {K : PySem.W.Frag} {x : Str} {i : Int} {t : Tok} (e : PySem.W.nsIn K mainGlobals x = some (some (.int i t))) : ∃ t, PySem.W.nsIn K mainGlobals x = some (some (.int i t)) := ⟨t, e⟩
theorem gd_of {K : PySem.W.Frag} {h : Heap} {mg : Str → Option Value} {x : Str} {st : Stmt} {ps : List Str} (X : K.In h) (G : h.Ns mainGlobals mg) (D : Df K x st) (hb : ∀ (kV doc pm : Value) (an : Option Addr) (cdv ct : Value) (us : List Value), us.length = ps.length → bindArgs (PySem.W.fnOf x x (defArgs st) (defBody st) (defScope st) .none kV doc pm an cdv ct) ⟨us, []⟩ = pure (ps.zip us)) : ∃ f fd, Gd K mg x st ps f fd := by
  obtain ⟨f, oc, od, sl, kV, dc, pm, an, cd, ct, a, l, c, k⟩ := D
  have F := fun_mk (st := st) l c k
  exact ⟨f, _, PySem.W.mg_of X G a, F, F.binds hb⟩
theorem all_mk {P : Program} {w : World} {K : PySem.W.Frag} {h : Heap} {mg : Str → Option Value} {fa : Addr} (X : K.In h) (G : h.Ns mainGlobals mg) (hfa : mg "law" = some (.ref fa))
    (d0 : Df K "_law_cell_at" (top 23))
    (d1 : Df K "_law_state" (top 24))
    (d2 : Df K "_law_take" (top 25))
    (d3 : Df K "_law_marks" (top 27))
    (d4 : Df K "_law_run" (top 29))
    (d5 : Df K "_law_layings" (top 30))
    (d6 : Df K "_law_same" (top 26))
    (d7 : Df K "breaks_in" (top 20))
    (d8 : Df K "by_breaks" (top 21))
    (d9 : Df K "is_rising" (top 8))
    (d10 : Df K "is_number" (top 5))
    (d11 : Df K "is_below" (top 6))
    (d12 : Df K "is_mark" (top 7))
    (d13 : Df K "are_marks" (top 10))
    (d14 : Df K "are_laid_marks" (top 12))
    (d15 : Df K "need_run" (top 17))
    (d16 : Df K "has_all" (top 11))
    (d17 : Df K "may_lay" (top 18))
    (d18 : Df K "layings" (top 19))
    (d19 : Df K "best_laying" (top 16))
    (dl : Df K "law" (top 31))
    (i_MARKS : ∃ t, PySem.W.nsIn K mainGlobals "MARKS" = some (some (.int (8) t)))
    (i_RUN : ∃ t, PySem.W.nsIn K mainGlobals "RUN" = some (some (.int (10) t)))
    (i_TWINS : ∃ t, PySem.W.nsIn K mainGlobals "TWINS" = some (some (.int (2) t)))
    (z_all : PySem.W.nsIn K mainGlobals "all" = some none)
    (z_bool : PySem.W.nsIn K mainGlobals "bool" = some none)
    (z_int : PySem.W.nsIn K mainGlobals "int" = some none)
    (z_isinstance : PySem.W.nsIn K mainGlobals "isinstance" = some none)
    (z_len : PySem.W.nsIn K mainGlobals "len" = some none)
    (z_list : PySem.W.nsIn K mainGlobals "list" = some none)
    (z_max : PySem.W.nsIn K mainGlobals "max" = some none)
    (z_min : PySem.W.nsIn K mainGlobals "min" = some none)
    (z_range : PySem.W.nsIn K mainGlobals "range" = some none)
    (z_repr : PySem.W.nsIn K mainGlobals "repr" = some none)
    (z_set : PySem.W.nsIn K mainGlobals "set" = some none)
    (z_sorted : PySem.W.nsIn K mainGlobals "sorted" = some none)
    (z_tuple : PySem.W.nsIn K mainGlobals "tuple" = some none)
    (z_zip : PySem.W.nsIn K mainGlobals "zip" = some none)
    : ∃ fd : FuncData, (∀ (s : Shared) (v : Value), BindsTo s fd ⟨[v], []⟩ [("_law_script", v)]) ∧ ∀ base : Heap, K.In base → base.Ns mainGlobals mg → FnOk P w K mg base CX0 10 fa fd ["_law_script"] (spLaw K) := by
  have g0 := gd_of (ps := ["_law_script", "_law_k"]) X G d0 fun _ _ _ _ _ _ us hl => match us, hl with | [_, _], _ => rfl
  have g1 := gd_of (ps := ["_law_script", "_law_k"]) X G d1 fun _ _ _ _ _ _ us hl => match us, hl with | [_, _], _ => rfl
  have g2 := gd_of (ps := ["_law_state_here", "_law_many"]) X G d2 fun _ _ _ _ _ _ us hl => match us, hl with | [_, _], _ => rfl
  have g3 := gd_of (ps := ["_law_state_here", "_law_most"]) X G d3 fun _ _ _ _ _ _ us hl => match us, hl with | [_, _], _ => rfl
  have g4 := gd_of (ps := ["_law_state_here"]) X G d4 fun _ _ _ _ _ _ us hl => match us, hl with | [_], _ => rfl
  have g5 := gd_of (ps := ["_law_run_here"]) X G d5 fun _ _ _ _ _ _ us hl => match us, hl with | [_], _ => rfl
  have g6 := gd_of (ps := ["_law_found", "_law_due"]) X G d6 fun _ _ _ _ _ _ us hl => match us, hl with | [_, _], _ => rfl
  have g7 := gd_of (ps := ["laying"]) X G d7 fun _ _ _ _ _ _ us hl => match us, hl with | [_], _ => rfl
  have g8 := gd_of (ps := ["laying"]) X G d8 fun _ _ _ _ _ _ us hl => match us, hl with | [_], _ => rfl
  have g9 := gd_of (ps := ["things"]) X G d9 fun _ _ _ _ _ _ us hl => match us, hl with | [_], _ => rfl
  have g10 := gd_of (ps := ["thing"]) X G d10 fun _ _ _ _ _ _ us hl => match us, hl with | [_], _ => rfl
  have g11 := gd_of (ps := ["thing", "many"]) X G d11 fun _ _ _ _ _ _ us hl => match us, hl with | [_, _], _ => rfl
  have g12 := gd_of (ps := ["thing"]) X G d12 fun _ _ _ _ _ _ us hl => match us, hl with | [_], _ => rfl
  have g13 := gd_of (ps := ["thing"]) X G d13 fun _ _ _ _ _ _ us hl => match us, hl with | [_], _ => rfl
  have g14 := gd_of (ps := ["thing", "most"]) X G d14 fun _ _ _ _ _ _ us hl => match us, hl with | [_, _], _ => rfl
  have g15 := gd_of (ps := ["thing"]) X G d15 fun _ _ _ _ _ _ us hl => match us, hl with | [_], _ => rfl
  have g16 := gd_of (ps := ["marks", "others"]) X G d16 fun _ _ _ _ _ _ us hl => match us, hl with | [_, _], _ => rfl
  have g17 := gd_of (ps := ["run", "laid", "mould"]) X G d17 fun _ _ _ _ _ _ us hl => match us, hl with | [_, _, _], _ => rfl
  have g18 := gd_of (ps := ["run"]) X G d18 fun _ _ _ _ _ _ us hl => match us, hl with | [_], _ => rfl
  have g19 := gd_of (ps := ["run"]) X G d19 fun _ _ _ _ _ _ us hl => match us, hl with | [_], _ => rfl
  have gi_MARKS : ∃ t, mg "MARKS" = some (.int (8) t) := by obtain ⟨t, e⟩ := i_MARKS; exact ⟨t, PySem.W.mg_of X G e⟩
  have gi_RUN : ∃ t, mg "RUN" = some (.int (10) t) := by obtain ⟨t, e⟩ := i_RUN; exact ⟨t, PySem.W.mg_of X G e⟩
  have gi_TWINS : ∃ t, mg "TWINS" = some (.int (2) t) := by obtain ⟨t, e⟩ := i_TWINS; exact ⟨t, PySem.W.mg_of X G e⟩
  have T_all := PySem.W.mg_none_of X G z_all
  have T_bool := PySem.W.mg_none_of X G z_bool
  have T_int := PySem.W.mg_none_of X G z_int
  have T_isinstance := PySem.W.mg_none_of X G z_isinstance
  have T_len := PySem.W.mg_none_of X G z_len
  have T_list := PySem.W.mg_none_of X G z_list
  have T_max := PySem.W.mg_none_of X G z_max
  have T_min := PySem.W.mg_none_of X G z_min
  have T_range := PySem.W.mg_none_of X G z_range
  have T_repr := PySem.W.mg_none_of X G z_repr
  have T_set := PySem.W.mg_none_of X G z_set
  have T_sorted := PySem.W.mg_none_of X G z_sorted
  have T_tuple := PySem.W.mg_none_of X G z_tuple
  have T_zip := PySem.W.mg_none_of X G z_zip
  obtain ⟨f, oc, od, sl, kV, dc, pm, an, cd, ct, a, l, c, k⟩ := dl
  have e := hfa.symm.trans (PySem.W.mg_of X G a)
  cases e
  have F := fun_mk (st := (top 31)) l c k
  have GL : Gd K mg "law" (top 31) ["_law_script"] _ _ := ⟨PySem.W.mg_of X G a, F, F.binds fun _ _ _ _ _ _ us hl => match us, hl with | [_], _ => rfl⟩
  exact ⟨_, fun s v => .of_eq rfl, fun base _ _ => law_of (ok_law ⟨T_all, T_bool, T_int, T_isinstance, T_len, T_list, T_max, T_min, T_range, T_repr, T_set, T_sorted, T_tuple, T_zip, gi_MARKS, gi_RUN, gi_TWINS, g0, g1, g2, g3, g4, g5, g6, g7, g8, g9, g10, g11, g12, g13, g14, g15, g16, g17, g18, g19⟩ GL) pure_law⟩
theorem walk {l : PySem.W.OpenLaw} {q : Program} {loose : List Str} {XP : (Str → Option Value) → Heap → Prop} {YP : World → Heap → Prop} {d : DefRec} {K : Params → PySem.W.Frag} (hn : l.most = some 63) (hdf : d.params.defaults = [])
    (hY : ∀ (w : World) (h : Heap), YP w h → (K w.params).In h)
    (F : ∀ (w : World) (mg : Str → Option Value) (fa : Addr) (h : Heap), (K w.params).In h → h.Ns mainGlobals mg → mg d.name = some (.ref fa) →
      ∃ fd : FuncData, (∀ (s : Shared) (u : Value), BindsTo s fd ⟨[u], []⟩ [("_law_script", u)]) ∧ ∀ base : Heap, (K w.params).In base → base.Ns mainGlobals mg → FnOk l.prog w (K w.params) mg base CX0 10 fa fd ["_law_script"] (spLaw (K w.params))) :
    PySem.W.WalkO q loose XP YP l.row.toRowW d [] (fun f vs => PySem.call f vs) :=
  L2.walk_of (n := 63) (k := 10) (x := "_law_script") (CX := fun _ => CX0) (sp := fun w => spLaw (K w.params)) hn (by decide) hdf ⟨rfl, by decide, by decide, rfl⟩ hY F (fun _ _ a ns hl _ hS => ⟨a, ns, rfl, hS, hl, fun _ => rfl⟩) fun _ _ _ _ _ z => z
end DI.k11
open PySem PySem.W PyProof.Rows
set_option maxRecDepth 100000 in
set_option maxHeartbeats 0 in
theorem PySem.Challenge.cw_twinmoulds_k11_fewest_breaks_holds : PySem.Challenge.rw_twinmoulds_k11_fewest_breaks.Holds := by
  w_on; o_law; k_head; (case hw => w_witness2)
  k_fill
  refine DI.k11.walk (l := PySem.Challenge.rw_twinmoulds_k11_fewest_breaks) rfl rfl (fun w h Y => PySem.W.kIn_of Y) ?F
  case F =>
    intro w mg fa h KX G hmg
    refine' DI.k11.all_mk KX G hmg ?d0 ?d1 ?d2 ?d3 ?d4 ?d5 ?d6 ?d7 ?d8 ?d9 ?d10 ?d11 ?d12 ?d13 ?d14 ?d15 ?d16 ?d17 ?d18 ?d19 ?dl ?i_MARKS ?i_RUN ?i_TWINS ?z_all ?z_bool ?z_int ?z_isinstance ?z_len ?z_list ?z_max ?z_min ?z_range ?z_repr ?z_set ?z_sorted ?z_tuple ?z_zip
    (case d0 => refine' DI.k11.df_mk ?a ?l ?c ?k; (case a => k_is); (case l => k_is); (case c => k_is); (case k => k_is))
    (case d1 => refine' DI.k11.df_mk ?a ?l ?c ?k; (case a => k_is); (case l => k_is); (case c => k_is); (case k => k_is))
    (case d2 => refine' DI.k11.df_mk ?a ?l ?c ?k; (case a => k_is); (case l => k_is); (case c => k_is); (case k => k_is))
    (case d3 => refine' DI.k11.df_mk ?a ?l ?c ?k; (case a => k_is); (case l => k_is); (case c => k_is); (case k => k_is))
    (case d4 => refine' DI.k11.df_mk ?a ?l ?c ?k; (case a => k_is); (case l => k_is); (case c => k_is); (case k => k_is))
    (case d5 => refine' DI.k11.df_mk ?a ?l ?c ?k; (case a => k_is); (case l => k_is); (case c => k_is); (case k => k_is))
    (case d6 => refine' DI.k11.df_mk ?a ?l ?c ?k; (case a => k_is); (case l => k_is); (case c => k_is); (case k => k_is))
    (case d7 => refine' DI.k11.df_mk ?a ?l ?c ?k; (case a => k_is); (case l => k_is); (case c => k_is); (case k => k_is))
    (case d8 => refine' DI.k11.df_mk ?a ?l ?c ?k; (case a => k_is); (case l => k_is); (case c => k_is); (case k => k_is))
    (case d9 => refine' DI.k11.df_mk ?a ?l ?c ?k; (case a => k_is); (case l => k_is); (case c => k_is); (case k => k_is))
    (case d10 => refine' DI.k11.df_mk ?a ?l ?c ?k; (case a => k_is); (case l => k_is); (case c => k_is); (case k => k_is))
    (case d11 => refine' DI.k11.df_mk ?a ?l ?c ?k; (case a => k_is); (case l => k_is); (case c => k_is); (case k => k_is))
    (case d12 => refine' DI.k11.df_mk ?a ?l ?c ?k; (case a => k_is); (case l => k_is); (case c => k_is); (case k => k_is))
    (case d13 => refine' DI.k11.df_mk ?a ?l ?c ?k; (case a => k_is); (case l => k_is); (case c => k_is); (case k => k_is))
    (case d14 => refine' DI.k11.df_mk ?a ?l ?c ?k; (case a => k_is); (case l => k_is); (case c => k_is); (case k => k_is))
    (case d15 => refine' DI.k11.df_mk ?a ?l ?c ?k; (case a => k_is); (case l => k_is); (case c => k_is); (case k => k_is))
    (case d16 => refine' DI.k11.df_mk ?a ?l ?c ?k; (case a => k_is); (case l => k_is); (case c => k_is); (case k => k_is))
    (case d17 => refine' DI.k11.df_mk ?a ?l ?c ?k; (case a => k_is); (case l => k_is); (case c => k_is); (case k => k_is))
    (case d18 => refine' DI.k11.df_mk ?a ?l ?c ?k; (case a => k_is); (case l => k_is); (case c => k_is); (case k => k_is))
    (case d19 => refine' DI.k11.df_mk ?a ?l ?c ?k; (case a => k_is); (case l => k_is); (case c => k_is); (case k => k_is))
    (case dl => refine' DI.k11.df_mk ?a ?l ?c ?k; (case a => k_is); (case l => k_is); (case c => k_is); (case k => k_is))
    (case i_MARKS => refine' DI.k11.gi_mk ?e; (case e => k_is))
    (case i_RUN => refine' DI.k11.gi_mk ?e; (case e => k_is))
    (case i_TWINS => refine' DI.k11.gi_mk ?e; (case e => k_is))
    (case z_all => k_is)
    (case z_bool => k_is)
    (case z_int => k_is)
    (case z_isinstance => k_is)
    (case z_len => k_is)
    (case z_list => k_is)
    (case z_max => k_is)
    (case z_min => k_is)
    (case z_range => k_is)
    (case z_repr => k_is)
    (case z_set => k_is)
    (case z_sorted => k_is)
    (case z_tuple => k_is)
    (case z_zip => k_is)

