import PyProof.Rows.All
import Wide.All
import OpenK.AllK
import Wide.FinOn
import Lean
import PyProof.EqAt
import PyProof.EqKinds
import PyProof.TupleCall
import PySem.Challenge.RW_modeyard_k18_shares_of_lone_lists
set_option Elab.async false
set_option linter.all false
set_option maxRecDepth 100000
namespace L2
open PySem PySem.Spec PyProof.Rows
abbrev Key := Sum Int Str
def DS : Key → Value → Bool
  | .inl k, v => Value.isInt k v
  | .inr x, v => Value.isStrOf x v
def HI (w : World) : Key → Int
  | .inl k => hashInt k
  | .inr x => hashStr w x
theorem eC : ∀ {k : Key} {v : Value}, DS k v = true → (∃ i t, k = Sum.inl i ∧ v = Value.int i t) ∨ (∃ x t, k = Sum.inr x ∧ v = Value.str x t)
  | .inl i, v, h => by
    obtain ⟨t, e⟩ := Value.isInt_shape (k := i) (v := v) h
    exact .inl ⟨i, t, rfl, e⟩
  | .inr x, v, h => by
    obtain ⟨t, e⟩ := Value.isStrOf_shape (x := x) (v := v) h
    exact .inr ⟨x, t, rfl, e⟩
theorem FW (a b : Int) : decide ((Sum.inl a : Key) = Sum.inl b) = (a == b) := by
  by_cases e : a = b
  · subst e; simp
  · have h : ¬ (Sum.inl a : Key) = Sum.inl b := fun q => e (Sum.inl.inj q)
    rw [decide_eq_false h]
    exact (beq_eq_false_iff_ne.mpr e).symm
theorem Fx (a b : Str) : decide ((Sum.inr a : Key) = Sum.inr b) = decide (a = b) := by
  by_cases e : a = b
  · subst e; simp
  · have h : ¬ (Sum.inr a : Key) = Sum.inr b := fun q => e (Sum.inr.inj q)
    rw [decide_eq_false h, decide_eq_false e]
theorem FF (a : Int) (b : Str) : decide ((Sum.inl a : Key) = Sum.inr b) = false := decide_eq_false (fun q => nomatch q)
theorem GC (a : Str) (b : Int) : decide ((Sum.inr a : Key) = Sum.inl b) = false := decide_eq_false (fun q => nomatch q)
def uu (prog : Program) (w : World) : PySem.KeyKind prog w Key where
  is := DS
  hash := HI w
  inj := fun v a b ha hb => by
    rcases eC ha with ⟨i, t, rfl, rfl⟩ | ⟨x, t, rfl, rfl⟩
    · rcases eC hb with ⟨j, u, rfl, e⟩ | ⟨y, u, rfl, e⟩
      · injection e with e1 _; rw [e1]
      · exact nomatch e
    · rcases eC hb with ⟨j, u, rfl, e⟩ | ⟨y, u, rfl, e⟩
      · exact nomatch e
      · injection e with e1 _; rw [e1]
  byValue := fun k v h => by
    rcases eC h with ⟨i, t, rfl, rfl⟩ | ⟨x, t, rfl, rfl⟩ <;> rfl
  pyHash := fun hv h => by
    rcases eC hv with ⟨i, t, rfl, rfl⟩ | ⟨x, t, rfl, rfl⟩
    · exact wpAny_pyHash_int h
    · exact wpAny_pyHash_str h
  eqBool := fun hu hv h => by
    rcases eC hu with ⟨i, t, rfl, rfl⟩ | ⟨x, t, rfl, rfl⟩
    · rcases eC hv with ⟨j, u, rfl, rfl⟩ | ⟨y, u, rfl, rfl⟩
      · rw [FW] at h; exact wpAny_eqBool_int h
      · rw [FF] at h; exact SeqAt.EqAt.int_str i t y u _ _ _ _ h
    · rcases eC hv with ⟨j, u, rfl, rfl⟩ | ⟨y, u, rfl, rfl⟩
      · rw [GC] at h; exact SeqAt.EqAt.str_int x t j u _ _ _ _ h
      · rw [Fx] at h; exact wpAny_eqBool_str h
  «strs» := fun k x t v h => by
    rcases eC h with ⟨i, u, rfl, e⟩ | ⟨y, u, rfl, e⟩
    · exact nomatch e
    · injection e with e1 _
      subst e1
      cases v <;> rfl
end L2
namespace L2
open PySem PySem.Spec PyProof.Rows
inductive V where
  | non | bl (b : Bool) | int (i : Int) | str (x : Str) | byt (b : Array UInt8) | flt (b : UInt64) | ref (a : Addr) | ty (n : String)
  deriving DecidableEq
def RelV : V → Value → Prop
  | .non, u => u = Value.none
  | .bl b, u => u = Value.bool b
  | .int i, u => ∃ t, u = Value.int i t
  | .str x, u => ∃ t, u = Value.str x t
  | .byt b, u => ∃ t, u = Value.bytes b t
  | .flt b, u => ∃ t, u = Value.float b t
  | .ref a, u => u = Value.ref a
  | .ty n, u => u = Value.type n
abbrev Vals : List V → List Value → Prop := Paired RelV
theorem Vals.length {xs : List V} {us : List Value} (r : Vals xs us) : xs.length = us.length := Paired.length r
theorem Vals.get : ∀ {xs : List V} {us : List Value} {i : Nat} {x : V}, Vals xs us → xs[i]? = some x → ∃ u, us[i]? = some u ∧ RelV x u
  | _, _, _, _, .nil, e => by simp at e
  | _, _, 0, _, .cons r _, e => by simp at e; subst e; exact ⟨_, rfl, r⟩
  | _, _, i + 1, x, .cons _ t, e => by
    obtain ⟨u, h1, h2⟩ := Vals.get (i := i) (x := x) t (by simpa using e)
    exact ⟨u, by simpa using h1, h2⟩
theorem Vals.set {x : V} {u : Value} (r : RelV x u) : ∀ {xs : List V} {us : List Value} (i : Nat), Vals xs us → Vals (xs.set i x) (us.set i u)
  | _, _, _, .nil => .nil
  | _, _, 0, .cons _ t => .cons r t
  | _, _, i + 1, .cons q t => .cons q (Vals.set r i t)
theorem Vals.append : ∀ {xs ys : List V} {us ws : List Value}, Vals xs us → Vals ys ws → Vals (xs ++ ys) (us ++ ws)
  | _, _, _, _, .nil, s => s
  | _, _, _, _, .cons r t, s => .cons r (Vals.append t s)
theorem Vals.take : ∀ {xs : List V} {us : List Value} (n : Nat), Vals xs us → Vals (xs.take n) (us.take n)
  | _, _, 0, _ => .nil
  | _, _, _ + 1, .nil => .nil
  | _, _, n + 1, .cons r t => .cons r (Vals.take n t)
theorem Vals.drop : ∀ {xs : List V} {us : List Value} (n : Nat), Vals xs us → Vals (xs.drop n) (us.drop n)
  | _, _, 0, r => r
  | _, _, _ + 1, .nil => .nil
  | _, _, n + 1, .cons _ t => Vals.drop n t
def Gp : Option V → Option Value → Prop
  | some v, some u => RelV v u
  | none, none => True
  | _, _ => False
def KV {κ : Type} : List (κ × V) → List (κ × Value) → Prop := Paired fun (p : κ × V) (q : κ × Value) => p.1 = q.1 ∧ RelV p.2 q.2
def kV : Key → V
  | .inl i => .int i
  | .inr x => .str x
inductive HO where
    | lst (xs : List V)
    | tup (xs : List V)
    | dK (kvs : List (Key × V)) | dT (kvs : List (List Key × V))
    | set (S : Int → Bool) (n : Nat)
    | ins (C dx : Addr) (fs : List (Str × V))
    | own (x : Addr)
    | xd (fs : List (Str × V))
    | met (f x : Addr)
    | rng (lo hi : Int)
    | frz (o : Obj) (u : HO)
    | tbl (ps : Array Value)
    | ext (φ : Heap → Prop)
abbrev Hp := Addr → Option HO
def upd (H : Hp) (a : Addr) (o : HO) : Hp := fun b => if b = a then some o else H b
theorem cL {H : Hp} {a : Addr} {o : HO} : upd H a o a = some o := by unfold upd; rw [if_pos rfl]
theorem aR {H : Hp} {a b : Addr} {o : HO} (h : b ≠ a) : upd H a o b = H b := by unfold upd; rw [if_neg h]
theorem eD {H : Hp} {a b : Addr} {o : HO} (h : H a = some o) (h' : H b = none) : a ≠ b := by
  intro e; subst e; rw [h] at h'; cases h'
section
variable (P : Program) (w : World)
def gh (H : Hp) (h : Heap) (a : Addr) : HO → Prop
  | .lst xs => xs.length ≤ sizeLine ∧ ∃ (its : List Value) (n : Nat), Vals xs its ∧ h.get? a = some { cls := .type "list", data := .seq its.toArray n }
  | .tup xs => xs.length ≤ sizeLine ∧ ∃ its : List Value, Vals xs its ∧ IsTup h a its.toArray
  | .dK kvs => kvs.length ≤ sizeLine ∧ (a == sysModules) = false ∧ ∃ vs, KV kvs vs ∧ h.DictOf (uu P w) a vs
  | .dT kvs => kvs.length ≤ sizeLine ∧ (a == sysModules) = false ∧ ∃ xs : List (List Key × Addr × Value),
      Paired (fun (p : List Key × V) (q : List Key × Addr × Value) => p.1 = q.1 ∧ H q.2.1 = some (.tup (p.1.map kV)) ∧ RelV p.2 q.2.2) kvs xs ∧
      ∃ o es ep, h.get? a = some o ∧ o.ExactDict ∧ o.data = .dict es ep ∧ es.toList = xs.map (entryOfKey (tupleKind (uu P w))) ∧ (xs.map (·.1)).Nodup
  | .set S n => h.SetOf (intKind P w) a S n
  | .ins C dx fs => H dx = some (.own a) ∧ fs.length ≤ 1000 ∧ dx ≠ a ∧ h.get? a = some (PySem.W.instObj C dx) ∧
      ∃ mA, h.Ns1 dx mA ∧ (∀ f, Gp (fs.lookup f) (mA f)) ∧ PySem.Within mA (fs.map (·.1))
  | .own _ => ∃ o, h.get? a = some o
  | .xd fs => ∃ mA, h.Ns1 a mA ∧ ∀ f, Gp (fs.lookup f) (mA f)
  | .rng lo hi => ∃ t u v, h.get? a = some { cls := .type "range", data := .fields #[.int lo t, .int hi u, .int 1 v] }
  | .frz o u => h.get? a = some o ∧ gh H h a u
  | .tbl ps => h.get? a = some { cls := .none, data := .fields ps }
  | .met f x => h.get? a = some (PySem.W.methodObj (.ref f) (.ref x))
  | .ext φ => φ h ∧ (∃ o, h.get? a = some o) ∧ ∀ h1 h2 : Heap, φ h1 → (∀ o, h1.get? a = some o → h2.get? a = some o) → φ h2
def HOk (H : Hp) (h : Heap) : Prop := ∀ a o, H a = some o → gh P w H h a o
end
section
variable {P : Program} {w : World} {H H' : Hp} {h h' : Heap} {a : Addr} {o : HO}
theorem gh.lt (x : gh P w H h a o) : a < h.objs.size := by
  cases o with
  | lst xs => obtain ⟨_, _, _, _, e⟩ := x; exact Heap.lt_size e
  | tup xs => obtain ⟨_, _, _, p⟩ := x; exact p.lt
  | dK kvs => obtain ⟨_, _, _, _, o, _, _, e, _⟩ := x; exact Heap.lt_size e
  | dT kvs => obtain ⟨_, _, _, _, o, _, _, e, _⟩ := x; exact Heap.lt_size e
  | set S n => obtain ⟨o, _, _, _, e, _⟩ := x; exact Heap.lt_size e
  | ins C dx fs => obtain ⟨_, _, _, e, _⟩ := x; exact Heap.lt_size e
  | own y => obtain ⟨_, e⟩ := x; exact Heap.lt_size e
  | xd fs => obtain ⟨_, ⟨_, _, _, e, _⟩, _⟩ := x; exact Heap.lt_size e
  | rng lo hi => obtain ⟨_, _, _, e⟩ := x; exact Heap.lt_size e
  | frz ob u => obtain ⟨e, _⟩ := x; exact Heap.lt_size e
  | tbl ps => exact Heap.lt_size (show h.get? a = some _ from x)
  | met f y => exact Heap.lt_size (show h.get? a = some _ from x)
  | ext φ => obtain ⟨_, ⟨_, e⟩, _⟩ := x; exact Heap.lt_size e
theorem Paired.mapP {α β : Type} {F G : α → β → Prop} : ∀ {l₁ : List α} {l₂ : List β}, Paired F l₁ l₂ → (∀ a b, F a b → G a b) → Paired G l₁ l₂
  | _, _, .nil, _ => .nil
  | _, _, .cons r t, f => .cons (f _ _ r) (Paired.mapP t f)
theorem gh.stay (x : gh P w H h a o) (k : ∀ b u, (b = a ∨ H b = some (.own a)) → h.get? b = some u → h'.get? b = some u)
    (ho : ∀ b, H b = some (.own a) → H' b = some (.own a)) (ht : ∀ b xs, H b = some (.tup xs) → H' b = some (.tup xs)) : gh P w H' h' a o := by
  induction o with
  | lst xs => obtain ⟨z, its, n, r, e⟩ := x; exact ⟨z, its, n, r, k _ _ (.inl rfl) e⟩
  | tup xs => obtain ⟨z, its, r, ob, e, c⟩ := x; exact ⟨z, its, r, ob, k _ _ (.inl rfl) e, c⟩
  | dK kvs => obtain ⟨z, y, vs, r, ob, es, ep, e, c⟩ := x; exact ⟨z, y, vs, r, ob, es, ep, k _ _ (.inl rfl) e, c⟩
  | dT kvs =>
    obtain ⟨z, y, xs, r, ob, es, ep, e, c⟩ := x
    exact ⟨z, y, xs, Paired.mapP r fun p q z => ⟨z.1, ht _ _ z.2.1, z.2.2⟩, ob, es, ep, k _ _ (.inl rfl) e, c⟩
  | set S n => obtain ⟨ob, es, ep, t, e, c⟩ := x; exact ⟨ob, es, ep, t, k _ _ (.inl rfl) e, c⟩
  | ins C dx fs =>
    obtain ⟨d, z, ne, e, mA, ⟨od, es, ep, e2, c⟩, r⟩ := x
    exact ⟨ho _ d, z, ne, k _ _ (.inl rfl) e, mA, ⟨od, es, ep, k _ _ (.inr d) e2, c⟩, r⟩
  | own y => obtain ⟨ob, e⟩ := x; exact ⟨ob, k _ _ (.inl rfl) e⟩
  | xd fs => obtain ⟨mA, ⟨od, es, ep, e, c⟩, r⟩ := x; exact ⟨mA, ⟨od, es, ep, k _ _ (.inl rfl) e, c⟩, r⟩
  | rng lo hi => obtain ⟨t, u, v, e⟩ := x; exact ⟨t, u, v, k _ _ (.inl rfl) e⟩
  | frz ob u ih => obtain ⟨e, q⟩ := x; exact ⟨k _ _ (.inl rfl) e, ih q⟩
  | tbl ps =>
    have e : h.get? a = some { cls := .none, data := .fields ps } := x
    show h'.get? a = some { cls := .none, data := .fields ps }
    exact k a _ (.inl rfl) e
  | met f y =>
    have e : h.get? a = some (PySem.W.methodObj (.ref f) (.ref y)) := x
    show h'.get? a = some (PySem.W.methodObj (.ref f) (.ref y))
    exact k a _ (.inl rfl) e
  | ext φ => obtain ⟨p, ⟨o, e⟩, st⟩ := x; exact ⟨st _ _ p fun o q => k _ _ (.inl rfl) q, ⟨o, k _ _ (.inl rfl) e⟩, st⟩
theorem HOk.lt (x : HOk P w H h) (e : H a = some o) : a < h.objs.size := (x a o e).lt
theorem HOk.fresh (x : HOk P w H h) (e : h.objs.size ≤ a) : H a = none := by
  cases q : H a with
  | none => rfl
  | some u => exact absurd (Nat.lt_of_lt_of_le (x.lt q) e) (Nat.lt_irrefl _)
theorem HOk.kept (x : HOk P w H h) (k : ∀ b u, h.get? b = some u → h'.get? b = some u) : HOk P w H h' := fun a o e =>
  (x a o e).stay (fun b u _ q => k b u q) (fun _ q => q) fun _ _ q => q
theorem HOk.laid (x : HOk P w H h) (k : ∀ b u, h.get? b = some u → h'.get? b = some u) (hp : h.objs.size ≤ a) (new : gh P w (upd H a o) h' a o) : HOk P w (upd H a o) h' := fun b u e => by
  have hn := x.fresh hp
  by_cases hb : b = a
  · subst hb; rw [cL] at e; cases e; exact new
  · rw [aR hb] at e
    exact (x b u e).stay (fun c v _ q => k c v q) (fun c q => by rw [aR (eD q hn)]; exact q) fun c xs q => by rw [aR (eD q hn)]; exact q
end
def Rd (H : Hp) (a : Addr) (u : HO) : Prop := H a = some u ∨ ∃ o, H a = some (.frz o u)
theorem Rd.of {H : Hp} {a : Addr} {u : HO} (h : H a = some u) : Rd H a u := .inl h
theorem Rd.ok {P : Program} {w : World} {H : Hp} {h : Heap} {a : Addr} {u : HO} (r : Rd H a u) (x : HOk P w H h) : gh P w H h a u := by
  rcases r with r | ⟨o, r⟩
  · exact x a u r
  · obtain ⟨_, q⟩ := x a _ r
    exact q
def Mut : Option HO → Prop
  | some (.lst _) => True
  | some (.dK _) => True
  | some (.dT _) => True
  | some (.set _ _) => True
  | some (.ins _ _ _) => True
  | some (.ext _) => True
  | _ => False
section
variable {P : Program} {w : World} {H : Hp} {h h' : Heap} {x e : Addr} {o' : HO}
theorem HOk.write (ok : HOk P w H h) (mu : Mut (H x)) (he : e = x ∨ H e = some (.own x)) (k : ∀ b u, b ≠ e → h.get? b = some u → h'.get? b = some u) (heo : ∃ u, h'.get? e = some u)
    (new : gh P w (upd H x o') h' x o') : HOk P w (upd H x o') h' := fun b u q => by
  have nown : ∀ c y, H c = some (.own y) → c ≠ x := fun c y r z => by subst z; rw [r] at mu; exact mu
  have ntup : ∀ c xs, H c = some (.tup xs) → c ≠ x := fun c xs r z => by subst z; rw [r] at mu; exact mu
  by_cases hb : b = x
  · subst hb; rw [cL] at q; cases q; exact new
  · rw [aR hb] at q
    by_cases hbe : b = e
    · have q' : H b = some (.own x) := by
        rcases he with z | z
        · exact absurd (hbe.trans z) hb
        · rw [hbe]; exact z
      rw [q] at q'; cases q'
      obtain ⟨v, hv⟩ := heo
      exact ⟨v, by rw [hbe]; exact hv⟩
    · refine (ok b u q).stay (fun c v hc r => k c v ?_ r) (fun c r => by rw [aR (nown c b r)]; exact r) fun c xs r => by rw [aR (ntup c xs r)]; exact r
      rcases hc with rfl | hc
      · exact hbe
      · rintro rfl
        rcases he with z | z
        · exact nown c b hc z
        · rw [hc] at z; cases z; exact hb rfl
end
structure Un (fs ex : List Addr) (H H' : Hp) (h h' : Heap) : Prop where
  keep : ∀ b o, h.get? b = some o → H b = none → b ∉ fs → b ∉ ex → h'.get? b = some o
  slot : ∀ b o, h.get? b = some o → H b = none → b ∈ fs → b ∉ ex → ∃ sl, h'.get? b = some { o with slots := sl }
  free : ∀ b o, h.get? b = some o → H b = none → b ∉ ex → H' b = none
  there : ∀ b o, h.get? b = some o → b ∉ ex → ∃ o', h'.get? b = some o'
  tups : ∀ b xs, H b = some (.tup xs) → H' b = some (.tup xs)
  frzs : ∀ b o u, H b = some (.frz o u) → H' b = some (.frz o u)
  tbls : ∀ b ps, H b = some (.tbl ps) → ∃ more, H' b = some (.tbl (ps ++ more))
section
variable {fs fs' ex ex' : List Addr} {H H1 H2 : Hp} {h h1 h2 h' : Heap} {a x e : Addr} {o : HO}
theorem Un.any (u : Un fs ex H H1 h h1) {b : Addr} {ob : Obj} (q : h.get? b = some ob) (n : H b = none) (hx : b ∉ ex) : ∃ sl, h1.get? b = some { ob with slots := sl } := by
  by_cases hb : b ∈ fs
  · exact u.slot b ob q n hb hx
  · exact ⟨ob.slots, u.keep b ob q n hb hx⟩
theorem Un.trans (a : Un fs ex H H1 h h1) (b : Un fs ex H1 H2 h1 h2) : Un fs ex H H2 h h2 where
  keep := fun c ob q n hc hx => b.keep c ob (a.keep c ob q n hc hx) (a.free c ob q n hx) hc hx
  slot := fun c ob q n hc hx => by
    obtain ⟨sl, e1⟩ := a.slot c ob q n hc hx
    obtain ⟨sl', e2⟩ := b.slot c _ e1 (a.free c ob q n hx) hc hx
    exact ⟨sl', e2⟩
  free := fun c ob q n hx => by
    obtain ⟨o', e1⟩ := a.there c ob q hx
    exact b.free c o' e1 (a.free c ob q n hx) hx
  there := fun c ob q hx => by
    obtain ⟨o', e1⟩ := a.there c ob q hx
    exact b.there c o' e1 hx
  tups := fun c xs q => b.tups c xs (a.tups c xs q)
  frzs := fun c ob xs q => b.frzs c ob xs (a.frzs c ob xs q)
  tbls := fun c ps q => by
    obtain ⟨m1, e1⟩ := a.tbls c ps q
    obtain ⟨m2, e2⟩ := b.tbls c _ e1
    exact ⟨m1 ++ m2, by rw [e2, Array.append_assoc]⟩
theorem Un.kept (k : ∀ b u, h.get? b = some u → h'.get? b = some u) : Un fs ex H H h h' :=
  ⟨fun b ob q _ _ _ => k b ob q, fun b ob q _ _ _ => ⟨ob.slots, k b ob q⟩, fun _ _ _ n _ => n, fun b ob q _ => ⟨ob, k b ob q⟩, fun _ _ q => q, fun _ _ _ q => q, fun _ ps q => ⟨#[], by rw [q]; simp⟩⟩
theorem Un.refl : Un fs ex H H h h := Un.kept fun _ _ q => q
theorem Un.laid (k : ∀ b u, h.get? b = some u → h'.get? b = some u) (hp : h.objs.size ≤ a) (hn : H a = none) : Un fs ex H (upd H a o) h h' where
  keep := fun b u q _ _ _ => k b u q
  slot := fun b u q _ _ _ => ⟨u.slots, k b u q⟩
  free := fun b u q n _ => by rw [aR (Nat.ne_of_lt (Nat.lt_of_lt_of_le (Heap.lt_size q) hp))]; exact n
  there := fun b u q _ => ⟨u, k b u q⟩
  tups := fun b xs q => by rw [aR (eD q hn)]; exact q
  frzs := fun b u xs q => by rw [aR (eD q hn)]; exact q
  tbls := fun b ps q => ⟨#[], by rw [aR (eD q hn), q]; simp⟩
theorem Un.write (mu : Mut (H x)) (he : e = x ∨ H e = some (.own x)) (k : ∀ b u, b ≠ e → h.get? b = some u → h'.get? b = some u) (heo : ∃ u, h'.get? e = some u) : Un fs ex H (upd H x o) h h' := by
  have hx : ∀ b, H b = none → b ≠ x := fun b n z => by subst z; rw [n] at mu; exact mu
  have hb : ∀ b, H b = none → b ≠ e := fun b n z => by
    subst z
    rcases he with r | r
    · exact hx b n r
    · rw [n] at r; cases r
  have hm : ∀ b u, H b = some u → ¬ Mut (some u) → b ≠ x := fun b u q nm z => by subst z; rw [q] at mu; exact nm mu
  refine ⟨fun b u q n _ _ => k b u (hb b n) q, fun b u q n _ _ => ⟨u.slots, k b u (hb b n) q⟩, fun b u q n _ => by rw [aR (hx b n)]; exact n, fun b u q _ => ?_,
    fun b xs q => by rw [aR (hm b _ q fun z => z)]; exact q, fun b u xs q => by rw [aR (hm b _ q fun z => z)]; exact q, fun b ps q => ⟨#[], by rw [aR (hm b _ q fun z => z), q]; simp⟩⟩
  by_cases hbe : b = e
  · subst hbe; exact heo
  · exact ⟨u, k b u hbe q⟩
theorem Un.mono (u : Un fs ex H H1 h h1) (hs : ∀ b ∈ fs, b ∈ fs') (hx : ∀ b ∈ ex, b ∈ ex') : Un fs' ex' H H1 h h1 :=
  ⟨fun b ob q n hb he => u.keep b ob q n (fun z => hb (hs b z)) fun z => he (hx b z), fun _ _ q n _ he => u.any q n fun z => he (hx _ z), fun b ob q n he => u.free b ob q n fun z => he (hx b z), fun b ob q he => u.there b ob q fun z => he (hx b z), u.tups, u.frzs, u.tbls⟩
end
def trk (h : Heap) (H : Hp) : List Addr := (List.range h.objs.size).filter fun a => (H a).isSome
def mW (h : Heap) (H : Hp) : Heap := PySem.W.hideAll h (trk h H)
theorem Ca (h : Heap) (H : Hp) : (mW h H).objs.size = h.objs.size := PySem.W.hideAll_size _ _
theorem Cw {h : Heap} {H : Hp} {b : Addr} {o : Obj} (e : h.get? b = some o) (n : H b = none) : (mW h H).get? b = some o :=
  PySem.W.hideAll_get _ e fun hm => by
    have q : (H b).isSome = true := (List.mem_filter.mp hm).2
    rw [n] at q; simp at q
theorem ED {h : Heap} {H : Hp} {b : Addr} {o : Obj} (e : (mW h H).get? b = some o) : h.get? b = some o ∧ H b = none := by
  have e' : h.get? b = some o := PySem.W.of_hideAll (trk h H) e
  refine ⟨e', ?_⟩
  cases q : H b with
  | none => rfl
  | some x =>
    have hm : b ∈ trk h H := List.mem_filter.mpr ⟨List.mem_range.mpr (Heap.lt_size e'), by simp [q]⟩
    have z : (mW h H).get? b = none := PySem.W.hideAll_none (trk h H) hm
    rw [z] at e; cases e
def EB (g h : Heap) (L : Addr) : List (Addr × Obj) := (List.range h.objs.size).filterMap fun a => if a = L ∨ (g.get? a).isSome = true then none else (h.get? a).map fun o => (a, o)
def rest (g h : Heap) (L d : Addr) : List (Addr × Obj) := (EB g h L).filter fun p => decide (p.1 ≠ d)
end L2
namespace L2
open PySem PySem.Spec PyProof.Rows
structure Mod (K : PySem.W.Frag) (mg : Str → Option Value) (base : Heap) : Prop where
  kin : K.In base
  glob : base.Ns mainGlobals mg
  blt : ∃ mb, base.Ns builtinsNs mb ∧ ∀ x : Str, x ≠ "__name__" → mb x = bootBuiltins x
  nolimit : base.NoLimit
  seer : base.NoSeer
structure Cx where
  prog : Program
  w : World
  K : PySem.W.Frag
  mg : Str → Option Value
  base : Heap
  A : Around
  N : List Str
  s₀ : Shared
  H₀ : Hp
  env : Env
  outer : List Env
  stack : List Env
  ex : List Addr
  fn : Str → Bool
  calm : Bool
  pn : List (Addr × Obj)
  xe : Value → Shared → Prop
def frs (l : List Env) : List Addr := l.filterMap (·.frame)
abbrev Cx.fs (X : Cx) : List Addr := frs X.outer
def Vis (sc : Scope) (x : Str) : Prop := sc.names.lookup x = some .local ∨ sc.names.lookup x = some .cell ∨ sc.names.lookup x = some .free
def Loc (sc : Scope) (x : Str) : Prop := sc.names.lookup x = some .local ∨ sc.names.lookup x = some .cell
def Look (env : Env) (h : Heap) (m : Str → Option Value) (x : Str) (u : Value) : Prop :=
  (env.kindOf x = some .local ∧ m x = some u) ∨ ((env.kindOf x = some .cell ∨ env.kindOf x = some .free) ∧ ∃ c, env.cells.lookup x = some c ∧ h.IsCell c (some u))
structure Cx.Ok (X : Cx) : Prop where
  mod : Mod X.K X.mg X.base
  kind : X.env.scope.kind = .function
  glob : X.env.globals = mainGlobals
  blt : X.env.builtins = builtinsNs
  above : X.s₀.heap.objs.size ≤ X.env.locals
  inj : ∀ x y c, X.env.cells.lookup x = some c → X.env.cells.lookup y = some c → x = y
  has : ∀ x, (X.env.kindOf x = some .cell ∨ X.env.kindOf x = some .free) → ∃ c, X.env.cells.lookup x = some c
  cab : ∀ x c, X.fn x = true → X.env.cells.lookup x = some c → X.s₀.heap.objs.size ≤ c
  hd : X.calm = true → X.A.handled = none
  frames : X.A.frames = some X.stack
  stk : X.stack = X.outer ∨ (X.stack = X.env :: X.outer ∧ X.env.frame = some X.env.locals)
  exf : ∀ b ∈ X.ex, b ≠ X.env.locals ∧ ∀ x c, X.env.cells.lookup x = some c → c ≠ b
  bs : ∀ b o, X.base.get? b = some o → X.s₀.heap.get? b = some o ∧ X.H₀ b = none
  bsz : X.base.objs.size ≤ X.s₀.heap.objs.size
  noex : ∀ b o, X.base.get? b = some o → b ∉ X.ex
  exfs : ∀ b ∈ X.ex, b ∉ X.fs
  funs : X.s₀.heap.FunFrames X.base X.outer
  frf : ∀ b ∈ X.fs, X.H₀ b = none
structure Inv (X : Cx) (pins : List (Addr × Obj)) (σ : List (Option V)) (H : Hp) (s : Shared) : Prop where
  ok : X.Ok
  os : s.os = X.s₀.os
  bare : AllBare s.gens
  base : Un X.fs X.ex X.H₀ H X.s₀.heap s.heap
  loc : ∃ m, s.heap.Ns X.env.locals m ∧ ∀ (i : Nat) (x : Str) (v : V), X.N[i]? = some x → σ[i]? = some (some v) → Vis X.env.scope x → ∃ u, RelV v u ∧ Look X.env s.heap m x u
  cell : ∀ x c, X.env.cells.lookup x = some c → ∃ v, s.heap.IsCell c v
  free : H X.env.locals = none
  freeC : ∀ x c, X.env.cells.lookup x = some c → H c = none
  pin : ∀ p ∈ X.pn ++ pins, s.heap.get? p.1 = some p.2 ∧ H p.1 = none ∧ p.1 ≠ X.env.locals ∧ p.1 ∉ X.fs ∧ ∀ v, p.2.data ≠ .cell v
  hok : HOk X.prog X.w H s.heap
  len : σ.length = X.N.length
section
variable {X : Cx} {pins : List (Addr × Obj)} {σ : List (Option V)} {H H' : Hp} {s : Shared} {h' : Heap}
theorem Cx.Ok.nofr (ok : X.Ok) {b : Addr} {o : Obj} (e : X.base.get? b = some o) : b ∉ X.fs := fun hb => by
  have := (ok.funs.mem hb).1
  rw [e] at this; cases this
theorem Inv.bs (I : Inv X pins σ H s) : ∀ b o, X.base.get? b = some o → s.heap.get? b = some o ∧ H b = none := fun b o e =>
  ⟨I.base.keep b o (I.ok.bs b o e).1 (I.ok.bs b o e).2 (I.ok.nofr e) (I.ok.noex b o e), I.base.free b o (I.ok.bs b o e).1 (I.ok.bs b o e).2 (I.ok.noex b o e)⟩
theorem Inv.bk (I : Inv X pins σ H s) : ∀ b o, X.base.get? b = some o → s.heap.get? b = some o := fun b o e => (I.bs b o e).1
theorem Inv.mod (I : Inv X pins σ H s) : Mod X.K X.mg X.base := I.ok.mod
theorem Inv.kIn (I : Inv X pins σ H s) : X.K.In s.heap := I.ok.mod.kin.keeps I.bk
theorem Inv.nolimit (I : Inv X pins σ H s) : s.heap.NoLimit := I.ok.mod.nolimit.keeps I.bk
theorem Inv.noseer (I : Inv X pins σ H s) : s.heap.NoSeer := I.ok.mod.seer.keeps I.bk
theorem Inv.fr (I : Inv X pins σ H s) : ∃ m, Fr X.base X.env.locals s.heap m :=
  let ⟨m, hn, _⟩ := I.loc
  ⟨m, hn, I.bk, Nat.le_trans I.ok.bsz I.ok.above⟩
theorem Inv.lt (I : Inv X pins σ H s) : X.env.locals < s.heap.objs.size := let ⟨_, hn, _⟩ := I.loc; hn.lt
theorem Inv.sz (I : Inv X pins σ H s) : X.s₀.heap.objs.size ≤ s.heap.objs.size := Nat.le_trans I.ok.above (Nat.le_of_lt I.lt)
theorem Inv.nofs (I : Inv X pins σ H s) {a : Addr} (h : s.heap.objs.size ≤ a) : a ∉ X.fs := fun hb => by
  obtain ⟨_, o, ho, _⟩ := I.ok.funs.mem hb
  exact absurd (Nat.lt_of_lt_of_le (Heap.lt_size ho) (Nat.le_trans I.sz h)) (Nat.lt_irrefl _)
theorem Inv.cne (I : Inv X pins σ H s) : ∀ x c, X.env.cells.lookup x = some c → c ≠ X.env.locals := fun x c e z => by
  obtain ⟨v, o, ho, hd⟩ := I.cell x c e
  obtain ⟨m, ⟨o', es, ep, ho', hd', _⟩, _⟩ := I.loc
  rw [z, ho'] at ho; cases ho; rw [hd'] at hd; cases hd
theorem Inv.funs (I : Inv X pins σ H s) : s.heap.FunFrames X.base X.outer := by
  have all : ∀ (l : List Env), (∀ b ∈ frs l, b ∈ X.fs) → X.s₀.heap.FunFrames X.base l → s.heap.FunFrames X.base l := by
    intro l
    induction l with
    | nil => intro _ _; trivial
    | cons env r ih =>
      intro hs hl
      obtain ⟨hk, ⟨L, o, hf, hn, ho, hd⟩, hr⟩ := hl
      have hL : L ∈ X.fs := hs L (by unfold frs; rw [List.filterMap_cons, hf]; exact List.mem_cons_self)
      obtain ⟨sl, e⟩ := I.base.slot L o ho (I.ok.frf L hL) hL fun z => I.ok.exfs L z hL
      exact ⟨hk, ⟨L, _, hf, hn, e, hd⟩, ih (fun b hb => hs b (by unfold frs; rw [List.filterMap_cons, hf]; exact List.mem_cons_of_mem _ hb)) hr⟩
  exact all X.outer (fun _ hb => hb) I.ok.funs
theorem Inv.stack (I : Inv X pins σ H s) : s.heap.FunFrames X.base X.stack := by
  rcases I.ok.stk with e | ⟨e, hf⟩
  · rw [e]; exact I.funs
  · rw [e]
    obtain ⟨m, hn, _⟩ := I.loc
    refine .cons (by rw [I.ok.kind]; decide) hf hn ?_ I.funs
    exact Heap.get?_none_of_le (Nat.le_trans I.ok.bsz I.ok.above)
theorem Inv.stkSub (I : Inv X pins σ H s) : ∀ b ∈ frs X.stack, b ∈ X.env.locals :: X.fs := fun b hb => by
  rcases I.ok.stk with e | ⟨e, hf⟩
  · rw [e] at hb; exact List.mem_cons_of_mem _ hb
  · rw [e] at hb
    unfold frs at hb
    rw [List.filterMap_cons, hf] at hb
    exact hb
theorem Inv.stkFree (I : Inv X pins σ H s) : ∀ b ∈ frs X.stack, H b = none := fun b hb => by
  rcases List.mem_cons.mp (I.stkSub b hb) with e | hb
  · rw [e]; exact I.free
  · obtain ⟨_, o, ho, _⟩ := I.ok.funs.mem hb
    exact I.base.free b o ho (I.ok.frf b hb) fun z => I.ok.exfs b z hb
theorem Inv.step {g' : Array GenState} {t' : Nat} {d' : Drawn} {ch : List Addr} (I : Inv X pins σ H s)
    (hch : ∀ b ∈ ch, (b ∈ X.ex ∨ X.s₀.heap.objs.size ≤ b) ∧ b ≠ X.env.locals ∧ (∀ x c, X.env.cells.lookup x = some c → c ≠ b) ∧ ∀ p ∈ X.pn ++ pins, p.1 ≠ b)
    (keep : ∀ b o, b ≠ X.env.locals → b ∉ X.fs → b ∉ ch → s.heap.get? b = some o → H b = none → h'.get? b = some o)
    (slot : ∀ b o, b ≠ X.env.locals → b ∈ X.fs → b ∉ ch → s.heap.get? b = some o → H b = none → ∃ sl, h'.get? b = some { o with slots := sl }) (free : ∀ b o, b ∉ ch → s.heap.get? b = some o → H b = none → H' b = none)
    (there : ∀ b o, b ∉ ch → s.heap.get? b = some o → ∃ o', h'.get? b = some o')
    (tups : ∀ b xs, H b = some (.tup xs) → H' b = some (.tup xs)) (frzs : ∀ b o u, H b = some (.frz o u) → H' b = some (.frz o u)) (tbls : ∀ b ps, H b = some (.tbl ps) → ∃ more, H' b = some (.tbl (ps ++ more)))
    (ns : ∀ m, s.heap.Ns X.env.locals m → h'.Ns X.env.locals m) (hok : HOk X.prog X.w H' h') (hg : AllBare g') :
    Inv X pins σ H' { s with heap := h', gens := g', drawn := d', toks := t' } := by
  have neL : ∀ b o, X.s₀.heap.get? b = some o → b ≠ X.env.locals := fun b o e => Nat.ne_of_lt (Nat.lt_of_lt_of_le (Heap.lt_size e) I.ok.above)
  have neC : ∀ b o, X.s₀.heap.get? b = some o → b ∉ X.ex → b ∉ ch := fun b o e hx hb => by
    rcases (hch b hb).1 with z | z
    · exact hx z
    · exact absurd (Nat.lt_of_lt_of_le (Heap.lt_size e) z) (Nat.lt_irrefl _)
  have cellK : ∀ x c, X.env.cells.lookup x = some c → ∀ v, s.heap.IsCell c v → h'.IsCell c v := fun x c e v ⟨o, ho, hd⟩ => by
    have nch : c ∉ ch := fun z => (hch c z).2.2.1 x c e rfl
    by_cases hc : c ∈ X.fs
    · obtain ⟨sl, q⟩ := slot c o (I.cne x c e) hc nch ho (I.freeC x c e)
      exact ⟨_, q, hd⟩
    · exact ⟨o, keep c o (I.cne x c e) hc nch ho (I.freeC x c e), hd⟩
  refine ⟨I.ok, I.os, hg, ⟨fun b o e n hb hx => ?_, fun b o e n hb hx => ?_, fun b o e n hx => ?_, fun b o e hx => ?_, fun b xs e => tups b xs (I.base.tups b xs e), fun b o xs e => frzs b o xs (I.base.frzs b o xs e), fun b ps e => ?_⟩, ?_, fun x c e => ?_, ?_, fun x c e => ?_, fun p hp => ?_, hok, I.len⟩
  · exact keep b o (neL b o e) hb (neC b o e hx) (I.base.keep b o e n hb hx) (I.base.free b o e n hx)
  · obtain ⟨sl, e1⟩ := I.base.slot b o e n hb hx
    obtain ⟨sl', e2⟩ := slot b _ (neL b o e) hb (neC b o e hx) e1 (I.base.free b o e n hx)
    exact ⟨sl', e2⟩
  · obtain ⟨o', e1⟩ := I.base.there b o e hx
    exact free b o' (neC b o e hx) e1 (I.base.free b o e n hx)
  · obtain ⟨o', e1⟩ := I.base.there b o e hx
    exact there b o' (neC b o e hx) e1
  · obtain ⟨m1, e1⟩ := I.base.tbls b ps e
    obtain ⟨m2, e2⟩ := tbls b _ e1
    exact ⟨m1 ++ m2, by rw [e2, Array.append_assoc]⟩
  · obtain ⟨m, hn, hl⟩ := I.loc
    refine ⟨m, ns m hn, fun i x v e1 e2 e3 => ?_⟩
    obtain ⟨u, r, l⟩ := hl i x v e1 e2 e3
    refine ⟨u, r, ?_⟩
    rcases l with l | ⟨k, c, e, z⟩
    · exact .inl l
    · exact .inr ⟨k, c, e, cellK x c e _ z⟩
  · obtain ⟨v, z⟩ := I.cell x c e
    exact ⟨v, cellK x c e v z⟩
  · obtain ⟨m, ⟨o, _, _, ho, _⟩, _⟩ := I.loc
    exact free _ o (fun z => (hch _ z).2.1 rfl) ho I.free
  · obtain ⟨v, o, ho, hd⟩ := I.cell x c e
    exact free c o (fun z => (hch c z).2.2.1 x c e rfl) ho (I.freeC x c e)
  · obtain ⟨e, n, ne, nf, d⟩ := I.pin p hp
    have nch : p.1 ∉ ch := fun z => (hch p.1 z).2.2.2 p hp rfl
    exact ⟨keep p.1 p.2 ne nf nch e n, free p.1 p.2 nch e n, ne, nf, d⟩
theorem Inv.un {t' : Nat} (I : Inv X pins σ H s) (u : Un X.fs [] H H' s.heap h') (hok : HOk X.prog X.w H' h') : Inv X pins σ H' { s with heap := h', toks := t' } := by
  obtain ⟨m, ⟨o, es, ep, ho, r⟩, _⟩ := id I.loc
  obtain ⟨sl, hL⟩ := u.any ho I.free (by simp)
  exact I.step (g' := s.gens) (d' := s.drawn) (ch := []) (fun _ z => nomatch z) (fun b o _ hb _ e n => u.keep b o e n hb (by simp)) (fun b o _ hb _ e n => u.slot b o e n hb (by simp)) (fun b o _ e n => u.free b o e n (by simp)) (fun b o _ e => u.there b o e (by simp)) u.tups u.frzs u.tbls (fun m' hm => by
    obtain ⟨o', es', ep', ho', r'⟩ := hm
    rw [ho] at ho'; cases ho'
    exact ⟨_, es', ep', hL, r'⟩) hok I.bare
theorem Inv.call {g' : Array GenState} {t' : Nat} {d' : Drawn} {ch : List Addr} (I : Inv X pins σ H s) (u : Un (frs X.stack) ch H H' s.heap h') (hok : HOk X.prog X.w H' h') (hg : AllBare g')
    (hch : ∀ b ∈ ch, (b ∈ X.ex ∨ X.s₀.heap.objs.size ≤ b) ∧ b ≠ X.env.locals ∧ (∀ x c, X.env.cells.lookup x = some c → c ≠ b) ∧ ∀ p ∈ X.pn ++ pins, p.1 ≠ b) :
    Inv X pins σ H' { s with heap := h', gens := g', drawn := d', toks := t' } := by
  obtain ⟨m, ⟨o, es, ep, ho, r⟩, _⟩ := id I.loc
  obtain ⟨sl, hL⟩ := u.any ho I.free fun z => (hch _ z).2.1 rfl
  exact I.step (ch := ch) hch (fun b o hL hb hc e n => u.keep b o e n (fun z => (List.mem_cons.mp (I.stkSub b z)).elim hL hb) hc) (fun b o _ _ hc e n => u.any e n hc) (fun b o hc e n => u.free b o e n hc) (fun b o hc e => u.there b o e hc) u.tups u.frzs u.tbls (fun m' hm => by
    obtain ⟨o', es', ep', ho', r'⟩ := hm
    rw [ho] at ho'; cases ho'
    exact ⟨_, es', ep', hL, r'⟩) hok hg
theorem Inv.turned {t' : Nat} {it : Addr} (I : Inv X pins σ H s) (k : ∀ b o, b ≠ it → s.heap.get? b = some o → h'.get? b = some o) (hn : H it = none) (hL : it ≠ X.env.locals)
    (h1 : it ∈ X.ex ∨ X.s₀.heap.objs.size ≤ it) (h2 : ∀ x c, X.env.cells.lookup x = some c → c ≠ it) (h3 : ∀ p ∈ X.pn ++ pins, p.1 ≠ it) : Inv X pins σ H { s with heap := h', toks := t' } := by
  have nit : ∀ b u, H b = some u → b ≠ it := fun b u e z => by rw [z, hn] at e; cases e
  refine I.step (g' := s.gens) (d' := s.drawn) (ch := [it]) (fun b hb => ?_) (fun b o _ _ hc e _ => k b o (fun z => hc (by simp [z])) e) (fun b o _ _ hc e _ => ⟨o.slots, k b o (fun z => hc (by simp [z])) e⟩) (fun _ _ _ _ n => n)
    (fun b o hc e => ⟨o, k b o (fun z => hc (by simp [z])) e⟩) (fun _ _ e => e) (fun _ _ _ e => e) (fun b ps e => ⟨#[], by rw [e]; simp⟩) (fun m hm => ?_) (fun b u e => ?_) I.bare
  · have e : b = it := by simpa using hb
    subst e
    exact ⟨h1, hL, h2, h3⟩
  · obtain ⟨o, es, ep, ho, r⟩ := hm
    exact ⟨o, es, ep, k _ o (Ne.symm hL) ho, r⟩
  · refine (I.hok b u e).stay (fun c v hc q => k c v ?_ q) (fun _ q => q) fun _ _ q => q
    rcases hc with z | z
    · rw [z]; exact nit b u e
    · exact nit c _ z
theorem Inv.tok (I : Inv X pins σ H s) (t : Nat) : Inv X pins σ H { s with toks := t } := I.un (h' := s.heap) (t' := t) Un.refl I.hok
theorem Inv.kept {t' : Nat} (I : Inv X pins σ H s) (k : ∀ b u, s.heap.get? b = some u → h'.get? b = some u) : Inv X pins σ H { s with heap := h', toks := t' } := I.un (Un.kept k) (I.hok.kept k)
theorem Inv.laid {a : Addr} {o : HO} {t' : Nat} (I : Inv X pins σ H s) (k : ∀ b u, s.heap.get? b = some u → h'.get? b = some u) (hp : s.heap.objs.size ≤ a) (new : gh X.prog X.w (upd H a o) h' a o) :
    Inv X pins σ (upd H a o) { s with heap := h', toks := t' } := I.un (Un.laid k hp (I.hok.fresh hp)) (I.hok.laid k hp new)
theorem Inv.write {x e : Addr} {o : HO} {t' : Nat} (I : Inv X pins σ H s) (mu : Mut (H x)) (he : e = x ∨ H e = some (.own x)) (k : ∀ b u, b ≠ e → s.heap.get? b = some u → h'.get? b = some u) (heo : ∃ u, h'.get? e = some u)
    (new : gh X.prog X.w (upd H x o) h' x o) : Inv X pins σ (upd H x o) { s with heap := h', toks := t' } := I.un (Un.write mu he k heo) (I.hok.write mu he k heo new)
theorem Inv.pins_of {pins' : List (Addr × Obj)} (I : Inv X pins σ H s) (h : ∀ p ∈ pins', s.heap.get? p.1 = some p.2 ∧ H p.1 = none ∧ p.1 ≠ X.env.locals ∧ p.1 ∉ X.fs ∧ ∀ v, p.2.data ≠ .cell v) : Inv X pins' σ H s :=
  ⟨I.ok, I.os, I.bare, I.base, I.loc, I.cell, I.free, I.freeC, fun p hp => (List.mem_append.mp hp).elim (fun z => I.pin p (List.mem_append_left _ z)) (h p), I.hok, I.len⟩
theorem wZ {N : List Str} (hN : N.Nodup) {i j : Nat} {x : Str} (a : N[i]? = some x) (b : N[j]? = some x) : i = j := by
  obtain ⟨h1, e1⟩ := List.getElem?_eq_some_iff.mp a
  obtain ⟨h2, e2⟩ := List.getElem?_eq_some_iff.mp b
  exact (List.getElem_inj hN).mp (e1.trans e2.symm)
theorem vb {M : Model} {A : Around} {E : Value → Shared → Prop} {i : Nat} {x : Str} {v : V} {u : Value} {Q : Unit → Shared → Prop} (I : Inv X pins σ H s) (hN : X.N.Nodup) (hi : X.N[i]? = some x) (hx : Loc X.env.scope x) (r : RelV v u)
    (h : ∀ s', Inv X pins (σ.set i (some v)) H s' → (∃ a, Heap.SameBut a s.heap s'.heap ∧ (a = X.env.locals ∨ X.env.cells.lookup x = some a)) → Q () s') (hf : X.fn x = true ∨ X.env.scope.names.lookup x = some .local := by first | exact .inl rfl | exact .inr rfl | assumption) : wpAny M A (storeName X.env x u) Q E s := by
  obtain ⟨m, hn, hl⟩ := id I.loc
  have hcls : (X.env.scope.kind == .class || (X.env.scope.kind == .module && X.env.locals != X.env.globals)) = false := by rw [I.ok.kind]; rfl
  have hiσ : i < σ.length := by rw [I.len]; exact (List.getElem?_eq_some_iff.mp hi).1
  have cne := I.cne
  have tracked : ∀ {a : Addr} {h' : Heap}, (∃ o, s.heap.get? a = some o ∧ H a = none) → Heap.SameBut a s.heap h' → HOk X.prog X.w H h' := fun {a h'} ha hs b ob e => by
    obtain ⟨_, _, hfree⟩ := ha
    refine (I.hok b ob e).stay (fun c w' hc q => (hs.2 c ?_).trans q) (fun _ q => q) fun _ _ q => q
    rintro rfl
    rcases hc with rfl | hc
    · rw [hfree] at e; cases e
    · rw [hfree] at hc; cases hc
  rcases hx with hk | hk
  · refine wpAny_storeName_local hk hn (fun h' hn' hs => ?_) hcls
    obtain ⟨oL, _, _, hoL, _⟩ := id hn
    refine h _ ⟨I.ok, I.os, I.bare, ⟨fun b o e n hb hx => ?_, fun b o e n hb hx => ?_, I.base.free, fun b o e hx => ?_, I.base.tups, I.base.frzs, I.base.tbls⟩, ⟨_, hn', fun j y v' e1 e2 e3 => ?_⟩, fun y c e => ?_, I.free, I.freeC, fun p hp => ?_, tracked ⟨oL, hoL, I.free⟩ hs, by simpa using I.len⟩ ⟨_, hs, .inl rfl⟩
    · exact (hs.2 b (Nat.ne_of_lt (Nat.lt_of_lt_of_le (Heap.lt_size e) I.ok.above))).trans (I.base.keep b o e n hb hx)
    · obtain ⟨sl, e1⟩ := I.base.slot b o e n hb hx
      exact ⟨sl, (hs.2 b (Nat.ne_of_lt (Nat.lt_of_lt_of_le (Heap.lt_size e) I.ok.above))).trans e1⟩
    · obtain ⟨o', e1⟩ := I.base.there b o e hx
      exact ⟨o', (hs.2 b (Nat.ne_of_lt (Nat.lt_of_lt_of_le (Heap.lt_size e) I.ok.above))).trans e1⟩
    · by_cases hj : j = i
      · subst hj
        rw [hi] at e1; cases e1
        rw [List.getElem?_set_self hiσ] at e2
        cases e2
        exact ⟨u, r, .inl ⟨hk, by simp⟩⟩
      · rw [List.getElem?_set_ne (Ne.symm hj)] at e2
        obtain ⟨u', r', q⟩ := hl j y v' e1 e2 e3
        refine ⟨u', r', ?_⟩
        rcases q with ⟨k, e⟩ | ⟨k, c, e, z⟩
        · refine .inl ⟨k, ?_⟩
          have : y ≠ x := fun e => hj (wZ hN e1 (e ▸ hi))
          simp [this, e]
        · exact .inr ⟨k, c, e, z.sameBut hs (cne y c e)⟩
    · obtain ⟨w', z⟩ := I.cell y c e
      exact ⟨w', z.sameBut hs (cne y c e)⟩
    · obtain ⟨e, n, ne, nf, d⟩ := I.pin p hp
      exact ⟨(hs.2 p.1 ne).trans e, n, ne, nf, d⟩
  · have hfn : X.fn x = true := by
      rcases hf with z | z
      · exact z
      · rw [z] at hk; cases hk
    obtain ⟨c, hc⟩ := I.ok.has x (.inl hk)
    obtain ⟨w', z⟩ := I.cell x c hc
    refine wpAny_storeName_cell I.ok.kind hk hc z (fun h' hc' hs => ?_)
    obtain ⟨oc, hoc, hocd⟩ := id z
    refine h { s with heap := h' } ⟨I.ok, I.os, I.bare, ⟨fun b o e n hb hx => ?_, fun b o e n hb hx => ?_, I.base.free, fun b o e hx => ?_, I.base.tups, I.base.frzs, I.base.tbls⟩, ⟨m, hn.sameBut hs (Ne.symm (cne x c hc)), fun j y v' e1 e2 e3 => ?_⟩, fun y c' e => ?_, I.free, I.freeC, fun p hp => ?_, tracked ⟨oc, hoc, I.freeC x c hc⟩ hs, by simpa using I.len⟩ ⟨c, hs, .inr hc⟩
    · exact (hs.2 b (Nat.ne_of_lt (Nat.lt_of_lt_of_le (Heap.lt_size e) (I.ok.cab x c hfn hc)))).trans (I.base.keep b o e n hb hx)
    · obtain ⟨sl, e1⟩ := I.base.slot b o e n hb hx
      exact ⟨sl, (hs.2 b (Nat.ne_of_lt (Nat.lt_of_lt_of_le (Heap.lt_size e) (I.ok.cab x c hfn hc)))).trans e1⟩
    · obtain ⟨o', e1⟩ := I.base.there b o e hx
      exact ⟨o', (hs.2 b (Nat.ne_of_lt (Nat.lt_of_lt_of_le (Heap.lt_size e) (I.ok.cab x c hfn hc)))).trans e1⟩
    · by_cases hj : j = i
      · subst hj
        rw [hi] at e1; cases e1
        rw [List.getElem?_set_self hiσ] at e2
        cases e2
        exact ⟨u, r, .inr ⟨.inl hk, c, hc, hc'⟩⟩
      · rw [List.getElem?_set_ne (Ne.symm hj)] at e2
        obtain ⟨u', r', q⟩ := hl j y v' e1 e2 e3
        refine ⟨u', r', ?_⟩
        rcases q with q | ⟨k, c', e, z'⟩
        · exact .inl q
        · refine .inr ⟨k, c', e, z'.sameBut hs ?_⟩
          rintro rfl
          exact hj (wZ hN e1 (I.ok.inj _ _ _ e hc ▸ hi))
    · by_cases hcc : c' = c
      · subst hcc; exact ⟨_, hc'⟩
      · obtain ⟨w2, z2⟩ := I.cell y c' e
        exact ⟨w2, z2.sameBut hs hcc⟩
    · obtain ⟨e, n, ne, nf, d⟩ := I.pin p hp
      refine ⟨(hs.2 p.1 ?_).trans e, n, ne, nf, d⟩
      intro q
      rw [q, hoc] at e
      have q' : oc = p.2 := Option.some.inj e
      exact d w' (by rw [← q']; exact hocd)
theorem we {M : Model} {A : Around} {E : Value → Shared → Prop} {i : Nat} {x : Str} {v : V} {u : Value} {Q : Unit → Shared → Prop} (I : Inv X pins σ H s) (hN : X.N.Nodup) (hi : X.N[i]? = some x) (hx : Loc X.env.scope x) (r : RelV v u)
    (h : ∀ s', Inv X pins (σ.set i (some v)) H s' → Q () s') (hf : X.fn x = true ∨ X.env.scope.names.lookup x = some .local := by first | exact .inl rfl | exact .inr rfl | assumption) : wpAny M A (storeName X.env x u) Q E s :=
  vb I hN hi hx r (fun s' I' _ => h s' I') hf
theorem Inv.call' {s' : Shared} {ch : List Addr} (I : Inv X pins σ H s) (ho : s'.os = s.os) (u : Un (frs X.stack) ch H H' s.heap s'.heap) (hok : HOk X.prog X.w H' s'.heap) (hg : AllBare s'.gens)
    (hch : ∀ b ∈ ch, (b ∈ X.ex ∨ X.s₀.heap.objs.size ≤ b) ∧ b ≠ X.env.locals ∧ (∀ x c, X.env.cells.lookup x = some c → c ≠ b) ∧ ∀ p ∈ X.pn ++ pins, p.1 ≠ b) : Inv X pins σ H' s' := by
  obtain ⟨h', g', d', t', o'⟩ := s'
  have e : o' = s.os := ho
  subst e
  exact I.call (g' := g') (t' := t') (d' := d') u hok hg hch
end
abbrev XK := Value → Option Addr → Hp → Prop
abbrev St := List (Option V)
abbrev VK := V → Hp → Prop
abbrev TE := St → Hp → VK → Prop
abbrev TT := St → Hp → (Bool → Hp → Prop) → Prop
abbrev TA := St → Hp → (List V → Hp → Prop) → Prop
structure Ends where
  nx : St → Hp → Prop
  rt : VK
  bk : St → Hp → Prop := fun _ _ => False
  ct : St → Hp → Prop := fun _ _ => False
abbrev TS := Ends → St → Hp → Prop
def EP (X : Cx) (pins : List (Addr × Obj)) (σ : St) (Q : VK) (u : Value) (s' : Shared) : Prop := ∃ v H', Inv X pins σ H' s' ∧ RelV v u ∧ Q v H'
def TP (X : Cx) (pins : List (Addr × Obj)) (σ : St) (Q : Bool → Hp → Prop) (b : Bool) (s' : Shared) : Prop := ∃ H', Inv X pins σ H' s' ∧ Q b H'
def AP (X : Cx) (pins : List (Addr × Obj)) (σ : St) (Q : List V → Hp → Prop) (us : List Value) (s' : Shared) : Prop := ∃ vs H', Inv X pins σ H' s' ∧ Vals vs us ∧ Q vs H'
def SP (X : Cx) (pins : List (Addr × Obj)) (D : Ends) (f : Flow) (s' : Shared) : Prop :=
  match f with
  | .next => ∃ σ' H', Inv X pins σ' H' s' ∧ D.nx σ' H'
  | .brk => ∃ σ' H', Inv X pins σ' H' s' ∧ D.bk σ' H'
  | .cont => ∃ σ' H', Inv X pins σ' H' s' ∧ D.ct σ' H'
  | .ret u => ∃ v σ' H', Inv X pins σ' H' s' ∧ RelV v u ∧ D.rt v H'
def PE (X : Cx) (e : Expr) (t : TE) : Prop :=
  ∀ (pins : List (Addr × Obj)) (s : Shared) (σ : St) (H : Hp) (Q : VK), Inv X pins σ H s → t σ H Q → wpAny (model X.prog X.w) X.A (eval e X.env) (EP X pins σ Q) X.xe s
def PT (X : Cx) (e : Expr) (t : TT) : Prop :=
  ∀ (pins : List (Addr × Obj)) (s : Shared) (σ : St) (H : Hp) (Q : Bool → Hp → Prop), Inv X pins σ H s → t σ H Q → wpAny (model X.prog X.w) X.A (isTrue e X.env (eval e X.env)) (TP X pins σ Q) X.xe s
def PW (X : Cx) (e : Expr) (t : TT) : Prop :=
  ∀ (whole : Sem Value) (pins : List (Addr × Obj)) (s : Shared) (σ : St) (H : Hp) (Q : Bool → Hp → Prop), Inv X pins σ H s → t σ H Q → wpAny (model X.prog X.w) X.A (isTrue e X.env whole) (TP X pins σ Q) X.xe s
theorem PW.pt {X : Cx} {e : Expr} {t : TT} (h : PW X e t) : PT X e t := h _
def PA (X : Cx) (es : List Expr) (t : TA) : Prop :=
  ∀ (pos : Pos) (pins : List (Addr × Obj)) (s : Shared) (σ : St) (H : Hp) (Q : List V → Hp → Prop), Inv X pins σ H s → t σ H Q → wpAny (model X.prog X.w) X.A (spliced (backTo pos (starEach es X.env))) (AP X pins σ Q) X.xe s
def PS (X : Cx) (st : Stmt) (t : TS) : Prop :=
  ∀ (pins : List (Addr × Obj)) (s : Shared) (σ : St) (H : Hp) (D : Ends), Inv X pins σ H s → t D σ H → wpAny (model X.prog X.w) X.A (exec st X.env) (SP X pins D) X.xe s
def PSs (X : Cx) (st : List Stmt) (t : TS) : Prop :=
  ∀ (pins : List (Addr × Obj)) (s : Shared) (σ : St) (H : Hp) (D : Ends), Inv X pins σ H s → t D σ H → wpAny (model X.prog X.w) X.A (execs st X.env) (SP X pins D) X.xe s
theorem thn {α : Type} {t : Sem α} {Q Q' : α → Shared → Prop} {M : Model} {A : Around} {E : Value → Shared → Prop} {s : Shared} (h : wpAny M A t Q E s) (hQ : ∀ a s, Q a s → Q' a s) : wpAny M A t Q' E s := wpAny_mono h hQ fun _ _ x => x
end L2
namespace L2
open PySem PySem.Spec PyProof.Rows
section
variable {X : Cx}
theorem bin {a b : Expr} {ta tb : TE} (ha : PE X a ta) (hb : PE X b tb) {pins : List (Addr × Obj)} {s : Shared} {σ : St} {H : Hp} {R : V → V → Hp → Prop} (I : Inv X pins σ H s) (h : ta σ H fun x H1 => tb σ H1 fun y H2 => R x y H2)
    {α : Type} {Q : α → Shared → Prop} {f : Value → Value → Sem α}
    (hf : ∀ v u s2 x y H2, Inv X pins σ H2 s2 → RelV x v → RelV y u → R x y H2 → wpAny (model X.prog X.w) X.A (f v u) Q X.xe s2) :
    wpAny (model X.prog X.w) X.A (eval a X.env) (fun v s₁ => wpAny (model X.prog X.w) X.A (eval b X.env) (fun u s₂ => wpAny (model X.prog X.w) X.A (f v u) Q X.xe s₂) X.xe s₁) X.xe s := by
  refine thn (ha pins s σ H _ I h) fun v s1 ⟨x, H1, I1, r1, q1⟩ => ?_
  refine thn (hb pins s1 σ H1 _ I1 q1) fun u s2 ⟨y, H2, I2, r2, q2⟩ => ?_
  exact hf v u s2 x y H2 I2 r1 r2 q2
def Dt (i : Nat) : TE := fun σ H Q => ∃ v, σ[i]? = some (some v) ∧ Q v H
def tC (v : V) : TE := fun _ H Q => Q v H
theorem FP {i : Nat} {x : Str} {pos : Pos} (hN : X.N[i]? = some x) (hv : Vis X.env.scope x) (hd : (x == ("__debug__" : Str)) = false := by decide) (hcd : (x == ("__classdict__" : Str)) = false := by decide) : PE X (.Name x pos) (Dt i) := by
  intro pins s σ H Q I h
  obtain ⟨v, e, h⟩ := h
  obtain ⟨m, hn, hl⟩ := I.loc
  obtain ⟨u, r, l⟩ := hl i x v hN e hv
  have fin : EP X pins σ Q u s := ⟨v, H, I, r, h⟩
  rcases l with ⟨hk, hm⟩ | ⟨hk, c, hc, hcell⟩
  · exact wpAny_Name (wpAny_loadName_local I.ok.kind hk hn hm fin) hd
  · rcases hk with hk | hk
    · exact wpAny_Name (wpAny_loadName_cell I.ok.kind hk hc hcell fin) hd
    · exact wpAny_Name (wpAny_loadName_free I.ok.kind hk hc hcell fin hcd) hd
theorem aA {i j pos} : PE X (.Constant (.int i) j pos) (tC (.int i)) := fun _ _ _ H _ I h => wpAny_Constant_int ⟨.int i, H, I.tok _, ⟨_, rfl⟩, h⟩
theorem nG {b j pos} : PE X (.Constant (.bool b) j pos) (tC (.bl b)) := fun _ _ _ H _ I h => Constant_bool ⟨.bl b, H, I, rfl, h⟩
theorem Fq {j pos} : PE X (.Constant .none j pos) (tC .non) := fun _ _ _ H _ I h => Constant_none ⟨.non, H, I, rfl, h⟩
def Gl (X : Cx) (x : Str) : Prop := X.env.kindOf x = some .globalImplicit
theorem Fg {E : Value → Shared → Prop} {pins : List (Addr × Obj)} {s : Shared} {σ : St} {H : Hp} {x : Str} {u : Value} {pos : Pos} {Q : Value → Shared → Prop} (I : Inv X pins σ H s) (hg : Gl X x) (hm : X.mg x = some u) (h : Q u s)
    (hd : (x == ("__debug__" : Str)) = false := by decide) : wpAny (model X.prog X.w) X.A (eval (.Name x pos) X.env) Q E s :=
  Calls.Name_function_global I.ok.kind hg (Calls.loadGlobal_global (by rw [I.ok.glob]; exact I.mod.glob.keeps I.bk) hm h) hd
theorem mv {E : Value → Shared → Prop} {pins : List (Addr × Obj)} {s : Shared} {σ : St} {H : Hp} {x : Str} {u : Value} {pos : Pos} {Q : Value → Shared → Prop} (I : Inv X pins σ H s) (hg : Gl X x) (hm : X.mg x = none) (hv : bootBuiltins x = some u) (h : Q u s)
    (hn : x ≠ "__name__" := by decide) (hd : (x == ("__debug__" : Str)) = false := by decide) : wpAny (model X.prog X.w) X.A (eval (.Name x pos) X.env) Q E s := by
  obtain ⟨mb, h1, h2⟩ := I.mod.blt
  exact Calls.Name_function_global I.ok.kind hg (Calls.loadGlobal_builtin (by rw [I.ok.glob]; exact I.mod.glob.keeps I.bk) hm (by rw [I.ok.blt]; exact h1.keeps I.bk) ((h2 x hn).trans hv) h) hd
theorem jC {x : Str} {v : V} {u : Value} {pos : Pos} (hg : Gl X x) (hm : X.mg x = none) (hv : bootBuiltins x = some u) (r : RelV v u) (hn : x ≠ "__name__" := by decide) (hd : (x == ("__debug__" : Str)) = false := by decide) : PE X (.Name x pos) (tC v) :=
  fun _ _ _ H _ I h => mv I hg hm hv ⟨v, H, I, r, h⟩ hn hd
variable {a b : Expr} {ta tb : TE} {pos : Pos}
def PC (X : Cx) (op : CmpOp) (a b : Expr) (t : TE) : Prop :=
  ∀ (pins : List (Addr × Obj)) (s : Shared) (σ : St) (H : Hp) (Q : VK), Inv X pins σ H s → t σ H Q →
    wpAny (model X.prog X.w) X.A (eval a X.env) (fun v s₁ => wpAny (model X.prog X.w) X.A (eval b X.env) (fun u s₂ => wpAny (model X.prog X.w) X.A (compareOp op v u) (EP X pins σ Q) X.xe s₂) X.xe s₁) X.xe s
theorem Dw (b : Expr) {op : CmpOp} (h : op ≠ .In) (h2 : op ≠ .NotIn) : behindInMarks op b = false := by
  have e1 : (op == CmpOp.In) = false := by cases op <;> first | rfl | exact absurd rfl h
  have e2 : (op == CmpOp.NotIn) = false := by cases op <;> first | rfl | exact absurd rfl h2
  cases b <;> simp [behindInMarks, e1, e2]
def tB (t : TE) : TT := fun σ H Q => t σ H fun x H1 => ∃ c, x = .bl c ∧ Q c H1
theorem Jw {op : CmpOp} {t : TE} (h : PC X op a b t) (h1 : behindInMarks op b = false := by first | exact Dw _ (by decide) (by decide) | rfl) : PT X (.Compare a [op] [b] pos) (tB t) := by
  intro pins s σ H Q I hw
  refine wpAny_isTrue_Compare1 (thn (h pins s σ H _ I hw) fun v s1 h1 => thn h1 fun u s2 h2 => thn h2 fun c s3 ⟨x, H1, I1, r1, q1⟩ => ?_) h1
  obtain ⟨d, rfl, q⟩ := q1
  cases r1
  exact wpAny_truthy_bool ⟨H1, I1, q⟩
theorem eT {e : Expr} {t : TE} (h : PE X e t) (he : ∀ whole, isTrue e X.env whole = (do let v ← whole; standAt e.pos; holding [v] (truthy v)) := by intro _; rfl) : PT X e (tB t) := by
  intro pins s σ H Q I hw
  refine isTrue_plain (thn (h pins s σ H _ I hw) fun v s1 ⟨x, H1, I1, r1, q1⟩ => ?_) (he _)
  obtain ⟨d, rfl, q⟩ := q1
  cases r1
  exact wpAny_truthy_bool ⟨H1, I1, q⟩
variable {tA tB' : TT} {rest : List Expr}
def Gv (t u : TT) : TT := fun σ H Q => t σ H fun c H1 => if c = true then u σ H1 Q else Q false H1
def tOr (t u : TT) : TT := fun σ H Q => t σ H fun c H1 => if c = true then Q true H1 else u σ H1 Q
def Gw (t : TT) : TT := fun σ H Q => t σ H fun c H1 => Q (!c) H1
theorem pw_and1 (ha : PT X a tA) : PW X (.BoolOp .And [a] pos) tA := by
  intro wh pins s σ H Q I h
  refine isTrue_and (thn (ha pins s σ H Q I h) fun c s1 e => ?_)
  cases c with
  | true => exact isTrue_and_nil e
  | false => exact e
theorem pw_or1 (ha : PT X a tA) : PW X (.BoolOp .Or [a] pos) tA := by
  intro wh pins s σ H Q I h
  refine isTrue_or (thn (ha pins s σ H Q I h) fun c s1 e => ?_)
  cases c with
  | false => exact isTrue_or_nil e
  | true => exact e
theorem pw_and (ha : PT X a tA) (hb : PW X (.BoolOp .And (b :: rest) pos) tB') : PW X (.BoolOp .And (a :: b :: rest) pos) (Gv tA tB') := by
  intro wh pins s σ H Q I h
  refine isTrue_and (thn (ha pins s σ H _ I h) fun c s1 ⟨H1, I1, q1⟩ => ?_)
  cases c with
  | true => exact hb wh pins s1 σ H1 Q I1 q1
  | false => exact ⟨H1, I1, q1⟩
theorem pw_or (ha : PT X a tA) (hb : PW X (.BoolOp .Or (b :: rest) pos) tB') : PW X (.BoolOp .Or (a :: b :: rest) pos) (tOr tA tB') := by
  intro wh pins s σ H Q I h
  refine isTrue_or (thn (ha pins s σ H _ I h) fun c s1 ⟨H1, I1, q1⟩ => ?_)
  cases c with
  | true => exact ⟨H1, I1, q1⟩
  | false => exact hb wh pins s1 σ H1 Q I1 q1
theorem iK (ha : PT X a tA) : PT X (.UnaryOp .Not a pos) (Gw tA) := by
  intro pins s σ H Q I h
  exact isTrue_not (ha pins s σ H (fun c H1 => Q (!c) H1) I h)
def D3 (ta tb : TE) : TE := fun σ H Q => ta σ H fun x H1 => ∃ c, x = .bl c ∧ if c = true then tb σ H1 Q else Q (.bl false) H1
def DW (ta : TE) : TE := fun σ H Q => ta σ H fun x H1 => ∃ c, x = .bl c ∧ Q (.bl (!c)) H1
theorem pV {op} {t : TE} (h : PE X a t) : PE X (.BoolOp op [a] pos) t := fun pins s σ H Q I hw => BoolOp_one (h pins s σ H Q I hw)
theorem md (ha : PE X a ta) (hb : PE X (.BoolOp .And (b :: rest) pos) tb) : PE X (.BoolOp .And (a :: b :: rest) pos) (D3 ta tb) := by
  intro pins s σ H Q I h
  refine BoolOp_and (thn (ha pins s σ H _ I h) fun v s1 ⟨x, H1, I1, r1, q1⟩ => ?_)
  obtain ⟨c, rfl, q1⟩ := q1
  cases r1
  refine wpAny_truthy_bool ?_
  cases c with
  | true => exact hb pins s1 σ H1 Q I1 q1
  | false => exact ⟨.bl false, H1, I1, rfl, q1⟩
theorem AY (ha : PE X a ta) : PE X (.UnaryOp .Not a pos) (DW ta) := by
  intro pins s σ H Q I h
  refine UnaryOp_ (thn (ha pins s σ H _ I h) fun v s1 ⟨x, H1, I1, r1, q1⟩ => ?_)
  obtain ⟨c, rfl, q1⟩ := q1
  cases r1
  exact not_of (wpAny_truthy_bool ⟨.bl (!c), H1, I1, rfl, q1⟩)
end
end L2
namespace L2
open PySem PySem.Spec PyProof.Rows
def SqL (K : PySem.W.Frag) (H : Hp) (a : Addr) (xs : List V) : Prop :=
  Rd H a (.lst xs) ∨
    ∃ (o : Obj) (its : Array Value) (n : Nat), K.lookup a = some o ∧ o.cls = .type "list" ∧ o.dict = none ∧ o.data = .seq its n ∧ its.size ≤ sizeLine ∧ Vals xs its.toList
def SqT (K : PySem.W.Frag) (H : Hp) (a : Addr) (xs : List V) : Prop :=
  Rd H a (.tup xs) ∨
    ∃ (o : Obj) (its : Array Value) (n : Nat), K.lookup a = some o ∧ o.cls = .type "tuple" ∧ o.data = .seq its n ∧ its.size ≤ sizeLine ∧ Vals xs its.toList
def Ir : Value → Option V
  | .none => some .non
  | .bool b => some (.bl b)
  | .int i _ => some (.int i)
  | .str x _ => some (.str x)
  | .bytes b _ => some (.byt b)
  | .float b _ => some (.flt b)
  | .ref a => some (.ref a)
  | .type n => some (.ty n)
  | _ => none
theorem RelV.abs {x : V} {u : Value} (r : RelV x u) : Ir u = some x := by
  cases x with
  | non => cases r; rfl
  | bl _ => cases r; rfl
  | int _ => obtain ⟨t, rfl⟩ := r; rfl
  | str _ => obtain ⟨t, rfl⟩ := r; rfl
  | byt _ => obtain ⟨t, rfl⟩ := r; rfl
  | flt _ => obtain ⟨t, rfl⟩ := r; rfl
  | ref _ => cases r; rfl
  | ty _ => cases r; rfl
theorem RelV.inj {x y : V} {u : Value} (r : RelV x u) (q : RelV y u) : x = y := Option.some.inj (r.abs.symm.trans q.abs)
theorem Vals.inj : ∀ {xs ys : List V} {us : List Value}, Vals xs us → Vals ys us → xs = ys
  | _, _, _, .nil, .nil => rfl
  | _, _, _, .cons r t, .cons r' t' => by rw [r.inj r', Vals.inj t t']
section
variable {X : Cx} {pins : List (Addr × Obj)} {σ : St} {H : Hp} {s : Shared} {a : Addr} {xs ys : List V}
theorem SqL.of {K : PySem.W.Frag} (h : H a = some (.lst xs)) : SqL K H a xs := .inl (.inl h)
theorem SqT.of {K : PySem.W.Frag} (h : H a = some (.tup xs)) : SqT K H a xs := .inl (.inl h)
theorem Inv.list (I : Inv X pins σ H s) (h : SqL X.K H a xs) : ∃ its : List Value, Vals xs its ∧ PlainL s.heap a its.toArray ∧ xs.length ≤ sizeLine := by
  rcases h with h | ⟨o, its, n, hk, hc, hd, hs, hz, r⟩
  · obtain ⟨z, its, n, r, e⟩ := h.ok I.hok
    exact ⟨its, r, ⟨_, n, e, rfl, rfl, rfl⟩, z⟩
  · refine ⟨its.toList, r, ⟨o, n, I.kIn a o hk, hc, hd, by simpa using hs⟩, ?_⟩
    have e := r.length
    simp only [Array.length_toList] at e
    omega
theorem Inv.tuple (I : Inv X pins σ H s) (h : SqT X.K H a xs) : ∃ its : List Value, Vals xs its ∧ IsTup s.heap a its.toArray ∧ xs.length ≤ sizeLine := by
  rcases h with h | ⟨o, its, n, hk, hc, hs, hz, r⟩
  · obtain ⟨z, its, r, p⟩ := h.ok I.hok
    exact ⟨its, r, p, z⟩
  · refine ⟨its.toList, r, ⟨o, I.kIn a o hk, hc, n, by simpa using hs⟩, ?_⟩
    have e := r.length
    simp only [Array.length_toList] at e
    omega
theorem Inv.list_inj (I : Inv X pins σ H s) (h : SqL X.K H a xs) (h' : SqL X.K H a ys) : xs = ys := by
  obtain ⟨its, r, ⟨o, n, e, _, _, d⟩, _⟩ := I.list h
  obtain ⟨its', r', ⟨o', n', e', _, _, d'⟩, _⟩ := I.list h'
  rw [e] at e'; cases e'
  rw [d] at d'
  injection d' with d1 _
  have : its = its' := by simpa using congrArg Array.toList d1
  subst this
  exact r.inj r'
end
abbrev Cx.wish (X : Cx) (E : Value → Shared → Prop) : Cx := { X with xe := E }
abbrev Cx.nox (X : Cx) : Cx := X.wish fun _ _ => False
theorem Cx.Ok.wish {X : Cx} (ok : X.Ok) (E : Value → Shared → Prop) : (X.wish E).Ok :=
  ⟨ok.mod, ok.kind, ok.glob, ok.blt, ok.above, ok.inj, ok.has, ok.cab, ok.hd, ok.frames, ok.stk, ok.exf, ok.bs, ok.bsz, ok.noex, ok.exfs, ok.funs, ok.frf⟩
theorem Cx.Ok.unwish {X : Cx} {E : Value → Shared → Prop} (ok : (X.wish E).Ok) : X.Ok :=
  ⟨ok.mod, ok.kind, ok.glob, ok.blt, ok.above, ok.inj, ok.has, ok.cab, ok.hd, ok.frames, ok.stk, ok.exf, ok.bs, ok.bsz, ok.noex, ok.exfs, ok.funs, ok.frf⟩
section
variable {X : Cx} {pins : List (Addr × Obj)} {σ : St} {H : Hp} {s : Shared} {E : Value → Shared → Prop}
theorem Inv.wish (I : Inv X pins σ H s) (E : Value → Shared → Prop) : Inv (X.wish E) pins σ H s := ⟨I.ok.wish E, I.os, I.bare, I.base, I.loc, I.cell, I.free, I.freeC, I.pin, I.hok, I.len⟩
theorem Inv.unwish (I : Inv (X.wish E) pins σ H s) : Inv X pins σ H s := ⟨I.ok.unwish, I.os, I.bare, I.base, I.loc, I.cell, I.free, I.freeC, I.pin, I.hok, I.len⟩
theorem SP.unwish {D : Ends} {f : Flow} {s' : Shared} (h : SP (X.wish E) pins D f s') : SP X pins D f s' := by
  cases f with
  | next => obtain ⟨σ', H', I, q⟩ := h; exact ⟨σ', H', I.unwish, q⟩
  | brk => obtain ⟨σ', H', I, q⟩ := h; exact ⟨σ', H', I.unwish, q⟩
  | cont => obtain ⟨σ', H', I, q⟩ := h; exact ⟨σ', H', I.unwish, q⟩
  | ret u => obtain ⟨v, σ', H', I, r, q⟩ := h; exact ⟨v, σ', H', I.unwish, r, q⟩
theorem PE.nox {e : Expr} {t : TE} (h : PE X.nox e t) : PE X e t := fun pins s σ H Q I hw =>
  wpAny_mono (h pins s σ H Q (I.wish _) hw) (fun _ _ ⟨v, H', I', r, q⟩ => ⟨v, H', I'.unwish, r, q⟩) fun _ _ z => False.elim z
theorem PT.nox {e : Expr} {t : TT} (h : PT X.nox e t) : PT X e t := fun pins s σ H Q I hw =>
  wpAny_mono (h pins s σ H Q (I.wish _) hw) (fun _ _ ⟨H', I', q⟩ => ⟨H', I'.unwish, q⟩) fun _ _ z => False.elim z
theorem PSs.nox {st : List Stmt} {t : TS} (h : PSs X.nox st t) : PSs X st t := fun pins s σ H D I hw =>
  wpAny_mono (h pins s σ H D (I.wish _) hw) (fun _ _ q => q.unwish) fun _ _ z => False.elim z
end
section
variable {X : Cx} {st : Stmt} {rest : List Stmt} {t u : TS} {e : Expr} {te : TE} {pos : Pos}
def DT : TS := fun D σ H => D.nx σ H
def FY (t u : TS) : TS := fun D σ H => t { D with nx := u D } σ H
theorem b9 : PSs X [] DT := fun _ _ σ H _ I h => wpAny_execs_nil ⟨σ, H, I, h⟩
theorem ax (h1 : PS X st t) (h2 : PSs X rest u) : PSs X (st :: rest) (FY t u) := by
  intro pins s σ H D I h
  refine wpAny_execs_cons (thn (h1 pins s σ H { D with nx := u D } I h) fun f s1 q => ?_)
  cases f with
  | next =>
    obtain ⟨σ', H', I', q⟩ := q
    exact h2 pins s1 σ' H' D I' q
  | ret v => exact q
  | brk => exact q
  | cont => exact q
theorem aI (h1 : PS X st t) : PSs X [st] t := by
  intro pins s σ H D I h
  refine wpAny_execs_cons (thn (h1 pins s σ H D I h) fun f s1 q => ?_)
  cases f with
  | next => exact wpAny_execs_nil q
  | ret v => exact q
  | brk => exact q
  | cont => exact q
theorem Inv.quiet {pins : List (Addr × Obj)} {σ : St} {H : Hp} {s : Shared} (I : Inv X pins σ H s) : interactive X.env = false := by simp [interactive, I.ok.kind]
def DX (te : TE) : TS := fun D σ H => te σ H fun _ H1 => D.nx σ H1
theorem iN (he : PE X e te) (hs : swapsWith e none pos.line X.env = pure false := by rfl) : PS X (.Expr e pos) (DX te) := by
  intro pins s σ H D I h
  exact wpAny_Expr_any (thn (he pins s σ H _ I h) fun v s1 ⟨x, H1, I1, r1, q1⟩ => ⟨σ, H1, I1, q1⟩) I.quiet hs
def FE (te : TE) : TS := fun D σ H => te σ H D.rt
theorem bg (he : PE X e te) : PS X (.Return (some e) pos) (FE te) := by
  intro pins s σ H D I h
  exact wpAny_Return_some (thn (he pins s σ H _ I h) fun v s1 ⟨x, H1, I1, r1, q1⟩ => ⟨x, σ, H1, I1, r1, q1⟩)
def Gj (c : TT) (t u : TS) : TS := fun D σ H => c σ H fun b H1 => if b = true then t D σ H1 else u D σ H1
theorem di {c : Expr} {a b : List Stmt} {tc : TT} (hc : PT X c tc) (ha : PSs X a t) (hb : PSs X b u) : PS X (.If c a b pos) (Gj tc t u) := by
  intro pins s σ H D I h
  refine wpAny_If (thn (hc pins s σ H _ I h) fun d s1 ⟨H1, I1, q1⟩ => ?_)
  cases d with
  | true => exact ha pins s1 σ H1 D I1 q1
  | false => exact hb pins s1 σ H1 D I1 q1
def B7 : TS := fun _ _ _ => False
theorem lU : PS X st B7 := fun _ _ _ _ _ _ h => h.elim
end
abbrev TG := V → St → Hp → (St → Hp → Prop) → Prop
abbrev TGs := List V → St → Hp → (St → Hp → Prop) → Prop
def PG (X : Cx) (target : Expr) (t : TG) : Prop :=
  ∀ (pins : List (Addr × Obj)) (s : Shared) (σ : St) (H : Hp) (v : V) (u : Value) (Q : St → Hp → Prop), Inv X pins σ H s → RelV v u → t v σ H Q →
    wpAny (model X.prog X.w) X.A (assign target X.env u) (fun _ s' => ∃ σ' H', Inv X pins σ' H' s' ∧ Q σ' H') X.xe s
def PGs (X : Cx) (ts : List Expr) (t : TGs) : Prop :=
  ∀ (pins : List (Addr × Obj)) (s : Shared) (σ : St) (H : Hp) (vs : List V) (us : List Value) (Q : St → Hp → Prop), Inv X pins σ H s → Vals vs us → t vs σ H Q →
    wpAny (model X.prog X.w) X.A (assignInOrder ((assignEach ts X.env).map (·.2)) us) (fun _ s' => ∃ σ' H', Inv X pins σ' H' s' ∧ Q σ' H') X.xe s
abbrev DI := V → V → V → Hp → (Hp → Prop) → Prop
def GH (X : Cx) (t : DI) : Prop :=
  ∀ (pins : List (Addr × Obj)) (s : Shared) (σ : St) (H : Hp) (o i v : V) (ov iv u : Value) (Q : Hp → Prop), Inv X pins σ H s → RelV o ov → RelV i iv → RelV v u → t o i v H Q →
    wpAny (model X.prog X.w) X.A (setItem ov iv u) (fun _ s' => ∃ H', Inv X pins σ H' s' ∧ Q H') X.xe s
section
variable {X : Cx} {pos : Pos}
def qA (i : Nat) : TG := fun v σ H Q => Q (σ.set i (some v)) H
theorem aQ {i : Nat} {x : Str} (hN : X.N.Nodup) (hi : X.N[i]? = some x) (hx : Loc X.env.scope x) (hf : X.fn x = true ∨ X.env.scope.names.lookup x = some .local := by first | exact .inl rfl | exact .inr rfl | assumption) : PG X (.Name x pos) (qA i) := by
  intro pins s σ H v u Q I r h
  exact wpAny_assign_Name (we I hN hi hx r (fun s' I' => ⟨_, H, I', h⟩) hf)
def FC : TGs := fun vs σ H Q => vs = [] ∧ Q σ H
def D8 (t : TG) (u : TGs) : TGs := fun vs σ H Q => ∃ v r, vs = v :: r ∧ t v σ H fun σ' H' => u r σ' H' Q
theorem fB : PGs X [] FC := by
  intro pins s σ H vs us Q I r h
  obtain ⟨e, h⟩ := h
  subst e
  cases r
  exact assignInOrder_nil ⟨σ, H, I, h⟩
theorem bM {e : Expr} {es : List Expr} {t : TG} {u : TGs} (h1 : PG X e t) (h2 : PGs X es u)
    (hs : (assignEach (e :: es) X.env).map (·.2) = assign e X.env :: (assignEach es X.env).map (·.2) := by rfl) : PGs X (e :: es) (D8 t u) := by
  intro pins s σ H vs us Q I r h
  obtain ⟨v, vr, e1, h⟩ := h
  subst e1
  cases r with
  | cons r rr =>
    rw [hs]
    refine assignInOrder_cons (thn (h1 pins s σ H _ _ _ I r h) fun _ s1 ⟨σ1, H1, I1, q1⟩ => ?_)
    exact h2 pins s1 σ1 H1 _ _ Q I1 rr q1
def FN (K : PySem.W.Frag) (n : Nat) (t : TGs) : TG := fun v σ H Q => ∃ a xs, v = .ref a ∧ SqT K H a xs ∧ xs.length = n ∧ t xs σ H Q
theorem gK {es : List Expr} {k : Nat} {t : TGs} {n : Nat} (hc : X.calm = true) (h : PGs X es t)
    (hn : (assignEach es X.env).length = n := by rfl) (hst : (assignEach es X.env).findIdx? (·.1) = none := by rfl) : PG X (.Tuple es k pos) (FN X.K n t) := by
  intro pins s σ H v u Q I r hw
  obtain ⟨a, xs, e1, hq, hl, hw⟩ := hw
  subst e1
  cases r
  obtain ⟨its, rv, ht, hz⟩ := I.tuple hq
  refine assign_Tuple_tuple (I.ok.hd hc) ht (by simp [hn, ← hl, rv.length]) hst fun h' hx => ?_
  have I1 : Inv X pins σ H { s with heap := h' } := I.kept (t' := s.toks) fun b o e => hx b o (Nat.ne_of_lt (Heap.lt_size e)) e
  exact h pins _ σ H xs _ Q I1 (by simpa using rv) hw
def GB (to ti : TE) (t : DI) : TG := fun v σ H Q => to σ H fun o H1 => ti σ H1 fun i H2 => t o i v H2 fun H3 => Q σ H3
theorem tG {o i : Expr} {to ti : TE} {t : DI} (ho : PE X o to) (hi : PE X i ti) (hs : GH X t)
    (ha : ∀ v, assign (.Subscript o i pos) X.env v = (do
      let ov ← holding [v] (eval o X.env)
      let iv ← holding [v, ov] (eval i X.env)
      standAt pos
      holding [v, ov, iv] (setItem ov iv v)
      release [v, ov, iv] []) := by intro _; rfl) : PG X (.Subscript o i pos) (GB to ti t) := by
  intro pins s σ H v u Q I r h
  rw [ha]
  refine wpAny_bind (wpAny_holding (thn (ho pins s σ H _ I h) fun ov s1 ⟨x, H1, I1, r1, q1⟩ => ?_))
  refine wpAny_bind (wpAny_holding (thn (hi pins s1 σ H1 _ I1 q1) fun iv s2 ⟨y, H2, I2, r2, q2⟩ => ?_))
  refine wpAny_bind (wpAny_standAt (wpAny_bind (wpAny_holding (thn (hs pins s2 σ H2 x y v ov iv u _ I2 r1 r2 r q2) fun _ s3 ⟨H3, I3, q3⟩ => ?_))))
  exact wpAny_release ⟨σ, H3, I3, q3⟩
def vV (te : TE) (g : TG) : TS := fun D σ H => te σ H fun x H1 => g x σ H1 D.nx
theorem tL {tg e : Expr} {te : TE} {g : TG} (he : PE X e te) (hg : PG X tg g) (hs : swapsWithSole [tg] e pos.line X.env = pure false := by rfl) (hw : swappedStores [tg] e X.env = pure none := by rfl)
    (h1 : (assignEach [tg] X.env).map (·.2) = [assign tg X.env] := by rfl) : PS X (.Assign [tg] e pos) (vV te g) := by
  intro pins s σ H D I h
  refine wpAny_Assign_stores (thn (he pins s σ H _ I h) fun v s1 ⟨x, H1, I1, r1, q1⟩ => ?_) hs hw
  rw [h1]
  exact thn (hg pins s1 σ H1 x v _ I1 r1 q1) fun _ s2 q => q
theorem aT {i : Nat} {x : Str} {e : Expr} {te : TE} {pos' : Pos} (hN : X.N.Nodup) (hi : X.N[i]? = some x) (hx : Loc X.env.scope x) (he : PE X e te) (hs : swapsWith e (some (.Name x pos')) pos.line X.env = pure false := by rfl) (hf : X.fn x = true ∨ X.env.scope.names.lookup x = some .local := by first | exact .inl rfl | exact .inr rfl | assumption) :
    PS X (.Assign [.Name x pos'] e pos) (vV te (qA i)) := by
  intro pins s σ H D I h
  refine wpAny_Assign_Name (thn (he pins s σ H _ I h) fun v s1 ⟨y, H1, I1, r1, q1⟩ => ?_) hs
  exact we I1 hN hi hx r1 (fun s2 I2 => ⟨_, H1, I2, q1⟩) hf
end
section
variable {X : Cx} {pos : Pos}
def BJ (c : TT) (tb : TS) : TS := fun D σ H => ∃ W : Nat → St → Hp → Prop, (∃ m, W m σ H) ∧ ∀ m σ H, W m σ H →
  c σ H fun b H1 => if b = true then ∃ N : St → Hp → Prop, (∀ σ' H', N σ' H' → ∃ m', m' < m ∧ W m' σ' H') ∧ tb { D with nx := N, ct := N, bk := D.nx } σ H1 else D.nx σ H1
theorem wJ {c : Expr} {body : List Stmt} {tc : TT} {tb : TS} (hp : PassesOwn (model X.prog X.w) X.A X.env X.xe) (hc : PT X c tc) (hb : PSs X body tb) : PS X (.While c body [] pos) (BJ tc tb) := by
  intro pins s σ H D I h
  obtain ⟨W, ⟨m0, w0⟩, turn⟩ := h
  refine wpAny_While (codeAny_whileLoop (fun n s' => ∃ σ' H', Inv X pins σ' H' s' ∧ W n σ' H') ?_ m0 ⟨σ, H, I, w0⟩)
  rintro n s1 ⟨σ1, H1, I1, w1⟩
  refine wpAny_passesOwn hp (thn (hc pins s1 σ1 H1 _ I1 (turn n σ1 H1 w1)) fun b s2 ⟨H2, I2, q2⟩ => ?_)
  cases b with
  | true =>
    obtain ⟨N, hN, q2⟩ := q2
    rw [if_pos rfl]
    refine wpAny_passesOwn hp (thn (hb pins s2 σ1 H2 _ I2 q2) fun f s3 q3 => ?_)
    cases f with
    | next =>
      obtain ⟨σ3, H3, I3, n3⟩ := q3
      obtain ⟨m', hm, w3⟩ := hN σ3 H3 n3
      exact ⟨m', hm, σ3, H3, I3, w3⟩
    | cont =>
      obtain ⟨σ3, H3, I3, n3⟩ := q3
      obtain ⟨m', hm, w3⟩ := hN σ3 H3 n3
      exact ⟨m', hm, σ3, H3, I3, w3⟩
    | brk => exact q3
    | ret v => exact q3
  | false =>
    rw [if_neg Bool.false_ne_true]
    exact wpAny_execs_nil ⟨σ1, H2, I2, q2⟩
end
structure It where
  go : Nat → Hp → Prop
  yld : Nat → Hp → V → Hp → Prop
  stop : Nat → Hp → Prop
def kc (X : Cx) (pins : List (Addr × Obj)) (H : Hp) (b : Addr) : Prop :=
  H b = none ∧ b ≠ X.env.locals ∧ b ∉ X.fs ∧ (b ∈ X.ex ∨ X.s₀.heap.objs.size ≤ b) ∧ (∀ x c, X.env.cells.lookup x = some c → c ≠ b) ∧ ∀ p ∈ X.pn ++ pins, p.1 ≠ b
theorem Inv.fpOk {X : Cx} {pins : List (Addr × Obj)} {σ : St} {H H' : Hp} {s : Shared} {b : Addr} (I : Inv X pins σ H s) (hb : s.heap.objs.size ≤ b) (hn : H' b = none) : kc X pins H' b := by
  refine ⟨hn, Nat.ne_of_gt (Nat.lt_of_lt_of_le I.lt hb), I.nofs hb, .inr (Nat.le_trans I.sz hb), fun x c e z => ?_, fun p hp z => ?_⟩
  · obtain ⟨v, q⟩ := I.cell x c e
    exact absurd (Nat.lt_of_lt_of_le q.lt (by rw [z]; exact hb)) (Nat.lt_irrefl _)
  · exact absurd (Nat.lt_of_lt_of_le (Heap.lt_size (I.pin p hp).1) (by rw [z]; exact hb)) (Nat.lt_irrefl _)
structure Turn (P : Program) (w : World) (K : PySem.W.Frag) (tg : Expr) (J : It) (fp : List Addr) (it : Addr) (tn : Nat → Heap → Prop) : Prop where
  mem : it ∈ fp
  obj : ∀ i h, tn i h → ∀ b ∈ fp, ∃ o, h.get? b = some o ∧ ∀ v, o.data ≠ .cell v
  keep : ∀ i h h', tn i h → (∀ b ∈ fp, ∀ o, h.get? b = some o → h'.get? b = some o) → tn i h'
  item : ∀ (X : Cx), X.prog = P → X.w = w → X.K = K → X.calm = true → ∀ (i : Nat) (pins : List (Addr × Obj)) (s : Shared) (σ : St) (H : Hp) (E : Value → Shared → Prop), Inv X pins σ H s → (∀ b ∈ fp, kc X pins H b) → tn i s.heap → J.go i H →
    wpAny (model P w) X.A (pyNext (.ref it)) (fun r s1 => ∃ u, r = some u ∧
      wpAny (model P w) X.A (letOwnedTupleGo tg (.ref it) u) (fun _ s2 => ∃ x H', Inv X pins σ H' s2 ∧ RelV x u ∧ J.yld i H x H' ∧ tn (i + 1) s2.heap ∧ ∀ b ∈ fp, H' b = none) E s1) E s
  done : ∀ (X : Cx), X.prog = P → X.w = w → X.K = K → X.calm = true → ∀ (i : Nat) (pins : List (Addr × Obj)) (s : Shared) (σ : St) (H : Hp) (E : Value → Shared → Prop), Inv X pins σ H s → (∀ b ∈ fp, kc X pins H b) → tn i s.heap → J.stop i H →
    wpAny (model P w) X.A (pyNext (.ref it)) (fun r s1 => r = none ∧ Inv X pins σ H s1) E s
  self : ∀ (A : Around) (i : Nat) (s : Shared) (Q : Value → Shared → Prop) (E : Value → Shared → Prop), tn i s.heap → Q (.ref it) s → wpAny (model P w) A (pyIter (.ref it)) Q E s
abbrev TI := St → Hp → (It → Hp → Prop) → Prop
def PIE (X : Cx) (pins : List (Addr × Obj)) (σ : St) (tg : Expr) (R : It → Hp → Prop) (itv : Value) (s2 : Shared) : Prop :=
  ∃ (it : Addr) (fp : List Addr) (tn : Nat → Heap → Prop) (J : It) (H' : Hp), itv = .ref it ∧ Inv X pins σ H' s2 ∧ Turn X.prog X.w X.K tg J fp it tn ∧ tn 0 s2.heap ∧ (∀ b ∈ fp, kc X pins H' b) ∧ R J H'
def PI (X : Cx) (tg iter : Expr) (wi : TI) : Prop :=
  ∀ (pins : List (Addr × Obj)) (s : Shared) (σ : St) (H : Hp) (R : It → Hp → Prop), Inv X pins σ H s → wi σ H R →
    wpAny (model X.prog X.w) X.A (eval iter X.env) (fun v s1 => wpAny (model X.prog X.w) X.A (pyIter v) (PIE X pins σ tg R) X.xe s1) X.xe s
theorem DQ {M : Model} {A : Around} {E : Value → Shared → Prop} {s : Shared} {tg : Expr} {it : Addr} {u : Value} {o : Obj} {n : String} {vs : Array Value} {Q : Unit → Shared → Prop} (ho : s.heap.get? it = some o) (hc : o.cls = .type n) (hd : o.data = .fields vs)
    (hn : ["enumerate", "zip", "dict_itemiterator", "dict_reverseitemiterator", "odict_iterator", "itertools.zip_longest", "itertools.pairwise"].contains n = false) (hQ : Q () s) : wpAny M A (letOwnedTupleGo tg (.ref it) u) Q E s := by
  unfold letOwnedTupleGo
  cases tg <;> first
    | exact wpAny_pure hQ
    | (cases u <;> first
        | exact wpAny_pure hQ
        | (refine wpAny_bind (wpAny_load ho ?_)
           rw [hc, hd]
           show wpAny M A (if (["enumerate", "zip", "dict_itemiterator", "dict_reverseitemiterator", "odict_iterator", "itertools.zip_longest", "itertools.pairwise"].contains n && vs[0]? == some (rawInt _)) = true then _ else _) Q E s
           rw [if_neg (by intro h; rw [hn, Bool.false_and] at h; cases h)]
           exact wpAny_pure hQ))
def Itl (K : PySem.W.Frag) (a : Addr) : It :=
  ⟨fun i H => ∃ xs x, SqL K H a xs ∧ xs[i]? = some x, fun i H x H' => H' = H ∧ ∀ xs, SqL K H a xs → xs[i]? = some x, fun i H => ∃ xs, SqL K H a xs ∧ xs.length ≤ i⟩
def Itr (lo : Int) (n : Nat) : It := ⟨fun i _ => i < n, fun i H x H' => H' = H ∧ x = .int (lo + i), fun i _ => n ≤ i⟩
theorem AJ {P : Program} {w : World} {K : PySem.W.Frag} {tg : Expr} (a it : Addr) : Turn P w K tg (Itl K a) [it] it (fun i h => h.IsListIter it a i) where
  mem := by simp
  obj := fun i h st b hb => by
    have e : b = it := by simpa using hb
    subst e
    obtain ⟨o, e, c, d⟩ := st
    exact ⟨o, e, fun v z => by rw [d] at z; cases z⟩
  keep := fun i h h' st k => st.at fun o e => k it (by simp) o e
  item := by
    intro X hP hw hK hc i pins s σ H E I hf st hg
    subst hP hw hK
    obtain ⟨xs, x, hq, hx⟩ := hg
    obtain ⟨its, rv, p, hz⟩ := I.list hq
    obtain ⟨u, hu, ru⟩ := rv.get hx
    obtain ⟨f0, f1, f2, f3, f4, f5⟩ := hf it (by simp)
    refine wpAny_pyNext_list_item st p.isList (x := u) (by simpa using hu) fun h' st' sb => ?_
    have I1 : Inv X pins σ H { s with heap := h' } := I.turned (t' := s.toks) (fun b o hb e => (sb.2 b hb).trans e) f0 f1 f3 f4 f5
    obtain ⟨o, e, c, d⟩ := id st'
    exact ⟨u, rfl, DQ (s := { s with heap := h' }) e c d (by decide) ⟨x, H, I1, ru, ⟨rfl, fun ys hy => by rw [I.list_inj hy hq]; exact hx⟩, st', fun b hb => (hf b hb).1⟩⟩
  done := by
    intro X hP hw hK hc i pins s σ H E I hf st hg
    subst hP hw hK
    obtain ⟨xs, hq, hx⟩ := hg
    obtain ⟨its, rv, p, hz⟩ := I.list hq
    obtain ⟨f0, f1, f2, f3, f4, f5⟩ := hf it (by simp)
    have hl := rv.length
    exact wpAny_pyNext_list_end (I.ok.hd hc) st p.isList (by simp; omega) fun h' eb => ⟨rfl, I.turned (t' := s.toks) (fun b o hb e => eb b o hb e) f0 f1 f3 f4 f5⟩
  self := fun _ _ _ _ _ st h => wpAny_pyIter_listiter st h
theorem Ak {P : Program} {w : World} {K : PySem.W.Frag} {tg : Expr} (it : Addr) (lo : Int) (n : Nat) : Turn P w K tg (Itr lo n) [it] it (fun i h => IsRangeIter h it (lo + (i : Nat) * 1) ((n : Int) - (i : Nat)) 1) where
  mem := by simp
  obj := fun i h st b hb => by
    have e : b = it := by simpa using hb
    subst e
    exact ⟨_, st, fun v z => by
      have z' : Data.fields _ = Data.cell v := z
      cases z'⟩
  keep := fun i h h' st k => k it (by simp) _ st
  item := by
    intro X hP hw hK hc i pins s σ H E I hf st hg
    subst hP hw hK
    obtain ⟨f0, f1, f2, f3, f4, f5⟩ := hf it (by simp)
    have W := Walks.range (prog := X.prog) (w := X.w) (I.ok.hd hc) it lo 1 n
    refine W.item i s _ _ hg st fun v h' tk hv st' kk => ?_
    obtain ⟨t, rfl⟩ := hv
    have I1 : Inv X pins σ H { s with heap := h', toks := tk } := I.turned (fun b o hb e => kk b o (by simpa using hb) e) f0 f1 f3 f4 f5
    refine ⟨_, rfl, DQ (s := { s with heap := h', toks := tk }) (n := "range_iterator") st' rfl rfl (by decide) ⟨.int (lo + i), H, I1, ⟨t, ?_⟩, ⟨rfl, rfl⟩, st', fun b hb => (hf b hb).1⟩⟩
    rw [Int.mul_one]
  done := by
    intro X hP hw hK hc i pins s σ H E I hf st hg
    subst hP hw hK
    obtain ⟨f0, f1, f2, f3, f4, f5⟩ := hf it (by simp)
    exact wpAny_pyNext_range_end (I.ok.hd hc) st (by have : n ≤ i := hg; omega) fun h' eb => ⟨rfl, I.turned (t' := s.toks) (fun b o hb e => eb b o hb e) f0 f1 f3 f4 f5⟩
  self := fun _ _ _ _ _ st h => wpAny_pyIter_rangeiter st h
end L2
namespace L2
open PySem PySem.Spec PyProof.Rows
section
variable {X : Cx} {tg : Expr}
def DY (K : PySem.W.Frag) (tl : TE) : TI := fun σ H R => tl σ H fun x H1 => ∃ a, x = .ref a ∧ (∃ xs, SqL K H1 a xs) ∧ R (Itl K a) H1
theorem bH {l : Expr} {tl : TE} (hl : PE X l tl) : PI X tg l (DY X.K tl) := by
  intro pins s σ H R I h
  refine thn (hl pins s σ H _ I h) fun v s1 ⟨x, H1, I1, r1, q1⟩ => ?_
  obtain ⟨a, e, ⟨xs, hq⟩, q⟩ := q1
  subst e
  cases r1
  obtain ⟨its, rv, p, hz⟩ := I1.list hq
  refine wpAny_pyIter_list p.isList ?_
  refine ⟨s1.heap.objs.size, [s1.heap.objs.size], _, _, H1, rfl, I1.kept (t' := s1.toks) fun b o e => Heap.get?_push_of_some _ e, AJ a _, ⟨_, Heap.get?_push_size _ rfl, rfl, rfl⟩, fun b hb => ?_, q⟩
  have e : b = s1.heap.objs.size := by simpa using hb
  subst e
  exact I1.fpOk (Nat.le_refl _) (I1.hok.fresh (Nat.le_refl _))
theorem wC {pins : List (Addr × Obj)} {σ : St} {H : Hp} {s : Shared} {R : It → Hp → Prop} {E : Value → Shared → Prop} {lo hi : Int} {t u v : Tok} {tk : Nat} (I : Inv X pins σ H s) (h1 : -(2 ^ 62) ≤ lo) (h2 : lo < 2 ^ 62) (h3 : -(2 ^ 62) ≤ hi) (h4 : hi < 2 ^ 62)
    (q : R (Itr lo (hi - lo).toNat) H) : wpAny (model X.prog X.w) X.A (pyIter (.ref s.heap.objs.size)) (PIE X pins σ tg R) E { s with heap := s.heap.push { cls := .type "range", data := .fields #[.int lo t, .int hi u, .int 1 v] }, toks := tk } := by
  refine wpAny_pyIter_range (IsRange.new ..) (small_one h1 h2 h3 h4) ?_
  have I1 : Inv X pins σ H { s with heap := s.heap.push { cls := .type "range", data := .fields #[.int lo t, .int hi u, .int 1 v] }, toks := tk } := I.kept fun b o e => Heap.get?_push_of_some _ e
  refine ⟨(s.heap.push { cls := .type "range", data := .fields #[.int lo t, .int hi u, .int 1 v] }).objs.size, [(s.heap.push { cls := .type "range", data := .fields #[.int lo t, .int hi u, .int 1 v] }).objs.size], _, _, H, rfl,
    I1.kept (t' := tk) fun b o e => Heap.get?_push_of_some _ e, Ak _ lo (hi - lo).toNat, ?_, fun b hb => ?_, q⟩
  · have e1 : lo + ((0 : Nat) : Int) * 1 = lo := by simp
    have e2 : (((hi - lo).toNat : Nat) : Int) - ((0 : Nat) : Int) = Builtin.Range.rangeSize lo hi 1 := by rw [rangeSize_one]; split <;> omega
    show IsRangeIter _ _ (lo + ((0 : Nat) : Int) * 1) ((((hi - lo).toNat : Nat) : Int) - ((0 : Nat) : Int)) 1
    rw [e1, e2]
    exact Heap.get?_push_size _ rfl
  · have e : b = (s.heap.push { cls := .type "range", data := .fields #[.int lo t, .int hi u, .int 1 v] }).objs.size := by simpa using hb
    subst e
    exact I1.fpOk (Nat.le_refl _) (I1.hok.fresh (Nat.le_refl _))
def D2 (ta : TA) : TI := fun σ H R => ta σ H fun vs H1 => ∃ j : Int, vs = [.int j] ∧ -(2 ^ 62) ≤ j ∧ j < 2 ^ 62 ∧ R (Itr 0 j.toNat) H1
def DZ (ta : TA) : TI := fun σ H R => ta σ H fun vs H1 => ∃ i j : Int, vs = [.int i, .int j] ∧ (-(2 ^ 62) ≤ i ∧ i < 2 ^ 62 ∧ -(2 ^ 62) ≤ j ∧ j < 2 ^ 62) ∧ R (Itr i (j - i).toNat) H1
theorem jA {a : Expr} {ta : TA} {p pos : Pos} (hg : Gl X "range") (hm : X.mg "range" = none) (ha : PA X [a] ta) (hs : starEach [a] X.env = [(false, eval a X.env)] := by rfl) : PI X tg (.Call (.Name "range" p) [a] [] pos) (D2 ta) := by
  intro pins s σ H R I h
  refine Call_ (mv I hg hm boot_range (PyProof.Rows.callWith_type1 (thn (ha pos pins s σ H _ I h) fun us s1 ⟨vs, H1, I1, r1, q1⟩ => ?_) hs rfl))
  obtain ⟨j, e, q1, q2, q⟩ := q1
  subst e
  cases r1 with
  | cons r rr =>
    cases rr
    obtain ⟨t, rfl⟩ := r
    exact call_range_1 (wC I1 (by omega) (by omega) q1 q2 (by simpa using q))
theorem Bg {a b : Expr} {ta : TA} {p pos : Pos} (hg : Gl X "range") (hm : X.mg "range" = none) (ha : PA X [a, b] ta) (hs : starEach [a, b] X.env = [(false, eval a X.env), (false, eval b X.env)] := by rfl) (hs2 : starEach [b] X.env = [(false, eval b X.env)] := by rfl) :
    PI X tg (.Call (.Name "range" p) [a, b] [] pos) (DZ ta) := by
  intro pins s σ H R I h
  refine Call_ (mv I hg hm boot_range (PyProof.Rows.callWith_type1 (thn (ha pos pins s σ H _ I h) fun us s1 ⟨vs, H1, I1, r1, q1⟩ => ?_) (by rw [hs, hs2]) (by rw [hs2]; rfl)))
  obtain ⟨i, j, e, ⟨q1, q2, q3, q4⟩, q⟩ := q1
  subst e
  cases r1 with
  | cons r rr =>
    cases rr with
    | cons r' rr =>
      cases rr
      obtain ⟨t, rfl⟩ := r
      obtain ⟨t', rfl⟩ := r'
      exact call_range_2 (wC I1 q1 q2 q3 q4 q)
def GG (wi : TI) (g : TG) (tb : TS) : TS := fun D σ H => wi σ H fun J H1 => ∃ W : Nat → Nat → St → Hp → Prop, (∃ m, W 0 m σ H1) ∧ ∀ i m σ H, W i m σ H →
  (J.stop i H ∧ D.nx σ H) ∨ (J.go i H ∧ ∃ N : St → Hp → Prop, (∀ σ' H', N σ' H' → ∃ m', m' < m ∧ W (i + 1) m' σ' H') ∧ ∀ x H', J.yld i H x H' → g x σ H' fun σ2 H2 => tb { D with nx := N, ct := N, bk := D.nx } σ2 H2)
def p7 (fp : List Addr) (h : Heap) : List (Addr × Obj) := fp.filterMap fun b => (h.get? b).map fun o => (b, o)
theorem lu {fp : List Addr} {h : Heap} {b : Addr} {o : Obj} (hb : b ∈ fp) (e : h.get? b = some o) : (b, o) ∈ p7 fp h := List.mem_filterMap.mpr ⟨b, hb, by rw [e]; rfl⟩
theorem Bw {fp : List Addr} {h : Heap} {p : Addr × Obj} (hp : p ∈ p7 fp h) : p.1 ∈ fp ∧ h.get? p.1 = some p.2 := by
  obtain ⟨b, hb, e⟩ := List.mem_filterMap.mp hp
  cases q : h.get? b with
  | none => rw [q] at e; cases e
  | some o =>
    rw [q] at e
    have e' : (b, o) = p := Option.some.inj e
    subst e'
    exact ⟨hb, q⟩
theorem Inv.pinned {pins : List (Addr × Obj)} {σ : St} {H : Hp} {s : Shared} {fp : List Addr} (I : Inv X pins σ H s) (hf : ∀ b ∈ fp, kc X pins H b) (ho : ∀ b ∈ fp, ∃ o, s.heap.get? b = some o ∧ ∀ v, o.data ≠ .cell v) : Inv X (pins ++ p7 fp s.heap) σ H s :=
  I.pins_of fun p hp => (List.mem_append.mp hp).elim (fun z => I.pin p (List.mem_append_right _ z)) fun z => by
    obtain ⟨hb, e⟩ := Bw z
    obtain ⟨f0, f1, f2, _⟩ := hf p.1 hb
    obtain ⟨o, e', d⟩ := ho p.1 hb
    rw [e] at e'; cases e'
    exact ⟨e, f0, f1, f2, d⟩
theorem Inv.unpinned {pins pl : List (Addr × Obj)} {σ : St} {H : Hp} {s : Shared} (I : Inv X (pins ++ pl) σ H s) : Inv X pins σ H s := I.pins_of fun p hp => I.pin p (List.mem_append_right _ (List.mem_append_left _ hp))
theorem d0 {iter : Expr} {body : List Stmt} {wi : TI} {g : TG} {tb : TS} {pos : Pos} (hp : PassesOwn (model X.prog X.w) X.A X.env X.xe) (hc : X.calm = true) (hi : PI X tg iter wi) (hg : PG X tg g) (hb : PSs X body tb)
    (hs : ∀ x, foldedSetIterable iter X.env x = pure x := by intro _; rfl) : PS X (.For tg iter body [] pos) (GG wi g tb) := by
  intro pins s σ H D I h
  refine wpAny_For (thn (hi pins s σ H _ I h) fun v s1 h1 => thn h1 fun itv s2 h2 => ?_) hs
  obtain ⟨it, fp, tn, J, H2, e, I2, T, st2, f2, W, ⟨m0, w0⟩, turn⟩ := h2
  subst e
  have stat : ∀ {H' : Hp}, (∀ b ∈ fp, H' b = none) → ∀ b ∈ fp, kc X pins H' b := fun hn b hb => ⟨hn b hb, (f2 b hb).2⟩
  refine codeAny_forLoop_any (fun n s' => ∃ i σ' H', Inv X pins σ' H' s' ∧ tn i s'.heap ∧ (∀ b ∈ fp, H' b = none) ∧ W i n σ' H') ?_ m0 ⟨0, σ, H2, I2, st2, fun b hb => (f2 b hb).1, w0⟩
  rintro n s3 ⟨i, σ3, H3, I3, st3, fr3, w3⟩
  rcases turn i n σ3 H3 w3 with ⟨stop, qn⟩ | ⟨go, N, hN, step⟩
  · refine wpAny_passesOwn hp (thn (T.done X rfl rfl rfl hc i pins s3 σ3 H3 X.xe I3 (stat fr3) st3 stop) fun r s4 ⟨hr, I4⟩ => ?_)
    subst hr
    exact wpAny_execs_nil ⟨σ3, H3, I4, qn⟩
  · refine wpAny_passesOwn hp (thn (T.item X rfl rfl rfl hc i pins s3 σ3 H3 X.xe I3 (stat fr3) st3 go) fun r s4 ⟨u, hr, h4⟩ => ?_)
    subst hr
    refine wpAny_passesOwn hp (thn h4 fun _ s5 ⟨x, H5, I5, r5, y5, st5, fr5⟩ => ?_)
    have I5' := I5.pinned (stat fr5) (T.obj _ _ st5)
    refine wpAny_passesOwn hp (thn (hg _ s5 σ3 H5 x u _ I5' r5 (step x H5 y5)) fun _ s6 ⟨σ6, H6, I6, q6⟩ => ?_)
    refine wpAny_passesOwn hp (thn (hb _ s6 σ6 H6 _ I6 q6) fun f s7 q7 => ?_)
    have again : ∀ {σ7 : St} {H7 : Hp}, Inv X (pins ++ p7 fp s5.heap) σ7 H7 s7 → N σ7 H7 → ∃ m, m < n ∧ ∃ i σ' H', Inv X pins σ' H' s7 ∧ tn i s7.heap ∧ (∀ b ∈ fp, H' b = none) ∧ W i m σ' H' := fun {σ7 H7} I7 n7 => by
      obtain ⟨m', hm, w7⟩ := hN σ7 H7 n7
      refine ⟨m', hm, i + 1, σ7, H7, I7.unpinned, T.keep _ _ _ st5 fun b hb o e => (I7.pin (b, o) (List.mem_append_right _ (List.mem_append_right _ (lu hb e)))).1, fun b hb => ?_, w7⟩
      obtain ⟨o, e, d⟩ := T.obj _ _ st5 b hb
      exact (I7.pin (b, o) (List.mem_append_right _ (List.mem_append_right _ (lu hb e)))).2.1
    cases f with
    | next => obtain ⟨σ7, H7, I7, n7⟩ := q7; exact again I7 n7
    | cont => obtain ⟨σ7, H7, I7, n7⟩ := q7; exact again I7 n7
    | brk => obtain ⟨σ7, H7, I7, q7⟩ := q7; exact ⟨σ7, H7, I7.unpinned, q7⟩
    | ret v => obtain ⟨x7, σ7, H7, I7, r7, q7⟩ := q7; exact ⟨x7, σ7, H7, I7.unpinned, r7, q7⟩
end
end L2
namespace L2
open PySem PySem.Spec PyProof.Rows
abbrev R2 := V → V → Hp → VK → Prop
def OpR (X : Cx) (f : Value → Value → Sem Value) (r : R2) : Prop :=
  ∀ (pins : List (Addr × Obj)) (s : Shared) (σ : St) (H : Hp) (x y : V) (v u : Value) (Q : VK), Inv X pins σ H s → RelV x v → RelV y u → r x y H Q →
    wpAny (model X.prog X.w) X.A (f v u) (EP X pins σ Q) X.xe s
def UnR (X : Cx) (f : Value → Sem Value) (r : V → Hp → VK → Prop) : Prop :=
  ∀ (pins : List (Addr × Obj)) (s : Shared) (σ : St) (H : Hp) (x : V) (v : Value) (Q : VK), Inv X pins σ H s → RelV x v → r x H Q →
    wpAny (model X.prog X.w) X.A (f v) (EP X pins σ Q) X.xe s
def g7 (X : Cx) (f : Value) (r : List V → Hp → VK → Prop) : Prop :=
  ∀ (pins : List (Addr × Obj)) (s : Shared) (σ : St) (H : Hp) (xs : List V) (us : List Value) (Q : VK), Inv X pins σ H s → Vals xs us → r xs H Q →
    wpAny (model X.prog X.w) X.A (call f us) (EP X pins σ Q) X.xe s
def Ib (X : Cx) (r : V → Hp → (Bool → Hp → Prop) → Prop) : Prop :=
  ∀ (pins : List (Addr × Obj)) (s : Shared) (σ : St) (H : Hp) (x : V) (v : Value) (Q : Bool → Hp → Prop), Inv X pins σ H s → RelV x v → r x H Q →
    wpAny (model X.prog X.w) X.A (truthy v) (TP X pins σ Q) X.xe s
def tOp (r : R2) (ta tb : TE) : TE := fun σ H Q => ta σ H fun x H1 => tb σ H1 fun y H2 => r x y H2 Q
def tUn (r : V → Hp → VK → Prop) (ta : TE) : TE := fun σ H Q => ta σ H fun x H1 => r x H1 Q
def rI (C : Int → Int → Prop) (g : Int → Int → V) : R2 := fun x y H Q => ∃ i j, x = .int i ∧ y = .int j ∧ C i j ∧ Q (g i j) H
def rI0 (g : Int → Int → V) : R2 := fun x y H Q => ∃ i j, x = .int i ∧ y = .int j ∧ Q (g i j) H
def rU (g : Int → V) : V → Hp → VK → Prop := fun x H Q => ∃ i, x = .int i ∧ Q (g i) H
section
variable {X : Cx} {a b c : Expr} {ta tb tc : TE} {pos : Pos}
theorem Dq (ha : PE X a ta) (hb : PE X b tb) {pins : List (Addr × Obj)} {s : Shared} {σ : St} {H : Hp} {R : V → V → Hp → Prop} (I : Inv X pins σ H s)
    (h : ta σ H fun x H1 => tb σ H1 fun y H2 => R x y H2) {Q : Value → Shared → Prop} {f : Value → Value → Sem Value}
    (hf : ∀ v u s2 x y H2, Inv X pins σ H2 s2 → RelV x v → RelV y u → R x y H2 → wpAny (model X.prog X.w) X.A (f v u) Q X.xe s2) :
    wpAny (model X.prog X.w) X.A (eval a X.env) (fun v s₁ => wpAny (model X.prog X.w) X.A (eval b X.env) (fun u s₂ => wpAny (model X.prog X.w) X.A (f v u) Q X.xe s₂) X.xe s₁) X.xe s := by
  refine thn (ha pins s σ H _ I h) fun v s1 ⟨x, H1, I1, r1, q1⟩ => ?_
  refine thn (hb pins s1 σ H1 _ I1 q1) fun u s2 ⟨y, H2, I2, r2, q2⟩ => ?_
  exact hf v u s2 x y H2 I2 r1 r2 q2
theorem aS {op : Operator} {r : R2} (ho : OpR X (binaryOp op) r) (ha : PE X a ta) (hb : PE X b tb) : PE X (.BinOp a op b pos) (tOp r ta tb) := by
  intro pins s σ H Q I h
  exact wpAny_BinOp (Dq ha hb I h fun v u s2 x y H2 I2 rx ry q => ho pins s2 σ H2 x y v u Q I2 rx ry q)
theorem Ag {op : UnaryOp} {r : V → Hp → VK → Prop} (ho : UnR X (unaryOp op) r) (ha : PE X a ta) : PE X (.UnaryOp op a pos) (tUn r ta) := by
  intro pins s σ H Q I h
  exact UnaryOp_ (thn (ha pins s σ H _ I h) fun v s1 ⟨x, H1, I1, r1, q1⟩ => ho pins s1 σ H1 x v Q I1 r1 q1)
theorem opI {f : Value → Value → Sem Value} {C : Int → Int → Prop} {g : Int → Int → Int}
    (rule : ∀ (i j : Int) (t u : Tok) (s : Shared) (Q : Value → Shared → Prop) (E : Value → Shared → Prop), C i j → Q (.int (g i j) s.toks) { s with toks := s.toks + 1 } → wpAny (model X.prog X.w) X.A (f (.int i t) (.int j u)) Q E s) :
    OpR X f (rI C fun i j => .int (g i j)) := by
  intro pins s σ H x y v u Q I rx ry h
  obtain ⟨i, j, rfl, rfl, hc, q⟩ := h
  obtain ⟨t, rfl⟩ := rx
  obtain ⟨t', rfl⟩ := ry
  exact rule i j t t' s _ _ hc ⟨.int (g i j), H, I.tok _, ⟨_, rfl⟩, q⟩
theorem Di {f : Value → Value → Sem Value} {g : Int → Int → Int}
    (rule : ∀ (i j : Int) (t u : Tok) (s : Shared) (Q : Value → Shared → Prop) (E : Value → Shared → Prop), Q (.int (g i j) s.toks) { s with toks := s.toks + 1 } → wpAny (model X.prog X.w) X.A (f (.int i t) (.int j u)) Q E s) :
    OpR X f (rI0 fun i j => .int (g i j)) := by
  intro pins s σ H x y v u Q I rx ry h
  obtain ⟨i, j, rfl, rfl, q⟩ := h
  obtain ⟨t, rfl⟩ := rx
  obtain ⟨t', rfl⟩ := ry
  exact rule i j t t' s _ _ ⟨.int (g i j), H, I.tok _, ⟨_, rfl⟩, q⟩
theorem GW {f : Value → Value → Sem Value} {g : Int → Int → Bool}
    (rule : ∀ (i j : Int) (t u : Tok) (s : Shared) (Q : Value → Shared → Prop) (E : Value → Shared → Prop), Q (.bool (g i j)) s → wpAny (model X.prog X.w) X.A (f (.int i t) (.int j u)) Q E s) :
    OpR X f (rI0 fun i j => .bl (g i j)) := by
  intro pins s σ H x y v u Q I rx ry h
  obtain ⟨i, j, rfl, rfl, q⟩ := h
  obtain ⟨t, rfl⟩ := rx
  obtain ⟨t', rfl⟩ := ry
  exact rule i j t t' s _ _ ⟨.bl (g i j), H, I, rfl, q⟩
def DF (i j : Int) : Prop := 0 ≤ j ∧ j ≤ 1000000 ∧ i.natAbs < 2 ^ 64
def GP (i j : Int) : Prop := (-(2 ^ 64) < i ∧ i < 2 ^ 64) ∨ (-(2 ^ 64) < j ∧ j < 2 ^ 64)
theorem GP.ok {i j : Int} (h : GP i j) : IntMulOk i j := by
  rcases h with ⟨h1, h2⟩ | ⟨h1, h2⟩
  · exact .of_left (intBits_le_64 h1 h2)
  · exact .of_right (intBits_le_64 h1 h2)
theorem Gu : OpR X (binaryOp .Add) (rI0 fun i j => .int (i + j)) := Di fun _ _ _ _ _ _ _ q => add_int q
theorem pj : OpR X (binaryOp .Sub) (rI0 fun i j => .int (i - j)) := Di fun _ _ _ _ _ _ _ q => sub_int q
theorem fu : OpR X (binaryOp .Mod) (rI (fun _ j => j ≠ 0) fun i j => .int (i.fmod j)) := opI fun _ _ _ _ _ _ _ hc q => mod_int' hc q
theorem kC : OpR X (binaryOp .Pow) (rI DF fun i j => .int (i ^ j.toNat)) := opI fun _ _ _ _ _ _ _ hc q => pow_int_small hc.1 hc.2.1 hc.2.2 q
theorem D0 : OpR X (binaryOp .BitOr) (rI0 fun i j => .int (Builtin.bitOr i j)) := Di fun _ _ _ _ _ _ _ q => or_int q
theorem unI {f : Value → Sem Value} {g : Int → Int}
    (rule : ∀ (i : Int) (t : Tok) (s : Shared) (Q : Value → Shared → Prop) (E : Value → Shared → Prop), Q (.int (g i) s.toks) { s with toks := s.toks + 1 } → wpAny (model X.prog X.w) X.A (f (.int i t)) Q E s) :
    UnR X f (rU fun i => .int (g i)) := by
  intro pins s σ H x v Q I rx h
  obtain ⟨i, rfl, q⟩ := h
  obtain ⟨t, rfl⟩ := rx
  exact rule i t s _ _ ⟨.int (g i), H, I.tok _, ⟨_, rfl⟩, q⟩
theorem xI : UnR X (unaryOp .USub) (rU fun i => .int (-i)) := unI fun _ _ _ _ _ q => neg_int q
end
def GN : V → V → Bool
  | .non, .non => true | .non, .int _ => true | .int _, .non => true | .non, .bl _ => true | .bl _, .non => true | .non, .str _ => true | .str _, .non => true
  | .int _, .int _ => true | .bl _, .bl _ => true | .str _, .str _ => true | .byt _, .byt _ => true
  | .int _, .str _ => true | .str _, .int _ => true | .bl _, .str _ => true | .str _, .bl _ => true
  | _, _ => false
def rEq : R2 := fun x y H Q => GN x y = true ∧ Q (.bl (decide (x = y))) H
def rNe : R2 := fun x y H Q => GN x y = true ∧ Q (.bl (!decide (x = y))) H
theorem qb {i j : Int} : decide (V.int i = V.int j) = (i == j) := by
  rw [Bool.eq_iff_iff]
  simp
theorem tf {i j : Bool} : decide (V.bl i = V.bl j) = (i == j) := by
  rw [Bool.eq_iff_iff]
  simp
theorem qI {i j : Str} : decide (V.str i = V.str j) = (i == j) := by
  rw [Bool.eq_iff_iff]
  simp
theorem yT {i j : Array UInt8} : decide (V.byt i = V.byt j) = (i.toList == j.toList) := by
  rw [Bool.eq_iff_iff]
  cases i
  cases j
  simp
section
variable {X : Cx} {a b c : Expr} {ta tb tc : TE} {pos : Pos}
theorem cw {pins : List (Addr × Obj)} {σ : St} {H : Hp} {s : Shared} {Q : VK} {k k' : Bool} (I : Inv X pins σ H s) (q : Q (.bl k) H) (e : k = k') : EP X pins σ Q (.bool k') s := by
  subst e
  exact ⟨.bl k, H, I, rfl, q⟩
theorem Ho : OpR X (compareOp .Eq) rEq := by
  intro pins s σ H x y v u Q I rx ry h
  obtain ⟨hs, q⟩ := h
  cases x with
  | non =>
    cases rx
    cases y with
    | non => cases ry; exact PySem.EqNone.eq_none_none (cw I q (by simp))
    | bl j => cases ry; exact PySem.EqNone.eq_none_bool (cw I q (by simp))
    | int j => obtain ⟨t', rfl⟩ := ry; exact PySem.EqNone.eq_none_int (cw I q (by simp))
    | str j => obtain ⟨t', rfl⟩ := ry; exact PySem.EqNone.eq_none_str (cw I q (by simp))
    | _ => exact absurd (show false = true from hs) Bool.false_ne_true
  | bl i =>
    cases rx
    cases y with
    | non => cases ry; exact PySem.EqNone.eq_bool_none (cw I q (by simp))
    | bl j => cases ry; exact eq_bool (cw I q tf)
    | str j => obtain ⟨t', rfl⟩ := ry; exact PySem.EqMixed.eq_bool_str (cw I q (by simp))
    | _ => exact absurd (show false = true from hs) Bool.false_ne_true
  | int i =>
    obtain ⟨t, rfl⟩ := rx
    cases y with
    | non => cases ry; exact PySem.EqNone.eq_int_none (cw I q (by simp))
    | int j => obtain ⟨t', rfl⟩ := ry; exact eq_int (cw I q qb)
    | str j => obtain ⟨t', rfl⟩ := ry; exact PySem.EqMixed.eq_int_str (cw I q (by simp))
    | _ => exact absurd (show false = true from hs) Bool.false_ne_true
  | str i =>
    obtain ⟨t, rfl⟩ := rx
    cases y with
    | non => cases ry; exact PySem.EqNone.eq_str_none (cw I q (by simp))
    | bl j => cases ry; exact PySem.EqMixed.eq_str_bool (cw I q (by simp))
    | int j => obtain ⟨t', rfl⟩ := ry; exact PySem.EqMixed.eq_str_int (cw I q (by simp))
    | str j => obtain ⟨t', rfl⟩ := ry; exact eq_str (cw I q qI)
    | _ => exact absurd (show false = true from hs) Bool.false_ne_true
  | byt i =>
    obtain ⟨t, rfl⟩ := rx
    cases y with
    | byt j => obtain ⟨t', rfl⟩ := ry; exact PySem.W.eq_bytes (cw I q yT)
    | _ => exact absurd (show false = true from hs) Bool.false_ne_true
  | _ => cases y <;> exact absurd (show false = true from hs) Bool.false_ne_true
theorem Hh : OpR X (compareOp .NotEq) rNe := by
  intro pins s σ H x y v u Q I rx ry h
  obtain ⟨hs, q⟩ := h
  cases x with
  | non =>
    cases rx
    cases y with
    | non => cases ry; exact PySem.EqNone.ne_none_none (cw I q (by simp))
    | bl j => cases ry; exact PySem.EqNone.ne_none_bool (cw I q (by simp))
    | int j => obtain ⟨t', rfl⟩ := ry; exact PySem.EqNone.ne_none_int (cw I q (by simp))
    | str j => obtain ⟨t', rfl⟩ := ry; exact PySem.EqNone.ne_none_str (cw I q (by simp))
    | _ => exact absurd (show false = true from hs) Bool.false_ne_true
  | bl i =>
    cases rx
    cases y with
    | non => cases ry; exact PySem.EqNone.ne_bool_none (cw I q (by simp))
    | bl j => cases ry; exact ne_bool (cw I q (congrArg not tf))
    | str j => obtain ⟨t', rfl⟩ := ry; exact PySem.EqMixed.ne_bool_str (cw I q (by simp))
    | _ => exact absurd (show false = true from hs) Bool.false_ne_true
  | int i =>
    obtain ⟨t, rfl⟩ := rx
    cases y with
    | non => cases ry; exact PySem.EqNone.ne_int_none (cw I q (by simp))
    | int j => obtain ⟨t', rfl⟩ := ry; exact ne_int (cw I q (congrArg not qb))
    | str j => obtain ⟨t', rfl⟩ := ry; exact PySem.EqMixed.ne_int_str (cw I q (by simp))
    | _ => exact absurd (show false = true from hs) Bool.false_ne_true
  | str i =>
    obtain ⟨t, rfl⟩ := rx
    cases y with
    | non => cases ry; exact PySem.EqNone.ne_str_none (cw I q (by simp))
    | bl j => cases ry; exact PySem.EqMixed.ne_str_bool (cw I q (by simp))
    | int j => obtain ⟨t', rfl⟩ := ry; exact PySem.EqMixed.ne_str_int (cw I q (by simp))
    | str j => obtain ⟨t', rfl⟩ := ry; exact ne_str (cw I q (congrArg not qI))
    | _ => exact absurd (show false = true from hs) Bool.false_ne_true
  | byt i =>
    obtain ⟨t, rfl⟩ := rx
    cases y with
    | byt j => obtain ⟨t', rfl⟩ := ry; exact PySem.W.ne_bytes (cw I q (congrArg not yT))
    | _ => exact absurd (show false = true from hs) Bool.false_ne_true
  | _ => cases y <;> exact absurd (show false = true from hs) Bool.false_ne_true
theorem oj : OpR X (compareOp .Lt) (rI0 fun i j => .bl (decide (i < j))) := GW fun _ _ _ _ _ _ _ q => lt_int q
theorem ji : OpR X (compareOp .Gt) (rI0 fun i j => .bl (decide (j < i))) := GW fun _ _ _ _ _ _ _ q => gt_int q
theorem OpR.or {f : Value → Value → Sem Value} {r r' : R2} (h : OpR X f r) (h' : OpR X f r') : OpR X f (fun x y H Q => r x y H Q ∨ r' x y H Q) := by
  intro pins s σ H x y v u Q I rx ry q
  rcases q with q | q
  · exact h pins s σ H x y v u Q I rx ry q
  · exact h' pins s σ H x y v u Q I rx ry q
theorem br (b : Expr) {op : CmpOp} (h : op ≠ .In := by decide) (h2 : op ≠ .NotIn := by decide) : behindInMarks op b = false := by
  have e1 : (op == CmpOp.In) = false := by cases op <;> first | rfl | exact absurd rfl h
  have e2 : (op == CmpOp.NotIn) = false := by cases op <;> first | rfl | exact absurd rfl h2
  cases b <;> simp [behindInMarks, e1, e2]
theorem fV {op : CmpOp} {r : R2} (ho : OpR X (compareOp op) r) (ha : PE X a ta) (hb : PE X b tb) (hm : behindInMarks op b = false) : PE X (.Compare a [op] [b] pos) (tOp r ta tb) := by
  intro pins s σ H Q I h
  exact wpAny_Compare1 (Dq ha hb I h fun v u s2 x y H2 I2 rx ry q => ho pins s2 σ H2 x y v u Q I2 rx ry q) hm
def DU (t : TE) : TT := fun σ H Q => t σ H fun x H' => ∃ k, x = .bl k ∧ Q k H'
theorem bA {op : CmpOp} {r : R2} (ho : OpR X (compareOp op) r) (ha : PE X a ta) (hb : PE X b tb) (hm : behindInMarks op b = false) : PT X (.Compare a [op] [b] pos) (DU (tOp r ta tb)) := by
  intro pins s σ H Q I h
  refine wpAny_isTrue_Compare1 (thn (ha pins s σ H _ I h) fun v s1 ⟨x, H1, I1, r1, q1⟩ => thn (hb pins s1 σ H1 _ I1 q1) fun u s2 ⟨y, H2, I2, r2, q2⟩ =>
    thn (ho pins s2 σ H2 x y v u _ I2 r1 r2 q2) fun c s3 ⟨z, H3, I3, r3, k, e, q3⟩ => ?_) hm
  subst e
  cases r3
  exact wpAny_truthy_bool ⟨H3, I3, q3⟩
def Ig (K : PySem.W.Frag) (x : V) (H : Hp) (k : Bool) : Prop :=
  match x with
  | .non => k = false
  | .bl b => k = b
  | .int i => k = (i != 0)
  | .str y => y.length ≤ sizeLine ∧ k = ((y.length : Int) != 0)
  | .byt y => y.size ≤ sizeLine ∧ k = ((y.size : Int) != 0)
  | .ref p => (∃ xs, SqL K H p xs ∧ k = !xs.isEmpty) ∨ (∃ xs, SqT K H p xs ∧ k = !xs.isEmpty) ∨ ∃ kvs, H p = some (.dK kvs) ∧ k = !kvs.isEmpty
  | _ => False
theorem zX {κ : Type} {kvs : List (κ × V)} {vs : List (κ × Value)} (r : KV kvs vs) : (!vs.isEmpty) = !kvs.isEmpty := by
  cases r <;> rfl
theorem tN {xs : List V} {its : List Value} (r : Vals xs its) : (!its.toArray.isEmpty) = !xs.isEmpty := by
  cases r <;> simp
theorem nj : (sizeLine : Nat) < 2 ^ 63 := by rw [sizeLine_eq]; decide
theorem Jy : Ib X (fun x H Q => ∃ k, Ig X.K x H k ∧ Q k H) := by
  intro pins s σ H x v Q I rx h
  obtain ⟨k, e, q⟩ := h
  have hl := nj
  have hs : sizeLine = 16777216 := sizeLine_eq
  cases x with
  | non =>
    cases rx
    have e' : k = false := e
    subst e'
    exact truthy_none ⟨H, I, q⟩
  | bl b =>
    cases rx
    have e' : k = b := e
    subst e'
    exact wpAny_truthy_bool ⟨H, I, q⟩
  | int i =>
    obtain ⟨t, rfl⟩ := rx
    have e' : k = (i != 0) := e
    subst e'
    exact PySem.P.truthy_int ⟨H, I, q⟩
  | str y =>
    obtain ⟨t, rfl⟩ := rx
    obtain ⟨hy, e'⟩ : y.length ≤ sizeLine ∧ k = ((y.length : Int) != 0) := e
    subst e'
    exact PySem.P.truthy_str (by omega) ⟨H, I.tok _, q⟩
  | byt y =>
    obtain ⟨t, rfl⟩ := rx
    obtain ⟨hy, e'⟩ : y.size ≤ sizeLine ∧ k = ((y.size : Int) != 0) := e
    subst e'
    exact PySem.W.truthy_bytes (by omega) ⟨H, I.tok _, q⟩
  | ref p =>
    cases rx
    have e' : (∃ xs, SqL X.K H p xs ∧ k = !xs.isEmpty) ∨ (∃ xs, SqT X.K H p xs ∧ k = !xs.isEmpty) ∨ ∃ kvs, H p = some (.dK kvs) ∧ k = !kvs.isEmpty := e
    rcases e' with ⟨xs, hx, e'⟩ | ⟨xs, hx, e'⟩ | ⟨kvs, hx, e'⟩
    · subst e'
      obtain ⟨its, r, pl, hz⟩ := I.list hx
      have hlen := r.length
      exact wpAny_truthy_list pl.isList (by simp only [List.size_toArray]; omega) ⟨H, I.tok _, by rw [tN r]; exact q⟩
    · subst e'
      obtain ⟨its, r, pl, hz⟩ := I.tuple hx
      have hlen := r.length
      exact truthy_tuple pl (by simp only [List.size_toArray]; omega) ⟨H, I.tok _, by rw [tN r]; exact q⟩
    · subst e'
      obtain ⟨hz, hS, vs, r, m⟩ : kvs.length ≤ sizeLine ∧ (p == sysModules) = false ∧ ∃ vs, KV kvs vs ∧ s.heap.DictOf (uu X.prog X.w) p vs := I.hok p _ hx
      have hlen : kvs.length = vs.length := Paired.length r
      exact wpAny_truthy_dict hS m (by omega) ⟨H, I.tok _, by rw [zX r]; exact q⟩
  | _ => exact (show False from e).elim
theorem zM : OpR X (binaryOp .Add) (fun x y H Q => ∃ i j, x = .str i ∧ y = .str j ∧ i.length + j.length ≤ sizeLine ∧ Q (.str (i ++ j)) H) := by
  intro pins s σ H x y v u Q I rx ry h
  obtain ⟨i, j, rfl, rfl, hz, q⟩ := h
  obtain ⟨t, rfl⟩ := rx
  obtain ⟨t', rfl⟩ := ry
  exact add_str (fun t' tk => ⟨.str (i ++ j), H, I.tok _, ⟨_, rfl⟩, q⟩) hz
theorem vals1 {x : V} {us : List Value} (r : Vals [x] us) : ∃ u, us = [u] ∧ RelV x u := by
  cases r with
  | cons r1 r2 => cases r2; exact ⟨_, rfl, r1⟩
theorem vals2 {x y : V} {us : List Value} (r : Vals [x, y] us) : ∃ u w', us = [u, w'] ∧ RelV x u ∧ RelV y w' := by
  cases r with
  | cons r1 r2 =>
    cases r2 with
    | cons r3 r4 => cases r4; exact ⟨_, _, rfl, r1, r3⟩
theorem rD : g7 X (.builtin "abs") (fun xs H Q => ∃ i, xs = [.int i] ∧ Q (.int (if i < 0 then -i else i)) H) := by
  intro pins s σ H xs us Q I r h
  obtain ⟨i, rfl, q⟩ := h
  obtain ⟨u, rfl, t, rfl⟩ := vals1 r
  exact call_abs_int fun u tk => ⟨.int (if i < 0 then -i else i), H, I.tok _, ⟨_, rfl⟩, q⟩
theorem BC : g7 X (.type "int") (fun xs H Q => (∃ i, xs = [.int i] ∧ Q (.int i) H) ∨ ∃ k, xs = [.bl k] ∧ Q (.int (if k then 1 else 0)) H) := by
  intro pins s σ H xs us Q I r h
  rcases h with ⟨i, rfl, q⟩ | ⟨k, rfl, q⟩
  · obtain ⟨u, rfl, t, rfl⟩ := vals1 r
    exact call_int_int ⟨.int i, H, I, ⟨_, rfl⟩, q⟩
  · obtain ⟨u, rfl, r1⟩ := vals1 r
    cases r1
    exact call_int_bool ⟨.int (if k then 1 else 0), H, I.tok _, ⟨_, rfl⟩, q⟩
def Gi (K : PySem.W.Frag) (x : V) (H : Hp) (n : Nat) : Prop :=
  match x with
  | .str y => y.length ≤ sizeLine ∧ n = y.length
  | .byt y => y.size ≤ sizeLine ∧ n = y.size
  | .ref p => (∃ xs, SqL K H p xs ∧ n = xs.length) ∨ ∃ xs, SqT K H p xs ∧ n = xs.length
  | _ => False
theorem cJ : g7 X (.builtin "len") (fun xs H Q => ∃ x n, xs = [x] ∧ Gi X.K x H n ∧ Q (.int n) H) := by
  intro pins s σ H xs us Q I r h
  obtain ⟨x, n, rfl, e, q⟩ := h
  obtain ⟨u, rfl, rx⟩ := vals1 r
  have hl := nj
  have hs : sizeLine = 16777216 := sizeLine_eq
  cases x with
  | str y =>
    obtain ⟨t, rfl⟩ := rx
    obtain ⟨hy, e'⟩ : y.length ≤ sizeLine ∧ n = y.length := e
    subst e'
    exact len_str (by omega) ⟨.int _, H, I.tok _, ⟨_, rfl⟩, q⟩
  | byt y =>
    obtain ⟨t, rfl⟩ := rx
    obtain ⟨hy, e'⟩ : y.size ≤ sizeLine ∧ n = y.size := e
    subst e'
    exact PySem.W.len_bytes (by omega) ⟨.int _, H, I.tok _, ⟨_, rfl⟩, q⟩
  | ref p =>
    cases rx
    have e' : (∃ xs, SqL X.K H p xs ∧ n = xs.length) ∨ ∃ xs, SqT X.K H p xs ∧ n = xs.length := e
    rcases e' with ⟨xs, hx, e'⟩ | ⟨xs, hx, e'⟩
    · subst e'
      obtain ⟨its, r', pl, hz⟩ := I.list hx
      have hlen := r'.length
      exact Calls.call_len_list pl.isList (by simp only [List.size_toArray]; omega) ⟨.int xs.length, H, I.tok _, ⟨_, by simp only [List.size_toArray]; rw [hlen]⟩, q⟩
    · subst e'
      obtain ⟨its, r', pl, hz⟩ := I.tuple hx
      have hlen := r'.length
      exact len_tuple pl (by simp only [List.size_toArray]; omega) ⟨.int xs.length, H, I.tok _, ⟨_, by simp only [List.size_toArray]; rw [hlen]⟩, q⟩
  | _ => exact (show False from e).elim
end
end L2
namespace L2
open PySem PySem.Spec PyProof.Rows
structure FL (h : Heap) (x dx C : Addr) (mA : Str → Option Value) : Prop where
  obj : h.get? x = some (PySem.W.instObj C dx)
  ns : h.Ns1 dx mA
  ne : dx ≠ x
theorem B6 {h : Heap} {dx : Addr} {mA : Str → Option Value} (n : h.Ns1 dx mA) : ∃ od, h.get? dx = some od ∧ ∀ name, PySem.W.lookIn name od = some (mA name) := by
  obtain ⟨o, es, ep, ho, hd, hk, _, hm⟩ := n
  refine ⟨o, ho, fun name => ?_⟩
  have e := hm name
  unfold nsFind findBy at e
  rw [← Array.find?_toList] at e
  unfold PySem.W.lookIn
  rw [hd]
  dsimp only
  split
  · rename_i y q
    rw [q] at e
    exact congrArg some e
  · rename_i q
    rw [q] at e
    have a : es.toList.any (·.refKey) = false := by
      rw [List.any_eq_false]
      intro y hy
      obtain ⟨z, t, hkey⟩ := hk y (Array.mem_toList_iff.mp hy)
      simp [DictEntry.refKey, hkey]
    have a' : ¬ es.toList.any (·.refKey) = true := by rw [a]; exact Bool.false_ne_true
    rw [if_neg a']
    exact congrArg some e
theorem FL.look {h : Heap} {x dx C : Addr} {mA : Str → Option Value} (I : FL h x dx C mA) : ∃ od, PySem.W.InstAt h x (PySem.W.instObj C dx) C (some od) ∧ ∀ name, PySem.W.lookIn name od = some (mA name) :=
  let ⟨od, ho, hl⟩ := B6 I.ns
  ⟨od, ⟨I.obj, rfl, rfl, ho⟩, hl⟩
section
variable {prog : Program} {w : World} {A : Around} {E : Value → Shared → Prop} {s : Shared} {K : PySem.W.Frag} {x dx C f : Addr} {mA : Str → Option Value} {name : Str} {v : Value}
end
section
variable {P : Program} {w : World} {H H' : Hp} {h h' : Heap} {a C dx : Addr} {fs fs' : List (Str × V)}
end
structure Cls (K : PySem.W.Frag) (C : Addr) : Prop where
  pg : PySem.W.plainGet K C Str.empty = true
  hd : PySem.W.hasDictIn K C = true
  po : PySem.W.plainOver K C = true
  sa : PySem.W.findIn K (.ref C) "__setattr__" = some (some (.builtin "object.__setattr__"))
theorem Cls.get {K : PySem.W.Frag} {C : Addr} (c : Cls K C) (f : Str) : PySem.W.plainGet K C f = true := c.pg
structure Con (K : PySem.W.Frag) (C : Addr) (f : Str) (v : V) (u : Value) : Prop where
  at_ : PySem.W.findIn K (.ref C) f = some (some u)
  rel : RelV v u
  get : PySem.W.specialIn K u "__get__" = some none
  cp : PySem.W.copiedNames.contains f = false
structure Meth (K : PySem.W.Frag) (C : Addr) (m : Str) (f : Addr) : Prop where
  at_ : PySem.W.findIn K (.ref C) m = some (some (.ref f))
  fn : PySem.W.isFn K (.ref f) = true
  kp : PySem.W.keepIn K (.ref f) = true
section
variable {X : Cx} {pins : List (Addr × Obj)} {σ : St} {H : Hp} {s : Shared} {a C dx : Addr} {fs : List (Str × V)} {f : Str} {v : V} {A : Around} {E : Value → Shared → Prop}
theorem Inv.made (I : Inv X pins σ H s) : Inv X pins σ (upd (upd H s.heap.objs.size (.own (s.heap.objs.size + 1))) (s.heap.objs.size + 1) (.ins C s.heap.objs.size []))
    { s with heap := (s.heap.push PySem.W.emptyDict).push (PySem.W.instObj C s.heap.objs.size) } := by
  have e1 : (s.heap.push PySem.W.emptyDict).get? s.heap.objs.size = some PySem.W.emptyDict := Heap.get?_push_size s.heap rfl
  have e2 : ((s.heap.push PySem.W.emptyDict).push (PySem.W.instObj C s.heap.objs.size)).get? (s.heap.objs.size + 1) = some (PySem.W.instObj C s.heap.objs.size) := by
    have := Heap.get?_push_size (s.heap.push PySem.W.emptyDict) (o := PySem.W.instObj C s.heap.objs.size) rfl
    rwa [Heap.size_push] at this
  have e3 : (s.heap.push PySem.W.emptyDict).Ns s.heap.objs.size (fun _ => none) := ⟨PySem.W.emptyDict, #[], _, e1, rfl, (fun e he => absurd he (by simp)), fun _ => rfl⟩
  have I1 := I.laid (a := s.heap.objs.size) (o := .own (s.heap.objs.size + 1)) (h' := s.heap.push PySem.W.emptyDict) (t' := s.toks) (fun b u q => Heap.get?_push_of_some _ q) (Nat.le_refl _) ⟨_, e1⟩
  refine I1.laid (a := s.heap.objs.size + 1) (o := .ins C s.heap.objs.size []) (t' := s.toks) (fun b u q => Heap.get?_push_of_some _ q) (Nat.le_of_eq (Heap.size_push _ _)) ?_
  have ne : s.heap.objs.size ≠ s.heap.objs.size + 1 := Nat.ne_of_lt (Nat.lt_succ_self _)
  refine ⟨by rw [aR ne, cL], Nat.zero_le _, ne, e2, fun _ => none, (Heap.Ns1.of_empty e3).at fun o q => Heap.get?_push_of_some _ q, fun _ => True.intro, fun y hy => absurd rfl hy⟩
end
section
variable {X : Cx} {o e value : Expr} {f : Str} {pos pos' tpos : Pos} {ta tv : TE}
end
section
variable {X : Cx} {pins : List (Addr × Obj)} {σ : St} {H : Hp} {s : Shared} {A : Around} {E : Value → Shared → Prop} {Q : Value → Shared → Prop} {c : Value} {b : Bool}
inductive lW (K : PySem.W.Frag) (H : Hp) : V → Value → Prop where
  | non : lW K H .non (.type "NoneType")
  | bl (x : Bool) : lW K H (.bl x) (.type "bool")
  | int (i : Int) : lW K H (.int i) (.type "int")
  | str (x : Str) : lW K H (.str x) (.type "str")
  | flt (x : UInt64) : lW K H (.flt x) (.type "float")
  | lst {a : Addr} {xs : List V} (e : H a = some (.lst xs)) : lW K H (.ref a) (.type "list")
  | frz {a : Addr} {o : Obj} {xs : List V} (e : H a = some (.frz o (.lst xs))) : lW K H (.ref a) (.type "list")
  | tup {a : Addr} {xs : List V} (e : H a = some (.tup xs)) : lW K H (.ref a) (.type "tuple")
  | dK {a : Addr} {kvs : List (Key × V)} (e : H a = some (.dK kvs)) : lW K H (.ref a) (.type "dict")
  | dT {a : Addr} {kvs : List (List Key × V)} (e : H a = some (.dT kvs)) : lW K H (.ref a) (.type "dict")
  | ins {a C dx : Addr} {fs : List (Str × V)} (e : H a = some (.ins C dx fs)) (cl : Cls K C) (ha : PySem.W.findIn K (.ref C) "__class__" = some (some (.builtin "object.__class__")))
      (hn : PySem.W.specialIn K (.builtin "object.__class__") "__get__" = some (some (.builtin "getset_descriptor.__get__"))) (htk : PySem.W.takesIn K (.builtin "object.__class__") = some true)
      (hm : PySem.W.mroIn K C (.type "object") = some true) : lW K H (.ref a) (.ref C)
end
end L2
namespace L2
open PySem PySem.Spec PyProof.Rows
structure fb (k : Nat) (A : Around) : Prop where
  hd : A.handled = none
  dp : A.depth + 3 * k + 5 < recursionLimit
  un : A.units + 16 * k + 200 < cLine
theorem fb.mono {j k : Nat} {A : Around} (r : fb k A) (h : j ≤ k) : fb j A := ⟨r.hd, by have := r.dp; omega, by have := r.un; omega⟩
theorem fb.deeper {k : Nat} {A : Around} (r : fb (k + 1) A) (env : Env) : fb k (A.deeper env) :=
  ⟨r.hd, by have := r.dp; show A.depth + 1 + 3 * k + 5 < _; omega, by have := r.un; show A.units + 3 + 16 * k + 200 < _; omega⟩
theorem fb.in1 {k : Nat} {A : Around} (r : fb (k + 1) A) : fb k A.in1 :=
  ⟨r.hd, by have := r.dp; show A.depth + 3 * k + 5 < _; omega, by have := r.un; show A.units + 1 + 16 * k + 200 < _; omega⟩
theorem fb.depth {k : Nat} {A : Around} (r : fb k A) : A.depth < recursionLimit := by have := r.dp; omega
theorem fb.units {k : Nat} {A : Around} (r : fb k A) : A.units + 64 < cLine := by have := r.un; omega
def sj : TA := fun _ H Q => Q [] H
def mI (ta : TE) (tr : TA) : TA := fun σ H Q => ta σ H fun x H1 => tr σ H1 fun xs H2 => Q (x :: xs) H2
section
variable {X : Cx} {e : Expr} {es : List Expr} {te : TE} {t : TA} {pos : Pos}
theorem aw : PA X [] sj := fun _ _ _ _ H Q I h => Calls.spliced_nil ⟨[], H, I, .nil, h⟩
theorem ah (ha : PE X e te) (hr : PA X es t) (hs : starEach (e :: es) X.env = (false, eval e X.env) :: starEach es X.env := by rfl) : PA X (e :: es) (mI te t) := by
  intro pos pins s σ H Q I h
  rw [hs]
  show wpAny _ _ (spliced ((false, eval e X.env) :: backTo pos (starEach es X.env))) _ _ s
  refine Calls.spliced_cons (thn (ha pins s σ H _ I h) fun u s1 ⟨x, H1, I1, r1, q1⟩ => ?_)
  exact thn (hr pos pins s1 σ H1 _ I1 q1) fun us s2 ⟨xs, H2, I2, r2, q2⟩ => ⟨x :: xs, H2, I2, .cons r1 r2, q2⟩
def GO (t : TA) : TE := fun σ H Q => t σ H fun xs H1 => xs.length ≤ sizeLine ∧ ∀ p, H1 p = none → Q (.ref p) (upd H1 p (.tup xs))
def xh (t : TA) : TE := fun σ H Q => t σ H fun xs H1 => xs.length ≤ sizeLine ∧ ∀ p, H1 p = none → Q (.ref p) (upd H1 p (.lst xs))
theorem Bl {x1} (h : PA X es t) : PE X (.Tuple es x1 pos) (GO t) := by
  intro pins s σ H Q I hq
  refine wpAny_Tuple_spliced (thn (h pos pins s σ H _ I hq) fun us s1 ⟨xs, H1, I1, r, z, q⟩ => ⟨by rw [← r.length]; exact z, ?_⟩)
  have hf : H1 s1.heap.objs.size = none := I1.hok.fresh (Nat.le_refl _)
  refine ⟨.ref s1.heap.objs.size, upd H1 s1.heap.objs.size (.tup xs), I1.laid (t' := s1.toks) (fun b u e => Heap.get?_push_of_some _ e) (Nat.le_refl _) ?_, rfl, q _ hf⟩
  exact ⟨z, us, r, ⟨_, Heap.get?_push_size _ rfl, rfl, _, rfl⟩⟩
theorem iD (h : PA X es t) : PE X (.List es pos) (xh t) := by
  intro pins s σ H Q I hq
  refine wpAny_List_spliced (thn (h pos pins s σ H _ I hq) fun us s1 ⟨xs, H1, I1, r, z, q⟩ => ⟨by rw [← r.length]; exact z, ?_⟩)
  have hf : H1 s1.heap.objs.size = none := I1.hok.fresh (Nat.le_refl _)
  refine ⟨.ref s1.heap.objs.size, upd H1 s1.heap.objs.size (.lst xs), I1.laid (t' := s1.toks) (fun b u e => Heap.get?_push_of_some _ e) (Nat.le_refl _) ?_, rfl, q _ hf⟩
  exact ⟨z, us, 0, r, Heap.get?_push_size _ rfl⟩
end
abbrev Sp := List V → Hp → VK → XK → Prop
abbrev CXT := List Env → Hp → Shared → XK → Value → Shared → Prop
structure sv (P : Program) (w : World) (K : PySem.W.Frag) (mg : Str → Option Value) (base : Heap) (A : Around) (outer : List Env) (s : Shared) (H : Hp) : Prop where
  frames : A.frames = some outer
  mod : Mod K mg base
  bs : ∀ b o, base.get? b = some o → s.heap.get? b = some o ∧ H b = none
  bsz : base.objs.size ≤ s.heap.objs.size
  funs : s.heap.FunFrames base outer
  frf : ∀ b ∈ frs outer, H b = none
  hok : HOk P w H s.heap
  bare : AllBare s.gens
def CE (outer : List Env) (P : Program) (w : World) (H : Hp) (s : Shared) (Q : VK) (u : Value) (s' : Shared) : Prop :=
  ∃ v H', s'.os = s.os ∧ AllBare s'.gens ∧ Un (frs outer) [] H H' s.heap s'.heap ∧ HOk P w H' s'.heap ∧ RelV v u ∧ Q v H'
def CR (CX : CXT) (outer : List Env) (P : Program) (w : World) (H : Hp) (s : Shared) (Q : VK) (E : XK) (r : Result) (s' : Shared) : Prop :=
  match r with
  | .ok (.ret u) => CE outer P w H s Q u s'
  | .ok _ => False
  | .error e => CX outer H s E e s'
structure iE (P : Program) (w : World) (K : PySem.W.Frag) (mg : Str → Option Value) (base : Heap) (CX : CXT) (k : Nat) (f : Addr) (fd : FuncData) (ps : List Str) (sp : Sp) : Prop where
  len : ∀ vs H Q E, sp vs H Q E → vs.length = ps.length
  run : ∀ (A : Around) (outer : List Env) (s : Shared) (H : Hp) (args : Args) (us : List Value) (vs : List V) (Q : VK) (E : XK), fb k A → sv P w K mg base A outer s H → BindsTo s fd args (ps.zip us) → Vals vs us → sp vs H Q E →
    codeAny (model P w) A (.call (.ref f) args) (CR CX outer P w H s Q E) s
theorem iE.mono {P : Program} {w : World} {K : PySem.W.Frag} {mg : Str → Option Value} {base : Heap} {CX : CXT} {j k : Nat} {f : Addr} {fd : FuncData} {ps : List Str} {sp : Sp} (F : iE P w K mg base CX j f fd ps sp) (h : j ≤ k) :
    iE P w K mg base CX k f fd ps sp := ⟨F.len, fun A outer s H args us vs Q E hr => F.run A outer s H args us vs Q E (hr.mono h)⟩
theorem iE.imp {P : Program} {w : World} {K : PySem.W.Frag} {mg : Str → Option Value} {base : Heap} {CX : CXT} {k : Nat} {f : Addr} {fd : FuncData} {ps : List Str} {sp sp' : Sp} (F : iE P w K mg base CX k f fd ps sp)
    (h : ∀ vs H Q E, sp' vs H Q E → sp vs H Q E) : iE P w K mg base CX k f fd ps sp' :=
  ⟨fun vs H Q E q => F.len vs H Q E (h _ _ _ _ q), fun A outer s H args us vs Q E hr he hb hv hs => F.run A outer s H args us vs Q E hr he hb hv (h _ _ _ _ hs)⟩
theorem sv.in1 {P : Program} {w : World} {K : PySem.W.Frag} {mg : Str → Option Value} {base : Heap} {A : Around} {outer : List Env} {s : Shared} {H : Hp} (e : sv P w K mg base A outer s H) :
    sv P w K mg base A.in1 outer s H := ⟨e.frames, e.mod, e.bs, e.bsz, e.funs, e.frf, e.hok, e.bare⟩
section
variable {X : Cx} {pins : List (Addr × Obj)} {σ : St} {H : Hp} {s s' : Shared}
theorem Inv.env0 (I : Inv X pins σ H s) : sv X.prog X.w X.K X.mg X.base X.A X.stack s H :=
  ⟨I.ok.frames, I.ok.mod, I.bs, Nat.le_trans I.ok.bsz I.sz, I.stack, I.stkFree, I.hok, I.bare⟩
theorem Inv.after {Q : VK} {u : Value} (I : Inv X pins σ H s) (h : CE X.stack X.prog X.w H s Q u s') : EP X pins σ Q u s' := by
  obtain ⟨v, H', os, bare, un, hok, r, q⟩ := h
  obtain ⟨hh, g, d, t, os'⟩ := s'
  obtain rfl : os' = s.os := os
  exact ⟨v, H', I.call (h' := hh) (g' := g) (d' := d) (t' := t) (ch := []) un hok bare (fun b z => absurd z (by simp)), r, q⟩
end
def qp (sp : Sp) (dvs : List V) (E : XK) (t : TA) : TE := fun σ H Q => t σ H fun vs H1 => sp (vs ++ dvs) H1 Q E
def Binds (K : PySem.W.Frag) (fd : FuncData) (ps : List Str) (ds : List Value) : Prop :=
  ∀ (s : Shared) (us : List Value), K.In s.heap → (us ++ ds).length = ps.length → BindsTo s fd ⟨us, []⟩ (ps.zip (us ++ ds))
theorem Binds.all {K : PySem.W.Frag} {fd : FuncData} {ps : List Str} (h : ∀ us : List Value, us.length = ps.length → bindArgs fd ⟨us, []⟩ = pure (ps.zip us)) : Binds K fd ps [] := fun s us _ hl => by
  rw [List.append_nil] at hl ⊢
  exact .of_eq (h us hl)
def Passes (CX : CXT) (X : Cx) (E : XK) : Prop := ∀ (pins : List (Addr × Obj)) (σ : St) (H : Hp) (s : Shared) (e : Value) (s' : Shared), Inv X pins σ H s → CX X.stack H s E e s' → X.xe e s'
section
variable {X : Cx} {CX : CXT} {k : Nat} {f C : Addr} {fd : FuncData} {ps : List Str} {sp : Sp} {dvs : List V} {ds : List Value} {E : XK} {x m : Str} {p pos apos : Pos} {e o : Expr} {es : List Expr} {ta : TE} {t : TA}
theorem FQ {pins : List (Addr × Obj)} {σ : St} {H : Hp} {s : Shared} {Q : VK} {us : List Value} {vs : List V} (F : iE X.prog X.w X.K X.mg X.base CX k f fd ps sp) (hr : fb k X.A) (hb : Binds X.K fd ps ds) (hd : Vals dvs ds) (hx : Passes CX X E)
    (I : Inv X pins σ H s) (r : Vals vs us) (h : sp (vs ++ dvs) H Q E) : wpAny (model X.prog X.w) X.A (call (.ref f) us) (EP X pins σ Q) X.xe s := by
  have r2 : Vals (vs ++ dvs) (us ++ ds) := r.append hd
  have hl : (us ++ ds).length = ps.length := by rw [← r2.length]; exact F.len _ _ _ _ h
  refine wpAny_call (codeAny_mono (F.run X.A X.stack s H ⟨us, []⟩ (us ++ ds) (vs ++ dvs) Q E hr I.env0 (hb s us I.kIn hl) r2 h) fun r s' hq => ?_)
  cases r with
  | error e => exact hx pins σ H s e s' I hq
  | ok fl =>
    cases fl with
    | ret u => exact I.after hq
    | next => exact False.elim hq
    | brk => exact False.elim hq
    | cont => exact False.elim hq
theorem aN (F : iE X.prog X.w X.K X.mg X.base CX k f fd ps sp) (hr : fb k X.A) (hg : Gl X x) (hm : X.mg x = some (.ref f)) (hk : PySem.W.keepIn X.K (.ref f) = true) (hb : Binds X.K fd ps ds) (hd : Vals dvs ds) (hx : Passes CX X E)
    (ha : PA X (e :: es) t) (hdb : (x == ("__debug__" : Str)) = false := by decide) (he : starEach (e :: es) X.env = (false, eval e X.env) :: starEach es X.env := by rfl) (hpl : (backTo pos (starEach es X.env)).any (·.1) = false := by rfl) :
    PE X (.Call (.Name x p) (e :: es) [] pos) (qp sp dvs E t) := by
  intro pins s σ H Q I h
  refine wpAny_Call_Name_kw (Fg I hg hm ?_ hdb)
  refine PySem.W.callWith_K (h₀ := X.base) I.ok.mod.kin hk (thn (ha pos pins s σ H _ I h) fun us s1 ⟨vs, H1, I1, r, q⟩ => ⟨I1.kIn, ?_⟩) he hpl
  exact FQ F hr hb hd hx I1 r q
structure Mk (K : PySem.W.Frag) (C f : Addr) : Prop where
  makes : PySem.W.makesIn K C = true
  init : PySem.W.findIn K (.ref C) "__init__" = some (some (.ref f))
  fn : PySem.W.isFn K (.ref f) = true
  kp : PySem.W.keepIn K (.ref C) = true
end
section
variable {X : Cx} {CX : CXT} {k : Nat} {f C : Addr} {fd : FuncData} {ps ks : List Str} {sp : Sp} {E : XK} {x m : Str} {p pos apos kpos : Pos} {e o : Expr} {es : List Expr} {kws : List Keyword} {te ta : TE} {t tk : TA} {nm : Option Str}
structure Jr (K : PySem.W.Frag) (fd : FuncData) (ps ks : List Str) (g : List Value → List Value → List Value) (gV : List V → List V → List V) : Prop where
  to : ∀ (s : Shared) (us ws : List Value), K.In s.heap → (g us ws).length = ps.length → BindsTo s fd ⟨us, ks.zip ws⟩ (ps.zip (g us ws))
  rel : ∀ {vs : List V} {us : List Value} {zs : List V} {ws : List Value}, Vals vs us → Vals zs ws → Vals (gV vs zs) (g us ws)
variable {g : List Value → List Value → List Value} {gV : List V → List V → List V}
end
structure bo (N P : List Str) (sc : Scope) : Prop where
  kind : sc.kind = .function
  co : sc.isCoroutine = false
  gen : sc.isGenerator = false
  nd : N.Nodup
  pre : N.take P.length = P
  par : ∀ x ∈ P, sc.names.lookup x = some .local ∨ sc.names.lookup x = some .cell
  nofree : ∀ y ∈ sc.names, y.2 ≠ .free
theorem va {kindOf : Str → Option NameKind} {x : Str} : ∀ {binds : List (Str × Value)} {m : Str → Option Value}, (∀ v, (x, v) ∉ binds) → bindL kindOf binds m x = m x
  | [], _, _ => rfl
  | (n, v) :: r, m, h => by
    unfold bindL
    rw [va fun w hw => h w (List.mem_cons_of_mem _ hw)]
    split
    · have : x ≠ n := by rintro rfl; exact h v List.mem_cons_self
      simp [this]
    · rfl
theorem vd {kindOf : Str → Option NameKind} {x : Str} : ∀ {binds : List (Str × Value)} {m : Str → Option Value}, (∀ v, (x, v) ∉ binds) → bindC kindOf binds m x = m x
  | [], _, _ => rfl
  | (n, v) :: r, m, h => by
    unfold bindC
    rw [vd fun w hw => h w (List.mem_cons_of_mem _ hw)]
    split
    · rfl
    · have : x ≠ n := by rintro rfl; exact h v List.mem_cons_self
      simp [this]
theorem uZ {kindOf : Str → Option NameKind} {x : Str} {v : Value} : ∀ {P : List Str} {vs : List Value} {i : Nat} {m : Str → Option Value}, P.Nodup → P[i]? = some x → vs[i]? = some v → kindOf x = some .local →
    bindL kindOf (P.zip vs) m x = some v
  | [], _, _, _, _, h, _, _ => by simp at h
  | _ :: _, [], _, _, _, _, h, _ => by simp at h
  | p :: P, w :: vs, 0, m, nd, h1, h2, hk => by
    simp at h1 h2; subst h1; subst h2
    show bindL kindOf ((p, w) :: P.zip vs) m p = _
    unfold bindL
    rw [va fun v hv => (List.nodup_cons.mp nd).1 (List.of_mem_zip hv).1, if_pos hk]
    simp
  | p :: P, w :: vs, i + 1, m, nd, h1, h2, hk => by
    show bindL kindOf ((p, w) :: P.zip vs) m x = _
    unfold bindL
    exact uZ (i := i) (List.nodup_cons.mp nd).2 (by simpa using h1) (by simpa using h2) hk
theorem uL {kindOf : Str → Option NameKind} {x : Str} {v : Value} : ∀ {P : List Str} {vs : List Value} {i : Nat} {m : Str → Option Value}, P.Nodup → P[i]? = some x → vs[i]? = some v → kindOf x ≠ some .local →
    bindC kindOf (P.zip vs) m x = some v
  | [], _, _, _, _, h, _, _ => by simp at h
  | _ :: _, [], _, _, _, _, h, _ => by simp at h
  | p :: P, w :: vs, 0, m, nd, h1, h2, hk => by
    simp at h1 h2; subst h1; subst h2
    show bindC kindOf ((p, w) :: P.zip vs) m p = _
    unfold bindC
    rw [vd fun v hv => (List.nodup_cons.mp nd).1 (List.of_mem_zip hv).1, if_neg hk]
    simp
  | p :: P, w :: vs, i + 1, m, nd, h1, h2, hk => by
    show bindC kindOf ((p, w) :: P.zip vs) m x = _
    unfold bindC
    exact uL (i := i) (List.nodup_cons.mp nd).2 (by simpa using h1) (by simpa using h2) hk
def start (N : List Str) (vs : List V) : St := vs.map some ++ List.replicate (N.length - vs.length) none
def oO (CX : CXT) (P : Program) (w : World) (K : PySem.W.Frag) (mg : Str → Option Value) (base : Heap) (N : List Str) (qual : Str) (scope : Scope) (f : Addr) (cd : Value) (A : Around) (outer : List Env) (s : Shared) (H : Hp) (E : XK) : Cx where
  prog := P
  w := w
  K := K
  mg := mg
  base := base
  A := A.deeper (envOfC qual scope s.heap.objs.size f cd)
  N := N
  s₀ := s
  H₀ := H
  env := envOfC qual scope s.heap.objs.size f cd
  outer := outer
  stack := envOfC qual scope s.heap.objs.size f cd :: outer
  ex := []
  calm := true
  fn := fun _ => true
  pn := []
  xe := fun e s' => wpAny (model P w) (A.deeper (envOfC qual scope s.heap.objs.size f cd)) (leaving (envOfC qual scope s.heap.objs.size f cd) e) (fun _ s'' => CX outer H s E e s'') (fun e' s'' => CX outer H s E e' s'') s'
theorem xE {sc : Scope} {n : Nat} {x : Str} (h : sc.names.lookup x = some .cell) : ∃ c, (cellsFrom n sc.names []).lookup x = some c := by
  have q := PySem.W.cellsFrom_some sc.names n [] (.inl h)
  exact Option.isSome_iff_exists.mp q
theorem A7 {CX : CXT} {P : Program} {w : World} {K : PySem.W.Frag} {mg : Str → Option Value} {base : Heap} {N ps : List Str} {qual : Str} {scope : Scope} {f : Addr} {cd : Value} {A : Around} {outer : List Env} {s s1 : Shared} {H : Hp} {E : XK} {us : List Value} {vs : List V}
    (S : bo N ps scope) (hd : A.handled = none) (e0 : sv P w K mg base A outer s H) (hl : vs.length = ps.length) (r : Vals vs us)
    (x : InCallC s s.heap.objs.size (bindL (envOfC qual scope s.heap.objs.size f cd).kindOf (ps.zip us) fun _ => none) (cellsFrom (s.heap.objs.size + 1) scope.names []) (bindC (envOfC qual scope s.heap.objs.size f cd).kindOf (ps.zip us) fun _ => none) s1) :
    Inv (oO CX P w K mg base N qual scope f cd A outer s H E) [] (start N vs) H s1 := by
  have hpl : ps.length ≤ N.length := by have := congrArg List.length S.pre; rw [List.length_take] at this; omega
  obtain ⟨h1, tk, rfl, hk⟩ := x.done
  have noA : ∀ b : Addr, b ∉ (oO CX P w K mg base N qual scope f cd A outer s H E).ex := fun b z => absurd (show b ∈ ([] : List Addr) from z) (by simp)
  refine ⟨⟨e0.mod, S.kind, rfl, rfl, Nat.le_refl _, fun y z c h1 h2 => ?_, fun y hy => ?_, fun y c _ h => ?_, fun _ => hd, Around.frames_deeper e0.frames, .inr ⟨rfl, rfl⟩, fun b z => absurd z (noA b), e0.bs, e0.bsz, fun b _ _ => noA b, fun b z => absurd z (noA b), e0.funs, e0.frf⟩,
    rfl, e0.bare, Un.kept hk, ⟨_, x.toInCall.ns, fun i y v h1 h2 h3 => ?_⟩, fun y c h => ⟨_, x.cell y c h⟩, e0.hok.fresh (Nat.le_refl _), fun y c h => ?_, fun p hp => absurd (show p ∈ ([] : List (Addr × Obj)) from hp) (by simp), e0.hok.kept hk, ?_⟩
  · exact name_of_addr x.apart (PySem.mem_of_lookup h1) (PySem.mem_of_lookup h2)
  · have hy : scope.names.lookup y = some .cell ∨ scope.names.lookup y = some .free := hy
    rcases hy with hy | hy
    · exact xE hy
    · exact absurd rfl (S.nofree _ (PySem.mem_of_lookup hy))
  · exact Nat.le_of_lt (x.above y c (PySem.mem_of_lookup h))
  · have hi : i < vs.length := by
      unfold start at h2
      by_cases hi : i < vs.length
      · exact hi
      · rw [List.getElem?_append_right (by simpa using hi)] at h2
        rw [List.getElem?_replicate] at h2
        split at h2 <;> cases h2
    have ha : vs[i]? = some v := by
      unfold start at h2
      rw [List.getElem?_append_left (by simpa using hi), List.getElem?_map] at h2
      cases e : vs[i]? with
      | none => rw [e] at h2; cases h2
      | some a => rw [e] at h2; cases h2; rfl
    obtain ⟨u, hu, rv⟩ := r.get ha
    have hp : ps[i]? = some y := by
      rw [← S.pre, List.getElem?_take_of_lt (by omega)]; exact h1
    have ndP : ps.Nodup := by rw [← S.pre]; exact S.nd.sublist (List.take_sublist _ _)
    refine ⟨u, rv, ?_⟩
    rcases S.par y (List.mem_of_getElem? hp) with k | k
    · exact .inl ⟨k, uZ ndP hp hu k⟩
    · obtain ⟨c, e⟩ := xE (n := s.heap.objs.size + 1) k
      refine .inr ⟨.inl k, c, e, ?_⟩
      have q := x.cell y c e
      rw [uL ndP hp hu (by show scope.names.lookup y ≠ _; rw [k]; decide)] at q
      exact q
  · exact e0.hok.fresh (Nat.le_of_lt (x.above y c (PySem.mem_of_lookup h)))
  · unfold start
    show _ = N.length
    rw [List.length_append, List.length_map, List.length_replicate]
    omega
theorem D7 {CX : CXT} {P : Program} {w : World} {K : PySem.W.Frag} {mg : Str → Option Value} {base : Heap} {k : Nat} {f : Addr} {name qual : Str} {params : Arguments} {body : List Stmt} {scope : Scope} {dV kV doc pm cdv ct oc : Value} {an od : Option Addr}
    {osl : Array (Option Value)} {N ps : List Str} {sp : Sp} (lk : K.lookup f = some ⟨oc, od, .func (PySem.W.fnOf name qual params body scope dV kV doc pm an cdv ct), osl⟩) (hcd : PySem.W.codeIn K cdv qual = true) (S : bo N ps scope)
    (len : ∀ vs H Q E, sp vs H Q E → vs.length = ps.length)
    (hbody : ∀ (A : Around) (outer : List Env) (s : Shared) (H : Hp) (vs : List V) (Q : VK) (E : XK), fb k (A.deeper (envOfC qual scope s.heap.objs.size f cdv)) → sp vs H Q E →
      ∃ t, PSs (oO CX P w K mg base N qual scope f cdv A outer s H E) body t ∧ t { nx := fun _ H' => Q .non H', rt := Q } (start N vs) H) :
    iE P w K mg base CX (k + 1) f (PySem.W.fnOf name qual params body scope dV kV doc pm an cdv ct) ps sp := by
  refine ⟨len, fun A outer s H args us vs Q E hr e0 hb r hsp => ?_⟩
  have hl := len _ _ _ _ hsp
  have KX : K.In s.heap := e0.mod.kin.keeps fun b o e => (e0.bs b o e).1
  have lim : s.heap.NoLimit := e0.mod.nolimit.keeps fun b o e => (e0.bs b o e).1
  have hkind : ∀ y ∈ ps.zip us, scope.names.lookup y.1 = some .local ∨ (scope.names.lookup y.1 = some .cell ∧ ((cellsFrom (s.heap.objs.size + 1) scope.names []).lookup y.1).isSome = true) := fun ⟨n, v⟩ hy => by
    rcases S.par n (List.of_mem_zip hy).1 with q | q
    · exact .inl q
    · exact .inr ⟨q, PySem.W.cellsFrom_some _ _ _ (.inl q)⟩
  refine codeAny_call_function hr.depth (KX _ _ lk) rfl S.co S.gen rfl (PySem.W.codeRec_of KX hcd) (hb _ _ _ _ ?_)
  refine wpAny_newFunctionEnv_cells S.kind hkind fun env he s1 x => ?_
  subst he
  refine ⟨lim.keeps x.toInCall.keep, codeAny_func ?_⟩
  obtain ⟨t, ht, hq⟩ := hbody A outer s H vs Q E (hr.deeper _) hsp
  have I : Inv (oO CX P w K mg base N qual scope f cdv A outer s H E) [] (start N vs) H s1 := A7 S hr.hd e0 hl r x
  refine wpAny_mono (ht [] s1 (start N vs) H _ I hq) (fun fl s' hs => ?_) fun e s' hs => hs
  have fin : ∀ {σ' : St} {H' : Hp} {v : V} {u : Value}, Inv (oO CX P w K mg base N qual scope f cdv A outer s H E) [] σ' H' s' → RelV v u → Q v H' → CE outer P w H s Q u s' :=
    fun {σ' H' v u} J rv q => ⟨v, H', J.os, J.bare, J.base, J.hok, rv, q⟩
  cases fl with
  | ret u =>
    obtain ⟨v, σ', H', J, rv, q⟩ := hs
    exact fin J rv q
  | next =>
    obtain ⟨σ', H', J, q⟩ := hs
    exact fin (v := V.non) (u := Value.none) J rfl q
  | brk =>
    obtain ⟨_, _, _, q⟩ := hs
    exact False.elim q
  | cont =>
    obtain ⟨_, _, _, q⟩ := hs
    exact False.elim q
end L2
namespace L2
open PySem PySem.Spec PyProof.Rows
section
variable {X : Cx} {x : Str} {p pos : Pos} {e : Expr} {es : List Expr} {t : TA} {id T : String} {r : List V → Hp → VK → Prop}
def tCB (r : List V → Hp → VK → Prop) (t : TA) : TE := fun σ H Q => t σ H fun vs H1 => r vs H1 Q
theorem aZ (hc : g7 X (.builtin id) r) (hg : Gl X x) (hm : X.mg x = none) (hv : bootBuiltins x = some (.builtin id)) (ha : PA X (e :: es) t) (hn : x ≠ "__name__" := by decide) (hdb : (x == ("__debug__" : Str)) = false := by decide)
    (he : starEach (e :: es) X.env = (false, eval e X.env) :: starEach es X.env := by rfl) (hpl : (backTo pos (starEach es X.env)).any (·.1) = false := by rfl) : PE X (.Call (.Name x p) (e :: es) [] pos) (tCB r t) := by
  intro pins s σ H Q I h
  refine wpAny_Call_Name_kw (mv I hg hm hv ?_ hn hdb)
  exact PyProof.Rows.callWith_builtin1 (thn (ha pos pins s σ H _ I h) fun us s1 ⟨vs, H1, I1, r1, q1⟩ => hc pins s1 σ H1 vs us Q I1 r1 q1) he hpl
theorem gb (hc : g7 X (.type T) r) (hg : Gl X x) (hm : X.mg x = none) (hv : bootBuiltins x = some (.type T)) (ha : PA X (e :: es) t) (hn : x ≠ "__name__" := by decide) (hdb : (x == ("__debug__" : Str)) = false := by decide)
    (he : starEach (e :: es) X.env = (false, eval e X.env) :: starEach es X.env := by rfl) (hpl : (backTo pos (starEach es X.env)).any (·.1) = false := by rfl) : PE X (.Call (.Name x p) (e :: es) [] pos) (tCB r t) := by
  intro pins s σ H Q I h
  refine wpAny_Call_Name_kw (mv I hg hm hv ?_ hn hdb)
  exact PyProof.Rows.callWith_type1 (thn (ha pos pins s σ H _ I h) fun us s1 ⟨vs, H1, I1, r1, q1⟩ => hc pins s1 σ H1 vs us Q I1 r1 q1) he hpl
end
end L2
namespace HT
open PySem PyProof.Rows
def lexLt : List Int → List Int → Bool
  | [], [] => false
  | [], _ :: _ => true
  | _ :: _, [] => false
  | x :: xs, y :: ys => if x = y then lexLt xs ys else decide (x < y)
theorem kU (x y : Int) (xs ys : List Int) : lexLt (x :: xs) (y :: ys) = if x = y then lexLt xs ys else decide (x < y) := rfl
theorem CI (A : Around) (s : Shared) (a : Int) (t : Tok) (c : Int) (u : Tok) : ∃ e, SeqAt.EqAt A s (.int a t) (.int c u) e ∧ (e = true ↔ a = c) :=
  ⟨(a == c), SeqAt.EqAt.int_int a t c u, by simp⟩
theorem Dr (A : Around) (s : Shared) (a : Int) (t : Tok) (c : Int) (u : Tok) (prog : Program) (w : World) (E : Value → Shared → Prop) (Q : Value → Shared → Prop) (h : Q (.bool (decide (a < c))) s) :
    wpAny (model prog w) A (richCompare .Lt (.int a t) (.int c u)) Q E s :=
  (PyProof.Rows.lt_int h : wpAny (model prog w) A (compareOp .Lt (.int a t) (.int c u)) Q E s)
section
open PySem.SeqAt
open PySem.AutoSeq1 (wpAny_loadPart')
open PySem.MeetsSeq PySem.MeetsSeq2 PySem.MeetsSeq3
end
section
variable {prog : Program} {w : World} {A : Around} {E : Value → Shared → Prop} {s : Shared}
def sIx (n d : Nat) : Option Int → Nat
  | none => d
  | some v => if v < 0 then (v + (n : Int)).toNat else min v.toNat n
theorem xi (n d : Nat) : sIx n d none = d := rfl
theorem qi (n d k : Nat) : sIx n d (some (k : Int)) = min k n := by
  show (if (k : Int) < 0 then ((k : Int) + (n : Int)).toNat else min (k : Int).toNat n) = min k n
  rw [if_neg (by omega), Int.toNat_natCast]
end
end HT
namespace L2
open PySem PySem.Spec PyProof.Rows
abbrev TO := St → Hp → (Option Int → Hp → Prop) → Prop
def PO (X : Cx) (e : Option Expr) (t : TO) : Prop :=
  ∀ (pins : List (Addr × Obj)) (s : Shared) (σ : St) (H : Hp) (Q : Option Int → Hp → Prop), Inv X pins σ H s → t σ H Q →
    wpAny (model X.prog X.w) X.A (evalPart e X.env) (fun u s' => ∃ o H', Inv X pins σ H' s' ∧ IsPart u o ∧ Q o H') X.xe s
def yU : TO := fun _ H Q => Q none H
def D1 (t : TE) : TO := fun σ H Q => t σ H fun x H1 => ∃ i, x = .int i ∧ Q (some i) H1
section
variable {X : Cx} {e : Expr} {te : TE} {lo hi : Option Expr} {tl th : TO} {pos p2 : Pos}
theorem nk : PO X none yU := by
  intro pins s σ H Q I h
  rw [evalPart_none]
  exact wpAny_pure ⟨none, H, I, .none, h⟩
theorem iW (h : PE X e te) : PO X (some e) (D1 te) := by
  intro pins s σ H Q I hw
  rw [evalPart_some]
  refine thn (h pins s σ H _ I hw) fun u s1 ⟨x, H1, I1, r1, q1⟩ => ?_
  obtain ⟨i, rfl, q⟩ := q1
  obtain ⟨t, rfl⟩ := r1
  exact ⟨some i, H1, I1, .int i t, q⟩
def SlR (X : Cx) (r : V → Option Int → Option Int → Hp → VK → Prop) : Prop :=
  ∀ (pins : List (Addr × Obj)) (s : Shared) (σ : St) (H : Hp) (x : V) (v vl vu : Value) (lo hi : Option Int) (sl : Addr) (Q : VK), Inv X pins σ H s → RelV x v → s.heap.IsSliceOf sl vl vu .none → IsPart vl lo → IsPart vu hi → r x lo hi H Q →
    ∃ T id, typeLookup (.type T) "__getitem__" = pure (some (.builtin id)) ∧ s.TypeIs v T ∧ wpAny (model X.prog X.w) X.A (getItem v (.ref sl)) (EP X pins σ Q) X.xe s
theorem SlR.or {r r' : V → Option Int → Option Int → Hp → VK → Prop} (h : SlR X r) (h' : SlR X r') : SlR X (fun x lo hi H Q => r x lo hi H Q ∨ r' x lo hi H Q) := by
  intro pins s σ H x v vl vu lo hi sl Q I rx hs pl pu q
  rcases q with q | q
  · exact h pins s σ H x v vl vu lo hi sl Q I rx hs pl pu q
  · exact h' pins s σ H x v vl vu lo hi sl Q I rx hs pl pu q
def tSl (r : V → Option Int → Option Int → Hp → VK → Prop) (te : TE) (tl th : TO) : TE := fun σ H Q => te σ H fun x H1 => tl σ H1 fun l H2 => th σ H2 fun u H3 => r x l u H3 Q
theorem jt {r : V → Option Int → Option Int → Hp → VK → Prop} (hr : SlR X r) (he : PE X e te) (hl : PO X lo tl) (hu : PO X hi th) : PE X (.Subscript e (.Slice lo hi none p2) pos) (tSl r te tl th) := by
  intro pins s σ H Q I h
  refine Subscript_ (thn (he pins s σ H _ I h) fun v s1 ⟨x, H1, I1, r1, q1⟩ => ?_)
  refine wpAny_Slice (thn (hl pins s1 σ H1 _ I1 q1) fun vl s2 ⟨l, H2, I2, pl, q2⟩ => thn (hu pins s2 σ H2 _ I2 q2) fun vu s3 ⟨u, H3, I3, pu, q3⟩ => ?_)
  rw [evalPart_none]
  refine wpAny_pure ?_
  have I4 : Inv X pins σ H3 { s3 with heap := s3.heap.push { cls := .type "slice", data := .fields #[vl, vu, .none] } } := I3.kept (t' := s3.toks) fun b ob q => Heap.get?_push_of_some _ q
  obtain ⟨T, id, hT, ht, hg⟩ := hr pins { s3 with heap := s3.heap.push { cls := .type "slice", data := .fields #[vl, vu, .none] } } σ H3 x v vl vu l u s3.heap.objs.size Q I4 r1 (Heap.IsSliceOf.new ..) pl pu q3
  show wpAny (model X.prog X.w) X.A (subscriptTail e (.Slice lo hi none p2) v (.ref s3.heap.objs.size)) (EP X pins σ Q) X.xe { s3 with heap := s3.heap.push { cls := .type "slice", data := .fields #[vl, vu, .none] } }
  exact tail_any (ops := [.ref s3.heap.objs.size, v]) ht hT hg (by with_unfolding_all rfl)
def uj (xs : List V) (lo hi : Option Int) : List V := (xs.drop (HT.sIx xs.length 0 lo)).take (HT.sIx xs.length xs.length hi - HT.sIx xs.length 0 lo)
theorem yA (xs : List V) (lo hi : Option Int) : (uj xs lo hi).length ≤ xs.length := by
  unfold uj
  rw [List.length_take, List.length_drop]
  omega
end
end L2
namespace L2
open PySem PySem.Spec PyProof.Rows
def ixN (n : Nat) (i : Int) : Option Nat := if 0 ≤ i then (if i < n then some i.toNat else none) else if -(n : Int) ≤ i then some (i + n).toNat else none
def atI {α : Type} (xs : List α) (i : Int) : Option α := (ixN xs.length i).bind fun j => xs[j]?
theorem yQ {n : Nat} {i : Int} {j : Nat} (h : ixN n i = some j) : seqIndex? i n = some j ∧ j < n ∧ -(n : Int) ≤ i ∧ i < n := by
  unfold ixN at h
  by_cases h0 : 0 ≤ i
  · rw [if_pos h0] at h
    by_cases h1 : i < n
    · rw [if_pos h1] at h
      have e : i.toNat = j := Option.some.inj h
      exact ⟨by rw [seqIndex_of h0 h1, e], by omega, by omega, h1⟩
    · rw [if_neg h1] at h; cases h
  · rw [if_neg h0] at h
    by_cases h1 : -(n : Int) ≤ i
    · rw [if_pos h1] at h
      have e : (i + n).toNat = j := Option.some.inj h
      exact ⟨by rw [seqIndex_neg (by omega) h1, e], by omega, h1, by omega⟩
    · rw [if_neg h1] at h; cases h
theorem tO {α : Type} {xs : List α} {i : Int} {v : α} (h : atI xs i = some v) : ∃ j, seqIndex? i xs.length = some j ∧ xs[j]? = some v ∧ j < xs.length ∧ -(xs.length : Int) ≤ i ∧ i < xs.length := by
  unfold atI at h
  cases e : ixN xs.length i with
  | none => rw [e] at h; cases h
  | some j =>
    rw [e] at h
    obtain ⟨h1, h2, h3, h4⟩ := yQ e
    exact ⟨j, h1, h, h2, h3, h4⟩
def EO (b : Expr) : Prop := ∀ o i, subscripted b false o i = operate [o, i] (getItem o i)
def IxR (X : Cx) (r : R2) : Prop :=
  ∀ (value slice : Expr) (pins : List (Addr × Obj)) (s : Shared) (σ : St) (H : Hp) (x y : V) (v u : Value) (Q : VK), Inv X pins σ H s → RelV x v → RelV y u → r x y H Q →
    subscripted slice false v u = operate [v, u] (getItem v u) → wpAny (model X.prog X.w) X.A (subscriptTail value slice v u) (EP X pins σ Q) X.xe s
def MtR (X : Cx) (id : String) (r : V → List V → Hp → VK → Prop) : Prop :=
  ∀ (pins : List (Addr × Obj)) (s : Shared) (σ : St) (H : Hp) (x : V) (xs : List V) (v : Value) (us : List Value) (Q : VK), Inv X pins σ H s → RelV x v → Vals xs us → r x xs H Q →
    wpAny (model X.prog X.w) X.A (call (.builtin id) (v :: us)) (EP X pins σ Q) X.xe s
section
variable {X : Cx} {a b : Expr} {ta tb : TE} {pos : Pos}
theorem IxR.or {r r' : R2} (h : IxR X r) (h' : IxR X r') : IxR X (fun x y H Q => r x y H Q ∨ r' x y H Q) := by
  intro value slice pins s σ H x y v u Q I rx ry q hs
  rcases q with q | q
  · exact h value slice pins s σ H x y v u Q I rx ry q hs
  · exact h' value slice pins s σ H x y v u Q I rx ry q hs
theorem MtR.or {id : String} {r r' : V → List V → Hp → VK → Prop} (h : MtR X id r) (h' : MtR X id r') : MtR X id (fun x xs H Q => r x xs H Q ∨ r' x xs H Q) := by
  intro pins s σ H x xs v us Q I rx rs q
  rcases q with q | q
  · exact h pins s σ H x xs v us Q I rx rs q
  · exact h' pins s σ H x xs v us Q I rx rs q
theorem bQ {r : R2} (hr : IxR X r) (ha : PE X a ta) (hb : PE X b tb) (hs : EO b) : PE X (.Subscript a b pos) (tOp r ta tb) := by
  intro pins s σ H Q I h
  exact Subscript_ (Dq ha hb I h fun v u s2 x y H2 I2 rx ry q => hr a b pins s2 σ H2 x y v u Q I2 rx ry q (hs _ _))
def Fw (K : PySem.W.Frag) : R2 := fun x y H Q => ∃ p xs i v, x = .ref p ∧ y = .int i ∧ SqL K H p xs ∧ atI xs i = some v ∧ Q v H
def Gf (K : PySem.W.Frag) : R2 := fun x y H Q => ∃ p xs i v, x = .ref p ∧ y = .int i ∧ SqT K H p xs ∧ atI xs i = some v ∧ Q v H
def Gk : R2 := fun x y H Q => ∃ z i c, x = .str z ∧ y = .int i ∧ z.length ≤ sizeLine ∧ atI z.cps.toList i = some c ∧ Q (.str ⟨#[c]⟩) H
theorem Ez : IxR X (Fw X.K) := by
  intro value slice pins s σ H x y v u Q I rx ry h hs
  obtain ⟨p, xs, i, z, rfl, rfl, hq, he, q⟩ := h
  cases rx
  obtain ⟨t, rfl⟩ := ry
  obtain ⟨its, r, pl, hz⟩ := I.list hq
  obtain ⟨j, h1, h2, h3, h4, h5⟩ := tO he
  obtain ⟨w, ew, rw'⟩ := r.get h2
  have hl := r.length
  have hn := nj
  have fin : EP X pins σ Q w s := ⟨z, H, I, rw', q⟩
  by_cases h0 : 0 ≤ i
  · have hj : i.toNat = j := by
      rw [seqIndex_of h0 h5] at h1
      exact Option.some.inj h1
    exact item_listR pl.isList h0 (by omega) (by rw [hj]; simpa using ew) fin hs
  · have hj : (i + (its.toArray.size : Int)).toNat = j := by
      rw [seqIndex_neg (by omega) h4] at h1
      rw [List.size_toArray, ← hl]
      exact Option.some.inj h1
    exact subscriptTail_builtinR (x := w) pl.isList.typeIs slot_list_getitem.lookup
      (wpAny_getItem_list_neg (Q := fun r s' => r = w ∧ EP X pins σ Q r s') pl.isList (by omega) (by rw [List.size_toArray] <;> omega) (by omega) (by rw [hj]; simpa using ew) ⟨rfl, fin⟩) hs
theorem Fp : IxR X (Gf X.K) := by
  intro value slice pins s σ H x y v u Q I rx ry h hs
  obtain ⟨p, xs, i, z, rfl, rfl, hq, he, q⟩ := h
  cases rx
  obtain ⟨t, rfl⟩ := ry
  obtain ⟨its, r, pl, hz⟩ := I.tuple hq
  obtain ⟨j, h1, h2, h3, h4, h5⟩ := tO he
  obtain ⟨w, ew, rw'⟩ := r.get h2
  have hl := r.length
  have hn := nj
  have fin : EP X pins σ Q w s := ⟨z, H, I, rw', q⟩
  exact subscriptTail_builtinR (x := w) pl.typeIs slot_tuple_getitem.lookup
    (getItem_tuple (j := j) (Q := fun r s' => r = w ∧ EP X pins σ Q r s') pl (by omega) (by omega) (by rw [List.size_toArray, ← hl]; exact h1) (by simpa using ew) ⟨rfl, fin⟩) hs
theorem GS : IxR X Gk := by
  intro value slice pins s σ H x y v u Q I rx ry h hs
  obtain ⟨z, i, c, rfl, rfl, hz, he, q⟩ := h
  obtain ⟨t, rfl⟩ := rx
  obtain ⟨t', rfl⟩ := ry
  obtain ⟨j, h1, h2, h3, h4, h5⟩ := tO he
  have hl : z.cps.toList.length = z.length := by simp [Str.length]
  rw [hl] at h1 h4 h5
  have hn := nj
  exact tail_any (typeIs_str s z t) slot_str_getitem.lookup (getItem_str (c := c) (by
    have e1 : decide (i < -(2 ^ 63 : Int)) = false := decide_eq_false (by omega)
    have e2 : decide (i ≥ 2 ^ 63) = false := decide_eq_false (by omega)
    rw [e1, e2, Bool.or_false]) (by rw [h1]; simpa using h2) ⟨.str ⟨#[c]⟩, H, I.tok _, ⟨_, rfl⟩, q⟩) hs
def rIx (K : PySem.W.Frag) : R2 := fun x y H Q => Fw K x y H Q ∨ Gf K x y H Q ∨ Gk x y H Q
theorem bu : IxR X (rIx X.K) := Ez.or (Fp.or GS)
theorem Al (its : List Value) (n j : Nat) (u : Value) : Obj.mapSeq (·.setIfInBounds j u) { cls := .type "list", data := .seq its.toArray n } = { cls := .type "list", data := .seq (its.set j u).toArray n } := by
  simp [Obj.mapSeq]
theorem Inv.lst {pins : List (Addr × Obj)} {σ : St} {H : Hp} {s : Shared} {p : Addr} {xs : List V} (I : Inv X pins σ H s) (h : H p = some (.lst xs)) :
    ∃ (its : List Value) (n : Nat), Vals xs its ∧ s.heap.get? p = some { cls := .type "list", data := .seq its.toArray n } ∧ xs.length ≤ sizeLine := by
  obtain ⟨z, its, n, r, e⟩ := I.hok p _ h
  exact ⟨its, n, r, e, z⟩
theorem Inv.lstUpd {pins : List (Addr × Obj)} {σ : St} {H : Hp} {s : Shared} {p : Addr} {xs ys : List V} {its its' : List Value} {n n' : Nat} {f : Obj → Obj} (I : Inv X pins σ H s) (h : H p = some (.lst xs))
    (ho : s.heap.get? p = some { cls := .type "list", data := .seq its.toArray n }) (hf : f { cls := .type "list", data := .seq its.toArray n } = { cls := .type "list", data := .seq its'.toArray n' }) (r : Vals ys its') (hz : ys.length ≤ sizeLine) (t : Nat) :
    Inv X pins σ (upd H p (.lst ys)) { s with heap := s.heap.update p f, toks := t } := by
  have e : (s.heap.update p f).get? p = some { cls := .type "list", data := .seq its'.toArray n' } := by
    rw [Heap.get?_update_self f ho (by rw [hf] <;> rfl), hf]
  refine I.write (x := p) (e := p) (by rw [h]; trivial) (.inl rfl) (fun b u hb q => (Heap.get?_update_other _ _ (Ne.symm hb)).trans q) ⟨_, e⟩ ?_
  exact ⟨hz, its', n', r, e⟩
def D4 : V → V → V → Hp → (Hp → Prop) → Prop := fun o i v H Q => ∃ p xs k j, o = .ref p ∧ i = .int k ∧ H p = some (.lst xs) ∧ ixN xs.length k = some j ∧ Q (upd H p (.lst (xs.set j v)))
theorem set_list : GH X D4 := by
  intro pins s σ H o i v ov iv u Q I ro ri rv h
  obtain ⟨p, xs, k, j, rfl, rfl, hp, hj, q⟩ := h
  cases ro
  obtain ⟨t, rfl⟩ := ri
  obtain ⟨its, n, r, ho, hz⟩ := I.lst hp
  obtain ⟨h1, h2, h3, h4⟩ := yQ hj
  have hl := r.length
  have hn := nj
  have I' : Inv X pins σ (upd H p (.lst (xs.set j v))) { s with heap := s.heap.update p (Obj.mapSeq (·.setIfInBounds j u)) } :=
    I.lstUpd hp ho (Al its n j u) (r.set rv j) (by rw [List.length_set]; exact hz) s.toks
  by_cases h0 : 0 ≤ k
  · have hk : k.toNat = j := by
      rw [seqIndex_of h0 h4] at h1
      exact Option.some.inj h1
    exact PySem.W.ki_setAt ho h0 (by omega) (by rw [List.size_toArray, ← hl]; exact h4) (by rw [hk]; exact ⟨_, I', q⟩)
  · have hk : (k + (its.toArray.size : Int)).toNat = j := by
      rw [seqIndex_neg (by omega) h3] at h1
      rw [List.size_toArray, ← hl]
      exact Option.some.inj h1
    exact PySem.W.ki_setBack ho (by omega) (by rw [List.size_toArray, ← hl]; exact h3) (by omega) (by rw [hk]; exact ⟨_, I', q⟩)
theorem wc (lo hi : Option Int) (n : Nat) : (sliceBounds lo hi none n).1 = ((HT.sIx n 0 lo : Nat) : Int) ∧ (sliceBounds lo hi none n).2.1 = ((HT.sIx n n hi : Nat) : Int) ∧ (sliceBounds lo hi none n).2.2 = 1 := by
  refine ⟨?_, ?_, rfl⟩
  · cases lo with
    | none => simp [sliceBounds, HT.sIx]
    | some i =>
      simp only [sliceBounds, HT.sIx, Option.getD_none, show (1 : Int) > 0 by decide, if_true]
      by_cases h : i < 0
      · simp only [h, if_true] <;> omega
      · simp only [h, if_false] <;> omega
  · cases hi with
    | none => simp [sliceBounds, HT.sIx]
    | some i =>
      simp only [sliceBounds, HT.sIx, Option.getD_none, show (1 : Int) > 0 by decide, if_true]
      by_cases h : i < 0
      · simp only [h, if_true] <;> omega
      · simp only [h, if_false] <;> omega
theorem vJ (its : List Value) (lo hi : Option Int) : slicePick its.toArray lo hi none = ((its.drop (HT.sIx its.length 0 lo)).take (HT.sIx its.length its.length hi - HT.sIx its.length 0 lo)).toArray := by
  obtain ⟨h1, h2, h3⟩ := wc lo hi its.toArray.size
  unfold slicePick
  rw [h1, h2, h3]
  simp only [sliceRange_one, pick_run, List.size_toArray] <;> rfl
def GI (K : PySem.W.Frag) : V → Option Int → Option Int → Hp → VK → Prop := fun x lo hi H Q => ∃ a xs, x = .ref a ∧ SqL K H a xs ∧ ∀ p, H p = none → Q (.ref p) (upd H p (.lst (uj xs lo hi)))
theorem j7 : SlR X (GI X.K) := by
  intro pins s σ H x v vl vu lo hi sl Q I rx hs pl pu h
  obtain ⟨a, xs, rfl, hx, q⟩ := h
  cases rx
  obtain ⟨its, r, ht, hz⟩ := I.list hx
  have hlen := r.length
  refine ⟨"list", _, slot_list_getitem.lookup, ht.isList.typeIs, ?_⟩
  refine wpAny_getItem_list_slice ht.isList hs pl pu .none (by simp) ?_ (by rw [List.size_toArray] <;> omega)
  rw [vJ, ← hlen]
  refine ⟨.ref s.heap.objs.size, _, I.laid (t' := s.toks) (o := .lst (uj xs lo hi)) (fun b ob q => Heap.get?_push_of_some _ q) (Nat.le_refl _) ?_, rfl, q _ (I.hok.fresh (Nat.le_refl _))⟩
  exact ⟨Nat.le_trans (yA xs lo hi) hz, _, 0, (r.drop (HT.sIx xs.length 0 lo)).take (HT.sIx xs.length xs.length hi - HT.sIx xs.length 0 lo), Heap.get?_push_size _ rfl⟩
theorem g7.or {f : Value} {r r' : List V → Hp → VK → Prop} (h : g7 X f r) (h' : g7 X f r') : g7 X f (fun xs H Q => r xs H Q ∨ r' xs H Q) := by
  intro pins s σ H xs us Q I rs q
  rcases q with q | q
  · exact h pins s σ H xs us Q I rs q
  · exact h' pins s σ H xs us Q I rs q
theorem eJ : g7 X (.type "list") (fun xs H Q => ∃ p ys, xs = [.ref p] ∧ (SqL X.K H p ys ∨ SqT X.K H p ys) ∧ ∀ l, H l = none → Q (.ref l) (upd H l (.lst ys))) := by
  intro pins s σ H xs us Q I r h
  obtain ⟨p, ys, rfl, hq, q⟩ := h
  obtain ⟨u, rfl, rx⟩ := vals1 r
  cases rx
  have fin : ∀ (its : List Value), Vals ys its → ys.length ≤ sizeLine → ∀ (h' : Heap) (c' : Nat), (∀ b o', s.heap.get? b = some o' → h'.get? b = some o') →
      h'.get? s.heap.objs.size = some { cls := .type "list", dict := none, data := .seq its.toArray c', slots := #[] } → EP X pins σ Q (.ref s.heap.objs.size) { s with heap := h' } := fun its r' hz h' c' kp e =>
    ⟨.ref s.heap.objs.size, _, I.laid (t' := s.toks) kp (Nat.le_refl _) (show gh X.prog X.w _ h' _ (.lst ys) from ⟨hz, its, c', r', e⟩), rfl, q _ (I.hok.fresh (Nat.le_refl _))⟩
  rcases hq with hq | hq
  · obtain ⟨its, r', pl, hz⟩ := I.list hq
    have hlen := r'.length
    obtain ⟨o, ho, hc, n, hd⟩ := pl.isList
    exact call_list_seq p (.inl rfl) ho hc hd (fun h' c' kp e => fin its r' hz h' c' kp e) (by simp only [List.size_toArray] <;> omega)
  · obtain ⟨its, r', pl, hz⟩ := I.tuple hq
    have hlen := r'.length
    obtain ⟨o, ho, hc, n, hd⟩ := pl
    exact call_list_seq p (.inr rfl) ho hc hd (fun h' c' kp e => fin its r' hz h' c' kp e) (by simp only [List.size_toArray] <;> omega)
def tyV (K : PySem.W.Frag) (T : String) (x : V) (H : Hp) : Prop := match x with
  | .str _ => T = "str"
  | .int _ => T = "int"
  | .ref p => (T = "list" ∧ ∃ xs, SqL K H p xs) ∨ (T = "tuple" ∧ ∃ o, K.lookup p = some o ∧ o.cls = .type "tuple" ∧ o.dict = none) ∨
      (T = "dict" ∧ ((∃ kvs, H p = some (.dK kvs)) ∨ ∃ kvs, H p = some (.dT kvs))) ∨ (T = "set" ∧ ∃ S n, H p = some (.set S n))
  | _ => False
theorem BR {pins : List (Addr × Obj)} {σ : St} {H : Hp} {s : Shared} {T : String} {x : V} {v : Value} (I : Inv X pins σ H s) (r : RelV x v) (ty : tyV X.K T x H) :
    s.TypeIs v T ∧ ∀ a, v = .ref a → ∃ ob, s.heap.get? a = some ob ∧ ob.dict = none := by
  cases x with
  | str z =>
    obtain ⟨t, rfl⟩ := r
    cases (show T = "str" from ty)
    exact ⟨typeIs_str s z t, fun _ e => nomatch e⟩
  | int i =>
    obtain ⟨t, rfl⟩ := r
    cases (show T = "int" from ty)
    exact ⟨typeIs_int s i t, fun _ e => nomatch e⟩
  | ref p =>
    cases r
    rcases ty with ⟨rfl, xs, hq⟩ | ⟨rfl, o, hk, hc, hd⟩ | ⟨rfl, hk⟩ | ⟨rfl, S, n, hk⟩
    · obtain ⟨its, _, pl, _⟩ := I.list hq
      refine ⟨pl.isList.typeIs, fun a e => ?_⟩
      cases e
      obtain ⟨o, n, e, c, hd, _⟩ := pl
      exact ⟨o, e, hd⟩
    · refine ⟨⟨o, I.kIn p o hk, hc⟩, fun a e => ?_⟩
      cases e
      exact ⟨o, I.kIn _ o hk, hd⟩
    · have z : ∃ o, s.heap.get? p = some o ∧ o.ExactDict := by
        rcases hk with ⟨kvs, hk⟩ | ⟨kvs, hk⟩
        · obtain ⟨_, _, _, _, o, _, _, e, ex, _⟩ := I.hok p _ hk
          exact ⟨o, e, ex⟩
        · obtain ⟨_, _, _, _, o, _, _, e, ex, _⟩ := I.hok p _ hk
          exact ⟨o, e, ex⟩
      obtain ⟨o, e, ex⟩ := z
      refine ⟨⟨o, e, ex.1⟩, fun a e2 => ?_⟩
      cases e2
      exact ⟨o, e, ex.2.1⟩
    · obtain ⟨o, _, _, _, e, ex, _⟩ := I.hok p _ hk
      refine ⟨⟨o, e, ex.1⟩, fun a e2 => ?_⟩
      cases e2
      exact ⟨o, e, ex.2.1⟩
  | _ => exact False.elim ty
def DJ (K : PySem.W.Frag) (T : String) (r : V → List V → Hp → VK → Prop) (to : TE) : TE := fun σ H Q => to σ H fun x H1 => tyV K T x H1 ∧ r x [] H1 Q
def tBM (K : PySem.W.Frag) (T : String) (r : V → List V → Hp → VK → Prop) (to : TE) (t : TA) : TE := fun σ H Q => to σ H fun x H1 => tyV K T x H1 ∧ t σ H1 fun xs H2 => r x xs H2 Q
variable {o e : Expr} {es : List Expr} {to : TE} {t : TA} {name : Str} {apos cpos : Pos} {T id : String} {r : V → List V → Hp → VK → Prop}
theorem FD (pa : PlainAttrs T) (slot : Slot T name id) (hty : typeOf (.builtin id) = pure (.type "method_descriptor")) (hm : MtR X id r) (ho : PE X o to)
    (hbase : attributeBase o name X.env (eval o X.env) = eval o X.env := by rfl) (hline : (apos.endLine == cpos.line) = true := by rfl) : PE X (.Call (.Attribute o name apos) [] [] cpos) (DJ X.K T r to) := by
  intro pins s σ H Q I h
  refine wpAny_Call_method0_late hbase hline (thn (ho pins s σ H _ I h) fun v s1 ⟨x, H1, I1, r1, ty, q1⟩ => ?_)
  obtain ⟨h1, h2⟩ := BR I1 r1 ty
  exact ⟨T, id, pa, slot, hty, h1, h2, Calls.callWith_builtin rfl (PySem.evalArgs_none (hm pins s1 σ H1 x [] v [] Q I1 r1 .nil q1))⟩
theorem nV (pa : PlainAttrs T) (slot : Slot T name id) (hty : typeOf (.builtin id) = pure (.type "method_descriptor")) (hm : MtR X id r) (ho : PE X o to) (ha : PA X (e :: es) t)
    (hbase : attributeBase o name X.env (eval o X.env) = eval o X.env := by rfl)
    (hfew : ((backTo cpos (starEach (e :: es) X.env)).all (fun x => !x.1) && (backToKw cpos (keywordEach [] X.env)).all (fun x => x.1.isSome)
      && decide ((e :: es).length + ([] : List Keyword).length + (if ([] : List Keyword).isEmpty then 0 else 1) < 30)) = true := by rfl)
    (hline : (apos.endLine == cpos.line) = true := by rfl) (hs : starEach (e :: es) X.env = (false, eval e X.env) :: starEach es X.env := by rfl) (hplain : (backTo cpos (starEach es X.env)).any (·.1) = false := by rfl) :
    PE X (.Call (.Attribute o name apos) (e :: es) [] cpos) (tBM X.K T r to t) := by
  intro pins s σ H Q I h
  refine wpAny_Call_method_late hbase hfew hline rfl (thn (ho pins s σ H _ I h) fun v s1 ⟨x, H1, I1, r1, ty, q1⟩ => ?_)
  obtain ⟨h1, h2⟩ := BR I1 r1 ty
  refine ⟨T, id, pa, slot, hty, h1, h2, ?_⟩
  have hA := ha cpos pins s1 σ H1 _ I1 q1
  rw [hs] at hA ⊢
  refine Calls.callWith_builtin (by show (false || (backTo cpos (starEach es X.env)).any (·.1)) = false; rw [hplain] <;> rfl) (Calls.evalArgs_plain ?_)
  exact thn hA fun us s2 ⟨vs, H2, I2, r2, q2⟩ => hm pins s2 σ H2 x vs v us Q I2 r1 r2 q2
end
end L2
namespace L2
open PySem PySem.Spec PyProof.Rows
def MtM (X : Cx) (id : String) (r : V → List V → Hp → VK → Prop) : Prop :=
  ∀ (pins : List (Addr × Obj)) (s : Shared) (σ : St) (H : Hp) (x : V) (xs : List V) (v : Value) (us : List Value) (Q : VK), Inv X pins σ H s → RelV x v → Vals xs us → r x xs H Q →
    wpAny (model X.prog X.w) X.A (call (.builtin id) (v :: us)) (EP X pins σ Q) X.xe s
theorem Vals.one : ∀ {x : V} {us : List Value}, Vals [x] us → ∃ u, us = [u] ∧ RelV x u
  | _, _, .cons r .nil => ⟨_, rfl, r⟩
theorem Vals.two : ∀ {x y : V} {us : List Value}, Vals [x, y] us → ∃ u v, us = [u, v] ∧ RelV x u ∧ RelV y v
  | _, _, _, .cons r (.cons q .nil) => ⟨_, _, rfl, r, q⟩
theorem Vals.zero : ∀ {us : List Value}, Vals [] us → us = []
  | _, .nil => rfl
theorem Vals.dropLast {xs : List V} {us : List Value} (h : Vals xs us) : Vals xs.dropLast us.dropLast := by
  induction h with
  | nil => exact .nil
  | cons r t ih =>
    cases t with
    | nil => exact .nil
    | cons q t' => exact .cons r ih
theorem Vals.eraseIdx : ∀ {xs : List V} {us : List Value} (i : Nat), Vals xs us → Vals (xs.eraseIdx i) (us.eraseIdx i)
  | _, _, _, .nil => .nil
  | _, _, 0, .cons _ t => t
  | _, _, i + 1, .cons r t => .cons r (Vals.eraseIdx i t)
theorem Vals.rep {xs : List V} {us : List Value} (h : Vals xs us) : ∀ k : Nat, Vals (List.replicate k xs).flatten (List.replicate k us).flatten
  | 0 => .nil
  | k + 1 => by
    rw [List.replicate_succ, List.replicate_succ, List.flatten_cons, List.flatten_cons]
    exact Vals.append h (Vals.rep h k)
theorem Aj {α : Type} (l : List α) : l.eraseIdx (l.length - 1) = l.dropLast := by
  induction l with
  | nil => rfl
  | cons a r ih =>
    cases r with
    | nil => rfl
    | cons b r =>
      have e : (a :: b :: r).length - 1 = ((b :: r).length - 1) + 1 := by
        have h1 : (a :: b :: r).length = r.length + 2 := rfl
        have h2 : (b :: r).length = r.length + 1 := rfl
        omega
      rw [e, List.eraseIdx_cons_succ, ih]
      all_goals rfl
theorem foldl_rep (its : List Value) : ∀ (k : Nat) (acc : List Value),
    List.foldl (fun x1 x2 => x1 ++ x2) acc.toArray (List.replicate k its.toArray) = (acc ++ (List.replicate k its).flatten).toArray
  | 0, acc => by simp
  | k + 1, acc => by
    have e : acc.toArray ++ its.toArray = (acc ++ its).toArray := by simp
    have e2 : (acc ++ its) ++ (List.replicate k its).flatten = acc ++ (List.replicate (k + 1) its).flatten := by
      rw [List.replicate_succ, List.flatten_cons, List.append_assoc]
    rw [← e2, ← foldl_rep its k (acc ++ its), ← e, List.replicate_succ, List.foldl_cons]
section
variable {X : Cx} {pins : List (Addr × Obj)} {σ : St} {H : Hp} {s : Shared} {l b : Addr} {xs ys zs : List V}
theorem Inv.lset {its its' : List Value} {n : Nat} {f : Array Value → Array Value} {t' : Nat} (I : Inv X pins σ H s) (hH : H l = some (.lst xs))
    (e : s.heap.get? l = some { cls := .type "list", data := .seq its.toArray n }) (hf : f its.toArray = its'.toArray) (hv : Vals ys its') (hz : ys.length ≤ sizeLine) :
    Inv X pins σ (upd H l (.lst ys)) { s with heap := s.heap.update l (Obj.mapSeq f), toks := t' } := by
  have q := PySem.IsL.update e f
  rw [hf] at q
  refine I.write (x := l) (e := l) (by rw [hH]; exact trivial) (.inl rfl) (fun b' u hb hu => (Heap.get?_update_other s.heap (Obj.mapSeq f) (Ne.symm hb)).trans hu) ⟨_, q⟩ ?_
  exact ⟨hz, its', _, hv, q⟩
theorem Inv.lnew {its : List Value} {t' : Nat} (I : Inv X pins σ H s) (hv : Vals ys its) (hz : ys.length ≤ sizeLine) :
    Inv X pins σ (upd H s.heap.objs.size (.lst ys)) { s with heap := s.heap.push { cls := .type "list", data := .seq its.toArray }, toks := t' } :=
  I.laid (fun _ _ q => Heap.get?_push_of_some _ q) (Nat.le_refl _) ⟨hz, its, 0, hv, Heap.get?_push_size _ rfl⟩
theorem Inv.fresh (I : Inv X pins σ H s) : H s.heap.objs.size = none := I.hok.fresh (Nat.le_refl _)
theorem Inv.lstM (I : Inv X pins σ H s) (hH : H l = some (.lst xs)) : xs.length ≤ sizeLine ∧ ∃ (its : List Value) (n : Nat), Vals xs its ∧ xs.length = its.length ∧ s.heap.get? l = some { cls := .type "list", data := .seq its.toArray n } := by
  obtain ⟨z, its, n, r, e⟩ := I.hok l _ hH
  exact ⟨z, its, n, r, r.length, e⟩
theorem DH {n : Nat} (h : n ≤ sizeLine) : Builtin.List.listTooLong n = false := by
  unfold Builtin.List.listTooLong
  exact decide_eq_false (by omega)
end
section
variable {X : Cx}
def zi : V → List V → Hp → VK → Prop := fun x vs H Q => ∃ l xs y, x = .ref l ∧ vs = [y] ∧ H l = some (.lst xs) ∧ xs.length < sizeLine ∧ Q .non (upd H l (.lst (xs ++ [y])))
theorem gO : MtM X "list.append" zi := by
  intro pins s σ H x vs v us Q I rx rv h
  obtain ⟨l, xs, y, rfl, rfl, hH, hz, q⟩ := h
  cases rx
  obtain ⟨u, rfl, ru⟩ := rv.one
  obtain ⟨z, its, n, r, hl, e⟩ := I.lstM hH
  refine call_meets F.slot_list_append ⟨_, e, rfl⟩ F.entry_list_append (F.args_list_append_2 _ _) (PySem.list_append l its.toArray n u (by rw [List.size_toArray]; omega)) ⟨e, ?_⟩
  refine ⟨.non, _, I.lset (its' := its ++ [u]) hH e (by simp) (r.append (.cons ru .nil)) ?_, rfl, q⟩
  rw [List.length_append, List.length_singleton]
  omega
def HU : V → List V → Hp → VK → Prop := fun x vs H Q => ∃ l xs y, x = .ref l ∧ vs = [] ∧ H l = some (.lst xs) ∧ xs[xs.length - 1]? = some y ∧ Q y (upd H l (.lst xs.dropLast))
theorem Jj : MtM X "list.pop" HU := by
  intro pins s σ H x vs v us Q I rx rv h
  obtain ⟨l, xs, y, rfl, rfl, hH, hy, q⟩ := h
  cases rx
  have hus := rv.zero
  subst hus
  obtain ⟨z, its, n, r, hl, e⟩ := I.lstM hH
  obtain ⟨u, hu, ru⟩ := r.get hy
  have hy' : its.toArray[its.toArray.size - 1]? = some u := by
    show its.toArray[its.length - 1]? = some u
    rw [← Array.getElem?_toList, ← hl]
    exact hu
  refine call_meets F.slot_list_pop ⟨_, e, rfl⟩ F.entry_list_pop (F.args_list_pop_1 _) (MeetsSeq.list_pop_last l its.toArray n u hy' (by rw [List.size_toArray]; omega)) ⟨e, ?_⟩
  refine ⟨y, _, I.lset (its' := its.dropLast) hH e ?_ r.dropLast ?_, ru, q⟩
  · show its.toArray.eraseIdxIfInBounds (its.toArray.size - 1) = its.dropLast.toArray
    rw [List.size_toArray, List.eraseIdxIfInBounds_toArray, Aj]
  · rw [List.length_dropLast]
    omega
def A1 : V → List V → Hp → VK → Prop := fun x vs H Q => ∃ l xs, x = .ref l ∧ vs = [] ∧ H l = some (.lst xs) ∧ Q .non (upd H l (.lst []))
theorem Dv : MtM X "list.clear" A1 := by
  intro pins s σ H x vs v us Q I rx rv h
  obtain ⟨l, xs, rfl, rfl, hH, q⟩ := h
  cases rx
  have hus := rv.zero
  subst hus
  obtain ⟨z, its, n, r, hl, e⟩ := I.lstM hH
  refine call_meets F.slot_list_clear ⟨_, e, rfl⟩ F.entry_list_clear (F.args_list_clear_1 _) (AutoSeq1.list_clear_list_0 l its.toArray n (by rw [List.size_toArray]; omega)) ⟨e, ?_⟩
  exact ⟨.non, _, I.lset (its' := []) (ys := []) hH e rfl .nil (Nat.zero_le _), rfl, q⟩
def CF : R2 := fun x y H Q => ∃ l k xs, x = .ref l ∧ y = .int k ∧ H l = some (.lst xs) ∧ -(2 ^ 63) ≤ k ∧ k < 2 ^ 63 ∧ xs.length * k.toNat ≤ sizeLine ∧
  ∀ p, H p = none → Q (.ref p) (upd H p (.lst (List.replicate k.toNat xs).flatten))
theorem len_rep {α : Type} (xs : List α) (k : Nat) : (List.replicate k xs).flatten.length = k * xs.length := by
  induction k with
  | zero => simp
  | succ k ih => rw [List.replicate_succ, List.flatten_cons, List.length_append, ih, Nat.succ_mul, Nat.add_comm]
theorem Gy : OpR X (binaryOp .Mult) CF := by
  intro pins s σ H x y v u Q I rx ry h
  obtain ⟨l, k, xs, rfl, rfl, hH, h1, h2, hz, q⟩ := h
  cases rx
  obtain ⟨t, rfl⟩ := ry
  obtain ⟨z, its, n, r, hl, e⟩ := I.lstM hH
  have hlen : its.toArray.size * k.toNat ≤ sizeLine := by rw [List.size_toArray, ← hl]; exact hz
  have hcap : ¬ its.toArray.size * k.toNat > (2 ^ 63 - 1) / 8 := by
    have : (sizeLine : Nat) ≤ (2 ^ 63 - 1) / 8 := by decide
    omega
  have hfit : ¬ (!Builtin.List.listFitsIndex k) = true := by
    rw [fitsIndex_both h1 h2]
    exact Bool.false_ne_true
  have hlong : ¬ Builtin.List.listTooLong (its.toArray.size * k.toNat) = true := by
    rw [DH hlen]
    exact Bool.false_ne_true
  have hnew : List.foldl (fun x1 x2 => x1 ++ x2) #[] (List.replicate (if its.toArray.isEmpty = true then 0 else k.toNat) its.toArray) = (List.replicate k.toNat its).flatten.toArray := by
    have f0 : ∀ m : Nat, List.foldl (fun x1 x2 => x1 ++ x2) #[] (List.replicate m its.toArray) = (List.replicate m its).flatten.toArray := fun m => by
      have := foldl_rep its m []
      rw [List.nil_append] at this
      exact this
    rw [f0]
    cases its with
    | nil => simp
    | cons a r' => rw [if_neg (by simp)]
  refine wpAny_binaryOp_repeat_ref (T := "list") (U := "int") (by decide) ⟨_, e, rfl⟩ (fun s' => typeIs_int s' k t) noFill_list_mul F.fills_int_mul F.slot_int_rmul repeat_list F.slot_int_index.lookup
    (call_meets F.slot_int_rmul (typeIs_int s k t) F.entry_int_rmul (F.args_int_rmul_2 _ _) (int___rmul___int_list k t l its.toArray n)
      ⟨e, rfl, ⟨_, e, rfl⟩, call_meets F.slot_list_mul ⟨_, e, rfl⟩ F.entry_list_mul (F.args_list_mul_2 _ _) (AutoListH.list___mul___list_int_3 l its.toArray n k t hfit hcap hlong) ⟨e, ?_⟩⟩)
  rw [hnew]
  exact ⟨.ref _, _, I.lnew (t' := s.toks) (r.rep k.toNat) (by rw [len_rep, Nat.mul_comm]; exact hz), rfl, q _ I.fresh⟩
end
section
variable {prog : Program} {w : World} {A : Around} {E : Value → Shared → Prop} {s : Shared}
end
section
variable {X : Cx}
end
end L2
namespace Att
open PySem PySem.W PySem.Calls PyProof.Rows
theorem tj {P : Params} {h : Heap} : ∀ (ns : List Int) (vs : List Value), WellAll P h vs (ns.map WData.int) → IntsAre vs ns := by
  intro ns
  induction ns with
  | nil =>
    intro vs w
    rw [List.map_nil] at w
    cases w
    exact .nil
  | cons n ns ih =>
    intro vs w
    rw [List.map_cons] at w
    cases w with
    | cons a b =>
      cases a
      exact .cons _ _ (ih _ b)
theorem BA {l : OpenLaw} {n : Nat} (hn : l.most = some n) {P : Params} {h : Heap} {args : List WData} {vals : List Value}
    (hpre : l.row.toRowW.claim.pre args = true) (hwl : WellAll P h vals args) :
    ∃ a vs ns, vals = [Value.ref a] ∧ args = [WData.list (ns.map WData.int)] ∧ h.get? a = some { cls := .type "list", data := .seq vs.toArray } ∧ IntsAre vs ns ∧ ns.length ≤ n := by
  have hsh : WShape.hasAll [] args [.list .int] = true := (pre_splitW hpre).1
  have hc : l.pre.holds [] { args := args } = true := (pre_splitW hpre).2
  obtain ⟨d, r, rfl, h1, h2⟩ := hasAllW_cons hsh
  obtain rfl := hasAllW_nil h2
  obtain ⟨xs, rfl, h3⟩ := hasW_list h1
  obtain ⟨ns, rfl⟩ := items_int h3
  have hlen : ns.length ≤ n := by
    unfold OpenLaw.pre at hc
    have h4 : (WTm.not (.lt (.lit (.int (n : Int))) (.len (.arg 0)))).holds [] { args := [.list (ns.map .int)] } = true := by
      have h4 := (holds_andW hc).1
      rw [hn] at h4
      exact h4
    have h5 := condW_of h4 (w_not (w_lt w_lit (w_len_list (w_arg rfl))))
    rw [List.length_map] at h5
    refine Nat.le_of_not_lt fun q => ?_
    have q' : (n : Int) < ((ns.length : Nat) : Int) := by omega
    first
      | (rw [decide_eq_true q'] at h5; exact absurd h5 (by decide))
      | (simp at h5; omega)
  cases hwl with
  | cons w1 w2 =>
    cases w2
    cases w1 with
    | list ho hall => exact ⟨_, _, ns, rfl, rfl, ho, tj ns _ hall, hlen⟩
theorem B1 (l : OpenLaw) (args : List WData) : l.row.toRowW.claim.post args (.bool true) args = true :=
  postW_of (r := l.row.toRowW) (X := (true == true))
    (show WShape.has [] (.bool true) .bool = true by first | rfl | decide | simp [WShape.has, WShape.arms, WShape.armsAll])
    (show (WTm.eq .res (.lit (.bool true))).value [] { args := args, res := some (.bool true), after := args } = some (.bool (true == true)) from w_eq_bool (w_res rfl) w_lit) rfl
theorem xU {l : OpenLaw} {n : Nat} {q : Program} {loose : List Str} {XP : (Str → Option Value) → Heap → Prop} {YP : World → Heap → Prop} {d : DefRec}
    (hn : l.most = some n) (hdf : d.params.defaults = [])
    (call : ∀ (w : World) (s₀ s₁ : Shared) (mg mb : Str → Option Value) (fa : Addr) (o : Obj) (pm cd doc : Value) (a : Addr) (vs : List Value) (ns : List Int),
      Ground q loose [] XP w s₀ mg mb s₁.heap → YP w s₁.heap →
      s₁.heap.get? fa = some o → o.data = .func (docDef d.name d.params d.body d.scope pm cd doc) → s₁.heap.CodeRec cd d.name → mg d.name = some (.ref fa) →
      s₁.heap.get? a = some { cls := .type "list", data := .seq vs.toArray } → IntsAre vs ns → ns.length ≤ n → s₁.gens = #[] →
      codeAny (model l.prog w) callerA (.call (.ref fa) ⟨[.ref a], []⟩) (fun r s' => r = .ok (.ret (.bool true)) ∧ OldK s₁.heap s'.heap ∧ s'.os = s₁.os ∧ AllBare s'.gens) s₁) :
    WalkO q loose XP YP l.row.toRowW d [] (fun f vs => PySem.call f vs) := by
  intro w s₀ s₁ mg mb G Y fa o pm cd doc dV kV ho hd hcd hD hmg hg args vals as hpre hlay hrd hwl hlo
  obtain rfl : dV = .none := Dflts.none hD hdf
  obtain rfl : kV = .none := Dflts.noKw hD
  obtain ⟨a, vs, ns, rfl, rfl, hobj, hints, hlen⟩ := BA hn hpre hwl
  refine enter_call (codeAny_mono (call w s₀ s₁ mg mb fa o pm cd doc a vs ns G Y ho (fd_plain hd) hcd hmg hobj hints hlen hg) fun r s' hq => ?_)
  obtain ⟨rfl, h2, h3, h4⟩ := hq
  exact ⟨.inl ⟨.bool true, .bool true, [], rfl, fun _ => rfl, .bool true, B1 l _, fun _ => ⟨List.Pairwise.nil, fun _ hm => (nomatch hm)⟩⟩, h2, h3, h4⟩
section
variable {prog : Program} {w : World} {A : Around} {E : Value → Shared → Prop} {s : Shared} {K : Frag}
end
end Att
namespace L2
open PySem PySem.Spec PyProof.Rows
theorem uB : ∀ {vs : List Value} {ns : List Int}, IntsAre vs ns → Vals (ns.map V.int) vs
  | _, _, .nil => .nil
  | _, _, .cons n t h => .cons ⟨t, rfl⟩ (uB h)
def z5 (H : Hp) : Prop := ∀ b, H b = none ∨ ∃ o xs, H b = some (.frz o (.lst xs))
theorem Ci {P : Program} {w : World} {K : PySem.W.Frag} {mg mb : Str → Option Value} {CX : CXT} {k : Nat} {fa a : Addr} {fd : FuncData} {x : Str} {sp : Sp} {s₁ : Shared} {vs : List Value} {ns : List Int}
    (KX : K.In s₁.heap) (hns : s₁.heap.Ns mainGlobals mg) (hb : s₁.heap.Ns builtinsNs mb) (hbb : ∀ x : Str, x ≠ "__name__" → mb x = bootBuiltins x) (hlim : s₁.heap.NoLimit) (hseer : s₁.heap.NoSeer) (hg : s₁.gens = #[])
    (ha : s₁.heap.get? a = some { cls := .type "list", data := .seq vs.toArray }) (hi : IntsAre vs ns) (hl : ns.length ≤ sizeLine) (hr : fb k callerA)
    (F : ∀ base : Heap, K.In base → base.Ns mainGlobals mg → iE P w K mg base CX k fa fd [x] sp) (hbind : ∀ (s : Shared) (u : Value), BindsTo s fd ⟨[u], []⟩ [(x, u)])
    (hsp : ∀ H : Hp, z5 H → SqL K H a (ns.map V.int) → sp [.ref a] H (fun v _ => v = .bl true) fun _ _ _ => False)
    (hCX : ∀ H e s', CX [] H s₁ (fun _ _ _ => False) e s' → False) :
    codeAny (model P w) callerA (.call (.ref fa) ⟨[.ref a], []⟩) (fun r s' => r = .ok (.ret (.bool true)) ∧ OldK s₁.heap s'.heap ∧ s'.os = s₁.os ∧ AllBare s'.gens) s₁ := by
  have rv := uB hi
  have lenV := hi.length
  have core : ∀ H : Hp, z5 H → SqL K H a (ns.map V.int) → HOk P w H s₁.heap → (∀ b, H b ≠ none → b = a) → (H a ≠ none → K.lookup a = none) →
      codeAny (model P w) callerA (.call (.ref fa) ⟨[.ref a], []⟩) (fun r s' => r = .ok (.ret (.bool true)) ∧ OldK s₁.heap s'.heap ∧ s'.os = s₁.os ∧ AllBare s'.gens) s₁ := by
    intro H hO hS hok hA hK
    have base_of : ∀ {b : Addr} {o : Obj}, s₁.heap.get? b = some o → H b = none → (mW s₁.heap H).get? b = some o := fun e n => Cw e n
    have noA : ∀ {b : Addr} {o : Obj} {es : Array DictEntry} {ep : Nat}, s₁.heap.get? b = some o → o.data = .dict es ep → H b = none := fun {b o es ep} e d => by
      cases q : H b with
      | none => rfl
      | some u =>
        have e' : b = a := hA b (by rw [q]; simp)
        subst e'
        rw [ha] at e; cases e
        have d' : Data.seq vs.toArray _ = Data.dict es ep := d
        cases d'
    have nsK : ∀ {b : Addr} {m : Str → Option Value}, s₁.heap.Ns b m → (mW s₁.heap H).Ns b m := fun {b m} ⟨o, es, ep, e, d, r⟩ => ⟨o, es, ep, base_of e (noA e d), d, r⟩
    have hKb : K.In (mW s₁.heap H) := fun b o e => base_of (KX b o e) (by
      cases q : H b with
      | none => rfl
      | some u =>
        have e' : b = a := hA b (by rw [q]; simp)
        subst e'
        rw [hK (by rw [q]; simp)] at e; cases e)
    have noM : ∀ {b : Addr} {o : Obj}, s₁.heap.get? b = some o → o.cls = .type "module" → H b = none := fun {b o} e d => by
      cases q : H b with
      | none => rfl
      | some u =>
        have e' : b = a := hA b (by rw [q]; simp)
        subst e'
        rw [ha] at e; cases e
        exact absurd (show Value.type "list" = Value.type "module" from d) (by decide)
    have hN : (mW s₁.heap H).NoSeer := ⟨let ⟨mc, x, y⟩ := hseer.statics; ⟨mc, nsK x, y⟩, let ⟨mc, x, y⟩ := hseer.mods; ⟨mc, nsK x, y⟩, let ⟨mc, x, y⟩ := hseer.imp; ⟨mc, nsK x, y⟩, let ⟨mg', bm, ob, x, y, z, u, v⟩ := hseer.main; ⟨mg', bm, ob, nsK x, y, base_of z (noM z u), u, v⟩⟩
    have hM : Mod K mg (mW s₁.heap H) := ⟨hKb, nsK hns, ⟨mb, nsK hb, hbb⟩, (let ⟨mc, h1, h2⟩ := hlim; ⟨mc, nsK h1, h2⟩), hN⟩
    have e0 : sv P w K mg (mW s₁.heap H) callerA [] s₁ H := ⟨rfl, hM, fun b o e => ED e, Nat.le_of_eq (Ca _ _), trivial, fun b hb => absurd (show b ∈ ([] : List Addr) from hb) (by simp), hok, .of_eq hg⟩
    refine codeAny_mono ((F _ hKb (nsK hns)).run callerA [] s₁ H ⟨[.ref a], []⟩ [.ref a] [.ref a] _ _ hr e0 (hbind s₁ (.ref a)) (.cons rfl .nil) (hsp H hO hS)) fun r s' h => ?_
    cases r with
    | error e => exact (hCX H e s' h).elim
    | ok fl =>
      cases fl with
      | next => exact False.elim h
      | brk => exact False.elim h
      | cont => exact False.elim h
      | ret u =>
        obtain ⟨v, H', os, bare, un, hok', r', q⟩ := h
        have q' : v = .bl true := q
        subst q'
        obtain rfl : u = Value.bool true := r'
        refine ⟨rfl, OldK.of_keep fun b o e => ?_, os, bare⟩
        cases q : H b with
        | none => exact un.keep b o e q (by intro z; exact absurd (show b ∈ ([] : List Addr) from z) (by simp)) (by simp)
        | some u =>
          rcases hO b with z | ⟨ob, xs, z⟩
          · rw [q] at z; cases z
          · have z2 := un.frzs b ob _ z
            obtain ⟨e1, _⟩ := hok b _ z
            obtain ⟨e2, _⟩ := hok' b _ z2
            rw [e] at e1; cases e1
            exact e2
  cases hk : K.lookup a with
  | some o =>
    have e := KX a o hk
    rw [ha] at e
    cases e
    refine core (fun _ => none) (fun _ => .inl rfl) (.inr ⟨_, vs.toArray, _, hk, rfl, rfl, rfl, by rw [List.size_toArray, lenV]; exact hl, by simpa using rv⟩) (fun b u z => by have z' : (none : Option HO) = some u := z; cases z') (fun b z => absurd rfl z) fun z => absurd rfl z
  | none =>
    refine core (fun b => if b = a then some (.frz { cls := .type "list", data := .seq vs.toArray } (.lst (ns.map V.int))) else none) (fun b => ?_) (.inl (.inr ⟨{ cls := .type "list", data := .seq vs.toArray }, if_pos rfl⟩)) (fun b u z => ?_) (fun b z => ?_) fun _ => hk
    · by_cases hb : b = a
      · exact .inr ⟨_, _, if_pos hb⟩
      · exact .inl (if_neg hb)
    · by_cases hb : b = a
      · have z' := (if_pos hb).symm.trans z
        cases z'
        subst hb
        exact ⟨ha, by rw [List.length_map]; exact hl, vs, _, rv, ha⟩
      · have z' := (if_neg hb).symm.trans z
        cases z'
    · by_cases hb : b = a
      · exact hb
      · exact absurd (if_neg hb) z
end L2
namespace L2
open PySem PySem.Spec PyProof.Rows
theorem EE {l : PySem.W.OpenLaw} {n k : Nat} {q : Program} {loose : List Str} {XP : (Str → Option Value) → Heap → Prop} {YP : World → Heap → Prop} {d : DefRec} {K : Params → PySem.W.Frag} {CX : World → CXT} {sp : World → Sp} {x : Str}
    (hn : l.most = some n) (hn2 : n ≤ sizeLine) (hdf : d.params.defaults = []) (hr : fb k callerA) (hi : importsNone q = true)
    (hY : ∀ (w : World) (h : Heap), YP w h → (K w.params).In h)
    (F : ∀ (w : World) (mg : Str → Option Value) (fa : Addr) (h : Heap), (K w.params).In h → h.Ns mainGlobals mg → mg d.name = some (.ref fa) →
      ∃ fd : FuncData, (∀ (s : Shared) (u : Value), BindsTo s fd ⟨[u], []⟩ [(x, u)]) ∧
        ∀ base : Heap, (K w.params).In base → base.Ns mainGlobals mg → iE l.prog w (K w.params) mg base (CX w) k fa fd [x] (sp w))
    (hsp : ∀ (w : World) (H : Hp) (a : Addr) (ns : List Int), ns.length ≤ n → z5 H → SqL (K w.params) H a (ns.map V.int) → sp w [.ref a] H (fun v _ => v = .bl true) fun _ _ _ => False)
    (hCX : ∀ (w : World) (H : Hp) (s : Shared) (e : Value) (s' : Shared), CX w [] H s (fun _ _ _ => False) e s' → False) :
    PySem.W.WalkO q loose XP YP l.row.toRowW d [] (fun f vs => PySem.call f vs) := by
  refine Att.xU hn hdf fun w s₀ s₁ mg mb fa o pm cd doc a vs ns G Y ho hd hcd hmg hobj hints hlen hg => ?_
  have KX := hY w _ Y
  obtain ⟨fd, hb, hF⟩ := F w mg fa _ KX G.T.g hmg
  exact Ci KX G.T.g G.T.b G.T.builtins G.T.nolimit (G.T.seer hi) hg hobj hints (Nat.le_trans hlen hn2) hr hF hb (fun H hO hS => hsp w H a ns hlen hO hS) fun H e s' => hCX w H s₁ e s'
end L2
namespace L2
open PySem PySem.Spec PyProof.Rows
def bq (s : Stmt) : Arguments := match s with
  | .FunctionDef _ a _ _ _ _ _ _ _ _ => a
  | _ => { posonlyargs := [], args := [], vararg := none, kwonlyargs := [], kw_defaults := [], kwarg := none, defaults := [] }
def bc (s : Stmt) : List Stmt := match s with
  | .FunctionDef _ _ b _ _ _ _ _ _ _ => b
  | _ => []
def aF (s : Stmt) : Scope := match s with
  | .FunctionDef _ _ _ _ _ _ sc _ _ _ => sc
  | _ => { kind := .function, names := [], isGenerator := false, isCoroutine := false }
abbrev CX0 : CXT := fun _ _ _ _ _ _ => False
abbrev E0 : XK := fun _ _ _ => False
structure Fun (K : PySem.W.Frag) (x qual : Str) (st : Stmt) (f : Addr) (fd : FuncData) : Prop where
  ex : ∃ (oc : Value) (od : Option Addr) (kV doc pm : Value) (an : Option Addr) (cdv ct : Value) (osl : Array (Option Value)),
    fd = PySem.W.fnOf x qual (bq st) (bc st) (aF st) .none kV doc pm an cdv ct ∧ K.lookup f = some ⟨oc, od, .func fd, osl⟩ ∧ PySem.W.codeIn K cdv qual = true
  kp : PySem.W.keepIn K (.ref f) = true
section
variable {P : Program} {w : World} {K : PySem.W.Frag} {mg : Str → Option Value} {base : Heap}
theorem Fun.ok {x qual : Str} {st : Stmt} {f : Addr} {fd : FuncData} {N ps : List Str} {k : Nat} {sp : Sp} (F : Fun K x qual st f fd) (S : bo N ps (aF st)) (len : ∀ vs H Q E, sp vs H Q E → vs.length = ps.length)
    (hbody : ∀ (cdv : Value) (A : Around) (outer : List Env) (s : Shared) (H : Hp) (vs : List V) (Q : VK) (E : XK), fb k (A.deeper (envOfC qual (aF st) s.heap.objs.size f cdv)) → sp vs H Q E →
      ∃ t, PSs (oO CX0 P w K mg base N qual (aF st) f cdv A outer s H E).nox (bc st) t ∧ t { nx := fun _ H' => Q .non H', rt := Q } (start N vs) H) : iE P w K mg base CX0 (k + 1) f fd ps sp := by
  obtain ⟨oc, od, kV, doc, pm, an, cdv, ct, osl, rfl, lk, hcd⟩ := F.ex
  refine D7 lk hcd S len fun A outer s H vs Q E hr hsp => ?_
  obtain ⟨t, h, q⟩ := hbody cdv A outer s H vs Q E hr hsp
  exact ⟨t, h.nox, q⟩
theorem Fun.binds {x qual : Str} {st : Stmt} {f : Addr} {fd : FuncData} {ps : List Str} (F : Fun K x qual st f fd)
    (h : ∀ (kV doc pm : Value) (an : Option Addr) (cdv ct : Value) (us : List Value), us.length = ps.length → bindArgs (PySem.W.fnOf x qual (bq st) (bc st) (aF st) .none kV doc pm an cdv ct) ⟨us, []⟩ = pure (ps.zip us)) : Binds K fd ps [] := by
  obtain ⟨oc, od, kV, doc, pm, an, cdv, ct, osl, rfl, lk, hcd⟩ := F.ex
  exact .all (h kV doc pm an cdv ct)
theorem bY {x qual : Str} {st : Stmt} {f : Addr} {oc : Value} {od an : Option Addr} {osl : Array (Option Value)} {kV doc pm cdv ct : Value} (l : K.lookup f = some ⟨oc, od, .func (PySem.W.fnOf x qual (bq st) (bc st) (aF st) .none kV doc pm an cdv ct), osl⟩)
    (c : PySem.W.codeIn K cdv qual = true) (k : PySem.W.keepIn K (.ref f) = true) : Fun K x qual st f (PySem.W.fnOf x qual (bq st) (bc st) (aF st) .none kV doc pm an cdv ct) := ⟨⟨oc, od, kV, doc, pm, an, cdv, ct, osl, rfl, l, c⟩, k⟩
end
section
variable {X : Cx}
theorem pv (i : Nat) {x : Str} {pos : Pos} (hN : X.N[i]? = some x := by rfl) (hv : Vis X.env.scope x := by first | exact Or.inl rfl | exact Or.inr (Or.inl rfl) | exact Or.inr (Or.inr rfl)) (hd : (x == ("__debug__" : Str)) = false := by decide)
    (hcd : (x == ("__classdict__" : Str)) = false := by decide) : PE X (.Name x pos) (Dt i) := FP hN hv hd hcd
end
theorem rn {A B : Prop} (h : B) : if false = true then A else B := by
  rw [if_neg Bool.false_ne_true]
  exact h
theorem rj {A B : Prop} (h : A) : if true = true then A else B := by
  rw [if_pos rfl]
  exact h
def bx (H H' : Hp) : Prop := ∀ b o, H b = some o → H' b = some o
theorem bx.refl (H : Hp) : bx H H := fun _ _ h => h
theorem bx.trans {H H1 H2 : Hp} (a : bx H H1) (b : bx H1 H2) : bx H H2 := fun c o h => b c o (a c o h)
theorem bx.free {H H' : Hp} (e : bx H H') {l : Addr} (h : H' l = Option.none) : H l = Option.none := by
  cases q : H l with
  | none => rfl
  | some o =>
    rw [e l o q] at h
    cases h
theorem bx.seq {K : PySem.W.Frag} {H H' : Hp} {a : Addr} {xs : List V} (e : bx H H') (h : SqL K H a xs) : SqL K H' a xs := by
  rcases h with (h | ⟨o, h⟩) | h
  · exact .inl (.inl (e _ _ h))
  · exact .inl (.inr ⟨o, e _ _ h⟩)
  · exact .inr h
end L2
set_option maxRecDepth 100000
set_option maxHeartbeats 4000000
namespace L2
open PySem PySem.Spec PyProof.Rows
def eI (env : Env) : List (Str × NameKind) → List (Str × Addr) → List (Str × Addr)
  | [], cs => cs
  | (n, k) :: r, cs => if k == .free then eI env r ((n, (env.cells.lookup n).getD 0) :: cs) else eI env r cs
theorem tS {env : Env} : ∀ (names : List (Str × NameKind)) (cs : List (Str × Addr)), (∀ n, (n, NameKind.free) ∈ names → ∃ c, env.cells.lookup n = some c) →
    (forIn names cs fun (x : Str × NameKind) (r : List (Str × Addr)) => (if (x.2 == NameKind.free) = true then do
        let a ← cellOf env x.1
        pure (ForInStep.yield ((x.1, a) :: r)) else pure (ForInStep.yield r) : Sem (ForInStep (List (Str × Addr))))) = pure (eI env names cs)
  | [], cs, _ => rfl
  | (n, k) :: r, cs, h => by
    rw [List.forIn_cons]
    by_cases hk : (k == NameKind.free) = true
    · have hk' : k = .free := by simpa using hk
      subst hk'
      obtain ⟨c, hc⟩ := h n List.mem_cons_self
      simp only [hk, if_true, eI, cellOf, hc, pure_bind, Option.getD_some]
      exact tS r _ fun m hm => h m (List.mem_cons_of_mem _ hm)
    · simp only [hk, if_false, eI, pure_bind]
      exact tS r cs fun m hm => h m (List.mem_cons_of_mem _ hm)
theorem vH {scope : Scope} {env : Env} (h : ∀ n, (n, NameKind.free) ∈ scope.names → ∃ c, env.cells.lookup n = some c) : closureFor scope env = pure (eI env scope.names []) := by
  have := tS scope.names [] h
  simp only [closureFor]
  rw [← this]
  exact bind_pure _
theorem oo {env : Env} : ∀ (names : List (Str × NameKind)) (cs : List (Str × Addr)), (∀ n, (n, NameKind.free) ∈ names → ∃ c, env.cells.lookup n = some c) →
    (∀ x c, cs.lookup x = some c → env.cells.lookup x = some c) → ∀ x c, (eI env names cs).lookup x = some c → env.cells.lookup x = some c
  | [], cs, _, h, x, c, e => h x c e
  | (n, k) :: r, cs, hf, h, x, c, e => by
    unfold eI at e
    by_cases hk : (k == NameKind.free) = true
    · rw [if_pos hk] at e
      have hk' : k = .free := by simpa using hk
      subst hk'
      refine oo r _ (fun m hm => hf m (List.mem_cons_of_mem _ hm)) (fun y d q => ?_) x c e
      obtain ⟨c', hc'⟩ := hf n List.mem_cons_self
      rw [List.lookup_cons] at q
      split at q
      · rename_i hy
        have : y = n := by simpa using hy
        subst this
        rw [hc', Option.getD_some] at q
        rw [hc']; exact q
      · exact h y d q
    · rw [if_neg hk] at e
      exact oo r cs (fun m hm => hf m (List.mem_cons_of_mem _ hm)) h x c e
theorem mN {env : Env} : ∀ (names : List (Str × NameKind)) (cs : List (Str × Addr)) (x : Str), (∃ c, cs.lookup x = some c) → ∃ c, (eI env names cs).lookup x = some c
  | [], cs, _, h => h
  | (n, k) :: r, cs, x, h => by
    unfold eI
    by_cases hk : (k == NameKind.free) = true
    · rw [if_pos hk]
      refine mN r _ x ?_
      rw [List.lookup_cons]
      split
      · exact ⟨_, rfl⟩
      · exact h
    · rw [if_neg hk]
      exact mN r cs x h
theorem lb {env : Env} : ∀ (names : List (Str × NameKind)) (cs : List (Str × Addr)) (x : Str), (x, NameKind.free) ∈ names → ∃ c, (eI env names cs).lookup x = some c
  | (n, k) :: r, cs, x, h => by
    unfold eI
    rcases List.mem_cons.mp h with e | h
    · cases e
      rw [if_pos (by rfl)]
      refine mN r _ n ?_
      exact ⟨_, by rw [List.lookup_cons]; simp; rfl⟩
    · by_cases hk : (k == NameKind.free) = true
      · rw [if_pos hk]; exact lb r _ x h
      · rw [if_neg hk]; exact lb r cs x h
def cxC (X : Cx) (scope : Scope) (N' : List Str) (fp : List Addr) (s : Shared) (H : Hp) : Cx where
  prog := X.prog
  w := X.w
  K := X.K
  mg := X.mg
  base := X.base
  A := X.A
  N := N'
  s₀ := s
  H₀ := H
  env := compEnvC scope (eI X.env scope.names []) s.heap.objs.size X.env
  outer := X.stack
  stack := X.stack
  ex := fp
  calm := X.calm
  fn := fun _ => false
  pn := []
  xe := fun _ _ => False
def kL (X : Cx) (scope : Scope) : List Str → List Nat → Prop
  | [], [] => True
  | x :: xs, j :: js => X.N[j]? = some x ∧ (X.env.scope.names.lookup x = some .cell ∨ X.env.scope.names.lookup x = some .free) ∧ scope.names.lookup x = some .free ∧ kL X scope xs js
  | _, _ => False
theorem kL.get {X : Cx} {scope : Scope} : ∀ {xs : List Str} {js : List Nat} {i : Nat} {x : Str}, kL X scope xs js → xs[i]? = some x →
    ∃ j, js[i]? = some j ∧ X.N[j]? = some x ∧ (X.env.scope.names.lookup x = some .cell ∨ X.env.scope.names.lookup x = some .free) ∧ scope.names.lookup x = some .free
  | [], _, _, _, _, e => by simp at e
  | _ :: _, [], _, _, h, _ => h.elim
  | y :: ys, j :: js, 0, x, h, e => by
    simp at e; subst e
    exact ⟨j, rfl, h.1, h.2.1, h.2.2.1⟩
  | y :: ys, j :: js, i + 1, x, h, e => by
    obtain ⟨j', e1, r⟩ := kL.get (i := i) (x := x) h.2.2.2 (by simpa using e)
    exact ⟨j', by simpa using e1, r⟩
theorem kL.length {X : Cx} {scope : Scope} : ∀ {xs : List Str} {js : List Nat}, kL X scope xs js → xs.length = js.length
  | [], [], _ => rfl
  | [], _ :: _, h => h.elim
  | _ :: _, [], h => h.elim
  | _ :: _, _ :: _, h => by rw [List.length_cons, List.length_cons, kL.length h.2.2.2]
def lE (m : Nat) (caps : List Nat) (σ : St) : St := List.replicate m none ++ caps.map fun i => (σ[i]?).getD none
theorem lookup_mem {α β : Type} [BEq α] [LawfulBEq α] : ∀ {l : List (α × β)} {x : α} {b : β}, l.lookup x = some b → (x, b) ∈ l
  | [], _, _, h => by simp at h
  | (a, c) :: r, x, b, h => by
    rw [List.lookup_cons] at h
    split at h
    · rename_i q
      have : x = a := by simpa using q
      subst this
      cases h
      exact List.mem_cons_self
    · exact List.mem_cons_of_mem _ (lookup_mem h)
section
variable {X : Cx}
theorem gI {scope : Scope} {env : Env} : ∀ {names : List (Str × NameKind)} {x : Str} {k : NameKind}, (names.map fun (n, k) => if (k == NameKind.free && env.scope.kind == .function && env.kindOf n == some .cell) then (n, NameKind.cell) else (n, k)).lookup x = some k →
    ∃ k', names.lookup x = some k' ∧ (k' = k ∨ (k' = .free ∧ k = .cell))
  | [], _, _, h => by simp at h
  | (n, k0) :: r, x, k, h => by
    have h' : List.lookup x ((if (k0 == NameKind.free && env.scope.kind == .function && env.kindOf n == some .cell) = true then (n, NameKind.cell) else (n, k0)) :: r.map _) = some k := h
    by_cases hc : (k0 == NameKind.free && env.scope.kind == .function && env.kindOf n == some .cell) = true
    · rw [if_pos hc, List.lookup_cons] at h'
      rw [List.lookup_cons]
      split at h'
      · rename_i q
        cases h'
        have hk : k0 = .free := by simp only [Bool.and_eq_true] at hc; simpa using hc.1.1
        exact ⟨k0, rfl, .inr ⟨hk, rfl⟩⟩
      · rename_i q
        exact gI (scope := scope) h'
    · rw [if_neg hc, List.lookup_cons] at h'
      rw [List.lookup_cons]
      split at h'
      · rename_i q
        cases h'
        exact ⟨k0, rfl, .inl rfl⟩
      · rename_i q
        exact gI (scope := scope) h'
structure lQ (X : Cx) (scope : Scope) (own cap : List Str) (caps : List Nat) : Prop where
  kind : scope.kind = .function
  cell : ∀ y ∈ scope.names, y.2 ≠ .cell
  nm : ∀ y ∈ scope.names, y.2 = .local → scope.names.lookup y.1 = some .local
  fr : ∀ y ∈ scope.names, y.2 = .free → y.1 ∈ cap
  caps : kL X scope cap caps
  nd : (own ++ cap).Nodup
theorem lQ.out {X : Cx} {scope : Scope} {own cap : List Str} {caps : List Nat} (S : lQ X scope own cap caps) {n : Str} (h : (n, NameKind.free) ∈ scope.names) : X.env.scope.names.lookup n = some .cell ∨ X.env.scope.names.lookup n = some .free := by
  obtain ⟨i, hi, e⟩ := List.getElem_of_mem (S.fr _ h rfl)
  obtain ⟨_, _, _, k, _⟩ := S.caps.get (i := i) (x := n) (by rw [List.getElem?_eq_getElem hi, e])
  exact k
theorem Ck {scope : Scope} {own cap : List Str} {caps : List Nat} {pins : List (Addr × Obj)} {σ : St} {H : Hp} {s : Shared} {fp : List Addr} {h1 : Heap} {tk : Nat} (Sc : lQ X scope own cap caps) (I : Inv X pins σ H s)
    (hfp : ∀ b ∈ fp, kc X pins H b) (hob : ∀ b ∈ fp, ∃ o, s.heap.get? b = some o) (hns : h1.Ns s.heap.objs.size fun _ => none)
    (hk : ∀ b o, s.heap.get? b = some o → h1.get? b = some o) :
    Inv (cxC X scope (own ++ cap) fp s H) [] (lE own.length caps σ) H { s with heap := h1, toks := tk } := by
  have hcl : ∀ n, (n, NameKind.free) ∈ scope.names → ∃ c, X.env.cells.lookup n = some c := fun n hn => I.ok.has n (Sc.out hn)
  have sub : ∀ x c, (eI X.env scope.names []).lookup x = some c → X.env.cells.lookup x = some c := oo scope.names [] hcl (fun x c e => by simp at e)
  have fresh : H s.heap.objs.size = none := I.hok.fresh (Nat.le_refl _)
  refine ⟨⟨I.ok.mod, Sc.kind, I.ok.glob, I.ok.blt, Nat.le_refl _, fun x y c e1 e2 => I.ok.inj x y c (sub x c e1) (sub y c e2), fun x hx => ?_, fun x c h _ => absurd h (by simp [cxC]), I.ok.hd, I.ok.frames, .inl rfl, fun b hb => ⟨?_, fun x c e => (hfp b hb).2.2.2.2.1 x c (sub x c e)⟩, I.bs, Nat.le_trans I.ok.bsz I.sz, fun b o e hb => ?_, fun b hb hs => ?_, I.stack, I.stkFree⟩,
    rfl, I.bare, Un.kept hk, ⟨_, hns, fun i x v e1 e2 e3 => ?_⟩, fun x c e => ?_, fresh, fun x c e => I.freeC x c (sub x c e), fun p hp => absurd (show p ∈ ([] : List (Addr × Obj)) from hp) (by simp), I.hok.kept hk, ?_⟩
  · -- has
    have hx' : (relabel scope X.env).names.lookup x = some .cell ∨ (relabel scope X.env).names.lookup x = some .free := hx
    have : (x, NameKind.free) ∈ scope.names := by
      rcases hx' with q | q
      · obtain ⟨k', e1, e2⟩ := gI (scope := scope) q
        rcases e2 with rfl | ⟨rfl, _⟩
        · exact absurd rfl (Sc.cell _ (lookup_mem e1))
        · exact lookup_mem e1
      · obtain ⟨k', e1, e2⟩ := gI (scope := scope) q
        rcases e2 with rfl | ⟨rfl, z⟩
        · exact lookup_mem e1
        · cases z
    exact lb scope.names [] x this
  · obtain ⟨o, ho⟩ := hob b hb
    exact Nat.ne_of_lt (Heap.lt_size ho)
  · rcases (hfp b hb).2.2.2.1 with z | z
    · exact I.ok.noex b o e z
    · exact absurd (Nat.lt_of_lt_of_le (Heap.lt_size e) (Nat.le_trans I.ok.bsz z)) (Nat.lt_irrefl _)
  · rcases List.mem_cons.mp (I.stkSub b hs) with z | z
    · exact (hfp b hb).2.1 z
    · exact (hfp b hb).2.2.1 z
  · -- the captured names
    have e1' : (own ++ cap)[i]? = some x := e1
    have hi : own.length ≤ i := by
      by_cases q : i < own.length
      · unfold lE at e2
        rw [List.getElem?_append_left (by simpa using q), List.getElem?_replicate] at e2
        split at e2 <;> cases e2
      · omega
    rw [List.getElem?_append_right hi] at e1'
    obtain ⟨j, hj, hN, hkd, hfr⟩ := Sc.caps.get e1'
    unfold lE at e2
    rw [List.getElem?_append_right (by simpa using hi)] at e2
    simp only [List.length_replicate, List.getElem?_map, hj, Option.map_some, Option.some.injEq] at e2
    have e2' : σ[j]? = some (some v) := by
      cases q : σ[j]? with
      | none => rw [q] at e2; simp at e2
      | some ov => rw [q] at e2; simp at e2; rw [e2]
    obtain ⟨m, hm, hl⟩ := I.loc
    obtain ⟨u, ru, lk⟩ := hl j x v hN e2' (hkd.elim (fun z => .inr (.inl z)) fun z => .inr (.inr z))
    refine ⟨u, ru, .inr ⟨?_, ?_⟩⟩
    · rcases e3 with q | q | q
      · obtain ⟨k', w1, w2⟩ := gI (scope := scope) (show (relabel scope X.env).names.lookup x = some .local from q)
        rw [hfr] at w1
        cases w1
        rcases w2 with w | ⟨_, w⟩ <;> cases w
      · exact .inl q
      · exact .inr q
    · rcases lk with ⟨z, _⟩ | ⟨_, c, ec, hc⟩
      · have z' : X.env.scope.names.lookup x = some .local := z
        rcases hkd with q | q <;> (rw [q] at z'; cases z')
      · obtain ⟨c', hc'⟩ := lb (env := X.env) scope.names [] x (lookup_mem hfr)
        have := sub x c' hc'
        rw [ec] at this
        cases this
        obtain ⟨oc, h1', h2'⟩ := hc
        exact ⟨c, hc', oc, hk _ _ h1', h2'⟩
  · obtain ⟨v, oc, h1', h2'⟩ := I.cell x c (sub x c e)
    exact ⟨v, oc, hk _ _ h1', h2'⟩
  · unfold lE
    have := Sc.caps.length
    simp [cxC, this]
theorem A3 {prog : Program} {w : World} {A : Around} {R : Result → Shared → Prop} {s : Shared} {elt target iter : Expr} {ifs : List Expr} {scope : Scope} {pos : Pos} {it acc : Value} {env : Env} (I : Nat → Shared → Prop)
    (turn : ∀ n s, I n s → wpAny (model prog w) A (pyNext it) (fun r s₁ => match r with
      | none => R (.ok .next) s₁
      | some v => wpAny (model prog w) A (letOwnedTupleGo target it v) (fun _ s₁' => wpAny (model prog w) A (assign target env v) (fun _ s₂ =>
          wpAny (model prog w) A (forIn ifs true fun c r => if r = true then do let ok ← isTrue c env (eval c env); pure (ForInStep.yield ok) else pure (ForInStep.yield r)) (fun ok s₃ =>
            if ok = true then wpAny (model prog w) A (eval elt env) (fun x s₄ =>
              wpAny (model prog w) A (call (.builtin "list.append") [acc, x]) (fun _ s₅ => ∃ m, m < n ∧ I m s₅) (fun _ _ => False) s₄) (fun _ _ => False) s₃
            else ∃ m, m < n ∧ I m s₃) (fun _ _ => False) s₂) (fun _ _ => False) s₁') (fun _ _ => False) s₁) (fun _ _ => False) s)
    (n : Nat) (h : I n s) :
    codeAny (model prog w) A (.compLoop (.ListComp elt [⟨target, iter, ifs, 0⟩] scope pos) 0 it acc env) R s := by
  refine codeAny_loop rfl I (fun n s hI => ?_) n h
  show wpAny _ A ((compTurn (.ListComp elt [⟨target, iter, ifs, 0⟩] scope pos) 0 it acc env).onRaise (fun x => do noteFrame x env; theTreesLotGoes x)) _ _ s
  refine wpAny_noted ?_
  rw [compTurn_list]
  refine wpAny_bind (wpAny_standAt (wpAny_bind (wpAny_mono (turn n s hI) (fun r s₁ h₁ => ?_) fun _ _ h' => h'.elim)))
  cases r with
  | none => exact wpAny_pure h₁
  | some v =>
    refine wpAny_bind (wpAny_mono h₁ (fun _ s₁' h₁' => wpAny_bind (wpAny_mono h₁' (fun _ s₂ h₂ => wpAny_bind (wpAny_mono h₂ (fun ok s₃ h₃ => ?_) fun _ _ h' => h'.elim)) fun _ _ h' => h'.elim)) fun _ _ h' => h'.elim)
    cases ok with
    | false => exact wpAny_pure ⟨rfl, h₃⟩
    | true =>
      exact wpAny_bind (wpAny_bind (wpAny_mono h₃ (fun x s₄ h₄ => wpAny_bind (wpAny_mono h₄ (fun _ s₅ h₅ => wpAny_pure (wpAny_pure ⟨rfl, h₅⟩)) fun _ _ h' => h'.elim)) fun _ _ h' => h'.elim))
def PTs (X : Cx) (ifs : List Expr) (t : TT) : Prop :=
  ∀ (pins : List (Addr × Obj)) (s : Shared) (σ : St) (H : Hp) (Q : Bool → Hp → Prop), Inv X pins σ H s → t σ H Q →
    wpAny (model X.prog X.w) X.A (forIn ifs true fun c r => if r = true then do let ok ← isTrue c X.env (eval c X.env); pure (ForInStep.yield ok) else pure (ForInStep.yield r)) (TP X pins σ Q) X.xe s
def DR : TT := fun _ H Q => Q true H
theorem cC : PTs X [] DR := fun _ _ _ H _ I h => wpAny_tests_nil ⟨H, I, h⟩
theorem lG {c : Expr} {t : TT} (h : PT X c t) : PTs X [c] t := fun pins s σ H Q I q => wpAny_tests_one (h pins s σ H Q I q)
def oi (m : Nat) (caps : List Nat) (wi : TI) (g : TG) (tc : TT) (te : TE) : TE := fun σ H Q => wi σ H fun J H1 => ∀ p, H1 p = none →
  ∃ W : Nat → Nat → List V → St → Hp → Prop, (∃ k, W 0 k [] (lE m caps σ) (upd H1 p (.lst []))) ∧ ∀ i k acc σ' H', W i k acc σ' H' →
    (J.stop i H' ∧ H' p = some (.lst acc) ∧ Q (.ref p) H') ∨ (J.go i H' ∧ ∀ x H2, J.yld i H' x H2 → g x σ' H2 fun σ2 H3 => tc σ2 H3 fun b H4 => if b = true then
      te σ2 H4 fun y H5 => H5 p = some (.lst acc) ∧ acc.length < sizeLine ∧ ∃ k', k' < k ∧ W (i + 1) k' (acc ++ [y]) σ2 (upd H5 p (.lst (acc ++ [y])))
      else ∃ k', k' < k ∧ W (i + 1) k' acc σ2 H4)
theorem DL {scope : Scope} {N' : List Str} {fp : List Addr} {pins pins' : List (Addr × Obj)} {σ σ' : St} {H3 H' : Hp} {s3 s' : Shared} (I3 : Inv X pins σ H3 s3) (I' : Inv (cxC X scope N' fp s3 H3) pins' σ' H' s') (hfp : ∀ b ∈ fp, kc X pins H3 b) : Inv X pins σ H' s' :=
  I3.call' (ch := fp) I'.os I'.base I'.hok I'.bare fun b hb => ⟨(hfp b hb).2.2.2.1, (hfp b hb).2.1, (hfp b hb).2.2.2.2.1, (hfp b hb).2.2.2.2.2⟩
theorem tE {target iter elt : Expr} {ifs : List Expr} {scope : Scope} {pos : Pos} {own cap : List Str} {caps : List Nat} {g : TG} {tc : TT} {te : TE} {pins : List (Addr × Obj)} {σ : St} {H2 : Hp} {s₂ : Shared} {it : Addr} {fp : List Addr} {tn : Nat → Heap → Prop} {J : It} {E : Value → Shared → Prop}
    {RR : Value → Addr → Result → Shared → Prop} {Q : VK}
    (hc : X.calm = true) (Sc : lQ X scope own cap caps)
    (hg : ∀ s H, PG (cxC X scope (own ++ cap) fp s H) target g) (ht : ∀ s H, PTs (cxC X scope (own ++ cap) fp s H) ifs tc) (he : ∀ s H, PE (cxC X scope (own ++ cap) fp s H) elt te)
    (I : Inv X pins σ H2 s₂) (T : Turn X.prog X.w X.K target J fp it tn) (t0 : tn 0 s₂.heap) (hfp : ∀ b ∈ fp, kc X pins H2 b)
    (hQ : ∀ p, H2 p = none → ∃ W : Nat → Nat → List V → St → Hp → Prop, (∃ k, W 0 k [] (lE own.length caps σ) (upd H2 p (.lst []))) ∧ ∀ i k acc σ' H', W i k acc σ' H' →
      (J.stop i H' ∧ H' p = some (.lst acc) ∧ Q (.ref p) H') ∨ (J.go i H' ∧ ∀ x H2, J.yld i H' x H2 → g x σ' H2 fun σ2 H3 => tc σ2 H3 fun b H4 => if b = true then
        te σ2 H4 fun y H5 => H5 p = some (.lst acc) ∧ acc.length < sizeLine ∧ ∃ k', k' < k ∧ W (i + 1) k' (acc ++ [y]) σ2 (upd H5 p (.lst (acc ++ [y])))
        else ∃ k', k' < k ∧ W (i + 1) k' acc σ2 H4))
    (hRR : ∀ C p H' s' m, X.s₀.heap.objs.size ≤ C → C ≠ X.env.locals → (∀ x c, X.env.cells.lookup x = some c → c ≠ C) → (∀ q ∈ X.pn ++ pins, q.1 ≠ C) → H' C = none → s'.heap.Ns C m → Inv X pins σ H' s' → Q (.ref p) H' → RR (.ref p) C (.ok .next) s') :
    wpAny (model X.prog X.w) X.A (newList []) (fun acc s₃ => wpAny (model X.prog X.w) X.A (newFunctionEnv scope X.env.globals (eI X.env scope.names []) [] X.env.qual none .none (some X.env)) (fun cenv s₄ =>
      codeAny (model X.prog X.w) X.A (.compStart (.ListComp elt [⟨target, iter, ifs, 0⟩] scope pos) 0 (.ref it) acc { cenv with scope := relabel scope X.env }) (RR acc cenv.locals) s₄) E s₃) E s₂ := by
  refine wpAny_newObj_type (wpAny_newFunctionEnv Sc.cell (by intro y hy; simp at hy) (fun h₁ hns₁ hsb₁ => ?_) Sc.kind)
  dsimp only at hns₁ hsb₁ ⊢
  have hD0 : H2 s₂.heap.objs.size = none := I.hok.fresh (Nat.le_refl _)
  have I3 : Inv X pins σ (upd H2 s₂.heap.objs.size (.lst [])) { s₂ with heap := s₂.heap.push { cls := .type "list", dict := none, data := .seq ([] : List Value).toArray } } := I.lnew (t' := s₂.toks) .nil (Nat.zero_le _)
  obtain ⟨W, ⟨k0, w0⟩, turn⟩ := hQ s₂.heap.objs.size hD0
  have old : ∀ b o, s₂.heap.get? b = some o → (s₂.heap.push { cls := .type "list", dict := none, data := .seq ([] : List Value).toArray }).get? b = some o := fun b o e => Heap.get?_push_of_some _ e
  have hbD : ∀ b ∈ fp, b ≠ s₂.heap.objs.size := fun b hb => by
    obtain ⟨o, ho, _⟩ := T.obj 0 s₂.heap t0 b hb
    exact Nat.ne_of_lt (Heap.lt_size ho)
  have hfp3 : ∀ b ∈ fp, kc X pins (upd H2 s₂.heap.objs.size (.lst [])) b := fun b hb => ⟨by rw [aR (hbD b hb)]; exact (hfp b hb).1, (hfp b hb).2⟩
  have hob : ∀ b ∈ fp, ∃ o, (s₂.heap.push { cls := .type "list", dict := none, data := .seq ([] : List Value).toArray }).get? b = some o := fun b hb => by
    obtain ⟨o, ho, _⟩ := T.obj 0 s₂.heap t0 b hb
    exact ⟨o, old b o ho⟩
  have hk : ∀ b o, (s₂.heap.push { cls := .type "list", dict := none, data := .seq ([] : List Value).toArray }).get? b = some o → h₁.get? b = some o := fun b o e =>
    hsb₁.extBut b o (Nat.ne_of_lt (Heap.lt_size e)) (Heap.get?_push_of_some _ e)
  have st1 : tn 0 h₁ := T.keep 0 _ _ t0 fun b hb o e => hk b o (old b o e)
  generalize hs3 : ({ s₂ with heap := s₂.heap.push { cls := .type "list", dict := none, data := .seq ([] : List Value).toArray } } : Shared) = s3 at I3
  have hh3 : s3.heap = s₂.heap.push { cls := .type "list", dict := none, data := .seq ([] : List Value).toArray } := by rw [← hs3]
  rw [← hh3] at hns₁ hsb₁ hob hk ⊢
  generalize s₂.heap.objs.size = D at *
  generalize hH3 : upd H2 D (.lst []) = H3 at *
  have loop : ∀ s₄ : Shared, s₄ = { s3 with heap := h₁, toks := s₂.toks + ([] : List (Str × Value)).length } →
      codeAny (model X.prog X.w) X.A (.compLoop (.ListComp elt [⟨target, iter, ifs, 0⟩] scope pos) 0 (.ref it) (.ref D) (compEnvC scope (eI X.env scope.names []) s3.heap.objs.size X.env)) (RR (.ref D) s3.heap.objs.size) s₄ := by
    rintro s₄ rfl
    have I4 := Ck (tk := s₂.toks + ([] : List (Str × Value)).length) Sc I3 hfp3 hob hns₁ hk
    have stat : ∀ {H' : Hp}, (∀ b ∈ fp, H' b = none) → ∀ b ∈ fp, kc (cxC X scope (own ++ cap) fp s3 H3) [] H' b := fun hn b hb => by
      refine ⟨hn b hb, (I4.ok.exf b hb).1, I4.ok.exfs b hb, .inl hb, (I4.ok.exf b hb).2, fun p hp => absurd (show p ∈ ([] : List (Addr × Obj)) from hp) (by simp)⟩
    refine A3 (fun n s' => ∃ i acc σ' H', Inv (cxC X scope (own ++ cap) fp s3 H3) [] σ' H' s' ∧ tn i s'.heap ∧ (∀ b ∈ fp, H' b = none) ∧ W i n acc σ' H') ?_ k0 ⟨0, [], _, _, I4, st1, fun b hb => (hfp3 b hb).1, w0⟩
    rintro n s5 ⟨i, acc, σ5, H5, I5, st5, fr5, w5⟩
    rcases turn i n acc σ5 H5 w5 with ⟨stop, hp, q⟩ | ⟨go, step⟩
    · refine thn (T.done (cxC X scope (own ++ cap) fp s3 H3) rfl rfl rfl hc i [] s5 σ5 H5 _ I5 (stat fr5) st5 stop) fun r s6 ⟨hr, I6⟩ => ?_
      subst hr
      obtain ⟨m, hm, _⟩ := I6.loc
      refine hRR s3.heap.objs.size D H5 s6 m I3.sz (Nat.ne_of_gt I3.lt) (fun x c e => ?_) (fun p hp => ?_) I6.free hm (DL I3 I6 hfp3) q
      · obtain ⟨v, o, ho, _⟩ := I3.cell x c e
        exact Nat.ne_of_lt (Heap.lt_size ho)
      · exact Nat.ne_of_lt (Heap.lt_size (I3.pin p hp).1)
    · refine thn (T.item (cxC X scope (own ++ cap) fp s3 H3) rfl rfl rfl hc i [] s5 σ5 H5 _ I5 (stat fr5) st5 go) fun r s6 ⟨u, hr, h6⟩ => ?_
      subst hr
      refine thn h6 fun _ s7 ⟨x, H7, I7, r7, y7, st7, fr7⟩ => ?_
      have I7' := I7.pinned (stat fr7) (T.obj _ _ st7)
      refine thn (hg s3 H3 _ s7 σ5 H7 x u _ I7' r7 (step x H7 y7)) fun _ s8 ⟨σ8, H8, I8, q8⟩ => ?_
      refine thn (ht s3 H3 _ s8 σ8 H8 _ I8 q8) fun b s9 ⟨H9, I9, q9⟩ => ?_
      have again : ∀ {σz : St} {Hz : Hp} {sz : Shared}, Inv (cxC X scope (own ++ cap) fp s3 H3) ([] ++ p7 fp s7.heap) σz Hz sz → Inv (cxC X scope (own ++ cap) fp s3 H3) [] σz Hz sz ∧ tn (i + 1) sz.heap ∧ ∀ b ∈ fp, Hz b = none := fun {σz Hz sz} Iz => by
        refine ⟨Iz.unpinned, T.keep _ _ _ st7 fun b hb o e => (Iz.pin (b, o) (List.mem_append_right _ (List.mem_append_right _ (lu hb e)))).1, fun b hb => ?_⟩
        obtain ⟨o, e, d⟩ := T.obj _ _ st7 b hb
        exact (Iz.pin (b, o) (List.mem_append_right _ (List.mem_append_right _ (lu hb e)))).2.1
      cases b with
      | false =>
        rw [if_neg Bool.false_ne_true] at q9 ⊢
        obtain ⟨k', hk', w'⟩ := q9
        obtain ⟨a1, a2, a3⟩ := again I9
        exact ⟨k', hk', i + 1, acc, σ8, H9, a1, a2, a3, w'⟩
      | true =>
        rw [if_pos rfl] at q9 ⊢
        refine thn (he s3 H3 _ s9 σ8 H9 _ I9 q9) fun yv s10 ⟨y, H10, I10, r10, hp, hl, k', hk', w'⟩ => ?_
        refine thn (gO _ s10 σ8 H10 (.ref D) [y] (.ref D) [yv] (fun v Hz => Hz = upd H10 D (.lst (acc ++ [y]))) I10 rfl (.cons r10 .nil) ⟨D, acc, y, rfl, rfl, hp, hl, rfl⟩) fun _ s11 ⟨_, H11, I11, _, e11⟩ => ?_
        subst e11
        obtain ⟨a1, a2, a3⟩ := again I11
        exact ⟨k', hk', i + 1, acc ++ [y], σ8, _, a1, a2, a3, w'⟩
  have fin := loop _ rfl
  subst hs3
  exact codeAny_compStart_list fin (T.self _ _ _ _ _ st1 fin)
theorem PTs.ok {X : Cx} {scope : Scope} {own cap : List Str} {caps : List Nat} {pins : List (Addr × Obj)} {σ : St} {H : Hp} {s : Shared} (I : Inv X pins σ H s) (Sc : lQ X scope own cap caps) : closureFor scope X.env = pure (eI X.env scope.names []) :=
  vH fun n hn => I.ok.has n (Sc.out hn)
theorem dw {target iter elt : Expr} {ifs : List Expr} {scope : Scope} {pos : Pos} {own cap : List Str} {caps : List Nat} {wi : TI} {g : TG} {tc : TT} {te : TE} (hc : X.calm = true) (Sc : lQ X scope own cap caps) (hi : PI X target iter wi)
    (hg : ∀ fp s H, PG (cxC X scope (own ++ cap) fp s H) target g) (ht : ∀ fp s H, PTs (cxC X scope (own ++ cap) fp s H) ifs tc) (he : ∀ fp s H, PE (cxC X scope (own ++ cap) fp s H) elt te)
    (hs : ∀ x, foldedSetIterable iter X.env x = pure x := by intro _; rfl) : PE X (.ListComp elt [⟨target, iter, ifs, 0⟩] scope pos) (oi own.length caps wi g tc te) := by
  intro pins s σ H Q I h
  rw [eval_ListComp]
  refine wpAny_comprehension_free (use := none) rfl hs (PTs.ok I Sc) Sc.kind Sc.nm (thn (hi pins s σ H _ I h) fun v s1 h1 => thn h1 fun itv s2 h2 => ?_)
  obtain ⟨it, fp, tn, J, H2, e, I2, T, st2, f2, q⟩ := h2
  subst e
  refine tE (Q := Q) (RR := fun acc C => compPost (model X.prog X.w) X.A X.xe none (EP X pins σ Q) acc C) hc Sc (hg fp) (ht fp) (he fp) I2 T st2 f2 q ?_
  intro C p H' s' m h1 h2 h3 h4 h5 hn I' q'
  exact ⟨m, hn, fun h' hs' => ⟨.ref p, H', I'.turned (it := C) (t' := s'.toks) (fun b o hb e => hs'.extBut b o hb e) h5 (Ne.symm h2.symm) (.inr h1) h3 h4, rfl, q'⟩⟩
theorem dE {target iter elt : Expr} {ifs : List Expr} {scope : Scope} {pos spos py : Pos} {own cap : List Str} {caps : List Nat} {wi : TI} {g : TG} {tc : TT} {te : TE} {i : Nat} {y : Str} (hc : X.calm = true) (Sc : lQ X scope own cap caps) (hi : PI X target iter wi)
    (hg : ∀ fp s H, PG (cxC X scope (own ++ cap) fp s H) target g) (ht : ∀ fp s H, PTs (cxC X scope (own ++ cap) fp s H) ifs tc) (he : ∀ fp s H, PE (cxC X scope (own ++ cap) fp s H) elt te)
    (hN : X.N.Nodup) (hx : X.N[i]? = some y) (hl : Loc X.env.scope y)
    (hsw : swapsWith (.ListComp elt [⟨target, iter, ifs, 0⟩] scope pos) (some (.Name y py)) spos.line X.env = pure true)
    (hs : ∀ x, foldedSetIterable iter X.env x = pure x := by intro _; rfl) (hf : X.fn y = true ∨ X.env.scope.names.lookup y = some .local := by first | exact .inl rfl | exact .inr rfl | assumption) :
    PS X (.Assign [.Name y py] (.ListComp elt [⟨target, iter, ifs, 0⟩] scope pos) spos) (vV (oi own.length caps wi g tc te) (qA i)) := by
  intro pins s σ H D I h
  rw [exec_Assign_Name_used _ _ _ _ hsw]
  refine wpAny_bind (wpAny_standAt (wpAny_bind ?_))
  show wpAny _ _ (do let _ ← comprehension (.ListComp elt [⟨target, iter, ifs, 0⟩] scope pos) scope X.env _ (newList []) false (eval iter X.env) (some (assign (.Name y py) X.env))) _ _ s
  refine wpAny_bind (wpAny_mono (wpAny_comprehension_free (use := some (assign (.Name y py) X.env)) (Q := fun _ s' => SP X pins D .next s') rfl hs (PTs.ok I Sc) Sc.kind Sc.nm
    (thn (hi pins s σ H _ I h) fun v s1 h1 => thn h1 fun itv s2 h2 => ?_)) (fun _ s' hq => wpAny_pure (wpAny_pure hq)) fun _ _ e => e)
  obtain ⟨it, fp, tn, J, H2, e, I2, T, st2, f2, q⟩ := h2
  subst e
  refine tE (Q := fun v H' => qA i v σ H' D.nx) (RR := fun acc C => compPost (model X.prog X.w) X.A X.xe (some (assign (.Name y py) X.env)) (fun _ s' => SP X pins D .next s') acc C) hc Sc (hg fp) (ht fp) (he fp) I2 T st2 f2 q ?_
  intro C p H' s' m h1 h2 h3 h4 h5 hn I' q'
  show wpAny _ _ (assign (.Name y py) X.env (.ref p)) _ _ _
  refine wpAny_assign_Name (vb I' hN hx hl (show RelV (.ref p) (.ref p) from rfl) (fun s'' I'' ⟨a, hsb, ha⟩ => ?_) hf)
  have haC : C ≠ a := by
    rcases ha with rfl | ha
    · exact h2
    · exact (h3 _ _ ha).symm
  exact ⟨m, hn.sameBut hsb haC, fun h' hs' => ⟨_, H', I''.turned (it := C) (t' := s''.toks) (fun b o hb e => hs'.extBut b o hb e) h5 h2 (.inr h1) h3 h4, q'⟩⟩
end
end L2
set_option maxRecDepth 100000
set_option maxHeartbeats 4000000
namespace L2
open PySem PySem.Spec PyProof.Rows
section
variable {X : Cx}
def D9 (K : PySem.W.Frag) : R2 := fun x y H Q => ∃ l b xs zs, x = .ref l ∧ y = .ref b ∧ SqL K H l xs ∧ SqL K H b zs ∧ xs.length + zs.length ≤ sizeLine ∧ ∀ p, H p = none → Q (.ref p) (upd H p (.lst (xs ++ zs)))
theorem Fh : OpR X (binaryOp .Add) (D9 X.K) := by
  intro pins s σ H x y v u Q I rx ry h
  obtain ⟨l, b, xs, zs, rfl, rfl, hH, hB, hz, q⟩ := h
  cases rx
  cases ry
  obtain ⟨its, r, pl, _⟩ := I.list hH
  obtain ⟨its2, r2, pl2, _⟩ := I.list hB
  obtain ⟨⟨cls, dd, data, sl⟩, ho, hc, n, hd⟩ := pl.isList
  obtain ⟨⟨cls2, dd2, data2, sl2⟩, ho2, hc2, n2, hd2⟩ := pl2.isList
  simp only at hc hd hc2 hd2
  subst hc hd hc2 hd2
  have e : its.toArray ++ its2.toArray = (its ++ its2).toArray := by simp
  have hl1 := r.length
  have hl2 := r2.length
  refine concat_meets ⟨_, ho, rfl⟩ ⟨_, ho2, rfl⟩ noFill_list_add seq_list_add PySem.F.slot_list_add PySem.F.entry_list_add (PySem.F.args_list_add_2 _ _) (list_addW l b its.toArray its2.toArray n n2 dd dd2 sl sl2 (by simp only [List.size_toArray]; omega)) ⟨ho, ho2, ?_⟩
  rw [e]
  exact ⟨.ref _, _, I.lnew (t' := s.toks) (r.append r2) (by rw [List.length_append]; omega), rfl, q _ I.fresh⟩
mutual
def RdV (K : PySem.W.Frag) (H : Hp) : PyData → V → Prop
  | .none, v => v = .non
  | .bool b, v => v = .bl b
  | .int i, v => v = .int i
  | .str x, v => v = .str x
  | .list ds, v => ∃ a xs, v = .ref a ∧ SqL K H a xs ∧ kO K H ds xs
  | .tuple ds, v => ∃ a xs, v = .ref a ∧ SqT K H a xs ∧ kO K H ds xs
  | .dict _, _ => False
def kO (K : PySem.W.Frag) (H : Hp) : List PyData → List V → Prop
  | [], xs => xs = []
  | d :: ds, xs => ∃ v r, xs = v :: r ∧ RdV K H d v ∧ kO K H ds r
end
mutual
theorem jz {pins : List (Addr × Obj)} {σ : St} {H : Hp} {s : Shared} (I : Inv X pins σ H s) : ∀ {d : PyData} {v : V} {u : Value}, RdV X.K H d v → RelV v u → ∃ as, Reads s.heap u d as
  | .none, v, u, h, r => by
    unfold RdV at h; subst h
    cases (show u = Value.none from r); exact ⟨_, .none⟩
  | .bool b, v, u, h, r => by
    unfold RdV at h; subst h
    cases (show u = Value.bool b from r); exact ⟨_, .bool b⟩
  | .int i, v, u, h, r => by
    unfold RdV at h; subst h
    obtain ⟨t, rfl⟩ := (show ∃ t, u = Value.int i t from r); exact ⟨_, .int i t⟩
  | .str x, v, u, h, r => by
    unfold RdV at h; subst h
    obtain ⟨t, rfl⟩ := (show ∃ t, u = Value.str x t from r); exact ⟨_, .str x t⟩
  | .list ds, v, u, h, r => by
    unfold RdV at h
    obtain ⟨a, xs, rfl, hs, hr⟩ := h
    cases (show u = Value.ref a from r)
    obtain ⟨its, rv, pl, _⟩ := I.list hs
    obtain ⟨o, ho, hc, n, hd⟩ := pl.isList
    obtain ⟨as, ra⟩ := ot I hr rv
    exact ⟨_, .list ho hc hd (by simpa using ra)⟩
  | .tuple ds, v, u, h, r => by
    unfold RdV at h
    obtain ⟨a, xs, rfl, hs, hr⟩ := h
    cases (show u = Value.ref a from r)
    obtain ⟨its, rv, ⟨o, ho, hc, n, hd⟩, _⟩ := I.tuple hs
    obtain ⟨as, ra⟩ := ot I hr rv
    exact ⟨_, .tuple ho hc hd (by simpa using ra)⟩
  | .dict _, v, u, h, r => by unfold RdV at h; exact h.elim
theorem ot {pins : List (Addr × Obj)} {σ : St} {H : Hp} {s : Shared} (I : Inv X pins σ H s) : ∀ {ds : List PyData} {xs : List V} {us : List Value}, kO X.K H ds xs → Vals xs us → ∃ as, ReadsAll s.heap us ds as
  | [], xs, us, h, r => by
    unfold kO at h; subst h
    cases r; exact ⟨_, .nil⟩
  | d :: ds, xs, us, h, r => by
    unfold kO at h
    obtain ⟨v, w, rfl, h1, h2⟩ := h
    cases r with
    | cons r1 r2 =>
      obtain ⟨as, a1⟩ := jz I h1 r1
      obtain ⟨bs, a2⟩ := ot I h2 r2
      exact ⟨_, .cons a1 a2⟩
end
def FR (K : PySem.W.Frag) : R2 := fun x y H Q => ∃ d e, RdV K H d x ∧ RdV K H e y ∧ SeqAt.shaped d = true ∧ SeqAt.shaped e = true ∧ Q (.bl (PyData.eqv d e)) H
def FT (K : PySem.W.Frag) : R2 := fun x y H Q => ∃ d e, RdV K H d x ∧ RdV K H e y ∧ SeqAt.shaped d = true ∧ SeqAt.shaped e = true ∧ Q (.bl (!PyData.eqv d e)) H
theorem Ga (hu : X.A.units + 64 < cLine) : OpR X (compareOp .Eq) (FR X.K) := by
  intro pins s σ H x y v u Q I rx ry h
  obtain ⟨d, e, h1, h2, s1, s2, q⟩ := h
  obtain ⟨as, ra⟩ := jz I h1 rx
  obtain ⟨bs, rb⟩ := jz I h2 ry
  exact SeqAt.compareEq_shaped ra rb s1 s2 hu ⟨.bl _, H, I, rfl, q⟩
theorem GU (hu : X.A.units + 64 < cLine) : OpR X (compareOp .NotEq) (FT X.K) := by
  intro pins s σ H x y v u Q I rx ry h
  obtain ⟨d, e, h1, h2, s1, s2, q⟩ := h
  obtain ⟨as, ra⟩ := jz I h1 rx
  obtain ⟨bs, rb⟩ := jz I h2 ry
  exact SeqAt.compareNe_shaped ra rb s1 s2 hu ⟨.bl _, H, I, rfl, q⟩
def Hf (K : PySem.W.Frag) (H : Hp) (x : V) (T : String) : Prop := match x with
  | .non => T = "NoneType"
  | .bl _ => T = "bool"
  | .int _ => T = "int"
  | .str _ => T = "str"
  | .ref a => (T = "list" ∧ ∃ xs, SqL K H a xs) ∨ (T = "tuple" ∧ ∃ xs, SqT K H a xs)
  | _ => False
def Dz (K : PySem.W.Frag) : List V → Hp → VK → Prop := fun xs H Q => ∃ x c T b, xs = [x, .ty c] ∧ Hf K H x T ∧ PySem.W.kitOne K (.type T) (.type c) = some b ∧ Q (.bl b) H
theorem iI : g7 X (.builtin "isinstance") (Dz X.K) := by
  intro pins s σ H xs us Q I r h
  obtain ⟨x, c, T, b, rfl, hT, hk, q⟩ := h
  obtain ⟨u, w, rfl, r1, r2⟩ := vals2 r
  cases (show w = Value.type c from r2)
  have fin : ∀ tk, EP X pins σ Q (.bool b) { s with toks := tk } := fun tk => ⟨.bl b, H, I.tok tk, rfl, q⟩
  cases x with
  | non => cases (show u = Value.none from r1); cases (show T = "NoneType" from hT); exact PySem.W.kia_one PySem.W.kitx_none I.kIn True.intro hk (fun z => nomatch z) fin
  | bl y => cases (show u = Value.bool y from r1); cases (show T = "bool" from hT); exact PySem.W.kia_one PySem.W.kitx_bool I.kIn True.intro hk (fun z => nomatch z) fin
  | int i => obtain ⟨t, e⟩ := (show ∃ t, u = Value.int i t from r1); cases e; cases (show T = "int" from hT); exact PySem.W.kia_one PySem.W.kitx_int I.kIn True.intro hk (fun z => nomatch z) fin
  | str y => obtain ⟨t, e⟩ := (show ∃ t, u = Value.str y t from r1); cases e; cases (show T = "str" from hT); exact PySem.W.kia_one PySem.W.kitx_str I.kIn True.intro hk (fun z => nomatch z) fin
  | ref a =>
    cases (show u = Value.ref a from r1)
    rcases hT with ⟨rfl, xs, hs⟩ | ⟨rfl, xs, hs⟩
    · obtain ⟨its, rv, ⟨o, n, ho, hc, _⟩, _⟩ := I.list hs
      exact PySem.W.kia_one PySem.W.kitx_list I.kIn ⟨o, ho, hc⟩ hk (fun z => nomatch z) fin
    · obtain ⟨its, rv, ⟨o, ho, hc, _⟩, _⟩ := I.tuple hs
      exact PySem.W.kia_one PySem.W.kitx_tuple I.kIn ⟨o, ho, hc⟩ hk (fun z => nomatch z) fin
  | byt y => exact False.elim hT
  | flt y => exact False.elim hT
  | ty y => exact False.elim hT
end
end L2
set_option maxRecDepth 100000
set_option maxHeartbeats 4000000
namespace L2
open PySem PySem.Spec PyProof.Rows
structure Jz (S : List Addr) (e : Addr) (oe : Obj) (h h' : Heap) (T : Addr) : Prop where
  keep : ∀ b o, h.get? b = some o → b ∉ S → b ≠ e → h'.get? b = some o
  slot : ∀ b o, h.get? b = some o → b ∈ S → ∃ sl, h'.get? b = some { o with slots := sl }
  new : h.objs.size ≤ T
  ne : T ≠ e
  exc : ∃ oe' vs, h'.get? e = some oe' ∧ oe'.cls = oe.cls ∧ oe'.dict = oe.dict ∧ oe'.data = .fields vs ∧ vs[1]? = some (.ref T)
  trc : ∃ oT ts, h'.get? T = some oT ∧ oT.data = .fields ts ∧ ts[3]? = some .none
section
variable {M : Model} {A : Around} {E : Value → Shared → Prop} {s : Shared}
structure Trc (h : Heap) (e : Addr) (oe : Obj) (T : Addr) : Prop where
  exc : h.get? e = some oe
  dat : ∃ vs, oe.data = .fields vs ∧ vs[1]? = some (.ref T)
  ne : T ≠ e
  trc : ∃ oT ts, h.get? T = some oT ∧ oT.data = .fields ts ∧ ts[3]? = some .none
end
end L2
set_option maxRecDepth 100000
set_option maxHeartbeats 4000000
namespace L2
open PySem PySem.Spec PyProof.Rows
theorem gh.there {P : Program} {w : World} {H : Hp} {h : Heap} {a : Addr} {o : HO} (x : gh P w H h a o) : ∃ u, h.get? a = some u := by
  cases o with
  | lst xs => exact let ⟨_, _, _, _, e⟩ := x; ⟨_, e⟩
  | tup xs => exact let ⟨_, _, _, ob, e, _⟩ := x; ⟨_, e⟩
  | dK kvs => exact let ⟨_, _, _, _, ob, _, _, e, _⟩ := x; ⟨_, e⟩
  | dT kvs => exact let ⟨_, _, _, _, ob, _, _, e, _⟩ := x; ⟨_, e⟩
  | set S n => exact let ⟨ob, _, _, _, e, _⟩ := x; ⟨_, e⟩
  | ins C dx fs => exact let ⟨_, _, _, e, _⟩ := x; ⟨_, e⟩
  | own y => exact x
  | xd fs => exact let ⟨_, ⟨_, _, _, e, _⟩, _⟩ := x; ⟨_, e⟩
  | rng lo hi => exact let ⟨_, _, _, e⟩ := x; ⟨_, e⟩
  | frz ob u => exact let ⟨e, _⟩ := x; ⟨_, e⟩
  | tbl ps => exact ⟨_, x⟩
  | met f y => exact ⟨_, x⟩
  | ext φ => exact x.2.1
theorem HOk.free {P : Program} {w : World} {H : Hp} {h : Heap} {a : Addr} (x : HOk P w H h) (n : h.get? a = none) : H a = none := by
  cases e : H a with
  | none => rfl
  | some o =>
    obtain ⟨u, hu⟩ := (x a o e).there
    rw [n] at hu; cases hu
structure G6 (P : Program) (w : World) (fs : List Addr) (H : Hp) (h : Heap) (x : Addr) (H' : Hp) (h' : Heap) (oe : Obj) (T C : Addr) : Prop where
  un : Un fs [] H H' h h'
  hok : HOk P w H' h'
  nx : h.get? x = none
  nT : h.get? T = none
  hx : H' x = none
  hT : H' T = none
  tr : Trc h' x oe T
  cls : oe.cls = .ref C
def CXE (P : Program) (w : World) : CXT := fun outer H s E e s' => ∃ x oe T H' C, e = .ref x ∧ s'.os = s.os ∧ AllBare s'.gens ∧ G6 P w (frs outer) H s.heap x H' s'.heap oe T C ∧ E (.ref C) oe.dict H'
section
variable {X : Cx} {pins : List (Addr × Obj)} {σ : St} {H : Hp} {s : Shared}
theorem Inv.old (I : Inv X pins σ H s) (hex : X.ex = []) {a : Addr} (n : s.heap.get? a = none) : X.s₀.heap.get? a = none := by
  cases e : X.s₀.heap.get? a with
  | none => rfl
  | some o =>
    obtain ⟨o', q⟩ := I.base.there a o e (by rw [hex]; simp)
    rw [n] at q; cases q
end
section
variable {P : Program} {w : World} {K : PySem.W.Frag} {mg : Str → Option Value} {base : Heap} {N : List Str} {qual : Str} {scope : Scope} {f : Addr} {cd : Value} {A : Around} {outer : List Env} {s0 : Shared} {H0 : Hp} {E : XK}
end
end L2
set_option maxRecDepth 100000
set_option maxHeartbeats 4000000
namespace L2
open PySem PySem.Spec PyProof.Rows
section
variable {X : Cx} {E : XK} {c : Str} {C : Addr} {np cpos pos : Pos} {e : Expr} {es : List Expr} {t : TA} {B newId initId : String} {bmB : List Value}
end
section
variable {P : Program} {w : World} {K : PySem.W.Frag} {mg : Str → Option Value} {base : Heap}
theorem Fun.okE {CX : CXT} {x qual : Str} {st : Stmt} {f : Addr} {fd : FuncData} {N ps : List Str} {k : Nat} {sp : Sp} (F : Fun K x qual st f fd) (S : bo N ps (aF st)) (len : ∀ vs H Q E, sp vs H Q E → vs.length = ps.length)
    (hb : ∀ (cdv : Value) (A : Around) (outer : List Env) (s : Shared) (H : Hp) (vs : List V) (Q : VK) (E : XK), fb k (A.deeper (envOfC qual (aF st) s.heap.objs.size f cdv)) → sp vs H Q E →
      ∃ t, PSs (oO CX P w K mg base N qual (aF st) f cdv A outer s H E) (bc st) t ∧ t { nx := fun _ H' => Q .non H', rt := Q } (start N vs) H) : iE P w K mg base CX (k + 1) f fd ps sp := by
  obtain ⟨oc, od, kV, doc, pm, an, cdv, ct, osl, rfl, look, hcd⟩ := F.ex
  exact D7 look hcd S len (hb cdv)
end
theorem C8 {l : PySem.W.OpenLaw} {n k : Nat} {q : Program} {loose : List Str} {XP : (Str → Option Value) → Heap → Prop} {YP : World → Heap → Prop} {d : DefRec} {K : Params → PySem.W.Frag} {sp : PySem.W.Frag → Sp} {x : Str} (hn : l.most = some n) (hn2 : n ≤ sizeLine)
    (hdf : d.params.defaults = []) (hr : fb k callerA) (hi : importsNone q = true) (hY : ∀ (w : World) (h : Heap), YP w h → (K w.params).In h) (F : ∀ (w : World) (mg : Str → Option Value) (fa : Addr) (h : Heap), (K w.params).In h → h.Ns mainGlobals mg → mg d.name = some (.ref fa) →
      ∃ fd : FuncData, (∀ (s : Shared) (u : Value), BindsTo s fd ⟨[u], []⟩ [(x, u)]) ∧ ∀ base : Heap, (K w.params).In base → base.Ns mainGlobals mg → iE l.prog w (K w.params) mg base (CXE l.prog w) k fa fd [x] (sp (K w.params)))
    (hsp : ∀ (K : PySem.W.Frag) (H : Hp) (a : Addr) (ns : List Int), ns.length ≤ n → z5 H → SqL K H a (ns.map V.int) → sp K [.ref a] H (fun v _ => v = .bl true) fun _ _ _ => False) : PySem.W.WalkO q loose XP YP l.row.toRowW d [] (fun f vs => PySem.call f vs) :=
  EE (K := K) (CX := fun w => CXE l.prog w) (sp := fun w => sp (K w.params)) hn hn2 hdf hr hi hY F (fun w H a ns h1 h2 h3 => hsp (K w.params) H a ns h1 h2 h3) fun _ _ _ _ _ ⟨_, _, _, _, _, _, _, _, _, z⟩ => z
end L2
set_option maxRecDepth 100000
set_option maxHeartbeats 4000000
namespace L2
open PySem PySem.Spec PyProof.Rows
def E2 (CX : CXT) (X : Cx) (Es : St → XK) : Prop := ∀ (pins : List (Addr × Obj)) (σ : St) (H : Hp) (s : Shared) (e : Value) (s' : Shared), Inv X pins σ H s → CX X.stack H s (Es σ) e s' → X.xe e s'
theorem Passes.s {CX : CXT} {X : Cx} {E : XK} (h : Passes CX X E) : E2 CX X fun _ => E := h
section
variable {X : Cx} {CX : CXT} {k : Nat} {f C : Addr} {fd : FuncData} {ps : List Str} {sp : Sp} {dvs : List V} {ds : List Value} {Es : St → XK} {x m : Str} {p pos apos : Pos} {e o : Expr} {es : List Expr} {ta : TE} {t : TA}
end
abbrev Cx.pinned (X : Cx) (p : List (Addr × Obj)) (E : Value → Shared → Prop) : Cx := { X with pn := p, xe := E }
theorem Cx.Ok.pinned {X : Cx} (ok : X.Ok) (p : List (Addr × Obj)) (E : Value → Shared → Prop) : (X.pinned p E).Ok := ⟨ok.mod, ok.kind, ok.glob, ok.blt, ok.above, ok.inj, ok.has, ok.cab, ok.hd, ok.frames, ok.stk, ok.exf, ok.bs, ok.bsz, ok.noex, ok.exfs, ok.funs, ok.frf⟩
theorem Cx.Ok.unpinned {X : Cx} {p : List (Addr × Obj)} {E : Value → Shared → Prop} (ok : (X.pinned p E).Ok) : X.Ok := ⟨ok.mod, ok.kind, ok.glob, ok.blt, ok.above, ok.inj, ok.has, ok.cab, ok.hd, ok.frames, ok.stk, ok.exf, ok.bs, ok.bsz, ok.noex, ok.exfs, ok.funs, ok.frf⟩
section
variable {X : Cx} {pins : List (Addr × Obj)} {σ : St} {H : Hp} {s : Shared} {E : Value → Shared → Prop}
end
end L2
set_option maxRecDepth 100000
set_option maxHeartbeats 4000000
namespace L2
open PySem PySem.Spec PyProof.Rows
def exO (a C : Addr) : HO := .ext fun h => ∃ o, h.get? a = some o ∧ o.cls = .ref C ∧ o.dict = none ∧ (∀ cd, o.data ≠ .cls cd)
section
variable {X : Cx} {pins : List (Addr × Obj)} {σ : St} {H : Hp} {s : Shared} {v : Value}
end
end L2
set_option maxRecDepth 100000
set_option maxHeartbeats 4000000
namespace L2
open PySem PySem.Spec PyProof.Rows
structure oW (X : Cx) (pins : List (Addr × Obj)) (H : Hp) (s : Shared) (x C : Addr) : Prop where
  tr : ∃ oe T, Trc s.heap x oe T ∧ oe.cls = .ref C ∧ oe.dict = none
  hx : H x = none
  h0 : X.s₀.heap.get? x = none
  nl : x ≠ X.env.locals
  nc : ∀ y c, X.env.cells.lookup y = some c → c ≠ x
  np : ∀ p ∈ X.pn ++ pins, p.1 ≠ x
theorem oW.kept {X : Cx} {pins : List (Addr × Obj)} {H : Hp} {s : Shared} {x C : Addr} {h' : Heap} (c : oW X pins H s x C) (k : ∀ b u, s.heap.get? b = some u → h'.get? b = some u) : oW X pins H { s with heap := h' } x C :=
  let ⟨oe, T, ⟨e, d, n, oT, ts, a1, a2⟩, hc⟩ := c.tr
  ⟨⟨oe, T, ⟨k _ _ e, d, n, oT, ts, k _ _ a1, a2⟩, hc⟩, c.hx, c.h0, c.nl, c.nc, c.np⟩
theorem oW.obj {X : Cx} {pins : List (Addr × Obj)} {H : Hp} {s : Shared} {x C : Addr} (c : oW X pins H s x C) : ∃ o, s.heap.get? x = some o ∧ o.cls = .ref C ∧ o.dict = none ∧ ∀ cd, o.data ≠ .cls cd :=
  let ⟨oe, T, ⟨e, ⟨vs, d, _⟩, _, _⟩, hc, hd⟩ := c.tr
  ⟨oe, e, hc, hd, fun cd z => by rw [d] at z; cases z⟩
section
variable {X : Cx} {c : Str} {Dc : Addr} {np pos : Pos} {b0 : Stmt} {suite : List Stmt} {rest : List ExceptHandler} {sub : Addr → Option Bool} {tb : TS} {th : Addr → TS}
end
end L2
set_option maxRecDepth 100000
set_option maxHeartbeats 4000000
namespace L2
open PySem PySem.Spec PyProof.Rows PySem.W
structure ExK (K : PySem.W.Frag) (D : Addr) : Prop where
  ga : findIn K (.ref D) "__getattribute__" = some (some (.builtin "BaseException.__getattribute__"))
  hk : findIn K (.ref D) "__getattr__" = some none
  cl : findIn K (.ref D) "__class__" = some (some (.builtin "object.__class__"))
  gt : specialIn K (.builtin "object.__class__") "__get__" = some (some (.builtin "getset_descriptor.__get__"))
  tk : takesIn K (.builtin "object.__class__") = some true
  ob : mroIn K D (.type "object") = some true
  be : mroIn K D (.type "BaseException") = some true
section
variable {prog : Program} {w : World} {A : Around} {E : Value → Shared → Prop} {s : Shared} {K : PySem.W.Frag} {x D : Addr} {ox : Obj}
theorem ExK.cls (k : ExK K D) : (clsIn K D).isSome = true := by
  obtain ⟨cd, hc, _⟩ := Option.bind_eq_some_iff.mp k.ob
  rw [hc]; rfl
end
end L2
set_option maxRecDepth 100000
set_option maxHeartbeats 4000000
namespace L2
open PySem PySem.Spec PyProof.Rows
section
variable {X : Cx} {pins : List (Addr × Obj)} {σ : List (Option V)} {H : Hp} {s : Shared} {h' : Heap}
theorem Inv.turnedL {t' : Nat} {ch : List Addr} (I : Inv X pins σ H s) (k : ∀ b o, b ∉ ch → s.heap.get? b = some o → h'.get? b = some o) (hf : ∀ b ∈ ch, kc X pins H b) : Inv X pins σ H { s with heap := h', toks := t' } := by
  have nit : ∀ b u, H b = some u → b ∉ ch := fun b u e z => by rw [(hf b z).1] at e; cases e
  refine I.step (g' := s.gens) (d' := s.drawn) (ch := ch) (fun b hb => ?_) (fun b o _ _ hc e _ => k b o hc e) (fun b o _ _ hc e _ => ⟨o.slots, k b o hc e⟩) (fun _ _ _ _ n => n)
    (fun b o hc e => ⟨o, k b o hc e⟩) (fun _ _ e => e) (fun _ _ _ e => e) (fun b ps e => ⟨#[], by rw [e]; simp⟩) (fun m hm => ?_) (fun b u e => ?_) I.bare
  · obtain ⟨f0, f1, f2, f3, f4, f5⟩ := hf b hb
    exact ⟨f3, f1, f4, f5⟩
  · obtain ⟨o, es, ep, ho, r⟩ := hm
    exact ⟨o, es, ep, k _ o (fun z => (hf _ z).2.1 rfl) ho, r⟩
  · refine (I.hok b u e).stay (fun c v hc q => k c v ?_ q) (fun _ q => q) fun _ _ q => q
    rcases hc with z | z
    · rw [z]; exact nit b u e
    · exact nit c _ z
theorem Inv.turnedT {t' : Nat} {ch : List Addr} {T : Addr} {xs : List V} (I : Inv X pins σ H s) (k : ∀ b o, b ∉ ch → s.heap.get? b = some o → h'.get? b = some o) (hf : ∀ b ∈ ch, kc X pins H b) (hT : s.heap.objs.size ≤ T)
    (new : gh X.prog X.w (upd H T (.tup xs)) h' T (.tup xs)) : Inv X pins σ (upd H T (.tup xs)) { s with heap := h', toks := t' } := by
  have hn : H T = none := I.hok.fresh hT
  have nit : ∀ b u, H b = some u → b ∉ ch := fun b u e z => by rw [(hf b z).1] at e; cases e
  refine I.step (g' := s.gens) (d' := s.drawn) (ch := ch) (fun b hb => ?_) (fun b o _ _ hc e _ => k b o hc e) (fun b o _ _ hc e _ => ⟨o.slots, k b o hc e⟩) (fun b o _ e n => ?_)
    (fun b o hc e => ⟨o, k b o hc e⟩) (fun b xs e => by rw [aR (eD e hn)]; exact e) (fun b o u e => by rw [aR (eD e hn)]; exact e) (fun b ps e => ⟨#[], by rw [aR (eD e hn), e]; simp⟩) (fun m hm => ?_) (fun b u e => ?_) I.bare
  · obtain ⟨f0, f1, f2, f3, f4, f5⟩ := hf b hb
    exact ⟨f3, f1, f4, f5⟩
  · have hb : b ≠ T := fun z => by
      subst z
      exact absurd (Nat.lt_of_lt_of_le (Heap.lt_size e) hT) (Nat.lt_irrefl _)
    rw [aR hb]; exact n
  · obtain ⟨o, es, ep, ho, r⟩ := hm
    exact ⟨o, es, ep, k _ o (fun z => (hf _ z).2.1 rfl) ho, r⟩
  · by_cases hb : b = T
    · subst hb; rw [cL] at e; cases e; exact new
    · rw [aR hb] at e
      refine (I.hok b u e).stay (fun c v hc q => k c v ?_ q) (fun c q => by rw [aR (eD q hn)]; exact q) fun c xs q => by rw [aR (eD q hn)]; exact q
      rcases hc with z | z
      · rw [z]; exact nit b u e
      · exact nit c _ z
end
def Itz (K : PySem.W.Frag) (a b : Addr) : It :=
  ⟨fun i H => ∃ xs ys x y, SqL K H a xs ∧ SqL K H b ys ∧ xs[i]? = some x ∧ ys[i]? = some y,
   fun i H v H' => ∃ T x y, H T = none ∧ v = .ref T ∧ H' = upd H T (.tup [x, y]) ∧ (∀ xs, SqL K H a xs → xs[i]? = some x) ∧ ∀ ys, SqL K H b ys → ys[i]? = some y,
   fun i H => ∃ xs ys, SqL K H a xs ∧ SqL K H b ys ∧ (xs.length ≤ i ∨ ys.length ≤ i)⟩
def Ite (K : PySem.W.Frag) (a : Addr) : It :=
  ⟨fun i H => ∃ xs x, SqL K H a xs ∧ xs[i]? = some x,
   fun i H v H' => ∃ T x, H T = none ∧ v = .ref T ∧ H' = upd H T (.tup [.int i, x]) ∧ ∀ xs, SqL K H a xs → xs[i]? = some x,
   fun i H => ∃ xs, SqL K H a xs ∧ xs.length ≤ i⟩
theorem Bt {P : Program} {w : World} {H : Hp} {h : Heap} {T : Addr} {x y : V} {u v : Value} (rx : RelV x u) (ry : RelV y v) (hT : h.IsTuple T #[u, v]) : gh P w H h T (.tup [x, y]) := by
  refine ⟨by simp only [List.length_cons, List.length_nil]; rw [sizeLine_eq]; decide, [u, v], .cons rx (.cons ry .nil), ?_⟩
  exact hT
theorem CL {P : Program} {w : World} {K : PySem.W.Frag} {elts : List Expr} {kk : Nat} {tp : Pos} {z TI TO i1 i2 a b : Addr} (D : ZipApart z TI TO i1 i2 a b) :
    Turn P w K (.Tuple elts kk tp) (Itz K a b) [z, TI, TO, i1, i2] z (fun i h => IsZip h z TI TO .none ∧ IsPair h TI (.ref i1) (.ref i2) ∧ (∃ u v, IsPair h TO u v) ∧ h.IsListIter i1 a i ∧ h.IsListIter i2 b i) where
  mem := by simp
  obj := fun i h st c hc => by
    obtain ⟨q1, q2, ⟨u, v, q3⟩, ⟨o1, e1, c1, d1⟩, ⟨o2, e2, c2, d2⟩⟩ := st
    simp only [List.mem_cons, List.not_mem_nil, or_false] at hc
    rcases hc with rfl | rfl | rfl | rfl | rfl
    · exact ⟨_, q1, fun v z => by have z' : Data.fields _ = Data.cell v := z; cases z'⟩
    · exact ⟨_, q2, fun v z => by have z' : Data.seq _ _ = Data.cell v := z; cases z'⟩
    · exact ⟨_, q3, fun v z => by have z' : Data.seq _ _ = Data.cell v := z; cases z'⟩
    · exact ⟨o1, e1, fun v z => by rw [d1] at z; cases z⟩
    · exact ⟨o2, e2, fun v z => by rw [d2] at z; cases z⟩
  keep := fun i h h' st k => by
    obtain ⟨q1, q2, ⟨u, v, q3⟩, q4, q5⟩ := st
    exact ⟨k z (by simp) _ q1, k TI (by simp) _ q2, ⟨u, v, k TO (by simp) _ q3⟩, q4.at fun o e => k i1 (by simp) o e, q5.at fun o e => k i2 (by simp) o e⟩
  item := by
    intro X hP hw hK hc i pins s σ H E I hf st hg
    subst hP hw hK
    obtain ⟨xs, ys, x, y, hq1, hq2, hx, hy⟩ := hg
    obtain ⟨its1, rv1, p1, hz1⟩ := I.list hq1
    obtain ⟨its2, rv2, p2, hz2⟩ := I.list hq2
    obtain ⟨u, hu, ru⟩ := rv1.get hx
    obtain ⟨v, hv, rv⟩ := rv2.get hy
    obtain ⟨q1, q2, q3, q4, q5⟩ := id st
    have W := WalksT.zip2 (prog := X.prog) (w := X.w) (A := X.A) (I.ok.hd hc) z TI TO i1 i2 a b D its1.toArray its2.toArray
    have hi1 : i < its1.length := (List.getElem?_eq_some_iff.mp hu).1
    have hi2 : i < its2.length := (List.getElem?_eq_some_iff.mp hv).1
    refine W.item i s _ _ (by simp; omega) ⟨q1, q2, q3, q4, q5, p1.isList, p2.isList⟩ fun T vals h1 tk hP hT isT mid kk1 => ⟨.ref T, rfl, W.go elts _ tp i T _ _ _ mid fun h2 st2 kk2 => ?_⟩
    obtain ⟨u', v', e1, e2, rfl⟩ := hP
    rw [show its1.toArray[i]? = its1[i]? by simp, hu] at e1
    rw [show its2.toArray[i]? = its2[i]? by simp, hv] at e2
    cases e1; cases e2
    have nT : T ∉ ([z, TO, i1, i2] : List Addr) := W.apart i T _ mid
    have sub : ∀ c, c ∈ ([z, TO, i1, i2] : List Addr) → c ∈ ([z, TI, TO, i1, i2] : List Addr) := fun c hc => by
      simp only [List.mem_cons, List.not_mem_nil, or_false] at hc ⊢
      rcases hc with h | h | h | h <;> simp [h]
    have kk : ∀ c o, c ∉ ([z, TO, i1, i2] : List Addr) → s.heap.get? c = some o → h2.get? c = some o := fun c o hc e => kk2 c o hc (kk1 c o hc e)
    have isT2 : h2.IsTuple T #[u, v] := by
      obtain ⟨o, e, c, d⟩ := isT
      exact ⟨o, kk2 T o nT e, c, d⟩
    have I2 : Inv X pins σ (upd H T (.tup [x, y])) { s with heap := h2, toks := tk } := I.turnedT kk (fun c hc => hf c (sub c hc)) hT (Bt ru rv isT2)
    refine ⟨.ref T, _, I2, rfl, ⟨T, x, y, I.hok.fresh hT, rfl, rfl, fun xs' h => by rw [I.list_inj h hq1]; exact hx, fun ys' h => by rw [I.list_inj h hq2]; exact hy⟩, ⟨st2.1, st2.2.1, st2.2.2.1, st2.2.2.2.1, st2.2.2.2.2.1⟩, fun c hc => ?_⟩
    have hc0 := (hf c hc).1
    rw [aR (fun e => ?_)]
    · exact hc0
    · subst e
      simp only [List.mem_cons, List.not_mem_nil, or_false] at hc
      rcases hc with h | h | h | h | h
      · exact nT (by simp [h])
      · have : TI < s.heap.objs.size := Heap.lt_size q2
        rw [← h] at this
        exact absurd (Nat.lt_of_lt_of_le this hT) (Nat.lt_irrefl _)
      · exact nT (by simp [h])
      · exact nT (by simp [h])
      · exact nT (by simp [h])
  done := by
    intro X hP hw hK hc i pins s σ H E I hf st hg
    subst hP hw hK
    obtain ⟨xs, ys, hq1, hq2, hx⟩ := hg
    obtain ⟨its1, rv1, p1, hz1⟩ := I.list hq1
    obtain ⟨its2, rv2, p2, hz2⟩ := I.list hq2
    have l1 := rv1.length
    have l2 := rv2.length
    obtain ⟨q1, q2, ⟨u, v, q3⟩, q4, q5⟩ := id st
    refine wpAny_pyNext_zip_end (I.ok.hd hc) D q1 q2 q3 q4 q5 p1.isList p2.isList (by
      rcases hx with h | h
      · left; simp; omega
      · right; simp; omega) fun h' hk => ⟨rfl, ?_⟩
    exact I.turnedL (t' := s.toks) (ch := [z, TI, TO, i1, i2]) (fun c o hc e => hk c o (fun x => hc (by simp [x])) (fun x => hc (by simp [x])) (fun x => hc (by simp [x])) (fun x => hc (by simp [x])) e) hf
  self := fun _ _ _ _ _ st h => wpAny_pyIter_zip st.1 h
theorem B4 {P : Program} {w : World} {K : PySem.W.Frag} {elts : List Expr} {kk : Nat} {tp : Pos} {e it a : Addr} (hei : e ≠ it) (hle : a ≠ e) (hli : a ≠ it) :
    Turn P w K (.Tuple elts kk tp) (Ite K a) [e, it] e (fun i h => (∃ old, IsEnum h e it i old) ∧ h.IsListIter it a i) where
  mem := by simp
  obj := fun i h st c hc => by
    obtain ⟨⟨old, q1⟩, ⟨o1, e1, c1, d1⟩⟩ := st
    simp only [List.mem_cons, List.not_mem_nil, or_false] at hc
    rcases hc with rfl | rfl
    · exact ⟨_, q1, fun v z => by have z' : Data.fields _ = Data.cell v := z; cases z'⟩
    · exact ⟨o1, e1, fun v z => by rw [d1] at z; cases z⟩
  keep := fun i h h' st k => by
    obtain ⟨⟨old, q1⟩, q4⟩ := st
    exact ⟨⟨old, k e (by simp) _ q1⟩, q4.at fun o e' => k it (by simp) o e'⟩
  item := by
    intro X hP hw hK hc i pins s σ H E I hf st hg
    subst hP hw hK
    obtain ⟨xs, x, hq1, hx⟩ := hg
    obtain ⟨its1, rv1, p1, hz1⟩ := I.list hq1
    obtain ⟨u, hu, ru⟩ := rv1.get hx
    obtain ⟨q1, q4⟩ := id st
    have W := WalksT.enumerate (prog := X.prog) (w := X.w) (A := X.A) (I.ok.hd hc) e it a hei hle hli its1.toArray
    have hi1 : i < its1.length := (List.getElem?_eq_some_iff.mp hu).1
    refine W.item i s _ _ (by simpa using hi1) ⟨q1, q4, p1.isList⟩ fun T vals h1 tk hP hT isT mid kk1 => ⟨.ref T, rfl, W.go elts _ tp i T _ _ _ mid fun h2 st2 kk2 => ?_⟩
    obtain ⟨t, u', e1, rfl⟩ := hP
    rw [show its1.toArray[i]? = its1[i]? by simp, hu] at e1
    cases e1
    have nT : T ∉ ([e, it] : List Addr) := W.apart i T _ mid
    have kk : ∀ c o, c ∉ ([e, it] : List Addr) → s.heap.get? c = some o → h2.get? c = some o := fun c o hc e => kk2 c o hc (kk1 c o hc e)
    have isT2 : h2.IsTuple T #[.int i t, u] := by
      obtain ⟨o, e, c, d⟩ := isT
      exact ⟨o, kk2 T o nT e, c, d⟩
    have I2 : Inv X pins σ (upd H T (.tup [.int i, x])) { s with heap := h2, toks := tk } := I.turnedT kk hf hT (Bt ⟨t, rfl⟩ ru isT2)
    refine ⟨.ref T, _, I2, rfl, ⟨T, x, I.hok.fresh hT, rfl, rfl, fun xs' h => by rw [I.list_inj h hq1]; exact hx⟩, ⟨st2.1, st2.2.1⟩, fun c hc => ?_⟩
    have hcT : c ≠ T := fun z => by
      subst z
      exact nT hc
    rw [aR hcT]
    exact (hf c hc).1
  done := by
    intro X hP hw hK hc i pins s σ H E I hf st hg
    subst hP hw hK
    obtain ⟨xs, hq1, hx⟩ := hg
    obtain ⟨its1, rv1, p1, hz1⟩ := I.list hq1
    have l1 := rv1.length
    obtain ⟨⟨old, q1⟩, q4⟩ := id st
    refine wpAny_pyNext_enum_end (I.ok.hd hc) q1 q4 p1.isList (by simp; omega) fun h' hk => ⟨rfl, ?_⟩
    exact I.turnedL (t' := s.toks) (ch := [e, it]) (fun c o hc e' => hk c o (fun x => hc (by simp [x])) e') hf
  self := fun _ _ _ _ _ st h => let ⟨_, q⟩ := st.1; wpAny_pyIter_enum q h
section
variable {X : Cx} {tg : Expr}
def CP (K : PySem.W.Frag) (ta : TA) : TI := fun σ H R => ta σ H fun vs H1 => ∃ a b, vs = [.ref a, .ref b] ∧ (∃ xs, SqL K H1 a xs) ∧ (∃ ys, SqL K H1 b ys) ∧ R (Itz K a b) H1
def DP (K : PySem.W.Frag) (ta : TA) : TI := fun σ H R => ta σ H fun vs H1 => ∃ a, vs = [.ref a] ∧ (∃ xs, SqL K H1 a xs) ∧ R (Ite K a) H1
theorem nr {elts : List Expr} {kk : Nat} {tp : Pos} {a b : Expr} {ta : TA} {p pos : Pos} (hg : Gl X "zip") (hm : X.mg "zip" = none) (ha : PA X [a, b] ta) (hs : starEach [a, b] X.env = [(false, eval a X.env), (false, eval b X.env)] := by rfl) (hs2 : starEach [b] X.env = [(false, eval b X.env)] := by rfl) :
    PI X (.Tuple elts kk tp) (.Call (.Name "zip" p) [a, b] [] pos) (CP X.K ta) := by
  intro pins s σ H R I h
  refine Call_ (mv I hg hm Boot.«zip» (PyProof.Rows.callWith_type1 (thn (ha pos pins s σ H _ I h) fun us s1 ⟨vs, H1, I1, r1, q1⟩ => ?_) (by rw [hs, hs2]) (by rw [hs2]; rfl)))
  obtain ⟨l1, l2, e, ⟨xs, hq1⟩, ⟨ys, hq2⟩, q⟩ := q1
  subst e
  obtain ⟨u, v, rfl, r, r'⟩ := vals2 r1
  cases r
  cases r'
  obtain ⟨its1, rv1, p1, hz1⟩ := I1.list hq1
  obtain ⟨its2, rv2, p2, hz2⟩ := I1.list hq2
  refine call_zip_2 p1.isList p2.isList fun h' hz hTI hTO hi1 hi2 hsz hk => ?_
  have a1 : l1 < s1.heap.objs.size := by obtain ⟨_, e, _⟩ := p1.isList; exact Heap.lt_size e
  have a2 : l2 < s1.heap.objs.size := by obtain ⟨_, e, _⟩ := p2.isList; exact Heap.lt_size e
  refine wpAny_pyIter_zip hz ⟨_, _, _, _, H1, rfl, I1.kept (t' := s1.toks) hk, CL (zipApart_new a1 a2), ⟨hz, hTI, ⟨_, _, hTO⟩, hi1, hi2⟩, fun b hb => ?_, q⟩
  have : s1.heap.objs.size ≤ b := by
    simp only [List.mem_cons, List.not_mem_nil, or_false] at hb
    rcases hb with rfl | rfl | rfl | rfl | rfl <;> omega
  exact I1.fpOk this (I1.hok.fresh this)
theorem qo {elts : List Expr} {kk : Nat} {tp : Pos} {a : Expr} {ta : TA} {p pos : Pos} (hg : Gl X "enumerate") (hm : X.mg "enumerate" = none) (ha : PA X [a] ta) (hs : starEach [a] X.env = [(false, eval a X.env)] := by rfl) :
    PI X (.Tuple elts kk tp) (.Call (.Name "enumerate" p) [a] [] pos) (DP X.K ta) := by
  intro pins s σ H R I h
  refine Call_ (mv I hg hm Boot.«enumerate» (PyProof.Rows.callWith_type1 (thn (ha pos pins s σ H _ I h) fun us s1 ⟨vs, H1, I1, r1, q1⟩ => ?_) hs rfl))
  obtain ⟨l1, e, ⟨xs, hq1⟩, q⟩ := q1
  subst e
  obtain ⟨u, rfl, ru⟩ := vals1 r1
  cases ru
  obtain ⟨its1, rv1, p1, hz1⟩ := I1.list hq1
  refine call_enumerate_list p1.isList fun h' hz hi1 hsz hk => ?_
  have a1 : l1 < s1.heap.objs.size := by obtain ⟨_, e, _⟩ := p1.isList; exact Heap.lt_size e
  refine wpAny_pyIter_enum hz ⟨_, _, _, _, H1, rfl, I1.kept (t' := s1.toks) hk, B4 (e := s1.heap.objs.size + 1) (it := s1.heap.objs.size) (a := l1) (Nat.succ_ne_self _) (Nat.ne_of_lt (Nat.lt_succ_of_lt a1)) (Nat.ne_of_lt a1), ⟨⟨_, hz⟩, hi1⟩, fun b hb => ?_, q⟩
  have : s1.heap.objs.size ≤ b := by
    simp only [List.mem_cons, List.not_mem_nil, or_false] at hb
    rcases hb with rfl | rfl <;> omega
  exact I1.fpOk this (I1.hok.fresh this)
theorem om : ∀ {ns : List Int} {its : List Value}, Vals (ns.map V.int) its → IntsAre its ns
  | [], _, r => by cases r; exact .nil
  | n :: ns, _, r => by
    cases r with
    | cons r1 r2 =>
      obtain ⟨t, rfl⟩ := r1
      exact .cons _ _ (om r2)
theorem uR (hc : X.calm = true := by rfl) : g7 X (.builtin "sum") (fun xs H Q => ∃ (p : Addr) (ns : List Int), xs = [.ref p] ∧ SqL X.K H p (ns.map V.int) ∧ Q (.int ns.sum) H) := by
  intro pins s σ H xs us Q I r h
  obtain ⟨p, ns, rfl, hq, q⟩ := h
  obtain ⟨u, rfl, ru⟩ := vals1 r
  cases ru
  obtain ⟨its, rv, pl, hz⟩ := I.list hq
  have hI := om rv
  obtain ⟨xs, exs⟩ := hI.allInts.items
  have hn : numsOf its = ns := hI.numsOf
  rw [show its = its.toArray.toList by simp, exs, nums_intItems] at hn
  refine sum_intListG (I.ok.hd hc) (exs ▸ pl.isList) fun h' tk t' hk => ?_
  rw [preSum_eq, List.take_of_length_le (by simp), hn]
  exact ⟨.int ns.sum, H, I.kept (t' := tk) hk, ⟨t', rfl⟩, q⟩
theorem DO {bs : List Bool} {its : List Value} (rv : Vals (bs.map V.bl) its) {i : Nat} {v : Value} (h : its.toArray[i]? = some v) : v = .bool (bs.getD i false) := by
  have hi : i < its.length := by
    have := (Array.getElem?_eq_some_iff.mp h).1
    simpa using this
  have hb : i < bs.length := by have := rv.length; rw [List.length_map] at this; omega
  obtain ⟨u, hu, ru⟩ := rv.get (i := i) (x := .bl bs[i]) (by simp [hb])
  rw [show its.toArray[i]? = its[i]? by simp, hu] at h
  cases h
  cases ru
  simp [List.getD_eq_getElem?_getD, hb]
theorem all_range (bs : List Bool) : (List.range bs.length).all (fun i => bs.getD i false) = bs.all id := by
  induction bs with
  | nil => rfl
  | cons b bs ih =>
    rw [List.length_cons, List.range_succ_eq_map, List.all_cons, List.all_map, List.all_cons]
    simp only [Function.comp_def, List.getD_cons_succ, List.getD_cons_zero, id]
    rw [ih]
theorem any_range (bs : List Bool) : (List.range bs.length).any (fun i => bs.getD i false) = bs.any id := by
  induction bs with
  | nil => rfl
  | cons b bs ih =>
    rw [List.length_cons, List.range_succ_eq_map, List.any_cons, List.any_map, List.any_cons]
    simp only [Function.comp_def, List.getD_cons_succ, List.getD_cons_zero, id]
    rw [ih]
theorem Bz (hc : X.calm = true := by rfl) : g7 X (.builtin "all") (fun xs H Q => ∃ (p : Addr) (bs : List Bool), xs = [.ref p] ∧ SqL X.K H p (bs.map V.bl) ∧ Q (.bl (bs.all id)) H) := by
  intro pins s σ H xs us Q I r h
  obtain ⟨p, bs, rfl, hq, q⟩ := h
  obtain ⟨u, rfl, ru⟩ := vals1 r
  cases ru
  obtain ⟨its, rv, pl, hz⟩ := I.list hq
  have hl := pl.isList
  have lt : p < s.heap.objs.size := by obtain ⟨_, e, _⟩ := hl; exact Heap.lt_size e
  have hlen : its.toArray.size = bs.length := by have := rv.length; rw [List.length_map] at this; simp; omega
  refine call_all_walk (wpAny_pyIter_list hl ?_)
  refine ⟨_, _, _, _, _, _, fun i => bs.getD i false, rfl, Walks.list (A := X.A.in1) (I.ok.hd hc) s.heap.objs.size p (Nat.ne_of_lt lt) its.toArray, ⟨⟨_, Heap.get?_push_size _ rfl, rfl, rfl⟩, hl.push _⟩, fun i v s' Q' E' hP hQ => ?_, fun h' tk hk => ?_⟩
  · rw [DO rv hP]
    exact wpAny_truthy_bool hQ
  · rw [hlen, all_range]
    refine ⟨.bl (bs.all id), H, I.kept (t' := tk) fun b o e => hk b o (fun z => ?_) (Heap.get?_push_of_some _ e), rfl, q⟩
    have hb := Heap.lt_size e
    rw [List.mem_singleton.mp z] at hb
    exact absurd hb (Nat.lt_irrefl _)
theorem uT (hc : X.calm = true := by rfl) : g7 X (.builtin "any") (fun xs H Q => ∃ (p : Addr) (bs : List Bool), xs = [.ref p] ∧ SqL X.K H p (bs.map V.bl) ∧ Q (.bl (bs.any id)) H) := by
  intro pins s σ H xs us Q I r h
  obtain ⟨p, bs, rfl, hq, q⟩ := h
  obtain ⟨u, rfl, ru⟩ := vals1 r
  cases ru
  obtain ⟨its, rv, pl, hz⟩ := I.list hq
  have hl := pl.isList
  have lt : p < s.heap.objs.size := by obtain ⟨_, e, _⟩ := hl; exact Heap.lt_size e
  have hlen : its.toArray.size = bs.length := by have := rv.length; rw [List.length_map] at this; simp; omega
  refine call_any_walk (wpAny_pyIter_list hl ?_)
  refine ⟨_, _, _, _, _, _, fun i => bs.getD i false, rfl, Walks.list (A := X.A.in1) (I.ok.hd hc) s.heap.objs.size p (Nat.ne_of_lt lt) its.toArray, ⟨⟨_, Heap.get?_push_size _ rfl, rfl, rfl⟩, hl.push _⟩, fun i v s' Q' E' hP hQ => ?_, fun h' tk hk => ?_⟩
  · rw [DO rv hP]
    exact wpAny_truthy_bool hQ
  · rw [hlen, any_range]
    refine ⟨.bl (bs.any id), H, I.kept (t' := tk) fun b o e => hk b o (fun z => ?_) (Heap.get?_push_of_some _ e), rfl, q⟩
    have hb := Heap.lt_size e
    rw [List.mem_singleton.mp z] at hb
    exact absurd hb (Nat.lt_irrefl _)
end
end L2
set_option maxRecDepth 100000
set_option maxHeartbeats 4000000
namespace L2
open PySem PySem.Spec PyProof.Rows
section
variable {X : Cx} {e se : Expr} {te : TE} {lo hi : Option Expr} {tl th ts : TO} {pos p2 : Pos}
end
end L2
set_option maxRecDepth 100000
set_option maxHeartbeats 4000000
namespace L2
open PySem PySem.Spec PyProof.Rows
section
variable {X : Cx} {tg : Expr}
end
end L2
set_option maxRecDepth 100000
set_option maxHeartbeats 4000000
namespace L2
open PySem PySem.Spec PyProof.Rows
section
variable {X : Cx}
end
end L2
set_option maxRecDepth 100000
set_option maxHeartbeats 4000000
namespace L2
open PySem PySem.Spec PyProof.Rows
section
variable {X : Cx}
end
end L2
set_option maxRecDepth 100000
set_option maxHeartbeats 4000000
namespace L2
open PySem PySem.Spec PyProof.Rows
section
variable {X : Cx}
end
end L2
set_option maxRecDepth 100000
set_option maxHeartbeats 4000000
namespace L2
open PySem PySem.Spec PyProof.Rows
section
variable {X : Cx}
def isT (y : Str) : Value → Bool
  | .str a _ => a == y
  | _ => false
end
end L2
set_option maxRecDepth 100000
set_option maxHeartbeats 4000000
namespace L2
open PySem PySem.Spec PyProof.Rows
section
variable {prog : Program} {w : World} {A : Around} {R : Result → Shared → Prop} {I : Addr} {fp wr : List Addr} {G : Array GenState → Array GenState → Prop} {n : Nat} {P : Nat → Value → Prop} {St : Nat → Shared → Prop}
end
section
variable {prog : Program} {w : World} {A : Around} {E : Value → Shared → Prop} {s : Shared}
end
section
variable {X : Cx} {e : Expr} {te : TE} {x y : Str} {p1 p2 q1 q2 : Pos}
end
end L2
set_option maxRecDepth 100000
set_option maxHeartbeats 1000000
namespace L2
open PySem PySem.Spec PyProof.Rows PySem.W
def ik {α : Type} (lt : Nat → Nat → Bool) : KasT α → α
  | .ret a => a
  | .ask i j k => ik lt (k (lt i j))
theorem jH {α β : Type} (lt : Nat → Nat → Bool) (f : α → KasT β) : ∀ t : KasT α, ik lt (t.bind f) = ik lt (f (ik lt t))
  | .ret _ => rfl
  | .ask i j k => jH lt f (k (lt i j))
section
variable {O : KeyOrd} (key : Nat → O.α)
def kAt (p : Array Nat) (i : Nat) : O.α := key (p.getD i 0)
abbrev ltK : Nat → Nat → Bool := fun i j => O.blt (key i) (key j)
def dF (p : Array Nat) (m : Nat) : Prop := ∀ i j, i ≤ j → j < m → O.kle (kAt key p i) (kAt key p j)
def jk (p : Array Nat) (m : Nat) : Prop := ∀ i j, i ≤ j → j < m → O.kle (kAt key p j) (kAt key p i)
def tM (p : Array Nat) (n q : Nat) : Prop := ∀ i, n ≤ i + (q + 1) → i < n → kAt key p i = kAt key p (n - 1)
variable {key}
theorem pG {p p' : Array Nat} {i j : Nat} (h : p'[i]? = p[j]?) : kAt key p' i = kAt key p j := by
  unfold kAt
  rw [Array.getD_eq_getD_getElem?, Array.getD_eq_getD_getElem?, h]
theorem qu {p : Array Nat} {i j : Nat} (hj : j ≤ p.size) (k : Nat) : kAt key (kas_rev p i j) k = if i ≤ k ∧ k < j then kAt key p (i + j - 1 - k) else kAt key p k := by
  have h := getElem?_mirror_all (xs := p) (i := i) hj k
  split at h
  · rename_i c
    rw [if_pos c]; exact pG h
  · rename_i c
    rw [if_neg c]; exact pG h
theorem nW (p : Array Nat) (i j : Nat) : (kas_rev p i j).Perm p := mirror_perm _ _ _ _
theorem fH (p : Array Nat) (i j : Nat) : (kas_rev p i j).size = p.size := mirror_size _ _ _ _
theorem xT {p : Array Nat} {n q : Nat} (hn : n ≤ p.size) (hq : q + 1 ≤ n) (h : tM key p n q) (k : Nat) : kAt key (kas_rev p (n - (q + 1)) n) k = kAt key p k := by
  rw [qu hn]
  split
  · rename_i c
    rw [h _ (by omega) (by omega), h k (by omega) (by omega)]
  · rfl
theorem dF.more {p : Array Nat} {n : Nat} (h1 : 1 ≤ n) (h : dF key p n) (hn : O.kle (kAt key p (n - 1)) (kAt key p n)) : dF key p (n + 1) := by
  intro i j hij hj
  by_cases hjn : j = n
  · subst hjn
    by_cases hi : i = j
    · subst hi; exact KeyOrd.kle_refl _
    · exact KeyOrd.kle_trans (h i (j - 1) (by omega) (by omega)) hn
  · exact h i j hij (by omega)
theorem jk.more {p : Array Nat} {n : Nat} (h1 : 1 ≤ n) (h : jk key p n) (hn : O.kle (kAt key p n) (kAt key p (n - 1))) : jk key p (n + 1) := by
  intro i j hij hj
  by_cases hjn : j = n
  · subst hjn
    by_cases hi : i = j
    · subst hi; exact KeyOrd.kle_refl _
    · exact KeyOrd.kle_trans hn (h i (j - 1) (by omega) (by omega))
  · exact h i j hij (by omega)
theorem tP {p : Array Nat} : ∀ (f n : Nat), 1 ≤ n → dF key p n → ∃ m, ik (ltK key) (kas_asc p f n) = m ∧ n ≤ m ∧ m ≤ n + f ∧ dF key p m ∧ (m < n + f → O.blt (kAt key p m) (kAt key p (m - 1)) = true)
  | 0, n, _, h => ⟨n, rfl, Nat.le_refl _, Nat.le_refl _, h, fun z => absurd z (Nat.lt_irrefl _)⟩
  | f + 1, n, h1, h => by
    show ∃ m, ik (ltK key) (if O.blt (kAt key p n) (kAt key p (n - 1)) = true then KasT.ret n else kas_asc p f (n + 1)) = m ∧ _
    cases hc : O.blt (kAt key p n) (kAt key p (n - 1)) with
    | true => exact ⟨n, rfl, Nat.le_refl _, by omega, h, fun _ => hc⟩
    | false =>
      obtain ⟨m, e, a1, a2, a3, a4⟩ := tP f (n + 1) (by omega) (h.more h1 hc)
      exact ⟨m, e, by omega, by omega, a3, fun z => a4 (by omega)⟩
theorem oB : ∀ (f : Nat) (p : Array Nat) (n q : Nat), 1 ≤ n → n + f ≤ p.size → q + 1 ≤ n → jk key p n → tM key p n q →
    ∃ p' n' q', ik (ltK key) (kas_desc f p n q) = (p', n', q') ∧ p'.Perm p ∧ p'.size = p.size ∧ n ≤ n' ∧ n' ≤ n + f ∧ q' + 1 ≤ n' ∧ jk key p' n' ∧ tM key p' n' q'
  | 0, p, n, q, _, _, hq, h, he => ⟨p, n, q, rfl, .refl _, rfl, Nat.le_refl _, Nat.le_refl _, hq, h, he⟩
  | f + 1, p, n, q, h1, hs, hq, h, he => by
    have even0 : ∀ p : Array Nat, tM key p (n + 1) 0 := fun p i a b => by rw [show i = n by omega]; rfl
    show ∃ p' n' q', ik (ltK key) (if O.blt (kAt key p n) (kAt key p (n - 1)) = true then (if q > 0 then kas_desc f (kas_rev p (n - (q + 1)) n) (n + 1) 0 else kas_desc f p (n + 1) 0)
      else .ask (p.getD (n - 1) 0) (p.getD n 0) fun d => if d = true then .ret (p, n, q) else kas_desc f p (n + 1) (q + 1)) = (p', n', q') ∧ _
    cases hc : O.blt (kAt key p n) (kAt key p (n - 1)) with
    | true =>
      rw [if_pos rfl]
      have hle : O.kle (kAt key p n) (kAt key p (n - 1)) := KeyOrd.kle_of_klt hc
      have hf := h.more h1 hle
      by_cases hq0 : q > 0
      · rw [if_pos hq0]
        have keep := xT (key := key) (p := p) (n := n) (q := q) (by omega) hq he
        have hf' : jk key (kas_rev p (n - (q + 1)) n) (n + 1) := fun i j a b => by rw [keep, keep]; exact hf i j a b
        obtain ⟨p', n', q', e, b1, b2, b3, b4, b5, b6, b7⟩ := oB f (kas_rev p (n - (q + 1)) n) (n + 1) 0 (by omega) (by rw [fH]; omega) (by omega) hf' (even0 _)
        exact ⟨p', n', q', e, b1.trans (nW _ _ _), b2.trans (fH _ _ _), by omega, by omega, b5, b6, b7⟩
      · rw [if_neg hq0]
        obtain ⟨p', n', q', e, b1, b2, b3, b4, b5, b6, b7⟩ := oB f p (n + 1) 0 (by omega) (by omega) (by omega) hf (even0 _)
        exact ⟨p', n', q', e, b1, b2, by omega, by omega, b5, b6, b7⟩
    | false =>
      rw [if_neg (by simp)]
      show ∃ p' n' q', ik (ltK key) (if O.blt (kAt key p (n - 1)) (kAt key p n) = true then KasT.ret (p, n, q) else kas_desc f p (n + 1) (q + 1)) = (p', n', q') ∧ _
      cases hd : O.blt (kAt key p (n - 1)) (kAt key p n) with
      | true => exact ⟨p, n, q, rfl, .refl _, rfl, Nat.le_refl _, by omega, hq, h, he⟩
      | false =>
        rw [if_neg (by simp)]
        have eq : kAt key p n = kAt key p (n - 1) := O.total _ _ hc hd
        have he' : tM key p (n + 1) (q + 1) := fun i a b => by
          show kAt key p i = kAt key p n
          by_cases hi : i = n
          · rw [hi]
          · rw [eq]; exact he i (by omega) (by omega)
        obtain ⟨p', n', q', e, b1, b2, b3, b4, b5, b6, b7⟩ := oB f p (n + 1) (q + 1) (by omega) (by omega) (by omega) (h.more h1 (by rw [eq]; exact KeyOrd.kle_refl _)) he'
        exact ⟨p', n', q', e, b1, b2, by omega, by omega, b5, b6, b7⟩
theorem wF {p : Array Nat} {n nrem : Nat} (h1 : 1 ≤ n) (hn : n ≤ nrem) (hs : nrem ≤ p.size) (h : jk key p n) :
    ∃ m p', ik (ltK key) (kas_tail3 n nrem p) = (m, p') ∧ p'.Perm p ∧ p'.size = p.size ∧ 1 ≤ m ∧ m ≤ nrem ∧ dF key p' m := by
  have so : dF key (kas_rev p 0 n) n := fun i j a b => by
    rw [qu (by omega), qu (by omega), if_pos ⟨Nat.zero_le _, by omega⟩, if_pos ⟨Nat.zero_le _, b⟩]
    exact h _ _ (by omega) (by omega)
  obtain ⟨m, e, a1, a2, a3, _⟩ := tP (nrem - n) n h1 so
  refine ⟨m, kas_rev p 0 n, ?_, nW _ _ _, fH _ _ _, by omega, by omega, a3⟩
  unfold kas_tail3
  rw [jH, e]
  rfl
theorem uz {p : Array Nat} {n nrem : Nat} (h1 : 1 ≤ n) (hn : n + 1 ≤ nrem) (hs : nrem ≤ p.size) (h : jk key p (n + 1)) :
    ∃ m p', ik (ltK key) (kas_descPart n nrem p) = (m, p') ∧ p'.Perm p ∧ p'.size = p.size ∧ 1 ≤ m ∧ m ≤ nrem ∧ dF key p' m := by
  obtain ⟨p1, n1, q1, e, b1, b2, b3, b4, b5, b6, b7⟩ := oB (key := key) (nrem - (n + 1)) p (n + 1) 0 (by omega) (by omega) (by omega) h (fun i a b => by rw [show i = n by omega]; rfl)
  unfold kas_descPart
  rw [jH, e]
  dsimp only
  by_cases hq : q1 > 0
  · rw [if_pos hq]
    have keep := xT (key := key) (p := p1) (n := n1) (q := q1) (by omega) b5 b7
    obtain ⟨m, p', e2, c1, c2, c3, c4, c5⟩ := wF (key := key) (p := kas_rev p1 (n1 - (q1 + 1)) n1) (n := n1) (nrem := nrem) (by omega) (by omega) (by rw [fH]; omega) (fun i j a b => by rw [keep, keep]; exact b6 i j a b)
    exact ⟨m, p', e2, c1.trans ((nW _ _ _).trans b1), c2.trans ((fH _ _ _).trans b2), c3, c4, c5⟩
  · rw [if_neg hq]
    obtain ⟨m, p', e2, c1, c2, c3, c4, c5⟩ := wF (key := key) (p := p1) (n := n1) (nrem := nrem) (by omega) (by omega) (by omega) b6
    exact ⟨m, p', e2, c1.trans b1, c2.trans b2, c3, c4, c5⟩
theorem B2 {p : Array Nat} {nrem : Nat} (h1 : 1 ≤ nrem) (hs : nrem ≤ p.size) :
    ∃ m p', ik (ltK key) (kas_count nrem p) = (m, p') ∧ p'.Perm p ∧ p'.size = p.size ∧ 1 ≤ m ∧ m ≤ nrem ∧ dF key p' m := by
  have s1 : dF key p 1 := fun i j a b => by rw [show i = j by omega]; exact KeyOrd.kle_refl _
  obtain ⟨n, e, a1, a2, a3, a4⟩ := tP (key := key) (p := p) (nrem - 1) 1 (Nat.le_refl _) s1
  unfold kas_count
  rw [jH, e]
  by_cases hn : n = nrem
  · rw [if_pos (by simpa using hn)]
    exact ⟨n, p, rfl, .refl _, rfl, a1, by omega, a3⟩
  · rw [if_neg (by simpa using hn)]
    have down := a4 (by omega)
    by_cases h2 : n > 1
    · rw [if_pos h2]
      show ∃ m p', ik (ltK key) (if O.blt (kAt key p 0) (kAt key p (n - 1)) = true then KasT.ret (n, p) else kas_descPart n nrem (kas_rev p 0 n)) = (m, p') ∧ _
      cases hc : O.blt (kAt key p 0) (kAt key p (n - 1)) with
      | true => exact ⟨n, p, rfl, .refl _, rfl, a1, by omega, a3⟩
      | false =>
        rw [if_neg (by simp)]
        have same : ∀ i, i < n → kAt key p i = kAt key p (n - 1) := fun i hi => by
          refine KeyOrd.kle_antisymm (a3 i (n - 1) (by omega) (by omega)) ?_
          exact KeyOrd.kle_trans (show O.kle (kAt key p (n - 1)) (kAt key p 0) from hc) (a3 0 i (Nat.zero_le _) hi)
        have keys : ∀ i, i ≤ n → kAt key (kas_rev p 0 n) i = kAt key p i := fun i hi => by
          rw [qu (by omega)]
          split
          · rename_i c
            rw [same _ (by omega), same i (by omega)]
          · rfl
        have fall : jk key (kas_rev p 0 n) (n + 1) := by
          refine jk.more (by omega) (fun i j a b => ?_) ?_
          · rw [keys i (by omega), keys j (by omega), same i (by omega), same j (by omega)]; exact KeyOrd.kle_refl _
          · rw [keys n (Nat.le_refl _), keys (n - 1) (by omega)]; exact KeyOrd.kle_of_klt down
        obtain ⟨m, p', e2, c1, c2, c3, c4, c5⟩ := uz (key := key) (p := kas_rev p 0 n) (n := n) (nrem := nrem) (by omega) (by omega) (by rw [fH]; omega) fall
        exact ⟨m, p', e2, c1.trans (nW _ _ _), c2.trans (fH _ _ _), c3, c4, c5⟩
    · rw [if_neg h2]
      obtain rfl : n = 1 := by omega
      have fall : jk key p (1 + 1) := jk.more (Nat.le_refl _) (fun i j a b => by rw [show i = j by omega]; exact KeyOrd.kle_refl _) (KeyOrd.kle_of_klt down)
      exact uz (by omega) (by omega) hs fall
theorem oS {p : Array Nat} {k : Nat} (hs : dF key p k) : ∀ (f l r : Nat), l ≤ r → r ≤ k → r - l ≤ f → (∀ i, i < l → O.kle (kAt key p i) (kAt key p k)) → (∀ i, r ≤ i → i < k → O.kle (kAt key p k) (kAt key p i)) →
    ∃ m, ik (ltK key) (kas_place p k f l r) = m ∧ m ≤ k ∧ (∀ i, i < m → O.kle (kAt key p i) (kAt key p k)) ∧ (∀ i, m ≤ i → i < k → O.kle (kAt key p k) (kAt key p i))
  | 0, l, r, a, b, c, h1, h2 => ⟨l, rfl, by omega, h1, fun i hi hk => h2 i (by omega) hk⟩
  | f + 1, l, r, a, b, c, h1, h2 => by
    unfold kas_place
    by_cases hl : l ≥ r
    · rw [if_pos hl]
      exact ⟨l, rfl, by omega, h1, fun i hi hk => h2 i (by omega) hk⟩
    · rw [if_neg hl]
      show ∃ m, ik (ltK key) (if O.blt (kAt key p k) (kAt key p ((l + r) / 2)) = true then kas_place p k f l ((l + r) / 2) else kas_place p k f ((l + r) / 2 + 1) r) = m ∧ _
      cases hc : O.blt (kAt key p k) (kAt key p ((l + r) / 2)) with
      | true =>
        rw [if_pos rfl]
        exact oS hs f l ((l + r) / 2) (by omega) (by omega) (by omega) h1 fun i hi hk => KeyOrd.kle_trans (KeyOrd.kle_of_klt hc) (hs _ _ hi hk)
      | false =>
        rw [if_neg (by simp)]
        exact oS hs f ((l + r) / 2 + 1) r (by omega) b (by omega) (fun i hi => KeyOrd.kle_trans (hs i ((l + r) / 2) (by omega) (by omega)) hc) h2
theorem zz : ∀ (f : Nat) (p : Array Nat) (k : Nat), k + f ≤ p.size → dF key p k → ∃ p', ik (ltK key) (kas_bin f p k) = p' ∧ p'.Perm p ∧ p'.size = p.size ∧ dF key p' (k + f)
  | 0, p, k, _, h => ⟨p, rfl, .refl _, rfl, h⟩
  | f + 1, p, k, hk, h => by
    obtain ⟨m, e, m1, m2, m3⟩ := oS h k 0 k (Nat.zero_le _) (Nat.le_refl _) (by omega) (fun i hi => absurd hi (by omega)) (fun i a b => absurd b (by omega))
    have at_ : ∀ i, kAt key (bubble p k (k - m)) i = if i = m then kAt key p k else if m < i ∧ i ≤ k then kAt key p (i - 1) else kAt key p i := fun i => by
      have g := getElem?_bubble (xs := p) (src := k) (by omega) (k - m) (by omega) i
      rw [show k - (k - m) = m by omega] at g
      split at g
      · rename_i c; rw [if_pos c]; exact pG g
      · rename_i c
        rw [if_neg c]
        split at g
        · rename_i d; rw [if_pos d]; exact pG g
        · rename_i d; rw [if_neg d]; exact pG g
    have so : dF key (bubble p k (k - m)) (k + 1) := fun i j a b => by
      rw [at_, at_]
      by_cases hi : i = m
      · rw [if_pos hi]
        by_cases hj : j = m
        · rw [if_pos hj]; exact KeyOrd.kle_refl _
        · rw [if_neg hj, if_pos (by omega)]; exact m3 _ (by omega) (by omega)
      · rw [if_neg hi]
        by_cases hi2 : m < i ∧ i ≤ k
        · rw [if_pos hi2, if_neg (by omega), if_pos (by omega)]
          exact h _ _ (by omega) (by omega)
        · rw [if_neg hi2]
          by_cases hj : j = m
          · rw [if_pos hj]; exact m2 i (by omega)
          · rw [if_neg hj]
            by_cases hj2 : m < j ∧ j ≤ k
            · rw [if_pos hj2]; exact h _ _ (by omega) (by omega)
            · rw [if_neg hj2]; exact h _ _ a (by omega)
    obtain ⟨p', e2, c1, c2, c3⟩ := zz f (bubble p k (k - m)) (k + 1) (by rw [bubble_size]; omega) so
    refine ⟨p', ?_, c1.trans (bubble_perm _ _ _), c2.trans (bubble_size _ _ _), ?_⟩
    · unfold kas_bin
      rw [jH, e]
      exact e2
    · rw [show k + (f + 1) = k + 1 + f by omega]; exact c3
theorem sk {n : Nat} (h1 : 1 ≤ n) : ∃ p, ik (ltK key) (kas_sort n) = p ∧ p.Perm (List.toArray (List.range n)) ∧ p.size = n ∧ dF key p n := by
  have sz : (List.toArray (List.range n)).size = n := by simp
  obtain ⟨m, p1, e, a1, a2, a3, a4, a5⟩ := B2 (key := key) (p := List.toArray (List.range n)) (nrem := n) h1 (by omega)
  unfold kas_sort
  rw [jH, e]
  dsimp only
  by_cases hm : m < n
  · rw [if_pos hm, Nat.max_eq_left a3]
    obtain ⟨p2, e2, b1, b2, b3⟩ := zz (key := key) (n - m) p1 m (by omega) a5
    exact ⟨p2, e2, b1.trans a1, by omega, by rw [show m + (n - m) = n by omega] at b3; exact b3⟩
  · rw [if_neg hm]
    obtain rfl : m = n := by omega
    exact ⟨p1, rfl, a1, by omega, a5⟩
end
end L2
set_option maxRecDepth 100000
set_option maxHeartbeats 1000000
namespace L2
open PySem PySem.Spec PyProof.Rows PySem.W
theorem lex_irrefl : ∀ a : List Int, HT.lexLt a a = false
  | [] => rfl
  | x :: a => by rw [HT.kU, if_pos rfl]; exact lex_irrefl a
theorem lex_trans : ∀ a b c : List Int, HT.lexLt a b = true → HT.lexLt b c = true → HT.lexLt a c = true
  | [], [], _, h, _ => by cases h
  | [], _ :: _, [], _, h => by cases h
  | [], _ :: _, _ :: _, _, _ => rfl
  | _ :: _, [], _, h, _ => by cases h
  | _ :: _, _ :: _, [], _, h => by cases h
  | x :: a, y :: b, z :: c, h1, h2 => by
    rw [HT.kU] at h1 h2 ⊢
    by_cases e1 : x = y
    · by_cases e2 : y = z
      · rw [if_pos e1] at h1
        rw [if_pos e2] at h2
        rw [if_pos (e1.trans e2)]
        exact lex_trans a b c h1 h2
      · rw [if_neg e2] at h2
        rw [e1, if_neg e2]; exact h2
    · rw [if_neg e1] at h1
      have l1 := of_decide_eq_true h1
      by_cases e2 : y = z
      · rw [← e2, if_neg e1]; exact h1
      · rw [if_neg e2] at h2
        have l2 := of_decide_eq_true h2
        rw [if_neg (by omega)]; exact decide_eq_true (by omega)
theorem mJ : ∀ a b : List Int, HT.lexLt a b = false → HT.lexLt b a = false → a = b
  | [], [], _, _ => rfl
  | [], _ :: _, h, _ => by cases h
  | _ :: _, [], _, h => by cases h
  | x :: a, y :: b, h1, h2 => by
    rw [HT.kU] at h1 h2
    by_cases e : x = y
    · rw [if_pos e] at h1
      rw [if_pos e.symm] at h2
      rw [e, mJ a b h1 h2]
    · rw [if_neg e] at h1
      rw [if_neg (Ne.symm e)] at h2
      have l1 := of_decide_eq_false h1
      have l2 := of_decide_eq_false h2
      omega
def Gq : KeyOrd where
  α := List Int
  blt := HT.lexLt
  irrefl := lex_irrefl
  trans := lex_trans
  negTrans := fun a b c h => by
    cases h1 : HT.lexLt a b with
    | true => exact .inl rfl
    | false =>
      right
      cases h2 : HT.lexLt b c with
      | true => rfl
      | false =>
        cases h3 : HT.lexLt b a with
        | true =>
          have := lex_trans b a c h3 h
          rw [h2] at this; cases this
        | false =>
          have := mJ a b h1 h3
          subst this
          rw [h] at h2; cases h2
  total := mJ
def Lv {α : Type} (N : Nat) (P : α → Prop) : KasT α → Prop
  | .ret a => P a
  | .ask i j k => i < N ∧ j < N ∧ ∀ b, Lv N P (k b)
theorem Lv.bind {α β : Type} {N : Nat} {P : α → Prop} {P' : β → Prop} {f : α → KasT β} (hf : ∀ a, P a → Lv N P' (f a)) : ∀ {t : KasT α}, Lv N P t → Lv N P' (t.bind f)
  | .ret a, h => hf a h
  | .ask i j k, h => ⟨h.1, h.2.1, fun b => Lv.bind hf (h.2.2 b)⟩
def Und (N : Nat) (p : Array Nat) : Prop := ∀ i, p.getD i 0 < N
theorem Und.of {N : Nat} {p p' : Array Nat} (h : Und N p) (hp : ∀ i : Nat, ∃ j : Nat, p'[i]? = p[j]?) : Und N p' := fun i => by
  obtain ⟨j, e⟩ := hp i
  have := h j
  rw [Array.getD_eq_getD_getElem?] at this ⊢
  rw [e]; exact this
theorem Und.rev {N : Nat} {p : Array Nat} (h : Und N p) {i j : Nat} (hj : j ≤ p.size) : Und N (kas_rev p i j) := h.of fun k => by
  have g := getElem?_mirror_all (xs := p) (i := i) hj k
  split at g
  · exact ⟨_, g⟩
  · exact ⟨_, g⟩
theorem Und.bub {N : Nat} {p : Array Nat} (h : Und N p) {k d : Nat} (hk : k < p.size) (hd : d ≤ k) : Und N (bubble p k d) := h.of fun i => by
  have g := getElem?_bubble (xs := p) hk d hd i
  split at g
  · exact ⟨_, g⟩
  · split at g
    · exact ⟨_, g⟩
    · exact ⟨_, g⟩
theorem xq {N : Nat} {p : Array Nat} (h : Und N p) : ∀ (f n : Nat), Lv N (fun m => n ≤ m ∧ m ≤ n + f) (kas_asc p f n)
  | 0, n => ⟨Nat.le_refl _, Nat.le_refl _⟩
  | f + 1, n => ⟨h _, h _, fun b => by
    cases b with
    | true => exact ⟨Nat.le_refl _, by omega⟩
    | false =>
      have := Lv.bind (f := KasT.ret) (P' := fun m => n ≤ m ∧ m ≤ n + (f + 1)) (fun a ha => (⟨by omega, by omega⟩ : n ≤ a ∧ a ≤ n + (f + 1))) (xq h f (n + 1))
      rw [show (kas_asc p f (n + 1)).bind KasT.ret = kas_asc p f (n + 1) from bind_ret _] at this
      exact this⟩
where bind_ret {α : Type} : ∀ t : KasT α, t.bind KasT.ret = t
  | .ret _ => rfl
  | .ask i j k => congrArg (KasT.ask i j) (funext fun b => bind_ret (k b))
theorem Lv.mono {α : Type} {N : Nat} {P P' : α → Prop} (h : ∀ a, P a → P' a) : ∀ {t : KasT α}, Lv N P t → Lv N P' t
  | .ret a, x => h a x
  | .ask i j k, x => ⟨x.1, x.2.1, fun b => Lv.mono h (x.2.2 b)⟩
theorem qC {N S : Nat} : ∀ (f : Nat) (p : Array Nat) (n q : Nat), p.size = S → n + f ≤ S → Und N p → Lv N (fun r : Array Nat × Nat × Nat => r.1.size = S ∧ Und N r.1 ∧ n ≤ r.2.1 ∧ r.2.1 ≤ n + f) (kas_desc f p n q)
  | 0, p, n, q, hz, _, h => ⟨hz, h, Nat.le_refl _, Nat.le_refl _⟩
  | f + 1, p, n, q, hz, hs, h => ⟨h _, h _, fun c => by
    have up : ∀ {t : KasT (Array Nat × Nat × Nat)}, Lv N (fun r : Array Nat × Nat × Nat => r.1.size = S ∧ Und N r.1 ∧ n + 1 ≤ r.2.1 ∧ r.2.1 ≤ n + 1 + f) t → Lv N (fun r : Array Nat × Nat × Nat => r.1.size = S ∧ Und N r.1 ∧ n ≤ r.2.1 ∧ r.2.1 ≤ n + (f + 1)) t :=
      Lv.mono fun r ⟨a, b, c, d⟩ => ⟨a, b, by omega, by omega⟩
    cases c with
    | true =>
      show Lv N _ (if q > 0 then kas_desc f (kas_rev p (n - (q + 1)) n) (n + 1) 0 else kas_desc f p (n + 1) 0)
      split
      · exact up (qC f _ (n + 1) 0 (by rw [fH]; exact hz) (by omega) (h.rev (by omega)))
      · exact up (qC f p (n + 1) 0 hz (by omega) h)
    | false =>
      refine ⟨h _, h _, fun d => ?_⟩
      cases d with
      | true => exact ⟨hz, h, Nat.le_refl _, Nat.le_add_right _ _⟩
      | false => exact up (qC f p (n + 1) (q + 1) hz (by omega) h)⟩
theorem yE {N S n nrem : Nat} {p : Array Nat} (hz : p.size = S) (hn : n ≤ nrem) (hs : nrem ≤ S) (h : Und N p) : Lv N (fun r : Nat × Array Nat => r.2.size = S ∧ Und N r.2 ∧ r.1 ≤ nrem) (kas_tail3 n nrem p) := by
  have h' : Und N (kas_rev p 0 n) := h.rev (by omega)
  exact Lv.bind (f := fun m => KasT.ret (m, kas_rev p 0 n)) (P' := fun r : Nat × Array Nat => r.2.size = S ∧ Und N r.2 ∧ r.1 ≤ nrem) (fun m hm => (⟨by rw [fH]; exact hz, h', by have := hm.2; show m ≤ nrem; omega⟩ : (kas_rev p 0 n).size = S ∧ Und N (kas_rev p 0 n) ∧ m ≤ nrem)) (xq h' (nrem - n) n)
theorem wN {N S n nrem : Nat} {p : Array Nat} (hz : p.size = S) (hn : n + 1 ≤ nrem) (hs : nrem ≤ S) (h : Und N p) : Lv N (fun r : Nat × Array Nat => r.2.size = S ∧ Und N r.2 ∧ r.1 ≤ nrem) (kas_descPart n nrem p) := by
  refine Lv.bind (fun r hr => ?_) (qC (nrem - (n + 1)) p (n + 1) 0 hz (by omega) h)
  obtain ⟨a, b, c, d⟩ := hr
  split
  · exact yE (by rw [fH]; exact a) (by omega) hs (b.rev (by omega))
  · exact yE a (by omega) hs b
theorem Co {N S nrem : Nat} {p : Array Nat} (hz : p.size = S) (h1 : 1 ≤ nrem) (hs : nrem ≤ S) (h : Und N p) : Lv N (fun r : Nat × Array Nat => r.2.size = S ∧ Und N r.2 ∧ r.1 ≤ nrem) (kas_count nrem p) := by
  refine Lv.bind (fun n hn => ?_) (xq h (nrem - 1) 1)
  split
  · exact ⟨hz, h, by omega⟩
  · rename_i hne
    have hne : ¬ n = nrem := by simpa using hne
    split
    · refine ⟨h _, h _, fun c => ?_⟩
      cases c with
      | true => exact ⟨hz, h, by omega⟩
      | false => exact wN (by rw [fH]; exact hz) (by omega) hs (h.rev (by omega))
    · exact wN hz (by omega) hs h
theorem rV {N : Nat} {p : Array Nat} {k : Nat} (h : Und N p) : ∀ (f l r : Nat), l ≤ k → r ≤ k → Lv N (fun m => m ≤ k) (kas_place p k f l r)
  | 0, l, r, a, b => a
  | f + 1, l, r, a, b => by
    unfold kas_place
    split
    · exact a
    · refine ⟨h _, h _, fun c => ?_⟩
      cases c with
      | true => exact rV h f l ((l + r) / 2) a (by omega)
      | false => exact rV h f ((l + r) / 2 + 1) r (by omega) b
theorem BM {N S : Nat} : ∀ (f : Nat) (p : Array Nat) (k : Nat), p.size = S → k + f ≤ S → Und N p → Lv N (fun p' : Array Nat => p'.size = S) (kas_bin f p k)
  | 0, p, k, hz, _, _ => hz
  | f + 1, p, k, hz, hk, h => Lv.bind (fun m hm => BM f _ (k + 1) (by rw [bubble_size]; exact hz) (by omega) (h.bub (by omega) (by omega))) (rV h k 0 k (Nat.zero_le _) (Nat.le_refl _))
theorem Ex {n : Nat} (h1 : 1 ≤ n) : Lv n (fun p : Array Nat => p.size = n) (kas_sort n) := by
  have sz : (List.toArray (List.range n)).size = n := by simp
  have und : Und n (List.toArray (List.range n)) := fun i => by
    rw [Array.getD_eq_getD_getElem?, List.getElem?_toArray]
    by_cases hi : i < n
    · simp [hi]
    · rw [List.getElem?_eq_none (by simpa using hi)]; exact h1
  refine Lv.bind (fun r hr => ?_) (Co sz h1 (Nat.le_refl _) und)
  obtain ⟨a, b, c⟩ := hr
  split
  · exact BM _ _ _ a (by omega) b
  · exact a
theorem xa {α : Type} {N : Nat} {P : α → Prop} {lt : Nat → Nat → Bool} {cmp : Nat → Nat → (Bool → Shared → Prop) → Shared → Prop} {Q : α → Shared → Prop} {s : Shared} (hc : ∀ i j C, i < N → j < N → C (lt i j) s → cmp i j C s) :
    ∀ (t : KasT α), Lv N P t → Q (ik lt t) s → t.kasWp cmp Q s
  | .ret a, _, h => h
  | .ask i j k, l, h => hc i j _ l.1 l.2.1 (xa hc (k (lt i j)) (l.2.2 _) h)
section
open PySem.SeqAt
open PySem.AutoSeq1 (wpAny_loadPart')
open PySem.MeetsSeq PySem.MeetsSeq2 PySem.MeetsSeq3
theorem ints_get {vs : List Value} {ns : List Int} (h : IntsAre vs ns) {i : Nat} (hi : i < ns.length) : ∃ t, vs[i]? = some (.int ns[i] t) := by
  have hl := h.length
  have e : vs[i]? = some vs[i] := List.getElem?_eq_getElem (by omega)
  obtain ⟨t, q⟩ := h.int_at i _ e
  refine ⟨t, ?_⟩
  rw [e, q]
  simp [List.getD_eq_getElem?_getD, hi]
theorem CJ (l b : Addr) (items items2 : Array Value) (n n2 : Nat) (dd dd2 : Option Addr) (sl sl2 : Array (Option Value)) (ns ms : List Int) (hi : IntsAre items.toList ns) (hj : IntsAre items2.toList ms) (k : Nat) :
    ∀ i : Nat, ns.length - i = k → i ≤ ns.length → i ≤ ms.length → Meets (Builtin.«list.__eq__.loop» ⟨[.ref l, .ref b, rawInt i, rawInt 0], []⟩)
      (fun _ R s => s.heap.get? l = some { cls := .type "list", dict := dd, data := .seq items n, slots := sl } ∧ s.heap.get? b = some { cls := .type "list", dict := dd2, data := .seq items2 n2, slots := sl2 } ∧
        R (.ok (.ret (.bool (HT.lexLt (ns.drop i) (ms.drop i))))) s) := by
  have z1 : items.size = ns.length := by rw [← hi.length]; simp
  have z2 : items2.size = ms.length := by rw [← hj.length]; simp
  have stop : ∀ i : Nat, i ≤ ns.length → i ≤ ms.length → (i = ns.length ∨ i = ms.length) → HT.lexLt (ns.drop i) (ms.drop i) = decide (items.size < items2.size) := by
    intro i h1 h2 h3
    by_cases e1 : i = ns.length
    · rw [e1, List.drop_length]
      by_cases e2 : ns.length = ms.length
      · rw [e2, List.drop_length]; exact (decide_eq_false (by omega)).symm
      · rw [List.drop_eq_getElem_cons (by omega)]; exact (decide_eq_true (by omega)).symm
    · have e2 : i = ms.length := by omega
      rw [e2, List.drop_length, List.drop_eq_getElem_cons (by omega)]; exact (decide_eq_false (by omega)).symm
  induction k with
  | zero =>
    intro i hk h1 h2 prog w A R s h
    obtain ⟨hp, g, d, tk, os⟩ := s; obtain ⟨hl, hb, h⟩ := h
    have hin : i = ns.length := by omega
    wp_walk using wpAny_loadPart' hl, wpAny_loadPart' hb
    have hi1 : items[((i : Nat) : Int).toNat]? = none := by simp; omega
    rw [hi1]
    rw [stop i h1 h2 (.inl hin)] at h
    wp_walk using wpAny_loadPart' hl, wpAny_loadPart' hb
    exact h
  | succ k ih =>
    intro i hk h1 h2 prog w A R s h
    obtain ⟨hp, g, d, tk, os⟩ := s; obtain ⟨hl, hb, h⟩ := h
    have lt1 : i < ns.length := by omega
    obtain ⟨t, et⟩ := ints_get hi lt1
    have hi1 : items[((i : Nat) : Int).toNat]? = some (.int ns[i] t) := by rw [Array.getElem?_toList] at et; simpa using et
    by_cases lt2 : i < ms.length
    · obtain ⟨u, eu⟩ := ints_get hj lt2
      have hi2 : items2[((i : Nat) : Int).toNat]? = some (.int ms[i] u) := by rw [Array.getElem?_toList] at eu; simpa using eu
      wp_walk using wpAny_loadPart' hl, wpAny_loadPart' hb
      rw [hi1, hi2]
      rw [List.drop_eq_getElem_cons lt1, List.drop_eq_getElem_cons lt2, HT.kU] at h
      have hc : ((i : Int) + 1) = ((i + 1 : Nat) : Int) := by push_cast; rfl
      obtain ⟨e, he, hiff⟩ := HT.CI A.in1 ⟨hp, g, d, tk, os⟩ ns[i] t ms[i] u
      refine wpAny_bind (he prog w _ _ ?_)
      cases e with
      | true =>
        rw [if_pos (hiff.mp rfl)] at h
        wp_walk
        rw [hc]
        exact ⟨plainId_quiet plain_eq_loop _, codeAny_builtin entry_eq_loop (by
          rw [Around.under_plainId plain_eq_loop _]
          exact ih (i + 1) (by omega) (by omega) (by omega) prog w A R _ ⟨hl, hb, h⟩)⟩
      | false =>
        rw [if_neg (fun q => absurd (hiff.mpr q) Bool.false_ne_true)] at h
        have hri := HT.Dr A.in1 ⟨hp, g, d, tk, os⟩ ns[i] t ms[i] u prog w
        wp_walk using wpAny_loadPart' hl, wpAny_loadPart' hb
        rw [hi1, hi2]
        wp_walk using hri
        exact h
    · have hi2 : items2[((i : Nat) : Int).toNat]? = none := by simp; omega
      wp_walk using wpAny_loadPart' hl, wpAny_loadPart' hb
      rw [hi1, hi2]
      rw [stop i h1 h2 (.inr (by omega))] at h
      wp_walk using wpAny_loadPart' hl, wpAny_loadPart' hb
      exact h
theorem CV (l b : Addr) (items items2 : Array Value) (n n2 : Nat) (dd dd2 : Option Addr) (sl sl2 : Array (Option Value)) (ns ms : List Int) (hi : IntsAre items.toList ns) (hj : IntsAre items2.toList ms) :
    Meets (Builtin.«list.__lt__» ⟨[.ref l, .ref b], []⟩)
      (fun _ R s => s.heap.get? l = some { cls := .type "list", dict := dd, data := .seq items n, slots := sl } ∧ s.heap.get? b = some { cls := .type "list", dict := dd2, data := .seq items2 n2, slots := sl2 } ∧
        R (.ok (.ret (.bool (HT.lexLt ns ms)))) s) := by
  intro prog w A R s h
  obtain ⟨hp, g, d, tk, os⟩ := s; obtain ⟨hl, hb, h⟩ := h
  have f2 := AutoSeq1.sub_list_list
  wp_walk using wpAny_loadPart' hl, wpAny_loadPart' hb
  exact ⟨plainId_quiet plain_eq_loop _, codeAny_builtin entry_eq_loop (by
    rw [Around.under_plainId plain_eq_loop _]
    exact CJ l b items items2 n n2 dd dd2 sl sl2 ns ms hi hj _ 0 rfl (Nat.zero_le _) (Nat.zero_le _) prog w A R _ ⟨hl, hb, by simpa using h⟩)⟩
end
section
variable {prog : Program} {w : World} {A : Around} {E : Value → Shared → Prop} {s : Shared}
theorem ye {l b : Addr} {its its2 : Array Value} {ns ms : List Int} {Q : Bool → Shared → Prop} (hl : s.heap.IsList l its) (hb : s.heap.IsList b its2) (hi : IntsAre its.toList ns) (hj : IntsAre its2.toList ms) (hu : A.units < cLine)
    (h : Q (HT.lexLt ns ms) s) : wpAny (model prog w) A (keyLt' oneType' (.ref l) (.ref b)) Q E s := by
  obtain ⟨⟨cls, dd, data, sl⟩, ho, hc, n, hd⟩ := id hl
  obtain ⟨⟨cls2, dd2, data2, sl2⟩, ho2, hc2, n2, hd2⟩ := id hb
  dsimp only at hc hd hc2 hd2
  subst hc hd hc2 hd2
  rw [keyLt'_oneType, oneLt'_eq]
  simp only [if_true]
  refine wpAny_bind (wpAny_cRoomFor hu ?_)
  refine wpAny_bind (wpAny_callSpecialIfBound?_slot ⟨_, ho, rfl⟩ PySem.F.slot_list_lt (call_meets PySem.F.slot_list_lt ⟨_, ho, rfl⟩ PySem.F.entry_list_lt (PySem.F.args_list_lt_2 _ _) (CV l b its its2 n n2 dd dd2 sl sl2 ns ms hi hj) ⟨ho, ho2, ?_⟩))
  exact wpAny_truthy_bool h
end
end L2
set_option maxRecDepth 100000
set_option maxHeartbeats 1000000
namespace L2
open PySem PySem.Spec PyProof.Rows PySem.W
section
variable {prog : Program} {w : World} {A : Around} {E : Value → Shared → Prop} {s : Shared}
abbrev wI (nss : List (List Int)) : Nat → Gq.α := fun i => nss.getD i []
def mG (vs : List Value) (p : Array Nat) : Array Value := (p.toList.map fun i => vs.getD i Value.none).toArray
def G5 (h : Heap) (vs : List Value) (nss : List (List Int)) (a : Addr) : Prop := ∀ i, i < vs.length → ∃ (l : Addr) (its : Array Value), vs.getD i Value.none = .ref l ∧ l ≠ a ∧ h.IsList l its ∧ IntsAre its.toList (nss.getD i [])
theorem yp (vs : List Value) : mG vs (List.toArray (List.range vs.length)) = vs.toArray := by
  unfold mG
  congr 1
  refine List.ext_getElem (by simp) fun i h1 h2 => ?_
  simp [List.getD_eq_getElem?_getD, h2]
theorem FJ {a : Addr} {vs : List Value} {nss : List (List Int)} {n : Nat} {P : PySem.Fin → Shared → Prop} (ho : s.heap.get? a = some (seqObj "list" vs.toArray n)) (h64 : vs.length < 64) (hu : A.units < cLine) (hit : G5 s.heap vs nss a)
    (h : ∀ p : Array Nat, p.Perm (List.toArray (List.range vs.length)) → dF (wI nss) p vs.length → P (.done (.ret .none)) { s with heap := sortedHeap s.heap a vs (mG vs p) }) :
    wpAny (model prog w) A (Builtin.«list.sort» ⟨[.ref a], []⟩) P E s := by
  rw [list_sort_plain]
  have ha : a < s.heap.objs.size := Heap.lt_size ho
  have hln : vs.length ≤ sizeLine := by rw [sizeLine_eq]; omega
  refine wpAny_bind (listItems_at ho rfl ?_)
  refine wpAny_bind (listUpdate_at ho rfl ?_ (by rw [List.size_toArray]; exact hln) (Nat.zero_le _))
  obtain ⟨e1, ho1⟩ : ∃ e1, (s.heap.update a (Obj.mapSeq fun _ => #[])).get? a = some (seqObj "list" #[] e1) := ⟨_, get?_update_seq ho (fun _ => #[])⟩
  refine wpAny_bind (seqEpoch_at ho1 rfl ?_)
  refine wpAny_bind (wpAny_newTuple ?_ hln)
  refine wpAny_bind (wpAny_newList ?_ (Nat.zero_le _))
  refine wpAny_holding ?_
  have old : ∀ b o, b ≠ a → s.heap.get? b = some o → (((s.heap.update a (Obj.mapSeq fun _ => #[])).push (seqObj "tuple" vs.toArray 0)).push (seqObj "list" #[] 0)).get? b = some o := fun b o hb e =>
    Heap.get?_push_of_some _ (Heap.get?_push_of_some _ ((Heap.get?_update_ne _ _ _ _ hb).trans e))
  have ho6 : (((s.heap.update a (Obj.mapSeq fun _ => #[])).push (seqObj "tuple" vs.toArray 0)).push (seqObj "list" #[] 0)).get? a = some (seqObj "list" #[] e1) := Heap.get?_push_of_some _ (Heap.get?_push_of_some _ ho1)
  show wpAny (model prog w) A _ P E { s with heap := ((s.heap.update a (Obj.mapSeq fun _ => #[])).push (seqObj "tuple" vs.toArray 0)).push (seqObj "list" #[] 0) }
  dsimp only
  by_cases h2 : vs.toArray.size < 2
  · have fin := h (List.toArray (List.range vs.length)) (Array.Perm.refl _) fun i j hij hj => by
      have : i = j := by rw [List.size_toArray] at h2; omega
      subst this; exact KeyOrd.kle_refl _
    rw [yp] at fin
    rw [if_pos h2, if_pos h2]
    refine wpAny_bind (wpAny_pure ?_)
    rw [StateT.run_pure]
    refine wpAny_bind (wpAny_pure ?_)
    dsimp only
    have hz : (Array.map (fun x : Keyed => x.2) (vs.toArray.zip vs.toArray)) = vs.toArray := by
      apply Array.toList_inj.mp
      rw [Array.toList_map, Array.toList_zip]
      exact List.map_snd_zip (Nat.le_refl _)
    refine wpAny_bind (seqEpoch_at ho6 rfl ?_)
    show wpAny (model prog w) A (Builtin.List.listUpdate (.ref a) (fun _ => Array.map (fun x : Keyed => x.2) (vs.toArray.zip vs.toArray)) >>= _) P E _
    rw [hz]
    refine wpAny_bind (listUpdate_at ho6 rfl ?_ (Nat.zero_le _) (by rw [List.size_toArray]; omega))
    simp only [bne_self_eq_false, Bool.false_eq_true, if_false]
    exact wpAny_pure fin
  · rw [if_neg h2, if_neg h2]
    have l2 : 2 ≤ vs.length := by rw [List.size_toArray] at h2; omega
    obtain ⟨p0, e0, q1, q2, q3⟩ := sk (key := wI nss) (n := vs.length) (by omega)
    refine wpAny_bind (kas_kind (T := .type "list") l2 (fun v hv => ?_) (by decide) (by decide) ?_)
    · obtain ⟨i, hi, rfl⟩ := List.getElem_of_mem hv
      obtain ⟨l, its, el, la, il, _⟩ := hit i hi
      rw [List.getD_eq_getElem?_getD, List.getElem?_eq_getElem hi] at el
      rw [show vs[i] = .ref l from el]
      intro A Q E s' k q
      obtain ⟨o, ho', hc, _⟩ := il
      exact wpAny_typeOf (T := "list") ⟨o, k _ _ (old _ _ la ho'), hc⟩ q
    have est : SortSt.mk' oneType' (vs.toArray.zip vs.toArray) #[] 7 none = kas_st oneType' (pairsOf vs) (List.toArray (List.range vs.length)) := by
      have e := kas_range (pairsOf vs)
      rw [pairsOf_size] at e
      show SortSt.mk' oneType' (pairsOf vs) #[] 7 none = SortSt.mk' oneType' ((List.toArray (List.range vs.length)).map (kas_item (pairsOf vs))) #[] 7 none
      rw [e]
    have ask : (kas_sort vs.length).kasWp (kas_ask prog w A oneType' vs) (fun p s' => p = p0 ∧ s' = { s with heap := ((s.heap.update a (Obj.mapSeq fun _ => #[])).push (seqObj "tuple" vs.toArray 0)).push (seqObj "list" #[] 0) })
        { s with heap := ((s.heap.update a (Obj.mapSeq fun _ => #[])).push (seqObj "tuple" vs.toArray 0)).push (seqObj "list" #[] 0) } := by
      refine xa (lt := ltK (wI nss)) (fun i j C hi hj hC => ?_) _ (Ex (by omega)) ⟨e0, rfl⟩
      obtain ⟨l, its, el, la, il, ii⟩ := hit i hi
      obtain ⟨m, its2, em, ma, im, ij⟩ := hit j hj
      unfold kas_ask
      rw [el, em]
      have up : ∀ {x : Addr} {xs : Array Value}, x ≠ a → s.heap.IsList x xs → (((s.heap.update a (Obj.mapSeq fun _ => #[])).push (seqObj "tuple" vs.toArray 0)).push (seqObj "list" #[] 0)).IsList x xs := fun hx ⟨o, e, r⟩ => ⟨o, old _ _ hx e, r⟩
      exact ye (up la il) (up ma im) ii ij hu hC
    rw [kas_ask_eq] at ask
    have run := kas_runs (E := E) (Q := fun _ st' s' => arrOf st' = p0.map (kas_item (pairsOf vs)) ∧ failedOf st' = none ∧ s' = { s with heap := ((s.heap.update a (Obj.mapSeq fun _ => #[])).push (seqObj "tuple" vs.toArray 0)).push (seqObj "list" #[] 0) })
      l2 h64 (fun p' st' s' a1 a2 a3 a4 => ⟨by rw [a2, a4.1], a3, a4.2⟩) ask
    rw [← est] at run
    refine wpAny_bind (wpAny_mono run ?_ fun _ _ e => e)
    rintro ⟨⟨⟩, st'⟩ s' ⟨har, hf, rfl⟩
    dsimp only
    have hout : (arrOf st').map (·.2) = mG vs p0 := by
      apply Array.toList_inj.mp
      rw [har, Array.map_map, Array.toList_map]
      exact List.map_congr_left fun i _ => by show (kas_item (pairsOf vs) i).2 = _; rw [kas_item_eq]
    rw [hout]
    refine wpAny_bind (seqEpoch_at ho6 rfl ?_)
    refine wpAny_bind (listUpdate_at ho6 rfl ?_ (Nat.zero_le _) (by unfold mG; rw [List.size_toArray, List.length_map, Array.length_toList, q2]; omega))
    rw [hf]
    simp only [bne_self_eq_false, Bool.false_eq_true, if_false]
    exact wpAny_pure (h p0 q1 q3)
theorem Ea {l : Addr} {vs : List Value} {nss : List (List Int)} {Q : Value → Shared → Prop} (hl : s.heap.IsList l vs.toArray) (h64 : vs.length < 64) (hu : A.units + 64 < cLine)
    (hit : ∀ i, i < vs.length → ∃ (l : Addr) (its : Array Value), vs.getD i Value.none = .ref l ∧ s.heap.IsList l its ∧ IntsAre its.toList (nss.getD i []))
    (h : ∀ p : Array Nat, p.Perm (List.toArray (List.range vs.length)) → dF (wI nss) p vs.length → Q (.ref (s.heap.objs.size + 1)) { s with heap := sortedAll s.heap vs (mG vs p) }) :
    wpAny (model prog w) A (call (.builtin "sorted") [.ref l]) Q E s := by
  have hln : vs.length ≤ sizeLine := by rw [sizeLine_eq]; omega
  refine Calls.call_function_entry kind_sorted plain_sorted entry_sorted (args_sorted1 _) ?_
  unfold Builtin.«sorted»
  refine wpAny_bind (m := checkCount "sorted" 1 1 _) (wpAny_pure ?_)
  refine wpAny_bind (collect_list hl ?_ hln)
  refine wpAny_bind (wpAny_newList ?_ hln)
  have hsz : ((s.heap.push (seqObj "list" #[] 0)).update s.heap.objs.size (Obj.mapSeq (· ++ vs.toArray))).objs.size = s.heap.objs.size + 1 := by
    rw [Heap.size_update, size_push']
  have hoL : (((s.heap.push (seqObj "list" #[] 0)).update s.heap.objs.size (Obj.mapSeq (· ++ vs.toArray))).push (seqObj "list" vs.toArray 0)).get? (s.heap.objs.size + 1) = some (seqObj "list" vs.toArray 0) := by
    rw [← hsz]; exact Heap.get?_push_size _ rfl
  have keep : ∀ b o, s.heap.get? b = some o → (((s.heap.push (seqObj "list" #[] 0)).update s.heap.objs.size (Obj.mapSeq (· ++ vs.toArray))).push (seqObj "list" vs.toArray 0)).get? b = some o := fun b o q => by
    have hlt : b < s.heap.objs.size := Heap.lt_size q
    exact Heap.get?_push_of_some _ ((Heap.get?_update_ne _ _ _ _ (Nat.ne_of_lt hlt)).trans (Heap.get?_push_of_some _ q))
  show wpAny _ _ _ _ _ { s with heap := ((s.heap.push (seqObj "list" #[] 0)).update s.heap.objs.size (Obj.mapSeq (· ++ vs.toArray))).push (seqObj "list" vs.toArray 0) }
  rw [hsz]
  refine wpAny_bind (wpAny_holding (wpAny_call_entry slot_list_sort ⟨_, hoL, rfl⟩ entry_list_sort (FJ (nss := nss) hoL h64 ?_ (fun i hi => ?_) fun p a1 a2 => ⟨_, rfl, ?_⟩) (args_list_sort _)))
  · simp only [units_in1]; omega
  · obtain ⟨x, its, e, il, ii⟩ := hit i hi
    obtain ⟨o, ho, r⟩ := il
    exact ⟨x, its, e, Nat.ne_of_lt (Nat.lt_succ_of_lt (Heap.lt_size ho)), ⟨o, keep _ _ ho, r⟩, ii⟩
  · exact wpAny_pure ⟨_, rfl, h p a1 a2⟩
end
section
variable {α β : Type}
def nS (x : α × List Int) : List (α × List Int) → List (α × List Int)
  | [] => [x]
  | y :: l => if HT.lexLt x.2 y.2 = true then x :: y :: l else y :: nS x l
def dD : List (α × List Int) → List (α × List Int)
  | [] => []
  | x :: l => nS x (dD l)
theorem vW {g : α × List Int → β × List Int} (hg : ∀ x, (g x).2 = x.2) (x : α × List Int) : ∀ l, nS (g x) (l.map g) = (nS x l).map g
  | [] => rfl
  | y :: l => by
    rw [List.map_cons]
    unfold nS
    rw [hg, hg]
    split
    · rfl
    · rw [List.map_cons, vW hg x l]
theorem kD {g : α × List Int → β × List Int} (hg : ∀ x, (g x).2 = x.2) : ∀ l, dD (l.map g) = (dD l).map g
  | [] => rfl
  | x :: l => by
    rw [List.map_cons]
    unfold dD
    rw [kD hg l, vW hg]
theorem oU (x : α × List Int) : ∀ l, (nS x l).Perm (x :: l)
  | [] => .refl _
  | y :: l => by
    unfold nS
    split
    · exact .refl _
    · exact ((oU x l).cons y).trans (List.Perm.swap x y l)
theorem fY : ∀ l : List (α × List Int), (dD l).Perm l
  | [] => .refl _
  | x :: l => (oU x _).trans ((fY l).cons x)
abbrev uh (l : List (α × List Int)) : Prop := l.Pairwise fun a b => HT.lexLt b.2 a.2 = false
theorem lex_asymm {a b : List Int} (h : HT.lexLt a b = true) : HT.lexLt b a = false := by
  cases h2 : HT.lexLt b a with
  | false => rfl
  | true =>
    have := lex_trans a b a h h2
    rw [lex_irrefl] at this; cases this
theorem Ao {a b c : List Int} (h1 : HT.lexLt b a = false) (h2 : HT.lexLt c b = false) : HT.lexLt c a = false := KeyOrd.kle_trans (O := Gq) (a := a) (b := b) (c := c) h1 h2
theorem u0 (x : α × List Int) : ∀ {l}, uh l → uh (nS x l)
  | [], _ => List.pairwise_singleton _ _
  | y :: l, h => by
    unfold nS
    have hy := List.pairwise_cons.mp h
    split
    · rename_i c
      refine List.pairwise_cons.mpr ⟨fun z hz => ?_, h⟩
      rcases List.mem_cons.mp hz with rfl | hz
      · exact lex_asymm c
      · exact Ao (lex_asymm c) (hy.1 z hz)
    · rename_i c
      refine List.pairwise_cons.mpr ⟨fun z hz => ?_, u0 x hy.2⟩
      rcases List.mem_cons.mp ((oU x l).mem_iff.mp hz) with rfl | hz
      · exact eq_false_of_ne_true c
      · exact hy.1 z hz
theorem lj : ∀ l : List (α × List Int), uh (dD l)
  | [] => .nil
  | x :: l => u0 x (lj l)
theorem E9 {l : List (α × List Int)} (nd : (l.map (·.2)).Nodup) {a b : α × List Int} (ha : a ∈ l) (hb : b ∈ l) (h : a.2 = b.2) : a = b := by
  induction l with
  | nil => cases ha
  | cons x l ih =>
    rw [List.map_cons, List.nodup_cons] at nd
    rcases List.mem_cons.mp ha with rfl | ha'
    · rcases List.mem_cons.mp hb with rfl | hb
      · rfl
      · have q : b.2 ∈ l.map (·.2) := List.mem_map_of_mem hb
        rw [← h] at q
        exact absurd q nd.1
    · rcases List.mem_cons.mp hb with rfl | hb
      · have q : a.2 ∈ l.map (·.2) := List.mem_map_of_mem ha'
        rw [h] at q
        exact absurd q nd.1
      · exact ih nd.2 ha' hb
theorem si : ∀ {l m : List (α × List Int)}, l.Perm m → (l.map (·.2)).Nodup → uh l → uh m → l = m
  | [], m, h, _, _, _ => (List.nil_perm.mp h).symm
  | a :: l, [], h, _, _, _ => absurd h.symm (by simp)
  | a :: l, b :: m, h, nd, hl, hm => by
    have e : a = b := by
      have ha : a ∈ b :: m := h.mem_iff.mp List.mem_cons_self
      have hb : b ∈ a :: l := h.mem_iff.mpr List.mem_cons_self
      rcases List.mem_cons.mp ha with e | ha
      · exact e
      · rcases List.mem_cons.mp hb with e | hb'
        · exact e.symm
        · refine E9 nd List.mem_cons_self hb (mJ _ _ ((List.pairwise_cons.mp hm).1 a ha) ((List.pairwise_cons.mp hl).1 b hb'))
    subst e
    rw [si (List.Perm.cons_inv h) (List.nodup_cons.mp nd).2 (List.pairwise_cons.mp hl).2 (List.pairwise_cons.mp hm).2]
end
section
variable {X : Cx}
def rH (K : PySem.W.Frag) : List V → Hp → VK → Prop := fun xs H Q => ∃ (p : Addr) (ls : List (Addr × List Int)), xs = [.ref p] ∧ SqL K H p (ls.map fun x => V.ref x.1) ∧ (∀ x ∈ ls, SqL K H x.1 (x.2.map V.int)) ∧ ls.length < 64 ∧ (ls.map (·.2)).Nodup ∧
  ∀ d, H d = none → Q (.ref d) (upd H d (.lst ((dD ls).map fun x => V.ref x.1)))
theorem tw : ∀ {ls : List (Addr × List Int)} {its : List Value}, Vals (ls.map fun x => V.ref x.1) its → its = ls.map fun x => Value.ref x.1
  | [], _, h => by cases h; rfl
  | x :: ls, _, h => by
    cases h with
    | cons r rs => cases r; rw [tw rs]; rfl
theorem tq : ∀ (ls : List (Addr × List Int)), Vals (ls.map fun x => V.ref x.1) (ls.map fun x => Value.ref x.1)
  | [] => .nil
  | x :: ls => .cons rfl (tq ls)
theorem w6 (hu : X.A.units + 64 < cLine) : g7 X (.builtin "sorted") (rH X.K) := by
  intro pins s σ H xs us Q I r h
  obtain ⟨p, ls, rfl, hq, hi, h64, nd, q⟩ := h
  obtain ⟨u, rfl, ru⟩ := vals1 r
  cases ru
  obtain ⟨its, rv, pl, hz⟩ := I.list hq
  obtain rfl := tw rv
  have ln : (ls.map fun x => Value.ref x.1).length = ls.length := List.length_map _
  refine Ea (nss := ls.map (·.2)) pl.isList (by rw [ln]; exact h64) hu (fun i hi' => ?_) fun p0 a1 a2 => ?_
  · rw [ln] at hi'
    obtain ⟨its2, r2, pl2, _⟩ := I.list (hi ls[i] (List.getElem_mem _))
    refine ⟨ls[i].1, its2.toArray, by simp [List.getD_eq_getElem?_getD, hi'], pl2.isList, ?_⟩
    rw [show (ls.map (·.2)).getD i [] = ls[i].2 by simp [List.getD_eq_getElem?_getD, hi']]
    simpa using om r2
  · rw [ln] at a1 a2
    have hm : ∀ i ∈ p0.toList, i < ls.length := fun i hi => by
      have := (Array.perm_iff_toList_perm.mp a1).mem_iff.mp hi
      simpa using this
    have e1 : mG (ls.map fun x => Value.ref x.1) p0 = ((p0.toList.map fun i => ls.getD i (0, [])).map fun x => Value.ref x.1).toArray := by
      unfold mG
      congr 1
      rw [List.map_map]
      refine List.map_congr_left fun i hi => ?_
      have := hm i hi
      simp [List.getD_eq_getElem?_getD, this]
    have e2 : (p0.toList.map fun i => ls.getD i (0, [])).Perm ls := by
      have := (Array.perm_iff_toList_perm.mp a1).map fun i => ls.getD i (0, [])
      refine this.trans (List.Perm.of_eq ?_)
      refine List.ext_getElem (by simp) fun i h1 h2 => ?_
      simp [List.getD_eq_getElem?_getD, h2]
    have sz : p0.size = ls.length := by have := a1.size_eq; simpa using this
    have e3 : uh (p0.toList.map fun i => ls.getD i (0, [])) := by
      refine List.pairwise_iff_getElem.mpr ?_
      intro i j hi hj hij
      have hi' : i < p0.size := by simpa using hi
      have hj' : j < p0.size := by simpa using hj
      have := a2 i j (Nat.le_of_lt hij) (by omega)
      have k1 : ∀ (i : Nat) (h : i < p0.size), kAt (wI (ls.map (·.2))) p0 i = (ls.getD p0[i] (0, [])).2 := fun i h => by
        have hb := hm p0[i] (by simp)
        have e : p0.getD i 0 = p0[i] := by simp [Array.getD, h]
        unfold kAt
        rw [e]
        show (ls.map (·.2)).getD p0[i] [] = _
        rw [List.getD_eq_getElem?_getD, List.getElem?_map, List.getD_eq_getElem?_getD, List.getElem?_eq_getElem hb]
        rfl
      rw [k1 i hi', k1 j hj'] at this
      rw [List.getElem_map, List.getElem_map, Array.getElem_toList, Array.getElem_toList]
      exact this
    have e4 : (p0.toList.map fun i => ls.getD i (0, [])) = dD ls := si (e2.trans (fY ls).symm) ((e2.map (·.2)).nodup_iff.mpr nd) e3 (lj ls)
    rw [e1, e4]
    obtain ⟨e, he⟩ := sortedAll_at s.heap (ls.map fun x => Value.ref x.1) ((dD ls).map fun x => Value.ref x.1).toArray
    have fresh : H (s.heap.objs.size + 1) = none := I.hok.fresh (Nat.le_succ _)
    refine ⟨.ref (s.heap.objs.size + 1), _, I.laid (t' := s.toks) (o := .lst ((dD ls).map fun x => V.ref x.1)) (fun b o q => sortedAll_old q) (Nat.le_succ _) ?_, rfl, q _ fresh⟩
    exact ⟨by rw [List.length_map, (fY ls).length_eq]; rw [List.length_map] at hz; exact hz, _, e, tq _, he⟩
end
end L2
set_option maxRecDepth 100000
set_option maxHeartbeats 1000000
namespace L2
open PySem PySem.Spec PyProof.Rows
section
variable {prog : Program} {w : World} {A : Around} {R : Result → Shared → Prop} {I : Addr} {fp wr : List Addr} {n : Nat} {P : Nat → Value → Prop} {St : Nat → Heap → Prop} {kw : List (Str × Value)}
end
section
variable {prog : Program} {w : World} {A : Around} {E : Value → Shared → Prop} {s : Shared}
end
section
variable {X : Cx} {e d : Expr} {te td : TE} {p q kp : Pos}
end
end L2
set_option maxRecDepth 100000
set_option maxHeartbeats 1000000
namespace L2
open PySem PySem.Spec PyProof.Rows
theorem oG {h : Heap} : ∀ {vs : List Value} {ms ns : List Int} {as bs : List Addr}, ReadsAll h vs (ms.map PyData.int) as → ReadsAll h vs (ns.map PyData.int) bs → ms = ns
  | [], ms, ns, as, bs, r, t => by
    cases ms with
    | nil =>
      cases ns with
      | nil => rfl
      | cons b ns => cases t
    | cons a ms => cases r
  | v :: vs, ms, ns, as, bs, r, t => by
    cases ms with
    | nil => cases r
    | cons a ms =>
      cases ns with
      | nil => cases t
      | cons b ns =>
        rw [List.map_cons] at r t
        cases r with
        | cons r1 r2 =>
          cases t with
          | cons t1 t2 =>
            cases r1
            cases t1
            rw [oG r2 t2]
theorem vG {h : Heap} {a : Addr} {ms ns : List Int} {as bs : List Addr} (r : Reads h (.ref a) (.list (ms.map PyData.int)) as) (t : Reads h (.ref a) (.list (ns.map PyData.int)) bs) : ms = ns := by
  cases r with
  | list r1 r2 r3 r4 =>
    cases t with
    | list t1 t2 t3 t4 =>
      rw [r1] at t1
      cases t1
      rw [r3] at t3
      cases t3
      exact oG r4 t4
theorem zy : ∀ ns ms : List Int, PyData.eqvAll (ns.map PyData.int) (ms.map PyData.int) = (ns == ms)
  | [], [] => by simp [PyData.eqvAll]
  | [], _ :: _ => by simp [PyData.eqvAll]
  | _ :: _, [] => by simp [PyData.eqvAll]
  | a :: r, b :: t => by
    simp only [List.map_cons, PyData.eqvAll, PyData.eqv, zy r t]
    rfl
theorem o8 : ∀ ns : List Int, PyData.depthAll (ns.map PyData.int) = 0
  | [] => by simp [PyData.depthAll]
  | n :: ns => by simp [PyData.depthAll, PyData.depth, o8 ns]
theorem nY : ∀ ns : List Int, PyData.canLayAll0 (ns.map PyData.int) = true
  | [] => by simp [PyData.canLayAll0]
  | n :: ns => by simp [PyData.canLayAll0, PyData.canLay0, nY ns]
section
variable {X : Cx}
theorem uE {K : PySem.W.Frag} {H : Hp} : ∀ ns : List Int, kO K H (ns.map PyData.int) (ns.map V.int)
  | [] => by rw [List.map_nil]; unfold kO; rfl
  | n :: ns => by
    rw [List.map_cons]
    unfold kO
    exact ⟨.int n, ns.map V.int, rfl, by unfold RdV; rfl, uE ns⟩
theorem nM {pins : List (Addr × Obj)} {σ : St} {H : Hp} {s : Shared} (I : Inv X pins σ H s) {a : Addr} {ns : List Int} (h : SqL X.K H a (ns.map V.int)) : ∃ as, Reads s.heap (.ref a) (.list (ns.map PyData.int)) as :=
  jz I (d := .list (ns.map PyData.int)) (v := .ref a) (by unfold RdV; exact ⟨a, _, rfl, h, uE ns⟩) rfl
def zO (K : PySem.W.Frag) (neg : Bool) : R2 := fun x y H Q => ∃ a p, ∃ (ns : List Int) (l : List (Addr × List Int)), x = .ref a ∧ y = .ref p ∧ SqL K H a (ns.map V.int) ∧ SqL K H p (l.map fun q => .ref q.1) ∧ (∀ q ∈ l, SqL K H q.1 (q.2.map V.int)) ∧
  Q (.bl (if neg then !(l.any fun q => q.2 == ns) else l.any fun q => q.2 == ns)) H
open Classical in
noncomputable def eIn (h : Heap) (ns : List Int) (y : Value) : Bool := decide (∃ bs, Reads h y (.list (ns.map PyData.int)) bs)
theorem Gb {h : Heap} {a : Addr} {ms ns : List Int} {as : List Addr} (r : Reads h (.ref a) (.list (ms.map PyData.int)) as) : eIn h ns (.ref a) = (ms == ns) := by
  unfold eIn
  by_cases e : ms = ns
  · subst e
    rw [beq_self_eq_true]
    exact @decide_eq_true _ (Classical.propDecidable _) ⟨as, r⟩
  · rw [beq_eq_false_iff_ne.mpr e]
    exact @decide_eq_false _ (Classical.propDecidable _) fun ⟨bs, t⟩ => e (vG r t)
theorem t8 {pins : List (Addr × Obj)} {σ : St} {H : Hp} {s : Shared} (I : Inv X pins σ H s) (hu : X.A.units + 64 < cLine) {a : Addr} {ns : List Int} {as : List Addr} (ra : Reads s.heap (.ref a) (.list (ns.map PyData.int)) as) : ∀ {l : List (Addr × List Int)} {its : List Value}, Vals (l.map fun q => V.ref q.1) its → (∀ q ∈ l, SqL X.K H q.1 (q.2.map V.int)) →
    (∀ y ∈ its, SeqAt.EqAt X.A.in1 s y (.ref a) (eIn s.heap ns y)) ∧ its.any (eIn s.heap ns) = l.any fun q => q.2 == ns
  | [], its, r, _ => by
    cases r
    exact ⟨fun y hy => (by cases hy), rfl⟩
  | q :: l, its, r, h => by
    rw [List.map_cons] at r
    cases r with
    | cons r1 r2 =>
      cases r1
      obtain ⟨g1, g2⟩ := t8 I hu ra r2 fun z hz => h z (List.mem_cons_of_mem _ hz)
      obtain ⟨bs, rb⟩ := nM I (h q List.mem_cons_self)
      have e := Gb (ns := ns) rb
      refine ⟨fun y hy => ?_, ?_⟩
      · rcases List.mem_cons.mp hy with rfl | hy
        · rw [e]
          have := SeqAt.eqAt_reads (.list (q.2.map PyData.int)) (.list (ns.map PyData.int)) X.A.in1 s _ _ bs as rb ra (by rw [PyData.canLay0]; exact nY _) (by rw [PyData.canLay0]; exact nY _) (by
            rw [PyData.depth, PyData.depth, o8, o8, Around.in1_units]; omega)
          rw [PyData.eqv, zy] at this
          exact this
        · exact g1 y hy
      · rw [List.any_cons, List.any_cons, e, g2]
theorem FX (hu : X.A.units + 64 < cLine) : OpR X (compareOp .In) (zO X.K false) := by
  intro pins s σ H x y v u Q I rx ry h
  obtain ⟨a, p, ns, l, rfl, rfl, ha, hp, hl, q⟩ := h
  cases rx
  cases ry
  obtain ⟨its, r, pl, hz⟩ := I.list hp
  obtain ⟨as, ra⟩ := nM I ha
  obtain ⟨g1, g2⟩ := t8 I hu ra r hl
  refine SeqAt.in_listAt (eIn s.heap ns) pl.isList (fun w hw => g1 w (by simpa using hw)) ⟨.bl _, H, I, rfl, ?_⟩
  rw [show its.toArray.any (eIn s.heap ns) = its.any (eIn s.heap ns) by simp, g2]
  exact q
theorem AH (hu : X.A.units + 64 < cLine) : OpR X (compareOp .NotIn) (zO X.K true) := by
  intro pins s σ H x y v u Q I rx ry h
  obtain ⟨a, p, ns, l, rfl, rfl, ha, hp, hl, q⟩ := h
  cases rx
  cases ry
  obtain ⟨its, r, pl, hz⟩ := I.list hp
  obtain ⟨as, ra⟩ := nM I ha
  obtain ⟨g1, g2⟩ := t8 I hu ra r hl
  refine SeqAt.notIn_listAt (eIn s.heap ns) pl.isList (fun w hw => g1 w (by simpa using hw)) ⟨.bl _, H, I, rfl, ?_⟩
  rw [show its.toArray.any (eIn s.heap ns) = its.any (eIn s.heap ns) by simp, g2]
  exact q
end
end L2
set_option maxRecDepth 100000
set_option maxHeartbeats 4000000
namespace M
open PySem L2
inductive D where
  | non | bl (b : Bool) | int (i : Int) | str (x : Str) | lst (xs : List D) | tup (xs : List D) | ptr (k : Nat) | obj (c : Nat) (ns : List Str) (ds : List D) | exn (c : Nat)
inductive Cell where
  | dead | lst (xs : List D) | ins (c : Nat) (ns : List Str) (ds : List D)
abbrev au := List Cell
structure S where
  r : List (Option D)
  o : au
inductive Res (α : Type) where
  | ok (a : α) | exc (c : Nat) (a : D) (o : S) | bad
def Res.bind {α β : Type} (x : Res α) (f : α → Res β) : Res β := match x with
  | .ok a => f a
  | .exc c a o => .exc c a o
  | .bad => .bad
@[simp] theorem ak {α β : Type} (a : α) (f : α → Res β) : (Res.ok a).bind f = f a := rfl
@[simp] theorem HK {α β : Type} (c : Nat) (a : D) (o : S) (f : α → Res β) : (Res.exc c a o : Res α).bind f = .exc c a o := rfl
@[simp] theorem Ih {α β : Type} (f : α → Res β) : (Res.bad : Res α).bind f = .bad := rfl
abbrev Wsh := Nat → D → S → Hp → Hp → List Addr → Prop
structure Ct where
  K : PySem.W.Frag
  ca : Nat → Addr
  W : Wsh
mutual
def Rep (K : PySem.W.Frag) (ca : Nat → Addr) (θ : List Addr) (F : Hp) : D → V → Prop
  | .non, v => v = .non
  | .bl b, v => v = .bl b
  | .int i, v => v = .int i
  | .str x, v => v = .str x
  | .lst ds, v => ∃ a xs, v = .ref a ∧ SqL K F a xs ∧ ay K ca θ F ds xs
  | .tup ds, v => ∃ a xs, v = .ref a ∧ SqT K F a xs ∧ ay K ca θ F ds xs
  | .ptr k, v => ∃ a, v = .ref a ∧ θ[k]? = some a
  | .obj c ns ds, v => ∃ a dx xs, v = .ref a ∧ F a = some (.ins (ca c) dx (ns.zip xs)) ∧ ns.length = xs.length ∧ ay K ca θ F ds xs
  | .exn c, v => ∃ a, v = .ref a ∧ F a = some (exO a (ca c))
def ay (K : PySem.W.Frag) (ca : Nat → Addr) (θ : List Addr) (F : Hp) : List D → List V → Prop
  | [], xs => xs = []
  | d :: ds, xs => ∃ v r, xs = v :: r ∧ Rep K ca θ F d v ∧ ay K ca θ F ds r
end
mutual
def cQ : D → Bool
  | .lst ds => bf ds
  | .tup ds => bf ds
  | .ptr _ => false
  | .obj _ _ ds => bf ds
  | _ => true
def bf : List D → Bool
  | [] => true
  | d :: ds => cQ d && bf ds
end
def mF : D → Bool
  | .non => true | .bl _ => true | .int _ => true | .str _ => true | _ => false
theorem bx.seqT {K : PySem.W.Frag} {H H' : Hp} {a : Addr} {xs : List V} (e : bx H H') (h : SqT K H a xs) : SqT K H' a xs := by
  rcases h with (h | ⟨o, h⟩) | h
  · exact .inl (.inl (e _ _ h))
  · exact .inl (.inr ⟨o, e _ _ h⟩)
  · exact .inr h
section
variable {K : PySem.W.Frag} {ca : Nat → Addr} {θ θ1 : List Addr} {F F1 : Hp}
mutual
theorem Rep.mono (hF : bx F F1) (hθ : ∃ r, θ1 = θ ++ r) : ∀ {d : D} {v : V}, Rep K ca θ F d v → Rep K ca θ1 F1 d v
  | .non, _, h => h
  | .bl _, _, h => h
  | .int _, _, h => h
  | .str _, _, h => h
  | .lst ds, _, h => by
    unfold Rep at h ⊢
    obtain ⟨a, xs, e, hs, hr⟩ := h
    exact ⟨a, xs, e, hF.seq hs, ay.mono hF hθ hr⟩
  | .tup ds, _, h => by
    unfold Rep at h ⊢
    obtain ⟨a, xs, e, hs, hr⟩ := h
    exact ⟨a, xs, e, bx.seqT hF hs, ay.mono hF hθ hr⟩
  | .ptr k, _, h => by
    unfold Rep at h ⊢
    obtain ⟨a, e, hk⟩ := h
    obtain ⟨r, rfl⟩ := hθ
    refine ⟨a, e, ?_⟩
    rw [List.getElem?_append_left (List.getElem?_eq_some_iff.mp hk).1]
    exact hk
  | .obj c ns ds, _, h => by
    unfold Rep at h ⊢
    obtain ⟨a, dx, xs, e, ha, hl, hr⟩ := h
    exact ⟨a, dx, xs, e, hF _ _ ha, hl, ay.mono hF hθ hr⟩
  | .exn c, _, h => by
    unfold Rep at h ⊢
    obtain ⟨a, e, ha⟩ := h
    exact ⟨a, e, hF _ _ ha⟩
theorem ay.mono (hF : bx F F1) (hθ : ∃ r, θ1 = θ ++ r) : ∀ {ds : List D} {xs : List V}, ay K ca θ F ds xs → ay K ca θ1 F1 ds xs
  | [], _, h => h
  | d :: ds, _, h => by
    unfold ay at h ⊢
    obtain ⟨v, r, e, h1, h2⟩ := h
    exact ⟨v, r, e, Rep.mono hF hθ h1, ay.mono hF hθ h2⟩
end
mutual
theorem Rep.pure : ∀ {d : D} {v : V}, cQ d = true → Rep K ca θ F d v → Rep K ca θ1 F d v
  | .non, _, _, h => h
  | .bl _, _, _, h => h
  | .int _, _, _, h => h
  | .str _, _, _, h => h
  | .lst ds, _, p, h => by
    unfold Rep at h ⊢
    obtain ⟨a, xs, e, hs, hr⟩ := h
    exact ⟨a, xs, e, hs, ay.pure (by simpa [cQ] using p) hr⟩
  | .tup ds, _, p, h => by
    unfold Rep at h ⊢
    obtain ⟨a, xs, e, hs, hr⟩ := h
    exact ⟨a, xs, e, hs, ay.pure (by simpa [cQ] using p) hr⟩
  | .ptr k, _, p, h => by simp [cQ] at p
  | .obj c ns ds, _, p, h => by
    unfold Rep at h ⊢
    obtain ⟨a, dx, xs, e, ha, hl, hr⟩ := h
    exact ⟨a, dx, xs, e, ha, hl, ay.pure (by simpa [cQ] using p) hr⟩
  | .exn c, _, _, h => by
    unfold Rep at h ⊢
    exact h
theorem ay.pure : ∀ {ds : List D} {xs : List V}, bf ds = true → ay K ca θ F ds xs → ay K ca θ1 F ds xs
  | [], _, _, h => h
  | d :: ds, _, p, h => by
    unfold ay at h ⊢
    obtain ⟨v, r, e, h1, h2⟩ := h
    simp only [bf, Bool.and_eq_true] at p
    exact ⟨v, r, e, Rep.pure p.1 h1, ay.pure p.2 h2⟩
end
theorem Rep.scal {d : D} {v : V} (p : mF d = true) (h : Rep K ca θ F d v) : Rep K ca θ1 F1 d v := by
  cases d <;> first | exact h | (simp [mF] at p)
theorem ay.length : ∀ {ds : List D} {xs : List V}, ay K ca θ F ds xs → xs.length = ds.length
  | [], _, h => by unfold ay at h; rw [h]; rfl
  | d :: ds, _, h => by
    unfold ay at h
    obtain ⟨v, r, rfl, _, h2⟩ := h
    rw [List.length_cons, List.length_cons, ay.length h2]
theorem ay.get : ∀ {ds : List D} {xs : List V} {i : Nat} {d : D}, ay K ca θ F ds xs → ds[i]? = some d → ∃ v, xs[i]? = some v ∧ Rep K ca θ F d v
  | [], _, _, _, _, e => by simp at e
  | d :: ds, _, 0, _, h, e => by
    unfold ay at h
    obtain ⟨v, r, rfl, h1, _⟩ := h
    simp at e
    subst e
    exact ⟨v, rfl, h1⟩
  | d :: ds, _, i + 1, x, h, e => by
    unfold ay at h
    obtain ⟨v, r, rfl, _, h2⟩ := h
    obtain ⟨u, e1, e2⟩ := ay.get (i := i) (d := x) h2 (by simpa using e)
    exact ⟨u, by simpa using e1, e2⟩
theorem ay.append : ∀ {ds es : List D} {xs ys : List V}, ay K ca θ F ds xs → ay K ca θ F es ys → ay K ca θ F (ds ++ es) (xs ++ ys)
  | [], _, _, _, h, k => by unfold ay at h; rw [h]; exact k
  | d :: ds, _, _, _, h, k => by
    unfold ay at h
    obtain ⟨v, r, rfl, h1, h2⟩ := h
    show ay K ca θ F (d :: (ds ++ _)) (v :: (r ++ _))
    unfold ay
    exact ⟨v, _, rfl, h1, ay.append h2 k⟩
theorem ay.one {d : D} {v : V} (h : Rep K ca θ F d v) : ay K ca θ F [d] [v] := by
  unfold ay
  exact ⟨v, [], rfl, h, by unfold ay; rfl⟩
theorem ay.nil : ay K ca θ F [] [] := by unfold ay; rfl
theorem ay.cons {d : D} {v : V} {ds : List D} {xs : List V} (h : Rep K ca θ F d v) (k : ay K ca θ F ds xs) : ay K ca θ F (d :: ds) (v :: xs) := by
  unfold ay
  exact ⟨v, xs, rfl, h, k⟩
theorem ay.take : ∀ {ds : List D} {xs : List V} (n : Nat), ay K ca θ F ds xs → ay K ca θ F (ds.take n) (xs.take n)
  | _, _, 0, _ => by simp; exact ay.nil
  | [], _, n + 1, h => by unfold ay at h; rw [h]; exact ay.nil
  | d :: ds, _, n + 1, h => by
    unfold ay at h
    obtain ⟨v, r, rfl, h1, h2⟩ := h
    exact ay.cons h1 (ay.take n h2)
theorem ay.drop : ∀ {ds : List D} {xs : List V} (n : Nat), ay K ca θ F ds xs → ay K ca θ F (ds.drop n) (xs.drop n)
  | _, _, 0, h => h
  | [], _, n + 1, h => by unfold ay at h; rw [h]; exact ay.nil
  | d :: ds, _, n + 1, h => by
    unfold ay at h
    obtain ⟨v, r, rfl, h1, h2⟩ := h
    exact ay.drop n h2
theorem ay.set {d : D} {v : V} (h : Rep K ca θ F d v) : ∀ {ds : List D} {xs : List V} (i : Nat), ay K ca θ F ds xs → ay K ca θ F (ds.set i d) (xs.set i v)
  | [], _, _, k => by unfold ay at k; rw [k]; exact ay.nil
  | _ :: _, _, 0, k => by
    unfold ay at k
    obtain ⟨v, r, rfl, h1, h2⟩ := k
    exact ay.cons h h2
  | _ :: _, _, i + 1, k => by
    unfold ay at k
    obtain ⟨v, r, rfl, h1, h2⟩ := k
    exact ay.cons h1 (ay.set h i h2)
end
structure Stp (H F : Hp) (θ : List Addr) (H1 F1 : Hp) (θ1 : List Addr) : Prop where
  ff : bx F F1
  th : ∃ r, θ1 = θ ++ r ∧ ∀ a ∈ r, H a = none
  kp : ∀ b o, H b = some o → b ∉ θ → H1 b = some o
  al : ∀ b o, H b = some o → ∃ o', H1 b = some o'
  nf : ∀ b o, F1 b = some o → F b = some o ∨ H b = none ∨ b ∈ θ
theorem Stp.refl {H F : Hp} {θ : List Addr} : Stp H F θ H F θ := ⟨bx.refl _, ⟨[], by simp, by simp⟩, fun _ _ h _ => h, fun _ o h => ⟨o, h⟩, fun _ _ h => .inl h⟩
theorem Stp.pre {H F H1 F1 : Hp} {θ θ1 : List Addr} (x : Stp H F θ H1 F1 θ1) : ∃ r, θ1 = θ ++ r := let ⟨r, e, _⟩ := x.th; ⟨r, e⟩
theorem Stp.trans {H F H1 F1 H2 F2 : Hp} {θ θ1 θ2 : List Addr} (x : Stp H F θ H1 F1 θ1) (y : Stp H1 F1 θ1 H2 F2 θ2) : Stp H F θ H2 F2 θ2 := by
  obtain ⟨r, rfl, hr⟩ := x.th
  obtain ⟨r2, rfl, hr2⟩ := y.th
  refine ⟨x.ff.trans y.ff, ⟨r ++ r2, by rw [List.append_assoc], fun a ha => ?_⟩, fun b o h hb => ?_, fun b o h => ?_, fun b o h => ?_⟩
  · rcases List.mem_append.mp ha with z | z
    · exact hr a z
    · cases e : H a with
      | none => rfl
      | some o =>
        obtain ⟨o', e'⟩ := x.al a o e
        rw [hr2 a z] at e'
        cases e'
  · refine y.kp b o (x.kp b o h hb) fun hm => ?_
    rcases List.mem_append.mp hm with z | z
    · exact hb z
    · rw [hr b z] at h
      cases h
  · obtain ⟨o', e'⟩ := x.al b o h
    exact y.al b o' e'
  · rcases y.nf b o h with z | z | z
    · exact x.nf b o z
    · refine .inr (.inl ?_)
      cases e : H b with
      | none => rfl
      | some o' =>
        obtain ⟨o2, e2⟩ := x.al b o' e
        rw [z] at e2
        cases e2
    · rcases List.mem_append.mp z with q | q
      · exact .inr (.inr q)
      · exact .inr (.inl (hr b q))
def jV (K : PySem.W.Frag) (ca : Nat → Addr) (H F : Hp) (θ : List Addr) (a : Addr) : Cell → Prop
  | .dead => ∃ o, H a = some o
  | .lst ds => F a = none ∧ ∃ xs, H a = some (.lst xs) ∧ ay K ca θ F ds xs
  | .ins c ns ds => F a = none ∧ ∃ dx xs, H a = some (.ins (ca c) dx (ns.zip xs)) ∧ ns.length = xs.length ∧ ay K ca θ F ds xs
theorem jV.there {K : PySem.W.Frag} {ca : Nat → Addr} {H F : Hp} {θ : List Addr} {a : Addr} {c : Cell} (h : jV K ca H F θ a c) : ∃ o, H a = some o := by
  cases c with
  | dead => exact h
  | lst ds => obtain ⟨_, xs, e, _⟩ := h; exact ⟨_, e⟩
  | ins c ns ds => obtain ⟨_, dx, xs, e, _⟩ := h; exact ⟨_, e⟩
structure Now (K : PySem.W.Frag) (ca : Nat → Addr) (H F : Hp) (θ : List Addr) (O : au) : Prop where
  fh : bx F H
  nd : θ.Nodup
  ln : θ.length = O.length
  ce : ∀ (k : Nat) a c, θ[k]? = some a → O[k]? = some c → jV K ca H F θ a c
theorem Now.there {K : PySem.W.Frag} {ca : Nat → Addr} {H F : Hp} {θ : List Addr} {O : au} (n : Now K ca H F θ O) {a : Addr} (h : a ∈ θ) : ∃ o, H a = some o := by
  obtain ⟨k, hk, e⟩ := List.getElem_of_mem h
  have h1 : θ[k]? = some a := by rw [List.getElem?_eq_getElem hk, e]
  have h2 : ∃ c, O[k]? = some c := ⟨O[k]'(by rw [← n.ln]; exact hk), List.getElem?_eq_getElem _⟩
  obtain ⟨c, h2⟩ := h2
  exact (n.ce k a c h1 h2).there
theorem Now.nil {K : PySem.W.Frag} {ca : Nat → Addr} {H F : Hp} (h : bx F H) : Now K ca H F [] [] := ⟨h, List.nodup_nil, rfl, fun k a c e _ => by simp at e⟩
structure BS (K : PySem.W.Frag) (ca : Nat → Addr) (σ : St) (H F : Hp) (θ : List Addr) (s : S) : Prop where
  now : Now K ca H F θ s.o
  len : σ.length = s.r.length
  sl : ∀ (i : Nat) d, s.r[i]? = some (some d) → ∃ v, σ[i]? = some (some v) ∧ Rep K ca θ F d v
theorem BS.newF {K : PySem.W.Frag} {ca : Nat → Addr} {σ : St} {H F : Hp} {θ : List Addr} {s : S} (b : BS K ca σ H F θ s) {p : Addr} (hp : H p = none) (o : HO) :
    Stp H F θ (upd H p o) (upd F p o) θ ∧ BS K ca σ (upd H p o) (upd F p o) θ s ∧ bx F (upd F p o) ∧ upd F p o p = some o := by
  have nm : ∀ a u, H a = some u → a ≠ p := fun a u e z => by rw [z, hp] at e; cases e
  have fp : F p = none := by
    cases e : F p with
    | none => rfl
    | some u => rw [b.now.fh p u e] at hp; cases hp
  have sF : bx F (upd F p o) := fun a u e => by rw [aR (nm a u (b.now.fh a u e))]; exact e
  have sH : bx H (upd H p o) := fun a u e => by rw [aR (nm a u e)]; exact e
  refine ⟨⟨sF, ⟨[], by simp, by simp⟩, fun a u e _ => sH a u e, fun a u e => ⟨u, sH a u e⟩, fun a u e => ?_⟩, ⟨⟨fun a u e => ?_, b.now.nd, b.now.ln, fun k a c e1 e2 => ?_⟩, b.len, fun i d e => ?_⟩, sF, cL⟩
  · by_cases h : a = p
    · subst h; exact .inr (.inl hp)
    · rw [aR h] at e; exact .inl e
  · by_cases h : a = p
    · subst h; rw [cL] at e ⊢; exact e
    · rw [aR h] at e ⊢; exact b.now.fh a u e
  · have q := b.now.ce k a c e1 e2
    obtain ⟨u, hu⟩ := q.there
    have ne := nm a u hu
    cases c with
    | dead => exact ⟨u, sH a u hu⟩
    | lst ds =>
      obtain ⟨q1, xs, q2, q3⟩ := q
      exact ⟨by rw [aR ne]; exact q1, xs, sH _ _ q2, q3.mono sF ⟨[], by simp⟩⟩
    | ins c ns ds =>
      obtain ⟨q1, dx, xs, q2, q3, q4⟩ := q
      exact ⟨by rw [aR ne]; exact q1, dx, xs, sH _ _ q2, q3, q4.mono sF ⟨[], by simp⟩⟩
  · obtain ⟨v, h1, h2⟩ := b.sl i d e
    exact ⟨v, h1, h2.mono sF ⟨[], by simp⟩⟩
theorem BS.newC {K : PySem.W.Frag} {ca : Nat → Addr} {σ : St} {H F : Hp} {θ : List Addr} {s : S} (b : BS K ca σ H F θ s) {p : Addr} (hp : H p = none) {ds : List D} {xs : List V} (hr : ay K ca θ F ds xs) :
    Stp H F θ (upd H p (.lst xs)) F (θ ++ [p]) ∧ BS K ca σ (upd H p (.lst xs)) F (θ ++ [p]) ⟨s.r, s.o ++ [.lst ds]⟩ ∧ Rep K ca (θ ++ [p]) F (.ptr s.o.length) (.ref p) := by
  have nm : ∀ a u, H a = some u → a ≠ p := fun a u e z => by rw [z, hp] at e; cases e
  have fp : F p = none := by
    cases e : F p with
    | none => rfl
    | some u => rw [b.now.fh p u e] at hp; cases hp
  have sH : bx H (upd H p (.lst xs)) := fun a u e => by rw [aR (nm a u e)]; exact e
  have pt : p ∉ θ := fun h => by obtain ⟨u, hu⟩ := b.now.there h; rw [hp] at hu; cases hu
  refine ⟨⟨bx.refl _, ⟨[p], rfl, by simpa using hp⟩, fun a u e _ => sH a u e, fun a u e => ⟨u, sH a u e⟩, fun a u e => .inl e⟩, ⟨⟨b.now.fh.trans sH, ?_, ?_, fun k a c e1 e2 => ?_⟩, b.len, fun i d e => ?_⟩, ?_⟩
  · refine List.nodup_append.mpr ⟨b.now.nd, by simp, fun a ha x hx => ?_⟩
    rw [List.mem_singleton.mp hx]
    rintro rfl
    exact pt ha
  · simp [b.now.ln]
  · by_cases hk : k < θ.length
    · rw [List.getElem?_append_left hk] at e1
      rw [List.getElem?_append_left (by rw [← b.now.ln]; exact hk)] at e2
      have q := b.now.ce k a c e1 e2
      obtain ⟨u, hu⟩ := q.there
      cases c with
      | dead => exact ⟨u, sH a u hu⟩
      | lst ds =>
        obtain ⟨q1, ys, q2, q3⟩ := q
        exact ⟨q1, ys, sH _ _ q2, q3.mono (bx.refl _) ⟨[p], rfl⟩⟩
      | ins c ns ds =>
        obtain ⟨q1, dx, ys, q2, q3, q4⟩ := q
        exact ⟨q1, dx, ys, sH _ _ q2, q3, q4.mono (bx.refl _) ⟨[p], rfl⟩⟩
    · have hk1 : k < (θ ++ [p]).length := (List.getElem?_eq_some_iff.mp e1).1
      have hk2 : k = θ.length := by simp at hk1; omega
      subst hk2
      rw [List.getElem?_append_right (Nat.le_refl _)] at e1
      rw [List.getElem?_append_right (by rw [b.now.ln]; exact Nat.le_refl _), b.now.ln] at e2
      simp at e1 e2
      subst e1; subst e2
      exact ⟨fp, xs, cL, hr.mono (bx.refl _) ⟨[p], rfl⟩⟩
  · obtain ⟨v, h1, h2⟩ := b.sl i d e
    exact ⟨v, h1, h2.mono (bx.refl _) ⟨[p], rfl⟩⟩
  · unfold Rep
    exact ⟨p, rfl, by rw [← b.now.ln]; simp⟩
theorem BS.set {K : PySem.W.Frag} {ca : Nat → Addr} {σ : St} {H F : Hp} {θ : List Addr} {s : S} (b : BS K ca σ H F θ s) {d : D} {v : V} (h : Rep K ca θ F d v) (i : Nat) : BS K ca (σ.set i (some v)) H F θ ⟨s.r.set i (some d), s.o⟩ := by
  refine ⟨b.now, by simp [b.len], fun j e hj => ?_⟩
  by_cases hji : i = j
  · subst hji
    have hlt : i < s.r.length := by
      have := (List.getElem?_eq_some_iff.mp hj).1
      simpa using this
    rw [List.getElem?_set_self hlt] at hj
    cases hj
    exact ⟨v, List.getElem?_set_self (by rw [b.len]; exact hlt), h⟩
  · rw [List.getElem?_set_ne hji] at hj
    obtain ⟨u, h1, h2⟩ := b.sl j e hj
    exact ⟨u, by rw [List.getElem?_set_ne hji]; exact h1, h2⟩
abbrev EM := S → Res (D × S)
abbrev AM := S → Res (List D × S)
inductive Out where
  | next (s : S) | ret (d : D) (s : S) | brk (s : S) | cnt (s : S) | exc (c : Nat) (a : D) (o : S) | bad
abbrev SM := S → Out
def PoR {α : Type} (C : Ct) (H F : Hp) (θ : List Addr) (x : Res α) (k : α → Hp → Hp → List Addr → Prop) : Prop := match x with
  | .ok a => ∀ H1 F1 θ1, Stp H F θ H1 F1 θ1 → k a H1 F1 θ1
  | .exc c a o => ∀ H1 F1 θ1, Stp H F θ H1 F1 θ1 → Now C.K C.ca H1 F1 θ1 o.o → C.W c a o H1 F1 θ1
  | .bad => False
abbrev PoE (C : Ct) (σ : St) (H F : Hp) (θ : List Addr) (x : Res (D × S)) (Q : VK) : Prop :=
  PoR C H F θ x fun y H1 F1 θ1 => BS C.K C.ca σ H1 F1 θ1 y.2 → ∀ v, Rep C.K C.ca θ1 F1 y.1 v → Q v H1
abbrev PoA (C : Ct) (σ : St) (H F : Hp) (θ : List Addr) (x : Res (List D × S)) (Q : List V → Hp → Prop) : Prop :=
  PoR C H F θ x fun y H1 F1 θ1 => BS C.K C.ca σ H1 F1 θ1 y.2 → ∀ v, ay C.K C.ca θ1 F1 y.1 v → Q v H1
abbrev PoT (C : Ct) (σ : St) (H F : Hp) (θ : List Addr) (x : Res (Bool × S)) (Q : Bool → Hp → Prop) : Prop :=
  PoR C H F θ x fun y H1 F1 θ1 => BS C.K C.ca σ H1 F1 θ1 y.2 → Q y.1 H1
abbrev PoG (C : Ct) (H F : Hp) (θ : List Addr) (x : Res S) (Q : St → Hp → Prop) : Prop :=
  PoR C H F θ x fun y H1 F1 θ1 => ∀ σ1, BS C.K C.ca σ1 H1 F1 θ1 y → Q σ1 H1
def PoS (C : Ct) (H F : Hp) (θ : List Addr) (x : Out) (Q : Ends) : Prop := match x with
  | .next s1 => ∀ σ1 H1 F1 θ1, Stp H F θ H1 F1 θ1 → BS C.K C.ca σ1 H1 F1 θ1 s1 → Q.nx σ1 H1
  | .ret d s1 => ∀ v σ1 H1 F1 θ1, Stp H F θ H1 F1 θ1 → BS C.K C.ca σ1 H1 F1 θ1 s1 → Rep C.K C.ca θ1 F1 d v → Q.rt v H1
  | .brk s1 => ∀ σ1 H1 F1 θ1, Stp H F θ H1 F1 θ1 → BS C.K C.ca σ1 H1 F1 θ1 s1 → Q.bk σ1 H1
  | .cnt s1 => ∀ σ1 H1 F1 θ1, Stp H F θ H1 F1 θ1 → BS C.K C.ca σ1 H1 F1 θ1 s1 → Q.ct σ1 H1
  | .exc c a o => ∀ H1 F1 θ1, Stp H F θ H1 F1 θ1 → Now C.K C.ca H1 F1 θ1 o.o → C.W c a o H1 F1 θ1
  | .bad => False
theorem PoR.after {α : Type} {C : Ct} {H F H1 F1 : Hp} {θ θ1 : List Addr} {x : Res α} {k : α → Hp → Hp → List Addr → Prop} (st : Stp H F θ H1 F1 θ1) (p : PoR C H F θ x k) : PoR C H1 F1 θ1 x k := by
  unfold PoR at p ⊢
  cases x with
  | ok a => exact fun H2 F2 θ2 s2 => p H2 F2 θ2 (st.trans s2)
  | exc c a o => exact fun H2 F2 θ2 s2 n => p H2 F2 θ2 (st.trans s2) n
  | bad => exact p
theorem PoR.bind {α β : Type} {C : Ct} {H F : Hp} {θ : List Addr} {x : Res α} {f : α → Res β} {k : α → Hp → Hp → List Addr → Prop} {j : β → Hp → Hp → List Addr → Prop}
    (p : PoR C H F θ (x.bind f) j) (h : ∀ a H1 F1 θ1, x = .ok a → Stp H F θ H1 F1 θ1 → PoR C H1 F1 θ1 (f a) j → k a H1 F1 θ1) : PoR C H F θ x k := by
  cases x with
  | ok a => exact fun H1 F1 θ1 st => h a H1 F1 θ1 rfl st (PoR.after st p)
  | exc c a o => exact p
  | bad => exact p
theorem PoR.imp {α : Type} {C : Ct} {H F : Hp} {θ : List Addr} {x : Res α} {k j : α → Hp → Hp → List Addr → Prop} (p : PoR C H F θ x j) (h : ∀ a H1 F1 θ1, x = .ok a → Stp H F θ H1 F1 θ1 → j a H1 F1 θ1 → k a H1 F1 θ1) : PoR C H F θ x k := by
  cases x with
  | ok a => exact fun H1 F1 θ1 st => h a H1 F1 θ1 rfl st (p H1 F1 θ1 st)
  | exc c a o => exact p
  | bad => exact p
theorem PoS.after {C : Ct} {H F H1 F1 : Hp} {θ θ1 : List Addr} {x : Out} {Q : Ends} (st : Stp H F θ H1 F1 θ1) (p : PoS C H F θ x Q) : PoS C H1 F1 θ1 x Q := by
  unfold PoS at p ⊢
  cases x with
  | next s => exact fun v H2 F2 θ2 s2 b => p v H2 F2 θ2 (st.trans s2) b
  | ret d s => exact fun v σ2 H2 F2 θ2 s2 b r => p v σ2 H2 F2 θ2 (st.trans s2) b r
  | brk s => exact fun v H2 F2 θ2 s2 b => p v H2 F2 θ2 (st.trans s2) b
  | cnt s => exact fun v H2 F2 θ2 s2 b => p v H2 F2 θ2 (st.trans s2) b
  | exc c a o => exact fun H2 F2 θ2 s2 n => p H2 F2 θ2 (st.trans s2) n
  | bad => exact p
def Res.out {α : Type} (x : Res α) (f : α → Out) : Out := match x with
  | .ok a => f a
  | .exc c a o => .exc c a o
  | .bad => .bad
@[simp] theorem nF {α : Type} (a : α) (f : α → Out) : (Res.ok a).out f = f a := rfl
@[simp] theorem IS {α : Type} (c : Nat) (a : D) (o : S) (f : α → Out) : (Res.exc c a o : Res α).out f = .exc c a o := rfl
@[simp] theorem Iw {α : Type} (f : α → Out) : (Res.bad : Res α).out f = .bad := rfl
theorem PoS.out {α : Type} {C : Ct} {H F : Hp} {θ : List Addr} {x : Res α} {f : α → Out} {k : α → Hp → Hp → List Addr → Prop} {Q : Ends}
    (p : PoS C H F θ (x.out f) Q) (h : ∀ a H1 F1 θ1, x = .ok a → Stp H F θ H1 F1 θ1 → PoS C H1 F1 θ1 (f a) Q → k a H1 F1 θ1) : PoR C H F θ x k := by
  cases x with
  | ok a => exact fun H1 F1 θ1 st => h a H1 F1 θ1 rfl st (PoS.after st p)
  | exc c a o => exact p
  | bad => exact p
def RdE (C : Ct) (t : TE) (m : EM) : Prop := ∀ σ H F θ s Q, BS C.K C.ca σ H F θ s → PoE C σ H F θ (m s) Q → t σ H Q
def RdA (C : Ct) (t : TA) (m : AM) : Prop := ∀ σ H F θ s Q, BS C.K C.ca σ H F θ s → PoA C σ H F θ (m s) Q → t σ H Q
abbrev TM := S → Res (Bool × S)
def RdT (C : Ct) (t : TT) (m : TM) : Prop := ∀ σ H F θ s Q, BS C.K C.ca σ H F θ s → PoT C σ H F θ (m s) Q → t σ H Q
abbrev GM := D → S → Res S
def RdG (C : Ct) (t : TG) (m : GM) : Prop := ∀ σ H F θ s d v Q, BS C.K C.ca σ H F θ s → Rep C.K C.ca θ F d v → PoG C H F θ (m d s) Q → t v σ H Q
def RdS (C : Ct) (t : TS) (m : SM) : Prop := ∀ σ H F θ s Q, BS C.K C.ca σ H F θ s → PoS C H F θ (m s) Q → t Q σ H
end M
set_option maxRecDepth 100000
set_option maxHeartbeats 4000000
namespace M
open PySem L2
section
variable {C : Ct}
@[simp] theorem hV {K ca θ F v} : Rep K ca θ F .non v ↔ v = .non := by unfold Rep; exact Iff.rfl
@[simp] theorem cS {K ca θ F v b} : Rep K ca θ F (.bl b) v ↔ v = .bl b := by unfold Rep; exact Iff.rfl
@[simp] theorem aY {K ca θ F v i} : Rep K ca θ F (.int i) v ↔ v = .int i := by unfold Rep; exact Iff.rfl
@[simp] theorem fX {K ca θ F v x} : Rep K ca θ F (.str x) v ↔ v = .str x := by unfold Rep; exact Iff.rfl
def aa (i : Nat) : EM := fun s => match s.r[i]? with
  | some (some d) => .ok (d, s)
  | _ => .bad
theorem ae (i : Nat) : RdE C (Dt i) (aa i) := by
  intro σ H F θ s Q b p
  unfold aa at p
  split at p
  · rename_i d e
    obtain ⟨v, h1, h2⟩ := b.sl i d e
    exact ⟨v, h1, p H F θ .refl b v h2⟩
  · exact p.elim
def ao (d : D) : EM := fun s => .ok (d, s)
theorem aB (i : Int) : RdE C (tC (.int i)) (ao (.int i)) := fun σ H F θ s Q b p => p H F θ .refl b (.int i) (aY.mpr rfl)
theorem oE (i : Bool) : RdE C (tC (.bl i)) (ao (.bl i)) := fun σ H F θ s Q b p => p H F θ .refl b (.bl i) (cS.mpr rfl)
theorem GL : RdE C (tC .non) (ao .non) := fun σ H F θ s Q b p => p H F θ .refl b .non (hV.mpr rfl)
abbrev Op2 := au → D → D → Res D
abbrev Op1 := au → D → Res D
def iy (C : Ct) (r : R2) (f : Op2) : Prop := ∀ σ H F θ s x y v w Q, BS C.K C.ca σ H F θ s → Rep C.K C.ca θ F x v → Rep C.K C.ca θ F y w →
  PoE C σ H F θ ((f s.o x y).bind fun d => .ok (d, s)) Q → r v w H Q
def aj (f : Op2) (ma mb : EM) : EM := fun s => (ma s).bind fun x => (mb x.2).bind fun y => (f y.2.o x.1 y.1).bind fun d => .ok (d, y.2)
theorem ar {r : R2} {f : Op2} {ta tb : TE} {ma mb : EM} (ho : iy C r f) (ha : RdE C ta ma) (hb : RdE C tb mb) : RdE C (tOp r ta tb) (aj f ma mb) := by
  intro σ H F θ s Q b p
  refine ha σ H F θ s _ b (PoR.bind p ?_)
  rintro ⟨x, s1⟩ H1 F1 θ1 _ st1 p1 b1 v r1
  refine hb σ H1 F1 θ1 s1 _ b1 (PoR.bind p1 ?_)
  rintro ⟨y, s2⟩ H2 F2 θ2 _ st2 p2 b2 w r2
  exact ho σ H2 F2 θ2 s2 x y v w Q b2 (r1.mono st2.ff st2.pre) r2 p2
def GQ (C : Ct) (r : V → Hp → VK → Prop) (f : Op1) : Prop := ∀ σ H F θ s x v Q, BS C.K C.ca σ H F θ s → Rep C.K C.ca θ F x v →
  PoE C σ H F θ ((f s.o x).bind fun d => .ok (d, s)) Q → r v H Q
def unM (f : Op1) (ma : EM) : EM := fun s => (ma s).bind fun x => (f x.2.o x.1).bind fun d => .ok (d, x.2)
theorem zH {r : V → Hp → VK → Prop} {f : Op1} {ta : TE} {ma : EM} (ho : GQ C r f) (ha : RdE C ta ma) : RdE C (tUn r ta) (unM f ma) := by
  intro σ H F θ s Q b p
  refine ha σ H F θ s _ b (PoR.bind p ?_)
  rintro ⟨x, s1⟩ H1 F1 θ1 _ st1 p1 b1 v r1
  exact ho σ H1 F1 θ1 s1 x v Q b1 r1 p1
def aq : AM := fun s => .ok ([], s)
def af (m : EM) (r : AM) : AM := fun s => (m s).bind fun x => (r x.2).bind fun y => .ok (x.1 :: y.1, y.2)
theorem az : RdA C sj aq := fun σ H F θ s Q b p => p H F θ .refl b [] ay.nil
theorem ai {te : TE} {ta : TA} {m : EM} {r : AM} (he : RdE C te m) (ha : RdA C ta r) : RdA C (mI te ta) (af m r) := by
  intro σ H F θ s Q b p
  refine he σ H F θ s _ b (PoR.bind p ?_)
  rintro ⟨x, s1⟩ H1 F1 θ1 _ st1 p1 b1 v r1
  refine ha σ H1 F1 θ1 s1 _ b1 (PoR.bind p1 ?_)
  rintro ⟨y, s2⟩ H2 F2 θ2 _ st2 p2 b2 w r2
  exact p2 H2 F2 θ2 .refl b2 (v :: w) (ay.cons (r1.mono st2.ff st2.pre) r2)
abbrev OpN := au → List D → Res D
def jg (C : Ct) (r : List V → Hp → VK → Prop) (f : OpN) : Prop := ∀ σ H F θ s xs vs Q, BS C.K C.ca σ H F θ s → ay C.K C.ca θ F xs vs →
  PoE C σ H F θ ((f s.o xs).bind fun d => .ok (d, s)) Q → r vs H Q
def bj (f : OpN) (ma : AM) : EM := fun s => (ma s).bind fun x => (f x.2.o x.1).bind fun d => .ok (d, x.2)
theorem ba {r : List V → Hp → VK → Prop} {f : OpN} {ta : TA} {ma : AM} (hc : jg C r f) (ha : RdA C ta ma) : RdE C (tCB r ta) (bj f ma) := by
  intro σ H F θ s Q b p
  refine ha σ H F θ s _ b (PoR.bind p ?_)
  rintro ⟨x, s1⟩ H1 F1 θ1 _ st1 p1 b1 v r1
  exact hc σ H1 F1 θ1 s1 x v Q b1 r1 p1
def rK (ma : AM) : EM := fun s => (ma s).bind fun x => if x.1.length ≤ 16777216 then .ok (.tup x.1, x.2) else .bad
theorem A2 {ta : TA} {ma : AM} (ha : RdA C ta ma) : RdE C (GO ta) (rK ma) := by
  intro σ H F θ s Q b p
  refine ha σ H F θ s _ b (PoR.bind p ?_)
  rintro ⟨x, s1⟩ H1 F1 θ1 _ st1 p1 b1 v r1
  dsimp only at p1
  split at p1
  · rename_i hl
    refine ⟨by rw [r1.length]; exact hl, fun q hq => ?_⟩
    obtain ⟨st, b2, sF, e⟩ := b1.newF hq (.tup v)
    refine p1 _ _ _ st b2 _ ?_
    unfold Rep
    exact ⟨q, v, rfl, SqT.of e, r1.mono sF ⟨[], by simp⟩⟩
  · exact p1.elim
def mP (ma : AM) : EM := fun s => (ma s).bind fun x => if x.1.length ≤ 16777216 then .ok (.lst x.1, x.2) else .bad
theorem sD {ta : TA} {ma : AM} (ha : RdA C ta ma) : RdE C (xh ta) (mP ma) := by
  intro σ H F θ s Q b p
  refine ha σ H F θ s _ b (PoR.bind p ?_)
  rintro ⟨x, s1⟩ H1 F1 θ1 _ st1 p1 b1 v r1
  dsimp only at p1
  split at p1
  · rename_i hl
    refine ⟨by rw [r1.length]; exact hl, fun q hq => ?_⟩
    obtain ⟨st, b2, sF, e⟩ := b1.newF hq (.lst v)
    refine p1 _ _ _ st b2 _ ?_
    unfold Rep
    exact ⟨q, v, rfl, SqL.of e, r1.mono sF ⟨[], by simp⟩⟩
  · exact p1.elim
def mw (ma : AM) : EM := fun s => (ma s).bind fun x => if x.1.length ≤ 16777216 then .ok (.ptr x.2.o.length, ⟨x.2.r, x.2.o ++ [.lst x.1]⟩) else .bad
theorem lM {ta : TA} {ma : AM} (ha : RdA C ta ma) : RdE C (xh ta) (mw ma) := by
  intro σ H F θ s Q b p
  refine ha σ H F θ s _ b (PoR.bind p ?_)
  rintro ⟨x, s1⟩ H1 F1 θ1 _ st1 p1 b1 v r1
  dsimp only at p1
  split at p1
  · rename_i hl
    refine ⟨by rw [r1.length]; exact hl, fun q hq => ?_⟩
    obtain ⟨st, b2, rp⟩ := b1.newC hq r1
    exact p1 _ _ _ st b2 _ rp
  · exact p1.elim
def aU (m : EM) : TM := fun s => (m s).bind fun x => match x.1 with
  | .bl b => .ok (b, x.2)
  | _ => .bad
theorem bS {t : TE} {m : EM} (h : RdE C t m) : RdT C (DU t) (aU m) := by
  intro σ H F θ s Q b p
  refine h σ H F θ s _ b (PoR.bind p ?_)
  rintro ⟨x, s1⟩ H1 F1 θ1 _ st1 p1 b1 v r1
  cases x <;> first | exact False.elim p1 | skip
  rename_i k _
  exact ⟨k, cS.mp r1, p1 _ _ _ .refl b1⟩
theorem gv {t : TE} {m : EM} (h : RdE C t m) : RdT C (tB t) (aU m) := bS h
def mX (a b : TM) : TM := fun s => (a s).bind fun x => if x.1 then b x.2 else .ok (false, x.2)
def orT (a b : TM) : TM := fun s => (a s).bind fun x => if x.1 then .ok (true, x.2) else b x.2
def iY (a : TM) : TM := fun s => (a s).bind fun x => .ok (!x.1, x.2)
theorem xQ {t u : TT} {a b : TM} (ha : RdT C t a) (hb : RdT C u b) : RdT C (Gv t u) (mX a b) := by
  intro σ H F θ s Q bs p
  refine ha σ H F θ s _ bs (PoR.bind p ?_)
  rintro ⟨x, s1⟩ H1 F1 θ1 _ st1 p1 b1
  cases x with
  | true => exact rj (hb σ H1 F1 θ1 s1 Q b1 p1)
  | false => exact rn (p1 _ _ _ .refl b1)
theorem jW {t u : TT} {a b : TM} (ha : RdT C t a) (hb : RdT C u b) : RdT C (tOr t u) (orT a b) := by
  intro σ H F θ s Q bs p
  refine ha σ H F θ s _ bs (PoR.bind p ?_)
  rintro ⟨x, s1⟩ H1 F1 θ1 _ st1 p1 b1
  cases x with
  | true => exact rj (p1 _ _ _ .refl b1)
  | false => exact rn (hb σ H1 F1 θ1 s1 Q b1 p1)
theorem iC {t : TT} {a : TM} (ha : RdT C t a) : RdT C (Gw t) (iY a) := by
  intro σ H F θ s Q bs p
  refine ha σ H F θ s _ bs (PoR.bind p ?_)
  rintro ⟨x, s1⟩ H1 F1 θ1 _ st1 p1 b1
  exact p1 _ _ _ .refl b1
def mL (a b : EM) : EM := fun s => (a s).bind fun x => match x.1 with
  | .bl true => b x.2
  | .bl false => .ok (.bl false, x.2)
  | _ => .bad
def orV (a b : EM) : EM := fun s => (a s).bind fun x => match x.1 with
  | .bl true => .ok (.bl true, x.2)
  | .bl false => b x.2
  | _ => .bad
def Au (a : EM) : EM := fun s => (a s).bind fun x => match x.1 with
  | .bl k => .ok (.bl (!k), x.2)
  | _ => .bad
theorem ka {t u : TE} {a b : EM} (ha : RdE C t a) (hb : RdE C u b) : RdE C (D3 t u) (mL a b) := by
  intro σ H F θ s Q bs p
  refine ha σ H F θ s _ bs (PoR.bind p ?_)
  rintro ⟨x, s1⟩ H1 F1 θ1 _ st1 p1 b1 v r1
  cases x <;> first | exact False.elim p1 | skip
  rename_i k _
  refine ⟨k, cS.mp r1, ?_⟩
  cases k with
  | true => exact rj (hb σ H1 F1 θ1 s1 Q b1 p1)
  | false => exact rn (p1 _ _ _ .refl b1 _ (cS.mpr rfl))
theorem yS {t : TE} {a : EM} (ha : RdE C t a) : RdE C (DW t) (Au a) := by
  intro σ H F θ s Q bs p
  refine ha σ H F θ s _ bs (PoR.bind p ?_)
  rintro ⟨x, s1⟩ H1 F1 θ1 _ st1 p1 b1 v r1
  cases x <;> first | exact False.elim p1 | skip
  rename_i k _
  exact ⟨k, cS.mp r1, p1 _ _ _ .refl b1 _ (cS.mpr rfl)⟩
def ifM (c : TM) (a b : EM) : EM := fun s => (c s).bind fun x => if x.1 then a x.2 else b x.2
def Out.then (x : Out) (f : S → Out) : Out := match x with
  | .next s => f s
  | o => o
@[simp] theorem uO (s : S) (f : S → Out) : (Out.next s).then f = f s := rfl
@[simp] theorem Im (d : D) (s : S) (f : S → Out) : (Out.ret d s).then f = .ret d s := rfl
@[simp] theorem HS (s : S) (f : S → Out) : (Out.brk s).then f = .brk s := rfl
@[simp] theorem HV (s : S) (f : S → Out) : (Out.cnt s).then f = .cnt s := rfl
@[simp] theorem Ia (c : Nat) (a : D) (o : S) (f : S → Out) : (Out.exc c a o).then f = .exc c a o := rfl
@[simp] theorem HP (f : S → Out) : Out.bad.then f = .bad := rfl
def aM (a b : SM) : SM := fun s => (a s).then b
def cu : SM := fun s => .next s
theorem cc : RdS C DT cu := fun σ H F θ s Q b p => p σ H F θ .refl b
theorem aG {t u : TS} {a b : SM} (ha : RdS C t a) (hb : RdS C u b) : RdS C (FY t u) (aM a b) := by
  intro σ H F θ s Q bs p
  refine ha σ H F θ s _ bs ?_
  unfold aM at p
  cases e : a s with
  | next s1 =>
    rw [e] at p
    intro σ1 H1 F1 θ1 st1 b1
    exact hb σ1 H1 F1 θ1 s1 Q b1 (PoS.after st1 p)
  | ret d s1 => rw [e] at p; exact p
  | brk s1 => rw [e] at p; exact p
  | cnt s1 => rw [e] at p; exact p
  | exc c a o => rw [e] at p; exact p
  | bad => rw [e] at p; exact p
def ix (m : EM) : SM := fun s => (m s).out fun x => .next x.2
theorem iP {t : TE} {m : EM} (h : RdE C t m) : RdS C (DX t) (ix m) := by
  intro σ H F θ s Q b p
  refine h σ H F θ s _ b (PoS.out p ?_)
  rintro ⟨x, s1⟩ H1 F1 θ1 _ st1 p1 b1 v r1
  exact p1 σ H1 F1 θ1 .refl b1
def bN (m : EM) : SM := fun s => (m s).out fun x => .ret x.1 x.2
theorem bh {t : TE} {m : EM} (h : RdE C t m) : RdS C (FE t) (bN m) := by
  intro σ H F θ s Q b p
  refine h σ H F θ s _ b (PoS.out p ?_)
  rintro ⟨x, s1⟩ H1 F1 θ1 _ st1 p1 b1 v r1
  exact p1 v σ H1 F1 θ1 .refl b1 r1
def HJ : SM := fun s => .ret .non s
def ifS (c : TM) (a b : SM) : SM := fun s => (c s).out fun x => if x.1 then a x.2 else b x.2
theorem df {t : TT} {u w : TS} {c : TM} {a b : SM} (hc : RdT C t c) (ha : RdS C u a) (hb : RdS C w b) : RdS C (Gj t u w) (ifS c a b) := by
  intro σ H F θ s Q bs p
  refine hc σ H F θ s _ bs (PoS.out p ?_)
  rintro ⟨x, s1⟩ H1 F1 θ1 _ st1 p1 b1
  cases x with
  | true => exact rj (ha σ H1 F1 θ1 s1 Q b1 p1)
  | false => exact rn (hb σ H1 F1 θ1 s1 Q b1 p1)
def tY : SM := fun _ => .bad
theorem lV : RdS C B7 tY := fun σ H F θ s Q b p => p
def aE (i : Nat) : GM := fun d s => .ok ⟨s.r.set i (some d), s.o⟩
theorem aK (i : Nat) : RdG C (qA i) (aE i) := fun σ H F θ s d v Q b r p => p H F θ .refl _ (b.set r i)
def zP (C : Ct) (t : TGs) (m : List D → S → Res S) : Prop := ∀ σ H F θ s ds vs Q, BS C.K C.ca σ H F θ s → ay C.K C.ca θ F ds vs → PoG C H F θ (m ds s) Q → t vs σ H Q
def de : List D → S → Res S := fun ds s => match ds with
  | [] => .ok s
  | _ => .bad
def aV (g : GM) (r : List D → S → Res S) : List D → S → Res S := fun ds s => match ds with
  | d :: ds => (g d s).bind fun s1 => r ds s1
  | [] => .bad
theorem fA : zP C FC de := by
  intro σ H F θ s ds vs Q b r p
  cases ds with
  | nil => exact ⟨by unfold ay at r; exact r, p H F θ .refl σ b⟩
  | cons d ds => exact False.elim p
theorem bO {t : TG} {u : TGs} {g : GM} {m : List D → S → Res S} (hg : RdG C t g) (hr : zP C u m) : zP C (D8 t u) (aV g m) := by
  intro σ H F θ s ds vs Q b r p
  cases ds with
  | nil => exact False.elim p
  | cons d ds =>
    unfold ay at r
    obtain ⟨v, w, rfl, r1, r2⟩ := r
    refine ⟨v, w, rfl, hg σ H F θ s d v _ b r1 (PoR.bind p ?_)⟩
    intro s1 H1 F1 θ1 _ st1 p1 σ1 b1
    exact hr σ1 H1 F1 θ1 s1 ds w Q b1 (r2.mono st1.ff st1.pre) p1
def cZ (m : List D → S → Res S) (n : Nat) : GM := fun d s => match d with
  | .tup ds => if ds.length = n then m ds s else .bad
  | _ => .bad
theorem fq {n : Nat} {t : TGs} {m : List D → S → Res S} (h : zP C t m) : RdG C (FN C.K n t) (cZ m n) := by
  intro σ H F θ s d v Q b r p
  cases d <;> first | exact False.elim p | skip
  rename_i ds
  unfold Rep at r
  obtain ⟨a, xs, rfl, hs, hr⟩ := r
  unfold cZ at p
  dsimp only at p
  split at p
  · rename_i hl
    exact ⟨a, xs, rfl, bx.seqT b.now.fh hs, by rw [hr.length]; exact hl, h σ H F θ s ds xs Q b hr p⟩
  · exact False.elim p
def jR (m : EM) (g : GM) : SM := fun s => ((m s).bind fun x => g x.1 x.2).out fun s => .next s
theorem ph {t : TE} {m : EM} {g : TG} {gm : GM} (h : RdE C t m) (hg : RdG C g gm) : RdS C (vV t g) (jR m gm) := by
  intro σ H F θ s Q b p
  have p' : PoG C H F θ ((m s).bind fun x => gm x.1 x.2) Q.nx := PoS.out p fun s1 H1 F1 θ1 _ st1 p1 σ1 b1 => p1 σ1 H1 F1 θ1 .refl b1
  refine h σ H F θ s _ b (PoR.bind p' ?_)
  rintro ⟨x, s1⟩ H1 F1 θ1 _ st1 p1 b1 v r1
  exact hg σ H1 F1 θ1 s1 x v Q.nx b1 r1 p1
abbrev setM (i : Nat) (m : EM) : SM := jR m (aE i)
theorem aO {t : TE} {m : EM} {i : Nat} (h : RdE C t m) : RdS C (vV t (qA i)) (setM i m) := ph h (aK i)
def HW (i : Nat) (f : Op2) (m : EM) : SM := setM i (aj f (aa i) m)
end
end M
set_option maxRecDepth 100000
set_option maxHeartbeats 4000000
namespace M
open PySem PySem.Spec PyProof.Rows L2
section
variable {C : Ct}
structure rT (C : Ct) (J : It) (ds : List D) (ok : au → Prop) (H F : Hp) (θ : List Addr) : Prop where
  go : ∀ (i : Nat) H2 F2 θ2 O2, i < ds.length → Stp H F θ H2 F2 θ2 → Now C.K C.ca H2 F2 θ2 O2 → ok O2 → J.go i H2
  yl : ∀ (i : Nat) d σ H2 F2 θ2 s2 x H3, ds[i]? = some d → Stp H F θ H2 F2 θ2 → BS C.K C.ca σ H2 F2 θ2 s2 → ok s2.o → J.yld i H2 x H3 → ∃ F3, Stp H2 F2 θ2 H3 F3 θ2 ∧ BS C.K C.ca σ H3 F3 θ2 s2 ∧ Rep C.K C.ca θ2 F3 d x
  st : ∀ (i : Nat) H2 F2 θ2 O2, ds.length ≤ i → Stp H F θ H2 F2 θ2 → Now C.K C.ca H2 F2 θ2 O2 → ok O2 → J.stop i H2
def okC (ds : List D) : Option Nat → au → Prop
  | none, _ => True
  | some k, O => O[k]? = some (.lst ds)
abbrev IM := S → Res ((List D × Option Nat) × S)
def RdI (C : Ct) (wi : TI) (im : IM) : Prop := ∀ σ H F θ s R, BS C.K C.ca σ H F θ s →
  PoR C H F θ (im s) (fun y H1 F1 θ1 => BS C.K C.ca σ H1 F1 θ1 y.2 → ∀ J, rT C J y.1.1 (okC y.1.1 y.1.2) H1 F1 θ1 → R J H1) → wi σ H R
open Classical in
noncomputable def bt (ok : au → Prop) (g : GM) (body : SM) : List D → S → Out
  | [], s => if ok s.o then .next s else .bad
  | d :: ds, s => if ok s.o then (g d s).out fun s1 => match body s1 with
      | .next s2 => bt ok g body ds s2
      | .cnt s2 => bt ok g body ds s2
      | .brk s2 => .next s2
      | o => o
    else .bad
noncomputable def fP (im : IM) (g : GM) (body : SM) : SM := fun s => (im s).out fun y => bt (okC y.1.1 y.1.2) g body y.1.1 y.2
theorem d4 {wi : TI} {g : TG} {tb : TS} {im : IM} {gm : GM} {bm : SM} (hi : RdI C wi im) (hg : RdG C g gm) (hb : RdS C tb bm) : RdS C (GG wi g tb) (fP im gm bm) := by
  intro σ H F θ s Q b p
  refine hi σ H F θ s _ b (PoS.out p ?_)
  rintro ⟨⟨ds, k⟩, s1⟩ H1 F1 θ1 _ st1 p1 b1 J it
  dsimp only at p1 it b1
  refine ⟨fun i m σ' H' => m = ds.length - i ∧ i ≤ ds.length ∧ ∃ F' θ' s', Stp H1 F1 θ1 H' F' θ' ∧ BS C.K C.ca σ' H' F' θ' s' ∧ PoS C H' F' θ' (bt (okC ds k) gm bm (ds.drop i) s') Q, ⟨ds.length, by simp, Nat.zero_le _, F1, θ1, s1, .refl, b1, by simpa using p1⟩, ?_⟩
  rintro i m σ' H' ⟨rfl, hil, F', θ', s', st, bs, po⟩
  by_cases lt : i < ds.length
  · right
    rw [List.drop_eq_getElem_cons lt, bt] at po
    split at po
    · rename_i hok
      refine ⟨it.go i H' F' θ' s'.o lt st bs.now hok, fun σ2 H2 => i + 1 ≤ ds.length ∧ ∃ F2 θ2 s2, Stp H1 F1 θ1 H2 F2 θ2 ∧ BS C.K C.ca σ2 H2 F2 θ2 s2 ∧ PoS C H2 F2 θ2 (bt (okC ds k) gm bm (ds.drop (i + 1)) s2) Q, fun σ2 H2 n => ⟨ds.length - (i + 1), by omega, rfl, n⟩, ?_⟩
      intro x H3 hy
      obtain ⟨F3, st3, b3, rp⟩ := it.yl i ds[i] σ' H' F' θ' s' x H3 (List.getElem?_eq_getElem lt) st bs hok hy
      refine hg σ' H3 F3 θ' s' ds[i] x _ b3 rp (PoS.out (PoS.after st3 po) ?_)
      intro s4 H4 F4 θ4 _ st4 p4 σ4 b4
      refine hb σ4 H4 F4 θ4 s4 _ b4 ?_
      have fin : ∀ s5, PoS C H4 F4 θ4 (bt (okC ds k) gm bm (ds.drop (i + 1)) s5) Q → ∀ σ5 H5 F5 θ5, Stp H4 F4 θ4 H5 F5 θ5 → BS C.K C.ca σ5 H5 F5 θ5 s5 → i + 1 ≤ ds.length ∧ ∃ F2 θ2 s2, Stp H1 F1 θ1 H5 F2 θ2 ∧ BS C.K C.ca σ5 H5 F2 θ2 s2 ∧ PoS C H5 F2 θ2 (bt (okC ds k) gm bm (ds.drop (i + 1)) s2) Q :=
        fun s5 p5 σ5 H5 F5 θ5 st5 b5 => ⟨lt, F5, θ5, s5, st.trans (st3.trans (st4.trans st5)), b5, PoS.after st5 p5⟩
      cases e : bm s4 with
      | next s5 => rw [e] at p4; exact fin s5 p4
      | cnt s5 => rw [e] at p4; exact fin s5 p4
      | brk s5 => rw [e] at p4; exact p4
      | ret d s5 => rw [e] at p4; exact p4
      | exc c a o => rw [e] at p4; exact p4
      | bad => rw [e] at p4; exact p4
    · exact False.elim po
  · left
    rw [List.drop_eq_nil_of_le (by omega), bt] at po
    split at po
    · rename_i hok
      exact ⟨it.st i H' F' θ' s'.o (by omega) st bs.now hok, po σ' H' F' θ' .refl bs⟩
    · exact False.elim po
def ib (c : TM) (b : SM) : Nat → S → Out
  | 0, _ => .bad
  | n + 1, s => (c s).out fun x => if x.1 then (match b x.2 with
      | .next s2 => ib c b n s2
      | .cnt s2 => ib c b n s2
      | .brk s2 => .next s2
      | o => o) else .next x.2
def pO (φ : S → Nat) (c : TM) (b : SM) : SM := fun s => ib c b (φ s) s
theorem xf {tc : TT} {tb : TS} {φ : S → Nat} {c : TM} {b : SM} (hc : RdT C tc c) (hb : RdS C tb b) : RdS C (BJ tc tb) (pO φ c b) := by
  intro σ H F θ s Q bs p
  refine ⟨fun m σ' H' => ∃ F' θ' s', BS C.K C.ca σ' H' F' θ' s' ∧ PoS C H' F' θ' (ib c b m s') Q, ⟨φ s, F, θ, s, bs, p⟩, ?_⟩
  rintro m σ' H' ⟨F', θ', s', b', po⟩
  cases m with
  | zero => exact False.elim po
  | succ m =>
    rw [ib] at po
    refine hc σ' H' F' θ' s' _ b' (PoS.out po ?_)
    rintro ⟨x, s1⟩ H1 F1 θ1 _ st1 p1 b1
    cases x with
    | false => exact rn (p1 σ' H1 F1 θ1 .refl b1)
    | true =>
      refine rj ⟨fun σ2 H2 => ∃ F2 θ2 s2, BS C.K C.ca σ2 H2 F2 θ2 s2 ∧ PoS C H2 F2 θ2 (ib c b m s2) Q, fun σ2 H2 n => ⟨m, Nat.lt_succ_self _, n⟩, ?_⟩
      refine hb σ' H1 F1 θ1 s1 _ b1 ?_
      dsimp only [if_true] at p1
      cases e : b s1 with
      | next s5 => rw [e] at p1; exact fun σ5 H5 F5 θ5 st5 b5 => ⟨F5, θ5, s5, b5, PoS.after st5 p1⟩
      | cnt s5 => rw [e] at p1; exact fun σ5 H5 F5 θ5 st5 b5 => ⟨F5, θ5, s5, b5, PoS.after st5 p1⟩
      | brk s5 => rw [e] at p1; exact p1
      | ret d s5 => rw [e] at p1; exact p1
      | exc c a o => rw [e] at p1; exact p1
      | bad => rw [e] at p1; exact p1
def itemsOf (O : au) : D → Res (List D × Option Nat)
  | .lst ds => .ok (ds, none)
  | .ptr k => match O[k]? with
    | some (.lst ds) => .ok (ds, some k)
    | _ => .bad
  | _ => .bad
def listI (m : EM) : IM := fun s => (m s).bind fun x => (itemsOf x.2.o x.1).bind fun y => .ok (y, x.2)
theorem Gx {a : Addr} {xs : List V} {ds : List D} {H F : Hp} {θ : List Addr} (hs : SqL C.K F a xs) (hr : ay C.K C.ca θ F ds xs) (inj : ∀ {σ H2 F2 θ2 s2}, Stp H F θ H2 F2 θ2 → BS C.K C.ca σ H2 F2 θ2 s2 → SqL C.K H2 a xs) :
    rT C (Itl C.K a) ds (okC ds none) H F θ where
  go := fun i H2 F2 θ2 O2 hi st n _ => by
    obtain ⟨x, hx⟩ : ∃ x, xs[i]? = some x := ⟨xs[i]'(by rw [hr.length]; exact hi), List.getElem?_eq_getElem _⟩
    exact ⟨xs, x, n.fh.seq (st.ff.seq hs), hx⟩
  yl := fun i d σ H2 F2 θ2 s2 x H3 hd st b _ hy => by
    obtain ⟨rfl, hx⟩ := hy
    refine ⟨F2, .refl, b, ?_⟩
    obtain ⟨v, h1, h2⟩ := hr.get hd
    have := hx xs (b.now.fh.seq (st.ff.seq hs))
    rw [h1] at this
    cases this
    exact h2.mono st.ff st.pre
  st := fun i H2 F2 θ2 O2 hi st n _ => ⟨xs, n.fh.seq (st.ff.seq hs), by rw [hr.length]; exact hi⟩
theorem bG {tl : TE} {m : EM} (h : RdE C tl m) : RdI C (DY C.K tl) (listI m) := by
  intro σ H F θ s R b p
  refine h σ H F θ s _ b (PoR.bind p ?_)
  rintro ⟨x, s1⟩ H1 F1 θ1 _ st1 p1 b1 v r1
  dsimp only at p1 b1 r1
  cases x <;> first | exact False.elim p1 | skip
  · rename_i ds _
    unfold Rep at r1
    obtain ⟨a, xs, rfl, hs, hr⟩ := r1
    exact ⟨a, rfl, ⟨xs, b1.now.fh.seq hs⟩, p1 _ _ _ .refl b1 _ (Gx hs hr fun st b => b.now.fh.seq (st.ff.seq hs))⟩
  · rename_i k _
    unfold Rep at r1
    obtain ⟨a, rfl, hk⟩ := r1
    unfold itemsOf at p1
    dsimp only at p1
    split at p1
    · rename_i ds ek
      obtain ⟨q1, xs, q2, q3⟩ : jV C.K C.ca H1 F1 θ1 a (.lst ds) := b1.now.ce k a _ hk ek
      refine ⟨a, rfl, ⟨xs, SqL.of q2⟩, p1 _ _ _ .refl b1 _ ?_⟩
      have cell : ∀ {H2 F2 : Hp} {θ2 : List Addr} {O2 : au}, Stp H1 F1 θ1 H2 F2 θ2 → Now C.K C.ca H2 F2 θ2 O2 → O2[k]? = some (.lst ds) → ∃ ys, SqL C.K H2 a ys ∧ ay C.K C.ca θ2 F2 ds ys := fun {H2 F2 θ2 O2} st n e => by
        have hk2 : θ2[k]? = some a := by
          obtain ⟨r, rfl, _⟩ := st.th
          rw [List.getElem?_append_left (List.getElem?_eq_some_iff.mp hk).1]
          exact hk
        obtain ⟨_, ys, w2, w3⟩ : jV C.K C.ca H2 F2 θ2 a (.lst ds) := n.ce k a _ hk2 e
        exact ⟨ys, SqL.of w2, w3⟩
      refine ⟨fun i H2 F2 θ2 O2 hi st n e => ?_, fun i d σ H2 F2 θ2 s2 x H3 hd st b e hy => ?_, fun i H2 F2 θ2 O2 hi st n e => ?_⟩
      · obtain ⟨ys, w1, w2⟩ := cell st n e
        exact ⟨ys, ys[i]'(by rw [w2.length]; exact hi), w1, List.getElem?_eq_getElem _⟩
      · obtain ⟨rfl, hx⟩ := hy
        obtain ⟨ys, w1, w2⟩ := cell st b.now e
        obtain ⟨v, h1, h2⟩ := w2.get hd
        have := hx ys w1
        rw [h1] at this
        cases this
        exact ⟨F2, .refl, b, h2⟩
      · obtain ⟨ys, w1, w2⟩ := cell st n e
        exact ⟨ys, w1, by rw [w2.length]; exact hi⟩
    · exact False.elim p1
def dj (lo hi : Int) : List D := (List.range (hi - lo).toNat).map fun i => .int (lo + (i : Nat))
theorem fR (lo hi : Int) : (dj lo hi).length = (hi - lo).toNat := by unfold dj; simp
theorem xx {lo hi : Int} {H F : Hp} {θ : List Addr} : rT C (Itr lo (hi - lo).toNat) (dj lo hi) (okC (dj lo hi) none) H F θ where
  go := fun i H2 F2 θ2 O2 h st n _ => by rw [fR] at h; exact h
  yl := fun i d σ H2 F2 θ2 s2 x H3 hd st b _ hy => by
    obtain ⟨rfl, rfl⟩ := hy
    refine ⟨F2, .refl, b, ?_⟩
    unfold dj at hd
    rw [List.getElem?_map] at hd
    cases e : (List.range (hi - lo).toNat)[i]? with
    | none => rw [e] at hd; cases hd
    | some j =>
      rw [e] at hd
      cases hd
      obtain ⟨_, rfl⟩ : ∃ h, j = i := ⟨trivial, by have := (List.getElem?_eq_some_iff.mp e).2; simpa using this.symm⟩
      exact aY.mpr rfl
  st := fun i H2 F2 θ2 O2 h st n _ => by rw [fR] at h; exact h
def jP (ma : AM) : IM := fun s => (ma s).bind fun x => match x.1 with
  | [.int j] => if -(2 ^ 62) ≤ j ∧ j < 2 ^ 62 then .ok ((dj 0 j, none), x.2) else .bad
  | _ => .bad
def tZ (ma : AM) : IM := fun s => (ma s).bind fun x => match x.1 with
  | [.int i, .int j] => if (-(2 ^ 62) ≤ i ∧ i < 2 ^ 62) ∧ -(2 ^ 62) ≤ j ∧ j < 2 ^ 62 then .ok ((dj i j, none), x.2) else .bad
  | _ => .bad
theorem kX {K ca θ F i vs} (h : ay K ca θ F [.int i] vs) : vs = [.int i] := by
  unfold ay at h
  obtain ⟨v, r, rfl, h1, h2⟩ := h
  unfold ay at h2
  rw [h2, aY.mp h1]
theorem zD {K ca θ F i j vs} (h : ay K ca θ F [.int i, .int j] vs) : vs = [.int i, .int j] := by
  unfold ay at h
  obtain ⟨v, r, rfl, h1, h2⟩ := h
  rw [kX h2, aY.mp h1]
theorem lJ {ta : TA} {m : AM} (h : RdA C ta m) : RdI C (D2 ta) (jP m) := by
  intro σ H F θ s R b p
  refine h σ H F θ s _ b (PoR.bind p ?_)
  rintro ⟨x, s1⟩ H1 F1 θ1 _ st1 p1 b1 v r1
  dsimp only at p1 b1 r1
  split at p1
  · rename_i j _
    split at p1
    · rename_i hj
      refine ⟨j, kX r1, hj.1, hj.2, ?_⟩
      have := p1 _ _ _ .refl b1 _ (xx (lo := 0) (hi := j))
      rw [Int.sub_zero] at this
      exact this
    · exact False.elim p1
  · exact False.elim p1
theorem Fi {ta : TA} {m : AM} (h : RdA C ta m) : RdI C (DZ ta) (tZ m) := by
  intro σ H F θ s R b p
  refine h σ H F θ s _ b (PoR.bind p ?_)
  rintro ⟨x, s1⟩ H1 F1 θ1 _ st1 p1 b1 v r1
  dsimp only at p1 b1 r1
  split at p1
  · rename_i i j _
    split at p1
    · rename_i hj
      exact ⟨i, j, zD r1, ⟨hj.1.1, hj.1.2, hj.2.1, hj.2.2⟩, p1 _ _ _ .refl b1 _ xx⟩
    · exact False.elim p1
  · exact False.elim p1
abbrev FM := List D → au → Res (D × au)
def spM (K : PySem.W.Frag) (ca : Nat → Addr) (n : Nat) (f : FM) : Sp := fun vs H Q E => ∃ F θ ds O, Now K ca H F θ O ∧ ay K ca θ F ds vs ∧ ds.length = n ∧ match f ds O with
  | .ok (d, O1) => ∀ v H1 F1 θ1, Stp H F θ H1 F1 θ1 → Now K ca H1 F1 θ1 O1 → Rep K ca θ1 F1 d v → Q v H1
  | .exc c _ s1 => ∀ H1 F1 θ1, Stp H F θ H1 F1 θ1 → Now K ca H1 F1 θ1 s1.o → E (.ref (ca c)) none H1
  | .bad => False
def runM (n : Nat) (m : SM) : FM := fun ds O => match m ⟨ds.map some ++ List.replicate (n - ds.length) none, O⟩ with
  | .next s => .ok (.non, s.o)
  | .ret d s => .ok (d, s.o)
  | _ => .bad
theorem Dm {K : PySem.W.Frag} {ca : Nat → Addr} {N : List Str} {H F : Hp} {θ : List Addr} {O : au} {ds : List D} {vs : List V} (n : Now K ca H F θ O) (r : ay K ca θ F ds vs) :
    BS K ca (L2.start N vs) H F θ ⟨ds.map some ++ List.replicate (N.length - ds.length) none, O⟩ := by
  refine ⟨n, by unfold L2.start; simp [r.length], fun i d e => ?_⟩
  dsimp only at e
  have hi : i < ds.length := by
    by_cases hi : i < ds.length
    · exact hi
    · rw [List.getElem?_append_right (by simpa using hi), List.getElem?_replicate] at e
      split at e <;> cases e
  rw [List.getElem?_append_left (by simpa using hi), List.getElem?_map] at e
  cases e1 : ds[i]? with
  | none => rw [e1] at e; cases e
  | some d' =>
    rw [e1] at e
    cases e
    obtain ⟨v, h1, h2⟩ := r.get e1
    refine ⟨v, ?_, h2⟩
    unfold L2.start
    rw [List.getElem?_append_left (by simpa [r.length] using hi), List.getElem?_map, h1]
    rfl
def W0 : Wsh := fun _ _ _ _ _ _ => False
theorem bZ {P : Program} {w : World} {K : PySem.W.Frag} {mg : Str → Option Value} {base : Heap} {ca : Nat → Addr} {x qual : Str} {st : Stmt} {f : Addr} {fd : FuncData} {N ps : List Str} {k n : Nat} {m : SM}
    (F : Fun K x qual st f fd) (S : bo N ps (aF st)) (hn : N.length = n)
    (hm : ∀ (cdv : Value) (A : Around) (outer : List Env) (s : Shared) (H : Hp) (E : XK), fb k (A.deeper (envOfC qual (aF st) s.heap.objs.size f cdv)) →
      ∃ t, PSs (oO (CXE P w) P w K mg base N qual (aF st) f cdv A outer s H E).nox (bc st) t ∧ RdS ⟨K, ca, W0⟩ t m) :
    iE P w K mg base (CXE P w) (k + 1) f fd ps (spM K ca ps.length (runM n m)) := by
  refine F.okE S (fun vs H Q E h => ?_) (fun cdv A outer s H vs Q E hr h => ?_)
  · obtain ⟨F, θ, ds, O, _, r, hl, _⟩ := h
    rw [r.length, hl]
  · obtain ⟨F, θ, ds, O, now, r, hl, q⟩ := h
    obtain ⟨t, ht, rd⟩ := hm cdv A outer s H E hr
    refine ⟨t, ht.nox, rd _ H F θ _ _ (Dm now r) ?_⟩
    subst hn
    unfold runM at q
    cases e : m ⟨ds.map some ++ List.replicate (N.length - ds.length) none, O⟩ with
    | next s1 => rw [e] at q; exact fun σ1 H1 F1 θ1 st b => q .non H1 F1 θ1 st b.now (hV.mpr rfl)
    | ret d s1 => rw [e] at q; exact fun v σ1 H1 F1 θ1 st b rv => q v H1 F1 θ1 st b.now rv
    | exc c a o => rw [e] at q; exact False.elim q
    | brk s1 => rw [e] at q; exact False.elim q
    | cnt s1 => rw [e] at q; exact False.elim q
    | bad => rw [e] at q; exact False.elim q
theorem BS.called {K : PySem.W.Frag} {ca : Nat → Addr} {σ : L2.St} {H F H1 F1 : Hp} {θ θ1 : List Addr} {s : S} {O1 : au} (b : BS K ca σ H F θ s) (st : Stp H F [] H1 F1 θ1) (n : Now K ca H1 F1 θ1 O1) :
    Stp H F θ H1 F1 θ ∧ BS K ca σ H1 F1 θ s := by
  have kp : ∀ b o, H b = some o → H1 b = some o := fun b o h => st.kp b o h (by simp)
  have nf : ∀ b o, F1 b = some o → F b = some o ∨ H b = none := fun b o h => by
    rcases st.nf b o h with z | z | z
    · exact .inl z
    · exact .inr z
    · simp at z
  refine ⟨⟨st.ff, ⟨[], by simp, by simp⟩, fun b o h _ => kp b o h, st.al, fun b o h => (nf b o h).elim .inl fun z => .inr (.inl z)⟩, ⟨⟨n.fh, b.now.nd, b.now.ln, fun k a c e1 e2 => ?_⟩, b.len, fun i d e => ?_⟩⟩
  · have q := b.now.ce k a c e1 e2
    obtain ⟨u, hu⟩ := q.there
    have fn : F a = none → F1 a = none := fun h => by
      cases e : F1 a with
      | none => rfl
      | some o =>
        rcases nf a o e with z | z
        · rw [h] at z; cases z
        · rw [hu] at z; cases z
    cases c with
    | dead => exact ⟨u, kp a u hu⟩
    | lst ds =>
      obtain ⟨q1, xs, q2, q3⟩ := q
      exact ⟨fn q1, xs, kp _ _ q2, q3.mono st.ff ⟨[], by simp⟩⟩
    | ins c ns ds =>
      obtain ⟨q1, dx, xs, q2, q3, q4⟩ := q
      exact ⟨fn q1, dx, xs, kp _ _ q2, q3, q4.mono st.ff ⟨[], by simp⟩⟩
  · obtain ⟨v, h1, h2⟩ := b.sl i d e
    exact ⟨v, h1, h2.mono st.ff ⟨[], by simp⟩⟩
def bF (n : Nat) (f : FM) (ma : AM) : EM := fun s => (ma s).bind fun x => if bf x.1 = true ∧ x.1.length = n then (match f x.1 [] with
  | .ok (d, _) => if cQ d = true then .ok (d, x.2) else .bad
  | _ => .bad) else .bad
theorem cx {n : Nat} {f : FM} {ta : TA} {ma : AM} {E : XK} (ha : RdA C ta ma) : RdE C (qp (spM C.K C.ca n f) [] E ta) (bF n f ma) := by
  intro σ H F θ s Q b p
  refine ha σ H F θ s _ b (PoR.bind p ?_)
  rintro ⟨x, s1⟩ H1 F1 θ1 _ st1 p1 b1 v r1
  dsimp only at p1 b1 r1 ⊢
  split at p1
  · rename_i hp
    rw [List.append_nil]
    refine ⟨F1, [], x, [], Now.nil b1.now.fh, r1.pure hp.1, hp.2, ?_⟩
    split at p1
    · rename_i d O1 e
      rw [e]
      intro v H2 F2 θ2 st2 n2 rv
      split at p1
      · rename_i pd
        obtain ⟨st3, b3⟩ := b1.called st2 n2
        exact p1 H2 F2 θ1 st3 b3 v (rv.pure pd)
      · exact False.elim p1
    · exact False.elim p1
  · exact False.elim p1
end
end M
set_option maxRecDepth 100000
set_option maxHeartbeats 4000000
namespace M
open PySem PySem.Spec PyProof.Rows L2
section
variable {C : Ct}
theorem dy {σ : L2.St} {H F : Hp} {θ : List Addr} {s : S} {d : D} {Q : VK} (p : PoE C σ H F θ ((Res.ok d).bind fun d => .ok (d, s)) Q) (b : BS C.K C.ca σ H F θ s) {v : V} (r : Rep C.K C.ca θ F d v) : Q v H := p H F θ .refl b v r
theorem tJ {σ : L2.St} {H F : Hp} {θ : List Addr} {s : S} {ds : List D} {Q : VK} (p : PoE C σ H F θ ((Res.ok (D.lst ds)).bind fun d => .ok (d, s)) Q) (b : BS C.K C.ca σ H F θ s) {xs : List V} (r : ay C.K C.ca θ F ds xs) :
    ∀ q, H q = none → Q (.ref q) (upd H q (.lst xs)) := fun q hq => by
  obtain ⟨st, b2, sF, e⟩ := b.newF hq (.lst xs)
  refine p _ _ _ st b2 _ ?_
  unfold Rep
  exact ⟨q, xs, rfl, SqL.of e, r.mono sF ⟨[], by simp⟩⟩
def lsD (O : au) : D → Option (List D)
  | .lst ds => some ds
  | .ptr k => match O[k]? with
    | some (.lst ds) => some ds
    | _ => none
  | _ => none
@[simp] theorem fv {O : au} {ds : List D} : lsD O (.lst ds) = some ds := rfl
theorem fE {σ : L2.St} {H F : Hp} {θ : List Addr} {s : S} {d : D} {ds : List D} {v : V} (b : BS C.K C.ca σ H F θ s) (r : Rep C.K C.ca θ F d v) (e : lsD s.o d = some ds) : ∃ a xs, v = .ref a ∧ SqL C.K H a xs ∧ ay C.K C.ca θ F ds xs := by
  cases d <;> first | (simp [lsD] at e; done) | skip
  · cases e
    unfold Rep at r
    obtain ⟨a, xs, rfl, hs, hr⟩ := r
    exact ⟨a, xs, rfl, b.now.fh.seq hs, hr⟩
  · rename_i k
    unfold Rep at r
    obtain ⟨a, rfl, hk⟩ := r
    unfold lsD at e
    dsimp only at e
    split at e
    · rename_i ds' ek
      cases e
      obtain ⟨_, xs, h1, h2⟩ : jV C.K C.ca H F θ a (.lst ds) := b.now.ce k a _ hk ek
      exact ⟨a, xs, rfl, SqL.of h1, h2⟩
    · cases e
theorem sX {σ : L2.St} {H F : Hp} {θ : List Addr} {s : S} {ds : List D} {v : V} (b : BS C.K C.ca σ H F θ s) (r : Rep C.K C.ca θ F (.tup ds) v) : ∃ a xs, v = .ref a ∧ SqT C.K H a xs ∧ ay C.K C.ca θ F ds xs := by
  unfold Rep at r
  obtain ⟨a, xs, rfl, hs, hr⟩ := r
  exact ⟨a, xs, rfl, bx.seqT b.now.fh hs, hr⟩
def intD (g : Int → Int → Res D) : Op2 := fun _ x y => match x, y with
  | .int i, .int j => g i j
  | _, _ => .bad
theorem sJ {g : Int → Int → V} {f : Int → Int → D} (h : ∀ K ca θ F i j, Rep K ca θ F (f i j) (g i j)) : iy C (rI0 g) (intD fun i j => .ok (f i j)) := by
  intro σ H F θ s x y v w Q b rx ry p
  unfold intD at p
  split at p
  · rename_i i j
    exact ⟨i, j, aY.mp rx, aY.mp ry, dy p b (h ..)⟩
  · exact False.elim p
open Classical in
noncomputable def tU (c : Int → Int → Prop) (f : Int → Int → D) : Op2 := intD fun i j => if c i j then .ok (f i j) else .bad
theorem vK {c : Int → Int → Prop} {g : Int → Int → V} {f : Int → Int → D} (h : ∀ K ca θ F i j, Rep K ca θ F (f i j) (g i j)) : iy C (rI c g) (tU c f) := by
  intro σ H F θ s x y v w Q b rx ry p
  unfold tU intD at p
  split at p
  · rename_i i j
    dsimp only at p
    split at p
    · rename_i hc
      exact ⟨i, j, aY.mp rx, aY.mp ry, hc, dy p b (h ..)⟩
    · exact False.elim p
  · exact False.elim p
def mD : Op2 := intD fun i j => .ok (.int (i - j))
noncomputable def bB : Op2 := tU IntMulOk fun i j => .int (i * j)
noncomputable def gj : Op2 := tU (fun i j => j ≠ 0) fun i j => .int (i.fdiv j)
noncomputable def fg : Op2 := tU (fun _ j => j ≠ 0) fun i j => .int (i.fmod j)
noncomputable def eN : Op2 := tU DF fun i j => .int (i ^ j.toNat)
def ltD : Op2 := intD fun i j => .ok (.bl (decide (i < j)))
def leD : Op2 := intD fun i j => .ok (.bl (decide (i ≤ j)))
def gtD : Op2 := intD fun i j => .ok (.bl (decide (j < i)))
def geD : Op2 := intD fun i j => .ok (.bl (decide (j ≤ i)))
def oy : Op1 := fun _ x => match x with
  | .int i => .ok (.int (-i))
  | _ => .bad
section
variable {X : Cx}
theorem du : OpR X (binaryOp .Mult) (rI IntMulOk fun i j => .int (i * j)) := opI fun _ _ _ _ _ _ _ hc q => mul_int q hc
theorem jf (hd : X.A.depth + 100 < recursionLimit) (ht : X.prog.given.tree = none) (hs : ∃ env l, X.stack = env :: l ∧ env.scope.isGenerator = false ∧ env.scope.isCoroutine = false ∧ env.builtins = builtinsNs ∧ env.globals = mainGlobals) :
    OpR X (binaryOp .FloorDiv) (rI (fun i j => j ≠ 0) fun i j => .int (i.fdiv j)) := by
  intro pins s σ H x y v u Q I rx ry h
  obtain ⟨i, j, rfl, rfl, hc, q⟩ := h
  obtain ⟨t, rfl⟩ := rx
  obtain ⟨t', rfl⟩ := ry
  obtain ⟨env, l, e, h1, h2, h3, h4⟩ := hs
  exact floordiv_int hc ⟨.int _, H, I.tok _, ⟨_, rfl⟩, q⟩ (.inr (PylongRoom.of I.nolimit hd (SeerAt.of I.noseer ht (I.ok.frames.trans (by rw [e])) h1 h2 h3 h4)))
def Ad (K : PySem.W.Frag) : R2 := fun x y H Q => rI0 (fun i j => .int (i + j)) x y H Q ∨ (∃ i j, x = .str i ∧ y = .str j ∧ i.length + j.length ≤ sizeLine ∧ Q (.str (i ++ j)) H) ∨ D9 K x y H Q
theorem ir : OpR X (binaryOp .Add) (Ad X.K) := Gu.or (zM.or Fh)
end
def Ic : Op2 := intD fun i j => .ok (.int (i + j))
def dm : Op2 := fun O x y => match x, y with
  | .int i, .int j => .ok (.int (i + j))
  | .str a, .str b => if a.length + b.length ≤ 16777216 then .ok (.str (a ++ b)) else .bad
  | x, y => match lsD O x, lsD O y with
    | some a, some b => if a.length + b.length ≤ 16777216 then .ok (.lst (a ++ b)) else .bad
    | _, _ => .bad
theorem gk : iy C (Ad C.K) dm := by
  intro σ H F θ s x y v w Q b rx ry p
  have lists : ∀ {a c : List D}, lsD s.o x = some a → lsD s.o y = some c → PoE C σ H F θ ((if a.length + c.length ≤ 16777216 then Res.ok (D.lst (a ++ c)) else .bad).bind fun d => .ok (d, s)) Q → Ad C.K v w H Q := fun {a c} e1 e2 p => by
    split at p
    · rename_i hl
      obtain ⟨l1, xs, rfl, s1, r1⟩ := fE b rx e1
      obtain ⟨l2, ys, rfl, s2, r2⟩ := fE b ry e2
      exact .inr (.inr ⟨l1, l2, xs, ys, rfl, rfl, s1, s2, by rw [r1.length, r2.length]; exact hl, tJ p b (r1.append r2)⟩)
    · exact False.elim p
  unfold dm at p
  split at p
  · rename_i i j
    exact .inl ⟨i, j, aY.mp rx, aY.mp ry, dy p b (aY.mpr rfl)⟩
  · rename_i i j
    split at p
    · rename_i hl
      exact .inr (.inl ⟨i, j, fX.mp rx, fX.mp ry, hl, dy p b (fX.mpr rfl)⟩)
    · exact False.elim p
  · split at p
    · rename_i a c e1 e2
      exact lists e1 e2 p
    · exact False.elim p
theorem pY : iy C (rI0 fun i j => .int (i - j)) mD := sJ fun _ _ _ _ _ _ => aY.mpr rfl
theorem cH : iy C (rI IntMulOk fun i j => .int (i * j)) bB := vK fun _ _ _ _ _ _ => aY.mpr rfl
theorem ia : iy C (rI (fun i j => j ≠ 0) fun i j => .int (i.fdiv j)) gj := vK fun _ _ _ _ _ _ => aY.mpr rfl
theorem gJ : iy C (rI (fun _ j => j ≠ 0) fun i j => .int (i.fmod j)) fg := vK fun _ _ _ _ _ _ => aY.mpr rfl
theorem kB : iy C (rI DF fun i j => .int (i ^ j.toNat)) eN := vK fun _ _ _ _ _ _ => aY.mpr rfl
theorem n5 : iy C (rI0 fun i j => .bl (decide (i < j))) ltD := sJ fun _ _ _ _ _ _ => cS.mpr rfl
theorem jh : iy C (rI0 fun i j => .bl (decide (j < i))) gtD := sJ fun _ _ _ _ _ _ => cS.mpr rfl
theorem xA : GQ C (rU fun i => .int (-i)) oy := by
  intro σ H F θ s x v Q b rx p
  unfold oy at p
  split at p
  · rename_i i
    exact ⟨i, aY.mp rx, dy p b (aY.mpr rfl)⟩
  · exact False.elim p
mutual
def toPy : D → Option PyData
  | .non => some .none
  | .bl b => some (.bool b)
  | .int i => some (.int i)
  | .str x => some (.str x)
  | .lst ds => (g0 ds).map .list
  | .tup ds => (g0 ds).map .tuple
  | .ptr _ => none
  | .obj _ _ _ => none
  | .exn _ => none
def g0 : List D → Option (List PyData)
  | [] => some []
  | d :: ds => match toPy d, g0 ds with
    | some a, some b => some (a :: b)
    | _, _ => none
end
mutual
def res (O : au) : D → D
  | .lst ds => .lst (bR O ds)
  | .tup ds => .tup (bR O ds)
  | .ptr k => match O[k]? with
    | some (.lst ds) => .lst ds
    | _ => .ptr k
  | .non => .non
  | .bl b => .bl b
  | .int i => .int i
  | .str x => .str x
  | .obj c ns ds => .obj c ns ds
  | .exn c => .exn c
def bR (O : au) : List D → List D
  | [] => []
  | d :: ds => res O d :: bR O ds
end
section
variable {K : PySem.W.Frag} {ca : Nat → Addr} {H F G : Hp} {θ : List Addr} {O : au}
mutual
theorem t5 (n : Now K ca H F θ O) (hF : bx F G) (hG : bx G H) : ∀ {d : D} {v : V}, Rep K ca θ G d v → Rep K ca θ H (res O d) v
  | .non, _, h => by unfold res; exact h
  | .bl _, _, h => by unfold res; exact h
  | .int _, _, h => by unfold res; exact h
  | .str _, _, h => by unfold res; exact h
  | .lst ds, _, h => by
    unfold res
    unfold Rep at h ⊢
    obtain ⟨a, xs, e, hs, hr⟩ := h
    exact ⟨a, xs, e, hG.seq hs, jx n hF hG hr⟩
  | .tup ds, _, h => by
    unfold res
    unfold Rep at h ⊢
    obtain ⟨a, xs, e, hs, hr⟩ := h
    exact ⟨a, xs, e, bx.seqT hG hs, jx n hF hG hr⟩
  | .ptr k, v, h => by
    unfold res
    split
    · rename_i ds e
      unfold Rep at h ⊢
      obtain ⟨a, ev, hk⟩ := h
      obtain ⟨_, xs, h1, h2⟩ : jV K ca H F θ a (.lst ds) := n.ce k a _ hk e
      exact ⟨a, xs, ev, SqL.of h1, h2.mono n.fh ⟨[], by simp⟩⟩
    · exact h.mono hG ⟨[], by simp⟩
  | .obj c ns ds, _, h => by unfold res; exact h.mono hG ⟨[], by simp⟩
  | .exn c, _, h => by unfold res; exact h.mono hG ⟨[], by simp⟩
theorem jx (n : Now K ca H F θ O) (hF : bx F G) (hG : bx G H) : ∀ {ds : List D} {xs : List V}, ay K ca θ G ds xs → ay K ca θ H (bR O ds) xs
  | [], _, h => by unfold bR; exact h
  | d :: ds, _, h => by
    unfold bR
    unfold ay at h ⊢
    obtain ⟨v, r, e, h1, h2⟩ := h
    exact ⟨v, r, e, t5 n hF hG h1, jx n hF hG h2⟩
end
mutual
theorem ui : ∀ {d : D} {v : V} {p : PyData}, Rep K ca θ H d v → toPy d = some p → RdV K H p v
  | .non, _, _, h, e => by unfold toPy at e; cases e; unfold RdV; exact hV.mp h
  | .bl b, _, _, h, e => by unfold toPy at e; cases e; unfold RdV; exact cS.mp h
  | .int b, _, _, h, e => by unfold toPy at e; cases e; unfold RdV; exact aY.mp h
  | .str b, _, _, h, e => by unfold toPy at e; cases e; unfold RdV; exact fX.mp h
  | .lst ds, _, _, h, e => by
    unfold toPy at e
    cases e1 : g0 ds with
    | none => rw [e1] at e; cases e
    | some ps =>
      rw [e1] at e
      cases e
      unfold Rep at h
      obtain ⟨a, xs, ev, hs, hr⟩ := h
      unfold RdV
      exact ⟨a, xs, ev, hs, rm hr e1⟩
  | .tup ds, _, _, h, e => by
    unfold toPy at e
    cases e1 : g0 ds with
    | none => rw [e1] at e; cases e
    | some ps =>
      rw [e1] at e
      cases e
      unfold Rep at h
      obtain ⟨a, xs, ev, hs, hr⟩ := h
      unfold RdV
      exact ⟨a, xs, ev, hs, rm hr e1⟩
  | .ptr _, _, _, _, e => by unfold toPy at e; cases e
  | .obj _ _ _, _, _, _, e => by unfold toPy at e; cases e
  | .exn _, _, _, _, e => by unfold toPy at e; cases e
theorem rm : ∀ {ds : List D} {xs : List V} {ps : List PyData}, ay K ca θ H ds xs → g0 ds = some ps → kO K H ps xs
  | [], _, _, h, e => by unfold g0 at e; cases e; unfold kO; unfold ay at h; exact h
  | d :: ds, _, _, h, e => by
    unfold g0 at e
    cases e1 : toPy d with
    | none => rw [e1] at e; cases e
    | some p =>
      cases e2 : g0 ds with
      | none => rw [e1, e2] at e; cases e
      | some ps =>
        rw [e1, e2] at e
        cases e
        unfold ay at h
        obtain ⟨v, r, ev, h1, h2⟩ := h
        unfold kO
        exact ⟨v, r, ev, ui h1 e1, rm h2 e2⟩
end
end
def fL (O : au) (x y : D) : Option Bool := match toPy (res O (res O x)), toPy (res O (res O y)) with
  | some a, some b => if SeqAt.shaped a = true ∧ SeqAt.shaped b = true then some (PyData.eqv a b) else none
  | _, _ => none
def eqB (O : au) (x y : D) : Option Bool := match x, y with
  | .int i, .int j => some (decide (i = j))
  | .str i, .str j => some (decide (i = j))
  | .bl i, .bl j => some (decide (i = j))
  | .non, .non => some true
  | x, y => fL O x y
def eqD : Op2 := fun O x y => match eqB O x y with
  | some b => .ok (.bl b)
  | none => .bad
def neD : Op2 := fun O x y => match eqB O x y with
  | some b => .ok (.bl (!b))
  | none => .bad
section
variable {X : Cx}
def GD (K : PySem.W.Frag) : R2 := fun x y H Q => rEq x y H Q ∨ FR K x y H Q
def Fv (K : PySem.W.Frag) : R2 := fun x y H Q => rNe x y H Q ∨ FT K x y H Q
theorem iX (hu : X.A.units + 64 < cLine) : OpR X (compareOp .Eq) (GD X.K) := Ho.or (Ga hu)
theorem pS (hu : X.A.units + 64 < cLine) : OpR X (compareOp .NotEq) (Fv X.K) := Hh.or (GU hu)
end
theorem uJ {σ : L2.St} {H F : Hp} {θ : List Addr} {s : S} {x y : D} {v w : V} {k : Bool} (b : BS C.K C.ca σ H F θ s) (rx : Rep C.K C.ca θ F x v) (ry : Rep C.K C.ca θ F y w) (e : fL s.o x y = some k) :
    ∃ d e, RdV C.K H d v ∧ RdV C.K H e w ∧ SeqAt.shaped d = true ∧ SeqAt.shaped e = true ∧ PyData.eqv d e = k := by
  unfold fL at e
  split at e
  · rename_i a c e1 e2
    split at e
    · rename_i hs
      cases e
      have rr : ∀ {d : D} {u : V}, Rep C.K C.ca θ F d u → Rep C.K C.ca θ H (res s.o (res s.o d)) u := fun h => t5 b.now b.now.fh (bx.refl _) (t5 b.now (bx.refl _) b.now.fh h)
      exact ⟨a, c, ui (rr rx) e1, ui (rr ry) e2, hs.1, hs.2, rfl⟩
    · cases e
  · cases e
theorem gw : iy C (GD C.K) eqD := by
  intro σ H F θ s x y v w Q b rx ry p
  unfold eqD at p
  split at p
  · rename_i k e
    have q := fun H' (h : H' = H) => h ▸ dy p b (v := .bl k) (cS.mpr rfl)
    have q := q H rfl
    unfold eqB at e
    split at e
    · rename_i i j
      cases e
      cases aY.mp rx; cases aY.mp ry
      exact .inl ⟨rfl, by rw [qb, Bool.beq_eq_decide_eq]; exact q⟩
    · cases e
      cases fX.mp rx; cases fX.mp ry
      exact .inl ⟨rfl, by rw [qI, Bool.beq_eq_decide_eq]; exact q⟩
    · cases e
      cases cS.mp rx; cases cS.mp ry
      exact .inl ⟨rfl, by rw [tf, Bool.beq_eq_decide_eq]; exact q⟩
    · cases e
      cases hV.mp rx; cases hV.mp ry
      exact .inl ⟨rfl, by simpa using q⟩
    · obtain ⟨d, e', h1, h2, h3, h4, h5⟩ := uJ b rx ry e
      exact .inr ⟨d, e', h1, h2, h3, h4, by rw [h5]; exact q⟩
  · exact False.elim p
theorem mE : iy C (Fv C.K) neD := by
  intro σ H F θ s x y v w Q b rx ry p
  unfold neD at p
  split at p
  · rename_i k e
    have q := dy p b (v := .bl (!k)) (cS.mpr rfl)
    unfold eqB at e
    split at e
    · rename_i i j
      cases e
      cases aY.mp rx; cases aY.mp ry
      exact .inl ⟨rfl, by rw [qb, Bool.beq_eq_decide_eq]; exact q⟩
    · cases e
      cases fX.mp rx; cases fX.mp ry
      exact .inl ⟨rfl, by rw [qI, Bool.beq_eq_decide_eq]; exact q⟩
    · cases e
      cases cS.mp rx; cases cS.mp ry
      exact .inl ⟨rfl, by rw [tf, Bool.beq_eq_decide_eq]; exact q⟩
    · cases e
      cases hV.mp rx; cases hV.mp ry
      exact .inl ⟨rfl, by simpa using q⟩
    · obtain ⟨d, e', h1, h2, h3, h4, h5⟩ := uJ b rx ry e
      exact .inr ⟨d, e', h1, h2, h3, h4, by rw [h5]; exact q⟩
  · exact False.elim p
def ixD : Op2 := fun O x y => match y with
  | .int i => match x with
    | .tup ds => match atI ds i with
      | some d => .ok d
      | none => .bad
    | .str z => if z.length ≤ 16777216 then (match atI z.cps.toList i with
      | some c => .ok (.str ⟨#[c]⟩)
      | none => .bad) else .bad
    | x => match lsD O x with
      | some ds => match atI ds i with
        | some d => .ok d
        | none => .bad
      | none => .bad
  | _ => .bad
theorem zk {K ca θ F} {ds : List D} {xs : List V} {i : Int} {d : D} (r : ay K ca θ F ds xs) (e : atI ds i = some d) : ∃ v, atI xs i = some v ∧ Rep K ca θ F d v := by
  unfold atI at e ⊢
  rw [r.length]
  cases q : ixN ds.length i with
  | none => rw [q] at e; cases e
  | some j =>
    rw [q] at e
    exact r.get e
theorem bP : iy C (rIx C.K) ixD := by
  intro σ H F θ s x y v w Q b rx ry p
  unfold ixD at p
  split at p
  · rename_i i
    split at p
    · rename_i ds
      obtain ⟨a, xs, rfl, hs, hr⟩ := sX b rx
      split at p
      · rename_i d e
        obtain ⟨u, e1, r1⟩ := zk hr e
        exact .inr (.inl ⟨a, xs, i, u, rfl, aY.mp ry, hs, e1, dy p b r1⟩)
      · exact False.elim p
    · rename_i z
      split at p
      · rename_i hz
        split at p
        · rename_i c e
          exact .inr (.inr ⟨z, i, c, fX.mp rx, aY.mp ry, hz, e, dy p b (fX.mpr rfl)⟩)
        · exact False.elim p
      · exact False.elim p
    · split at p
      · rename_i ds e0
        obtain ⟨a, xs, rfl, hs, hr⟩ := fE b rx e0
        split at p
        · rename_i d e
          obtain ⟨u, e1, r1⟩ := zk hr e
          exact .inl ⟨a, xs, i, u, rfl, aY.mp ry, hs, e1, dy p b r1⟩
        · exact False.elim p
      · exact False.elim p
  · exact False.elim p
abbrev OM := S → Res (Option Int × S)
def RdO (C : Ct) (t : TO) (m : OM) : Prop := ∀ σ H F θ s Q, BS C.K C.ca σ H F θ s → PoR C H F θ (m s) (fun y H1 F1 θ1 => BS C.K C.ca σ H1 F1 θ1 y.2 → Q y.1 H1) → t σ H Q
def gG : OM := fun s => .ok (none, s)
def part (m : EM) : OM := fun s => (m s).bind fun x => match x.1 with
  | .int i => .ok (some i, x.2)
  | _ => .bad
theorem kE : RdO C yU gG := fun σ H F θ s Q b p => p H F θ .refl b
theorem iV {t : TE} {m : EM} (h : RdE C t m) : RdO C (D1 t) (part m) := by
  intro σ H F θ s Q b p
  refine h σ H F θ s _ b (PoR.bind p ?_)
  rintro ⟨x, s1⟩ H1 F1 θ1 _ st1 p1 b1 v r1
  cases x <;> first | exact False.elim p1 | skip
  rename_i i _
  exact ⟨i, aY.mp r1, p1 _ _ _ .refl b1⟩
def cutD (ds : List D) (lo hi : Option Int) : List D := (ds.drop (HT.sIx ds.length 0 lo)).take (HT.sIx ds.length ds.length hi - HT.sIx ds.length 0 lo)
theorem E5 {K ca θ F} {ds : List D} {xs : List V} {lo hi : Option Int} (r : ay K ca θ F ds xs) : ay K ca θ F (cutD ds lo hi) (uj xs lo hi) := by
  unfold cutD uj
  rw [r.length]
  exact (r.drop _).take _
def slM (me : EM) (ml mh : OM) : EM := fun s => (me s).bind fun x => (ml x.2).bind fun l => (mh l.2).bind fun h => match lsD h.2.o x.1 with
  | some ds => .ok (.lst (cutD ds l.1 h.1), h.2)
  | none => .bad
theorem nH {te : TE} {tl th : TO} {me : EM} {ml mh : OM} (he : RdE C te me) (hl : RdO C tl ml) (hh : RdO C th mh) : RdE C (tSl (GI C.K) te tl th) (slM me ml mh) := by
  intro σ H F θ s Q b p
  refine he σ H F θ s _ b (PoR.bind p ?_)
  rintro ⟨x, s1⟩ H1 F1 θ1 _ st1 p1 b1 v r1
  refine hl σ H1 F1 θ1 s1 _ b1 (PoR.bind p1 ?_)
  rintro ⟨l, s2⟩ H2 F2 θ2 _ st2 p2 b2
  refine hh σ H2 F2 θ2 s2 _ b2 (PoR.bind p2 ?_)
  rintro ⟨h, s3⟩ H3 F3 θ3 _ st3 p3 b3
  dsimp only at p3 ⊢
  split at p3
  · rename_i ds e
    obtain ⟨a, xs, rfl, hs, hr⟩ := fE b3 ((r1.mono st2.ff st2.pre).mono st3.ff st3.pre) e
    exact ⟨a, xs, rfl, hs, tJ (ds := cutD ds l h) p3 b3 (E5 hr)⟩
  · exact False.elim p3
def cD : OpN := fun O xs => match xs with
  | [.str z] => if z.length ≤ 16777216 then .ok (.int z.length) else .bad
  | [.tup ds] => .ok (.int ds.length)
  | [x] => match lsD O x with
    | some ds => .ok (.int ds.length)
    | none => .bad
  | _ => .bad
theorem ku {K ca θ F} {x : D} {vs : List V} (h : ay K ca θ F [x] vs) : ∃ v, vs = [v] ∧ Rep K ca θ F x v := by
  unfold ay at h
  obtain ⟨v, r, rfl, h1, h2⟩ := h
  unfold ay at h2
  rw [h2]
  exact ⟨v, rfl, h1⟩
theorem DV {K ca θ F} {x y : D} {vs : List V} (h : ay K ca θ F [x, y] vs) : ∃ v w, vs = [v, w] ∧ Rep K ca θ F x v ∧ Rep K ca θ F y w := by
  unfold ay at h
  obtain ⟨v, r, rfl, h1, h2⟩ := h
  obtain ⟨w, rfl, h3⟩ := ku h2
  exact ⟨v, w, rfl, h1, h3⟩
theorem dR : jg C (fun xs H Q => ∃ x n, xs = [x] ∧ Gi C.K x H n ∧ Q (.int n) H) cD := by
  intro σ H F θ s xs vs Q b r p
  unfold cD at p
  split at p
  · rename_i z
    obtain ⟨v, rfl, r1⟩ := ku r
    cases fX.mp r1
    split at p
    · rename_i hz
      exact ⟨.str z, z.length, rfl, ⟨hz, rfl⟩, dy p b (aY.mpr rfl)⟩
    · exact False.elim p
  · rename_i ds
    obtain ⟨v, rfl, r1⟩ := ku r
    obtain ⟨a, xs, rfl, hs, hr⟩ := sX b r1
    exact ⟨.ref a, ds.length, rfl, .inr ⟨xs, hs, by rw [hr.length]⟩, dy p b (aY.mpr rfl)⟩
  · rename_i x _ _
    obtain ⟨v, rfl, r1⟩ := ku r
    split at p
    · rename_i ds e
      obtain ⟨a, xs, rfl, hs, hr⟩ := fE b r1 e
      exact ⟨.ref a, ds.length, rfl, .inl ⟨xs, hs, by rw [hr.length]⟩, dy p b (aY.mpr rfl)⟩
    · exact False.elim p
  · exact False.elim p
def eW : OpN := fun O xs => match xs with
  | [.tup ds] => .ok (.lst ds)
  | [x] => match lsD O x with
    | some ds => .ok (.lst ds)
    | none => .bad
  | _ => .bad
theorem jw : jg C (fun xs H Q => ∃ p ys, xs = [.ref p] ∧ (SqL C.K H p ys ∨ SqT C.K H p ys) ∧ ∀ l, H l = none → Q (.ref l) (upd H l (.lst ys))) eW := by
  intro σ H F θ s xs vs Q b r p
  unfold eW at p
  split at p
  · rename_i ds
    obtain ⟨v, rfl, r1⟩ := ku r
    obtain ⟨a, xs, rfl, hs, hr⟩ := sX b r1
    exact ⟨a, xs, rfl, .inr hs, tJ p b hr⟩
  · obtain ⟨v, rfl, r1⟩ := ku r
    split at p
    · rename_i ds e
      obtain ⟨a, xs, rfl, hs, hr⟩ := fE b r1 e
      exact ⟨a, xs, rfl, .inl hs, tJ p b hr⟩
    · exact False.elim p
  · exact False.elim p
def pL : OpN := fun _ xs => match xs with
  | [.int i] => .ok (.int (if i < 0 then -i else i))
  | _ => .bad
theorem xH : jg C (fun xs H Q => ∃ i, xs = [.int i] ∧ Q (.int (if i < 0 then -i else i)) H) pL := by
  intro σ H F θ s xs vs Q b r p
  unfold pL at p
  split at p
  · rename_i i
    exact ⟨i, kX r, dy p b (aY.mpr rfl)⟩
  · exact False.elim p
def intOf : OpN := fun _ xs => match xs with
  | [.int i] => .ok (.int i)
  | [.bl k] => .ok (.int (if k then 1 else 0))
  | _ => .bad
theorem Cv : jg C (fun xs H Q => (∃ i, xs = [.int i] ∧ Q (.int i) H) ∨ ∃ k, xs = [.bl k] ∧ Q (.int (if k then 1 else 0)) H) intOf := by
  intro σ H F θ s xs vs Q b r p
  unfold intOf at p
  split at p
  · rename_i i
    exact .inl ⟨i, kX r, dy p b (aY.mpr rfl)⟩
  · rename_i k
    obtain ⟨v, rfl, r1⟩ := ku r
    cases cS.mp r1
    exact .inr ⟨k, rfl, dy p b (aY.mpr rfl)⟩
  · exact False.elim p
def tyD (O : au) : D → Option String
  | .non => some "NoneType"
  | .bl _ => some "bool"
  | .int _ => some "int"
  | .str _ => some "str"
  | .lst _ => some "list"
  | .tup _ => some "tuple"
  | .ptr k => match O[k]? with
    | some (.lst _) => some "list"
    | _ => none
  | .obj _ _ _ => none
  | .exn _ => none
def eE (t c : String) : Bool := t == c || (t == "bool" && c == "int")
def gE (c : String) : Op1 := fun O x => match tyD O x with
  | some t => .ok (.bl (eE t c))
  | none => .bad
def nE (c : String) : Prop := ∀ K : PySem.W.Frag, ∀ t ∈ ["NoneType", "bool", "int", "str", "list", "tuple"], PySem.W.kitOne K (.type t) (.type c) = some (eE t c)
theorem ty_int : nE "int" := by
  intro K t ht
  simp only [List.mem_cons, List.mem_nil_iff, or_false] at ht
  rcases ht with rfl | rfl | rfl | rfl | rfl | rfl <;> rfl
theorem ty_bool : nE "bool" := by
  intro K t ht
  simp only [List.mem_cons, List.mem_nil_iff, or_false] at ht
  rcases ht with rfl | rfl | rfl | rfl | rfl | rfl <;> rfl
theorem ty_list : nE "list" := by
  intro K t ht
  simp only [List.mem_cons, List.mem_nil_iff, or_false] at ht
  rcases ht with rfl | rfl | rfl | rfl | rfl | rfl <;> rfl
theorem ty_tuple : nE "tuple" := by
  intro K t ht
  simp only [List.mem_cons, List.mem_nil_iff, or_false] at ht
  rcases ht with rfl | rfl | rfl | rfl | rfl | rfl <;> rfl
theorem kM {c : String} {te : TE} {m : EM} (hc : nE c) (h : RdE C te m) : RdE C (tCB (Dz C.K) (mI te (mI (tC (.ty c)) sj))) (unM (gE c) m) := by
  intro σ H F θ s Q b p
  refine h σ H F θ s _ b (PoR.bind p ?_)
  rintro ⟨x, s1⟩ H1 F1 θ1 _ st1 p1 b1 v r1
  dsimp only at p1 b1 r1
  show Dz C.K [v, .ty c] H1 Q
  unfold gE at p1
  split at p1
  · rename_i t e
    have q := dy p1 b1 (v := .bl (eE t c)) (cS.mpr rfl)
    refine ⟨v, c, t, eE t c, rfl, ?_, ?_, q⟩
    · cases x <;> first | (unfold tyD at e; cases e; done) | skip
      · unfold tyD at e; cases e; rw [hV.mp r1]; rfl
      · unfold tyD at e; cases e; rw [cS.mp r1]; rfl
      · unfold tyD at e; cases e; rw [aY.mp r1]; rfl
      · unfold tyD at e; cases e; rw [fX.mp r1]; rfl
      · unfold tyD at e; cases e
        unfold Rep at r1
        obtain ⟨a, xs, rfl, hs, hr⟩ := r1
        exact .inl ⟨rfl, xs, b1.now.fh.seq hs⟩
      · unfold tyD at e; cases e
        unfold Rep at r1
        obtain ⟨a, xs, rfl, hs, hr⟩ := r1
        exact .inr ⟨rfl, xs, bx.seqT b1.now.fh hs⟩
      · rename_i k _
        unfold tyD at e
        dsimp only at e
        split at e
        · rename_i ds ek
          cases e
          obtain ⟨a, xs, rfl, hs, hr⟩ := fE b1 r1 (ds := ds) (by unfold lsD; simp only [ek])
          exact .inl ⟨rfl, xs, hs⟩
        · cases e
    · refine hc C.K t ?_
      cases x <;> unfold tyD at e <;> dsimp only at e <;> first | (cases e; simp; done) | (cases e; done) | skip
      split at e
      · cases e; simp
      · cases e
  · exact False.elim p1
theorem wj {α : Type} {l : List α} (h : l.Nodup) {i j : Nat} {x : α} (a : l[i]? = some x) (b : l[j]? = some x) : i = j := by
  obtain ⟨h1, e1⟩ := List.getElem?_eq_some_iff.mp a
  obtain ⟨h2, e2⟩ := List.getElem?_eq_some_iff.mp b
  exact (List.getElem_inj h).mp (e1.trans e2.symm)
theorem BS.setC {K : PySem.W.Frag} {ca : Nat → Addr} {σ : L2.St} {H F : Hp} {θ : List Addr} {s : S} (b : BS K ca σ H F θ s) {k : Nat} {a : Addr} {c : Cell} (hk : θ[k]? = some a) (hc : s.o[k]? = some c) (hF : F a = none) {ds : List D} {xs : List V} (hr : ay K ca θ F ds xs) :
    Stp H F θ (upd H a (.lst xs)) F θ ∧ BS K ca σ (upd H a (.lst xs)) F θ ⟨s.r, s.o.set k (.lst ds)⟩ := by
  have hm : a ∈ θ := List.mem_of_getElem? hk
  refine ⟨⟨bx.refl _, ⟨[], by simp, by simp⟩, fun e o he hb => ?_, fun e o he => ?_, fun e o he => .inl he⟩, ⟨⟨fun e o he => ?_, b.now.nd, by simpa using b.now.ln, fun j a' c' e1 e2 => ?_⟩, b.len, b.sl⟩⟩
  · have ne : e ≠ a := fun z => hb (by rw [z]; exact hm)
    rw [aR ne]; exact he
  · by_cases z : e = a
    · subst z; exact ⟨_, cL⟩
    · exact ⟨o, by rw [aR z]; exact he⟩
  · have ne : e ≠ a := fun z => by rw [z, hF] at he; cases he
    rw [aR ne]
    exact b.now.fh _ _ he
  · by_cases hj : k = j
    · subst hj
      rw [hk] at e1; cases e1
      have : k < s.o.length := (List.getElem?_eq_some_iff.mp hc).1
      rw [List.getElem?_set_self this] at e2
      cases e2
      exact ⟨hF, xs, cL, hr⟩
    · rw [List.getElem?_set_ne hj] at e2
      have q := b.now.ce j a' c' e1 e2
      have ne : a' ≠ a := fun z => by
        subst z
        exact hj (wj b.now.nd hk e1)
      cases c' with
      | dead => obtain ⟨o, ho⟩ := q; exact ⟨o, by rw [aR ne]; exact ho⟩
      | lst ds => obtain ⟨q1, ys, q2, q3⟩ := q; exact ⟨q1, ys, by rw [aR ne]; exact q2, q3⟩
      | ins c ns ds => obtain ⟨q1, dx, ys, q2, q3⟩ := q; exact ⟨q1, dx, ys, by rw [aR ne]; exact q2, q3⟩
theorem nv {σ : L2.St} {H F : Hp} {θ : List Addr} {s : S} {k : Nat} {ds : List D} {v : V} (b : BS C.K C.ca σ H F θ s) (r : Rep C.K C.ca θ F (.ptr k) v) (e : s.o[k]? = some (.lst ds)) :
    ∃ a xs, v = .ref a ∧ θ[k]? = some a ∧ F a = none ∧ H a = some (.lst xs) ∧ ay C.K C.ca θ F ds xs := by
  unfold Rep at r
  obtain ⟨a, rfl, hk⟩ := r
  obtain ⟨h0, xs, h1, h2⟩ : jV C.K C.ca H F θ a (.lst ds) := b.now.ce k a _ hk e
  exact ⟨a, xs, rfl, hk, h0, h1, h2⟩
def j9 (O : au) : D → Option (Nat × List D)
  | .ptr k => match O[k]? with
    | some (.lst ds) => some (k, ds)
    | _ => none
  | _ => none
theorem pz {O : au} {d : D} {k : Nat} {ds : List D} (h : j9 O d = some (k, ds)) : d = .ptr k ∧ O[k]? = some (.lst ds) := by
  cases d <;> first | (simp [j9] at h; done) | skip
  rename_i j
  unfold j9 at h
  dsimp only at h
  split at h
  · rename_i es e
    cases h
    exact ⟨rfl, e⟩
  · cases h
def kN (mo me : EM) : EM := fun s => (mo s).bind fun x => match j9 x.2.o x.1 with
  | some _ => (me x.2).bind fun y => match j9 y.2.o x.1 with
    | some (k, ds) => if ds.length < 16777216 then .ok (.non, ⟨y.2.r, y.2.o.set k (.lst (ds ++ [y.1]))⟩) else .bad
    | none => .bad
  | none => .bad
theorem mC {to te : TE} {mo me : EM} (ho : RdE C to mo) (he : RdE C te me) : RdE C (tBM C.K "list" zi to (mI te sj)) (kN mo me) := by
  intro σ H F θ s Q b p
  refine ho σ H F θ s _ b (PoR.bind p ?_)
  rintro ⟨x, s1⟩ H1 F1 θ1 _ st1 p1 b1 v r1
  dsimp only at p1 b1 r1
  split at p1
  · rename_i kd e
    obtain ⟨rfl, e'⟩ := pz (k := kd.1) (ds := kd.2) e
    obtain ⟨a, xs, rfl, hk, _, h1, _⟩ := nv b1 r1 e'
    refine ⟨.inl ⟨rfl, xs, SqL.of h1⟩, he σ H1 F1 θ1 s1 _ b1 (PoR.bind p1 ?_)⟩
    rintro ⟨y, s2⟩ H2 F2 θ2 _ st2 p2 b2 w r2
    dsimp only at p2 b2 r2
    split at p2
    · rename_i k ds e2
      obtain ⟨ek, e2⟩ := pz e2
      cases ek
      obtain ⟨a', ys, ea, hk2, hF, h2, hr⟩ := nv b2 (r1.mono st2.ff st2.pre) e2
      cases ea
      split at p2
      · rename_i hl
        obtain ⟨st3, b3⟩ := b2.setC hk2 e2 hF (hr.append (ay.one r2))
        exact ⟨a, ys, w, rfl, rfl, h2, by rw [hr.length]; exact hl, p2 _ _ _ st3 b3 _ (hV.mpr rfl)⟩
      · exact False.elim p2
    · exact False.elim p2
  · exact False.elim p1
def qB (f : List D → Option (List D × D)) (mo : EM) : EM := fun s => (mo s).bind fun x => match j9 x.2.o x.1 with
  | some (k, ds) => match f ds with
    | some (es, r) => .ok (r, ⟨x.2.r, x.2.o.set k (.lst es)⟩)
    | none => .bad
  | none => .bad
theorem EV {f : List D → Option (List D × D)} {r : V → List V → Hp → VK → Prop} {to : TE} {mo : EM} (ho : RdE C to mo)
    (hr : ∀ K ca θ F ds xs es d, ay K ca θ F ds xs → f ds = some (es, d) → ∃ ys v, ay K ca θ F es ys ∧ Rep K ca θ F d v ∧ ∀ a (H : Hp) (Q : VK), H a = some (.lst xs) → Q v (upd H a (.lst ys)) → r (.ref a) [] H Q) :
    RdE C (DJ C.K "list" r to) (qB f mo) := by
  intro σ H F θ s Q b p
  refine ho σ H F θ s _ b (PoR.bind p ?_)
  rintro ⟨x, s1⟩ H1 F1 θ1 _ st1 p1 b1 v r1
  dsimp only at p1 b1 r1
  split at p1
  · rename_i k ds e
    obtain ⟨rfl, e'⟩ := pz e
    obtain ⟨a, xs, rfl, hk, hF, h1, h2⟩ := nv b1 r1 e'
    split at p1
    · rename_i es d ef
      obtain ⟨ys, u, q1, q2, q3⟩ := hr _ _ _ _ _ _ _ _ h2 ef
      obtain ⟨st3, b3⟩ := b1.setC hk e' hF q1
      exact ⟨.inl ⟨rfl, xs, SqL.of h1⟩, q3 a H1 Q h1 (p1 _ _ _ st3 b3 _ q2)⟩
    · exact False.elim p1
  · exact False.elim p1
def Cn : List D → Option (List D × D) := fun _ => some ([], .non)
theorem C4 {to : TE} {mo : EM} (ho : RdE C to mo) : RdE C (DJ C.K "list" A1 to) (qB Cn mo) := EV ho fun K ca θ F ds xs es d r e => by
  cases e
  exact ⟨[], .non, ay.nil, hV.mpr rfl, fun a H Q h q => ⟨a, xs, rfl, rfl, h, q⟩⟩
def mf (mo mi : EM) : GM := fun d s => (mo s).bind fun x => (mi x.2).bind fun y => match y.1 with
  | .int i => match j9 y.2.o x.1 with
    | some (k, ds) => match ixN ds.length i with
      | some j => .ok ⟨y.2.r, y.2.o.set k (.lst (ds.set j d))⟩
      | none => .bad
    | none => .bad
  | _ => .bad
theorem tm {to ti : TE} {mo mi : EM} (ho : RdE C to mo) (hi : RdE C ti mi) : RdG C (GB to ti D4) (mf mo mi) := by
  intro σ H F θ s d v Q b rd p
  refine ho σ H F θ s _ b (PoR.bind p ?_)
  rintro ⟨x, s1⟩ H1 F1 θ1 _ st1 p1 b1 ov r1
  refine hi σ H1 F1 θ1 s1 _ b1 (PoR.bind p1 ?_)
  rintro ⟨y, s2⟩ H2 F2 θ2 _ st2 p2 b2 iv r2
  dsimp only at p2 b2 r2
  split at p2
  · rename_i i _
    split at p2
    · rename_i k ds e
      obtain ⟨ek, e'⟩ := pz e
      subst ek
      obtain ⟨a, xs, rfl, hk, hF, h1, h2⟩ := nv b2 (r1.mono st2.ff st2.pre) e'
      split at p2
      · rename_i j ej
        obtain ⟨st3, b3⟩ := b2.setC hk e' hF (ay.set ((rd.mono st1.ff st1.pre).mono st2.ff st2.pre) j h2)
        exact ⟨a, xs, i, j, rfl, aY.mp r2, h1, by rw [h2.length]; exact ej, p2 _ _ _ st3 _ b3⟩
      · exact False.elim p2
    · exact False.elim p2
  · exact False.elim p2
theorem BS.frz {K : PySem.W.Frag} {ca : Nat → Addr} {σ : L2.St} {H F : Hp} {θ : List Addr} {s : S} (b : BS K ca σ H F θ s) {k : Nat} {a : Addr} {ds : List D} {xs : List V} (hk : θ[k]? = some a) (hc : s.o[k]? = some (.lst ds)) (hF : F a = none) (hH : H a = some (.lst xs)) (hr : ay K ca θ F ds xs) :
    Stp H F θ H (upd F a (.lst xs)) θ ∧ BS K ca σ H (upd F a (.lst xs)) θ ⟨s.r, s.o.set k .dead⟩ ∧ Rep K ca θ (upd F a (.lst xs)) (.lst ds) (.ref a) := by
  have hm : a ∈ θ := List.mem_of_getElem? hk
  have sF : bx F (upd F a (.lst xs)) := fun e o he => by
    rw [aR (fun z => by rw [z, hF] at he; cases he)]; exact he
  refine ⟨⟨sF, ⟨[], by simp, by simp⟩, fun e o he _ => he, fun e o he => ⟨o, he⟩, fun e o he => ?_⟩, ⟨⟨fun e o he => ?_, b.now.nd, by simpa using b.now.ln, fun j a' c' e1 e2 => ?_⟩, b.len, fun i d e => ?_⟩, ?_⟩
  · by_cases z : e = a
    · exact .inr (.inr (by rw [z]; exact hm))
    · rw [aR z] at he; exact .inl he
  · by_cases z : e = a
    · subst z; rw [cL] at he; rw [hH]; exact he
    · rw [aR z] at he; exact b.now.fh _ _ he
  · by_cases hj : k = j
    · subst hj
      rw [hk] at e1; cases e1
      have : k < s.o.length := (List.getElem?_eq_some_iff.mp hc).1
      rw [List.getElem?_set_self this] at e2
      cases e2
      exact ⟨_, hH⟩
    · rw [List.getElem?_set_ne hj] at e2
      have q := b.now.ce j a' c' e1 e2
      have ne : a' ≠ a := fun z => by
        subst z
        exact hj (wj b.now.nd hk e1)
      cases c' with
      | dead => exact q
      | lst ds => obtain ⟨q1, ys, q2, q3⟩ := q; exact ⟨by rw [aR ne]; exact q1, ys, q2, q3.mono sF ⟨[], by simp⟩⟩
      | ins c ns ds => obtain ⟨q1, dx, ys, q2, q3, q4⟩ := q; exact ⟨by rw [aR ne]; exact q1, dx, ys, q2, q3, q4.mono sF ⟨[], by simp⟩⟩
  · obtain ⟨v, h1, h2⟩ := b.sl i d e
    exact ⟨v, h1, h2.mono sF ⟨[], by simp⟩⟩
  · unfold Rep
    exact ⟨a, xs, rfl, SqL.of cL, hr.mono sF ⟨[], by simp⟩⟩
def gH (m : EM) : EM := fun s => (m s).bind fun x => match j9 x.2.o x.1 with
  | some (k, ds) => .ok (.lst ds, ⟨x.2.r, x.2.o.set k .dead⟩)
  | none => .bad
theorem i6 {t : TE} {m : EM} (h : RdE C t m) : RdE C t (gH m) := by
  intro σ H F θ s Q b p
  refine h σ H F θ s _ b (PoR.bind p ?_)
  rintro ⟨x, s1⟩ H1 F1 θ1 _ st1 p1 b1 v r1
  dsimp only at p1 b1 r1
  split at p1
  · rename_i k ds e
    obtain ⟨rfl, e'⟩ := pz e
    obtain ⟨a, xs, rfl, hk, hF, h1, h2⟩ := nv b1 r1 e'
    obtain ⟨st2, b2, r2⟩ := b1.frz hk e' hF h1 h2
    exact p1 _ _ _ st2 b2 _ r2
  · exact False.elim p1
def j1 (m : Nat) (caps : List Nat) (r : List (Option D)) : List (Option D) := List.replicate m none ++ caps.map fun i => (r[i]?).getD none
theorem AF {K : PySem.W.Frag} {ca : Nat → Addr} {σ : L2.St} {H F : Hp} {θ : List Addr} {s : S} (b : BS K ca σ H F θ s) (m : Nat) (caps : List Nat) : BS K ca (lE m caps σ) H F θ ⟨j1 m caps s.r, s.o⟩ := by
  refine ⟨b.now, by unfold lE j1; simp, fun i d e => ?_⟩
  unfold j1 at e
  dsimp only at e
  by_cases hi : i < m
  · rw [List.getElem?_append_left (by simpa using hi), List.getElem?_replicate] at e
    split at e <;> cases e
  · rw [List.getElem?_append_right (by simpa using hi)] at e
    simp only [List.length_replicate, List.getElem?_map] at e
    cases q : caps[i - m]? with
    | none => rw [q] at e; cases e
    | some j =>
      rw [q] at e
      simp only [Option.map_some, Option.some.injEq] at e
      have e' : s.r[j]? = some (some d) := by
        cases z : s.r[j]? with
        | none => rw [z] at e; simp at e
        | some od => rw [z] at e; simp at e; rw [e]
      obtain ⟨v, h1, h2⟩ := b.sl j d e'
      refine ⟨v, ?_, h2⟩
      unfold lE
      rw [List.getElem?_append_right (by simpa using hi)]
      simp only [List.length_replicate, List.getElem?_map, q, Option.map_some, h1, Option.getD_some]
def bT : TM := fun s => .ok (true, s)
theorem cA : RdT C DR bT := fun σ H F θ s Q b p => p H F θ .refl b
open Classical in
noncomputable def cT (ok : au → Prop) (g : GM) (c : TM) (e : EM) : List D → List D → S → Res (List D × S)
  | [], acc, s => if ok s.o then .ok (acc, s) else .bad
  | d :: ds, acc, s => if ok s.o ∧ acc.length < 16777216 then (g d s).bind fun s1 => (c s1).bind fun x => if x.1 then (e x.2).bind fun y => cT ok g c e ds (acc ++ [y.1]) y.2 else cT ok g c e ds acc x.2 else .bad
noncomputable def kr (m : Nat) (caps : List Nat) (im : IM) (g : GM) (c : TM) (e : EM) : S → Res (List D × S) := fun s => (im s).bind fun y =>
  (cT (okC y.1.1 y.1.2) g c e y.1.1 [] ⟨j1 m caps y.2.r, y.2.o⟩).bind fun z => .ok (z.1, ⟨y.2.r, z.2.o⟩)
theorem wu {m : Nat} {caps : List Nat} {wi : TI} {g : TG} {tc : TT} {te : TE} {im : IM} {gm : GM} {c : TM} {e : EM} (hi : RdI C wi im) (hg : RdG C g gm) (hc : RdT C tc c) (he : RdE C te e)
    {σ : L2.St} {H F : Hp} {θ : List Addr} {s : S} {Q : VK} (b : BS C.K C.ca σ H F θ s)
    (p : PoR C H F θ (kr m caps im gm c e s) fun y H1 F1 θ1 => BS C.K C.ca σ H1 F1 θ1 y.2 → ∀ q xs, H q = none → H1 q = some (.lst xs) → F1 q = none → q ∉ θ1 → ay C.K C.ca θ1 F1 y.1 xs → Q (.ref q) H1) : oi m caps wi g tc te σ H Q := by
  refine hi σ H F θ s _ b (PoR.bind p ?_)
  rintro ⟨⟨ds, k⟩, s1⟩ H1 F1 θ1 _ st1 p1 b1 J it q hq
  dsimp only at p1 b1 it
  have st2 : Stp H1 F1 θ1 (upd H1 q (.lst [])) F1 θ1 := by
    have nm : ∀ a u, H1 a = some u → a ≠ q := fun a u e z => by rw [z, hq] at e; cases e
    exact ⟨bx.refl _, ⟨[], by simp, by simp⟩, fun a u h _ => by rw [aR (nm a u h)]; exact h, fun a u h => ⟨u, by rw [aR (nm a u h)]; exact h⟩, fun a u h => .inl h⟩
  have qθ : q ∉ θ1 := fun h => by obtain ⟨u, hu⟩ := b1.now.there h; rw [hq] at hu; cases hu
  have qF : F1 q = none := by
    cases e : F1 q with
    | none => rfl
    | some u => rw [b1.now.fh q u e] at hq; cases hq
  have hqH : H q = none := by
    cases e : H q with
    | none => rfl
    | some u => obtain ⟨u', e'⟩ := st1.al q u e; rw [hq] at e'; cases e'
  have keep : ∀ {H2 F2 H3 F3 : Hp} {θ2 θ3 : List Addr} {o : HO}, Stp H2 F2 θ2 H3 F3 θ3 → H2 q = some o → F2 q = none → q ∉ θ2 → H3 q = some o ∧ F3 q = none ∧ q ∉ θ3 := fun {H2 F2 H3 F3 θ2 θ3 o} st h1 h2 h3 => by
    refine ⟨st.kp q o h1 h3, ?_, ?_⟩
    · cases e : F3 q with
      | none => rfl
      | some u =>
        rcases st.nf q u e with z | z | z
        · rw [h2] at z; cases z
        · rw [h1] at z; cases z
        · exact absurd z h3
    · obtain ⟨r, rfl, hr⟩ := st.th
      intro hm
      rcases List.mem_append.mp hm with z | z
      · exact h3 z
      · rw [hr q z] at h1; cases h1
  have bs2 : ∀ {σ' : L2.St} {H2 F2 : Hp} {θ2 : List Addr} {s2 : S} (o : HO), BS C.K C.ca σ' H2 F2 θ2 s2 → F2 q = none → q ∉ θ2 → BS C.K C.ca σ' (upd H2 q o) F2 θ2 s2 := fun {σ' H2 F2 θ2 s2} o b h1 h2 => by
    have ne : ∀ a, a ∈ θ2 → a ≠ q := fun a h z => h2 (z ▸ h)
    refine ⟨⟨fun a u h => ?_, b.now.nd, b.now.ln, fun j a c e1 e2 => ?_⟩, b.len, b.sl⟩
    · have : a ≠ q := fun z => by rw [z, h1] at h; cases h
      rw [aR this]; exact b.now.fh a u h
    · have hm := ne a (List.mem_of_getElem? e1)
      have w := b.now.ce j a c e1 e2
      cases c with
      | dead => obtain ⟨u, hu⟩ := w; exact ⟨u, by rw [aR hm]; exact hu⟩
      | lst ds => obtain ⟨q1, ys, q2, q3⟩ := w; exact ⟨q1, ys, by rw [aR hm]; exact q2, q3⟩
      | ins c ns ds => obtain ⟨q1, dx, ys, q2, q3, q4⟩ := w; exact ⟨q1, dx, ys, by rw [aR hm]; exact q2, q3, q4⟩
  have stq : ∀ {H2 F2 : Hp} {θ2 : List Addr} (o : HO), Stp H1 F1 θ1 H2 F2 θ2 → Stp H1 F1 θ1 (upd H2 q o) F2 θ2 := fun {H2 F2 θ2} o st => by
    have nm : ∀ a u, H1 a = some u → a ≠ q := fun a u e z => by rw [z, hq] at e; cases e
    exact ⟨st.ff, st.th, fun a u h1 h2 => by rw [aR (nm a u h1)]; exact st.kp a u h1 h2, fun a u h1 => by rw [aR (nm a u h1)]; exact st.al a u h1, st.nf⟩
  refine ⟨fun i n acc σ' H' => n = ds.length - i ∧ i ≤ ds.length ∧ ∃ F' θ' s' as, Stp H1 F1 θ1 H' F' θ' ∧ H' q = some (.lst acc) ∧ F' q = none ∧ q ∉ θ' ∧ BS C.K C.ca σ' H' F' θ' s' ∧ ay C.K C.ca θ' F' as acc ∧
      PoR C H1 F1 θ1 ((cT (okC ds k) gm c e (ds.drop i) as s').bind fun z => .ok (z.1, (⟨s1.r, z.2.o⟩ : S))) (fun y H1 F1 θ1 => BS C.K C.ca σ H1 F1 θ1 y.2 → ∀ q xs, H q = none → H1 q = some (.lst xs) → F1 q = none → q ∉ θ1 → ay C.K C.ca θ1 F1 y.1 xs → Q (.ref q) H1),
    ⟨ds.length, by simp, Nat.zero_le _, F1, θ1, ⟨j1 m caps s1.r, s1.o⟩, [], st2, cL, qF, qθ, bs2 _ (AF b1 m caps) qF qθ, ay.nil, by simpa using p1⟩, ?_⟩
  rintro i n acc σ' H' ⟨rfl, hil, F', θ', s', as, st, hq', qF', qθ', bs, hacc, po⟩
  by_cases lt : i < ds.length
  · right
    rw [List.drop_eq_getElem_cons lt, cT] at po
    split at po
    · rename_i hok
      refine ⟨it.go i H' F' θ' s'.o lt st bs.now hok.1, ?_⟩
      intro x H3 hy
      obtain ⟨F3, st3, b3, rp⟩ := it.yl i ds[i] σ' H' F' θ' s' x H3 (List.getElem?_eq_getElem lt) st bs hok.1 hy
      obtain ⟨k1, k2, k3⟩ := keep st3 hq' qF' qθ'
      have st13 := st.trans st3
      have po3 := PoR.after st13 po
      have w1 : PoG C H3 F3 θ' (gm ds[i] s') (fun σ4 H4 => tc σ4 H4 fun b H4 => if b = true then
          te σ4 H4 fun y H5 => H5 q = some (.lst acc) ∧ acc.length < sizeLine ∧ ∃ k', k' < ds.length - i ∧ (k' = ds.length - (i + 1) ∧ i + 1 ≤ ds.length ∧ ∃ F' θ' s' as, Stp H1 F1 θ1 (upd H5 q (.lst (acc ++ [y]))) F' θ' ∧ (upd H5 q (.lst (acc ++ [y]))) q = some (.lst (acc ++ [y])) ∧ F' q = none ∧ q ∉ θ' ∧ BS C.K C.ca σ4 (upd H5 q (.lst (acc ++ [y]))) F' θ' s' ∧ ay C.K C.ca θ' F' as (acc ++ [y]) ∧
            PoR C H1 F1 θ1 ((cT (okC ds k) gm c e (ds.drop (i + 1)) as s').bind fun z => .ok (z.1, (⟨s1.r, z.2.o⟩ : S))) (fun y H1 F1 θ1 => BS C.K C.ca σ H1 F1 θ1 y.2 → ∀ q xs, H q = none → H1 q = some (.lst xs) → F1 q = none → q ∉ θ1 → ay C.K C.ca θ1 F1 y.1 xs → Q (.ref q) H1))
          else ∃ k', k' < ds.length - i ∧ (k' = ds.length - (i + 1) ∧ i + 1 ≤ ds.length ∧ ∃ F' θ' s' as, Stp H1 F1 θ1 H4 F' θ' ∧ H4 q = some (.lst acc) ∧ F' q = none ∧ q ∉ θ' ∧ BS C.K C.ca σ4 H4 F' θ' s' ∧ ay C.K C.ca θ' F' as acc ∧
            PoR C H1 F1 θ1 ((cT (okC ds k) gm c e (ds.drop (i + 1)) as s').bind fun z => .ok (z.1, (⟨s1.r, z.2.o⟩ : S))) (fun y H1 F1 θ1 => BS C.K C.ca σ H1 F1 θ1 y.2 → ∀ q xs, H q = none → H1 q = some (.lst xs) → F1 q = none → q ∉ θ1 → ay C.K C.ca θ1 F1 y.1 xs → Q (.ref q) H1))) := by
        cases e1 : gm ds[i] s' with
        | bad => rw [e1] at po3; exact po3
        | exc a1 a2 a3 => rw [e1] at po3; exact po3
        | ok s4 =>
          rw [e1] at po
          intro H4 F4 θ4 st4 σ4 b4
          obtain ⟨l1, l2, l3⟩ := keep st4 k1 k2 k3
          refine hc σ4 H4 F4 θ4 s4 _ b4 ?_
          cases e2 : c s4 with
          | bad => rw [ak, e2] at po; exact po
          | exc a1 a2 a3 => rw [ak, e2] at po; exact PoR.after (st13.trans st4) po
          | ok x5 =>
            obtain ⟨kk, s5⟩ := x5
            rw [ak, e2, ak] at po
            intro H5 F5 θ5 st5 b5
            obtain ⟨m1, m2, m3⟩ := keep st5 l1 l2 l3
            have hacc5 := ((hacc.mono st3.ff st3.pre).mono st4.ff st4.pre).mono st5.ff st5.pre
            cases kk with
            | false =>
              exact rn ⟨ds.length - (i + 1), by omega, rfl, by omega, F5, θ5, s5, as, st13.trans (st4.trans st5), m1, m2, m3, b5, hacc5, by simpa using po⟩
            | true =>
              refine rj (he σ4 H5 F5 θ5 s5 _ b5 ?_)
              dsimp only [if_true] at po
              cases e3 : e s5 with
              | bad => rw [e3] at po; exact po
              | exc a1 a2 a3 => rw [e3] at po; exact PoR.after (st13.trans (st4.trans st5)) po
              | ok x6 =>
                obtain ⟨y, s6⟩ := x6
                rw [e3, ak] at po
                intro H6 F6 θ6 st6 b6 w r6
                obtain ⟨n1, n2, n3⟩ := keep st6 m1 m2 m3
                exact ⟨n1, by rw [hacc.length]; exact hok.2, ds.length - (i + 1), by omega, rfl, by omega, F6, θ6, s6, as ++ [y], stq _ (st13.trans (st4.trans (st5.trans st6))), cL, n2, n3, bs2 _ b6 n2 n3, (hacc5.mono st6.ff st6.pre).append (ay.one r6), po⟩
      exact hg σ' H3 F3 θ' s' ds[i] x _ b3 rp w1
    · exact False.elim po
  · left
    rw [List.drop_eq_nil_of_le (by omega), cT] at po
    split at po
    · rename_i hok
      refine ⟨it.st i H' F' θ' s'.o (by omega) st bs.now hok, hq', ?_⟩
      refine po H' F' θ' st ⟨bs.now, b1.len, fun j d e => ?_⟩ q acc hqH hq' qF' qθ' hacc
      obtain ⟨v, h1, h2⟩ := b1.sl j d e
      exact ⟨v, h1, h2.mono st.ff st.pre⟩
    · exact False.elim po
noncomputable def cf (m : Nat) (caps : List Nat) (im : IM) (g : GM) (c : TM) (e : EM) : EM := fun s => (kr m caps im g c e s).bind fun y => .ok (.lst y.1, y.2)
theorem cB {m : Nat} {caps : List Nat} {wi : TI} {g : TG} {tc : TT} {te : TE} {im : IM} {gm : GM} {c : TM} {e : EM} (hi : RdI C wi im) (hg : RdG C g gm) (hc : RdT C tc c) (he : RdE C te e) : RdE C (oi m caps wi g tc te) (cf m caps im gm c e) := by
  intro σ H F θ s Q b p
  refine wu hi hg hc he b ?_
  unfold cf at p
  cases e1 : kr m caps im gm c e s with
  | bad => rw [e1] at p; exact p
  | exc a1 a2 a3 => rw [e1] at p; exact p
  | ok y =>
    rw [e1, ak] at p
    intro H1 F1 θ1 st1 b1 q xs h0 h1 h2 h3 hr
    have sF : bx F1 (upd F1 q (.lst xs)) := fun a u h => by
      rw [aR (fun z => by rw [z, h2] at h; cases h)]; exact h
    refine p H1 (upd F1 q (.lst xs)) θ1 ⟨st1.ff.trans sF, st1.th, st1.kp, st1.al, fun a u h => ?_⟩ ⟨⟨fun a u h => ?_, b1.now.nd, b1.now.ln, fun j a c e2 e3 => ?_⟩, b1.len, fun i d e2 => ?_⟩ (.ref q) ?_
    · by_cases z : a = q
      · subst z; exact .inr (.inl h0)
      · rw [aR z] at h; exact st1.nf a u h
    · by_cases z : a = q
      · subst z; rw [cL] at h; rw [h1]; exact h
      · rw [aR z] at h; exact b1.now.fh a u h
    · have ne : a ≠ q := fun z => h3 (z ▸ List.mem_of_getElem? e2)
      have w := b1.now.ce j a c e2 e3
      cases c with
      | dead => exact w
      | lst ds => obtain ⟨q1, ys, q2, q3⟩ := w; exact ⟨by rw [aR ne]; exact q1, ys, q2, q3.mono sF ⟨[], by simp⟩⟩
      | ins c ns ds => obtain ⟨q1, dx, ys, q2, q3, q4⟩ := w; exact ⟨by rw [aR ne]; exact q1, dx, ys, q2, q3, q4.mono sF ⟨[], by simp⟩⟩
    · obtain ⟨v, w1, w2⟩ := b1.sl i d e2
      exact ⟨v, w1, w2.mono sF ⟨[], by simp⟩⟩
    · unfold Rep
      exact ⟨q, xs, rfl, SqL.of cL, hr.mono sF ⟨[], by simp⟩⟩
noncomputable def jO (m : Nat) (caps : List Nat) (im : IM) (g : GM) (c : TM) (e : EM) : EM := fun s => (kr m caps im g c e s).bind fun y => .ok (.ptr y.2.o.length, ⟨y.2.r, y.2.o ++ [.lst y.1]⟩)
theorem n9 {m : Nat} {caps : List Nat} {wi : TI} {g : TG} {tc : TT} {te : TE} {im : IM} {gm : GM} {c : TM} {e : EM} (hi : RdI C wi im) (hg : RdG C g gm) (hc : RdT C tc c) (he : RdE C te e) : RdE C (oi m caps wi g tc te) (jO m caps im gm c e) := by
  intro σ H F θ s Q b p
  refine wu hi hg hc he b ?_
  unfold jO at p
  cases e1 : kr m caps im gm c e s with
  | bad => rw [e1] at p; exact p
  | exc a1 a2 a3 => rw [e1] at p; exact p
  | ok y =>
    rw [e1, ak] at p
    intro H1 F1 θ1 st1 b1 q xs h0 h1 h2 h3 hr
    obtain ⟨r, er, hr0⟩ := st1.th
    refine p H1 F1 (θ1 ++ [q]) ⟨st1.ff, ⟨r ++ [q], by rw [er, List.append_assoc], fun a ha => ?_⟩, st1.kp, st1.al, st1.nf⟩ ⟨⟨b1.now.fh, ?_, by simp [b1.now.ln], fun k a c e2 e3 => ?_⟩, b1.len, fun i d e2 => ?_⟩ (.ref q) ?_
    · rcases List.mem_append.mp ha with z | z
      · exact hr0 a z
      · rw [List.mem_singleton.mp z]; exact h0
    · refine List.nodup_append.mpr ⟨b1.now.nd, by simp, fun a ha x hx => ?_⟩
      rw [List.mem_singleton.mp hx]
      rintro rfl
      exact h3 ha
    · by_cases hk : k < θ1.length
      · rw [List.getElem?_append_left hk] at e2
        dsimp only at e3
        rw [List.getElem?_append_left (by rw [← b1.now.ln]; exact hk)] at e3
        have w := b1.now.ce k a c e2 e3
        cases c with
        | dead => exact w
        | lst ds => obtain ⟨q1, ys, q2, q3⟩ := w; exact ⟨q1, ys, q2, q3.mono (bx.refl _) ⟨[q], rfl⟩⟩
        | ins c ns ds => obtain ⟨q1, dx, ys, q2, q3, q4⟩ := w; exact ⟨q1, dx, ys, q2, q3, q4.mono (bx.refl _) ⟨[q], rfl⟩⟩
      · have hk1 : k < (θ1 ++ [q]).length := (List.getElem?_eq_some_iff.mp e2).1
        have hk2 : k = θ1.length := by simp at hk1; omega
        subst hk2
        rw [List.getElem?_append_right (Nat.le_refl _)] at e2
        dsimp only at e3
        rw [List.getElem?_append_right (by rw [b1.now.ln]; exact Nat.le_refl _), b1.now.ln] at e3
        simp at e2 e3
        subst e2; subst e3
        exact ⟨h2, xs, h1, hr.mono (bx.refl _) ⟨[q], rfl⟩⟩
    · obtain ⟨v, w1, w2⟩ := b1.sl i d e2
      exact ⟨v, w1, w2.mono (bx.refl _) ⟨[q], rfl⟩⟩
    · unfold Rep
      exact ⟨q, rfl, by rw [← b1.now.ln]; simp⟩
end
end M
set_option maxRecDepth 100000
set_option maxHeartbeats 4000000
namespace M
open PySem PySem.Spec PyProof.Rows L2
section
variable {C : Ct}
theorem sL {σ : L2.St} {H F : Hp} {θ : List Addr} {s : S} {ds : List D} {Q : VK} (p : PoE C σ H F θ (.ok (.ptr s.o.length, (⟨s.r, s.o ++ [.lst ds]⟩ : S))) Q) (b : BS C.K C.ca σ H F θ s) {xs : List V} (r : ay C.K C.ca θ F ds xs) :
    ∀ q, H q = none → Q (.ref q) (upd H q (.lst xs)) := fun q hq => by
  obtain ⟨st, b2, rp⟩ := b.newC hq r
  exact p _ _ _ st b2 _ rp
def qc (O : au) : D → Option (List D)
  | .tup ds => some ds
  | x => lsD O x
def vM (m : EM) : EM := fun s => (m s).bind fun x => match qc x.2.o x.1 with
  | some ds => .ok (.ptr x.2.o.length, ⟨x.2.r, x.2.o ++ [.lst ds]⟩)
  | none => .bad
theorem CK {t : TE} {m : EM} (h : RdE C t m) : RdE C (tCB (fun xs H Q => ∃ p ys, xs = [.ref p] ∧ (SqL C.K H p ys ∨ SqT C.K H p ys) ∧ ∀ l, H l = none → Q (.ref l) (upd H l (.lst ys))) (mI t sj)) (vM m) := by
  intro σ H F θ s Q b p
  refine h σ H F θ s _ b (PoR.bind p ?_)
  rintro ⟨x, s1⟩ H1 F1 θ1 _ st1 p1 b1 v r1
  dsimp only at p1 b1 r1
  split at p1
  · rename_i ds e
    cases x with
    | tup es =>
      cases e
      obtain ⟨a, xs, rfl, hs, hr⟩ := sX b1 r1
      exact ⟨a, xs, rfl, .inr hs, sL p1 b1 hr⟩
    | _ =>
      obtain ⟨a, xs, rfl, hs, hr⟩ := fE b1 r1 e
      exact ⟨a, xs, rfl, .inl hs, sL p1 b1 hr⟩
  · exact False.elim p1
mutual
def shD (n : Nat) : D → D
  | .lst ds => .lst (eR n ds)
  | .tup ds => .tup (eR n ds)
  | .ptr k => .ptr (n + k)
  | .obj c ns ds => .obj c ns (eR n ds)
  | .exn c => .exn c
  | .non => .non
  | .bl b => .bl b
  | .int i => .int i
  | .str x => .str x
def eR (n : Nat) : List D → List D
  | [] => []
  | d :: ds => shD n d :: eR n ds
end
def shC (n : Nat) : Cell → Cell
  | .dead => .dead
  | .lst ds => .lst (eR n ds)
  | .ins c ns ds => .ins c ns (eR n ds)
section
variable {K : PySem.W.Frag} {ca : Nat → Addr} {F : Hp} {θ θ1 : List Addr}
mutual
theorem AX : ∀ {d : D} {v : V}, Rep K ca θ1 F d v → Rep K ca (θ ++ θ1) F (shD θ.length d) v
  | .non, _, h => by unfold shD; exact h
  | .bl _, _, h => by unfold shD; exact h
  | .int _, _, h => by unfold shD; exact h
  | .str _, _, h => by unfold shD; exact h
  | .lst ds, _, h => by
    unfold shD
    unfold Rep at h ⊢
    obtain ⟨a, xs, e, hs, hr⟩ := h
    exact ⟨a, xs, e, hs, lK hr⟩
  | .tup ds, _, h => by
    unfold shD
    unfold Rep at h ⊢
    obtain ⟨a, xs, e, hs, hr⟩ := h
    exact ⟨a, xs, e, hs, lK hr⟩
  | .ptr k, _, h => by
    unfold shD
    unfold Rep at h ⊢
    obtain ⟨a, e, hk⟩ := h
    exact ⟨a, e, by rw [List.getElem?_append_right (Nat.le_add_right _ _), Nat.add_sub_cancel_left]; exact hk⟩
  | .obj c ns ds, _, h => by
    unfold shD
    unfold Rep at h ⊢
    obtain ⟨a, dx, xs, e, ha, hl, hr⟩ := h
    exact ⟨a, dx, xs, e, ha, hl, lK hr⟩
  | .exn c, _, h => by
    unfold shD
    unfold Rep at h ⊢
    exact h
theorem lK : ∀ {ds : List D} {xs : List V}, ay K ca θ1 F ds xs → ay K ca (θ ++ θ1) F (eR θ.length ds) xs
  | [], _, h => by unfold eR; exact h
  | d :: ds, _, h => by
    unfold eR
    unfold ay at h ⊢
    obtain ⟨v, r, e, h1, h2⟩ := h
    exact ⟨v, r, e, AX h1, lK h2⟩
end
end
theorem BS.calledO {K : PySem.W.Frag} {ca : Nat → Addr} {σ : L2.St} {H F H1 F1 : Hp} {θ θ1 : List Addr} {s : S} {O1 : au} (b : BS K ca σ H F θ s) (st : Stp H F [] H1 F1 θ1) (n : Now K ca H1 F1 θ1 O1) :
    Stp H F θ H1 F1 (θ ++ θ1) ∧ BS K ca σ H1 F1 (θ ++ θ1) ⟨s.r, s.o ++ O1.map (shC s.o.length)⟩ := by
  obtain ⟨st0, b0⟩ := b.called st n
  obtain ⟨r, er, hr⟩ := st.th
  rw [List.nil_append] at er
  subst er
  refine ⟨⟨st0.ff, ⟨θ1, rfl, hr⟩, st0.kp, st0.al, st0.nf⟩, ⟨⟨n.fh, List.nodup_append.mpr ⟨b.now.nd, n.nd, fun a ha x hx => ?_⟩, by simp [b.now.ln, n.ln], fun k a c e1 e2 => ?_⟩, b.len, fun i d e => ?_⟩⟩
  · rintro rfl
    obtain ⟨u, hu⟩ := b.now.there ha
    rw [hr a hx] at hu
    cases hu
  · by_cases hk : k < θ.length
    · rw [List.getElem?_append_left hk] at e1
      dsimp only at e2
      rw [List.getElem?_append_left (by rw [← b.now.ln]; exact hk)] at e2
      have w := b0.now.ce k a c e1 e2
      cases c with
      | dead => exact w
      | lst ds => obtain ⟨q1, ys, q2, q3⟩ := w; exact ⟨q1, ys, q2, q3.mono (bx.refl _) ⟨θ1, rfl⟩⟩
      | ins c ns ds => obtain ⟨q1, dx, ys, q2, q3, q4⟩ := w; exact ⟨q1, dx, ys, q2, q3, q4.mono (bx.refl _) ⟨θ1, rfl⟩⟩
    · rw [List.getElem?_append_right (by omega)] at e1
      dsimp only at e2
      rw [List.getElem?_append_right (by rw [← b.now.ln]; omega), List.getElem?_map, ← b.now.ln] at e2
      cases e3 : O1[k - θ.length]? with
      | none => rw [e3] at e2; cases e2
      | some c' =>
        rw [e3] at e2
        cases e2
        have w := n.ce _ a c' e1 e3
        cases c' with
        | dead => exact w
        | lst ds => obtain ⟨q1, ys, q2, q3⟩ := w; exact ⟨q1, ys, q2, lK q3⟩
        | ins c ns ds => obtain ⟨q1, dx, ys, q2, q3, q4⟩ := w; exact ⟨q1, dx, ys, q2, q3, lK q4⟩
  · obtain ⟨v, h1, h2⟩ := b0.sl i d e
    exact ⟨v, h1, h2.mono (bx.refl _) ⟨θ1, rfl⟩⟩
def dC (n : Nat) (f : FM) (ma : AM) : EM := fun s => (ma s).bind fun x => if bf x.1 = true ∧ x.1.length = n then (match f x.1 [] with
  | .ok (d, O1) => .ok (shD x.2.o.length d, ⟨x.2.r, x.2.o ++ O1.map (shC x.2.o.length)⟩)
  | _ => .bad) else .bad
theorem fJ {n : Nat} {f : FM} {ta : TA} {ma : AM} {E : XK} (ha : RdA C ta ma) : RdE C (qp (spM C.K C.ca n f) [] E ta) (dC n f ma) := by
  intro σ H F θ s Q b p
  refine ha σ H F θ s _ b (PoR.bind p ?_)
  rintro ⟨x, s1⟩ H1 F1 θ1 _ st1 p1 b1 v r1
  dsimp only at p1 b1 r1 ⊢
  split at p1
  · rename_i hp
    rw [List.append_nil]
    refine ⟨F1, [], x, [], Now.nil b1.now.fh, r1.pure hp.1, hp.2, ?_⟩
    split at p1
    · rename_i d O1 e
      rw [e]
      intro v H2 F2 θ2 st2 n2 rv
      obtain ⟨st3, b3⟩ := b1.calledO st2 n2
      refine p1 H2 F2 _ st3 b3 v ?_
      rw [← b1.now.ln]
      exact AX rv
    · exact False.elim p1
  · exact False.elim p1
def dJ (n : Nat) (f : FM) (ma : AM) : EM := fun s => (ma s).bind fun x => if bf (bR x.2.o (bR x.2.o x.1)) = true ∧ x.1.length = n then (match f (bR x.2.o (bR x.2.o x.1)) [] with
  | .ok (d, _) => if mF d = true then .ok (d, x.2) else .bad
  | _ => .bad) else .bad
theorem je (O : au) : ∀ ds : List D, (bR O ds).length = ds.length
  | [] => by unfold bR; rfl
  | d :: ds => by unfold bR; rw [List.length_cons, List.length_cons, je O ds]
theorem gr {n : Nat} {f : FM} {ta : TA} {ma : AM} {E : XK} (ha : RdA C ta ma) : RdE C (qp (spM C.K C.ca n f) [] E ta) (dJ n f ma) := by
  intro σ H F θ s Q b p
  refine ha σ H F θ s _ b (PoR.bind p ?_)
  rintro ⟨x, s1⟩ H1 F1 θ1 _ st1 p1 b1 v r1
  dsimp only at p1 b1 r1 ⊢
  split at p1
  · rename_i hp
    rw [List.append_nil]
    have rr : ay C.K C.ca θ1 H1 (bR s1.o (bR s1.o x)) v := jx b1.now b1.now.fh (bx.refl _) (jx b1.now (bx.refl _) b1.now.fh r1)
    refine ⟨H1, [], bR s1.o (bR s1.o x), [], Now.nil (bx.refl _), rr.pure hp.1, by rw [je, je]; exact hp.2, ?_⟩
    split at p1
    · rename_i d O1 e
      rw [e]
      intro v H2 F2 θ2 st2 n2 rv
      split at p1
      · rename_i sd
        have kp : ∀ a o, H1 a = some o → H2 a = some o := fun a o h => st2.kp a o h (by simp)
        refine p1 H2 F1 θ1 ⟨bx.refl _, ⟨[], by simp, by simp⟩, fun a o h _ => kp a o h, st2.al, fun a o h => .inl h⟩ ⟨⟨fun a o h => kp a o (b1.now.fh a o h), b1.now.nd, b1.now.ln, fun k a c e1 e2 => ?_⟩, b1.len, b1.sl⟩ v (rv.scal sd)
        have w := b1.now.ce k a c e1 e2
        cases c with
        | dead => obtain ⟨o, ho⟩ := w; exact ⟨o, kp a o ho⟩
        | lst ds => obtain ⟨q1, ys, q2, q3⟩ := w; exact ⟨q1, ys, kp _ _ q2, q3⟩
        | ins c ns ds => obtain ⟨q1, dx, ys, q2, q3, q4⟩ := w; exact ⟨q1, dx, ys, kp _ _ q2, q3, q4⟩
      · exact False.elim p1
    · exact False.elim p1
  · exact False.elim p1
end
end M
set_option maxRecDepth 100000
set_option maxHeartbeats 4000000
namespace M
open PySem PySem.Spec PyProof.Rows L2
def cy (P : Program) (w : World) (K : PySem.W.Frag) (mg : Str → Option Value) (base : Heap) (ca : Nat → Addr) (lv : Nat) (x : Str) (ps : List Str) (f : FM) (a : Addr) (fd : FuncData) : Prop :=
  iE P w K mg base (CXE P w) lv a fd ps (spM K ca ps.length f) ∧ mg x = some (.ref a) ∧ PySem.W.keepIn K (.ref a) = true ∧ Binds K fd ps []
def bC (P : Program) (w : World) (K : PySem.W.Frag) (mg : Str → Option Value) (base : Heap) (ca : Nat → Addr) (lv : Nat) (x : Str) (ps : List Str) (f : FM) : Prop := ∃ a fd, cy P w K mg base ca lv x ps f a fd
theorem cy.in {P : Program} {w : World} {K : PySem.W.Frag} {mg : Str → Option Value} {base : Heap} {ca : Nat → Addr} {lv : Nat} {x : Str} {ps : List Str} {f : FM} {a : Addr} {fd : FuncData} (h : cy P w K mg base ca lv x ps f a fd) : bC P w K mg base ca lv x ps f := ⟨a, fd, h⟩
theorem vk {K : PySem.W.Frag} {ca : Nat → Addr} {θ : List Addr} {F : Hp} : ∀ ns : List Int, ay K ca θ F (ns.map D.int) (ns.map V.int)
  | [] => ay.nil
  | _ :: ns => ay.cons (aY.mpr rfl) (vk ns)
theorem Fs {K : PySem.W.Frag} {ca : Nat → Addr} {H : Hp} {a : Addr} {ns : List Int} {f : FM} {E : XK} (hS : SqL K H a (ns.map V.int)) (h : ∃ O, f [.lst (ns.map D.int)] [] = .ok (.bl true, O)) : spM K ca 1 f [.ref a] H (fun v _ => v = .bl true) E := by
  obtain ⟨O, h⟩ := h
  refine ⟨H, [], [.lst (ns.map D.int)], [], Now.nil (bx.refl _), ay.one ?_, rfl, ?_⟩
  · unfold Rep
    exact ⟨a, ns.map V.int, rfl, hS, vk ns⟩
  · rw [h]
    intro v H1 F1 θ1 _ _ r
    exact cS.mp r
theorem cG {k : Nat} {A : Around} (hr : fb k A) (hk : 32 ≤ k) : A.depth + 100 < recursionLimit := by
  have := hr.dp
  omega
def qg (i : Nat) (s : S) : Nat := match s.r[i]? with
  | some (some (.int j)) => j.natAbs + 1
  | _ => 0
end M
set_option maxRecDepth 100000
set_option maxHeartbeats 4000000
namespace M
open PySem PySem.Spec PyProof.Rows L2
section
variable {C : Ct}
def ju (as bs : List D) : List D := List.zipWith (fun a b => .tup [a, b]) as bs
def mM (m : AM) : IM := fun s => (m s).bind fun x => match x.1 with
  | [.lst as, .lst bs] => .ok ((ju as bs, none), x.2)
  | _ => .bad
theorem nP {as bs : List D} {i : Nat} {d : D} (h : (ju as bs)[i]? = some d) : ∃ x y, as[i]? = some x ∧ bs[i]? = some y ∧ d = .tup [x, y] := by
  unfold ju at h
  rw [List.getElem?_zipWith] at h
  cases h1 : as[i]? with
  | none => rw [h1] at h; cases h
  | some x =>
    cases h2 : bs[i]? with
    | none => rw [h1, h2] at h; cases h
    | some y =>
      rw [h1, h2] at h
      cases h
      exact ⟨x, y, rfl, rfl, rfl⟩
theorem Gh {a b : Addr} {xs ys : List V} {as bs : List D} {H F : Hp} {θ : List Addr} (h1 : SqL C.K F a xs) (h2 : SqL C.K F b ys) (r1 : ay C.K C.ca θ F as xs) (r2 : ay C.K C.ca θ F bs ys) :
    rT C (Itz C.K a b) (ju as bs) (okC (ju as bs) none) H F θ where
  go := fun i H2 F2 θ2 O2 hi st n _ => by
    obtain ⟨x, y, e1, e2, _⟩ := nP (List.getElem?_eq_getElem hi)
    obtain ⟨v, q1, _⟩ := r1.get e1
    obtain ⟨w, q2, _⟩ := r2.get e2
    exact ⟨xs, ys, v, w, n.fh.seq (st.ff.seq h1), n.fh.seq (st.ff.seq h2), q1, q2⟩
  yl := fun i d σ H2 F2 θ2 s2 x H3 hd st b _ hy => by
    obtain ⟨T, v, w, hT, rfl, rfl, hv, hw⟩ := hy
    obtain ⟨x, y, e1, e2, rfl⟩ := nP hd
    obtain ⟨v', q1, k1⟩ := r1.get e1
    obtain ⟨w', q2, k2⟩ := r2.get e2
    have := hv xs (b.now.fh.seq (st.ff.seq h1))
    rw [q1] at this
    cases this
    have := hw ys (b.now.fh.seq (st.ff.seq h2))
    rw [q2] at this
    cases this
    obtain ⟨st3, b3, sF, e3⟩ := b.newF hT (.tup [v, w])
    refine ⟨_, st3, b3, ?_⟩
    unfold Rep
    exact ⟨T, [v, w], rfl, SqT.of e3, ay.cons ((k1.mono st.ff st.pre).mono st3.ff st3.pre) (ay.one ((k2.mono st.ff st.pre).mono st3.ff st3.pre))⟩
  st := fun i H2 F2 θ2 O2 hi st n _ => by
    refine ⟨xs, ys, n.fh.seq (st.ff.seq h1), n.fh.seq (st.ff.seq h2), ?_⟩
    unfold ju at hi
    rw [List.length_zipWith] at hi
    rw [r1.length, r2.length]
    omega
theorem sE {ta : TA} {m : AM} (h : RdA C ta m) : RdI C (CP C.K ta) (mM m) := by
  intro σ H F θ s R b p
  refine h σ H F θ s _ b (PoR.bind p ?_)
  rintro ⟨x, s1⟩ H1 F1 θ1 _ st1 p1 b1 v r1
  dsimp only at p1 b1 r1
  split at p1
  · rename_i as bs
    obtain ⟨v1, v2, rfl, k1, k2⟩ := DV r1
    unfold Rep at k1 k2
    obtain ⟨a, xs, rfl, hs, hr⟩ := k1
    obtain ⟨b', ys, rfl, hs', hr'⟩ := k2
    exact ⟨a, b', rfl, ⟨xs, b1.now.fh.seq hs⟩, ⟨ys, b1.now.fh.seq hs'⟩, p1 _ _ _ .refl b1 _ (Gh hs hs' hr hr')⟩
  · exact False.elim p1
def iu (ds : List D) : List D := ds.mapIdx fun i d => .tup [.int (i : Nat), d]
def dO (m : AM) : IM := fun s => (m s).bind fun x => match x.1 with
  | [.lst as] => .ok ((iu as, none), x.2)
  | _ => .bad
theorem uQ {as : List D} {i : Nat} {d : D} (h : (iu as)[i]? = some d) : ∃ x, as[i]? = some x ∧ d = .tup [.int (i : Nat), x] := by
  unfold iu at h
  rw [List.getElem?_mapIdx] at h
  cases h1 : as[i]? with
  | none => rw [h1] at h; cases h
  | some x =>
    rw [h1] at h
    cases h
    exact ⟨x, rfl, rfl⟩
theorem E7 {a : Addr} {xs : List V} {as : List D} {H F : Hp} {θ : List Addr} (h1 : SqL C.K F a xs) (r1 : ay C.K C.ca θ F as xs) : rT C (Ite C.K a) (iu as) (okC (iu as) none) H F θ where
  go := fun i H2 F2 θ2 O2 hi st n _ => by
    obtain ⟨x, e1, _⟩ := uQ (List.getElem?_eq_getElem hi)
    obtain ⟨v, q1, _⟩ := r1.get e1
    exact ⟨xs, v, n.fh.seq (st.ff.seq h1), q1⟩
  yl := fun i d σ H2 F2 θ2 s2 x H3 hd st b _ hy => by
    obtain ⟨T, v, hT, rfl, rfl, hv⟩ := hy
    obtain ⟨x, e1, rfl⟩ := uQ hd
    obtain ⟨v', q1, k1⟩ := r1.get e1
    have := hv xs (b.now.fh.seq (st.ff.seq h1))
    rw [q1] at this
    cases this
    obtain ⟨st3, b3, sF, e3⟩ := b.newF hT (.tup [.int (i : Nat), v])
    refine ⟨_, st3, b3, ?_⟩
    unfold Rep
    exact ⟨T, [.int (i : Nat), v], rfl, SqT.of e3, ay.cons (aY.mpr rfl) (ay.one ((k1.mono st.ff st.pre).mono st3.ff st3.pre))⟩
  st := fun i H2 F2 θ2 O2 hi st n _ => by
    refine ⟨xs, n.fh.seq (st.ff.seq h1), ?_⟩
    unfold iu at hi
    rw [List.length_mapIdx] at hi
    rw [r1.length]
    exact hi
theorem jT {ta : TA} {m : AM} (h : RdA C ta m) : RdI C (DP C.K ta) (dO m) := by
  intro σ H F θ s R b p
  refine h σ H F θ s _ b (PoR.bind p ?_)
  rintro ⟨x, s1⟩ H1 F1 θ1 _ st1 p1 b1 v r1
  dsimp only at p1 b1 r1
  split at p1
  · rename_i as
    obtain ⟨v1, rfl, k1⟩ := ku r1
    unfold Rep at k1
    obtain ⟨a, xs, rfl, hs, hr⟩ := k1
    exact ⟨a, rfl, ⟨xs, b1.now.fh.seq hs⟩, p1 _ _ _ .refl b1 _ (E7 hs hr)⟩
  · exact False.elim p1
def BD (x : Str) : List D := x.cps.toList.map fun c => .str ⟨#[c]⟩
def Ie (m : EM) : IM := fun s => (m s).bind fun x => match x.1 with
  | .str z => .ok ((BD z, none), x.2)
  | _ => .bad
def kG : List D → Option (List Int)
  | [] => some []
  | .int i :: r => (kG r).map (i :: ·)
  | _ => none
def iQ : List D → Option (List Bool)
  | [] => some []
  | .bl i :: r => (iQ r).map (i :: ·)
  | _ => none
theorem sZ {K : PySem.W.Frag} {ca : Nat → Addr} {θ : List Addr} {F : Hp} : ∀ {ds : List D} {ns : List Int} {xs : List V}, kG ds = some ns → ay K ca θ F ds xs → xs = ns.map V.int
  | [], ns, xs, e, r => by cases e; unfold ay at r; rw [r]; rfl
  | d :: ds, ns, xs, e, r => by
    cases d <;> first | (cases e; done) | skip
    rename_i i
    unfold kG at e
    cases e2 : kG ds with
    | none => rw [e2] at e; cases e
    | some ms =>
      rw [e2] at e
      cases e
      unfold ay at r
      obtain ⟨v, w, rfl, h1, h2⟩ := r
      rw [sZ e2 h2, aY.mp h1]; rfl
theorem qQ {K : PySem.W.Frag} {ca : Nat → Addr} {θ : List Addr} {F : Hp} : ∀ {ds : List D} {ns : List Bool} {xs : List V}, iQ ds = some ns → ay K ca θ F ds xs → xs = ns.map V.bl
  | [], ns, xs, e, r => by cases e; unfold ay at r; rw [r]; rfl
  | d :: ds, ns, xs, e, r => by
    cases d <;> first | (cases e; done) | skip
    rename_i i
    unfold iQ at e
    cases e2 : iQ ds with
    | none => rw [e2] at e; cases e
    | some ms =>
      rw [e2] at e
      cases e
      unfold ay at r
      obtain ⟨v, w, rfl, h1, h2⟩ := r
      rw [qQ e2 h2, cS.mp h1]; rfl
def ofInts (f : List Int → D) : OpN := fun O xs => match xs with
  | [x] => match lsD O x with
    | some ds => match kG ds with
      | some ns => .ok (f ns)
      | none => .bad
    | none => .bad
  | _ => .bad
def qE (f : List Bool → D) : OpN := fun O xs => match xs with
  | [x] => match lsD O x with
    | some ds => match iQ ds with
      | some ns => .ok (f ns)
      | none => .bad
    | none => .bad
  | _ => .bad
def vT : OpN := ofInts fun ns => .int ns.sum
def zK : OpN := qE fun bs => .bl (bs.all id)
def Ab : OpN := qE fun bs => .bl (bs.any id)
theorem BG {f : List Int → D} {g : List Int → V} (h : ∀ K ca θ F ns, Rep K ca θ F (f ns) (g ns)) : jg C (fun xs H Q => ∃ (p : Addr) (ns : List Int), xs = [.ref p] ∧ SqL C.K H p (ns.map V.int) ∧ Q (g ns) H) (ofInts f) := by
  intro σ H F θ s xs vs Q b r p
  unfold ofInts at p
  split at p
  · obtain ⟨v, rfl, r1⟩ := ku r
    split at p
    · rename_i ds e
      obtain ⟨a, ys, rfl, hs, hr⟩ := fE b r1 e
      split at p
      · rename_i ns e2
        have := sZ e2 hr
        subst this
        exact ⟨a, ns, rfl, hs, dy p b (h ..)⟩
      · exact False.elim p
    · exact False.elim p
  · exact False.elim p
theorem sU {f : List Bool → D} {g : List Bool → V} (h : ∀ K ca θ F ns, Rep K ca θ F (f ns) (g ns)) : jg C (fun xs H Q => ∃ (p : Addr) (ns : List Bool), xs = [.ref p] ∧ SqL C.K H p (ns.map V.bl) ∧ Q (g ns) H) (qE f) := by
  intro σ H F θ s xs vs Q b r p
  unfold qE at p
  split at p
  · obtain ⟨v, rfl, r1⟩ := ku r
    split at p
    · rename_i ds e
      obtain ⟨a, ys, rfl, hs, hr⟩ := fE b r1 e
      split at p
      · rename_i ns e2
        have := qQ e2 hr
        subst this
        exact ⟨a, ns, rfl, hs, dy p b (h ..)⟩
      · exact False.elim p
    · exact False.elim p
  · exact False.elim p
theorem BI : jg C (fun xs H Q => ∃ (p : Addr) (ns : List Int), xs = [.ref p] ∧ SqL C.K H p (ns.map V.int) ∧ Q (.int ns.sum) H) vT := BG fun _ _ _ _ _ => aY.mpr rfl
theorem GJ : jg C (fun xs H Q => ∃ (p : Addr) (bs : List Bool), xs = [.ref p] ∧ SqL C.K H p (bs.map V.bl) ∧ Q (.bl (bs.all id)) H) zK := sU fun _ _ _ _ _ => cS.mpr rfl
theorem BZ : jg C (fun xs H Q => ∃ (p : Addr) (bs : List Bool), xs = [.ref p] ∧ SqL C.K H p (bs.map V.bl) ∧ Q (.bl (bs.any id)) H) Ab := sU fun _ _ _ _ _ => cS.mpr rfl
def Gm : D → Bool
  | .non => true
  | _ => false
def isD : Op2 := fun _ x y => match x, y with
  | .bl a, .bl b => .ok (.bl (a == b))
  | x, .non => .ok (.bl (Gm x))
  | _, _ => .bad
def sY : Op2 := fun _ x y => match y with
  | .non => .ok (.bl (!Gm x))
  | _ => .bad
def FZ (f g : Op2) (a b c : EM) : EM := fun s => (a s).bind fun x => (b x.2).bind fun y => (f y.2.o x.1 y.1).bind fun z => match z with
  | .bl true => (c y.2).bind fun w => (g w.2.o y.1 w.1).bind fun d => .ok (d, w.2)
  | .bl false => .ok (.bl false, y.2)
  | _ => .bad
def orD : Op2 := intD fun i j => .ok (.int (Builtin.bitOr i j))
theorem AR : iy C (rI0 fun i j => .int (Builtin.bitOr i j)) orD := sJ fun _ _ _ _ _ _ => aY.mpr rfl
theorem ay.erase {K : PySem.W.Frag} {ca : Nat → Addr} {θ : List Addr} {F : Hp} : ∀ {ds : List D} {xs : List V} (i : Nat), ay K ca θ F ds xs → ay K ca θ F (ds.eraseIdx i) (xs.eraseIdx i)
  | [], _, _, k => by unfold ay at k; rw [k]; exact ay.nil
  | _ :: _, _, 0, k => by
    unfold ay at k
    obtain ⟨v, r, rfl, h1, h2⟩ := k
    exact h2
  | _ :: _, _, i + 1, k => by
    unfold ay at k
    obtain ⟨v, r, rfl, h1, h2⟩ := k
    exact ay.cons h1 (ay.erase i h2)
def bE (n : Nat) (f : FM) (ma : AM) : EM := fun s => (ma s).bind fun x => if x.1.length = n then (match f x.1 x.2.o with
  | .ok (d, O1) => .ok (d, ⟨x.2.r, O1⟩)
  | _ => .bad) else .bad
theorem cK {n : Nat} {f : FM} {ta : TA} {ma : AM} {E : XK} (ha : RdA C ta ma) : RdE C (qp (spM C.K C.ca n f) [] E ta) (bE n f ma) := by
  intro σ H F θ s Q b p
  refine ha σ H F θ s _ b (PoR.bind p ?_)
  rintro ⟨x, s1⟩ H1 F1 θ1 _ st1 p1 b1 v r1
  dsimp only at p1 b1 r1 ⊢
  split at p1
  · rename_i hp
    rw [List.append_nil]
    refine ⟨F1, θ1, x, s1.o, b1.now, r1, hp, ?_⟩
    split at p1
    · rename_i d O1 e
      rw [e]
      intro v H2 F2 θ2 st2 n2 rv
      exact p1 H2 F2 θ2 st2 ⟨n2, b1.len, fun i d e => by
        obtain ⟨v, h1, h2⟩ := b1.sl i d e
        exact ⟨v, h1, h2.mono st2.ff st2.pre⟩⟩ v rv
    · exact False.elim p1
  · exact False.elim p1
def zZ (k : Int) (ds : List D) : List D := (List.replicate k.toNat ds).flatten
def wL (fin : S → List D → Res (D × S)) (ma : AM) (mk : EM) : EM := fun s => (ma s).bind fun x => if x.1.length ≤ 16777216 then (mk x.2).bind fun y => match y.1 with
    | .int k => if (-(2 ^ 63) ≤ k ∧ k < 2 ^ 63) ∧ x.1.length * k.toNat ≤ 16777216 then fin y.2 (zZ k x.1) else .bad
    | _ => .bad
  else .bad
def HH : S → List D → Res (D × S) := fun s ds => .ok (.lst ds, s)
def pJ : S → List D → Res (D × S) := fun s ds => .ok (.ptr s.o.length, ⟨s.r, s.o ++ [.lst ds]⟩)
theorem xO {K ca θ F} {ds : List D} {xs : List V} (r : ay K ca θ F ds xs) : ∀ k : Nat, ay K ca θ F (List.replicate k ds).flatten (List.replicate k xs).flatten
  | 0 => ay.nil
  | k + 1 => by
    rw [List.replicate_succ, List.replicate_succ, List.flatten_cons, List.flatten_cons]
    exact r.append (xO r k)
theorem Fu {fin : S → List D → Res (D × S)} {ta : TA} {tk : TE} {ma : AM} {mk : EM} (ha : RdA C ta ma) (hk : RdE C tk mk)
    (hf : ∀ σ H F θ s ds xs Q, BS C.K C.ca σ H F θ s → ay C.K C.ca θ F ds xs → PoE C σ H F θ (fin s ds) Q → ∀ q, H q = none → Q (.ref q) (upd H q (.lst xs))) : RdE C (tOp CF (xh ta) tk) (wL fin ma mk) := by
  intro σ H F θ s Q b p
  refine ha σ H F θ s _ b (PoR.bind p ?_)
  rintro ⟨x, s1⟩ H1 F1 θ1 _ st1 p1 b1 v r1
  dsimp only at p1
  split at p1
  · rename_i hl
    refine ⟨by rw [r1.length]; exact hl, fun q hq => ?_⟩
    obtain ⟨st, b2, sF, e⟩ := b1.newF hq (.lst v)
    refine hk σ _ _ _ s1 _ b2 (PoR.bind (PoR.after st p1) ?_)
    rintro ⟨y, s2⟩ H2 F2 θ2 _ st2 p2 b3 w r2
    dsimp only at p2 r2
    split at p2
    · rename_i k _
      split at p2
      · rename_i hk
        rw [aY.mp r2]
        refine ⟨q, k, v, rfl, rfl, b3.now.fh _ _ (st2.ff _ _ e), hk.1.1, hk.1.2, by rw [r1.length]; exact hk.2, ?_⟩
        exact hf σ H2 F2 θ2 s2 _ _ Q b3 (xO (((r1.mono sF ⟨[], by simp⟩).mono st2.ff st2.pre)) k.toNat) p2
      · exact False.elim p2
    · exact False.elim p2
  · exact False.elim p1
theorem Ey {ta : TA} {tk : TE} {ma : AM} {mk : EM} (ha : RdA C ta ma) (hk : RdE C tk mk) : RdE C (tOp CF (xh ta) tk) (wL pJ ma mk) := Fu ha hk fun σ H F θ s ds xs Q b r p => sL p b r
def Ip (m : EM) : TM := fun s => (m s).bind fun x => match lsD x.2.o x.1 with
  | some ds => .ok (!ds.isEmpty, x.2)
  | none => .bad
end
end M
set_option maxRecDepth 100000
set_option maxHeartbeats 4000000
namespace M
open PySem PySem.Spec PyProof.Rows L2
section
variable {C : Ct}
theorem ay.places {K : PySem.W.Frag} {ca : Nat → Addr} {θ : List Addr} {F : Hp} {ds : List D} {xs : List V} (r : ay K ca θ F ds xs) : ∀ js : List Nat, ay K ca θ F (js.filterMap (ds[·]?)) (js.filterMap (xs[·]?))
  | [] => ay.nil
  | j :: js => by
    have ih := ay.places r js
    cases hn : ds[j]? with
    | some d =>
      obtain ⟨v, hv, rv⟩ := r.get hn
      simp only [List.filterMap_cons, hn, hv]
      exact ay.cons rv ih
    | none =>
      have hv : xs[j]? = none := by
        rw [List.getElem?_eq_none_iff] at hn ⊢
        rw [r.length]; exact hn
      simp only [List.filterMap_cons, hn, hv]
      exact ih
end
end M
set_option maxRecDepth 100000
set_option maxHeartbeats 4000000
namespace M
open PySem PySem.Spec PyProof.Rows L2
section
variable {C : Ct}
end
end M
set_option maxRecDepth 100000
set_option maxHeartbeats 4000000
namespace M
open PySem PySem.Spec PyProof.Rows L2
section
variable {C : Ct}
end
end M
set_option maxRecDepth 100000
set_option maxHeartbeats 4000000
namespace M
open PySem PySem.Spec PyProof.Rows L2
section
variable {C : Ct}
theorem tu {K : PySem.W.Frag} {ca : Nat → Addr} {θ : List Addr} {F : Hp} : ∀ {zs : List Int} {xs : List V}, ay K ca θ F (zs.map D.int) xs → xs = zs.map V.int
  | [], xs, h => by unfold ay at h; exact h
  | z :: zs, xs, h => by
    rw [List.map_cons] at h
    unfold ay at h
    obtain ⟨v, r, rfl, h1, h2⟩ := h
    rw [aY.mp h1, tu h2]; rfl
end
end M
set_option maxRecDepth 100000
set_option maxHeartbeats 4000000
namespace M
open PySem PySem.Spec PyProof.Rows L2
section
variable {C : Ct}
end
end M
set_option maxRecDepth 100000
set_option maxHeartbeats 4000000
namespace M
open PySem PySem.Spec PyProof.Rows L2
section
variable {K : PySem.W.Frag} {ca : Nat → Addr} {θ : List Addr} {F G : Hp}
end
section
variable {C : Ct}
end
section
variable {C : Ct}
end
end M
set_option maxRecDepth 100000
set_option maxHeartbeats 4000000
namespace M
open PySem PySem.Spec PyProof.Rows L2
section
variable {C : Ct} {Es : L2.St → XK}
end
theorem aW {P : Program} {w : World} {X : Cx} : Passes (CXE P w) X E0 := fun _ _ _ _ _ _ _ ⟨_, _, _, _, _, _, _, _, _, z⟩ => z.elim
end M
set_option maxRecDepth 100000
set_option maxHeartbeats 4000000
namespace M
open PySem PySem.Spec PyProof.Rows L2
section
variable {C : Ct}
end
end M
set_option maxRecDepth 100000
set_option maxHeartbeats 4000000
namespace M
open PySem PySem.Spec PyProof.Rows L2
def qD : D → Bool
  | .non => true | .bl _ => true | .int _ => true | .str _ => true | .ptr _ => true | _ => false
def vR : Cell → Bool
  | .dead => true
  | .lst ds => ds.all qD
  | _ => false
theorem xr {K : PySem.W.Frag} {ca : Nat → Addr} {F G : Hp} {θ θ1 : List Addr} {d : D} {v : V} (h : qD d = true) (r : Rep K ca θ1 F d v) : Rep K ca (θ ++ θ1) G (shD θ.length d) v := by
  cases d with
  | non => unfold shD; unfold Rep at r ⊢; exact r
  | bl b => unfold shD; unfold Rep at r ⊢; exact r
  | int i => unfold shD; unfold Rep at r ⊢; exact r
  | str z => unfold shD; unfold Rep at r ⊢; exact r
  | ptr k =>
    unfold shD
    unfold Rep at r ⊢
    obtain ⟨a, e, hk⟩ := r
    exact ⟨a, e, by rw [List.getElem?_append_right (Nat.le_add_right _ _), Nat.add_sub_cancel_left]; exact hk⟩
  | lst ds => cases h
  | tup ds => cases h
  | obj c ns ds => cases h
  | exn c => cases h
theorem vc {K : PySem.W.Frag} {ca : Nat → Addr} {F G : Hp} {θ θ1 : List Addr} : ∀ {ds : List D} {xs : List V}, ds.all qD = true → ay K ca θ1 F ds xs → ay K ca (θ ++ θ1) G (eR θ.length ds) xs
  | [], _, _, h => by unfold eR; unfold ay at h ⊢; exact h
  | d :: ds, _, hf, h => by
    rw [List.all_cons, Bool.and_eq_true] at hf
    unfold eR
    unfold ay at h ⊢
    obtain ⟨v, r, e, h1, h2⟩ := h
    exact ⟨v, r, e, xr hf.1 h1, vc hf.2 h2⟩
section
variable {C : Ct}
def sN (n : Nat) (f : FM) (ma : AM) : EM := fun s => (ma s).bind fun x => if bf (bR x.2.o (bR x.2.o x.1)) = true ∧ x.1.length = n then (match f (bR x.2.o (bR x.2.o x.1)) [] with
  | .ok (d, O1) => if qD d = true ∧ O1.all vR = true then .ok (shD x.2.o.length d, ⟨x.2.r, x.2.o ++ O1.map (shC x.2.o.length)⟩) else .bad
  | _ => .bad) else .bad
theorem Cj {n : Nat} {f : FM} {ta : TA} {ma : AM} {E : XK} (ha : RdA C ta ma) : RdE C (qp (spM C.K C.ca n f) [] E ta) (sN n f ma) := by
  intro σ H F θ s Q b p
  refine ha σ H F θ s _ b (PoR.bind p ?_)
  rintro ⟨x, s1⟩ H1 F1 θ1 _ st1 p1 b1 v r1
  dsimp only at p1 b1 r1 ⊢
  split at p1
  · rename_i hp
    rw [List.append_nil]
    have rr : ay C.K C.ca θ1 H1 (bR s1.o (bR s1.o x)) v := jx b1.now b1.now.fh (bx.refl _) (jx b1.now (bx.refl _) b1.now.fh r1)
    refine ⟨H1, [], bR s1.o (bR s1.o x), [], Now.nil (bx.refl _), rr.pure hp.1, by rw [je, je]; exact hp.2, ?_⟩
    split at p1
    · rename_i d O1 e
      rw [e]
      intro v H2 F2 θ2 st2 n2 rv
      split at p1
      · rename_i sd
        have kp : ∀ a o, H1 a = some o → H2 a = some o := fun a o h => st2.kp a o h (by simp)
        obtain ⟨r, er, hr⟩ := st2.th
        rw [List.nil_append] at er
        subst er
        refine p1 H2 F1 (θ1 ++ θ2) ⟨bx.refl _, ⟨θ2, rfl, hr⟩, fun a o h _ => kp a o h, st2.al, fun a o h => .inl h⟩ ⟨⟨fun a o h => kp a o (b1.now.fh a o h), List.nodup_append.mpr ⟨b1.now.nd, n2.nd, fun a ha x hx => ?_⟩, by simp [b1.now.ln, n2.ln], fun k a c e1 e2 => ?_⟩, b1.len, fun i d e => ?_⟩ v ?_
        · rintro rfl
          obtain ⟨u, hu⟩ := b1.now.there ha
          rw [hr a hx] at hu
          cases hu
        · by_cases hk : k < θ1.length
          · rw [List.getElem?_append_left hk] at e1
            dsimp only at e2
            rw [List.getElem?_append_left (by rw [← b1.now.ln]; exact hk)] at e2
            have w := b1.now.ce k a c e1 e2
            cases c with
            | dead => obtain ⟨o, ho⟩ := w; exact ⟨o, kp a o ho⟩
            | lst ds => obtain ⟨q1, ys, q2, q3⟩ := w; exact ⟨q1, ys, kp _ _ q2, q3.mono (bx.refl _) ⟨θ2, rfl⟩⟩
            | ins c ns ds => obtain ⟨q1, dx, ys, q2, q3, q4⟩ := w; exact ⟨q1, dx, ys, kp _ _ q2, q3, q4.mono (bx.refl _) ⟨θ2, rfl⟩⟩
          · rw [List.getElem?_append_right (by omega)] at e1
            dsimp only at e2
            rw [List.getElem?_append_right (by rw [← b1.now.ln]; omega), List.getElem?_map, ← b1.now.ln] at e2
            cases e3 : O1[k - θ1.length]? with
            | none => rw [e3] at e2; cases e2
            | some c' =>
              rw [e3] at e2
              cases e2
              have w := n2.ce _ a c' e1 e3
              have fc : vR c' = true := (List.all_eq_true.mp sd.2) c' (List.mem_of_getElem? e3)
              have hF1 : F1 a = none := by
                cases ea : F1 a with
                | none => rfl
                | some o =>
                  have h1 := b1.now.fh a o ea
                  have h2 := hr a (List.mem_of_getElem? e1)
                  rw [h2] at h1; cases h1
              cases c' with
              | dead => exact w
              | lst ds => obtain ⟨q1, ys, q2, q3⟩ := w; exact ⟨hF1, ys, q2, vc fc q3⟩
              | ins c ns ds => cases fc
        · obtain ⟨v, h1, h2⟩ := b1.sl i d e
          exact ⟨v, h1, h2.mono (bx.refl _) ⟨θ2, rfl⟩⟩
        · rw [← b1.now.ln]
          exact xr sd.1 rv
      · exact False.elim p1
    · exact False.elim p1
  · exact False.elim p1
end
end M
set_option maxRecDepth 100000
set_option maxHeartbeats 4000000
namespace M
open PySem PySem.Spec PyProof.Rows L2
section
variable {C : Ct}
end
end M
set_option maxRecDepth 100000
set_option maxHeartbeats 4000000
namespace M
open PySem PySem.Spec PyProof.Rows L2
section
variable {C : Ct}
end
end M
set_option maxRecDepth 100000
set_option maxHeartbeats 1000000
namespace M
open PySem PySem.Spec PyProof.Rows L2
section
variable {C : Ct}
def my : List D → Option (List Int)
  | [] => some []
  | .int i :: r => match my r with
    | some l => some (i :: l)
    | none => none
  | _ => none
theorem uV : ∀ {ds : List D} {ns : List Int}, my ds = some ns → ds = ns.map D.int
  | [], ns, h => by cases h; rfl
  | d :: ds, ns, h => by
    cases d <;> first | (simp [my] at h; done) | skip
    rename_i i
    unfold my at h
    split at h
    · rename_i l e
      cases h
      rw [uV e]; rfl
    · cases h
theorem lg : ∀ ns : List Int, my (ns.map D.int) = some ns
  | [] => rfl
  | n :: ns => by
    rw [List.map_cons]
    unfold my
    rw [lg ns]
def ko (O : au) (d : D) : Option (List Int) := match lsD O d with
  | some ds => my ds
  | none => none
theorem u5 {σ : L2.St} {H F : Hp} {θ : List Addr} {s : S} {d : D} {ns : List Int} {v : V} (b : BS C.K C.ca σ H F θ s) (r : Rep C.K C.ca θ F d v) (e : ko s.o d = some ns) : ∃ a, v = .ref a ∧ SqL C.K H a (ns.map V.int) := by
  unfold ko at e
  split at e
  · rename_i ds el
    obtain ⟨a, xs, rfl, hs, hr⟩ := fE b r el
    rw [uV e] at hr
    rw [tu hr] at hs
    exact ⟨a, rfl, hs⟩
  · cases e
def keyed (O : au) : List D → Option (List (D × List Int))
  | [] => some []
  | d :: ds => match ko O d, keyed O ds with
    | some ns, some r => some ((d, ns) :: r)
    | _, _ => none
theorem oV {σ : L2.St} {H F : Hp} {θ : List Addr} {s : S} (b : BS C.K C.ca σ H F θ s) : ∀ {ds : List D} {kd : List (D × List Int)} {xs : List V}, keyed s.o ds = some kd → ay C.K C.ca θ F ds xs →
    ∃ l3 : List ((Addr × D) × List Int), kd = l3.map (fun x => (x.1.2, x.2)) ∧ xs = l3.map (fun x => V.ref x.1.1) ∧ ∀ x ∈ l3, SqL C.K H x.1.1 (x.2.map V.int) ∧ Rep C.K C.ca θ F x.1.2 (.ref x.1.1)
  | [], kd, xs, e, r => by
    cases e
    unfold ay at r
    subst r
    exact ⟨[], rfl, rfl, fun x hx => by cases hx⟩
  | d :: ds, kd, xs, e, r => by
    unfold keyed at e
    split at e
    · rename_i ns k2 e1 e2
      cases e
      unfold ay at r
      obtain ⟨v, xs', rfl, h1, h2⟩ := r
      obtain ⟨a, rfl, hs⟩ := u5 b h1 e1
      obtain ⟨l3, q1, q2, q3⟩ := oV b e2 h2
      refine ⟨((a, d), ns) :: l3, by rw [q1]; rfl, by rw [q2]; rfl, fun x hx => ?_⟩
      rcases List.mem_cons.mp hx with rfl | hx
      · exact ⟨hs, h1⟩
      · exact q3 x hx
    · cases e
theorem zj {K : PySem.W.Frag} {ca : Nat → Addr} {θ : List Addr} {F : Hp} : ∀ {l3 : List ((Addr × D) × List Int)}, (∀ x ∈ l3, Rep K ca θ F x.1.2 (.ref x.1.1)) → ay K ca θ F (l3.map fun x => x.1.2) (l3.map fun x => V.ref x.1.1)
  | [], _ => ay.nil
  | x :: l3, h => ay.cons (h x List.mem_cons_self) (zj fun y hy => h y (List.mem_cons_of_mem _ hy))
def qv (fin : S → List D → Res (D × S)) (me : EM) : EM := fun s => (me s).bind fun x => match lsD x.2.o x.1 with
  | some ds => match keyed x.2.o ds with
    | some kd => if kd.length < 64 ∧ (kd.map (·.2)).Nodup then fin x.2 ((dD kd).map (·.1)) else .bad
    | none => .bad
  | none => .bad
theorem Eh {fin : S → List D → Res (D × S)} {te : TE} {me : EM} (he : RdE C te me)
    (hf : ∀ σ H F θ s ds xs Q, BS C.K C.ca σ H F θ s → ay C.K C.ca θ F ds xs → PoE C σ H F θ (fin s ds) Q → ∀ q, H q = none → Q (.ref q) (upd H q (.lst xs))) : RdE C (tCB (rH C.K) (mI te sj)) (qv fin me) := by
  intro σ H F θ s Q b p
  refine he σ H F θ s _ b (PoR.bind p ?_)
  rintro ⟨x, s1⟩ H1 F1 θ1 _ st1 p1 b1 v r1
  dsimp only at p1 b1 r1
  split at p1
  · rename_i ds el
    split at p1
    · rename_i kd ek
      split at p1
      · rename_i hc
        obtain ⟨a, xs, rfl, hs, hr⟩ := fE b1 r1 el
        obtain ⟨l3, rfl, rfl, q3⟩ := oV b1 ek hr
        have n1 : ∀ l : List ((Addr × D) × List Int), dD (l.map fun x => (x.1.1, x.2)) = (dD l).map fun x => (x.1.1, x.2) := kD fun _ => rfl
        have n2 : ∀ l : List ((Addr × D) × List Int), dD (l.map fun x => (x.1.2, x.2)) = (dD l).map fun x => (x.1.2, x.2) := kD fun _ => rfl
        refine ⟨a, l3.map fun x => (x.1.1, x.2), rfl, by rw [List.map_map]; exact hs, fun y hy => ?_, by have := hc.1; rw [List.length_map] at this ⊢; exact this, by have := hc.2; rw [List.map_map] at this ⊢; exact this, ?_⟩
        · obtain ⟨x, hx, rfl⟩ := List.mem_map.mp hy
          exact (q3 x hx).1
        · rw [n2, List.map_map] at p1
          rw [n1, List.map_map]
          exact hf σ H1 F1 θ1 s1 _ _ Q b1 (zj fun x hx => (q3 x ((fY l3).mem_iff.mp hx)).2) p1
      · exact False.elim p1
    · exact False.elim p1
  · exact False.elim p1
theorem Dg {te : TE} {me : EM} (he : RdE C te me) : RdE C (tCB (rH C.K) (mI te sj)) (qv pJ me) := Eh he fun σ H F θ s ds xs Q b r p => sL p b r
end
end M
set_option maxRecDepth 100000
set_option maxHeartbeats 4000000
namespace M
open PySem PySem.Spec PyProof.Rows L2
section
variable {C : Ct}
def ue (O : au) (x y : D) : Option Bool := match ko O x, lsD O y with
  | some ns, some ds => match keyed O ds with
    | some kd => some (kd.any fun q => q.2 == ns)
    | none => none
  | _, _ => none
def wU : Op2 := fun O x y => match ue O x y with
  | some b => .ok (.bl b)
  | none => .bad
def nD : Op2 := fun O x y => match ue O x y with
  | some b => .ok (.bl (!b))
  | none => .bad
theorem xt {σ : L2.St} {H F : Hp} {θ : List Addr} {s : S} {x y : D} {v w : V} {q : Bool} (b : BS C.K C.ca σ H F θ s) (rx : Rep C.K C.ca θ F x v) (ry : Rep C.K C.ca θ F y w) (e : ue s.o x y = some q) :
    ∃ a p, ∃ (ns : List Int) (l : List (Addr × List Int)), v = .ref a ∧ w = .ref p ∧ SqL C.K H a (ns.map V.int) ∧ SqL C.K H p (l.map fun q => .ref q.1) ∧ (∀ q ∈ l, SqL C.K H q.1 (q.2.map V.int)) ∧ (l.any fun q => q.2 == ns) = q := by
  unfold ue at e
  split at e
  · rename_i ns ds e1 e2
    split at e
    · rename_i kd e3
      cases e
      obtain ⟨a, rfl, ha⟩ := u5 b rx e1
      obtain ⟨p, xs, rfl, hs, hr⟩ := fE b ry e2
      obtain ⟨l3, rfl, rfl, q3⟩ := oV b e3 hr
      refine ⟨a, p, ns, l3.map fun x => (x.1.1, x.2), rfl, rfl, ha, by rw [List.map_map]; exact hs, fun z hz => ?_, ?_⟩
      · obtain ⟨x, hx, rfl⟩ := List.mem_map.mp hz
        exact (q3 x hx).1
      · rw [List.any_map, List.any_map]; rfl
    · cases e
  · cases e
theorem Gn : iy C (zO C.K false) wU := by
  intro σ H F θ s x y v w Q b rx ry p
  unfold wU at p
  split at p
  · rename_i q e
    obtain ⟨a, c, ns, l, rfl, rfl, h1, h2, h3, h4⟩ := xt b rx ry e
    exact ⟨a, c, ns, l, rfl, rfl, h1, h2, h3, dy p b (cS.mpr (by rw [if_neg (by decide), h4]))⟩
  · exact False.elim p
theorem BY : iy C (zO C.K true) nD := by
  intro σ H F θ s x y v w Q b rx ry p
  unfold nD at p
  split at p
  · rename_i q e
    obtain ⟨a, c, ns, l, rfl, rfl, h1, h2, h3, h4⟩ := xt b rx ry e
    exact ⟨a, c, ns, l, rfl, rfl, h1, h2, h3, dy p b (cS.mpr (by rw [if_pos rfl, h4]))⟩
  · exact False.elim p
end
end M
set_option maxRecDepth 100000
set_option maxHeartbeats 4000000
namespace M
open PySem PySem.Spec PyProof.Rows L2
section
variable {C : Ct}
abbrev IX := S → Res ((List D × (au → Prop)) × S)
def C7 (C : Ct) (wi : TI) (im : IX) : Prop := ∀ σ H F θ s R, BS C.K C.ca σ H F θ s →
  PoR C H F θ (im s) (fun y H1 F1 θ1 => BS C.K C.ca σ H1 F1 θ1 y.2 → ∀ J, rT C J y.1.1 y.1.2 H1 F1 θ1 → R J H1) → wi σ H R
theorem lsN {H F H2 F2 : Hp} {θ θ2 : List Addr} {O2 : au} {x : D} {ds : List D} {v : V} (st : Stp H F θ H2 F2 θ2) (n : Now C.K C.ca H2 F2 θ2 O2) (r : Rep C.K C.ca θ F x v) (e : lsD O2 x = some ds) : ∃ a xs, v = .ref a ∧ SqL C.K H2 a xs ∧ ay C.K C.ca θ2 F2 ds xs := by
  replace r := r.mono st.ff st.pre
  cases x <;> first | (simp [lsD] at e; done) | skip
  · cases e
    unfold Rep at r
    obtain ⟨a, xs, rfl, hs, hr⟩ := r
    exact ⟨a, xs, rfl, n.fh.seq hs, hr⟩
  · rename_i k
    unfold Rep at r
    obtain ⟨a, rfl, hk⟩ := r
    unfold lsD at e
    dsimp only at e
    split at e
    · rename_i ds' ek
      cases e
      obtain ⟨_, xs, h1, h2⟩ : jV C.K C.ca H2 F2 θ2 a (.lst ds) := n.ce k a _ hk ek
      exact ⟨a, xs, rfl, SqL.of h1, h2⟩
    · cases e
def sf (m : AM) : IX := fun s => (m s).bind fun x => match x.1 with
  | [a, b] => match lsD x.2.o a, lsD x.2.o b with
    | some as, some bs => .ok ((ju as bs, fun O => lsD O a = some as ∧ lsD O b = some bs), x.2)
    | _, _ => .bad
  | _ => .bad
theorem E4 {a b : Addr} {x y : D} {as bs : List D} {H F : Hp} {θ : List Addr} (r1 : Rep C.K C.ca θ F x (.ref a)) (r2 : Rep C.K C.ca θ F y (.ref b)) :
    rT C (Itz C.K a b) (ju as bs) (fun O => lsD O x = some as ∧ lsD O y = some bs) H F θ where
  go := fun i H2 F2 θ2 O2 hi st n ok => by
    obtain ⟨_, _, e1, e2, _⟩ := nP (List.getElem?_eq_getElem hi)
    obtain ⟨_, xs, q, h1, k1⟩ := lsN st n r1 ok.1
    cases q
    obtain ⟨_, ys, q, h2, k2⟩ := lsN st n r2 ok.2
    cases q
    obtain ⟨v, q1, _⟩ := k1.get e1
    obtain ⟨w, q2, _⟩ := k2.get e2
    exact ⟨xs, ys, v, w, h1, h2, q1, q2⟩
  yl := fun i d σ H2 F2 θ2 s2 z H3 hd st b ok hy => by
    obtain ⟨T, v, w, hT, rfl, rfl, hv, hw⟩ := hy
    obtain ⟨_, _, e1, e2, rfl⟩ := nP hd
    obtain ⟨_, xs, q, h1, k1⟩ := lsN st b.now r1 ok.1
    cases q
    obtain ⟨_, ys, q, h2, k2⟩ := lsN st b.now r2 ok.2
    cases q
    obtain ⟨v', q1, k1⟩ := k1.get e1
    obtain ⟨w', q2, k2⟩ := k2.get e2
    have := hv xs h1
    rw [q1] at this
    cases this
    have := hw ys h2
    rw [q2] at this
    cases this
    obtain ⟨st3, b3, sF, e3⟩ := b.newF hT (.tup [v, w])
    refine ⟨_, st3, b3, ?_⟩
    unfold Rep
    exact ⟨T, [v, w], rfl, SqT.of e3, ay.cons (k1.mono st3.ff st3.pre) (ay.one (k2.mono st3.ff st3.pre))⟩
  st := fun i H2 F2 θ2 O2 hi st n ok => by
    obtain ⟨_, xs, q, h1, k1⟩ := lsN st n r1 ok.1
    cases q
    obtain ⟨_, ys, q, h2, k2⟩ := lsN st n r2 ok.2
    cases q
    refine ⟨xs, ys, h1, h2, ?_⟩
    unfold ju at hi
    rw [List.length_zipWith] at hi
    rw [k1.length, k2.length]
    omega
theorem ze {ta : TA} {m : AM} (h : RdA C ta m) : C7 C (CP C.K ta) (sf m) := by
  intro σ H F θ s R b p
  refine h σ H F θ s _ b (PoR.bind p ?_)
  rintro ⟨x, s1⟩ H1 F1 θ1 _ st1 p1 b1 v r1
  dsimp only at p1 b1 r1
  split at p1
  · rename_i x y
    split at p1
    · rename_i as bs e1 e2
      obtain ⟨v1, v2, rfl, k1, k2⟩ := DV r1
      obtain ⟨a, xs, rfl, hs, hr⟩ := fE b1 k1 e1
      obtain ⟨b', ys, rfl, hs', hr'⟩ := fE b1 k2 e2
      exact ⟨a, b', rfl, ⟨xs, hs⟩, ⟨ys, hs'⟩, p1 _ _ _ .refl b1 _ (E4 k1 k2)⟩
    · exact False.elim p1
  · exact False.elim p1
noncomputable def sA (m : Nat) (caps : List Nat) (im : IX) (g : GM) (c : TM) (e : EM) : S → Res (List D × S) := fun s => (im s).bind fun y =>
  (cT y.1.2 g c e y.1.1 [] ⟨j1 m caps y.2.r, y.2.o⟩).bind fun z => .ok (z.1, ⟨y.2.r, z.2.o⟩)
theorem A9 {m : Nat} {caps : List Nat} {wi : TI} {g : TG} {tc : TT} {te : TE} {im : IX} {gm : GM} {c : TM} {e : EM} (hi : C7 C wi im) (hg : RdG C g gm) (hc : RdT C tc c) (he : RdE C te e)
    {σ : L2.St} {H F : Hp} {θ : List Addr} {s : S} {Q : VK} (b : BS C.K C.ca σ H F θ s)
    (p : PoR C H F θ (sA m caps im gm c e s) fun y H1 F1 θ1 => BS C.K C.ca σ H1 F1 θ1 y.2 → ∀ q xs, H q = none → H1 q = some (.lst xs) → F1 q = none → q ∉ θ1 → ay C.K C.ca θ1 F1 y.1 xs → Q (.ref q) H1) : oi m caps wi g tc te σ H Q := by
  refine hi σ H F θ s _ b (PoR.bind p ?_)
  rintro ⟨⟨ds, k⟩, s1⟩ H1 F1 θ1 _ st1 p1 b1 J it q hq
  dsimp only at p1 b1 it
  have st2 : Stp H1 F1 θ1 (upd H1 q (.lst [])) F1 θ1 := by
    have nm : ∀ a u, H1 a = some u → a ≠ q := fun a u e z => by rw [z, hq] at e; cases e
    exact ⟨bx.refl _, ⟨[], by simp, by simp⟩, fun a u h _ => by rw [aR (nm a u h)]; exact h, fun a u h => ⟨u, by rw [aR (nm a u h)]; exact h⟩, fun a u h => .inl h⟩
  have qθ : q ∉ θ1 := fun h => by obtain ⟨u, hu⟩ := b1.now.there h; rw [hq] at hu; cases hu
  have qF : F1 q = none := by
    cases e : F1 q with
    | none => rfl
    | some u => rw [b1.now.fh q u e] at hq; cases hq
  have hqH : H q = none := by
    cases e : H q with
    | none => rfl
    | some u => obtain ⟨u', e'⟩ := st1.al q u e; rw [hq] at e'; cases e'
  have keep : ∀ {H2 F2 H3 F3 : Hp} {θ2 θ3 : List Addr} {o : HO}, Stp H2 F2 θ2 H3 F3 θ3 → H2 q = some o → F2 q = none → q ∉ θ2 → H3 q = some o ∧ F3 q = none ∧ q ∉ θ3 := fun {H2 F2 H3 F3 θ2 θ3 o} st h1 h2 h3 => by
    refine ⟨st.kp q o h1 h3, ?_, ?_⟩
    · cases e : F3 q with
      | none => rfl
      | some u =>
        rcases st.nf q u e with z | z | z
        · rw [h2] at z; cases z
        · rw [h1] at z; cases z
        · exact absurd z h3
    · obtain ⟨r, rfl, hr⟩ := st.th
      intro hm
      rcases List.mem_append.mp hm with z | z
      · exact h3 z
      · rw [hr q z] at h1; cases h1
  have bs2 : ∀ {σ' : L2.St} {H2 F2 : Hp} {θ2 : List Addr} {s2 : S} (o : HO), BS C.K C.ca σ' H2 F2 θ2 s2 → F2 q = none → q ∉ θ2 → BS C.K C.ca σ' (upd H2 q o) F2 θ2 s2 := fun {σ' H2 F2 θ2 s2} o b h1 h2 => by
    have ne : ∀ a, a ∈ θ2 → a ≠ q := fun a h z => h2 (z ▸ h)
    refine ⟨⟨fun a u h => ?_, b.now.nd, b.now.ln, fun j a c e1 e2 => ?_⟩, b.len, b.sl⟩
    · have : a ≠ q := fun z => by rw [z, h1] at h; cases h
      rw [aR this]; exact b.now.fh a u h
    · have hm := ne a (List.mem_of_getElem? e1)
      have w := b.now.ce j a c e1 e2
      cases c with
      | dead => obtain ⟨u, hu⟩ := w; exact ⟨u, by rw [aR hm]; exact hu⟩
      | lst ds => obtain ⟨q1, ys, q2, q3⟩ := w; exact ⟨q1, ys, by rw [aR hm]; exact q2, q3⟩
      | ins c ns ds => obtain ⟨q1, dx, ys, q2, q3, q4⟩ := w; exact ⟨q1, dx, ys, by rw [aR hm]; exact q2, q3, q4⟩
  have stq : ∀ {H2 F2 : Hp} {θ2 : List Addr} (o : HO), Stp H1 F1 θ1 H2 F2 θ2 → Stp H1 F1 θ1 (upd H2 q o) F2 θ2 := fun {H2 F2 θ2} o st => by
    have nm : ∀ a u, H1 a = some u → a ≠ q := fun a u e z => by rw [z, hq] at e; cases e
    exact ⟨st.ff, st.th, fun a u h1 h2 => by rw [aR (nm a u h1)]; exact st.kp a u h1 h2, fun a u h1 => by rw [aR (nm a u h1)]; exact st.al a u h1, st.nf⟩
  refine ⟨fun i n acc σ' H' => n = ds.length - i ∧ i ≤ ds.length ∧ ∃ F' θ' s' as, Stp H1 F1 θ1 H' F' θ' ∧ H' q = some (.lst acc) ∧ F' q = none ∧ q ∉ θ' ∧ BS C.K C.ca σ' H' F' θ' s' ∧ ay C.K C.ca θ' F' as acc ∧
      PoR C H1 F1 θ1 ((cT (k) gm c e (ds.drop i) as s').bind fun z => .ok (z.1, (⟨s1.r, z.2.o⟩ : S))) (fun y H1 F1 θ1 => BS C.K C.ca σ H1 F1 θ1 y.2 → ∀ q xs, H q = none → H1 q = some (.lst xs) → F1 q = none → q ∉ θ1 → ay C.K C.ca θ1 F1 y.1 xs → Q (.ref q) H1),
    ⟨ds.length, by simp, Nat.zero_le _, F1, θ1, ⟨j1 m caps s1.r, s1.o⟩, [], st2, cL, qF, qθ, bs2 _ (AF b1 m caps) qF qθ, ay.nil, by simpa using p1⟩, ?_⟩
  rintro i n acc σ' H' ⟨rfl, hil, F', θ', s', as, st, hq', qF', qθ', bs, hacc, po⟩
  by_cases lt : i < ds.length
  · right
    rw [List.drop_eq_getElem_cons lt, cT] at po
    split at po
    · rename_i hok
      refine ⟨it.go i H' F' θ' s'.o lt st bs.now hok.1, ?_⟩
      intro x H3 hy
      obtain ⟨F3, st3, b3, rp⟩ := it.yl i ds[i] σ' H' F' θ' s' x H3 (List.getElem?_eq_getElem lt) st bs hok.1 hy
      obtain ⟨k1, k2, k3⟩ := keep st3 hq' qF' qθ'
      have st13 := st.trans st3
      have po3 := PoR.after st13 po
      have w1 : PoG C H3 F3 θ' (gm ds[i] s') (fun σ4 H4 => tc σ4 H4 fun b H4 => if b = true then
          te σ4 H4 fun y H5 => H5 q = some (.lst acc) ∧ acc.length < sizeLine ∧ ∃ k', k' < ds.length - i ∧ (k' = ds.length - (i + 1) ∧ i + 1 ≤ ds.length ∧ ∃ F' θ' s' as, Stp H1 F1 θ1 (upd H5 q (.lst (acc ++ [y]))) F' θ' ∧ (upd H5 q (.lst (acc ++ [y]))) q = some (.lst (acc ++ [y])) ∧ F' q = none ∧ q ∉ θ' ∧ BS C.K C.ca σ4 (upd H5 q (.lst (acc ++ [y]))) F' θ' s' ∧ ay C.K C.ca θ' F' as (acc ++ [y]) ∧
            PoR C H1 F1 θ1 ((cT (k) gm c e (ds.drop (i + 1)) as s').bind fun z => .ok (z.1, (⟨s1.r, z.2.o⟩ : S))) (fun y H1 F1 θ1 => BS C.K C.ca σ H1 F1 θ1 y.2 → ∀ q xs, H q = none → H1 q = some (.lst xs) → F1 q = none → q ∉ θ1 → ay C.K C.ca θ1 F1 y.1 xs → Q (.ref q) H1))
          else ∃ k', k' < ds.length - i ∧ (k' = ds.length - (i + 1) ∧ i + 1 ≤ ds.length ∧ ∃ F' θ' s' as, Stp H1 F1 θ1 H4 F' θ' ∧ H4 q = some (.lst acc) ∧ F' q = none ∧ q ∉ θ' ∧ BS C.K C.ca σ4 H4 F' θ' s' ∧ ay C.K C.ca θ' F' as acc ∧
            PoR C H1 F1 θ1 ((cT (k) gm c e (ds.drop (i + 1)) as s').bind fun z => .ok (z.1, (⟨s1.r, z.2.o⟩ : S))) (fun y H1 F1 θ1 => BS C.K C.ca σ H1 F1 θ1 y.2 → ∀ q xs, H q = none → H1 q = some (.lst xs) → F1 q = none → q ∉ θ1 → ay C.K C.ca θ1 F1 y.1 xs → Q (.ref q) H1))) := by
        cases e1 : gm ds[i] s' with
        | bad => rw [e1] at po3; exact po3
        | exc a1 a2 a3 => rw [e1] at po3; exact po3
        | ok s4 =>
          rw [e1] at po
          intro H4 F4 θ4 st4 σ4 b4
          obtain ⟨l1, l2, l3⟩ := keep st4 k1 k2 k3
          refine hc σ4 H4 F4 θ4 s4 _ b4 ?_
          cases e2 : c s4 with
          | bad => rw [ak, e2] at po; exact po
          | exc a1 a2 a3 => rw [ak, e2] at po; exact PoR.after (st13.trans st4) po
          | ok x5 =>
            obtain ⟨kk, s5⟩ := x5
            rw [ak, e2, ak] at po
            intro H5 F5 θ5 st5 b5
            obtain ⟨m1, m2, m3⟩ := keep st5 l1 l2 l3
            have hacc5 := ((hacc.mono st3.ff st3.pre).mono st4.ff st4.pre).mono st5.ff st5.pre
            cases kk with
            | false =>
              exact rn ⟨ds.length - (i + 1), by omega, rfl, by omega, F5, θ5, s5, as, st13.trans (st4.trans st5), m1, m2, m3, b5, hacc5, by simpa using po⟩
            | true =>
              refine rj (he σ4 H5 F5 θ5 s5 _ b5 ?_)
              dsimp only [if_true] at po
              cases e3 : e s5 with
              | bad => rw [e3] at po; exact po
              | exc a1 a2 a3 => rw [e3] at po; exact PoR.after (st13.trans (st4.trans st5)) po
              | ok x6 =>
                obtain ⟨y, s6⟩ := x6
                rw [e3, ak] at po
                intro H6 F6 θ6 st6 b6 w r6
                obtain ⟨n1, n2, n3⟩ := keep st6 m1 m2 m3
                exact ⟨n1, by rw [hacc.length]; exact hok.2, ds.length - (i + 1), by omega, rfl, by omega, F6, θ6, s6, as ++ [y], stq _ (st13.trans (st4.trans (st5.trans st6))), cL, n2, n3, bs2 _ b6 n2 n3, (hacc5.mono st6.ff st6.pre).append (ay.one r6), po⟩
      exact hg σ' H3 F3 θ' s' ds[i] x _ b3 rp w1
    · exact False.elim po
  · left
    rw [List.drop_eq_nil_of_le (by omega), cT] at po
    split at po
    · rename_i hok
      refine ⟨it.st i H' F' θ' s'.o (by omega) st bs.now hok, hq', ?_⟩
      refine po H' F' θ' st ⟨bs.now, b1.len, fun j d e => ?_⟩ q acc hqH hq' qF' qθ' hacc
      obtain ⟨v, h1, h2⟩ := b1.sl j d e
      exact ⟨v, h1, h2.mono st.ff st.pre⟩
    · exact False.elim po
noncomputable def m8 (m : Nat) (caps : List Nat) (im : IX) (g : GM) (c : TM) (e : EM) : EM := fun s => (sA m caps im g c e s).bind fun y => .ok (.lst y.1, y.2)
theorem vg {m : Nat} {caps : List Nat} {wi : TI} {g : TG} {tc : TT} {te : TE} {im : IX} {gm : GM} {c : TM} {e : EM} (hi : C7 C wi im) (hg : RdG C g gm) (hc : RdT C tc c) (he : RdE C te e) : RdE C (oi m caps wi g tc te) (m8 m caps im gm c e) := by
  intro σ H F θ s Q b p
  refine A9 hi hg hc he b ?_
  unfold m8 at p
  cases e1 : sA m caps im gm c e s with
  | bad => rw [e1] at p; exact p
  | exc a1 a2 a3 => rw [e1] at p; exact p
  | ok y =>
    rw [e1, ak] at p
    intro H1 F1 θ1 st1 b1 q xs h0 h1 h2 h3 hr
    have sF : bx F1 (upd F1 q (.lst xs)) := fun a u h => by
      rw [aR (fun z => by rw [z, h2] at h; cases h)]; exact h
    refine p H1 (upd F1 q (.lst xs)) θ1 ⟨st1.ff.trans sF, st1.th, st1.kp, st1.al, fun a u h => ?_⟩ ⟨⟨fun a u h => ?_, b1.now.nd, b1.now.ln, fun j a c e2 e3 => ?_⟩, b1.len, fun i d e2 => ?_⟩ (.ref q) ?_
    · by_cases z : a = q
      · subst z; exact .inr (.inl h0)
      · rw [aR z] at h; exact st1.nf a u h
    · by_cases z : a = q
      · subst z; rw [cL] at h; rw [h1]; exact h
      · rw [aR z] at h; exact b1.now.fh a u h
    · have ne : a ≠ q := fun z => h3 (z ▸ List.mem_of_getElem? e2)
      have w := b1.now.ce j a c e2 e3
      cases c with
      | dead => exact w
      | lst ds => obtain ⟨q1, ys, q2, q3⟩ := w; exact ⟨by rw [aR ne]; exact q1, ys, q2, q3.mono sF ⟨[], by simp⟩⟩
      | ins c ns ds => obtain ⟨q1, dx, ys, q2, q3, q4⟩ := w; exact ⟨by rw [aR ne]; exact q1, dx, ys, q2, q3, q4.mono sF ⟨[], by simp⟩⟩
    · obtain ⟨v, w1, w2⟩ := b1.sl i d e2
      exact ⟨v, w1, w2.mono sF ⟨[], by simp⟩⟩
    · unfold Rep
      exact ⟨q, xs, rfl, SqL.of cL, hr.mono sF ⟨[], by simp⟩⟩
end
end M
set_option maxRecDepth 100000
set_option maxHeartbeats 4000000
namespace M
open PySem PySem.Spec PyProof.Rows L2
@[simp] theorem Il (ds : List D) (O : au) : okC ds none O = True := rfl
@[simp] theorem HQ (ds : List D) (k : Nat) (O : au) : okC ds (some k) O = (O[k]? = some (.lst ds)) := rfl
theorem yN {n : Nat} {i : Int} (h : i.natAbs < 2 ^ n) : Builtin.Int.intBits i ≤ n := by
  unfold Builtin.Int.intBits
  split
  · exact Nat.zero_le _
  · rename_i h0
    have hp : i.natAbs ≠ 0 := by
      intro z
      apply h0
      simpa using z
    have := (Nat.log2_lt hp).mpr h
    omega
def Sz (n : Nat) (i : Int) : Prop := i.natAbs < 2 ^ n
theorem Sz.mono {m n : Nat} {i : Int} (h : Sz m i) (hmn : m ≤ n) : Sz n i := Nat.lt_of_lt_of_le h (Nat.pow_le_pow_right (by decide) hmn)
theorem eS {m n : Nat} (hm : m ≤ 60000000) (hn : n ≤ 60000000) {i j : Int} (h : Sz m i) (h' : Sz n j) : IntMulOk i j := by
  have h1 := yN h
  have h2 := yN h'
  have e : Builtin.Int.intTooBig (Builtin.Int.intBits i + Builtin.Int.intBits j) = false := by
    unfold Builtin.Int.intTooBig
    rw [bitsLine_eq]
    exact decide_eq_false (by omega)
  unfold IntMulOk
  rw [e]
  simp
theorem dY {i j : Int} (h : i.natAbs < 2 ^ 64 ∨ j.natAbs < 2 ^ 64) : IntMulOk i j := by
  rcases h with h | h
  · exact .of_left (intBits_le_64 (by omega) (by omega))
  · exact .of_right (intBits_le_64 (by omega) (by omega))
theorem Sz.mul {m n : Nat} {i j : Int} (h : Sz m i) (h' : Sz n j) : Sz (m + n) (i * j) := by
  unfold Sz at *
  rw [Int.natAbs_mul, Nat.pow_add]
  exact Nat.mul_lt_mul'' h h'
theorem Sz.add {m n : Nat} {i j : Int} (h : Sz m i) (h' : Sz n j) : Sz (max m n + 1) (i + j) := by
  unfold Sz at *
  have h1 := Nat.lt_of_lt_of_le h (Nat.pow_le_pow_right (by decide) (Nat.le_max_left m n))
  have h2 := Nat.lt_of_lt_of_le h' (Nat.pow_le_pow_right (by decide) (Nat.le_max_right m n))
  have h3 : (i + j).natAbs ≤ i.natAbs + j.natAbs := Int.natAbs_add_le i j
  rw [Nat.pow_succ]
  omega
theorem mm {i j : Int} (h : 0 < j) : i.fdiv j = i / j := Int.fdiv_eq_ediv_of_nonneg i (Int.le_of_lt h)
theorem Dd {i j : Int} (h : 0 < j) : i.fmod j = i % j := Int.fmod_eq_emod_of_nonneg i (Int.le_of_lt h)
section
variable {O : au}
@[simp] theorem v7 (i j : Int) : mD O (.int i) (.int j) = .ok (.int (i - j)) := rfl
@[simp] theorem jm (i j : Int) : dm O (.int i) (.int j) = .ok (.int (i + j)) := rfl
@[simp] theorem HG (i j : Int) : Ic O (.int i) (.int j) = .ok (.int (i + j)) := rfl
@[simp] theorem lI (i j : Int) : ltD O (.int i) (.int j) = .ok (.bl (decide (i < j))) := rfl
@[simp] theorem IT (i j : Int) : leD O (.int i) (.int j) = .ok (.bl (decide (i ≤ j))) := rfl
@[simp] theorem nu (i j : Int) : gtD O (.int i) (.int j) = .ok (.bl (decide (j < i))) := rfl
@[simp] theorem IZ (i j : Int) : geD O (.int i) (.int j) = .ok (.bl (decide (j ≤ i))) := rfl
@[simp] theorem xc (i : Int) : oy O (.int i) = .ok (.int (-i)) := rfl
@[simp] theorem nB (i j : Int) : eqD O (.int i) (.int j) = .ok (.bl (decide (i = j))) := rfl
@[simp] theorem qd (i j : Int) : neD O (.int i) (.int j) = .ok (.bl (!decide (i = j))) := rfl
@[simp] theorem Iu (i j : Str) : eqD O (.str i) (.str j) = .ok (.bl (decide (i = j))) := rfl
@[simp] theorem II (i j : Str) : neD O (.str i) (.str j) = .ok (.bl (!decide (i = j))) := rfl
@[simp] theorem Jd (i j : Bool) : eqD O (.bl i) (.bl j) = .ok (.bl (decide (i = j))) := rfl
@[simp] theorem Je (i j : Bool) : neD O (.bl i) (.bl j) = .ok (.bl (!decide (i = j))) := rfl
theorem bJ {i j : Int} (h : IntMulOk i j) : bB O (.int i) (.int j) = .ok (.int (i * j)) := if_pos h
theorem iB {i j : Int} (h : j ≠ 0) : gj O (.int i) (.int j) = .ok (.int (i.fdiv j)) := if_pos h
theorem qZ {i : Int} {j : Int} (h : 0 < j) (h2 : j < 1073741824) : gj O (.int i) (.int j) = .ok (.int (i / j)) := by
  rw [iB (by omega), mm h]
theorem fD {i j : Int} (h : 0 < j) : fg O (.int i) (.int j) = .ok (.int (i % j)) := by
  rw [← Dd h]; exact if_pos (by omega)
theorem jv {i j : Int} (h : 0 ≤ j) (h2 : j ≤ 1000000) (h3 : i.natAbs < 2 ^ 64) : eN O (.int i) (.int j) = .ok (.int (i ^ j.toNat)) := if_pos ⟨h, h2, h3⟩
@[simp] theorem Dk (i : Int) : pL O [.int i] = .ok (.int (i.natAbs : Int)) := by
  show Res.ok (D.int (if i < 0 then -i else i)) = _
  congr 2
  split <;> omega
@[simp] theorem gS (ds : List D) : cD O [.lst ds] = .ok (.int ds.length) := rfl
@[simp] theorem wm (ds : List D) : cD O [.tup ds] = .ok (.int ds.length) := rfl
@[simp] theorem mH (ds : List D) : eW O [.lst ds] = .ok (.lst ds) := rfl
@[simp] theorem Ay (ds : List D) : eW O [.tup ds] = .ok (.lst ds) := rfl
@[simp] theorem Hy (i : Int) : intOf O [.int i] = .ok (.int i) := rfl
@[simp] theorem DC (b : Bool) : intOf O [.bl b] = .ok (.int (if b then 1 else 0)) := rfl
@[simp] theorem I0 (c : String) (i : Int) : gE c O (.int i) = .ok (.bl (eE "int" c)) := rfl
@[simp] theorem Jf (c : String) (i : Bool) : gE c O (.bl i) = .ok (.bl (eE "bool" c)) := rfl
@[simp] theorem Iy (c : String) (i : Str) : gE c O (.str i) = .ok (.bl (eE "str" c)) := rfl
@[simp] theorem IB (c : String) (i : List D) : gE c O (.lst i) = .ok (.bl (eE "list" c)) := rfl
@[simp] theorem yK (c : String) (i : List D) : gE c O (.tup i) = .ok (.bl (eE "tuple" c)) := rfl
@[simp] theorem IU (c : String) : gE c O .non = .ok (.bl (eE "NoneType" c)) := rfl
@[simp] theorem Jv : eE "int" "int" = true := by decide
@[simp] theorem Jp : eE "int" "bool" = false := by decide
@[simp] theorem Ji : eE "bool" "bool" = true := by decide
@[simp] theorem Ju : eE "bool" "int" = true := by decide
@[simp] theorem Jt : eE "list" "list" = true := by decide
@[simp] theorem sub_tt : eE "tuple" "tuple" = true := by decide
@[simp] theorem sub_lt : eE "list" "tuple" = false := by decide
@[simp] theorem Js : eE "tuple" "list" = false := by decide
@[simp] theorem Jx : eE "str" "int" = false := by decide
@[simp] theorem Jm : eE "NoneType" "int" = false := by decide
theorem qy {ds : List D} {i : Int} {d : D} (h : atI ds i = some d) : ixD O (.lst ds) (.int i) = .ok d := by
  show (match lsD O (D.lst ds) with
      | some ds => match atI ds i with
        | some d => Res.ok d
        | none => .bad
      | none => .bad) = _
  rw [fv]
  dsimp only
  rw [h]
theorem iS {ds : List D} {i : Int} {d : D} (h : atI ds i = some d) : ixD O (.tup ds) (.int i) = .ok d := by
  show (match atI ds i with
        | some d => Res.ok d
        | none => .bad) = _
  rw [h]
theorem ng {α : Type} {l : List α} {i : Int} (h0 : 0 ≤ i) (h1 : i < l.length) : atI l i = some (l[i.toNat]'(by omega)) := by
  unfold atI ixN
  rw [if_pos h0, if_pos h1]
  show l[i.toNat]? = _
  exact List.getElem?_eq_getElem _
theorem kY : ∀ ns : List Int, g0 (ns.map D.int) = some (ns.map PyData.int)
  | [] => by simp [g0]
  | n :: ns => by simp [g0, toPy, kY ns]
theorem kz : ∀ ns : List Int, bR O (ns.map D.int) = ns.map D.int
  | [] => by simp [bR]
  | n :: ns => by simp [bR, res, kz ns]
theorem ke : ∀ ns : List Int, PyData.canLayAll0 (ns.map PyData.int) = true
  | [] => by simp [PyData.canLayAll0]
  | n :: ns => by simp [PyData.canLayAll0, PyData.canLay0, ke ns]
theorem lD : ∀ ns : List Int, PyData.depthAll (ns.map PyData.int) = 0
  | [] => by simp [PyData.depthAll]
  | n :: ns => by simp [PyData.depthAll, PyData.depth, lD ns]
theorem shaped_ints (ns : List Int) : SeqAt.shaped (.list (ns.map PyData.int)) = true := by
  simp [SeqAt.shaped, PyData.canLay0, ke, PyData.depth, lD]
theorem og : ∀ ns ms : List Int, PyData.eqvAll (ns.map PyData.int) (ms.map PyData.int) = decide (ns = ms)
  | [], [] => by simp [PyData.eqvAll]
  | [], _ :: _ => by simp [PyData.eqvAll]
  | _ :: _, [] => by simp [PyData.eqvAll]
  | a :: r, b :: t => by
    simp only [List.map_cons, PyData.eqvAll, PyData.eqv, og r t]
    by_cases h : a = b <;> by_cases h' : r = t <;> simp [h, h']
theorem wq (ns ms : List Int) : eqB O (.lst (ns.map D.int)) (.lst (ms.map D.int)) = some (decide (ns = ms)) := by
  show fL O _ _ = _
  unfold fL
  simp only [res, kz, toPy, kY, Option.map_some]
  rw [if_pos ⟨shaped_ints ns, shaped_ints ms⟩]
  simp only [PyData.eqv, og]
@[simp] theorem xK (ns ms : List Int) : eqD O (.lst (ns.map D.int)) (.lst (ms.map D.int)) = .ok (.bl (decide (ns = ms))) := by unfold eqD; rw [wq]
@[simp] theorem Cf (ns ms : List Int) : neD O (.lst (ns.map D.int)) (.lst (ms.map D.int)) = .ok (.bl (!decide (ns = ms))) := by unfold neD; rw [wq]
theorem oP : ∀ ns : List Int, bf (ns.map D.int) = true
  | [] => by simp [bf]
  | n :: ns => by simp [bf, cQ, oP ns]
@[simp] theorem Ha (ns : List Int) : cQ (.lst (ns.map D.int)) = true := by simp [cQ, oP]
end
end M
set_option maxRecDepth 100000
set_option maxHeartbeats 4000000
namespace M
open PySem PySem.Spec PyProof.Rows L2
noncomputable def qt : SM := aM (setM 2 (aj fg (aa 0) (aa 1))) (aM (setM 0 (aa 1)) (setM 1 (aa 2)))
theorem C5 {a b : Int} {x : Option D} {O : au} (hb : 0 < b) : qt ⟨[some (.int a), some (.int b), x], O⟩ = .next ⟨[some (.int b), some (.int (a % b)), some (.int (a % b))], O⟩ := by
  simp [qt, aM, setM, jR, aE, aj, aa, fD hb]
theorem vj {c : TM} (hc : ∀ (a b : Int) x O, 0 ≤ b → c ⟨[some (.int a), some (.int b), x], O⟩ = .ok (decide (b ≠ 0), ⟨[some (.int a), some (.int b), x], O⟩)) :
    ∀ (n : Nat) (a b : Int) x O, 0 ≤ a → 0 ≤ b → b.natAbs < n → ∃ y, ib c qt n ⟨[some (.int a), some (.int b), x], O⟩ = .next ⟨[some (.int (Nat.gcd a.natAbs b.natAbs : Nat)), some (.int 0), y], O⟩
  | 0, _, _, _, _, _, _, h => by omega
  | n + 1, a, b, x, O, ha, hb, hn => by
    rw [ib, hc a b x O hb, nF]
    by_cases h : b = 0
    · subst h
      refine ⟨x, ?_⟩
      have e : ((Nat.gcd a.natAbs (0 : Int).natAbs : Nat) : Int) = a := by
        rw [Int.natAbs_zero, Nat.gcd_zero_right]
        omega
      rw [e]
      simp
    · have hb' : 0 < b := by omega
      have h1 : 0 ≤ a % b := Int.emod_nonneg a h
      have h2 : a % b < b := Int.emod_lt_of_pos a hb'
      obtain ⟨y, e⟩ := vj hc n b (a % b) (some (.int (a % b))) O hb h1 (by omega)
      refine ⟨y, ?_⟩
      simp only [h, ne_eq, not_false_eq_true, decide_true, if_true, C5 hb']
      rw [e]
      have e2 : (a % b).natAbs = a.natAbs % b.natAbs := by
        have : ((a % b).natAbs : Int) = ((a.natAbs % b.natAbs : Nat) : Int) := by
          rw [Int.natAbs_of_nonneg h1, Int.natCast_emod, Int.natAbs_of_nonneg ha, Int.natAbs_of_nonneg hb]
        omega
      rw [e2, ← Nat.gcd_rec' a.natAbs b.natAbs]
where Nat.gcd_rec' (m n : Nat) : Nat.gcd m n = Nat.gcd n (m % n) := by
        rw [Nat.gcd_comm m n, Nat.gcd_rec n m, Nat.gcd_comm]
noncomputable def Ah : SM := aM (setM 0 (bj pL (af (aa 0) aq))) (aM (setM 1 (bj pL (af (aa 1) aq))) (aM (pO (fun s => qg 1 s) (aU (aj neD (aa 1) (ao (.int 0)))) qt) (bN (aa 0))))
theorem Ds (a b : Int) (O : au) : ∃ s, Ah ⟨[some (.int a), some (.int b), none], O⟩ = .ret (.int (Int.gcd a b : Nat)) s ∧ s.o = O := by
  obtain ⟨y, e⟩ := vj (c := aU (aj neD (aa 1) (ao (.int 0)))) (fun a b x O h => by simp [aU, aj, aa, ao]) (b.natAbs + 1) (a.natAbs : Int) (b.natAbs : Int) none O (by omega) (by omega) (by omega)
  refine ⟨⟨[some (.int (Int.gcd a b : Nat)), some (.int 0), y], O⟩, ?_, rfl⟩
  simp only [Int.natAbs_natCast] at e
  simp [Ah, aM, setM, jR, aE, bj, af, aq, aa, pO, qg, e, bN, Int.gcd]
theorem cO {n : Nat} {m : SM} {ds : List D} {O : au} {d : D} {s : S} (h : m ⟨ds.map some ++ List.replicate (n - ds.length) none, O⟩ = .ret d s) : runM n m ds O = .ok (d, s.o) := by
  unfold runM; rw [h]
theorem Bf (a b : Int) : runM 3 Ah [.int a, .int b] [] = .ok (.int (Int.gcd a b : Nat), []) := by
  obtain ⟨s, e, eo⟩ := Ds a b []
  rw [cO (s := s) (by exact e), eo]
def bV (ns : List Int) : Nat := ns.foldl (fun c n => Nat.gcd c n.natAbs) 0
theorem oH : ∀ (ns : List Int) (c : Nat), ns.foldl (fun c n => Nat.gcd c n.natAbs) c ∣ c ∧ ∀ n ∈ ns, ns.foldl (fun c n => Nat.gcd c n.natAbs) c ∣ n.natAbs
  | [], c => ⟨Nat.dvd_refl _, by simp⟩
  | m :: ns, c => by
    obtain ⟨h1, h2⟩ := oH ns (Nat.gcd c m.natAbs)
    rw [List.foldl_cons]
    refine ⟨Nat.dvd_trans h1 (Nat.gcd_dvd_left _ _), fun n hn => ?_⟩
    rcases List.mem_cons.mp hn with rfl | hn
    · exact Nat.dvd_trans h1 (Nat.gcd_dvd_right _ _)
    · exact h2 n hn
theorem vZ {ns : List Int} {n : Int} (h : n ∈ ns) : ((bV ns : Nat) : Int) ∣ n := Int.natAbs_dvd_natAbs.mp (by rw [Int.natAbs_natCast]; exact (oH ns 0).2 n h)
theorem oK (g : Nat) (hg : 0 < g) : ∀ (ns : List Int) (c : Nat), g ∣ c → (∀ n ∈ ns, (g : Int) ∣ n) →
    (ns.map (· / (g : Int))).foldl (fun c n => Nat.gcd c n.natAbs) (c / g) = ns.foldl (fun c n => Nat.gcd c n.natAbs) c / g
  | [], c, _, _ => rfl
  | m :: ns, c, hc, h => by
    have hm : g ∣ m.natAbs := by
      have := Int.natAbs_dvd_natAbs.mpr (h m List.mem_cons_self)
      rwa [Int.natAbs_natCast] at this
    have e : (m / (g : Int)).natAbs = m.natAbs / g := by
      obtain ⟨k, rfl⟩ := h m List.mem_cons_self
      rw [Int.mul_ediv_cancel_left _ (by omega : (g : Int) ≠ 0), Int.natAbs_mul, Int.natAbs_natCast, Nat.mul_div_cancel_left _ hg]
    rw [List.map_cons, List.foldl_cons, List.foldl_cons, e, Nat.gcd_div hc hm]
    exact oK g hg ns _ (Nat.dvd_gcd hc hm) fun n hn => h n (List.mem_cons_of_mem _ hn)
theorem C9 {ns : List Int} (h : 0 < bV ns) : bV (ns.map (· / (bV ns : Int))) = 1 := by
  have := oK (bV ns) h ns 0 (Nat.dvd_zero _) fun n hn => vZ hn
  rw [Nat.zero_div] at this
  rw [show bV (ns.map (· / (bV ns : Int))) = (ns.map (· / (bV ns : Int))).foldl (fun c n => Nat.gcd c n.natAbs) 0 from rfl, this]
  exact Nat.div_self h
end M
set_option maxRecDepth 100000
set_option maxHeartbeats 4000000
namespace M
open PySem PySem.Spec PyProof.Rows L2
section
variable {s s1 : S} {d : D}
@[simp] theorem ag {i : Nat} (h : s.r[i]? = some (some d)) : aa i s = .ok (d, s) := by unfold aa; rw [h]
@[simp] theorem aL (d : D) (s : S) : ao d s = .ok (d, s) := rfl
@[simp] theorem jF (f : Op2) (a b : EM) (s : S) : aj f a b s = (a s).bind fun x => (b x.2).bind fun y => (f y.2.o x.1 y.1).bind fun d => .ok (d, y.2) := rfl
@[simp] theorem FK (f : Op1) (a : EM) (s : S) : unM f a s = (a s).bind fun x => (f x.2.o x.1).bind fun d => .ok (d, x.2) := rfl
@[simp] theorem aC (s : S) : aq s = .ok ([], s) := rfl
@[simp] theorem gq (m : EM) (r : AM) (s : S) : af m r s = (m s).bind fun x => (r x.2).bind fun y => .ok (x.1 :: y.1, y.2) := rfl
@[simp] theorem uq (f : OpN) (m : AM) (s : S) : bj f m s = (m s).bind fun x => (f x.2.o x.1).bind fun d => .ok (d, x.2) := rfl
@[simp] theorem EF (m : AM) (s : S) : rK m s = (m s).bind fun x => if x.1.length ≤ 16777216 then .ok (.tup x.1, x.2) else .bad := rfl
@[simp] theorem En (m : AM) (s : S) : mP m s = (m s).bind fun x => if x.1.length ≤ 16777216 then .ok (.lst x.1, x.2) else .bad := rfl
@[simp] theorem EC (m : AM) (s : S) : mw m s = (m s).bind fun x => if x.1.length ≤ 16777216 then .ok (.ptr x.2.o.length, ⟨x.2.r, x.2.o ++ [.lst x.1]⟩) else .bad := rfl
@[simp] theorem t7 (m : EM) (s : S) : aU m s = (m s).bind fun x => match x.1 with
  | .bl b => .ok (b, x.2)
  | _ => .bad := rfl
@[simp] theorem uy (a b : TM) (s : S) : mX a b s = (a s).bind fun x => if x.1 then b x.2 else .ok (false, x.2) := rfl
@[simp] theorem Gd (a b : TM) (s : S) : orT a b s = (a s).bind fun x => if x.1 then .ok (true, x.2) else b x.2 := rfl
@[simp] theorem Fc (a : TM) (s : S) : iY a s = (a s).bind fun x => .ok (!x.1, x.2) := rfl
@[simp] theorem ux (a b : EM) (s : S) : mL a b s = (a s).bind fun x => match x.1 with
  | .bl true => b x.2
  | .bl false => .ok (.bl false, x.2)
  | _ => .bad := rfl
@[simp] theorem Jo (a b : EM) (s : S) : orV a b s = (a s).bind fun x => match x.1 with
  | .bl true => .ok (.bl true, x.2)
  | .bl false => b x.2
  | _ => .bad := rfl
@[simp] theorem IK (a : EM) (s : S) : Au a s = (a s).bind fun x => match x.1 with
  | .bl k => .ok (.bl (!k), x.2)
  | _ => .bad := rfl
@[simp] theorem qj (a b : SM) (s : S) : aM a b s = (a s).then b := rfl
@[simp] theorem bX (s : S) : cu s = .next s := rfl
@[simp] theorem HL (m : EM) (s : S) : ix m s = (m s).out fun x => .next x.2 := rfl
@[simp] theorem Ja (m : EM) (s : S) : bN m s = (m s).out fun x => .ret x.1 x.2 := rfl
@[simp] theorem IA (s : S) : HJ s = .ret .non s := rfl
@[simp] theorem Jq (c : TM) (a b : SM) (s : S) : ifS c a b s = (c s).out fun x => if x.1 then a x.2 else b x.2 := rfl
@[simp] theorem Jl (c : TM) (a b : EM) (s : S) : ifM c a b s = (c s).bind fun x => if x.1 then a x.2 else b x.2 := rfl
@[simp] theorem CS (i : Nat) (d : D) (s : S) : aE i d s = .ok ⟨s.r.set i (some d), s.o⟩ := rfl
@[simp] theorem qz (m : EM) (g : GM) (s : S) : jR m g s = ((m s).bind fun x => g x.1 x.2).out fun s => .next s := rfl
@[simp] theorem Jc (i : Nat) (f : Op2) (m : EM) (s : S) : HW i f m s = jR (aj f (aa i) m) (aE i) s := rfl
@[simp] theorem CU (s : S) : bT s = .ok (true, s) := rfl
@[simp] theorem HD (s : S) : gG s = .ok (none, s) := rfl
@[simp] theorem Fe (m : EM) (s : S) : part m s = (m s).bind fun x => match x.1 with
  | .int i => .ok (some i, x.2)
  | _ => .bad := rfl
@[simp] theorem GR (me : EM) (ml mh : OM) (s : S) : slM me ml mh s = (me s).bind fun x => (ml x.2).bind fun l => (mh l.2).bind fun h => match lsD h.2.o x.1 with
  | some ds => .ok (.lst (cutD ds l.1 h.1), h.2)
  | none => .bad := rfl
@[simp] theorem bW (m : EM) (s : S) : listI m s = (m s).bind fun x => (itemsOf x.2.o x.1).bind fun y => .ok (y, x.2) := rfl
@[simp] theorem G0 (O : au) (ds : List D) : itemsOf O (.lst ds) = .ok (ds, none) := rfl
theorem Eu (im : IM) (g : GM) (body : SM) (s : S) : fP im g body s = (im s).out fun y => bt (okC y.1.1 y.1.2) g body y.1.1 y.2 := rfl
theorem nU (m : Nat) (caps : List Nat) (im : IM) (g : GM) (c : TM) (e : EM) (s : S) : kr m caps im g c e s = (im s).bind fun y =>
  (cT (okC y.1.1 y.1.2) g c e y.1.1 [] ⟨j1 m caps y.2.r, y.2.o⟩).bind fun z => .ok (z.1, ⟨y.2.r, z.2.o⟩) := rfl
theorem mj (m : Nat) (caps : List Nat) (im : IM) (g : GM) (c : TM) (e : EM) (s : S) : cf m caps im g c e s = (kr m caps im g c e s).bind fun y => .ok (.lst y.1, y.2) := rfl
theorem rq (m : Nat) (caps : List Nat) (im : IM) (g : GM) (c : TM) (e : EM) (s : S) : jO m caps im g c e s = (kr m caps im g c e s).bind fun y => .ok (.ptr y.2.o.length, ⟨y.2.r, y.2.o ++ [.lst y.1]⟩) := rfl
@[simp] theorem DB (n : Nat) (f : FM) (m : AM) (s : S) : bF n f m s = (m s).bind fun x => if bf x.1 = true ∧ x.1.length = n then (match f x.1 [] with
  | .ok (d, _) => if cQ d = true then .ok (d, x.2) else .bad
  | _ => .bad) else .bad := rfl
@[simp] theorem CD (n : Nat) (f : FM) (m : AM) (s : S) : dC n f m s = (m s).bind fun x => if bf x.1 = true ∧ x.1.length = n then (match f x.1 [] with
  | .ok (d, O1) => .ok (shD x.2.o.length d, ⟨x.2.r, x.2.o ++ O1.map (shC x.2.o.length)⟩)
  | _ => .bad) else .bad := rfl
@[simp] theorem Ik (n : Nat) (f : FM) (m : AM) (s : S) : dJ n f m s = (m s).bind fun x => if bf (bR x.2.o (bR x.2.o x.1)) = true ∧ x.1.length = n then (match f (bR x.2.o (bR x.2.o x.1)) [] with
  | .ok (d, _) => if mF d = true then .ok (d, x.2) else .bad
  | _ => .bad) else .bad := rfl
@[simp] theorem Dh (m : EM) (s : S) : vM m s = (m s).bind fun x => match qc x.2.o x.1 with
  | some ds => .ok (.ptr x.2.o.length, ⟨x.2.r, x.2.o ++ [.lst ds]⟩)
  | none => .bad := rfl
@[simp] theorem EN (m : EM) (s : S) : gH m s = (m s).bind fun x => match j9 x.2.o x.1 with
  | some (k, ds) => .ok (.lst ds, ⟨x.2.r, x.2.o.set k .dead⟩)
  | none => .bad := rfl
@[simp] theorem Eg (mo me : EM) (s : S) : kN mo me s = (mo s).bind fun x => match j9 x.2.o x.1 with
  | some _ => (me x.2).bind fun y => match j9 y.2.o x.1 with
    | some (k, ds) => if ds.length < 16777216 then .ok (.non, ⟨y.2.r, y.2.o.set k (.lst (ds ++ [y.1]))⟩) else .bad
    | none => .bad
  | none => .bad := rfl
@[simp] theorem gB {O : au} {k : Nat} {ds : List D} (h : O[k]? = some (.lst ds)) : lsD O (.ptr k) = some ds := by unfold lsD; simp only [h]
@[simp] theorem mn {O : au} {k : Nat} {ds : List D} (h : O[k]? = some (.lst ds)) : j9 O (.ptr k) = some (k, ds) := by unfold j9; simp only [h]
@[simp] theorem BF (O : au) (ds : List D) : qc O (.lst ds) = some ds := rfl
@[simp] theorem Hv (O : au) (ds : List D) : qc O (.tup ds) = some ds := rfl
@[simp] theorem Ht {O : au} {k : Nat} {ds : List D} (h : O[k]? = some (.lst ds)) : qc O (.ptr k) = some ds := by show lsD O (.ptr k) = _; exact gB h
@[simp] theorem yB {O : au} {k : Nat} {ds : List D} (h : O[k]? = some (.lst ds)) : itemsOf O (.ptr k) = .ok (ds, some k) := by unfold itemsOf; simp only [h]
@[simp] theorem fC (n k : Nat) : shD n (.ptr k) = .ptr (n + k) := by unfold shD; rfl
@[simp] theorem Ai : bf [] = true := by unfold bf; rfl
@[simp] theorem dc (d : D) (ds : List D) : bf (d :: ds) = (cQ d && bf ds) := by conv => lhs; unfold bf
@[simp] theorem uM (i : Int) : cQ (.int i) = true := by unfold cQ; rfl
@[simp] theorem HN (i : Bool) : cQ (.bl i) = true := by unfold cQ; rfl
@[simp] theorem Hx (i : Str) : cQ (.str i) = true := by unfold cQ; rfl
@[simp] theorem HB : cQ .non = true := by unfold cQ; rfl
@[simp] theorem gP (ds : List D) : cQ (.lst ds) = bf ds := by conv => lhs; unfold cQ
@[simp] theorem Hu (ds : List D) : cQ (.tup ds) = bf ds := by conv => lhs; unfold cQ
@[simp] theorem qR (ns : List Int) : bf (ns.map D.int) = true := oP ns
@[simp] theorem yZ (O : au) (i : Int) : res O (.int i) = .int i := by unfold res; rfl
@[simp] theorem Jh (O : au) (i : Bool) : res O (.bl i) = .bl i := by unfold res; rfl
@[simp] theorem IL (O : au) (i : Str) : res O (.str i) = .str i := by unfold res; rfl
@[simp] theorem IF (O : au) : res O .non = .non := by unfold res; rfl
@[simp] theorem d7 (O : au) (ds : List D) : res O (.lst ds) = .lst (bR O ds) := by conv => lhs; unfold res
@[simp] theorem EL (O : au) (ds : List D) : res O (.tup ds) = .tup (bR O ds) := by conv => lhs; unfold res
@[simp] theorem hX {O : au} {k : Nat} {ds : List D} (h : O[k]? = some (.lst ds)) : res O (.ptr k) = .lst ds := by conv => lhs; unfold res; simp only [h]
@[simp] theorem eQ (O : au) : bR O [] = [] := by unfold bR; rfl
@[simp] theorem dr (O : au) (d : D) (ds : List D) : bR O (d :: ds) = res O d :: bR O ds := by conv => lhs; unfold bR
@[simp] theorem dP (O : au) (ns : List Int) : bR O (ns.map D.int) = ns.map D.int := kz ns
@[simp] theorem Iq (b : Bool) : mF (.bl b) = true := rfl
@[simp] theorem Hs (b : Int) : mF (.int b) = true := rfl
@[simp] theorem Hw (b : Str) : mF (.str b) = true := rfl
@[simp] theorem Ej {O : au} {k : Nat} {ds : List D} (h : O[k]? = some (.lst ds)) (c : String) : gE c O (.ptr k) = .ok (.bl (eE "list" c)) := by
  unfold gE tyD; simp only [h]
@[simp] theorem vm (n : Nat) : ∀ ns : List Int, eR n (ns.map D.int) = ns.map D.int
  | [] => by simp [eR]
  | m :: ns => by simp [eR, shD, vm n ns]
@[simp] theorem uk (n : Nat) (ds : List D) : shC n (.lst ds) = .lst (eR n ds) := rfl
theorem yF {n : Nat} {m : SM} {ds : List D} {O : au} {d : D} (h : ∃ s, m ⟨ds.map some ++ List.replicate (n - ds.length) none, O⟩ = .ret d s) : ∃ O1, runM n m ds O = .ok (d, O1) := by
  obtain ⟨s, h⟩ := h
  exact ⟨s.o, cO h⟩
end
mutual
theorem Cy {O : au} : ∀ {d : D}, cQ d = true → res O d = d
  | .non, _ => by unfold res; rfl
  | .bl _, _ => by unfold res; rfl
  | .int _, _ => by unfold res; rfl
  | .str _, _ => by unfold res; rfl
  | .lst ds, h => by rw [d7, kI (by simpa using h)]
  | .tup ds, h => by rw [EL, kI (by simpa using h)]
  | .ptr _, h => by unfold cQ at h; cases h
  | .obj c ns ds, h => by unfold res; rfl
  | .exn c, h => by unfold res; rfl
theorem kI {O : au} : ∀ {ds : List D}, bf ds = true → bR O ds = ds
  | [], _ => eQ O
  | d :: ds, h => by
    rw [dc, Bool.and_eq_true] at h
    rw [dr, Cy h.1, kI h.2]
end
theorem yH {O : au} {k : Nat} {ds : List D} (h : O[k]? = some (.lst ds)) (hp : bf ds = true) (es : List D) : eqB O (.ptr k) (.lst es) = eqB O (.lst ds) (.lst es) := by
  show fL O _ _ = fL O _ _
  unfold fL
  simp only [hX h, d7, kI hp]
@[simp] theorem IE {O : au} {k : Nat} {ds : List D} (h : O[k]? = some (.lst ds)) (hp : bf ds = true) (es : List D) : eqD O (.ptr k) (.lst es) = eqD O (.lst ds) (.lst es) := by unfold eqD; rw [yH h hp]
@[simp] theorem IC {O : au} {k : Nat} {ds : List D} (h : O[k]? = some (.lst ds)) (hp : bf ds = true) (es : List D) : neD O (.ptr k) (.lst es) = neD O (.lst ds) (.lst es) := by unfold neD; rw [yH h hp]
theorem px {ms : List Int} {n : Nat} : cutD (ms.map D.int) none (some (n : Int)) = (ms.take n).map D.int := by
  unfold cutD
  rw [HT.xi, HT.qi, List.drop_zero, Nat.sub_zero, List.length_map, ← List.map_take]
  congr 1
  by_cases h : n ≤ ms.length
  · rw [Nat.min_eq_left h]
  · rw [Nat.min_eq_right (by omega), List.take_of_length_le (Nat.le_refl _), List.take_of_length_le (by omega)]
end M
set_option maxRecDepth 100000
set_option maxHeartbeats 4000000
namespace M
open PySem PySem.Spec PyProof.Rows L2
def rat (a b : Int) : Int × Int := (a.fdiv (if b < 0 then -(Int.gcd a b : Int) else Int.gcd a b), b.fdiv (if b < 0 then -(Int.gcd a b : Int) else Int.gcd a b))
theorem wH {a b : Int} (h : b ≠ 0) : ∃ g : Int, g ≠ 0 ∧ g.natAbs = Int.gcd a b ∧ a = g * (rat a b).1 ∧ b = g * (rat a b).2 ∧ 0 < (rat a b).2 ∧ Int.gcd (rat a b).1 (rat a b).2 = 1 := by
  have hg : 0 < Int.gcd a b := Int.gcd_pos_of_ne_zero_right a h
  have ha : (Int.gcd a b : Int) ∣ a := Int.gcd_dvd_left a b
  have hb : (Int.gcd a b : Int) ∣ b := Int.gcd_dvd_right a b
  obtain ⟨x, hx⟩ := ha
  obtain ⟨y, hy⟩ := hb
  have one : Int.gcd x y = 1 := by
    have e : Int.gcd a b = Int.gcd a b * Int.gcd x y := by
      have e0 : Int.gcd ((Int.gcd a b : Int) * x) ((Int.gcd a b : Int) * y) = Int.gcd a b * Int.gcd x y := by rw [Int.gcd_mul_left, Int.natAbs_natCast]
      rw [← hx, ← hy] at e0
      exact e0
    have : Int.gcd a b * 1 = Int.gcd a b * Int.gcd x y := by rw [Nat.mul_one]; exact e
    exact (Nat.eq_of_mul_eq_mul_left hg this).symm
  by_cases hn : b < 0
  · have hc : (-(Int.gcd a b : Int)) ≠ 0 := by omega
    have e1 : (rat a b).1 = -x := by
      unfold rat
      rw [if_pos hn]
      show a.fdiv _ = _
      conv => lhs; lhs; rw [hx, ← Int.neg_mul_neg]
      exact Int.mul_fdiv_cancel_left _ hc
    have e2 : (rat a b).2 = -y := by
      unfold rat
      rw [if_pos hn]
      show b.fdiv _ = _
      conv => lhs; lhs; rw [hy, ← Int.neg_mul_neg]
      exact Int.mul_fdiv_cancel_left _ hc
    refine ⟨-(Int.gcd a b : Int), hc, by rw [Int.natAbs_neg, Int.natAbs_natCast], by rw [e1, Int.neg_mul_neg]; exact hx, by rw [e2, Int.neg_mul_neg]; exact hy, ?_, ?_⟩
    · rw [e2]
      have : ¬ 0 ≤ y := fun z => by
        have := Int.mul_nonneg (show (0 : Int) ≤ (Int.gcd a b : Int) by omega) z
        omega
      omega
    · rw [e1, e2, Int.neg_gcd, Int.gcd_neg]; exact one
  · have hc : (Int.gcd a b : Int) ≠ 0 := by omega
    have e1 : (rat a b).1 = x := by
      unfold rat
      rw [if_neg hn]
      show a.fdiv _ = _
      conv => lhs; lhs; rw [hx]
      exact Int.mul_fdiv_cancel_left _ hc
    have e2 : (rat a b).2 = y := by
      unfold rat
      rw [if_neg hn]
      show b.fdiv _ = _
      conv => lhs; lhs; rw [hy]
      exact Int.mul_fdiv_cancel_left _ hc
    refine ⟨(Int.gcd a b : Int), hc, by rw [Int.natAbs_natCast], by rw [e1]; exact hx, by rw [e2]; exact hy, ?_, ?_⟩
    · rw [e2]
      have hbp : 0 < b := by omega
      have : ¬ y ≤ 0 := fun z => by
        have := Int.mul_nonpos_of_nonneg_of_nonpos (show (0 : Int) ≤ (Int.gcd a b : Int) by omega) z
        omega
      omega
    · rw [e1, e2]; exact one
theorem yO {a b : Int} (h : b ≠ 0) : (rat a b).1.natAbs ≤ a.natAbs ∧ (rat a b).2.natAbs ≤ b.natAbs := by
  obtain ⟨g, hg, _, e1, e2, _⟩ := wH (a := a) h
  have hg1 : 1 ≤ g.natAbs := by omega
  constructor
  · conv => rhs; rw [e1, Int.natAbs_mul]
    exact Nat.le_mul_of_pos_left _ hg1
  · conv => rhs; rw [e2, Int.natAbs_mul]
    exact Nat.le_mul_of_pos_left _ hg1
theorem jG {ok : au → Prop} {g : GM} {body : SM} (P : List D → S → Prop) (hok : ∀ pre s, P pre s → ok s.o) : ∀ (ds pre : List D),
    (∀ pre' d rest, pre ++ ds = pre' ++ d :: rest → ∀ s, P pre' s → ∃ s1 s2, g d s = .ok s1 ∧ (body s1 = .next s2 ∨ body s1 = .cnt s2) ∧ P (pre' ++ [d]) s2) → ∀ s, P pre s → ∃ s', bt ok g body ds s = .next s' ∧ P (pre ++ ds) s'
  | [], pre, _, s, h => ⟨s, by rw [bt, if_pos (hok _ _ h)], by simpa using h⟩
  | d :: ds, pre, step, s, h => by
    obtain ⟨s1, s2, e1, e2, h2⟩ := step pre d ds rfl s h
    obtain ⟨s', e3, h3⟩ := jG P hok ds (pre ++ [d]) (fun pre' d' rest e => step pre' d' rest (by simpa using e)) s2 h2
    refine ⟨s', ?_, by simpa using h3⟩
    rw [bt, if_pos (hok _ _ h), e1, nF]
    rcases e2 with e2 | e2 <;> (rw [e2]; exact e3)
theorem dv {im : IM} {g : GM} {body : SM} {s s1 : S} {ds : List D} {k : Option Nat} (h : im s = .ok ((ds, k), s1)) : fP im g body s = bt (okC ds k) g body ds s1 := by rw [Eu, h, nF]
theorem kb {m : AM} {s s1 : S} {n : Nat} (h : m s = .ok ([.int (n : Int)], s1)) (hn : n ≤ 1000000) : jP m s = .ok ((dj 0 (n : Int), none), s1) := by
  show (m s).bind _ = _
  rw [h, ak]
  dsimp only
  rw [if_pos (by constructor <;> omega)]
section
variable {O : au}
@[simp] theorem JA (d : D) (ds : List D) : ixD O (.tup (d :: ds)) (.int 0) = .ok d := iS (by rw [ng (by decide) (by simp)]; rfl)
@[simp] theorem JB (d e : D) (ds : List D) : ixD O (.tup (d :: e :: ds)) (.int 1) = .ok e := iS (by rw [ng (by decide) (by simp; omega)]; rfl)
@[simp] theorem GF (d : D) (ds : List D) : ixD O (.lst (d :: ds)) (.int 0) = .ok d := qy (by rw [ng (by decide) (by simp)]; rfl)
@[simp] theorem HF (d e : D) (ds : List D) : ixD O (.lst (d :: e :: ds)) (.int 1) = .ok e := qy (by rw [ng (by decide) (by simp; omega)]; rfl)
theorem pD (ns : List Int) : SeqAt.shaped (.tuple (ns.map PyData.int)) = true := by
  simp [SeqAt.shaped, PyData.canLay0, ke, PyData.depth, lD]
theorem uP (ns ms : List Int) : eqB O (.tup (ns.map D.int)) (.tup (ms.map D.int)) = some (decide (ns = ms)) := by
  show fL O _ _ = _
  unfold fL
  simp only [res, kz, toPy, kY, Option.map_some]
  rw [if_pos ⟨pD ns, pD ms⟩]
  simp only [PyData.eqv, og]
@[simp] theorem Jk (a b c d : Int) : eqD O (.tup [.int a, .int b]) (.tup [.int c, .int d]) = .ok (.bl (decide (a = c ∧ b = d))) := by
  have := uP (O := O) [a, b] [c, d]
  unfold eqD
  rw [show eqB O (.tup [.int a, .int b]) (.tup [.int c, .int d]) = _ from this]
  simp
@[simp] theorem Jn (a b c d : Int) : neD O (.tup [.int a, .int b]) (.tup [.int c, .int d]) = .ok (.bl (!decide (a = c ∧ b = d))) := by
  have := uP (O := O) [a, b] [c, d]
  unfold neD
  rw [show eqB O (.tup [.int a, .int b]) (.tup [.int c, .int d]) = _ from this]
  simp
end
theorem Sz.rat {n m : Nat} {a b : Int} (hb : b ≠ 0) (h : Sz n a) (h' : Sz m b) : Sz n (rat a b).1 ∧ Sz m (rat a b).2 :=
  ⟨Nat.lt_of_le_of_lt (yO hb).1 h, Nat.lt_of_le_of_lt (yO hb).2 h'⟩
theorem Sz.sub {m n : Nat} {i j : Int} (h : Sz m i) (h' : Sz n j) : Sz (max m n + 1) (i - j) := by
  rw [Int.sub_eq_add_neg]
  refine Sz.add h ?_
  unfold Sz at *
  rw [Int.natAbs_neg]; exact h'
theorem Sz.neg {m : Nat} {i : Int} (h : Sz m i) : Sz m (-i) := by
  unfold Sz at *
  rw [Int.natAbs_neg]; exact h
end M
set_option maxRecDepth 100000
set_option maxHeartbeats 4000000
namespace M
def cV : Nat → (Nat → Int) → Int
  | 0, _ => 0
  | n + 1, f => cV n f + f n
theorem eX {n : Nat} {f g : Nat → Int} (h : ∀ i, i < n → f i = g i) : cV n f = cV n g := by
  induction n with
  | zero => rfl
  | succ n ih => rw [cV, cV, ih fun i hi => h i (by omega), h n (by omega)]
theorem jJ {n : Nat} {f : Nat → Int} (h : ∀ i, i < n → f i = 0) : cV n f = 0 := by
  induction n with
  | zero => rfl
  | succ n ih => rw [cV, ih fun i hi => h i (by omega), h n (by omega)]; rfl
theorem rE (n : Nat) (f g : Nat → Int) : cV n (fun i => f i + g i) = cV n f + cV n g := by
  induction n with
  | zero => rfl
  | succ n ih => simp only [cV, ih]; omega
theorem gu (n : Nat) (c : Int) (f : Nat → Int) : cV n (fun i => c * f i) = c * cV n f := by
  induction n with
  | zero => simp [cV]
  | succ n ih => simp only [cV, ih, Int.mul_add]
def nth (r : List Int) (i : Nat) : Int := r.getD i 0
def d6 (n : Nat) (r : List Int) (x : Nat → Int) : Int := cV n fun i => nth r i * x i
def rk (n : Nat) (R : List (List Int)) (x : Nat → Int) : Prop := ∀ r ∈ R, d6 n r x = 0
def low (ns : List Int) : List Int := if bV ns = 0 then ns else ns.map (· / (bV ns : Int))
theorem low_length (ns : List Int) : (low ns).length = ns.length := by unfold low; split <;> simp
theorem iR {f : Int → Int} (h0 : f 0 = 0) (r : List Int) (i : Nat) : nth (r.map f) i = f (nth r i) := by
  unfold nth
  rw [List.getD_eq_getElem?_getD, List.getD_eq_getElem?_getD, List.getElem?_map]
  cases r[i]? with
  | none => exact h0.symm
  | some a => rfl
theorem dH {r : List Int} {i : Nat} (h : i < r.length) : nth r i ∈ r := by
  unfold nth
  rw [List.getD_eq_getElem?_getD, List.getElem?_eq_getElem h]
  exact List.getElem_mem h
theorem cI {r : List Int} {i : Nat} (h : r.length ≤ i) : nth r i = 0 := by
  unfold nth
  rw [List.getD_eq_getElem?_getD, List.getElem?_eq_none h]
  rfl
theorem lZ (r : List Int) (i : Nat) : ((bV r : Nat) : Int) ∣ nth r i := by
  by_cases h : i < r.length
  · exact vZ (dH h)
  · rw [cI (by omega)]; exact Int.dvd_zero _
def qG (r : List Int) : Int := if bV r = 0 then 1 else (bV r : Int)
theorem kH (r : List Int) : 0 < qG r := by unfold qG; split <;> omega
theorem j5 (r : List Int) (i : Nat) : nth r i = qG r * nth (low r) i := by
  unfold low qG
  split
  · omega
  · rw [iR (by simp), Int.mul_ediv_cancel' (lZ r i)]
theorem xp {r : List Int} (h : bV r = 0) (i : Nat) : nth r i = 0 := by
  have := lZ r i
  rw [h] at this
  simpa using this
theorem yI {r : List Int} {i : Nat} (h : nth r i ≠ 0) : bV (low r) = 1 := by
  have h0 : bV r ≠ 0 := fun e => h (xp e i)
  unfold low
  rw [if_neg h0]
  exact C9 (Nat.pos_of_ne_zero h0)
def jo (one : List Int) (v : Int) (other : List Int) (w : Int) : List Int := List.zipWith (fun a b => a * w - b * v) one other
def cU (one : List Int) (v : Int) (other : List Int) (w : Int) : List Int := low (jo one v other w)
theorem mT {one other : List Int} (h : one.length = other.length) (v w : Int) : (jo one v other w).length = one.length := by
  unfold jo; rw [List.length_zipWith, ← h, Nat.min_self]
theorem wM {one other : List Int} (h : one.length = other.length) (v w : Int) (i : Nat) : nth (jo one v other w) i = nth one i * w - nth other i * v := by
  by_cases hi : i < one.length
  · unfold jo nth
    simp only [List.getD_eq_getElem?_getD, List.getElem?_zipWith, List.getElem?_eq_getElem hi, List.getElem?_eq_getElem (h ▸ hi : i < other.length)]
    rfl
  · rw [cI (by rw [mT h]; omega), cI (r := one) (by omega), cI (r := other) (by omega)]
    simp
theorem mV {one other : List Int} (h : one.length = other.length) (v w : Int) : (cU one v other w).length = one.length := by
  unfold cU; rw [low_length, mT h]
theorem nJ {one other : List Int} (h : one.length = other.length) (v w : Int) : ∃ g : Int, 0 < g ∧ ∀ i, g * nth (cU one v other w) i = nth one i * w - nth other i * v := by
  refine ⟨qG (jo one v other w), kH _, fun i => ?_⟩
  unfold cU
  rw [← j5, wM h]
theorem wY {n : Nat} {a b c : List Int} {g u v : Int} (h : ∀ i, g * nth c i = u * nth a i + v * nth b i) (x : Nat → Int) : g * d6 n c x = u * d6 n a x + v * d6 n b x := by
  unfold d6
  rw [← gu, ← gu, ← gu, ← rE]
  refine eX fun i _ => ?_
  have := h i
  grind
theorem nK {n : Nat} {a c : List Int} {g : Int} (h : ∀ i, nth a i = g * nth c i) (x : Nat → Int) : d6 n a x = g * d6 n c x := by
  unfold d6
  rw [← gu]
  refine eX fun i _ => ?_
  rw [h i, Int.mul_assoc]
theorem Cs {n : Nat} {one other : List Int} (h : one.length = other.length) (v w : Int) (x : Nat → Int) : ∃ g : Int, 0 < g ∧ g * d6 n (cU one v other w) x = w * d6 n one x - v * d6 n other x := by
  obtain ⟨g, hg, e⟩ := nJ h v w
  refine ⟨g, hg, ?_⟩
  have := wY (n := n) (c := cU one v other w) (a := one) (b := other) (g := g) (u := w) (v := -v) (fun i => by rw [e i]; grind) x
  rw [this]; grind
theorem DM (n : Nat) (r : List Int) (x : Nat → Int) : d6 n (low r) x = 0 ↔ d6 n r x = 0 := by
  rw [nK (fun i => j5 r i) x]
  have := kH r
  constructor
  · intro h; rw [h]; simp
  · intro h
    rcases Int.mul_eq_zero.mp h with z | z
    · omega
    · exact z
end M
set_option maxRecDepth 100000
set_option maxHeartbeats 4000000
namespace M
def dg : List Int → Option Nat
  | [] => none
  | a :: r => if a ≠ 0 then some 0 else (dg r).map (· + 1)
theorem lY : ∀ {l : List Int}, dg l = none → ∀ a ∈ l, a = 0
  | [], _, _, h => by simp at h
  | b :: r, e, a, h => by
    unfold dg at e
    split at e
    · cases e
    · rename_i hb
      rcases List.mem_cons.mp h with rfl | h
      · simpa using hb
      · exact lY (by simpa using e) a h
theorem iA : ∀ {l : List Int} {k : Nat}, dg l = some k → k < l.length ∧ nth l k ≠ 0 ∧ ∀ i, i < k → nth l i = 0
  | [], _, e => by cases e
  | b :: r, k, e => by
    unfold dg at e
    split at e
    · rename_i hb
      cases e
      exact ⟨by simp, hb, fun i hi => by omega⟩
    · rename_i hb
      cases e2 : dg r with
      | none => rw [e2] at e; cases e
      | some j =>
        rw [e2] at e
        cases e
        obtain ⟨h1, h2, h3⟩ := iA e2
        refine ⟨by simp; omega, by simpa [nth] using h2, fun i hi => ?_⟩
        cases i with
        | zero => simpa [nth] using hb
        | succ i => simpa [nth] using h3 i (Nat.lt_of_succ_lt_succ hi)
def iz (row : List Int) (at_ : Nat) : List Int := if nth row at_ > 0 then row else row.map (- ·)
def fG (lead : List Int) (at_ : Nat) (row : List Int) : List Int := if nth row at_ = 0 then row else cU row (nth row at_) lead (nth lead at_)
def cY (s : List (List Int) × List (List Int)) (at_ : Nat) : List (List Int) × List (List Int) :=
  match dg (s.1.map (nth · at_)) with
  | none => s
  | some k => ((s.1.eraseIdx k).map (fG (iz (s.1.getD k []) at_) at_), s.2.map (fG (iz (s.1.getD k []) at_) at_) ++ [iz (s.1.getD k []) at_])
def AU (rows : List (List Int)) (n : Nat) : List (List Int) := ((List.range n).foldl cY (rows.map low, [])).2
structure Good (n : Nat) (p : Nat × List Int) : Prop where
  len : p.2.length = n
  lt : p.1 < n
  pos : 0 < nth p.2 p.1
  zero : ∀ i, i < p.1 → nth p.2 i = 0
  one : bV p.2 = 1
structure Pl (n : Nat) (P : List (Nat × List Int)) : Prop where
  good : ∀ p ∈ P, Good n p
  pw : P.Pairwise fun p q => p.1 < q.1 ∧ nth p.2 q.1 = 0
def pb (r : List Int) : Prop := ∀ i, nth r i ≠ 0 → bV r = 1
theorem rX (r : List Int) : pb (low r) := fun i h => yI (i := i) fun z => by
  have := j5 r i
  rw [z] at this
  rcases Int.mul_eq_zero.mp this.symm with q | q
  · have := kH r; omega
  · exact h q
theorem C0 (r : List Int) : bV (r.map (- ·)) = bV r := by
  unfold bV
  have : ∀ (l : List Int) (c : Nat), (l.map (- ·)).foldl (fun c n => Nat.gcd c n.natAbs) c = l.foldl (fun c n => Nat.gcd c n.natAbs) c := by
    intro l
    induction l with
    | nil => intro c; rfl
    | cons a l ih => intro c; simp only [List.map_cons, List.foldl_cons, Int.natAbs_neg]; exact ih _
  exact this r 0
theorem yr (row : List Int) (a : Nat) : (iz row a).length = row.length := by unfold iz; split <;> simp
theorem wR (row : List Int) (a : Nat) : ∃ g : Int, (g = 1 ∨ g = -1) ∧ ∀ i, nth (iz row a) i = g * nth row i := by
  unfold iz
  split
  · exact ⟨1, .inl rfl, fun i => by omega⟩
  · exact ⟨-1, .inr rfl, fun i => by rw [iR (by simp)]; omega⟩
theorem Be {row : List Int} {a : Nat} (h : pb row) : pb (iz row a) := by
  unfold iz
  split
  · exact h
  · intro i hi
    rw [C0]
    refine h i fun z => hi ?_
    rw [iR (by simp), z]; rfl
theorem CZ {row : List Int} {a : Nat} (h : nth row a ≠ 0) : 0 < nth (iz row a) a := by
  unfold iz
  split
  · assumption
  · rw [iR (by simp)]; omega
theorem EK (n : Nat) (row : List Int) (a : Nat) (x : Nat → Int) : d6 n (iz row a) x = 0 ↔ d6 n row x = 0 := by
  obtain ⟨g, hg, e⟩ := wR row a
  have := nK (n := n) (a := iz row a) (c := row) e x
  rw [this]
  rcases hg with rfl | rfl <;> omega
section
variable {lead row : List Int} {a : Nat}
theorem qW (h : row.length = lead.length) : (fG lead a row).length = row.length := by
  unfold fG; split
  · rfl
  · exact mV h _ _
theorem rL (hl : 0 < nth lead a) (h : row.length = lead.length) : ∃ g u : Int, 0 < g ∧ 0 < u ∧ ∃ v : Int, (nth row a = 0 → v = 0) ∧ ∀ i, g * nth (fG lead a row) i = u * nth row i - v * nth lead i := by
  unfold fG
  split
  · exact ⟨1, 1, by omega, by omega, 0, fun _ => rfl, fun i => by omega⟩
  · rename_i hz
    obtain ⟨g, hg, e⟩ := nJ h (nth row a) (nth lead a)
    exact ⟨g, nth lead a, hg, hl, nth row a, fun z => absurd z hz, fun i => by rw [e i]; grind⟩
theorem yM (hl : 0 < nth lead a) (h : row.length = lead.length) : nth (fG lead a row) a = 0 := by
  unfold fG
  split
  · assumption
  · obtain ⟨g, hg, e⟩ := nJ h (nth row a) (nth lead a)
    have := e a
    have : g * nth (cU row (nth row a) lead (nth lead a)) a = 0 := by rw [this]; grind
    rcases Int.mul_eq_zero.mp this with z | z
    · omega
    · exact z
theorem uN (h : pb row) : pb (fG lead a row) := by
  unfold fG
  split
  · exact h
  · exact rX _
theorem pZ (hl : 0 < nth lead a) (h : row.length = lead.length) {i : Nat} (h1 : nth row i = 0) (h2 : nth lead i = 0) : nth (fG lead a row) i = 0 := by
  obtain ⟨g, u, hg, hu, v, _, e⟩ := rL hl h
  have := e i
  rw [h1, h2] at this
  have : g * nth (fG lead a row) i = 0 := by rw [this]; grind
  rcases Int.mul_eq_zero.mp this with z | z
  · omega
  · exact z
theorem CG (hl : 0 < nth lead a) (h : row.length = lead.length) {i : Nat} (h1 : 0 < nth row i) (h2 : nth lead i = 0) : 0 < nth (fG lead a row) i := by
  obtain ⟨g, u, hg, hu, v, _, e⟩ := rL hl h
  have e' := e i
  rw [h2] at e'
  have : 0 < g * nth (fG lead a row) i := by
    rw [e']
    have := Int.mul_pos hu h1
    omega
  by_cases hn : nth (fG lead a row) i ≤ 0
  · have := Int.mul_nonpos_of_nonneg_of_nonpos (show 0 ≤ g by omega) hn
    omega
  · omega
theorem qq (n : Nat) (hl : 0 < nth lead a) (h : row.length = lead.length) {x : Nat → Int} (hx : d6 n lead x = 0) : d6 n (fG lead a row) x = 0 ↔ d6 n row x = 0 := by
  obtain ⟨g, u, hg, hu, v, _, e⟩ := rL hl h
  have := wY (n := n) (c := fG lead a row) (a := row) (b := lead) (g := g) (u := u) (v := -v) (fun i => by rw [e i]; grind) x
  rw [hx] at this
  constructor
  · intro z
    rw [z] at this
    have : u * d6 n row x = 0 := by omega
    rcases Int.mul_eq_zero.mp this with q | q
    · omega
    · exact q
  · intro z
    rw [z] at this
    have : g * d6 n (fG lead a row) x = 0 := by omega
    rcases Int.mul_eq_zero.mp this with q | q
    · omega
    · exact q
end
structure PSt (n a : Nat) (left : List (List Int)) (P : List (Nat × List Int)) : Prop where
  ll : ∀ r ∈ left, r.length = n
  lz : ∀ r ∈ left, ∀ i, i < a → nth r i = 0
  lw : ∀ r ∈ left, pb r
  pl : Pl n P
  pa : ∀ p ∈ P, p.1 < a
theorem yD (left : List (List Int)) (a k : Nat) : nth (left.map (nth · a)) k = nth (left.getD k []) a := by
  unfold nth
  simp only [List.getD_eq_getElem?_getD, List.getElem?_map]
  cases left[k]? with
  | none => rfl
  | some r => rfl
theorem getD_mem {left : List (List Int)} {k : Nat} (h : k < left.length) : left.getD k [] ∈ left := by
  rw [List.getD_eq_getElem?_getD, List.getElem?_eq_getElem h]
  exact List.getElem_mem h
theorem sC : ∀ {l : List (List Int)} {k : Nat} (h : k < l.length), l.Perm (l[k] :: l.eraseIdx k)
  | [], k, h => by simp at h
  | a :: l, 0, h => by simp
  | a :: l, k + 1, h => by
    have := sC (l := l) (k := k) (by simpa using h)
    simp only [List.getElem_cons_succ, List.eraseIdx_cons_succ]
    exact (this.cons a).trans (List.Perm.swap _ _ _)
theorem EH {n a : Nat} (ha : a < n) {left : List (List Int)} {P : List (Nat × List Int)} (h : PSt n a left P) :
    ∃ left' P', cY (left, P.map (·.2)) a = (left', P'.map (·.2)) ∧ PSt n (a + 1) left' P' ∧ left'.length + P'.length = left.length + P.length ∧ ∀ x, rk n (P'.map (·.2) ++ left') x ↔ rk n (P.map (·.2) ++ left) x := by
  unfold cY
  dsimp only
  split
  · rename_i e
    refine ⟨left, P, rfl, ⟨h.ll, fun r hr i hi => ?_, h.lw, h.pl, fun p hp => Nat.lt_succ_of_lt (h.pa p hp)⟩, rfl, fun x => Iff.rfl⟩
    by_cases hia : i = a
    · subst hia
      exact lY e _ (List.mem_map.mpr ⟨r, hr, rfl⟩)
    · exact h.lz r hr i (by omega)
  · rename_i k e
    obtain ⟨k1, k2, _⟩ := iA e
    rw [List.length_map] at k1
    rw [yD] at k2
    have hm : left.getD k [] ∈ left := getD_mem k1
    have hperm : left.Perm (left.getD k [] :: left.eraseIdx k) := by
      rw [List.getD_eq_getElem?_getD, List.getElem?_eq_getElem k1]
      exact sC k1
    generalize left.getD k [] = row at *
    generalize hld : iz row a = lead at *
    have ll : lead.length = n := by rw [← hld, yr]; exact h.ll row hm
    have lp : 0 < nth lead a := by rw [← hld]; exact CZ k2
    have lz : ∀ i, i < a → nth lead i = 0 := fun i hi => by
      obtain ⟨g, _, e⟩ := wR row a
      rw [← hld, e, h.lz row hm i hi]; omega
    have lw : pb lead := by rw [← hld]; exact Be (h.lw row hm)
    have sub : ∀ r ∈ left.eraseIdx k, r ∈ left := fun r hr => List.mem_of_mem_eraseIdx hr
    refine ⟨(left.eraseIdx k).map (fG lead a), P.map (fun p => (p.1, fG lead a p.2)) ++ [(a, lead)], ?_, ⟨?_, ?_, ?_, ⟨?_, ?_⟩, ?_⟩, ?_, ?_⟩
    · simp [Function.comp_def]
    · intro r hr
      obtain ⟨q, hq, rfl⟩ := List.mem_map.mp hr
      rw [qW (by rw [ll, h.ll q (sub q hq)]), h.ll q (sub q hq)]
    · intro r hr i hi
      obtain ⟨q, hq, rfl⟩ := List.mem_map.mp hr
      have hql : q.length = lead.length := by rw [ll, h.ll q (sub q hq)]
      by_cases hia : i = a
      · subst hia; exact yM lp hql
      · exact pZ lp hql (h.lz q (sub q hq) i (by omega)) (lz i (by omega))
    · intro r hr
      obtain ⟨q, hq, rfl⟩ := List.mem_map.mp hr
      exact uN (h.lw q (sub q hq))
    · intro p hp
      rcases List.mem_append.mp hp with hp | hp
      · obtain ⟨q, hq, rfl⟩ := List.mem_map.mp hp
        have g := h.pl.good q hq
        have hql : q.2.length = lead.length := by rw [ll, g.len]
        have pp := CG lp hql g.pos (lz q.1 (h.pa q hq))
        exact ⟨by rw [qW hql]; exact g.len, g.lt, pp, fun i hi => pZ lp hql (g.zero i hi) (lz i (Nat.lt_trans hi (h.pa q hq))), uN (fun i _ => g.one) q.1 (by omega)⟩
      · rw [List.mem_singleton.mp hp]
        exact ⟨ll, ha, lp, lz, lw a (by omega)⟩
    · rw [List.pairwise_append]
      refine ⟨?_, by simp, fun p hp q hq => ?_⟩
      · rw [List.pairwise_map]
        refine List.Pairwise.imp_of_mem (fun {p q} hp hq hpq => ?_) h.pl.pw
        refine ⟨hpq.1, ?_⟩
        have g := h.pl.good p hp
        exact pZ lp (by rw [ll, g.len]) hpq.2 (lz q.1 (h.pa q hq))
      · obtain ⟨p', hp', rfl⟩ := List.mem_map.mp hp
        rw [List.mem_singleton.mp hq]
        exact ⟨h.pa p' hp', yM lp (by rw [ll, (h.pl.good p' hp').len])⟩
    · intro p hp
      rcases List.mem_append.mp hp with hp | hp
      · obtain ⟨q, hq, rfl⟩ := List.mem_map.mp hp
        exact Nat.lt_succ_of_lt (h.pa q hq)
      · rw [List.mem_singleton.mp hp]; exact Nat.lt_succ_self a
    · have := hperm.length_eq
      simp only [List.length_map, List.length_append, List.length_cons, List.length_nil] at *
      omega
    · intro x
      have hlead : d6 n lead x = 0 ↔ d6 n row x = 0 := by rw [← hld]; exact EK n row a x
      constructor
      · intro hx r hr
        have h0 : d6 n lead x = 0 := hx lead (by simp)
        rcases List.mem_append.mp hr with hr | hr
        · obtain ⟨p, hp, rfl⟩ := List.mem_map.mp hr
          exact (qq n lp (by rw [ll, (h.pl.good p hp).len]) h0).mp (hx _ (List.mem_append_left _ (List.mem_map.mpr ⟨(p.1, fG lead a p.2), by simp; exact .inl ⟨p.1, p.2, hp, rfl, rfl⟩, rfl⟩)))
        · rcases List.mem_cons.mp (hperm.mem_iff.mp hr) with rfl | hr
          · exact hlead.mp h0
          · exact (qq n lp (by rw [ll, h.ll r (sub r hr)]) h0).mp (hx _ (List.mem_append_right _ (List.mem_map.mpr ⟨r, hr, rfl⟩)))
      · intro hx r hr
        have h0 : d6 n lead x = 0 := hlead.mpr (hx row (List.mem_append_right _ hm))
        rcases List.mem_append.mp hr with hr | hr
        · obtain ⟨q, hq, rfl⟩ := List.mem_map.mp hr
          rcases List.mem_append.mp hq with hq | hq
          · obtain ⟨p, hp, rfl⟩ := List.mem_map.mp hq
            exact (qq n lp (by rw [ll, (h.pl.good p hp).len]) h0).mpr (hx _ (List.mem_append_left _ (List.mem_map.mpr ⟨p, hp, rfl⟩)))
          · rw [List.mem_singleton.mp hq]; exact h0
        · obtain ⟨q, hq, rfl⟩ := List.mem_map.mp hr
          exact (qq n lp (by rw [ll, h.ll q (sub q hq)]) h0).mpr (hx _ (List.mem_append_right _ (sub q hq)))
theorem xj {n : Nat} {left : List (List Int)} (hl : ∀ r ∈ left, r.length = n) (hw : ∀ r ∈ left, pb r) : ∀ a, a ≤ n →
    ∃ left' P', (List.range a).foldl cY (left, []) = (left', P'.map (·.2)) ∧ PSt n a left' P' ∧ left'.length + P'.length = left.length ∧ ∀ x, rk n (P'.map (·.2) ++ left') x ↔ rk n left x
  | 0, _ => ⟨left, [], rfl, ⟨hl, fun _ _ i hi => by omega, hw, ⟨by simp, by simp⟩, by simp⟩, by simp, fun x => by simp⟩
  | a + 1, ha => by
    obtain ⟨l1, P1, e1, s1, c1, n1⟩ := xj hl hw a (by omega)
    obtain ⟨l2, P2, e2, s2, c2, n2⟩ := EH (by omega) s1
    refine ⟨l2, P2, ?_, s2, by omega, fun x => (n2 x).trans (n1 x)⟩
    rw [List.range_succ, List.foldl_append, e1]
    exact e2
end M
set_option maxRecDepth 100000
set_option maxHeartbeats 4000000
namespace M
def bI (n : Nat) (f g : Nat → Int) : Int := cV n fun i => f i * g i
theorem fm (n : Nat) (f g : Nat → Int) : bI n f g = bI n g f := eX fun i _ => Int.mul_comm _ _
theorem xu (n : Nat) (r : List Int) (x : Nat → Int) : d6 n r x = bI n (nth r) x := rfl
theorem xy {n : Nat} {a b c : Nat → Int} {g u v : Int} (h : ∀ i, i < n → g * c i = u * a i + v * b i) (x : Nat → Int) : g * bI n c x = u * bI n a x + v * bI n b x := by
  unfold bI
  rw [← gu, ← gu, ← gu, ← rE]
  refine eX fun i hi => ?_
  have := h i hi
  grind
theorem Bk {n : Nat} {a b : Nat → Int} {u v : Int} (x : Nat → Int) : bI n x (fun i => u * a i + v * b i) = u * bI n x a + v * bI n x b := by
  rw [fm n x a, fm n x b, fm, ← xy (g := 1) (c := fun i => u * a i + v * b i) (fun i _ => by omega) x]
  omega
theorem An {n : Nat} {a b : Nat → Int} (h : ∀ i, i < n → a i = b i) (x : Nat → Int) : bI n a x = bI n b x := eX fun i hi => by rw [h i hi]
def qe (T : List Int) (R : List (List Int)) (i : Nat) : Int := cV R.length fun j => nth T j * nth (R.getD j []) i
theorem B0 (m n : Nat) (f : Nat → Nat → Int) : cV m (fun i => cV n fun j => f i j) = cV n fun j => cV m fun i => f i j := by
  induction m with
  | zero => rw [jJ (n := n) (f := fun j => cV 0 fun i => f i j) fun _ _ => rfl]; rfl
  | succ m ih => simp only [cV]; rw [rE, ih]
theorem Dn (n : Nat) (T : List Int) (R : List (List Int)) (x : Nat → Int) : bI n (qe T R) x = cV R.length fun j => nth T j * d6 n (R.getD j []) x := by
  unfold bI qe
  have : ∀ i, (cV R.length fun j => nth T j * nth (R.getD j []) i) * x i = cV R.length fun j => nth T j * (nth (R.getD j []) i * x i) := fun i => by
    rw [Int.mul_comm, ← gu]
    refine eX fun j _ => by grind
  rw [eX fun i _ => this i, B0]
  refine eX fun j _ => ?_
  unfold d6
  rw [← gu]
theorem vt {n : Nat} {T : List Int} {R : List (List Int)} {x : Nat → Int} (h : rk n R x) : bI n (qe T R) x = 0 := by
  rw [Dn]
  refine jJ fun j hj => ?_
  rw [h _ (getD_mem hj)]
  omega
def tV (n : Nat) (R : List (List Int)) (x : Nat → Int) : Prop := ∃ k : Int, k ≠ 0 ∧ ∃ T : List Int, T.length = R.length ∧ ∀ i, i < n → k * x i = qe T R i
theorem tV.dot {n : Nat} {R : List (List Int)} {x y : Nat → Int} (h : tV n R x) (hy : rk n R y) : bI n x y = 0 := by
  obtain ⟨k, hk, T, _, e⟩ := h
  have h1 : k * bI n x y = 1 * bI n (qe T R) y + 0 * bI n x y := xy (g := k) (c := x) (a := qe T R) (b := x) (u := 1) (v := 0) (fun i hi => by rw [e i hi]; omega) y
  rw [vt hy] at h1
  have : k * bI n x y = 0 := by omega
  rcases Int.mul_eq_zero.mp this with z | z
  · exact absurd z hk
  · exact z
def gf (n a : Nat) : List Int := (List.replicate n 0).set a 1
theorem gQ {n a : Nat} (ha : a < n) (i : Nat) : nth (gf n a) i = if i = a then 1 else 0 := by
  unfold gf nth
  rw [List.getD_eq_getElem?_getD, List.getElem?_set]
  by_cases h : a = i
  · subst h; simp [ha]
  · rw [if_neg h, if_neg (fun z => h z.symm)]
    rw [List.getElem?_replicate]
    split <;> rfl
def gi (n : Nat) : List (List Int) := (List.range n).map (gf n)
def aD (a b : List Int) : Int := (List.zipWith (· * ·) a b).sum
def kJ (lists : List (List Int)) (row : List Int) : List (List Int) :=
  match dg (lists.map (aD row)) with
  | none => lists
  | some k => (lists.eraseIdx k).map fun one => cU one (aD row one) (lists.getD k []) (aD row (lists.getD k []))
theorem sx : ∀ (a b : List Int), aD a b = cV b.length fun i => nth a i * nth b i
  | _, [] => by unfold aD; simp [cV]
  | [], b :: r => by
    unfold aD
    rw [jJ fun i _ => by unfold nth; simp]
    simp
  | a :: l, b :: r => by
    have ih := sx l r
    unfold aD at *
    rw [List.zipWith_cons_cons, List.sum_cons, ih, List.length_cons]
    have : ∀ (n : Nat) (f : Nat → Int), cV (n + 1) f = f 0 + cV n fun i => f (i + 1) := by
      intro n f
      induction n with
      | zero => simp [cV]
      | succ n ih2 => rw [cV, ih2, cV]; omega
    rw [this]
    congr 1
theorem lS {n : Nat} {a b : List Int} (hb : b.length = n) : aD a b = bI n (nth a) (nth b) := by rw [sx, hb]; rfl
structure SSt (n : Nat) (R lists : List (List Int)) : Prop where
  len : ∀ l ∈ lists, l.length = n
  nul : ∀ r ∈ R, ∀ l ∈ lists, bI n (nth r) (nth l) = 0
  spn : ∀ x, rk n lists x → tV n R x
end M
set_option maxRecDepth 100000
set_option maxHeartbeats 4000000
namespace M
theorem Pl.other {n : Nat} {P : List (Nat × List Int)} (pl : Pl n P) : ∀ {p q : Nat × List Int}, p ∈ P → q ∈ P → p.1 ≠ q.1 → nth p.2 q.1 = 0 := by
  intro p q hp hq hne
  by_cases h : q.1 < p.1
  · exact (pl.good p hp).zero _ h
  · have : ∀ {P : List (Nat × List Int)}, P.Pairwise (fun p q => p.1 < q.1 ∧ nth p.2 q.1 = 0) → p ∈ P → q ∈ P → p.1 < q.1 → nth p.2 q.1 = 0 := by
      intro P pw hp hq hlt
      induction P with
      | nil => cases hp
      | cons r P ih =>
        have h0 := List.pairwise_cons.mp pw
        rcases List.mem_cons.mp hp with rfl | hp
        · rcases List.mem_cons.mp hq with rfl | hq
          · omega
          · exact (h0.1 q hq).2
        · rcases List.mem_cons.mp hq with rfl | hq
          · have := (h0.1 p (by assumption)).1; omega
          · exact ih h0.2 hp hq
    exact this pl.pw hp hq (by omega)
theorem xw (a : Int) (r : List Int) : bV (r.map (a * ·)) = a.natAbs * bV r := by
  unfold bV
  have : ∀ (l : List Int) (c : Nat), (l.map (a * ·)).foldl (fun c n => Nat.gcd c n.natAbs) (a.natAbs * c) = a.natAbs * l.foldl (fun c n => Nat.gcd c n.natAbs) c := by
    intro l
    induction l with
    | nil => intro c; rfl
    | cons b l ih => intro c; simp only [List.map_cons, List.foldl_cons, Int.natAbs_mul, Nat.gcd_mul_left]; exact ih _
  exact this r 0
theorem pk {r s : List Int} (hl : r.length = s.length) (h : ∀ i, i < r.length → nth r i = nth s i) : r = s := by
  refine List.ext_getElem hl fun i h1 h2 => ?_
  have := h i h1
  unfold nth at this
  simpa [List.getD_eq_getElem?_getD, h1, h2] using this
theorem Eb {r s : List Int} (hl : r.length = s.length) (h1 : bV r = 1) (h2 : bV s = 1) {a b : Int} (ha : 0 < a) (hb : 0 < b) (h : ∀ i, i < r.length → a * nth r i = b * nth s i) : r = s := by
  have e : r.map (a * ·) = s.map (b * ·) := pk (by simp [hl]) fun i hi => by
    rw [iR (by simp), iR (by simp)]; exact h i (by simpa using hi)
  have e2 := xw a r
  rw [e, xw, h1, h2] at e2
  have hab : a = b := by omega
  subst hab
  exact pk hl fun i hi => Int.eq_of_mul_eq_mul_left (by omega) (h i hi)
end M
set_option maxRecDepth 100000
set_option maxHeartbeats 4000000
namespace M
def SzL (b : Nat) (r : List Int) : Prop := ∀ x ∈ r, Sz b x
def fO (b : Nat) (R : List (List Int)) : Prop := ∀ r ∈ R, SzL b r
theorem SzL.mono {b c : Nat} {r : List Int} (h : SzL b r) (hbc : b ≤ c) : SzL c r := fun x hx => (h x hx).mono hbc
theorem fO.mono {b c : Nat} {r : List (List Int)} (h : fO b r) (hbc : b ≤ c) : fO c r := fun x hx => (h x hx).mono hbc
theorem Sz.zero (b : Nat) : Sz b 0 := by unfold Sz; simp; exact Nat.two_pow_pos b
theorem SzL.nth {b : Nat} {r : List Int} (h : SzL b r) (i : Nat) : Sz b (M.nth r i) := by
  by_cases hi : i < r.length
  · exact h _ (dH hi)
  · rw [cI (by omega)]; exact Sz.zero b
theorem SzL.low {b : Nat} {r : List Int} (h : SzL b r) : SzL b (M.low r) := by
  intro x hx
  unfold M.low at hx
  split at hx
  · exact h x hx
  · obtain ⟨y, hy, rfl⟩ := List.mem_map.mp hx
    exact Nat.lt_of_le_of_lt (Int.natAbs_ediv_le_natAbs y _) (h y hy)
theorem SzL.mix {b1 b2 bv bw : Nat} {one other : List Int} {v w : Int} (h1 : SzL b1 one) (h2 : SzL b2 other) (hv : Sz bv v) (hw : Sz bw w) : SzL (max (b1 + bw) (b2 + bv) + 1) (jo one v other w) := by
  intro x hx
  unfold jo at hx
  obtain ⟨i, hi, e⟩ := List.getElem_of_mem hx
  rw [List.getElem_zipWith] at e
  subst e
  exact Sz.sub (Sz.mul (h1 _ (List.getElem_mem _)) hw) (Sz.mul (h2 _ (List.getElem_mem _)) hv)
theorem SzL.off {b1 b2 bv bw : Nat} {one other : List Int} {v w : Int} (h1 : SzL b1 one) (h2 : SzL b2 other) (hv : Sz bv v) (hw : Sz bw w) : SzL (max (b1 + bw) (b2 + bv) + 1) (cU one v other w) := (SzL.mix h1 h2 hv hw).low
theorem SzL.sgn {b : Nat} {r : List Int} (h : SzL b r) (a : Nat) : SzL b (iz r a) := by
  unfold iz
  split
  · exact h
  · intro x hx
    obtain ⟨y, hy, rfl⟩ := List.mem_map.mp hx
    exact (h y hy).neg
theorem SzL.clr {b : Nat} {row lead : List Int} (h1 : SzL b row) (h2 : SzL b lead) (a : Nat) : SzL (2 * b + 1) (fG lead a row) := by
  unfold fG
  split
  · exact h1.mono (by omega)
  · exact (SzL.off h1 h2 (h1.nth a) (h2.nth a)).mono (by omega)
theorem pP {b a : Nat} {left done : List (List Int)} (h1 : fO b left) (h2 : fO b done) : fO (2 * b + 1) (cY (left, done) a).1 ∧ fO (2 * b + 1) (cY (left, done) a).2 := by
  unfold cY
  dsimp only
  split
  · exact ⟨h1.mono (by omega), h2.mono (by omega)⟩
  · rename_i k e
    have k1 := (iA e).1
    rw [List.length_map] at k1
    have hl : SzL b (iz (left.getD k []) a) := SzL.sgn (h1 _ (getD_mem k1)) a
    refine ⟨fun r hr => ?_, fun r hr => ?_⟩
    · obtain ⟨q, hq, rfl⟩ := List.mem_map.mp hr
      exact SzL.clr (h1 q (List.mem_of_mem_eraseIdx hq)) hl a
    · rcases List.mem_append.mp hr with hr | hr
      · obtain ⟨q, hq, rfl⟩ := List.mem_map.mp hr
        exact SzL.clr (h2 q hq) hl a
      · rw [List.mem_singleton.mp hr]; exact hl.mono (by omega)
def grow (b p : Nat) : Nat := 2 ^ p * (b + 1) - 1
theorem B8 (b : Nat) : grow b 0 = b := by unfold grow; simp
theorem uG (b p : Nat) : 2 * grow b p + 1 = grow b (p + 1) := by
  unfold grow
  have h : 0 < 2 ^ p * (b + 1) := Nat.mul_pos (Nat.two_pow_pos p) (Nat.succ_pos b)
  have e : 2 ^ (p + 1) * (b + 1) = 2 * (2 ^ p * (b + 1)) := by rw [Nat.pow_succ, Nat.mul_comm (2 ^ p) 2, Nat.mul_assoc]
  rw [e]
  omega
theorem oF {a : Nat} {left done : List (List Int)} : ((cY (left, done) a) = (left, done)) ∨ (cY (left, done) a).2.length = done.length + 1 := by
  unfold cY
  dsimp only
  split
  · exact .inl rfl
  · exact .inr (by simp)
structure PSz (n b a : Nat) (rows : List (List Int)) (left done : List (List Int)) : Prop where
  eq : (List.range a).foldl cY (rows.map low, []) = (left, done)
  ll : ∀ r ∈ left, r.length = n
  dl : ∀ r ∈ done, r.length = n
  cnt : left.length + done.length = rows.length
  ls : fO (grow b done.length) left
  ds : fO (grow b done.length) done
theorem PSz.start {n b : Nat} {rows : List (List Int)} (hl : ∀ r ∈ rows, r.length = n) (hs : fO b rows) : PSz n b 0 rows (rows.map low) [] := by
  refine ⟨rfl, fun r hr => ?_, by simp, by simp, fun r hr => ?_, fun r hr => by cases hr⟩
  · obtain ⟨q, hq, rfl⟩ := List.mem_map.mp hr
    rw [low_length]; exact hl q hq
  · obtain ⟨q, hq, rfl⟩ := List.mem_map.mp hr
    rw [List.length_nil, B8]
    exact (hs q hq).low
theorem PSz.step {n b a : Nat} {rows left done : List (List Int)} (h : PSz n b a rows left done) (hl : ∀ r ∈ rows, r.length = n) (ha : a < n) : PSz n b (a + 1) rows (cY (left, done) a).1 (cY (left, done) a).2 := by
  have eq' : (List.range (a + 1)).foldl cY (rows.map low, []) = cY (left, done) a := by
    rw [List.range_succ, List.foldl_append, h.eq]; rfl
  obtain ⟨l', P', e, s, c, _⟩ := xj (n := n) (left := rows.map low) (fun r hr => by
    obtain ⟨q, hq, rfl⟩ := List.mem_map.mp hr
    rw [low_length]; exact hl q hq) (fun r hr => by
    obtain ⟨q, hq, rfl⟩ := List.mem_map.mp hr
    exact rX q) (a + 1) (by omega)
  rw [eq'] at e
  refine ⟨eq', fun r hr => ?_, fun r hr => ?_, ?_, ?_, ?_⟩
  · rw [e] at hr; exact s.ll r hr
  · rw [e] at hr
    obtain ⟨p, hp, rfl⟩ := List.mem_map.mp hr
    exact (s.pl.good p hp).len
  · rw [e]; simp; simpa using c
  · rcases oF (a := a) (left := left) (done := done) with q | q
    · rw [q]; exact h.ls
    · rw [q, ← uG]; exact (pP h.ls h.ds).1
  · rcases oF (a := a) (left := left) (done := done) with q | q
    · rw [q]; exact h.ds
    · rw [q, ← uG]; exact (pP h.ls h.ds).2
theorem PSz.done {n b : Nat} {rows left done : List (List Int)} (h : PSz n b n rows left done) : AU rows n = done := by unfold AU; rw [h.eq]
end M
set_option maxRecDepth 100000
set_option maxHeartbeats 4000000
namespace M
open PySem PySem.Spec PyProof.Rows L2
section
variable {s s1 : S} {d : D}
@[simp] theorem zu (m : AM) (s : S) : mM m s = (m s).bind fun x => match x.1 with
  | [.lst as, .lst bs] => .ok ((ju as bs, none), x.2)
  | _ => .bad := rfl
@[simp] theorem oJ (m : AM) (s : S) : dO m s = (m s).bind fun x => match x.1 with
  | [.lst as] => .ok ((iu as, none), x.2)
  | _ => .bad := rfl
@[simp] theorem IG (m : EM) (s : S) : Ie m s = (m s).bind fun x => match x.1 with
  | .str z => .ok ((BD z, none), x.2)
  | _ => .bad := rfl
@[simp] theorem HA (f g : Op2) (a b c : EM) (s : S) : FZ f g a b c s = (a s).bind fun x => (b x.2).bind fun y => (f y.2.o x.1 y.1).bind fun z => match z with
  | .bl true => (c y.2).bind fun w => (g w.2.o y.1 w.1).bind fun d => .ok (d, w.2)
  | .bl false => .ok (.bl false, y.2)
  | _ => .bad := rfl
@[simp] theorem Cm (n : Nat) (f : FM) (m : AM) (s : S) : bE n f m s = (m s).bind fun x => if x.1.length = n then (match f x.1 x.2.o with
  | .ok (d, O1) => .ok (d, ⟨x.2.r, O1⟩)
  | _ => .bad) else .bad := rfl
@[simp] theorem ID (m : EM) (s : S) : Ip m s = (m s).bind fun x => match lsD x.2.o x.1 with
  | some ds => .ok (!ds.isEmpty, x.2)
  | none => .bad := rfl
@[simp] theorem EZ (fin : S → List D → Res (D × S)) (ma : AM) (mk : EM) (s : S) : wL fin ma mk s = (ma s).bind fun x => if x.1.length ≤ 16777216 then (mk x.2).bind fun y => match y.1 with
    | .int k => if (-(2 ^ 63) ≤ k ∧ k < 2 ^ 63) ∧ x.1.length * k.toNat ≤ 16777216 then fin y.2 (zZ k x.1) else .bad
    | _ => .bad
  else .bad := rfl
@[simp] theorem IJ (s : S) (ds : List D) : HH s ds = .ok (.lst ds, s) := rfl
@[simp] theorem zx (s : S) (ds : List D) : pJ s ds = .ok (.ptr s.o.length, ⟨s.r, s.o ++ [.lst ds]⟩) := rfl
@[simp] theorem Jb (O : au) : isD O .non .non = .ok (.bl true) := rfl
@[simp] theorem IQ (O : au) (i : Int) : isD O (.int i) .non = .ok (.bl false) := rfl
@[simp] theorem IW (O : au) (i : List D) : isD O (.lst i) .non = .ok (.bl false) := rfl
@[simp] theorem IH (O : au) (i : List D) : isD O (.tup i) .non = .ok (.bl false) := rfl
@[simp] theorem Hg (O : au) : sY O .non .non = .ok (.bl false) := rfl
@[simp] theorem Hd (O : au) (i : Int) : sY O (.int i) .non = .ok (.bl true) := rfl
@[simp] theorem G9 (O : au) (i : List D) : sY O (.lst i) .non = .ok (.bl true) := rfl
@[simp] theorem Hi (O : au) (i : List D) : sY O (.tup i) .non = .ok (.bl true) := rfl
@[simp] theorem nO (g h : GM) (a b : D) (s : S) : cZ (aV g (aV h de)) 2 (.tup [a, b]) s = (g a s).bind fun s1 => h b s1 := by
  show (g a s).bind (fun s1 => (h b s1).bind fun s2 => .ok s2) = _
  congr 1
  funext s1
  cases h b s1 <;> rfl
@[simp] theorem yd (ns : List Int) : kG (ns.map D.int) = some ns := by
  induction ns with
  | nil => rfl
  | cons n ns ih => rw [List.map_cons, kG, ih]; rfl
@[simp] theorem qP (ns : List Bool) : iQ (ns.map D.bl) = some ns := by
  induction ns with
  | nil => rfl
  | cons n ns ih => rw [List.map_cons, iQ, ih]; rfl
@[simp] theorem uC (O : au) (ns : List Int) : vT O [.lst (ns.map D.int)] = .ok (.int ns.sum) := by
  show (match kG (ns.map D.int) with
      | some ns => Res.ok (D.int ns.sum)
      | none => .bad) = _
  rw [yd]
@[simp] theorem CW (O : au) (ns : List Bool) : zK O [.lst (ns.map D.bl)] = .ok (.bl (ns.all id)) := by
  show (match iQ (ns.map D.bl) with
      | some ns => Res.ok (D.bl (ns.all id))
      | none => .bad) = _
  rw [qP]
@[simp] theorem wO (O : au) (ns : List Bool) : Ab O [.lst (ns.map D.bl)] = .ok (.bl (ns.any id)) := by
  show (match iQ (ns.map D.bl) with
      | some ns => Res.ok (D.bl (ns.any id))
      | none => .bad) = _
  rw [qP]
end
theorem mS {α : Type} {ok : au → Prop} {g : GM} {c : TM} {e : EM} {O : au} (hok : ok O) (item : α → D) (P : S → Prop) (hP : ∀ s, P s → s.o = O) (l : List α) (p : α → Bool) (out : α → D)
    (step : ∀ a ∈ l, ∀ s, P s → ∃ s1 s2, g (item a) s = .ok s1 ∧ c s1 = .ok (p a, s2) ∧ (p a = false → P s2) ∧ (p a = true → ∃ s3, e s2 = .ok (out a, s3) ∧ P s3)) :
    ∀ (acc : List D) (s : S), acc.length + l.length ≤ 16777216 → P s → ∃ s', cT ok g c e (l.map item) acc s = .ok (acc ++ (l.filter p).map out, s') ∧ P s' := by
  induction l with
  | nil =>
    intro acc s _ h
    exact ⟨s, by rw [List.map_nil, cT, if_pos (by rw [hP s h]; exact hok)]; simp, h⟩
  | cons a l ih =>
    intro acc s hl h
    rw [List.length_cons] at hl
    obtain ⟨s1, s2, e1, e2, h2, h3⟩ := step a List.mem_cons_self s h
    rw [List.map_cons, cT, if_pos ⟨by rw [hP s h]; exact hok, by omega⟩, e1, ak, e2, ak]
    cases hp : p a with
    | false =>
      obtain ⟨s', e3, h4⟩ := ih (fun b hb => step b (List.mem_cons_of_mem _ hb)) acc s2 (by omega) (h2 hp)
      refine ⟨s', ?_, h4⟩
      rw [List.filter_cons_of_neg (by simp [hp])]
      simpa using e3
    | true =>
      obtain ⟨s3, e3, h4⟩ := h3 hp
      obtain ⟨s', e5, h5⟩ := ih (fun b hb => step b (List.mem_cons_of_mem _ hb)) (acc ++ [out a]) s3 (by rw [List.length_append, List.length_singleton]; omega) h4
      refine ⟨s', ?_, h5⟩
      rw [List.filter_cons_of_pos hp]
      simp only [if_true, e3, ak, e5]
      simp
section
variable {α : Type} {caps : List Nat} {im : IM} {c : TM} {e : EM} {s : S} {k : Option Nat} {l : List α} {item out : α → D} {p : α → Bool}
theorem wX (him : im s = .ok ((l.map item, k), s)) (hok : okC (l.map item) k s.o) (hl : l.length ≤ 16777216)
    (hc : ∀ a ∈ l, c ⟨some (item a) :: caps.map (fun i => (s.r[i]?).getD none), s.o⟩ = .ok (p a, ⟨some (item a) :: caps.map (fun i => (s.r[i]?).getD none), s.o⟩))
    (he : ∀ a ∈ l, p a = true → e ⟨some (item a) :: caps.map (fun i => (s.r[i]?).getD none), s.o⟩ = .ok (out a, ⟨some (item a) :: caps.map (fun i => (s.r[i]?).getD none), s.o⟩)) :
    kr 1 caps im (aE 0) c e s = .ok ((l.filter p).map out, s) := by
  obtain ⟨s', e1, x, h1⟩ := mS (ok := okC (l.map item) k) (g := aE 0) (c := c) (e := e) (O := s.o) hok item (fun s2 => ∃ x, s2 = ⟨x :: caps.map (fun i => (s.r[i]?).getD none), s.o⟩) (by rintro _ ⟨_, rfl⟩; rfl) l p out (by
    rintro a ha _ ⟨x, rfl⟩
    exact ⟨_, _, rfl, hc a ha, fun _ => ⟨_, rfl⟩, fun hp => ⟨_, he a ha hp, _, rfl⟩⟩) [] ⟨j1 1 caps s.r, s.o⟩ (by simpa using hl) ⟨none, rfl⟩
  rw [nU, him, ak]
  dsimp only
  rw [e1, ak]
  subst h1
  rfl
theorem xM {f g : α → D} (him : im s = .ok ((l.map (fun a => D.tup [f a, g a]), k), s)) (hok : okC (l.map (fun a => D.tup [f a, g a])) k s.o) (hl : l.length ≤ 16777216)
    (hc : ∀ a ∈ l, c ⟨some (f a) :: some (g a) :: caps.map (fun i => (s.r[i]?).getD none), s.o⟩ = .ok (p a, ⟨some (f a) :: some (g a) :: caps.map (fun i => (s.r[i]?).getD none), s.o⟩))
    (he : ∀ a ∈ l, p a = true → e ⟨some (f a) :: some (g a) :: caps.map (fun i => (s.r[i]?).getD none), s.o⟩ = .ok (out a, ⟨some (f a) :: some (g a) :: caps.map (fun i => (s.r[i]?).getD none), s.o⟩)) :
    kr 2 caps im (cZ (aV (aE 0) (aV (aE 1) de)) 2) c e s = .ok ((l.filter p).map out, s) := by
  obtain ⟨s', e1, x, y, h1⟩ := mS (ok := okC (l.map (fun a => D.tup [f a, g a])) k) (g := cZ (aV (aE 0) (aV (aE 1) de)) 2) (c := c) (e := e) (O := s.o) hok (fun a => D.tup [f a, g a]) (fun s2 => ∃ x y, s2 = ⟨x :: y :: caps.map (fun i => (s.r[i]?).getD none), s.o⟩) (by rintro _ ⟨_, _, rfl⟩; rfl) l p out (by
    rintro a ha _ ⟨x, y, rfl⟩
    exact ⟨_, _, by simp, hc a ha, fun _ => ⟨_, _, rfl⟩, fun hp => ⟨_, he a ha hp, _, _, rfl⟩⟩) [] ⟨j1 2 caps s.r, s.o⟩ (by simpa using hl) ⟨none, none, rfl⟩
  rw [nU, him, ak]
  dsimp only
  rw [e1, ak]
  subst h1
  rfl
theorem ki (l : List α) : l.filter (fun _ => true) = l := by simp
theorem gc (him : im s = .ok ((l.map item, k), s)) (hok : okC (l.map item) k s.o) (hl : l.length ≤ 16777216)
    (he : ∀ a ∈ l, e ⟨some (item a) :: caps.map (fun i => (s.r[i]?).getD none), s.o⟩ = .ok (out a, ⟨some (item a) :: caps.map (fun i => (s.r[i]?).getD none), s.o⟩)) :
    cf 1 caps im (aE 0) bT e s = .ok (.lst (l.map out), s) := by
  rw [mj, wX (p := fun _ => true) him hok hl (fun _ _ => rfl) (fun a ha _ => he a ha), ak, ki]
theorem tR (him : im s = .ok ((l.map item, k), s)) (hok : okC (l.map item) k s.o) (hl : l.length ≤ 16777216)
    (hc : ∀ a ∈ l, c ⟨some (item a) :: caps.map (fun i => (s.r[i]?).getD none), s.o⟩ = .ok (p a, ⟨some (item a) :: caps.map (fun i => (s.r[i]?).getD none), s.o⟩))
    (he : ∀ a ∈ l, p a = true → e ⟨some (item a) :: caps.map (fun i => (s.r[i]?).getD none), s.o⟩ = .ok (out a, ⟨some (item a) :: caps.map (fun i => (s.r[i]?).getD none), s.o⟩)) :
    cf 1 caps im (aE 0) c e s = .ok (.lst ((l.filter p).map out), s) := by
  rw [mj, wX him hok hl hc he, ak]
theorem wo {f g : α → D} (him : im s = .ok ((l.map (fun a => D.tup [f a, g a]), k), s)) (hok : okC (l.map (fun a => D.tup [f a, g a])) k s.o) (hl : l.length ≤ 16777216)
    (he : ∀ a ∈ l, e ⟨some (f a) :: some (g a) :: caps.map (fun i => (s.r[i]?).getD none), s.o⟩ = .ok (out a, ⟨some (f a) :: some (g a) :: caps.map (fun i => (s.r[i]?).getD none), s.o⟩)) :
    cf 2 caps im (cZ (aV (aE 0) (aV (aE 1) de)) 2) bT e s = .ok (.lst (l.map out), s) := by
  rw [mj, xM (p := fun _ => true) him hok hl (fun _ _ => rfl) (fun a ha _ => he a ha), ak, ki]
theorem zv {f g : α → D} (him : im s = .ok ((l.map (fun a => D.tup [f a, g a]), k), s)) (hok : okC (l.map (fun a => D.tup [f a, g a])) k s.o) (hl : l.length ≤ 16777216)
    (hc : ∀ a ∈ l, c ⟨some (f a) :: some (g a) :: caps.map (fun i => (s.r[i]?).getD none), s.o⟩ = .ok (p a, ⟨some (f a) :: some (g a) :: caps.map (fun i => (s.r[i]?).getD none), s.o⟩))
    (he : ∀ a ∈ l, p a = true → e ⟨some (f a) :: some (g a) :: caps.map (fun i => (s.r[i]?).getD none), s.o⟩ = .ok (out a, ⟨some (f a) :: some (g a) :: caps.map (fun i => (s.r[i]?).getD none), s.o⟩)) :
    cf 2 caps im (cZ (aV (aE 0) (aV (aE 1) de)) 2) c e s = .ok (.lst ((l.filter p).map out), s) := by
  rw [mj, xM him hok hl hc he, ak]
theorem A5 (him : im s = .ok ((l.map item, k), s)) (hok : okC (l.map item) k s.o) (hl : l.length ≤ 16777216)
    (he : ∀ a ∈ l, e ⟨some (item a) :: caps.map (fun i => (s.r[i]?).getD none), s.o⟩ = .ok (out a, ⟨some (item a) :: caps.map (fun i => (s.r[i]?).getD none), s.o⟩)) :
    jO 1 caps im (aE 0) bT e s = .ok (.ptr s.o.length, ⟨s.r, s.o ++ [.lst (l.map out)]⟩) := by
  rw [rq, wX (p := fun _ => true) him hok hl (fun _ _ => rfl) (fun a ha _ => he a ha), ak, ki]
end
abbrev vI (r : List Int) : D := .lst (r.map .int)
abbrev vII (R : List (List Int)) : D := .lst (R.map vI)
@[simp] theorem mK (R : List (List Int)) : bf (R.map vI) = true := by
  induction R with
  | nil => rfl
  | cons r R ih => simp [ih]
theorem kK (as bs : List Int) : ju (as.map D.int) (bs.map D.int) = (as.zip bs).map fun p => .tup [.int p.1, .int p.2] := by
  unfold ju
  rw [List.zipWith_map, List.zip_eq_zipWith, List.map_zipWith]
theorem tx (as : List Int) : iu (as.map D.int) = as.zipIdx.map fun p => .tup [.int (p.2 : Int), .int p.1] := by
  unfold iu
  rw [List.mapIdx_eq_zipIdx_map, List.zipIdx_map, List.map_map]
  rfl
theorem kh {O : au} {r : List Int} {i : Nat} (h : i < r.length) : ixD O (vI r) (.int (i : Int)) = .ok (.int (nth r i)) := by
  refine qy ?_
  rw [ng (by omega) (by simpa using h)]
  simp [nth, List.getD_eq_getElem?_getD, h]
theorem qJ (n : Nat) : dj 0 (n : Int) = (List.range n).map fun i => .int (i : Int) := by
  unfold dj
  simp
theorem zw {n : Nat} (h : n ≤ 1000000) : n ≤ 16777216 := Nat.le_trans h (by decide)
theorem zip_map {f : Int → Int → Int} : ∀ (a b : List Int), (a.zip b).map (fun p => f p.1 p.2) = List.zipWith f a b
  | [], _ => by simp
  | _ :: _, [] => by simp
  | x :: a, y :: b => by simp [zip_map a b]
theorem Ee (a b : List Int) : (a.zip b).map (fun p => p.1 * p.2) = List.zipWith (· * ·) a b := zip_map a b
theorem AI (n : Nat) : zZ (n : Int) [.int 0] = (List.replicate n (0 : Int)).map D.int := by
  unfold zZ
  rw [show (n : Int).toNat = n from Int.toNat_natCast n]
  induction n with
  | zero => rfl
  | succ n ih => rw [List.replicate_succ, List.flatten_cons, ih]; simp [List.replicate_succ]
theorem oC {mo mi : EM} {d : D} {s s1 s2 : S} {k a : Nat} {ds : List D} (h1 : mo s = .ok (.ptr k, s1)) (h2 : mi s1 = .ok (.int (a : Int), s2)) (h3 : s2.o[k]? = some (.lst ds)) (ha : a < ds.length) :
    mf mo mi d s = .ok ⟨s2.r, s2.o.set k (.lst (ds.set a d))⟩ := by
  unfold mf
  rw [h1, ak]
  dsimp only
  rw [h2, ak]
  dsimp only
  rw [mn h3]
  dsimp only
  have e : ixN ds.length (a : Int) = some a := by
    unfold ixN
    rw [if_pos (by omega), if_pos (by omega)]
    simp
  rw [e]
theorem mY {m : EM} {i : Nat} {s s' : S} {d : D} (h : m s = .ok (d, s')) : setM i m s = .next ⟨s'.r.set i (some d), s'.o⟩ := by
  show ((m s).bind _).out _ = _
  rw [h]; rfl
theorem b8 {m : EM} {s s' : S} {d : D} (h : m s = .ok (d, s')) : bN m s = .ret d s' := by
  show (m s).out _ = _
  rw [h]; rfl
theorem vO {c : TM} {a b : SM} {s s' : S} (h : c s = .ok (true, s')) : ifS c a b s = a s' := by
  show (c s).out _ = _
  rw [h]; rfl
theorem vQ {c : TM} {a b : SM} {s s' : S} (h : c s = .ok (false, s')) : ifS c a b s = b s' := by
  show (c s).out _ = _
  rw [h]; rfl
theorem fT {a b : SM} {s s' : S} (h : a s = .next s') : aM a b s = b s' := by
  show (a s).then b = _
  rw [h]; rfl
theorem nR {a b : SM} {s s' : S} {d : D} (h : a s = .ret d s') : aM a b s = .ret d s' := by
  show (a s).then b = _
  rw [h]; rfl
theorem G7 {fin : S → List D → Res (D × S)} {mk : EM} {s : S} {n : Nat} (h : mk s = .ok (.int (n : Int), s)) (hn : n ≤ 1000000) : wL fin (af (ao (.int 0)) aq) mk s = fin s ((List.replicate n (0 : Int)).map D.int) := by
  rw [EZ, gq, aL, ak, aC, ak, ak]
  dsimp only
  rw [if_pos (by decide), h, ak]
  dsimp only
  rw [if_pos ⟨⟨by omega, by omega⟩, by simp; omega⟩, AI]
theorem sr {n : Nat} {f : FM} {ma : AM} {s s' : S} {ds : List D} {d : D} {O : au} (h : ma s = .ok (ds, s')) (hp : bf ds = true) (hl : ds.length = n) (hf : f ds [] = .ok (d, O)) (hd : cQ d = true) : bF n f ma s = .ok (d, s') := by
  rw [DB, h, ak, if_pos ⟨hp, hl⟩]
  dsimp only
  rw [hf]
  dsimp only
  rw [if_pos hd]
theorem j8 {n : Nat} {f : FM} {ma : AM} {s s' : S} {ds : List D} {d : D} {O : au} (h : ma s = .ok (ds, s')) (hl : ds.length = n) (hf : f ds s'.o = .ok (d, O)) : bE n f ma s = .ok (d, ⟨s'.r, O⟩) := by
  rw [Cm, h, ak, if_pos hl]
  dsimp only
  rw [hf]
theorem ER {mo me : EM} {s s1 s2 : S} {k : Nat} {ds0 ds : List D} {d : D} (h1 : mo s = .ok (.ptr k, s1)) (c1 : s1.o[k]? = some (.lst ds0)) (h2 : me s1 = .ok (d, s2)) (c2 : s2.o[k]? = some (.lst ds)) (hb : ds.length ≤ 1000000) :
    kN mo me s = .ok (.non, ⟨s2.r, s2.o.set k (.lst (ds ++ [d]))⟩) := by
  rw [Eg, h1, ak]
  dsimp only
  rw [mn c1]
  dsimp only
  rw [h2, ak]
  dsimp only
  rw [mn c2]
  dsimp only
  rw [if_pos (by omega)]
theorem gX {m : EM} {s s' : S} {d : D} (h : m s = .ok (d, s')) : ix m s = .next s' := by
  show (m s).out _ = _
  rw [h]; rfl
theorem Fd {m : EM} {s s' : S} {k : Nat} {ds : List D} (h : m s = .ok (.ptr k, s')) (c : s'.o[k]? = some (.lst ds)) : gH m s = .ok (.lst ds, ⟨s'.r, s'.o.set k .dead⟩) := by
  rw [EN, h, ak]
  dsimp only
  rw [mn c]
theorem oX {m : EM} {s s' : S} {k : Nat} {ds : List D} (h : m s = .ok (.ptr k, s')) (c : s'.o[k]? = some (.lst ds)) : listI m s = .ok ((ds, some k), s') := by
  rw [bW, h, ak]
  dsimp only
  rw [yB c, ak]
theorem cF {O : au} {k j : Nat} {c : Cell} (h : k ≠ j) : (O.set k c)[j]? = O[j]? := List.getElem?_set_ne h
theorem cP {O : au} {k : Nat} {c c' : Cell} (h : O[k]? = some c') : (O.set k c)[k]? = some c := by
  rw [List.getElem?_set_self (List.getElem?_eq_some_iff.mp h).1]
theorem dt {O E : au} {k : Nat} {c : Cell} (h : O[k]? = some c) : (O ++ E)[k]? = some c := by
  rw [List.getElem?_append_left (List.getElem?_eq_some_iff.mp h).1]; exact h
theorem oZ {O : au} {c : Cell} : (O ++ [c])[O.length]? = some c := by simp
theorem jb {O : au} {k : Nat} {c : Cell} (h : O[k]? = some c) : k < O.length := (List.getElem?_eq_some_iff.mp h).1
theorem za (r : List Int) : bf [vI r] = true := by simp
theorem FV {b : Nat} : ∀ (l : List Int) (k : Nat), (∀ x ∈ l, x.natAbs < 2 ^ b) → l.length ≤ 2 ^ k → l.sum.natAbs ≤ l.length * 2 ^ b := by
  intro l k h _
  induction l with
  | nil => simp
  | cons a l ih =>
    rw [List.sum_cons, List.length_cons, Nat.succ_mul]
    have h1 := h a List.mem_cons_self
    have h2 := ih (fun x hx => h x (List.mem_cons_of_mem _ hx)) (by simp at *; omega)
    have := Int.natAbs_add_le a l.sum
    omega
theorem pK {b c : Nat} {row l : List Int} (hr : SzL c row) (hl : SzL b l) (hn : row.length ≤ 1000) : Sz (b + c + 10) (aD row l) := by
  unfold aD
  have h : ∀ x ∈ List.zipWith (· * ·) row l, x.natAbs < 2 ^ (c + b) := fun x hx => by
    obtain ⟨i, hi, e⟩ := List.getElem_of_mem hx
    rw [List.getElem_zipWith] at e
    subst e
    exact Sz.mul (hr _ (List.getElem_mem _)) (hl _ (List.getElem_mem _))
  have h2 := FV (List.zipWith (· * ·) row l) 10 h (by rw [List.length_zipWith]; simp; omega)
  unfold Sz
  have h3 : (List.zipWith (· * ·) row l).length ≤ 1000 := by rw [List.length_zipWith]; omega
  have h4 : (List.zipWith (· * ·) row l).length * 2 ^ (c + b) ≤ 1000 * 2 ^ (c + b) := Nat.mul_le_mul_right _ h3
  have h5 : 2 ^ (b + c + 10) = 1024 * 2 ^ (c + b) := by rw [Nat.pow_add, Nat.add_comm b c, Nat.mul_comm]
  have h6 : 0 < 2 ^ (c + b) := Nat.two_pow_pos _
  rw [h5]
  omega
theorem uX {ok : au → Prop} {g : GM} {c : TM} {e : EM} (P : S → Prop) (G : D → Prop) (hok : ∀ s, P s → ok s.o) : ∀ (ds acc : List D) (s : S),
    (∀ d ∈ ds, ∀ s, P s → ∃ s1 s2 y s3, g d s = .ok s1 ∧ c s1 = .ok (true, s2) ∧ e s2 = .ok (y, s3) ∧ G y ∧ P s3) → acc.length + ds.length ≤ 16777216 → P s →
    ∃ outs s', cT ok g c e ds acc s = .ok (acc ++ outs, s') ∧ outs.length = ds.length ∧ (∀ y ∈ outs, G y) ∧ P s'
  | [], acc, s, _, _, h => ⟨[], s, by rw [cT, if_pos (hok _ h)]; simp, rfl, by simp, h⟩
  | d :: ds, acc, s, step, hl, h => by
    obtain ⟨s1, s2, y, s3, e1, e2, e3, gy, h3⟩ := step d List.mem_cons_self s h
    rw [List.length_cons] at hl
    rw [cT, if_pos ⟨hok _ h, by omega⟩, e1, ak, e2, ak]
    obtain ⟨outs, s', e4, h4, h5, h6⟩ := uX P G hok ds (acc ++ [y]) s3 (fun d hd => step d (List.mem_cons_of_mem _ hd)) (by rw [List.length_append, List.length_singleton]; omega) h3
    refine ⟨y :: outs, s', ?_, by simp [h4], ?_, h6⟩
    · simp only [if_true, e3, ak, e4]
      simp
    · intro z hz
      rcases List.mem_cons.mp hz with rfl | hz
      · exact gy
      · exact h5 z hz
theorem yY {Q : Int → Prop} : ∀ {outs : List D}, (∀ y ∈ outs, ∃ r, y = .int r ∧ Q r) → ∃ ns : List Int, outs = ns.map D.int ∧ ∀ n ∈ ns, Q n
  | [], _ => ⟨[], rfl, by simp⟩
  | y :: outs, h => by
    obtain ⟨r, rfl, hr⟩ := h y List.mem_cons_self
    obtain ⟨ns, rfl, hn⟩ := yY (outs := outs) fun z hz => h z (List.mem_cons_of_mem _ hz)
    exact ⟨r :: ns, rfl, fun n hn' => by
      rcases List.mem_cons.mp hn' with rfl | q
      · exact hr
      · exact hn n q⟩
theorem Df {n : Nat} {f : FM} {ma : AM} {s s' : S} {ds : List D} {d : D} {O1 : au} (h : ma s = .ok (ds, s')) (hp : bf ds = true) (hl : ds.length = n) (hf : f ds [] = .ok (d, O1)) : dC n f ma s = .ok (shD s'.o.length d, ⟨s'.r, s'.o ++ O1.map (shC s'.o.length)⟩) := by
  rw [CD, h, ak, if_pos ⟨hp, hl⟩]
  dsimp only
  rw [hf]
theorem ni {O : au} {k : Nat} {ds : List D} {i : Int} {d : D} (h : O[k]? = some (.lst ds)) (hi : atI ds i = some d) : ixD O (.ptr k) (.int i) = .ok d := by
  show (match lsD O (D.ptr k) with
      | some ds => match atI ds i with
        | some d => Res.ok d
        | none => .bad
      | none => .bad) = _
  rw [gB h]
  dsimp only
  rw [hi]
theorem r8 {α : Type} {l : List α} {i : Nat} (h : i < l.length) : atI l (i : Int) = some l[i] := by
  rw [ng (by omega) (by omega)]
  simp
theorem El {α : Type} {l : List α} {i : Nat} (h0 : 1 ≤ i) (h : i ≤ l.length) : atI l (-(i : Int)) = some (l[l.length - i]'(by omega)) := by
  unfold atI ixN
  have e : (-(i : Int) + (l.length : Int)).toNat = l.length - i := by omega
  rw [if_neg (by omega), if_pos (by omega), e]
  exact List.getElem?_eq_getElem _
theorem xm {O : au} {k : Nat} {ds : List D} (h : O[k]? = some (.lst ds)) : cD O [.ptr k] = .ok (.int ds.length) := by
  unfold cD
  simp only [gB h]
theorem jM {m : EM} {s s' : S} {i j : Int} (h : m s = .ok (.int i, s')) : aU (aj gtD m (ao (.int j))) s = .ok (decide (j < i), s') := by
  rw [t7, jF, h, ak, aL, ak, nu, ak, ak]
theorem eq_test {m : EM} {s s' : S} {i j : Int} (h : m s = .ok (.int i, s')) : aU (aj eqD m (ao (.int j))) s = .ok (decide (i = j), s') := by
  rw [t7, jF, h, ak, aL, ak, nB, ak, ak]
theorem n8 {O : au} {a b : List D} (h : a.length + b.length ≤ 1000000) : dm O (.lst a) (.lst b) = .ok (.lst (a ++ b)) := by
  show (if a.length + b.length ≤ 16777216 then Res.ok (D.lst (a ++ b)) else .bad) = _
  rw [if_pos (zw h)]
theorem uW {ms : List Int} {n : Nat} (h : n ≤ ms.length) : cutD (ms.map D.int) (some (n : Int)) none = (ms.drop n).map D.int := by
  unfold cutD
  rw [HT.xi, HT.qi, List.length_map, Nat.min_eq_left h, ← List.map_drop, List.take_of_length_le (by simp)]
end M
set_option maxRecDepth 100000
set_option maxHeartbeats 4000000
namespace M
def tk (c e : Nat) : Nat := 2 ^ e * (c + 12) - (c + 11)
theorem Hl (c e : Nat) : c + 12 ≤ 2 ^ e * (c + 12) := Nat.le_mul_of_pos_left _ (Nat.two_pow_pos e)
theorem EW (c : Nat) : tk c 0 = 1 := by unfold tk; simp
theorem Ek (c e : Nat) : 2 * tk c e + c + 11 = tk c (e + 1) := by
  unfold tk
  have h := Hl c e
  have e2 : 2 ^ (e + 1) * (c + 12) = 2 * (2 ^ e * (c + 12)) := by rw [Nat.pow_succ, Nat.mul_comm (2 ^ e) 2, Nat.mul_assoc]
  rw [e2]
  omega
structure wW (n c : Nat) (R lists : List (List Int)) (e : Nat) : Prop where
  eq : R.foldl kJ (gi n) = lists
  ll : ∀ l ∈ lists, l.length = n
  cnt : lists.length + e = n
  sz : fO (tk c e) lists
theorem zg (n a : Nat) : SzL 1 (gf n a) := by
  intro x hx
  unfold gf at hx
  rcases List.mem_or_eq_of_mem_set hx with h | h
  · rw [List.eq_of_mem_replicate h]; exact Sz.zero 1
  · rw [h]; unfold Sz; decide
theorem wW.start (n c : Nat) : wW n c [] (gi n) 0 := by
  refine ⟨rfl, fun l hl => ?_, by unfold gi; simp, fun l hl => ?_⟩
  · obtain ⟨a, _, rfl⟩ := List.mem_map.mp hl
    unfold gf; simp
  · obtain ⟨a, _, rfl⟩ := List.mem_map.mp hl
    rw [EW]; exact zg n a
theorem wW.step {n c e : Nat} {R lists : List (List Int)} {row : List Int} (h : wW n c R lists e) (hr : row.length = n) (hs : SzL c row) (hn : n ≤ 1000) : ∃ e', wW n c (R ++ [row]) (kJ lists row) e' := by
  have eq' : (R ++ [row]).foldl kJ (gi n) = kJ lists row := by rw [List.foldl_append, h.eq]; rfl
  unfold kJ at *
  split
  · rename_i e0
    rw [e0] at eq'
    exact ⟨e, eq', h.ll, h.cnt, h.sz⟩
  · rename_i k e0
    rw [e0] at eq'
    have k1 := (iA e0).1
    rw [List.length_map] at k1
    have hm := getD_mem k1
    refine ⟨e + 1, eq', fun l hl => ?_, ?_, fun l hl => ?_⟩
    · obtain ⟨q, hq, rfl⟩ := List.mem_map.mp hl
      have hq' := List.mem_of_mem_eraseIdx hq
      rw [mV (by rw [h.ll q hq', h.ll _ hm]), h.ll q hq']
    · rw [List.length_map, List.length_eraseIdx_of_lt k1]
      have := h.cnt
      omega
    · obtain ⟨q, hq, rfl⟩ := List.mem_map.mp hl
      have hq' := List.mem_of_mem_eraseIdx hq
      have hz : ∀ l ∈ lists, Sz (tk c e + c + 10) (aD row l) := fun l h' => pK hs (h.sz l h') (by rw [hr]; exact hn)
      exact (SzL.off (h.sz q hq') (h.sz _ hm) (hz q hq') (hz _ hm)).mono (by rw [← Ek]; omega)
end M
set_option maxRecDepth 100000
set_option maxHeartbeats 4000000
namespace M
end M
set_option maxRecDepth 100000
set_option maxHeartbeats 4000000
namespace M
structure Fit (n : Nat) (R : List (List Int)) (x : List Int) : Prop where
  len : x.length = n
  nn : ∀ i, 0 ≤ nth x i
  st : ∀ r ∈ R, bI n (nth r) (nth x) = 0
  nz : ∃ i, nth x i ≠ 0
def Sub (x y : List Int) : Prop := ∀ i, nth x i ≠ 0 → nth y i ≠ 0
structure cj (n : Nat) (R : List (List Int)) (x : List Int) : Prop where
  fit : Fit n R x
  one : bV x = 1
  min : ∀ y, Fit n R y → Sub y x → Sub x y
theorem Sub.refl (x : List Int) : Sub x x := fun _ h => h
theorem Sub.trans {x y z : List Int} (a : Sub x y) (b : Sub y z) : Sub x z := fun i h => b i (a i h)
theorem Fit.lt {n : Nat} {R : List (List Int)} {x : List Int} (f : Fit n R x) {i : Nat} (h : nth x i ≠ 0) : i < n := by
  by_cases hi : i < n
  · exact hi
  · exact absurd (cI (by rw [f.len]; omega)) h
theorem Fit.low {n : Nat} {R : List (List Int)} {x : List Int} (f : Fit n R x) : Fit n R (low x) ∧ bV (M.low x) = 1 ∧ Sub (M.low x) x ∧ Sub x (M.low x) := by
  have hp := kH x
  have hi : ∀ i, nth (M.low x) i ≠ 0 ↔ nth x i ≠ 0 := fun i => by
    rw [j5 x i]
    constructor
    · exact fun h => Int.mul_ne_zero (by omega) h
    · intro h z; rw [z] at h; exact h (by omega)
  obtain ⟨j, hj⟩ := f.nz
  refine ⟨⟨by rw [low_length, f.len], fun i => ?_, fun r hr => ?_, ⟨j, (hi j).mpr hj⟩⟩, yI hj, fun i => (hi i).mp, fun i => (hi i).mpr⟩
  · have := f.nn i
    rw [j5 x i] at this
    by_cases h : 0 ≤ nth (M.low x) i
    · exact h
    · have := Int.mul_neg_of_pos_of_neg hp (by omega : nth (M.low x) i < 0); omega
  · have := f.st r hr
    rw [fm]
    rw [fm] at this
    exact (DM n x (nth r)).mpr this
theorem qX {a b c d e f : Int} (hb : 0 < b) (hd : 0 < d) (hf : 0 < f) (h1 : a * d ≤ c * b) (h2 : c * f ≤ e * d) : a * f ≤ e * b := by
  have e1 : a * d * f ≤ c * b * f := Int.mul_le_mul_of_nonneg_right h1 (by omega)
  have e2 : c * f * b ≤ e * d * b := Int.mul_le_mul_of_nonneg_right h2 (by omega)
  have : (a * f) * d ≤ (e * b) * d := by
    have q1 : a * d * f = (a * f) * d := by grind
    have q2 : c * b * f = c * f * b := by grind
    have q3 : e * d * b = (e * b) * d := by grind
    omega
  exact Int.le_of_mul_le_mul_right this hd
theorem BB (a b : Nat → Int) (hb : ∀ i, 0 ≤ b i) : ∀ n, (∃ i, i < n ∧ b i ≠ 0) → ∃ m, m < n ∧ b m ≠ 0 ∧ ∀ i, i < n → b i ≠ 0 → a m * b i ≤ a i * b m
  | 0, h => by obtain ⟨i, hi, _⟩ := h; omega
  | n + 1, h => by
    by_cases hn : ∃ i, i < n ∧ b i ≠ 0
    · obtain ⟨m, hm, hz, hl⟩ := BB a b hb n hn
      by_cases hbn : b n = 0
      · refine ⟨m, by omega, hz, fun i hi hi0 => ?_⟩
        by_cases e : i = n
        · subst e; exact absurd hbn hi0
        · exact hl i (by omega) hi0
      · by_cases hc : a m * b n ≤ a n * b m
        · refine ⟨m, by omega, hz, fun i hi hi0 => ?_⟩
          by_cases e : i = n
          · subst e; exact hc
          · exact hl i (by omega) hi0
        · refine ⟨n, by omega, hbn, fun i hi hi0 => ?_⟩
          by_cases e : i = n
          · subst e; omega
          · have := hb n; have := hb m; have := hb i
            exact qX (by omega) (by omega : 0 < b m) (by omega) (by omega) (hl i (by omega) hi0)
    · obtain ⟨i, hi, hi0⟩ := h
      have e : i = n := by
        by_cases e : i = n
        · exact e
        · exact absurd ⟨i, by omega, hi0⟩ hn
      subst e
      refine ⟨i, by omega, hi0, fun j hj hj0 => ?_⟩
      by_cases e : j = i
      · subst e; omega
      · exact absurd ⟨j, by omega, hj0⟩ hn
theorem rA {n : Nat} {R : List (List Int)} {x y : List Int} (fx : Fit n R x) (fy : Fit n R y) (hs : Sub y x) :
    ∃ z : List Int, z.length = n ∧ (∀ i, 0 ≤ nth z i) ∧ Sub z x ∧ ∃ c d : Int, 0 < c ∧ 0 < d ∧ (∀ i, nth z i = c * nth x i - d * nth y i) ∧ ∃ m, nth y m ≠ 0 ∧ nth z m = 0 := by
  obtain ⟨j, hj⟩ := fy.nz
  obtain ⟨m, hm, hz, hl⟩ := BB (nth x) (nth y) fy.nn n ⟨j, fy.lt hj, hj⟩
  have hlen : x.length = y.length := by rw [fx.len, fy.len]
  have hxm := fx.nn m
  have hym := fy.nn m
  have hxm0 := hs m hz
  have hnth : ∀ i, nth (jo x (nth x m) y (nth y m)) i = nth y m * nth x i - nth x m * nth y i := fun i => by rw [wM hlen]; grind
  refine ⟨jo x (nth x m) y (nth y m), by rw [mT hlen, fx.len], fun i => ?_, fun i hi => ?_, nth y m, nth x m, by omega, by omega, hnth, m, hz, by rw [hnth]; grind⟩
  · rw [hnth]
    by_cases hy : nth y i = 0
    · rw [hy]
      have := Int.mul_nonneg hym (fx.nn i)
      omega
    · have := hl i (fy.lt hy) hy
      have : nth y m * nth x i = nth x i * nth y m := Int.mul_comm _ _
      omega
  · rw [hnth] at hi
    intro z
    apply hi
    have : nth y i = 0 := by
      by_cases hy : nth y i = 0
      · exact hy
      · exact absurd z (hs i hy)
    rw [z, this]; omega
theorem lL {n : Nat} {x y z : List Int} {c d : Int} (h : ∀ i, nth z i = c * nth x i - d * nth y i) (r : Nat → Int) : bI n r (nth z) = c * bI n r (nth x) - d * bI n r (nth y) := by
  have := Bk (n := n) (a := nth x) (b := nth y) (u := c) (v := -d) r
  rw [fm, An (b := fun i => c * nth x i + -d * nth y i) (fun i _ => by rw [h i]; grind), fm, this]
  grind
theorem ud {n : Nat} {R : List (List Int)} {x y z : List Int} (fx : Fit n R x) (fy : Fit n R y) (hl : z.length = n) (hn : ∀ i, 0 ≤ nth z i) {c d : Int} (h : ∀ i, nth z i = c * nth x i - d * nth y i) (hz : ∃ i, nth z i ≠ 0) : Fit n R z :=
  ⟨hl, hn, fun r hr => by rw [lL h, fx.st r hr, fy.st r hr]; omega, hz⟩
theorem cj.prop {n : Nat} {R : List (List Int)} {x y : List Int} (l : cj n R x) (fy : Fit n R y) (hs : Sub y x) : ∃ a b : Int, 0 < a ∧ 0 < b ∧ ∀ i, a * nth x i = b * nth y i := by
  obtain ⟨z, zl, zn, zs, c, d, hc, hd, h, m, hm, hzm⟩ := rA l.fit fy hs
  by_cases hz : ∃ i, nth z i ≠ 0
  · have fz := ud l.fit fy zl zn h hz
    exact absurd hzm (l.min z fz zs m (hs m hm))
  · refine ⟨c, d, hc, hd, fun i => ?_⟩
    have : nth z i = 0 := by
      by_cases e : nth z i = 0
      · exact e
      · exact absurd ⟨i, e⟩ hz
    rw [h i] at this
    omega
theorem cj.eq {n : Nat} {R : List (List Int)} {x y : List Int} (l : cj n R x) (fy : Fit n R y) (h1 : bV y = 1) (hs : Sub y x) : x = y := by
  obtain ⟨a, b, ha, hb, h⟩ := l.prop fy hs
  exact Eb (by rw [l.fit.len, fy.len]) l.one h1 ha hb fun i _ => h i
def cnt (x : List Int) : Nat := (x.filter (· ≠ 0)).length
theorem Bh : ∀ {x y : List Int}, x.length = y.length → Sub x y → cnt x ≤ cnt y
  | [], [], _, _ => Nat.le_refl _
  | a :: x, b :: y, hl, hs => by
    have ih := Bh (x := x) (y := y) (by simpa using hl) fun i h => hs (i + 1) h
    have h0 : a ≠ 0 → b ≠ 0 := hs 0
    unfold cnt at *
    by_cases ha : a = 0
    · rw [List.filter_cons_of_neg (by simpa using ha)]
      by_cases hb : b = 0
      · rw [List.filter_cons_of_neg (by simpa using hb)]; exact ih
      · rw [List.filter_cons_of_pos (by simpa using hb), List.length_cons]; omega
    · rw [List.filter_cons_of_pos (by simpa using ha), List.filter_cons_of_pos (by simpa using h0 ha), List.length_cons, List.length_cons]; omega
theorem m4 : ∀ {x y : List Int} {m : Nat}, x.length = y.length → Sub x y → nth y m ≠ 0 → nth x m = 0 → cnt x < cnt y
  | [], [], m, _, _, h, _ => by simp [nth] at h
  | a :: x, b :: y, 0, hl, hs, h, h' => by
    have ih := Bh (x := x) (y := y) (by simpa using hl) fun i h => hs (i + 1) h
    have ha : a = 0 := h'
    have hb : b ≠ 0 := h
    unfold cnt at *
    rw [List.filter_cons_of_neg (by simpa using ha), List.filter_cons_of_pos (by simpa using hb), List.length_cons]; omega
  | a :: x, b :: y, m + 1, hl, hs, h, h' => by
    have ih := m4 (x := x) (y := y) (m := m) (by simpa using hl) (fun i h => hs (i + 1) h) h h'
    have h0 : a ≠ 0 → b ≠ 0 := hs 0
    unfold cnt at *
    by_cases ha : a = 0
    · rw [List.filter_cons_of_neg (by simpa using ha)]
      by_cases hb : b = 0
      · rw [List.filter_cons_of_neg (by simpa using hb)]; exact ih
      · rw [List.filter_cons_of_pos (by simpa using hb), List.length_cons]; omega
    · rw [List.filter_cons_of_pos (by simpa using ha), List.filter_cons_of_pos (by simpa using h0 ha), List.length_cons, List.length_cons]; omega
theorem qH {n : Nat} {R : List (List Int)} : ∀ (k : Nat) {x : List Int}, cnt x ≤ k → Fit n R x → ∃ l, cj n R l ∧ Sub l x := by
  intro k
  induction k with
  | zero =>
    intro x hk f
    obtain ⟨i, hi⟩ := f.nz
    have : cnt (List.replicate n (0 : Int)) < cnt x := m4 (m := i) (by rw [f.len]; simp) (fun j h => by
      exfalso; apply h
      unfold nth
      rw [List.getD_eq_getElem?_getD, List.getElem?_replicate]
      split <;> rfl) hi (by
      unfold nth
      rw [List.getD_eq_getElem?_getD, List.getElem?_replicate]
      split <;> rfl)
    omega
  | succ k ih =>
    intro x hk f
    by_cases h : ∃ y, Fit n R y ∧ Sub y x ∧ ¬ Sub x y
    · obtain ⟨y, fy, h1, h2⟩ := h
      have : ∃ m, nth x m ≠ 0 ∧ nth y m = 0 := by
        apply Classical.byContradiction
        intro hn
        exact h2 fun i hi => fun z => hn ⟨i, hi, z⟩
      obtain ⟨m, hm, hm0⟩ := this
      have := m4 (by rw [fy.len, f.len]) h1 hm hm0
      obtain ⟨l, hl, hs⟩ := ih (x := y) (by omega) fy
      exact ⟨l, hl, hs.trans h1⟩
    · obtain ⟨q1, q2, q3, q4⟩ := f.low
      refine ⟨low x, ⟨q1, q2, fun y fy hs => ?_⟩, q3⟩
      apply Classical.byContradiction
      intro hn
      exact h ⟨y, fy, hs.trans q3, fun z => hn (q3.trans z)⟩
theorem sM {n : Nat} {R : List (List Int)} (r : List Int) : ∀ (k : Nat) {x : List Int}, cnt x ≤ k → Fit n R x → 0 < bI n (nth r) (nth x) → ∃ l, cj n R l ∧ Sub l x ∧ 0 < bI n (nth r) (nth l) := by
  intro k
  induction k with
  | zero =>
    intro x hk f hv
    obtain ⟨l, hl, hs⟩ := qH 0 hk f
    obtain ⟨i, hi⟩ := f.nz
    have : cnt (List.replicate n (0 : Int)) < cnt x := m4 (m := i) (by rw [f.len]; simp) (fun j h => by
      exfalso; apply h
      unfold nth
      rw [List.getD_eq_getElem?_getD, List.getElem?_replicate]
      split <;> rfl) hi (by
      unfold nth
      rw [List.getD_eq_getElem?_getD, List.getElem?_replicate]
      split <;> rfl)
    omega
  | succ k ih =>
    intro x hk f hv
    obtain ⟨l, hl, hs⟩ := qH (k + 1) hk f
    by_cases hp : 0 < bI n (nth r) (nth l)
    · exact ⟨l, hl, hs, hp⟩
    · obtain ⟨z, zl, zn, zs, c, d, hc, hd, h, m, hm, hzm⟩ := rA f hl.fit hs
      have ev := lL (n := n) h (nth r)
      have h1 := Int.mul_pos hc hv
      have h2 := Int.mul_nonpos_of_nonneg_of_nonpos (show 0 ≤ d by omega) (show bI n (nth r) (nth l) ≤ 0 by omega)
      have hz : ∃ i, nth z i ≠ 0 := by
        apply Classical.byContradiction
        intro hn
        have : bI n (nth r) (nth z) = 0 := jJ fun i _ => by
          have : nth z i = 0 := by
            by_cases e : nth z i = 0
            · exact e
            · exact absurd ⟨i, e⟩ hn
          rw [this]; omega
        omega
      have fz := ud f hl.fit zl zn h hz
      have := m4 (by rw [zl, f.len]) zs (hs m hm) hzm
      obtain ⟨l', q1, q2, q3⟩ := ih (x := z) (by omega) fz (by omega)
      exact ⟨l', q1, q2.trans zs, q3⟩
theorem ja (n : Nat) (r x : List Int) : bI n (nth (r.map (- ·))) (nth x) = -bI n (nth r) (nth x) := by
  have := nK (n := n) (a := r.map (- ·)) (c := r) (g := -1) (fun i => by rw [iR (by simp)]; omega) (nth x)
  rw [← xu, this, xu]; omega
theorem zW {n : Nat} {R : List (List Int)} (r : List Int) {x : List Int} (f : Fit n R x) (hv : bI n (nth r) (nth x) < 0) : ∃ l, cj n R l ∧ Sub l x ∧ bI n (nth r) (nth l) < 0 := by
  obtain ⟨l, h1, h2, h3⟩ := sM (r.map (- ·)) _ (Nat.le_refl _) f (by rw [ja]; omega)
  rw [ja] at h3
  exact ⟨l, h1, h2, by omega⟩
theorem uU {n : Nat} {R : List (List Int)} (r : List Int) {x : List Int} (f : Fit n R x) (hv : bI n (nth r) (nth x) = 0) :
    (∃ l, cj n R l ∧ Sub l x ∧ bI n (nth r) (nth l) = 0) ∨ ∃ h w, cj n R h ∧ cj n R w ∧ Sub h x ∧ Sub w x ∧ 0 < bI n (nth r) (nth h) ∧ bI n (nth r) (nth w) < 0 := by
  obtain ⟨l, hl, hs⟩ := qH _ (Nat.le_refl _) f
  by_cases h0 : bI n (nth r) (nth l) = 0
  · exact .inl ⟨l, hl, hs, h0⟩
  · obtain ⟨z, zl, zn, zs, c, d, hc, hd, h, m, hm, hzm⟩ := rA f hl.fit hs
    have ev := lL (n := n) h (nth r)
    rw [hv] at ev
    have hne : bI n (nth r) (nth z) ≠ 0 := by
      rw [ev]
      have := Int.mul_ne_zero (show d ≠ 0 by omega) h0
      omega
    have hz : ∃ i, nth z i ≠ 0 := by
      apply Classical.byContradiction
      intro hn
      exact hne (jJ fun i _ => by
        have : nth z i = 0 := by
          by_cases e : nth z i = 0
          · exact e
          · exact absurd ⟨i, e⟩ hn
        rw [this]; omega)
    have fz := ud f hl.fit zl zn h hz
    by_cases hp : 0 < bI n (nth r) (nth l)
    · have := Int.mul_pos hd hp
      obtain ⟨w, w1, w2, w3⟩ := zW r fz (by omega)
      exact .inr ⟨l, w, hl, w1, hs, w2.trans zs, hp, w3⟩
    · have := Int.mul_neg_of_pos_of_neg hd (show bI n (nth r) (nth l) < 0 by omega)
      obtain ⟨w, w1, w2, w3⟩ := sM r _ (Nat.le_refl _) fz (by omega)
      exact .inr ⟨w, l, w1, hl, w2.trans zs, hs, w3, by omega⟩
end M
set_option maxRecDepth 100000
set_option maxHeartbeats 4000000
namespace M
def subB (n : Nat) (l h w : List Int) : Bool := (List.range n).all fun i => decide (nth l i = 0) || decide (nth h i ≠ 0) || decide (nth w i ≠ 0)
def nbB (n : Nat) (L : List (List Int)) (h w : List Int) : Bool := (L.filter fun l => subB n l h w).length == 2
def dn (n : Nat) (L : List (List Int)) (r : List Int) : List (List Int) :=
  (L.filter fun l => decide (aD r l = 0)) ++ (L.filter fun l => decide (0 < aD r l)).flatMap fun h => ((L.filter fun l => decide (aD r l < 0)).filter fun w => nbB n L h w).map fun w => cU w (aD r w) h (aD r h)
theorem oD {n : Nat} {l h w : List Int} (hl : l.length = n) : subB n l h w = true ↔ ∀ i, nth l i ≠ 0 → nth h i ≠ 0 ∨ nth w i ≠ 0 := by
  unfold subB
  rw [List.all_eq_true]
  constructor
  · intro H i hi
    have lt : i < n := by
      by_cases e : i < n
      · exact e
      · exact absurd (cI (by omega)) hi
    have := H i (List.mem_range.mpr lt)
    simp only [Bool.or_eq_true, decide_eq_true_eq] at this
    rcases this with (z | z) | z
    · exact absurd z hi
    · exact .inl z
    · exact .inr z
  · intro H i _
    simp only [Bool.or_eq_true, decide_eq_true_eq]
    by_cases e : nth l i = 0
    · exact .inl (.inl e)
    · rcases H i e with z | z
      · exact .inl (.inr z)
      · exact .inr z
theorem Ae {α : Type} {L : List α} (hd : L.Nodup) (hl : L.length = 2) {h w : α} (hh : h ∈ L) (hw : w ∈ L) (hne : h ≠ w) : ∀ l ∈ L, l = h ∨ l = w := by
  match L, hl with
  | [a, b], _ =>
    intro l hl
    simp only [List.mem_cons, List.not_mem_nil, or_false] at hh hw hl
    rcases hh with rfl | rfl <;> rcases hw with rfl | rfl <;> rcases hl with rfl | rfl <;> first | exact .inl rfl | exact .inr rfl | exact absurd rfl hne
theorem zR {α : Type} {L : List α} (hd : L.Nodup) {h w : α} (hh : h ∈ L) (hw : w ∈ L) (hne : h ≠ w) (ha : ∀ l ∈ L, l = h ∨ l = w) : L.length = 2 := by
  have h1 : L.length ≤ 2 := by
    match L, hd with
    | [], _ => simp
    | [_], _ => simp
    | [_, _], _ => simp
    | a :: b :: c :: r, hd =>
      exfalso
      have ha1 := ha a (by simp); have hb1 := ha b (by simp); have hc1 := ha c (by simp)
      simp only [List.nodup_cons, List.mem_cons, not_or] at hd
      rcases ha1 with e1 | e1 <;> rcases hb1 with e2 | e2 <;> rcases hc1 with e3 | e3 <;> simp_all
  match L, hh, hw, h1 with
  | [a], hh, hw, _ =>
    simp only [List.mem_singleton] at hh hw
    exact absurd (hh.trans hw.symm) hne
  | [a, b], _, _, _ => rfl
section
variable {n : Nat} {R L : List (List Int)} {r : List Int}
structure fF (n : Nat) (R L : List (List Int)) : Prop where
  all : ∀ x, x ∈ L ↔ cj n R x
  nd : L.Nodup
theorem fF.dot (k : fF n R L) {l : List Int} (h : l ∈ L) (r : List Int) : aD r l = bI n (nth r) (nth l) := lS ((k.all l).mp h).fit.len
theorem sO (k : fF n R L) {h w : List Int} (hh : h ∈ L) (hw : w ∈ L) (hne : h ≠ w) : nbB n L h w = true ↔ ∀ l ∈ L, (∀ i, nth l i ≠ 0 → nth h i ≠ 0 ∨ nth w i ≠ 0) → l = h ∨ l = w := by
  have mem : ∀ l, l ∈ L.filter (fun l => subB n l h w) ↔ l ∈ L ∧ ∀ i, nth l i ≠ 0 → nth h i ≠ 0 ∨ nth w i ≠ 0 := fun l => by
    rw [List.mem_filter]
    constructor
    · exact fun ⟨a, b⟩ => ⟨a, (oD ((k.all l).mp a).fit.len).mp b⟩
    · exact fun ⟨a, b⟩ => ⟨a, (oD ((k.all l).mp a).fit.len).mpr b⟩
  have nd : (L.filter (fun l => subB n l h w)).Nodup := k.nd.filter _
  have m1 : h ∈ L.filter (fun l => subB n l h w) := (mem h).mpr ⟨hh, fun i hi => .inl hi⟩
  have m2 : w ∈ L.filter (fun l => subB n l h w) := (mem w).mpr ⟨hw, fun i hi => .inr hi⟩
  unfold nbB
  rw [beq_iff_eq]
  constructor
  · exact fun hl l h1 h2 => Ae nd hl m1 m2 hne l ((mem l).mpr ⟨h1, h2⟩)
  · exact fun ha => zR nd m1 m2 hne fun l hl => let ⟨a, b⟩ := (mem l).mp hl; ha l a b
theorem jZ (hr : r.length = n) {h w : List Int} (fh : Fit n R h) (fw : Fit n R w) (vh : 0 < aD r h) (vw : aD r w < 0) :
    Fit n (R ++ [r]) (cU w (aD r w) h (aD r h)) ∧ bV (cU w (aD r w) h (aD r h)) = 1 ∧ (∀ i, nth (cU w (aD r w) h (aD r h)) i ≠ 0 ↔ nth h i ≠ 0 ∨ nth w i ≠ 0) ∧
    ∃ g : Int, 0 < g ∧ ∀ i, g * nth (cU w (aD r w) h (aD r h)) i = nth w i * aD r h + nth h i * (-(aD r w)) := by
  have hlen : w.length = h.length := by rw [fw.len, fh.len]
  obtain ⟨g, hg, e⟩ := nJ hlen (aD r w) (aD r h)
  have e' : ∀ i, g * nth (cU w (aD r w) h (aD r h)) i = nth w i * aD r h + nth h i * (-(aD r w)) := fun i => by rw [e i]; grind
  have nz : ∀ i, nth (cU w (aD r w) h (aD r h)) i ≠ 0 ↔ nth h i ≠ 0 ∨ nth w i ≠ 0 := fun i => by
    have h1 := Int.mul_nonneg (fw.nn i) (show 0 ≤ aD r h by omega)
    have h2 := Int.mul_nonneg (fh.nn i) (show 0 ≤ -(aD r w) by omega)
    constructor
    · intro hz
      apply Classical.byContradiction
      intro hn
      have q1 : nth h i = 0 := by
        by_cases q : nth h i = 0
        · exact q
        · exact absurd (.inl q) hn
      have q2 : nth w i = 0 := by
        by_cases q : nth w i = 0
        · exact q
        · exact absurd (.inr q) hn
      have := e' i
      rw [q1, q2] at this
      have : g * nth (cU w (aD r w) h (aD r h)) i = 0 := by rw [this]; omega
      rcases Int.mul_eq_zero.mp this with z | z
      · omega
      · exact hz z
    · intro hor z
      have := e' i
      rw [z] at this
      have hs : nth w i * aD r h + nth h i * (-(aD r w)) = 0 := by omega
      rcases hor with q | q
      · have := Int.mul_pos (show 0 < nth h i by have := fh.nn i; omega) (show 0 < -(aD r w) by omega); omega
      · have := Int.mul_pos (show 0 < nth w i by have := fw.nn i; omega) vh; omega
  have one : bV (cU w (aD r w) h (aD r h)) = 1 := by
    obtain ⟨i, hi⟩ := fh.nz
    have q : nth (cU w (aD r w) h (aD r h)) i ≠ 0 := (nz i).mpr (.inl hi)
    exact rX _ i q
  refine ⟨⟨by rw [mV hlen, fw.len], fun i => ?_, fun q hq => ?_, ?_⟩, one, nz, g, hg, e'⟩
  · have h1 := Int.mul_nonneg (fw.nn i) (show 0 ≤ aD r h by omega)
    have h2 := Int.mul_nonneg (fh.nn i) (show 0 ≤ -(aD r w) by omega)
    have := e' i
    by_cases z : 0 ≤ nth (cU w (aD r w) h (aD r h)) i
    · exact z
    · have := Int.mul_neg_of_pos_of_neg hg (show nth (cU w (aD r w) h (aD r h)) i < 0 by omega); omega
  · obtain ⟨g', hg', ed⟩ := Cs (n := n) hlen (aD r w) (aD r h) (nth q)
    simp only [xu] at ed
    rw [fm]
    have z : g' * bI n (nth (cU w (aD r w) h (aD r h))) (nth q) = 0 := by
      rw [ed, fm n (nth w), fm n (nth h)]
      rcases List.mem_append.mp hq with hq | hq
      · rw [fw.st q hq, fh.st q hq]; omega
      · rw [List.mem_singleton.mp hq, ← lS fw.len, ← lS fh.len]; grind
    rcases Int.mul_eq_zero.mp z with z | z
    · omega
    · exact z
  · obtain ⟨i, hi⟩ := fh.nz
    exact ⟨i, (nz i).mpr (.inl hi)⟩
theorem Fit.less {R S : List (List Int)} {x : List Int} (f : Fit n (R ++ S) x) : Fit n R x := ⟨f.len, f.nn, fun r hr => f.st r (List.mem_append_left _ hr), f.nz⟩
theorem Fit.more (f : Fit n R x) (h : bI n (nth r) (nth x) = 0) : Fit n (R ++ [r]) x := ⟨f.len, f.nn, fun q hq => by
  rcases List.mem_append.mp hq with z | z
  · exact f.st q z
  · rw [List.mem_singleton.mp z]; exact h, f.nz⟩
theorem cj.same {x y : List Int} (a : cj n R x) (b : cj n R y) (h : Sub y x) : x = y := a.eq b.fit b.one h
theorem rg (hr : r.length = n) {h l w x : List Int} (lh : cj n R h) (ll : cj n R l) (lw : cj n R w) (lx : cj n (R ++ [r]) x) (vh : 0 < aD r h) (vl : 0 < aD r l) (vw : aD r w < 0) (sh : Sub h x) (sl : Sub l x) (sw : Sub w x) : l = h := by
  obtain ⟨f1, g1, z1, a, ha, e1⟩ := jZ hr lh.fit lw.fit vh vw
  obtain ⟨f2, g2, z2, b, hb, e2⟩ := jZ hr ll.fit lw.fit vl vw
  have x1 := lx.eq f1 g1 fun i hi => ((z1 i).mp hi).elim (sh i) (sw i)
  have x2 := lx.eq f2 g2 fun i hi => ((z2 i).mp hi).elim (sl i) (sw i)
  rw [← x1] at e1
  rw [← x2] at e2
  have key : ∀ i, b * (nth h i * (-(aD r w))) + (b * aD r h - a * aD r l) * nth w i = a * (nth l i * (-(aD r w))) := fun i => by
    have q1 := e1 i
    have q2 := e2 i
    have : b * (a * nth x i) = a * (b * nth x i) := by grind
    rw [q1, q2] at this
    grind
  have hu : 0 < -(aD r w) := by omega
  by_cases hm : 0 ≤ b * aD r h - a * aD r l
  · refine (cj.same ll lh fun i hi => ?_)
    intro z
    have q := key i
    rw [z] at q
    have h1 := Int.mul_pos hb (Int.mul_pos (show 0 < nth h i by have := lh.fit.nn i; omega) hu)
    have h2 := Int.mul_nonneg hm (lw.fit.nn i)
    have h3 : a * (0 * (-(aD r w))) = 0 := by simp
    omega
  · refine (cj.same lh ll fun i hi => ?_).symm
    intro z
    have q := key i
    rw [z] at q
    have h1 := Int.mul_pos ha (Int.mul_pos (show 0 < nth l i by have := ll.fit.nn i; omega) hu)
    have h2 := Int.mul_nonpos_of_nonpos_of_nonneg (show b * aD r h - a * aD r l ≤ 0 by omega) (lw.fit.nn i)
    have h3 : b * (0 * (-(aD r w))) = 0 := by simp
    omega
theorem rh {l : List Int} (hl : l.length = n) : aD (r.map (- ·)) l = -(aD r l) := by rw [lS hl, lS hl, ja]
theorem cj.neg {x : List Int} (l : cj n (R ++ [r]) x) : cj n (R ++ [r.map (- ·)]) x := by
  have tr : ∀ y, Fit n (R ++ [r]) y ↔ Fit n (R ++ [r.map (- ·)]) y := fun y => by
    constructor
    · refine fun f => Fit.more f.less ?_
      rw [ja, f.st r (by simp)]; rfl
    · refine fun f => Fit.more f.less ?_
      have := f.st (r.map (- ·)) (by simp)
      rw [ja] at this; omega
  exact ⟨(tr x).mp l.fit, l.one, fun y fy => l.min y ((tr y).mpr fy)⟩
theorem xk (hr : r.length = n) {h l w x : List Int} (lh : cj n R h) (ll : cj n R l) (lw : cj n R w) (lx : cj n (R ++ [r]) x) (vh : 0 < aD r h) (vl : aD r l < 0) (vw : aD r w < 0) (sh : Sub h x) (sl : Sub l x) (sw : Sub w x) : l = w :=
  rg (r := r.map (- ·)) (h := w) (l := l) (w := h) (by simpa using hr) lw ll lh lx.neg (by rw [rh lw.fit.len]; omega) (by rw [rh ll.fit.len]; omega) (by rw [rh lh.fit.len]; omega) sw sl sh
theorem pC {x : List Int} : x ∈ dn n L r ↔ (x ∈ L ∧ aD r x = 0) ∨ ∃ h w, h ∈ L ∧ w ∈ L ∧ 0 < aD r h ∧ aD r w < 0 ∧ nbB n L h w = true ∧ x = cU w (aD r w) h (aD r h) := by
  unfold dn
  rw [List.mem_append]
  constructor
  · rintro (h | h)
    · rw [List.mem_filter, decide_eq_true_eq] at h; exact .inl h
    · obtain ⟨h', q1, q2⟩ := List.mem_flatMap.mp h
      obtain ⟨w, q3, rfl⟩ := List.mem_map.mp q2
      rw [List.mem_filter, decide_eq_true_eq] at q1
      rw [List.mem_filter, List.mem_filter, decide_eq_true_eq] at q3
      exact .inr ⟨h', w, q1.1, q3.1.1, q1.2, q3.1.2, q3.2, rfl⟩
  · rintro (h | ⟨h', w, q1, q2, q3, q4, q5, rfl⟩)
    · exact .inl (by rw [List.mem_filter, decide_eq_true_eq]; exact h)
    · refine .inr (List.mem_flatMap.mpr ⟨h', by rw [List.mem_filter, decide_eq_true_eq]; exact ⟨q1, q3⟩, List.mem_map.mpr ⟨w, ?_, rfl⟩⟩)
      rw [List.mem_filter, List.mem_filter, decide_eq_true_eq]; exact ⟨⟨q2, q4⟩, q5⟩
theorem xN (hr : r.length = n) (k : fF n R L) (x : List Int) : x ∈ dn n L r ↔ cj n (R ++ [r]) x := by
  rw [pC]
  constructor
  · rintro (⟨hx, v⟩ | ⟨h, w, hh, hw, vh, vw, nb, rfl⟩)
    · have l := (k.all x).mp hx
      rw [k.dot hx] at v
      exact ⟨l.fit.more v, l.one, fun y fy => l.min y fy.less⟩
    · have lh := (k.all h).mp hh
      have lw := (k.all w).mp hw
      have hne : h ≠ w := fun e => by rw [e] at vh; omega
      obtain ⟨f1, g1, z1, _⟩ := jZ hr lh.fit lw.fit vh vw
      refine ⟨f1, g1, fun y fy sy => ?_⟩
      have nb' := (sO k hh hw hne).mp nb
      rcases uU r fy.less (fy.st r (by simp)) with ⟨l, ll, sl, v⟩ | ⟨h', w', lh', lw', sh', sw', vh', vw'⟩
      · have hl := (k.all l).mpr ll
        have := nb' l hl fun i hi => (z1 i).mp (sy i (sl i hi))
        rw [← k.dot hl] at v
        rcases this with rfl | rfl <;> omega
      · have hh' := (k.all h').mpr lh'
        have hw' := (k.all w').mpr lw'
        rw [← k.dot hh'] at vh'
        rw [← k.dot hw'] at vw'
        have e1 : h' = h := by
          rcases nb' h' hh' fun i hi => (z1 i).mp (sy i (sh' i hi)) with e | e
          · exact e
          · rw [e] at vh'; omega
        have e2 : w' = w := by
          rcases nb' w' hw' fun i hi => (z1 i).mp (sy i (sw' i hi)) with e | e
          · rw [e] at vw'; omega
          · exact e
        subst e1 e2
        exact fun i hi => ((z1 i).mp hi).elim (sh' i) (sw' i)
  · intro lx
    by_cases hz : ∃ l, cj n R l ∧ Sub l x ∧ bI n (nth r) (nth l) = 0
    · obtain ⟨l, ll, sl, v⟩ := hz
      have e := lx.eq (ll.fit.more v) ll.one sl
      subst e
      have hl := (k.all x).mpr ll
      exact .inl ⟨hl, by rw [k.dot hl]; exact v⟩
    · rcases uU r lx.fit.less (lx.fit.st r (by simp)) with h0 | ⟨h, w, lh, lw, sh, sw, vh, vw⟩
      · exact absurd h0 hz
      · have hh := (k.all h).mpr lh
        have hw := (k.all w).mpr lw
        rw [← k.dot hh] at vh
        rw [← k.dot hw] at vw
        have hne : h ≠ w := fun e => by rw [e] at vh; omega
        obtain ⟨f1, g1, z1, _⟩ := jZ hr lh.fit lw.fit vh vw
        refine .inr ⟨h, w, hh, hw, vh, vw, (sO k hh hw hne).mpr fun l hl sl => ?_, lx.eq f1 g1 fun i hi => ((z1 i).mp hi).elim (sh i) (sw i)⟩
        have ll := (k.all l).mp hl
        have slx : Sub l x := fun i hi => (sl i hi).elim (sh i) (sw i)
        by_cases v0 : aD r l = 0
        · exact absurd ⟨l, ll, slx, by rw [← k.dot hl]; exact v0⟩ hz
        · by_cases vp : 0 < aD r l
          · exact .inl (rg hr lh ll lw lx vh vp vw sh slx sw)
          · exact .inr (xk hr lh ll lw lx vh (by omega) vw sh slx sw)
end
end M
set_option maxRecDepth 100000
set_option maxHeartbeats 4000000
namespace M
section
variable {n : Nat} {R L : List (List Int)} {r : List Int}
theorem zA (hr : r.length = n) (k : fF n R L) {h w h' w' : List Int} (hh : h ∈ L) (hw : w ∈ L) (vh : 0 < aD r h) (vw : aD r w < 0) (nb : nbB n L h w = true)
    (hh' : h' ∈ L) (hw' : w' ∈ L) (vh' : 0 < aD r h') (vw' : aD r w' < 0) (e : cU w (aD r w) h (aD r h) = cU w' (aD r w') h' (aD r h')) : h = h' ∧ w = w' := by
  have hne : h ≠ w := fun e => by rw [e] at vh; omega
  obtain ⟨_, _, z1, _⟩ := jZ hr ((k.all h).mp hh).fit ((k.all w).mp hw).fit vh vw
  obtain ⟨_, _, z2, _⟩ := jZ hr ((k.all h').mp hh').fit ((k.all w').mp hw').fit vh' vw'
  rw [e] at z1
  have nb' := (sO k hh hw hne).mp nb
  constructor
  · rcases nb' h' hh' fun i hi => (z1 i).mp ((z2 i).mpr (.inl hi)) with q | q
    · exact q.symm
    · rw [q] at vh'; omega
  · rcases nb' w' hw' fun i hi => (z1 i).mp ((z2 i).mpr (.inr hi)) with q | q
    · rw [q] at vw'; omega
    · exact q.symm
theorem yj (hr : r.length = n) (k : fF n R L) : (dn n L r).Nodup := by
  unfold dn
  rw [List.nodup_append]
  refine ⟨k.nd.filter _, ?_, fun x hx y hy e => ?_⟩
  · unfold List.Nodup
    rw [List.pairwise_flatMap]
    constructor
    · intro h hh
      rw [List.mem_filter, decide_eq_true_eq] at hh
      rw [List.pairwise_map]
      refine List.Pairwise.imp_of_mem (fun {w w'} hw hw' hne => ?_) ((k.nd.filter _).filter _)
      rw [List.mem_filter, List.mem_filter, decide_eq_true_eq] at hw hw'
      exact fun e => hne (zA hr k hh.1 hw.1.1 hh.2 hw.1.2 hw.2 hh.1 hw'.1.1 hh.2 hw'.1.2 e).2
    · refine List.Pairwise.imp_of_mem (fun {h h'} hh hh' hne x hx y hy => ?_) (k.nd.filter _)
      rw [List.mem_filter, decide_eq_true_eq] at hh hh'
      obtain ⟨w, hw, rfl⟩ := List.mem_map.mp hx
      obtain ⟨w', hw', rfl⟩ := List.mem_map.mp hy
      rw [List.mem_filter, List.mem_filter, decide_eq_true_eq] at hw hw'
      exact fun e => hne (zA hr k hh.1 hw.1.1 hh.2 hw.1.2 hw.2 hh'.1 hw'.1.1 hh'.2 hw'.1.2 e).1
  · subst e
    rw [List.mem_filter, decide_eq_true_eq] at hx
    obtain ⟨h, hh, hy⟩ := List.mem_flatMap.mp hy
    obtain ⟨w, hw, e⟩ := List.mem_map.mp hy
    rw [List.mem_filter, decide_eq_true_eq] at hh
    rw [List.mem_filter, List.mem_filter, decide_eq_true_eq] at hw
    have hne : h ≠ w := fun e => by rw [e] at hh; omega
    obtain ⟨_, _, z1, _⟩ := jZ hr ((k.all h).mp hh.1).fit ((k.all w).mp hw.1.1).fit hh.2 hw.1.2
    rw [e] at z1
    rcases (sO k hh.1 hw.1.1 hne).mp hw.2 x hx.1 fun i hi => (z1 i).mp hi with q | q
    · rw [q] at hx; omega
    · rw [q] at hx; omega
theorem fF.step (hr : r.length = n) (k : fF n R L) : fF n (R ++ [r]) (dn n L r) := ⟨xN hr k, yj hr k⟩
theorem u3 {a : Nat} (ha : a < n) : bV (gf n a) = 1 := by
  have := lZ (gf n a) a
  rw [gQ ha, if_pos rfl] at this
  have : (bV (gf n a) : Int).natAbs ∣ (1 : Int).natAbs := Int.natAbs_dvd_natAbs.mpr this
  simpa using this
theorem vS {a : Nat} (ha : a < n) : Fit n [] (gf n a) := by
  refine ⟨by unfold gf; simp, fun i => ?_, by simp, ⟨a, ?_⟩⟩
  · rw [gQ ha]; split <;> omega
  · rw [gQ ha, if_pos rfl]; decide
theorem BP {a : Nat} (ha : a < n) : cj n [] (gf n a) := by
  refine ⟨vS ha, u3 ha, fun y fy sy => fun i hi => ?_⟩
  rw [gQ ha] at hi
  by_cases e : i = a
  · subst e
    obtain ⟨j, hj⟩ := fy.nz
    have := sy j hj
    rw [gQ ha] at this
    by_cases e : j = i
    · rw [← e]; exact hj
    · rw [if_neg e] at this; exact absurd rfl this
  · rw [if_neg e] at hi; exact absurd rfl hi
theorem zG (n : Nat) : fF n [] (gi n) := by
  refine ⟨fun x => ⟨fun hx => ?_, fun l => ?_⟩, ?_⟩
  · obtain ⟨a, ha, rfl⟩ := List.mem_map.mp hx
    exact BP (List.mem_range.mp ha)
  · obtain ⟨i, hi⟩ := l.fit.nz
    have lt := l.fit.lt hi
    have := l.eq (vS lt) (u3 lt) fun j hj => by
      rw [gQ lt] at hj
      by_cases e : j = i
      · rw [e]; exact hi
      · rw [if_neg e] at hj; exact absurd rfl hj
    rw [this]
    exact List.mem_map.mpr ⟨i, List.mem_range.mpr lt, rfl⟩
  · unfold gi List.Nodup
    rw [List.pairwise_map]
    refine List.Pairwise.imp_of_mem (fun {a b} ha hb hne e => hne ?_) List.nodup_range
    have h1 := gQ (List.mem_range.mp ha) a
    rw [e, gQ (List.mem_range.mp hb), if_pos rfl] at h1
    by_cases q : a = b
    · exact q
    · rw [if_neg q] at h1; cases h1
theorem uI : ∀ {rows : List (List Int)}, (∀ r ∈ rows, r.length = n) → ∀ {R L : List (List Int)}, fF n R L → fF n (R ++ rows) (rows.foldl (dn n) L)
  | [], _, R, L, k => by simpa using k
  | row :: rows, h, R, L, k => by
    have := uI (rows := rows) (fun r hr => h r (List.mem_cons_of_mem _ hr)) (k.step (h row List.mem_cons_self))
    simpa using this
def eU (rows : List (List Int)) (n : Nat) : List (List Int) := rows.foldl (dn n) (gi n)
theorem kF {rows : List (List Int)} (h : ∀ r ∈ rows, r.length = n) : fF n rows (eU rows n) := by
  have := uI h (zG n)
  rw [List.nil_append] at this
  exact this
theorem fF.perm {L' : List (List Int)} (k : fF n R L) (p : L'.Perm L) : fF n R L' := ⟨fun x => (p.mem_iff).trans (k.all x), p.nodup_iff.mpr k.nd⟩
end
end M
set_option maxRecDepth 100000
set_option maxHeartbeats 4000000
namespace M
section
variable {n : Nat} {R L : List (List Int)}
end
end M
set_option maxRecDepth 100000
set_option maxHeartbeats 1000000
namespace M
theorem sg : ∀ (N : Nat) (l : List Nat), l.Nodup → (∀ x ∈ l, x < N) → l.length ≤ N
  | 0, l, _, h => by
    cases l with
    | nil => exact Nat.le_refl _
    | cons a l => exact absurd (h a List.mem_cons_self) (by omega)
  | N + 1, l, nd, h => by
    by_cases hm : N ∈ l
    · have := sg N (l.erase N) (nd.erase N) (fun x hx => by
        have h1 := (nd.mem_erase_iff.mp hx)
        have := h x h1.2
        have := h1.1
        omega)
      rw [List.length_erase_of_mem hm] at this
      omega
    · have := sg N l nd (fun x hx => by
        have h1 := h x hx
        have : x ≠ N := fun e => hm (e ▸ hx)
        omega)
      omega
def at0 (x : List Int) (i : Nat) : Bool := decide (nth x i ≠ 0)
def cl3 (a b c : Bool) : Nat := match a, b, c with
  | false, true, _ => 1
  | false, false, true => 2
  | true, false, true => 2
  | _, _, _ => 0
theorem wg (a b c : Bool) : cl3 a b c ≤ 2 := by revert a b c; decide
theorem AZ : ∀ a b c a' b' c' : Bool, cl3 a b c = cl3 a' b' c' → ((a = true → a' = true) ∧ (b = true → b' = true) ∧ (c = true → c' = true)) ∨ ((a' = true → a = true) ∧ (b' = true → b = true) ∧ (c' = true → c = true)) := by decide
def t6 (x : List Int) : Nat := 3 * ((at0 x 3).toNat + 2 * (at0 x 4).toNat + 4 * (at0 x 5).toNat + 8 * (at0 x 6).toNat) + cl3 (at0 x 0) (at0 x 1) (at0 x 2)
theorem toNat_le (b : Bool) : b.toNat ≤ 1 := by cases b <;> decide
theorem toNat_inj {a b : Bool} (h : a.toNat = b.toNat) : a = b := by revert a b; decide
theorem Fb (x : List Int) : t6 x < 48 := by
  have := wg (at0 x 0) (at0 x 1) (at0 x 2)
  have := toNat_le (at0 x 3)
  have := toNat_le (at0 x 4)
  have := toNat_le (at0 x 5)
  have := toNat_le (at0 x 6)
  unfold t6
  omega
theorem Bc {x y : List Int} (hx : x.length ≤ 7) (h : ∀ i, i < 7 → at0 x i = true → at0 y i = true) : Sub x y := fun i hi => by
  by_cases h7 : i < 7
  · exact of_decide_eq_true (h i h7 (decide_eq_true hi))
  · exact absurd (cI (by omega)) hi
theorem ET {n : Nat} {R : List (List Int)} {x y : List Int} (hn : n ≤ 7) (lx : cj n R x) (ly : cj n R y) (h : t6 x = t6 y) : x = y := by
  have a1 := wg (at0 x 0) (at0 x 1) (at0 x 2)
  have a2 := wg (at0 y 0) (at0 y 1) (at0 y 2)
  have b3 := toNat_le (at0 x 3); have c3 := toNat_le (at0 y 3)
  have b4 := toNat_le (at0 x 4); have c4 := toNat_le (at0 y 4)
  have b5 := toNat_le (at0 x 5); have c5 := toNat_le (at0 y 5)
  have b6 := toNat_le (at0 x 6); have c6 := toNat_le (at0 y 6)
  unfold t6 at h
  have e3 : at0 x 3 = at0 y 3 := toNat_inj (by omega)
  have e4 : at0 x 4 = at0 y 4 := toNat_inj (by omega)
  have e5 : at0 x 5 = at0 y 5 := toNat_inj (by omega)
  have e6 : at0 x 6 = at0 y 6 := toNat_inj (by omega)
  have e : cl3 (at0 x 0) (at0 x 1) (at0 x 2) = cl3 (at0 y 0) (at0 y 1) (at0 y 2) := by omega
  have lenx : x.length ≤ 7 := by rw [lx.fit.len]; exact hn
  have leny : y.length ≤ 7 := by rw [ly.fit.len]; exact hn
  rcases AZ _ _ _ _ _ _ e with ⟨q0, q1, q2⟩ | ⟨q0, q1, q2⟩
  · refine (ly.same lx (Bc lenx fun i hi ht => ?_)).symm
    have : i = 0 ∨ i = 1 ∨ i = 2 ∨ i = 3 ∨ i = 4 ∨ i = 5 ∨ i = 6 := by omega
    rcases this with rfl | rfl | rfl | rfl | rfl | rfl | rfl
    · exact q0 ht
    · exact q1 ht
    · exact q2 ht
    · rw [← e3]; exact ht
    · rw [← e4]; exact ht
    · rw [← e5]; exact ht
    · rw [← e6]; exact ht
  · refine lx.same ly (Bc leny fun i hi ht => ?_)
    have : i = 0 ∨ i = 1 ∨ i = 2 ∨ i = 3 ∨ i = 4 ∨ i = 5 ∨ i = 6 := by omega
    rcases this with rfl | rfl | rfl | rfl | rfl | rfl | rfl
    · exact q0 ht
    · exact q1 ht
    · exact q2 ht
    · rw [e3]; exact ht
    · rw [e4]; exact ht
    · rw [e5]; exact ht
    · rw [e6]; exact ht
theorem uA {α β : Type} {f : α → β} : ∀ {l : List α}, l.Nodup → (∀ x ∈ l, ∀ y ∈ l, f x = f y → x = y) → (l.map f).Nodup
  | [], _, _ => List.nodup_nil
  | a :: l, nd, h => by
    rw [List.map_cons, List.nodup_cons]
    rw [List.nodup_cons] at nd
    refine ⟨fun hm => ?_, uA nd.2 fun x hx y hy => h x (List.mem_cons_of_mem _ hx) y (List.mem_cons_of_mem _ hy)⟩
    obtain ⟨b, hb, e⟩ := List.mem_map.mp hm
    exact nd.1 (h b (List.mem_cons_of_mem _ hb) a List.mem_cons_self e ▸ hb)
theorem fF.few {n : Nat} {R L : List (List Int)} (k : fF n R L) (hn : n ≤ 7) : L.length < 64 := by
  have := sg 48 (L.map t6) (uA k.nd fun x hx y hy e => ET hn ((k.all x).mp hx) ((k.all y).mp hy) e) fun c hc => by
    obtain ⟨x, _, rfl⟩ := List.mem_map.mp hc
    exact Fb x
  rw [List.length_map] at this
  omega
theorem DE {n b c : Nat} {L : List (List Int)} {r : List Int} (hr : SzL c r) (hl : r.length ≤ 1000) (hL : fO b L) : fO (2 * b + c + 12) (dn n L r) := by
  intro x hx
  rcases pC.mp hx with ⟨h, _⟩ | ⟨h, w, hh, hw, _, _, _, rfl⟩
  · exact (hL x h).mono (by omega)
  · exact (SzL.off (hL w hw) (hL h hh) (pK hr (hL w hw) hl) (pK hr (hL h hh) hl)).mono (by omega)
def qa (c : Nat) : Nat → Nat → Nat
  | 0, b => b
  | m + 1, b => qa c m (2 * b + c + 12)
theorem wa {n c : Nat} : ∀ (rows : List (List Int)) (b : Nat) (L : List (List Int)), (∀ r ∈ rows, SzL c r ∧ r.length ≤ 1000) → fO b L → fO (qa c rows.length b) (rows.foldl (dn n) L)
  | [], b, L, _, h => h
  | r :: rows, b, L, hr, h => wa rows _ _ (fun q hq => hr q (List.mem_cons_of_mem _ hq)) (DE (hr r List.mem_cons_self).1 (hr r List.mem_cons_self).2 h)
theorem xG (c : Nat) : ∀ (m b : Nat), b ≤ qa c m b
  | 0, _ => Nat.le_refl _
  | m + 1, b => Nat.le_trans (by omega) (xG c m (2 * b + c + 12))
theorem vf (c : Nat) : ∀ (m m' b : Nat), m ≤ m' → qa c m b ≤ qa c m' b
  | 0, m', b, _ => xG c m' b
  | m + 1, 0, b, h => absurd h (by omega)
  | m + 1, m' + 1, b, h => vf c m m' _ (by omega)
def cg (x : List Int) : Nat := x.foldl (fun b y => b * 2 + if 0 < y then 1 else 0) 0
theorem yW : ∀ (x : List Int) (b i : Nat), (x.foldl (fun b y => b * 2 + if 0 < y then 1 else 0) b).testBit i = if i < x.length then decide (0 < nth x (x.length - 1 - i)) else b.testBit (i - x.length)
  | [], b, i => by simp
  | y :: x, b, i => by
    rw [List.foldl_cons, yW x]
    have c1 : (if 0 < y then 1 else 0 : Nat) ≤ 1 := by split <;> omega
    have c2 : decide ((if 0 < y then 1 else 0 : Nat) = 1) = decide (0 < y) := by
      by_cases hy : 0 < y
      · rw [if_pos hy, decide_eq_true hy]; rfl
      · rw [if_neg hy, decide_eq_false hy]; rfl
    generalize (if 0 < y then 1 else 0 : Nat) = c at c1 c2
    by_cases h : i < x.length
    · rw [if_pos h, if_pos (by simp; omega)]
      congr 2
      show nth x (x.length - 1 - i) = nth (y :: x) (x.length + 1 - 1 - i)
      rw [show x.length + 1 - 1 - i = (x.length - 1 - i) + 1 by omega]
      rfl
    · rw [if_neg h]
      by_cases h2 : i = x.length
      · subst h2
        rw [if_pos (by simp), Nat.sub_self, Nat.testBit_zero]
        show _ = decide (0 < nth (y :: x) (x.length + 1 - 1 - x.length))
        rw [show x.length + 1 - 1 - x.length = 0 by omega]
        show _ = decide (0 < y)
        rw [← c2]
        congr 1
        rw [eq_iff_iff]
        omega
      · rw [if_neg (by simp; omega), List.length_cons, show i - x.length = (i - (x.length + 1)) + 1 by omega, Nat.testBit_succ]
        congr 1
        omega
theorem lO (x : List Int) (i : Nat) : (cg x).testBit i = decide (i < x.length ∧ 0 < nth x (x.length - 1 - i)) := by
  unfold cg
  rw [yW]
  by_cases h : i < x.length
  · rw [if_pos h]
    by_cases h2 : 0 < nth x (x.length - 1 - i)
    · rw [decide_eq_true h2, decide_eq_true ⟨h, h2⟩]
    · rw [decide_eq_false h2, decide_eq_false (fun z => h2 z.2)]
  · rw [if_neg h, decide_eq_false (fun z => h z.1), Nat.zero_testBit]
theorem Ba {a b : Nat} : a ||| b = b ↔ ∀ i, a.testBit i = true → b.testBit i = true := by
  constructor
  · intro h i hi
    rw [← h, Nat.testBit_or, hi, Bool.true_or]
  · intro h
    refine Nat.eq_of_testBit_eq fun i => ?_
    rw [Nat.testBit_or]
    cases ha : a.testBit i with
    | true => rw [h i ha]; rfl
    | false => rw [Bool.false_or]
theorem bits_sub {n : Nat} {l h w : List Int} (hl : l.length = n) (hh : h.length = n) (hw : w.length = n) (nl : ∀ i, 0 ≤ nth l i) (nh : ∀ i, 0 ≤ nth h i) (nw : ∀ i, 0 ≤ nth w i) : decide (cg l ||| (cg h ||| cg w) = cg h ||| cg w) = subB n l h w := by
  rw [Bool.eq_iff_iff, decide_eq_true_eq, Ba, oD hl]
  constructor
  · intro H i hi
    have lt : i < n := by
      by_cases e : i < n
      · exact e
      · exact absurd (cI (by omega)) hi
    have := H (n - 1 - i) (by
      rw [lO]
      refine decide_eq_true ⟨by omega, ?_⟩
      rw [hl, show n - 1 - (n - 1 - i) = i by omega]
      have := nl i
      omega)
    rw [Nat.testBit_or, Bool.or_eq_true, lO, lO, decide_eq_true_eq, decide_eq_true_eq, hh, hw, show n - 1 - (n - 1 - i) = i by omega] at this
    rcases this with z | z
    · exact .inl (by omega)
    · exact .inr (by omega)
  · intro H i hi
    rw [lO, decide_eq_true_eq, hl] at hi
    rw [Nat.testBit_or, Bool.or_eq_true, lO, lO, decide_eq_true_eq, decide_eq_true_eq, hh, hw]
    rcases H (n - 1 - i) (by omega) with z | z
    · have := nh (n - 1 - i)
      exact .inl ⟨hi.1, by omega⟩
    · have := nw (n - 1 - i)
      exact .inr ⟨hi.1, by omega⟩
end M
set_option maxRecDepth 100000
set_option maxHeartbeats 1000000
namespace M
structure Tight (left y : List Int) (a : Nat) : Prop where
  pos : 0 < nth y a
  min : ∀ i, 0 < nth y i → nth left a * nth y i ≤ nth left i * nth y a
def dU (left y : List Int) (a : Nat) : List Int := (left.zip y).map fun p => p.1 * nth y a - p.2 * nth left a
def gC (left y : List Int) (bot : Int) (a : Nat) : List Int := low (dU left y a ++ [bot * nth y a])
abbrev Sh : Type := (Int × Int) × List Int
def psS (i : Nat) (T : List Sh) : Int × Int := T.foldl (fun q s => (q.1 * s.1.2, s.1.2 * q.2 + s.1.1 * q.1 * nth s.2 i)) (1, 0)
theorem CC (i : Nat) (T : List Sh) (s : Sh) : psS i (T ++ [s]) = ((psS i T).1 * s.1.2, s.1.2 * (psS i T).2 + s.1.1 * (psS i T).1 * nth s.2 i) := by
  unfold psS
  rw [List.foldl_append]
  rfl
theorem oh {left y : List Int} {n a : Nat} (hl : left.length = n) (hy : y.length = n) (i : Nat) : nth (dU left y a) i = nth left i * nth y a - nth y i * nth left a := by
  have ll : (dU left y a).length = n := by unfold dU; rw [List.length_map, List.length_zip]; omega
  by_cases h : i < n
  · unfold dU nth
    simp [List.getD_eq_getElem?_getD, List.getElem?_eq_getElem (show i < left.length by omega), List.getElem?_eq_getElem (show i < y.length by omega), List.getElem?_eq_getElem (show i < (left.zip y).length by rw [List.length_zip]; omega)]
  · rw [cI (r := dU left y a) (i := i) (by omega), cI (r := left) (i := i) (by omega), cI (r := y) (i := i) (by omega), Int.zero_mul, Int.zero_mul]
    rfl
theorem wd {left y : List Int} {n a : Nat} (hl : left.length = n) (hy : y.length = n) : (dU left y a).length = n := by
  unfold dU; rw [List.length_map, List.length_zip]; omega
theorem BK {x y : List Int} {i : Nat} (h : i < x.length) : nth (x ++ y) i = nth x i := by
  unfold nth
  rw [List.getD_eq_getElem?_getD, List.getD_eq_getElem?_getD, List.getElem?_append_left h]
theorem AG {x : List Int} {b : Int} : nth (x ++ [b]) x.length = b := by
  unfold nth
  rw [List.getD_eq_getElem?_getD]
  simp
theorem C2 {x : List Int} {n i : Nat} (h : i < n) : nth (x.take n) i = nth x i := by
  unfold nth
  rw [List.getD_eq_getElem?_getD, List.getD_eq_getElem?_getD, List.getElem?_take, if_pos h]
structure Red (n : Nat) (left y : List Int) (bot : Int) (a : Nat) (g : Int) (l' : List Int) (b' : Int) : Prop where
  gp : 0 < g
  len : l'.length = n
  lv : ∀ i, g * nth l' i = nth left i * nth y a - nth y i * nth left a
  bv : g * b' = bot * nth y a
theorem Gg {n : Nat} {left y : List Int} {bot : Int} {a : Nat} (hl : left.length = n) (hy : y.length = n) : Red n left y bot a (qG (dU left y a ++ [bot * nth y a])) ((gC left y bot a).take n) (nth (gC left y bot a) n) := by
  have rl := wd (a := a) hl hy
  have len : (gC left y bot a).length = n + 1 := by unfold gC; rw [low_length]; simp [rl]
  refine ⟨kH _, by rw [List.length_take, len]; omega, fun i => ?_, ?_⟩
  · by_cases h : i < n
    · rw [C2 h]
      unfold gC
      rw [← j5, BK (by omega), oh hl hy]
    · rw [cI (r := (gC left y bot a).take n) (by rw [List.length_take]; omega), ← oh (a := a) hl hy, cI (r := dU left y a) (by omega)]
      omega
  · unfold gC
    rw [← j5]
    conv => lhs; rw [← rl]
    exact AG
structure Shr (n : Nat) (R : List (List Int)) (fit : List Int) (c : Nat) (ps : List (List Int)) (T : List Sh) (left : List Int) (bot : Int) : Prop where
  len : left.length = n
  nn : ∀ i, 0 ≤ nth left i
  bp : 0 < bot
  st : ∀ r ∈ R, bI n (nth r) (nth left) = 0
  sub : Sub left fit
  cn : T.length + cnt left ≤ cnt fit
  good : ∀ s ∈ T, 0 < s.1.1 ∧ 0 < s.1.2 ∧ Int.gcd s.1.1 s.1.2 = 1 ∧ Sub s.2 fit
  sl : (T.map (·.2)).Sublist ps
  eq : ∀ i, bot * (psS i T).2 + (psS i T).1 * nth left i = (psS i T).1 * bot * nth fit i
  no : ∀ y ∈ ps, ¬ Sub y left
  sz : SzL (c + 8001 * T.length) left
  szb : Sz (c + 8001 * T.length) bot
  szt : ∀ s ∈ T, Sz (c + 8001 * T.length) s.1.1 ∧ Sz (c + 8001 * T.length) s.1.2
theorem CY {n : Nat} {R : List (List Int)} {fit : List Int} {c : Nat} (hl : fit.length = n) (hn : ∀ i, 0 ≤ nth fit i) (hs : ∀ r ∈ R, bI n (nth r) (nth fit) = 0) (hz : SzL c fit) (hc : 1 ≤ c) : Shr n R fit c [] [] fit 1 :=
  ⟨hl, hn, by decide, hs, Sub.refl _, by simp, by simp, by simp, fun i => by simp [psS], by simp, fun x hx => (hz x hx).mono (by simp), by
    unfold Sz
    have : 2 ^ 1 ≤ 2 ^ (c + 8001 * ([] : List Sh).length) := Nat.pow_le_pow_right (by decide) (by simp; omega)
    omega, by simp⟩
theorem C6 {n : Nat} {R : List (List Int)} {fit : List Int} {c : Nat} {ps : List (List Int)} {T : List Sh} {left y : List Int} {bot : Int} (h : Shr n R fit c ps T left bot) (hy : ¬ Sub y left) : Shr n R fit c (ps ++ [y]) T left bot :=
  ⟨h.len, h.nn, h.bp, h.st, h.sub, h.cn, h.good, h.sl.trans (List.sublist_append_left _ _), h.eq, fun z hz => by
    rcases List.mem_append.mp hz with q | q
    · exact h.no z q
    · rw [List.mem_singleton.mp q]; exact hy, h.sz, h.szb, h.szt⟩
theorem m9 {m : Nat} {g x z : Int} (hg : 0 < g) (e : g * x = z) (hz : Sz m z) : Sz m x := by
  unfold Sz at *
  have : x.natAbs ≤ z.natAbs := by
    rw [← e, Int.natAbs_mul]
    exact Nat.le_mul_of_pos_left _ (by omega)
  omega
theorem zF {g x : Int} (hg : 0 < g) (h : 0 < g * x) : 0 < x := Int.lt_of_mul_lt_mul_left (a := g) (by rw [Int.mul_zero]; exact h) (Int.le_of_lt hg)
theorem Io {g x : Int} (hg : 0 < g) (h : 0 ≤ g * x) : 0 ≤ x := Int.le_of_mul_le_mul_left (a := g) (by rw [Int.mul_zero]; exact h) hg
theorem AV (g h B S P l ya y la t b bot f l' b' : Int) (hg : g ≠ 0) (hh : h ≠ 0) (e1 : la = h * t) (e2 : bot * ya = h * b) (e3 : g * l' = l * ya - y * la) (e4 : g * b' = bot * ya) (hi : bot * S + P * l = P * bot * f) :
    b' * (b * S + t * P * y) + P * b * l' = P * b * b' * f := by
  have k : g * h * (b' * (b * S + t * P * y) + P * b * l') = g * h * (P * b * b' * f) := by grind
  exact Int.eq_of_mul_eq_mul_left (Int.mul_ne_zero hg hh) k
theorem Ce {n : Nat} {R : List (List Int)} {fit : List Int} {c : Nat} {ps : List (List Int)} {T : List Sh} {left y l' : List Int} {bot b' g : Int} {a : Nat} (h : Shr n R fit c ps T left bot) (ly : cj n R y) (hs : Sub y left) (hz : SzL 8000 y) (t : Tight left y a) (r : Red n left y bot a g l' b') :
    Shr n R fit c (ps ++ [y]) (T ++ [(rat (nth left a) (bot * nth y a), y)]) l' b' := by
  have yl := ly.fit.len
  have an : a < n := ly.fit.lt (i := a) (by have := t.pos; omega)
  have ya := t.pos
  have la : 0 < nth left a := by
    have h1 := hs a (by omega)
    have h2 := h.nn a
    omega
  have Bp : 0 < bot * nth y a := Int.mul_pos h.bp ya
  obtain ⟨k, k0, _, k1, k2, k3, k4⟩ := wH (a := nth left a) (b := bot * nth y a) (by omega)
  have kp : 0 < k := by
    have : 0 < k * (rat (nth left a) (bot * nth y a)).2 := by rw [← k2]; exact Bp
    exact zF (g := (rat (nth left a) (bot * nth y a)).2) k3 (by rw [Int.mul_comm]; exact this)
  have k5 : 0 < (rat (nth left a) (bot * nth y a)).1 := by
    have : 0 < k * (rat (nth left a) (bot * nth y a)).1 := by rw [← k1]; exact la
    exact zF kp this
  have y0 := ly.fit.nn
  have sub' : Sub l' left := fun i hi hz => by
    have hy0 : nth y i = 0 := by
      by_cases q : nth y i = 0
      · exact q
      · exact absurd hz (hs i q)
    have := r.lv i
    rw [hz, hy0, Int.zero_mul, Int.zero_mul, Int.sub_self] at this
    rcases Int.mul_eq_zero.mp this with q | q
    · have := r.gp; omega
    · exact hi q
  have at0 : nth l' a = 0 := by
    have := r.lv a
    rw [Int.mul_comm (nth left a), Int.sub_self] at this
    rcases Int.mul_eq_zero.mp this with q | q
    · have := r.gp; omega
    · exact q
  have zsum : ∀ i, Sz (c + 8001 * T.length + 8001) (nth left i * nth y a - nth y i * nth left a) := fun i => by
    have z1 : ∀ j, Sz (c + 8001 * T.length) (nth left j) := fun j => by
      by_cases q : j < left.length
      · exact h.sz _ (dH q)
      · rw [cI (by omega)]; exact Sz.zero _
    have z2 : ∀ j, Sz 8000 (nth y j) := fun j => by
      by_cases q : j < y.length
      · exact hz _ (dH q)
      · rw [cI (by omega)]; exact Sz.zero _
    have := Sz.sub (Sz.mul (z1 i) (z2 a)) (Sz.mul (z2 i) (z1 a))
    exact this.mono (by omega)
  have zb : Sz (c + 8001 * T.length + 8001) (bot * nth y a) := (Sz.mul h.szb (hz _ (dH (show a < y.length by omega)))).mono (by omega)
  have zl : Sz (c + 8001 * T.length) (nth left a) := h.sz _ (dH (by rw [h.len]; exact an))
  have tl : (T ++ [((rat (nth left a) (bot * nth y a), y) : Sh)]).length = T.length + 1 := by simp
  refine ⟨r.len, fun i => ?_, ?_, fun q hq => ?_, fun i hi => h.sub i (sub' i hi), ?_, fun s hs' => ?_, ?_, fun i => ?_, fun z hz' => ?_, fun x hx => ?_, ?_, fun s hs' => ?_⟩
  · have e := r.lv i
    have : 0 ≤ g * nth l' i := by
      rw [e]
      by_cases q : 0 < nth y i
      · have := t.min i q
        rw [Int.mul_comm (nth y i)]
        omega
      · have : nth y i = 0 := by have := y0 i; omega
        rw [this, Int.zero_mul, Int.sub_zero]
        exact Int.mul_nonneg (h.nn i) (by omega)
    exact Io r.gp this
  · have : 0 < g * b' := by rw [r.bv]; exact Bp
    exact zF r.gp this
  · have e1 := h.st q hq
    have e2 := ly.fit.st q hq
    have e3 : bI n (nth q) (nth (dU left y a)) = 0 := by
      rw [lL (c := nth y a) (d := nth left a) (x := left) (y := y) (fun i => by rw [oh h.len yl, Int.mul_comm (nth left i), Int.mul_comm (nth y i)]), e1, e2]
      omega
    have e4 : bI n (nth q) (nth (dU left y a)) = g * bI n (nth q) (nth l') := by
      unfold bI
      rw [← gu]
      refine eX fun i _ => ?_
      rw [oh h.len yl, ← r.lv i, Int.mul_left_comm]
    rw [e4] at e3
    rcases Int.mul_eq_zero.mp e3 with z | z
    · have := r.gp; omega
    · exact z
  · have := m4 (x := l') (y := left) (m := a) (by rw [r.len, h.len]) sub' (by omega) at0
    have := h.cn
    omega
  · rcases List.mem_append.mp hs' with q | q
    · exact h.good s q
    · rw [List.mem_singleton.mp q]
      exact ⟨k5, k3, k4, fun i hi => h.sub i (hs i hi)⟩
  · rw [List.map_append]
    exact h.sl.append (List.Sublist.refl _)
  · rw [CC]
    exact AV g k (bot * nth y a) (psS i T).2 (psS i T).1 (nth left i) (nth y a) (nth y i) (nth left a) _ _ bot (nth fit i) (nth l' i) b' (by have := r.gp; omega) k0 k1 k2 (r.lv i) r.bv (h.eq i)
  · rcases List.mem_append.mp hz' with q | q
    · exact fun z2 => h.no z q fun i hi => sub' i (z2 i hi)
    · rw [List.mem_singleton.mp q]
      exact fun z2 => z2 a (by omega) at0
  · obtain ⟨i, hi, rfl⟩ := List.getElem_of_mem hx
    have e : l'[i] = nth l' i := by unfold nth; rw [List.getD_eq_getElem?_getD, List.getElem?_eq_getElem hi]; rfl
    rw [e, tl]
    exact (m9 r.gp (r.lv i) (zsum i)).mono (by omega)
  · rw [tl]
    exact (m9 r.gp r.bv zb).mono (by omega)
  · rw [tl]
    rcases List.mem_append.mp hs' with q | q
    · exact ⟨(h.szt s q).1.mono (by omega), (h.szt s q).2.mono (by omega)⟩
    · rw [List.mem_singleton.mp q]
      exact ⟨(m9 kp k1.symm zl).mono (by omega), (m9 kp k2.symm zb).mono (by omega)⟩
theorem EJ {n : Nat} {R : List (List Int)} {fit : List Int} {c : Nat} {ps : List (List Int)} {T : List Sh} {left : List Int} {bot : Int} (h : Shr n R fit c ps T left bot) (all : ∀ l, cj n R l → l ∈ ps) (i : Nat) : (psS i T).2 = (psS i T).1 * nth fit i := by
  have z : ∀ i, nth left i = 0 := fun i => by
    by_cases q : nth left i = 0
    · exact q
    · obtain ⟨l, h1, h2⟩ := qH (cnt left) (Nat.le_refl _) (⟨h.len, h.nn, h.st, i, q⟩ : Fit n R left)
      exact absurd h2 (h.no l (all l h1))
  have e := h.eq i
  rw [z i, Int.mul_zero, Int.add_zero, Int.mul_comm (psS i T).1 bot, Int.mul_assoc] at e
  exact Int.eq_of_mul_eq_mul_left (by have := h.bp; omega) e
def eZ (P : Int) (T : List Sh) : Int := T.foldl (fun P s => P * s.1.2) P
def mkS (C : Int) (i : Nat) (m : Int) (T : List Sh) : Int := T.foldl (fun m s => m + s.1.1 * (C / s.1.2) * nth s.2 i) m
theorem Bu (C : Int) (i : Nat) : ∀ (T : List Sh) (P S m : Int), (∀ s ∈ T, s.1.2 * (C / s.1.2) = C) → P * m = C * S →
    (T.foldl (fun q s => (q.1 * s.1.2, s.1.2 * q.2 + s.1.1 * q.1 * nth s.2 i)) (P, S)).1 * mkS C i m T = C * (T.foldl (fun q s => (q.1 * s.1.2, s.1.2 * q.2 + s.1.1 * q.1 * nth s.2 i)) (P, S)).2 ∧ (T.foldl (fun q s => (q.1 * s.1.2, s.1.2 * q.2 + s.1.1 * q.1 * nth s.2 i)) (P, S)).1 = eZ P T
  | [], P, S, m, _, h => ⟨h, rfl⟩
  | s :: T, P, S, m, hd, h => by
    have e := hd s List.mem_cons_self
    refine Bu C i T (P * s.1.2) (s.1.2 * S + s.1.1 * P * nth s.2 i) (m + s.1.1 * (C / s.1.2) * nth s.2 i) (fun z hz => hd z (List.mem_cons_of_mem _ hz)) ?_
    generalize C / s.1.2 = q at e
    grind
theorem vi : ∀ (T : List Sh) (P : Int), (∀ s ∈ T, 0 < s.1.2) → 0 < P → 0 < eZ P T
  | [], _, _, h => h
  | s :: T, P, hd, h => vi T (P * s.1.2) (fun z hz => hd z (List.mem_cons_of_mem _ hz)) (Int.mul_pos h (hd s List.mem_cons_self))
theorem o5 : ∀ (T : List Sh) (P : Int), P ∣ eZ P T ∧ ∀ s ∈ T, s.1.2 ∣ eZ P T
  | [], P => ⟨Int.dvd_refl _, by simp⟩
  | s :: T, P => by
    obtain ⟨h1, h2⟩ := o5 T (P * s.1.2)
    refine ⟨Int.dvd_trans (Int.dvd_mul_right _ _) h1, fun z hz => ?_⟩
    rcases List.mem_cons.mp hz with rfl | hz
    · exact Int.dvd_trans (Int.dvd_mul_left _ _) h1
    · exact h2 z hz
theorem xV {T : List Sh} {fit : List Int} (hb : ∀ s ∈ T, 0 < s.1.2) (eq : ∀ i, (psS i T).2 = (psS i T).1 * nth fit i) (i : Nat) : mkS (eZ 1 T) i 0 T = eZ 1 T * nth fit i := by
  have p := vi T 1 hb (by decide)
  obtain ⟨e1, e2⟩ := Bu (eZ 1 T) i T 1 0 0 (fun s hs => Int.mul_ediv_cancel' ((o5 T 1).2 s hs)) (by omega)
  have e3 := eq i
  unfold psS at e3
  rw [e2] at e1 e3
  rw [e3] at e1
  exact Int.eq_of_mul_eq_mul_left (by omega) e1
end M
set_option maxRecDepth 100000
set_option maxHeartbeats 4000000
namespace M
open PySem PySem.Spec PyProof.Rows L2
abbrev pyL (r : List Int) : PyData := .list (r.map PyData.int)
theorem wK : ∀ A : List (List Int), g0 (A.map vI) = some (A.map pyL)
  | [] => by simp [g0]
  | r :: A => by simp [g0, toPy, kY, wK A]
theorem qw {O : au} : ∀ A : List (List Int), bR O (A.map vI) = A.map vI
  | [] => by simp [bR]
  | r :: A => by simp [bR, res, kz, qw A]
theorem tF : ∀ A : List (List Int), PyData.canLayAll0 (A.map pyL) = true
  | [] => by simp [PyData.canLayAll0]
  | r :: A => by simp [PyData.canLayAll0, PyData.canLay0, ke, tF A]
theorem u9 : ∀ A : List (List Int), PyData.depthAll (A.map pyL) ≤ 1
  | [] => by simp [PyData.depthAll]
  | r :: A => by
    have := u9 A
    simp [PyData.depthAll, PyData.depth, lD]
    omega
theorem sW (A : List (List Int)) : SeqAt.shaped (.list (A.map pyL)) = true := by
  have := u9 A
  simp [SeqAt.shaped, PyData.canLay0, tF, PyData.depth]
  omega
theorem yP : ∀ A B : List (List Int), PyData.eqvAll (A.map pyL) (B.map pyL) = decide (A = B)
  | [], [] => by simp [PyData.eqvAll]
  | [], _ :: _ => by simp [PyData.eqvAll]
  | _ :: _, [] => by simp [PyData.eqvAll]
  | a :: r, b :: t => by
    simp only [List.map_cons, PyData.eqvAll, PyData.eqv, og, yP r t]
    by_cases h : a = b <;> by_cases h' : r = t <;> simp [h, h']
theorem yV {O : au} (A B : List (List Int)) : eqB O (vII A) (vII B) = some (decide (A = B)) := by
  show fL O _ _ = _
  unfold fL
  simp only [res, qw, toPy, wK, Option.map_some]
  rw [if_pos ⟨sW A, sW B⟩]
  simp only [PyData.eqv, yP]
theorem EY {O : au} (A B : List (List Int)) : neD O (vII A) (vII B) = .ok (.bl (!decide (A = B))) := by unfold neD; rw [yV]
theorem C3 (ms : List Int) (lo hi : Nat) : ∃ ks : List Int, cutD (ms.map D.int) (some (lo : Int)) (some (hi : Int)) = ks.map D.int ∧ ks.length ≤ hi - lo := by
  refine ⟨(ms.drop (min lo ms.length)).take (min hi ms.length - min lo ms.length), ?_, ?_⟩
  · unfold cutD
    rw [HT.qi, HT.qi, List.length_map, List.map_take, List.map_drop]
  · rw [List.length_take, List.length_drop]
    omega
theorem cR {ok : au → Prop} {g : GM} {body : SM} {d : D} {ds : List D} {s s1 s2 : S} (hok : ok s.o) (hg : g d s = .ok s1) (hb : body s1 = .next s2) : bt ok g body (d :: ds) s = bt ok g body ds s2 := by
  rw [bt, if_pos hok, hg, nF, hb]
end M
set_option maxRecDepth 100000
set_option maxHeartbeats 4000000
namespace M
open PySem PySem.Spec PyProof.Rows L2
end M
set_option maxRecDepth 100000
set_option maxHeartbeats 4000000
namespace M
open PySem PySem.Spec PyProof.Rows L2
end M
set_option maxRecDepth 100000
set_option maxHeartbeats 4000000
namespace M
open PySem PySem.Spec PyProof.Rows L2
section
variable {s s1 s2 : S} {R R' : List (Option D)} {O O' : au} {d x y : D} {xs ys : List D}
theorem aJ {f : Op2} {ma mb : EM} (ha : ma s = .ok (x, s1)) (hb : mb s1 = .ok (y, s2)) (hf : f s2.o x y = .ok d) : aj f ma mb s = .ok (d, s2) := by
  rw [jF, ha, ak]; dsimp only; rw [hb, ak]; dsimp only; rw [hf, ak]
theorem vY {f : Op1} {ma : EM} (ha : ma s = .ok (x, s1)) (hf : f s1.o x = .ok d) : unM f ma s = .ok (d, s1) := by
  rw [FK, ha, ak]; dsimp only; rw [hf, ak]
theorem dN {f : OpN} {ma : AM} (ha : ma s = .ok (xs, s1)) (hf : f s1.o xs = .ok d) : bj f ma s = .ok (d, s1) := by
  rw [uq, ha, ak]; dsimp only; rw [hf, ak]
theorem av {m : EM} {r : AM} (ha : m s = .ok (x, s1)) (hb : r s1 = .ok (ys, s2)) : af m r s = .ok (x :: ys, s2) := by
  rw [gq, ha, ak]; dsimp only; rw [hb, ak]
theorem D5 {ma : AM} (ha : ma s = .ok (xs, s1)) (hl : xs.length ≤ 16777216) : rK ma s = .ok (.tup xs, s1) := by
  rw [EF, ha, ak]; dsimp only; rw [if_pos hl]
theorem vL {ma : AM} (ha : ma s = .ok (xs, s1)) (hl : xs.length ≤ 16777216) : mP ma s = .ok (.lst xs, s1) := by
  rw [En, ha, ak]; dsimp only; rw [if_pos hl]
theorem oR {ma : AM} {n : Nat} (ha : ma s = .ok (xs, ⟨R, O⟩)) (hl : xs.length ≤ 16777216) (hn : O.length = n) (hO : O ++ [.lst xs] = O') : mw ma s = .ok (.ptr n, ⟨R, O'⟩) := by
  rw [EC, ha, ak]; dsimp only; rw [if_pos hl, hn, hO]
theorem cM {m : EM} {b : Bool} (h : m s = .ok (.bl b, s1)) : aU m s = .ok (b, s1) := by
  rw [t7, h, ak]
theorem jY {m : TM} {b : Bool} (h : m s = .ok (b, s1)) : iY m s = .ok (!b, s1) := by
  rw [Fc, h, ak]
theorem jX {a b : TM} {p q : Bool} (h : a s = .ok (p, s1)) (hp : p = false) (h2 : b s1 = .ok (q, s2)) : orT a b s = .ok (q, s2) := by
  subst hp; rw [Gd, h, ak]; exact h2
theorem Hq {a b : TM} {p q : Bool} (h : a s = .ok (p, s1)) (h2 : b s1 = .ok (q, s1)) : mX a b s = .ok (p && q, s1) := by
  rw [uy, h, ak]; dsimp only; cases p
  · rfl
  · rw [if_pos rfl, h2]; rfl
theorem sI {a b : TM} {p q : Bool} (h : a s = .ok (p, s1)) (hp : p = true) (h2 : b s1 = .ok (q, s2)) : mX a b s = .ok (q, s2) := by
  subst hp; rw [uy, h, ak]; exact h2
theorem Bq {a b : TM} {p : Bool} (h : a s = .ok (p, s1)) (hp : p = false) : mX a b s = .ok (false, s1) := by
  subst hp; rw [uy, h, ak]; rfl
theorem um {a b : EM} {p : Bool} (h : a s = .ok (.bl p, s1)) (hp : p = true) (h2 : b s1 = .ok (x, s2)) : mL a b s = .ok (x, s2) := by
  subst hp; rw [ux, h, ak]; exact h2
theorem aX {m : EM} {i : Nat} (h : m s = .ok (d, ⟨R, O⟩)) (hR : R.set i (some d) = R') : setM i m s = .next ⟨R', O⟩ := by
  subst hR; exact mY h
theorem ow {mo me : EM} {k : Nat} {ds0 ds : List D} (h1 : mo s = .ok (.ptr k, s1)) (c1 : s1.o[k]? = some (.lst ds0)) (h2 : me s1 = .ok (d, ⟨R, O⟩)) (c2 : O[k]? = some (.lst ds)) (hb : ds.length ≤ 1000000) (hO : O.set k (.lst (ds ++ [d])) = O') : kN mo me s = .ok (.non, ⟨R, O'⟩) := by
  subst hO; exact ER (s2 := ⟨R, O⟩) h1 c1 h2 c2 hb
theorem kq {m : EM} {k : Nat} {ds : List D} (h : m s = .ok (.ptr k, ⟨R, O⟩)) (c : O[k]? = some (.lst ds)) (hO : O.set k .dead = O') : gH m s = .ok (.lst ds, ⟨R, O'⟩) := by
  subst hO; exact Fd h c
theorem Ft {f : List D → Option (List D × D)} {mo : EM} {k : Nat} {ds es : List D} (h : mo s = .ok (.ptr k, ⟨R, O⟩)) (hc : O[k]? = some (.lst ds)) (hf : f ds = some (es, d)) (hO : O.set k (.lst es) = O') : qB f mo s = .ok (d, ⟨R, O'⟩) := by
  subst hO
  unfold qB
  rw [h, ak]
  dsimp only
  rw [mn hc]
  dsimp only
  rw [hf]
theorem Ec {m : EM} {n : Nat} {ds : List D} (h : m s = .ok (x, ⟨R, O⟩)) (hs : qc O x = some ds) (hn : O.length = n) (hO : O ++ [.lst ds] = O') : vM m s = .ok (.ptr n, ⟨R, O'⟩) := by
  rw [Dh, h, ak]; dsimp only; rw [hs]; dsimp only; rw [hn, hO]
theorem eP {n : Nat} {f : FM} {ma : AM} {ds : List D} {O1 : au} (h : ma s = .ok (ds, s1)) (hf : f ds [] = .ok (d, O1)) (hp : bf ds = true) (hl : ds.length = n) (hd : cQ d = true) : bF n f ma s = .ok (d, s1) := sr h hp hl hf hd
theorem gz {n : Nat} {f : FM} {ma : AM} {ds : List D} {O1 : au} (h : ma s = .ok (ds, ⟨R, O⟩)) (hf : f ds [] = .ok (x, O1)) (hp : bf ds = true) (hl : ds.length = n) (hx : shD O.length x = y) (hO : O ++ O1.map (shC O.length) = O') : dC n f ma s = .ok (y, ⟨R, O'⟩) := by
  subst hx; subst hO; exact Df h hp hl hf
theorem h9 {n : Nat} {f : FM} {ma : AM} {ds rs : List D} {O1 : au} (h : ma s = .ok (ds, s1)) (hr : bR s1.o (bR s1.o ds) = rs) (hf : f rs [] = .ok (d, O1)) (hp : bf rs = true) (hl : ds.length = n) (hd : mF d = true) : dJ n f ma s = .ok (d, s1) := by
  unfold dJ
  rw [h, ak]
  dsimp only
  rw [hr, if_pos ⟨hp, hl⟩, hf]
  dsimp only
  rw [if_pos hd]
theorem eO {n : Nat} {f : FM} {ma : AM} {ds : List D} {O1 : au} (h : ma s = .ok (ds, ⟨R, O⟩)) (hf : f ds O = .ok (d, O1)) (hl : ds.length = n) : bE n f ma s = .ok (d, ⟨R, O1⟩) := j8 h hl hf
theorem Hb {c : TM} {A B : SM} {p : Bool} (h : c s = .ok (p, s1)) (hp : p = true) : ifS c A B s = A s1 := by subst hp; exact vO h
theorem He {c : TM} {A B : SM} {p : Bool} (h : c s = .ok (p, s1)) (hp : p = false) : ifS c A B s = B s1 := by subst hp; exact vQ h
theorem mx (s : S) : gG s = .ok (none, s) := rfl
theorem mr {m : EM} {i : Int} (h : m s = .ok (.int i, s1)) : part m s = .ok (some i, s1) := by rw [Fe, h, ak]
theorem ua {me : EM} {ml mh : OM} {lo hi : Option Int} {s3 : S} {ds es : List D} (h : me s = .ok (x, s1)) (hl : ml s1 = .ok (lo, s2)) (hh : mh s2 = .ok (hi, s3)) (hd : lsD s3.o x = some ds) (he : cutD ds lo hi = es) : slM me ml mh s = .ok (.lst es, s3) := by
  rw [GR, h, ak]; dsimp only; rw [hl, ak]; dsimp only; rw [hh, ak]; dsimp only; rw [hd]; dsimp only; rw [he]
end
section
variable {s s1 : S} {o : Out}
theorem aP {a b : SM} (h : a s = .next s1) (k : b s1 = o) : aM a b s = o := (fT h).trans k
theorem lC {c : TM} {A B : SM} {p : Bool} (h : c s = .ok (p, s1)) (hp : p = true) (k : A s1 = o) : ifS c A B s = o := (Hb h hp).trans k
theorem dM {c : TM} {A B : SM} {p : Bool} (h : c s = .ok (p, s1)) (hp : p = false) (k : B s1 = o) : ifS c A B s = o := (He h hp).trans k
theorem fe {n : Nat} {m : SM} {ds : List D} {O O1 : au} {d : D} {R : List (Option D)} (h : m ⟨ds.map some ++ List.replicate (n - ds.length) none, O⟩ = .ret d ⟨R, O1⟩) : runM n m ds O = .ok (d, O1) := cO h
theorem Gr {n : Nat} {m : SM} {ds : List D} {O O1 : au} {R : List (Option D)} (h : m ⟨ds.map some ++ List.replicate (n - ds.length) none, O⟩ = .next ⟨R, O1⟩) : runM n m ds O = .ok (.non, O1) := by unfold runM; rw [h]
end
end M
set_option maxRecDepth 100000
set_option maxHeartbeats 4000000
namespace M
open PySem PySem.Spec PyProof.Rows L2
section
variable {s s1 s2 : S} {c : Nat} {a : D} {o : Out}
end
end M
set_option maxRecDepth 100000
set_option maxHeartbeats 4000000
namespace M
open PySem PySem.Spec PyProof.Rows L2
theorem Ep {n : Nat} {f : FM} {ma : AM} {s : S} {R : List (Option D)} {O O1 O' : au} {x y : D} {ds rs : List D} (h : ma s = .ok (ds, ⟨R, O⟩)) (hr : bR O (bR O ds) = rs) (hf : f rs [] = .ok (x, O1)) (hp : bf rs = true) (hl : ds.length = n) (hd : qD x = true) (hO1 : O1.all vR = true) (hx : shD O.length x = y) (hO : O ++ O1.map (shC O.length) = O') : sN n f ma s = .ok (y, ⟨R, O'⟩) := by
  subst hx; subst hO
  unfold sN
  rw [h, ak]
  dsimp only
  rw [hr, if_pos ⟨hp, hl⟩, hf]
  dsimp only
  rw [if_pos ⟨hd, hO1⟩]
abbrev bD (L : List (Nat × List Int)) : List D := L.map fun p => .ptr p.1
def Sto (O : au) (L : List (Nat × List Int)) : Prop := ∀ p ∈ L, O[p.1]? = some (.lst (p.2.map D.int))
theorem Sto.app {O : au} {L : List (Nat × List Int)} (h : Sto O L) (E : au) : Sto (O ++ E) L := fun p hp => dt (h p hp)
theorem Sto.set {O : au} {L : List (Nat × List Int)} (h : Sto O L) {k : Nat} (hk : ∀ p ∈ L, p.1 ≠ k) (c : Cell) : Sto (O.set k c) L := fun p hp => by rw [cF fun z => hk p hp z.symm]; exact h p hp
theorem Sto.lt {O : au} {L : List (Nat × List Int)} (h : Sto O L) {p : Nat × List Int} (hp : p ∈ L) : p.1 < O.length := jb (h p hp)
theorem tK {α : Type} {ok : au → Prop} {e : EM} {cap : List (Option D)} {item : α → D} {f : α → List Int} {T : α → Nat → Prop} (I : au → Prop) (hI : ∀ O E, I O → I (O ++ E)) (hok : ∀ O, I O → ok O) :
    ∀ (l : List α) (acc : List D) (x : Option D) (O : au), I O → acc.length + l.length ≤ 16777216 →
    (∀ a ∈ l, ∀ O, I O → ∃ q E, e ⟨some (item a) :: cap, O⟩ = .ok (.ptr q, ⟨some (item a) :: cap, O ++ E⟩) ∧ (O ++ E)[q]? = some (.lst ((f a).map D.int)) ∧ (T a q ∨ O.length ≤ q)) →
    ∃ (L : List (Nat × List Int)) (E : au) (x' : Option D), cT ok (aE 0) bT e (l.map item) acc ⟨x :: cap, O⟩ = .ok (acc ++ bD L, ⟨x' :: cap, O ++ E⟩) ∧ L.map (·.2) = l.map f ∧ Sto (O ++ E) L ∧ ∀ p ∈ L, (∃ a ∈ l, T a p.1) ∨ O.length ≤ p.1
  | [], acc, x, O, h, _, _ => ⟨[], [], x, by rw [List.map_nil, cT, if_pos (hok _ h)]; simp, rfl, (fun p hp => by cases hp), (fun p hp => by cases hp)⟩
  | a :: l, acc, x, O, h, hl, he => by
    obtain ⟨q, E, e1, e2, e3⟩ := he a List.mem_cons_self O h
    rw [List.length_cons] at hl
    obtain ⟨L, E', x', e4, e5, e6, e7⟩ := tK (T := T) I hI hok l (acc ++ [.ptr q]) (some (item a)) (O ++ E) (hI O E h) (by simp; omega) (fun a ha => he a (List.mem_cons_of_mem _ ha))
    refine ⟨(q, f a) :: L, E ++ E', x', ?_, by simp [e5], fun p hp => ?_, fun p hp => ?_⟩
    · rw [List.map_cons, cT, if_pos ⟨hok _ h, by omega⟩, CS, ak, CU, ak]
      dsimp only
      rw [if_pos rfl, show (⟨List.set (x :: cap) 0 (some (item a)), O⟩ : S) = ⟨some (item a) :: cap, O⟩ from rfl, e1, ak]
      dsimp only
      rw [e4]
      simp
    · rw [← List.append_assoc]
      rcases List.mem_cons.mp hp with rfl | hp
      · exact dt e2
      · exact e6 p hp
    · rcases List.mem_cons.mp hp with rfl | hp
      · rcases e3 with e3 | e3
        · exact .inl ⟨a, List.mem_cons_self, e3⟩
        · exact .inr e3
      · rcases e7 p hp with ⟨b, hb, z⟩ | z
        · exact .inl ⟨b, List.mem_cons_of_mem _ hb, z⟩
        · exact .inr (by rw [List.length_append] at z; omega)
theorem Cz (O : au) (c d : Cell) : (O ++ [c]).set O.length d = O ++ [d] := by
  induction O with
  | nil => rfl
  | cons a O ih => exact congrArg (a :: ·) ih
end M
set_option maxRecDepth 100000
set_option maxHeartbeats 4000000
namespace M
open PySem PySem.Spec PyProof.Rows L2
section
variable {α β : Type} (f g : α → β)
end
end M
set_option maxRecDepth 100000
set_option maxHeartbeats 4000000
namespace Lk18
open PySem PySem.Spec PyProof.Rows L2 M
def top (i : Nat) : Stmt := PySem.Challenge.pw_modeyard_k18_shares_of_lone_lists.main.body.getD i (.Pass ⟨0, 0, 0, 0⟩)
abbrev iT : Stmt := top 5
abbrev eg : Stmt := top 6
abbrev jD : Stmt := top 7
abbrev j2 : Stmt := top 8
abbrev lP : Stmt := top 9
abbrev dW : Stmt := top 11
abbrev nC : Stmt := top 12
abbrev lN : Stmt := top 13
abbrev j3 : Stmt := top 14
abbrev dG : Stmt := top 15
abbrev ic : Stmt := top 17
abbrev iU : Stmt := top 18
abbrev d5 : Stmt := top 19
abbrev dI : Stmt := top 20
abbrev nA : Stmt := top 21
abbrev ie : Stmt := top 22
abbrev ez : Stmt := top 23
abbrev j0 : Stmt := top 24
abbrev iO : Stmt := top 26
abbrev jN : Stmt := top 27
abbrev iM : Stmt := top 28
abbrev gA : Stmt := top 29
abbrev ig : Stmt := top 30
abbrev fS : Stmt := top 31
abbrev fW : Stmt := top 32
abbrev jK : Stmt := top 33
abbrev gN : Stmt := top 34
abbrev gL : Stmt := top 35
abbrev ft : Stmt := top 36
abbrev hZ : Stmt := top 37
abbrev hW : Stmt := top 38
abbrev lF : Stmt := top 39
noncomputable def jS : SM :=
 (bN (mL (unM (gE "int") (aa 0)) (Au (unM (gE "bool") (aa 0)))))
noncomputable def fZ : FM := runM 1 jS
noncomputable def pF : SM :=
 (aM (setM 2 (aj fg (aa 0) (aa 1)))
 (aM (setM 0 (aa 1))
 (setM 1 (aa 2))))
noncomputable def fM : SM :=
 (aM (setM 0 (bj pL (af (aa 0) aq)))
 (aM (setM 1 (bj pL (af (aa 1) aq)))
 (aM (pO (fun s => qg 1 s) (aU (aj neD (aa 1) (ao (.int 0))))
 pF)
 (bN (aa 0)))))
noncomputable def da : FM := runM 3 fM
noncomputable def kg : SM :=
 (setM 1 (bF 2 da (af (aa 1) (af (aa 2) aq))))
noncomputable def jE : SM :=
 (aM (setM 1 (ao (.int 0)))
 (aM (fP (listI (aa 0)) (aE 2)
 kg)
 (bN (aa 1))))
noncomputable def jB : FM := runM 3 jE
noncomputable def gY : SM :=
 (aM (setM 1 (bF 1 jB (af (aa 0) aq)))
 (aM (ifS (aU (aj eqD (aa 1) (ao (.int 0))))
 (bN (vM (aa 0)))
 cu)
 (bN (jO 1 [1] (listI (aa 0)) (aE 0) bT (aj gj (aa 0) (aa 1))))))
noncomputable def gW : FM := runM 2 gY
noncomputable def nq : SM :=
 (aM (ifS (orT (iY (aU (bF 1 fZ (af (aa 0) aq)))) (iY (aU (bF 1 fZ (af (aa 1) aq)))))
 tY
 cu)
 (aM (ifS (aU (aj eqD (aa 1) (ao (.int 0))))
 tY
 cu)
 (aM (setM 2 (bF 2 da (af (aa 0) (af (aa 1) aq))))
 (aM (ifS (aU (aj ltD (aa 1) (ao (.int 0))))
 (setM 2 (unM oy (aa 2)))
 cu)
 (bN (rK (af (aj gj (aa 0) (aa 2)) (af (aj gj (aa 1) (aa 2)) aq))))))))
noncomputable def j6 : FM := runM 3 nq
noncomputable def dk : SM :=
 (bN (bj vT (af (cf 2 [] (mM (af (aa 0) (af (aa 1) aq))) (cZ (aV (aE 0) (aV (aE 1) de)) 2) bT (aj bB (aa 0) (aa 1))) aq)))
noncomputable def bU : FM := runM 2 dk
noncomputable def pN : SM :=
 (aM (setM 2 (wL pJ (af (ao (.int 0)) aq) (aa 1)))
 (aM (jR (ao (.int 1)) (mf (aa 2) (aa 0)))
 (bN (aa 2))))
noncomputable def m5 : FM := runM 3 pN
noncomputable def mZ : SM :=
 (bN (cf 1 [0] (jP (af (aa 0) aq)) (aE 0) bT (dC 2 m5 (af (aa 0) (af (aa 1) aq)))))
noncomputable def nt : FM := runM 1 mZ
noncomputable def lX : SM :=
 (aM (setM 4 (cf 2 [1, 3] (mM (af (aa 0) (af (aa 2) aq))) (cZ (aV (aE 0) (aV (aE 1) de)) 2) bT (aj mD (aj bB (aa 0) (aa 3)) (aj bB (aa 1) (aa 2)))))
 (bN (dC 1 gW (af (aa 4) aq))))
noncomputable def j4 : FM := runM 5 lX
noncomputable def bK : SM :=
 (ifS (aU (aj neD (aa 2) (ao (.int 0))))
 (bN (aa 1))
 cu)
noncomputable def cX : SM :=
 (aM (fP (dO (af (aa 0) aq)) (cZ (aV (aE 1) (aV (aE 2) de)) 2)
 bK)
 (bN (ao .non)))
noncomputable def eM : FM := runM 3 cX
noncomputable def kP : SM :=
 (aM (setM 1 (aj bB (aa 1) (ao (.int 2))))
 (ifS (aU (aj gtD (aa 2) (ao (.int 0))))
 (setM 1 (aj dm (aa 1) (ao (.int 1))))
 cu))
noncomputable def fj : SM :=
 (aM (setM 1 (ao (.int 0)))
 (aM (fP (listI (aa 0)) (aE 2)
 kP)
 (bN (aa 1))))
noncomputable def cz : FM := runM 3 fj
noncomputable def gU : SM :=
 (bN (aj eqD (aj orD (aa 0) (aa 1)) (aa 1)))
noncomputable def eF : FM := runM 2 gU
noncomputable def fK : SM :=
 (aM (setM 3 (aj orD (aa 0) (aa 1)))
 (bN (aj eqD (bj cD (af (cf 1 [3] (listI (aa 2)) (aE 0) (aU (bF 2 eF (af (aa 0) (af (aa 1) aq)))) (aa 0)) aq)) (ao (.int 2)))))
noncomputable def ee : FM := runM 4 fK
noncomputable def eY : SM :=
 (ifS (aU (bF 3 ee (af (aj ixD (aa 3) (aa 7)) (af (aj ixD (aa 3) (aa 8)) (af (aa 3) aq)))))
 (ix (kN (aa 4) (sN 4 j4 (af (aj ixD (aa 0) (aa 8)) (af (aj ixD (aa 2) (aa 8)) (af (aj ixD (aa 0) (aa 7)) (af (aj ixD (aa 2) (aa 7)) aq)))))))
 cu)
noncomputable def gR : SM :=
 (fP (listI (aa 6)) (aE 8)
 eY)
noncomputable def eL : SM :=
 (aM (setM 2 (cf 1 [1] (listI (aa 0)) (aE 0) bT (dJ 2 bU (af (aa 1) (af (aa 0) aq)))))
 (aM (setM 3 (cf 1 [] (listI (aa 0)) (aE 0) bT (dJ 1 cz (af (aa 0) aq))))
 (aM (setM 4 (jO 2 [] (mM (af (aa 0) (af (aa 2) aq))) (cZ (aV (aE 0) (aV (aE 1) de)) 2) (aU (aj eqD (aa 1) (ao (.int 0)))) (aa 0)))
 (aM (setM 5 (cf 2 [] (dO (af (aa 2) aq)) (cZ (aV (aE 0) (aV (aE 1) de)) 2) (aU (aj gtD (aa 1) (ao (.int 0)))) (aa 0)))
 (aM (setM 6 (cf 2 [] (dO (af (aa 2) aq)) (cZ (aV (aE 0) (aV (aE 1) de)) 2) (aU (aj ltD (aa 1) (ao (.int 0)))) (aa 0)))
 (aM (fP (listI (aa 5)) (aE 7)
 gR)
 (bN (gH (aa 4)))))))))
noncomputable def eK : FM := runM 9 eL
noncomputable def rY : SM :=
 (setM 2 (bE 2 eK (af (aa 2) (af (aa 3) aq))))
noncomputable def jQ : SM :=
 (aM (setM 2 (bE 1 nt (af (aa 1) aq)))
 (aM (fP (listI (aa 0)) (aE 3)
 rY)
 (bN (qv pJ (aa 2)))))
noncomputable def gd : FM := runM 4 jQ
noncomputable def i8 : SM :=
 (aM (ifS (aU (aj neD (bj cD (af (aa 2) aq)) (aa 1)))
 tY
 cu)
 (aM (ifS (aU (bj Ab (af (cf 1 [] (listI (aa 2)) (aE 0) bT (aj ltD (aa 0) (ao (.int 0)))) aq)))
 tY
 cu)
 (ifS (aU (bj Ab (af (cf 1 [2] (listI (aa 0)) (aE 0) bT (aj neD (dJ 2 bU (af (aa 0) (af (aa 1) aq))) (ao (.int 0)))) aq)))
 tY
 cu)))
noncomputable def jd : FM := runM 3 i8
noncomputable def cW : SM :=
 (ifS (mX (aU (aj gtD (aa 4) (ao (.int 0)))) (aU (aj ltD (aj bB (aj ixD (aa 0) (aa 3)) (aj ixD (aa 1) (aa 2))) (aj bB (aj ixD (aa 0) (aa 2)) (aa 4)))))
 (setM 2 (aa 3))
 cu)
noncomputable def fI : SM :=
 (aM (setM 2 (bF 1 eM (af (aa 1) aq)))
 (aM (fP (dO (af (aa 1) aq)) (cZ (aV (aE 3) (aV (aE 4) de)) 2)
 cW)
 (bN (aa 2))))
noncomputable def ey : FM := runM 5 fI
noncomputable def jU : SM :=
 (ifS (aU (bF 2 eF (af (dJ 1 cz (af (aa 6) aq)) (af (dJ 1 cz (af (aa 4) aq)) aq))))
 (aM (setM 7 (dJ 2 ey (af (aa 4) (af (aa 6) aq))))
 (aM (ix (kN (aa 3) (rK (af (bF 2 j6 (af (aj ixD (aa 4) (aa 7)) (af (aj bB (aa 5) (aj ixD (aa 6) (aa 7))) aq))) (af (aa 6) aq)))))
 (aM (setM 8 (m8 2 [7, 4, 6] (sf (af (aa 4) (af (aa 6) aq))) (cZ (aV (aE 0) (aV (aE 1) de)) 2) bT (aj mD (aj bB (aa 0) (aj ixD (aa 4) (aa 2))) (aj bB (aa 1) (aj ixD (aa 3) (aa 2))))))
 (aM (setM 9 (gH (dC 1 gW (af (aj dm (aa 8) (mP (af (aj bB (aa 5) (aj ixD (aa 6) (aa 7))) aq))) aq))))
 (aM (setM 4 (slM (aa 9) gG (part (aa 1))))
 (setM 5 (aj ixD (aa 9) (aa 1))))))))
 cu)
noncomputable def iH : SM :=
 (aM (ix (bF 3 jd (af (aa 0) (af (aa 1) (af (aa 2) aq)))))
 (aM (setM 3 (mw aq))
 (aM (setM 4 (bj eW (af (aa 2) aq)))
 (aM (setM 5 (ao (.int 1)))
 (aM (fP (listI (gH (dC 2 gd (af (aa 0) (af (aa 1) aq))))) (aE 6)
 jU)
 (bN (aa 3)))))))
noncomputable def ei : FM := runM 10 iH
noncomputable def gg : SM :=
 (aM (ifS (aU (aj ltD (aa 1) (bj cD (af (aa 0) aq))))
 (bN (aj ixD (aa 0) (aa 1)))
 cu)
 (bN (ao (.int 0))))
noncomputable def bL : FM := runM 2 gg
noncomputable def jI : SM :=
 (bN (mw (af (aj bB (aj fg (aj gj (aa 0) (ao (.int 2))) (aj eN (ao (.int 10)) (ao (.int 60)))) (aj fg (aa 0) (ao (.int 2)))) (af (aj fg (aj gj (aa 0) (ao (.int 2))) (ao (.int 2147483647))) aq))))
noncomputable def fi : FM := runM 1 jI
noncomputable def bz : SM :=
 (aM (ifS (aU (aj gtD (aj ixD (aa 0) (ao (.int 0))) (ao (.int 0))))
 (aM (setM 2 (aj fg (aj ixD (aa 0) (ao (.int 0))) (aa 1)))
 (aM (jR (aj gj (aj ixD (aa 0) (ao (.int 0))) (aa 1)) (mf (aa 0) (ao (.int 0))))
 (bN (aa 2))))
 cu)
 (aM (jR (aj fg (aj dm (aj bB (aj ixD (aa 0) (ao (.int 1))) (ao (.int 48271))) (ao (.int 4099))) (ao (.int 2147483647))) (mf (aa 0) (ao (.int 1))))
 (bN (aj fg (aj gj (aj fg (aj bB (aj ixD (aa 0) (ao (.int 1))) (aj dm (aj gj (aj ixD (aa 0) (ao (.int 1))) (ao (.int 65536))) (ao (.int 7)))) (ao (.int 2147483629))) (ao (.int 32))) (aa 1)))))
noncomputable def aH : FM := runM 3 bz
noncomputable def dA : SM :=
 (aM (setM 2 (bE 2 aH (af (aa 0) (af (ao (.int 6)) aq))))
 (aM (ifS (aU (aj eqD (aa 2) (ao (.int 4))))
 (bN (ao (.int 0)))
 cu)
 (aM (ifS (aU (aj eqD (aa 2) (ao (.int 5))))
 (bN (aj mD (aj fg (aj dm (aj bB (bE 2 aH (af (aa 0) (af (ao (.int 1000)) aq))) (aj eN (ao (.int 10)) (ao (.int 6)))) (bE 2 aH (af (aa 0) (af (aj eN (ao (.int 10)) (ao (.int 6))) aq)))) (aa 1)) (bE 2 aH (af (aa 0) (af (ao (.int 9)) aq)))))
 cu)
 (bN (aj mD (bE 2 aH (af (aa 0) (af (ao (.int 7)) aq))) (ao (.int 3)))))))
noncomputable def dQ : FM := runM 3 dA
noncomputable def gs : SM :=
 (bN (mL (unM (gE "int") (aa 0)) (Au (unM (gE "bool") (aa 0)))))
noncomputable def cN : FM := runM 1 gs
noncomputable def g9 : SM :=
 (bN (mL (unM (gE "list") (aa 0)) (mL (aj eqD (bj cD (af (aa 0) aq)) (aa 1)) (bj zK (af (cf 1 [] (listI (aa 0)) (aE 0) bT (bF 1 cN (af (aa 0) aq))) aq)))))
noncomputable def hU : FM := runM 2 g9
noncomputable def iw : SM :=
 (aM (setM 4 (aj fg (aa 1) (aa 3)))
 (aM (setM 1 (aa 3))
 (setM 3 (aa 4))))
noncomputable def iq : SM :=
 (aM (setM 3 (bj pL (af (aa 2) aq)))
 (pO (fun s => qg 3 s) (aU (aj gtD (aa 3) (ao (.int 0))))
 iw))
noncomputable def hJ : SM :=
 (aM (setM 1 (ao (.int 0)))
 (aM (fP (listI (aa 0)) (aE 2)
 iq)
 (bN (aa 1))))
noncomputable def hE : FM := runM 5 hJ
noncomputable def kj : SM :=
 (aM (setM 4 (bE 2 aH (af (aa 0) (af (ao (.int 8)) aq))))
 (aM (setM 5 (ao (.int 0)))
 (aM (ifS (aU (aj ltD (aa 4) (ao (.int 4))))
 (setM 5 (aj dm (bE 2 aH (af (aa 0) (af (ao (.int 4)) aq))) (ao (.int 1))))
 cu)
 (aM (ifS (aU (aj eqD (aa 4) (ao (.int 7))))
 (setM 5 (bE 2 aH (af (aa 0) (af (aj eN (ao (.int 10)) (ao (.int 6))) aq))))
 cu)
 (ix (kN (aa 2) (aa 5)))))))
noncomputable def kA : SM :=
 (aM (setM 2 (mw (af (ao (.int 1)) aq)))
 (aM (fP (jP (af (aj mD (aa 1) (ao (.int 1))) aq)) (aE 3)
 kj)
 (bN (gH (aa 2)))))
noncomputable def jL : FM := runM 6 kA
noncomputable def iL : SM :=
 (aM (setM 6 (dC 1 fi (af (aj dm (aj ixD (aa 0) (aj fg (aa 5) (bj cD (af (aa 0) aq)))) (aj bB (ao (.int 500009)) (aj gj (aa 5) (bj cD (af (aa 0) aq))))) aq)))
 (aM (setM 7 (jO 1 [6, 3] (listI (aa 1)) (aE 0) bT (bE 2 dQ (af (aa 1) (af (aa 2) aq)))))
 (aM (ifS (mX (aU (aj eqD (bE 2 aH (af (aa 6) (af (ao (.int 7)) aq))) (ao (.int 6)))) (aU (aj gtD (bj cD (af (aa 4) aq)) (ao (.int 0)))))
 (setM 7 (jO 1 [] (listI (aj ixD (aa 4) (unM oy (ao (.int 1))))) (aE 0) bT (aj bB (ao (.int 3)) (aa 0))))
 cu)
 (aM (jR (unM oy (bj vT (af (cf 1 [1, 7] (tZ (af (ao (.int 1)) (af (bj cD (af (aa 1) aq)) aq))) (aE 0) bT (aj bB (aj ixD (aa 2) (aa 0)) (aj ixD (aa 1) (aa 0)))) aq))) (mf (aa 7) (ao (.int 0))))
 (ix (kN (aa 4) (gH (aa 7))))))))
noncomputable def iG : SM :=
 (aM (setM 4 (mw aq))
 (aM (fP (jP (af (aa 2) aq)) (aE 5)
 iL)
 (bN (gH (aa 4)))))
noncomputable def gx : FM := runM 8 iG
noncomputable def iF : SM :=
 (bN (cf 1 [1] (listI (aa 0)) (aE 0) bT (aj dm (slM (aa 0) (part (aa 1)) gG) (slM (aa 0) gG (part (aa 1))))))
noncomputable def gM : FM := runM 2 iF
noncomputable def gF : SM :=
 (aM (ifS (orT (iY (aU (unM (gE "tuple") (aa 0)))) (orT (aU (aj neD (bj cD (af (aa 0) aq)) (ao (.int 2)))) (orT (iY (aU (bF 1 cN (af (aj ixD (aa 0) (ao (.int 0))) aq)))) (iY (aU (bF 1 cN (af (aj ixD (aa 0) (ao (.int 1))) aq)))))))
 (bN (ao (.bl false)))
 cu)
 (bN (mL (aj gtD (aj ixD (aa 0) (ao (.int 0))) (ao (.int 0))) (mL (aj gtD (aj ixD (aa 0) (ao (.int 1))) (ao (.int 0))) (aj eqD (bF 1 hE (af (bj eW (af (aa 0) aq)) aq)) (ao (.int 1)))))))
noncomputable def gD : FM := runM 1 gF
noncomputable def kQ : SM :=
 (setM 2 (aj bB (aa 2) (aj ixD (aa 3) (ao (.int 1)))))
noncomputable def kR : SM :=
 (aM (setM 6 (aj bB (aj ixD (aa 3) (ao (.int 0))) (aj gj (aa 2) (aj ixD (aa 3) (ao (.int 1))))))
 (setM 5 (cf 2 [6] (mM (af (aa 5) (af (aa 4) aq))) (cZ (aV (aE 0) (aV (aE 1) de)) 2) bT (aj dm (aa 0) (aj bB (aa 2) (aa 1))))))
noncomputable def h8 : SM :=
 (aM (setM 2 (ao (.int 1)))
 (aM (fP (listI (aa 0)) (cZ (aV (aE 3) (aV (aE 4) de)) 2)
 kQ)
 (aM (setM 5 (cf 1 [] (listI (aa 1)) (aE 0) bT (ao (.int 0))))
 (aM (fP (listI (aa 0)) (cZ (aV (aE 3) (aV (aE 4) de)) 2)
 kR)
 (bN (aj eqD (aa 5) (cf 1 [2] (listI (aa 1)) (aE 0) bT (aj bB (aa 0) (aa 1)))))))))
noncomputable def eG : FM := runM 7 h8
noncomputable def g8 : SM :=
 (aM (ifS (orT (iY (aU (unM (gE "tuple") (aa 8)))) (orT (aU (aj neD (bj cD (af (aa 8) aq)) (ao (.int 2)))) (orT (iY (aU (bF 1 gD (af (aj ixD (aa 8) (ao (.int 0))) aq)))) (aU (aj nD (aj ixD (aa 8) (ao (.int 1))) (aa 2))))))
 (bN (ao (.bl false)))
 cu)
 (aM (ifS (orT (iY (aU (dJ 2 hU (af (aj ixD (aa 8) (ao (.int 1))) (af (bj cD (af (aa 1) aq)) aq))))) (aU (aj wU (aj ixD (aa 8) (ao (.int 1))) (aa 7))))
 (bN (ao (.bl false)))
 cu)
 (aM (ifS (aU (aj gtD (bj cD (af (cf 1 [1, 8] (jP (af (bj cD (af (aa 1) aq)) aq)) (aE 0) (mX (aU (aj gtD (aj ixD (aj ixD (aa 2) (ao (.int 1))) (aa 0)) (ao (.int 0)))) (aU (aj eqD (aj ixD (aa 1) (aa 0)) (ao (.int 0))))) (aa 0)) aq)) (ao (.int 0))))
 (bN (ao (.bl false)))
 cu)
 (ix (kN (aa 7) (bj eW (af (aj ixD (aa 8) (ao (.int 1))) aq)))))))
noncomputable def jj : SM :=
 (ix (kN (aa 3) (ao (.int 1))))
noncomputable def i9 : SM :=
 (aM (setM 4 (cf 1 [] (listI (aa 0)) (aE 0) bT (bj eW (af (aa 0) aq))))
 (aM (setM 5 (bj eW (af (aa 1) aq)))
 (aM (setM 6 (dC 3 ei (af (aa 4) (af (bj cD (af (aa 1) aq)) (af (aa 5) aq)))))
 (aM (ifS (orT (iY (aU (unM (gE "list") (aa 6)))) (orT (aU (aj neD (aa 4) (aa 0))) (aU (aj neD (aa 5) (aa 1)))))
 (bN (ao (.bl false)))
 cu)
 (aM (setM 7 (mw aq))
 (aM (fP (listI (aa 6)) (aE 8)
 g8)
 (aM (ifS (orT (iY (aU (dJ 2 eG (af (aa 6) (af (aa 1) aq))))) (aU (aj gtD (bj cD (af (aa 6) aq)) (bj cD (af (cf 1 [] (listI (aa 1)) (aE 0) (aU (aj gtD (aa 0) (ao (.int 0)))) (aa 0)) aq)))))
 (bN (ao (.bl false)))
 cu)
 (aM (fP (listI (aa 6)) (cZ (aV (aE 9) (aV (aE 3) de)) 2)
 jj)
 (aM (ix (qB Cn (aa 6)))
 (bN (mL (dJ 2 eG (af (gH (dC 3 ei (af (aa 4) (af (bj cD (af (aa 1) aq)) (af (aa 5) aq))))) (af (aa 1) aq))) (aj eqD (gH (dC 2 gd (af (aa 4) (af (bj cD (af (aa 1) aq)) aq)))) (aa 2)))))))))))))
noncomputable def jc : FM := runM 10 i9
noncomputable def qs : SM :=
 (aM (setM 12 (bE 2 aH (af (aa 3) (af (ao (.int 4)) aq))))
 (aM (ifS (aU (aj eqD (bE 2 aH (af (aa 3) (af (ao (.int 9)) aq))) (ao (.int 8))))
 (setM 12 (aj bB (bE 2 aH (af (aa 3) (af (aj eN (ao (.int 10)) (ao (.int 6))) aq))) (aj eN (ao (.int 10)) (ao (.int 6)))))
 cu)
 (setM 11 (m8 2 [12] (sf (af (aa 11) (af (aa 7) aq))) (cZ (aV (aE 0) (aV (aE 1) de)) 2) bT (aj dm (aa 0) (aj bB (aa 2) (aa 1)))))))
noncomputable def qr : SM :=
 (aM (setM 10 (bE 2 aH (af (aa 3) (af (ao (.int 3)) aq))))
 (aM (setM 11 (cf 1 [10] (listI (aa 4)) (aE 0) bT (aj bB (aa 0) (aa 1))))
 (aM (fP (listI (aa 8)) (aE 7)
 qs)
 (ix (kN (aa 9) (aa 11))))))
noncomputable def qm : SM :=
 (ifS (iY (aU (dJ 3 jc (af (aa 5) (af (aa 7) (af (aa 8) aq))))))
 (bN (ao (.bl false)))
 cu)
noncomputable def zV : SM :=
 (aM (setM 1 (aj dm (ao (.int 1)) (aj fg (bF 2 bL (af (aa 0) (af (ao (.int 0)) aq))) (ao (.int 6)))))
 (aM (setM 2 (aj dm (mP (af (bF 2 bL (af (aa 0) (af (ao (.int 1)) aq))) aq)) (slM (aa 0) (part (ao (.int 3))) (part (ao (.int 8))))))
 (aM (setM 3 (dC 1 fi (af (bF 2 bL (af (aa 0) (af (ao (.int 2)) aq))) aq)))
 (aM (setM 4 (bE 2 jL (af (aa 3) (af (aa 1) aq))))
 (aM (setM 5 (bF 4 gx (af (aa 2) (af (aa 4) (af (bj cD (af (slM (aa 0) (part (ao (.int 3))) (part (ao (.int 8)))) aq)) (af (aj ixD (mP (af (ao (.int 4)) (af (aj eN (ao (.int 10)) (ao (.int 9))) aq))) (aj bB (bj intOf (af (aj ltD (aa 1) (ao (.int 5))) aq)) (bE 2 aH (af (aa 3) (af (ao (.int 2)) aq))))) aq))))))
 (aM (setM 6 (bE 2 aH (af (aa 3) (af (aa 1) aq))))
 (aM (setM 5 (bF 2 gM (af (aa 5) (af (aa 6) aq))))
 (aM (setM 4 (aj dm (slM (aa 4) (part (aa 6)) gG) (slM (aa 4) gG (part (aa 6)))))
 (aM (setM 8 (gH (dC 2 gd (af (cf 1 [] (listI (aa 5)) (aE 0) bT (bj eW (af (aa 0) aq))) (af (aa 1) aq)))))
 (aM (setM 9 (mw (af (aa 4) (af (cf 1 [0] (listI (aa 4)) (aE 0) bT (aj bB (aa 0) (aj dm (ao (.int 1)) (aj fg (bF 2 bL (af (aa 1) (af (ao (.int 1)) aq))) (aj eN (ao (.int 10)) (ao (.int 20))))))) aq))))
 (aM (fP (jP (af (ao (.int 2)) aq)) (aE 6)
 qr)
 (aM (fP (listI (aa 9)) (aE 7)
 qm)
 (bN (aj eqD (gH (dC 3 ei (af (cf 1 [] (listI (aa 5)) (aE 0) bT (bj eW (af (aa 0) aq))) (af (aa 1) (af (cf 1 [] (jP (af (aa 1) aq)) (aE 0) bT (ao (.int 0))) aq))))) (mP aq)))))))))))))))
noncomputable def vP : FM := runM 13 zV
end Lk18
set_option maxRecDepth 100000
set_option maxHeartbeats 4000000
namespace Lk18
open PySem PySem.Spec PyProof.Rows L2 M
section
variable {P : Program} {w : World} {K : PySem.W.Frag} {mg : Str → Option Value} {base : Heap} {ca : Nat → Addr}
theorem yg : bo ["value"] ["value"] (aF iT) := ⟨rfl, rfl, rfl, by decide +kernel, rfl, by decide +kernel, by decide +kernel⟩
theorem xX {a : Addr} {fd : FuncData} (F : Fun K "is_whole" "is_whole" iT a fd) (hm : mg "is_whole" = some (.ref a)) (hpt : P.given.tree = none) (n_isinstance : mg "isinstance" = none) (n_int : mg "int" = none) (n_bool : mg "bool" = none) : cy P w K mg base ca 35 "is_whole" ["value"] fZ a fd := by
  refine ⟨bZ F yg rfl fun cdv A outer s H E hr => ?_, hm, F.kp, F.binds fun _ _ _ _ _ _ us hl => match us, hl with | [_], _ => rfl⟩
  have hu := hr.units
  have hdp := cG hr (by decide)
  exact ⟨_, (aI (bg (md (aZ iI rfl n_isinstance Boot.«isinstance» (ah (pv 0) (ah (jC (v := .ty "int") rfl n_int Boot.«int» rfl) aw))) (pV (AY (aZ iI rfl n_isinstance Boot.«isinstance» (ah (pv 0) (ah (jC (v := .ty "bool") rfl n_bool Boot.«bool» rfl) aw)))))))),
   (bh (ka (kM ty_int (ae 0)) (yS (kM ty_bool (ae 0)))))⟩
theorem dX : bo ["one", "other", "rest"] ["one", "other"] (aF eg) := ⟨rfl, rfl, rfl, by decide +kernel, rfl, by decide +kernel, by decide +kernel⟩
theorem qM {a : Addr} {fd : FuncData} (F : Fun K "measure_of_two" "measure_of_two" eg a fd) (hm : mg "measure_of_two" = some (.ref a)) (hpt : P.given.tree = none) (n_abs : mg "abs" = none) : cy P w K mg base ca 35 "measure_of_two" ["one", "other"] da a fd := by
  refine ⟨bZ F dX rfl fun cdv A outer s H E hr => ?_, hm, F.kp, F.binds fun _ _ _ _ _ _ us hl => match us, hl with | [_, _], _ => rfl⟩
  have hu := hr.units
  have hdp := cG hr (by decide)
  exact ⟨_, (ax (aT (i := 0) dX.nd rfl (Or.inl rfl) (aZ rD rfl n_abs Boot.«abs» (ah (pv 0) aw)))
 (ax (aT (i := 1) dX.nd rfl (Or.inl rfl) (aZ rD rfl n_abs Boot.«abs» (ah (pv 1) aw)))
 (ax (wJ PassesOwn.never (bA (pS hu) (pv 1) aA (br _))
 (ax (aT (i := 2) dX.nd rfl (Or.inl rfl) (aS fu (pv 0) (pv 1)))
 (ax (aT (i := 0) dX.nd rfl (Or.inl rfl) (pv 1))
 (aI (aT (i := 1) dX.nd rfl (Or.inl rfl) (pv 2))))))
 (aI (bg (pv 0)))))),
   (aG (aO (ba xH (ai (ae 0) az)))
 (aG (aO (ba xH (ai (ae 1) az)))
 (aG (xf (bS (ar mE (ae 1) (aB 0)))
 (aG (aO (ar gJ (ae 0) (ae 1)))
 (aG (aO (ae 1))
 (aO (ae 2)))))
 (bh (ae 0)))))⟩
theorem kZ : bo ["numbers", "common", "number"] ["numbers"] (aF jD) := ⟨rfl, rfl, rfl, by decide +kernel, rfl, by decide +kernel, by decide +kernel⟩
theorem Ap {a : Addr} {fd : FuncData} (F : Fun K "measure" "measure" jD a fd) (hm : mg "measure" = some (.ref a)) (hpt : P.given.tree = none) (jy : bC P w K mg base ca 35 "measure_of_two" ["one", "other"] da) : cy P w K mg base ca 36 "measure" ["numbers"] jB a fd := by
  obtain ⟨rF, qL, jn, fM, jq, jr⟩ := jy
  refine ⟨bZ F kZ rfl fun cdv A outer s H E hr => ?_, hm, F.kp, F.binds fun _ _ _ _ _ _ us hl => match us, hl with | [_], _ => rfl⟩
  have hu := hr.units
  have hdp := cG hr (by decide)
  exact ⟨_, (ax (aT (i := 1) kZ.nd rfl (Or.inl rfl) aA)
 (ax (d0 PassesOwn.never rfl (bH (pv 0)) (aQ (i := 2) kZ.nd rfl (Or.inl rfl))
 (aI (aT (i := 1) kZ.nd rfl (Or.inl rfl) (aN jn (hr.mono (by decide)) rfl fM jq jr .nil aW (ah (pv 1) (ah (pv 2) aw))))))
 (aI (bg (pv 1))))),
   (aG (aO (aB 0))
 (aG (d4 (bG (ae 0)) (aK 2)
 (aO (cx (n := 2) (f := da) (ai (ae 1) (ai (ae 2) az)))))
 (bh (ae 1))))⟩
theorem uY : bo ["numbers", "common"] ["numbers"] (aF j2) := ⟨rfl, rfl, rfl, by decide +kernel, rfl, by decide +kernel, by decide +kernel⟩
theorem BW {a : Addr} {fd : FuncData} (F : Fun K "lowest" "lowest" j2 a fd) (hm : mg "lowest" = some (.ref a)) (hpt : P.given.tree = none) (n_list : mg "list" = none) (Bj : bC P w K mg base ca 36 "measure" ["numbers"] jB) : cy P w K mg base ca 37 "lowest" ["numbers"] gW a fd := by
  obtain ⟨HE, Hj, BN, jE, Bn, Bm⟩ := Bj
  refine ⟨bZ F uY rfl fun cdv A outer s H E hr => ?_, hm, F.kp, F.binds fun _ _ _ _ _ _ us hl => match us, hl with | [_], _ => rfl⟩
  have hu := hr.units
  have hdp := cG hr (by decide)
  exact ⟨_, (ax (aT (i := 1) uY.nd rfl (Or.inr rfl) (aN BN (hr.mono (by decide)) rfl jE Bn Bm .nil aW (ah (pv 0) aw)))
 (ax (di (bA (iX hu) (pv 1) aA (br _))
 (aI (bg (gb eJ rfl n_list Boot.«list» (ah (pv 0) aw))))
 b9)
 (aI (bg (dw (own := ["number"]) (cap := ["common"]) (caps := [1]) rfl ⟨rfl, by decide +kernel, by decide +kernel, by decide +kernel, ⟨rfl, Or.inl rfl, rfl, trivial⟩, by decide +kernel⟩ (bH (pv 0)) (fun _ _ _ => (aQ (i := 0) (show ((["number"] : List Str) ++ (["common"] : List Str)).Nodup from by decide +kernel) rfl (Or.inl rfl))) (fun _ _ _ => cC) (fun _ _ _ => (aS (jf hdp hpt ⟨_, _, rfl, rfl, rfl, rfl, rfl⟩) (pv 0) (pv 1)))))))),
   (aG (aO (cx (n := 1) (f := jB) (ai (ae 0) az)))
 (aG (df (bS (ar gw (ae 1) (aB 0)))
 (bh (CK (ae 0)))
 cc)
 (bh (n9 (m := 1) (caps := [1]) (bG (ae 0)) (aK 0) cA (ar ia (ae 0) (ae 1))))))⟩
theorem rG : bo ["top", "bottom", "common"] ["top", "bottom"] (aF lP) := ⟨rfl, rfl, rfl, by decide +kernel, rfl, by decide +kernel, by decide +kernel⟩
theorem C1 {a : Addr} {fd : FuncData} (F : Fun K "ratio" "ratio" lP a fd) (hm : mg "ratio" = some (.ref a)) (hpt : P.given.tree = none) (zT : bC P w K mg base ca 35 "is_whole" ["value"] fZ) (jy : bC P w K mg base ca 35 "measure_of_two" ["one", "other"] da) : cy P w K mg base ca 36 "ratio" ["top", "bottom"] j6 a fd := by
  obtain ⟨Hm, G3, tH, jS, sG, sS⟩ := zT
  obtain ⟨rF, qL, jn, fM, jq, jr⟩ := jy
  refine ⟨bZ F rG rfl fun cdv A outer s H E hr => ?_, hm, F.kp, F.binds fun _ _ _ _ _ _ us hl => match us, hl with | [_, _], _ => rfl⟩
  have hu := hr.units
  have hdp := cG hr (by decide)
  exact ⟨_, (ax (di (PW.pt (pw_or (iK (eT (aN tH (hr.mono (by decide)) rfl jS sG sS .nil aW (ah (pv 0) aw)))) (pw_or1 (iK (eT (aN tH (hr.mono (by decide)) rfl jS sG sS .nil aW (ah (pv 1) aw)))))))
 (aI lU)
 b9)
 (ax (di (bA (iX hu) (pv 1) aA (br _))
 (aI lU)
 b9)
 (ax (aT (i := 2) rG.nd rfl (Or.inl rfl) (aN jn (hr.mono (by decide)) rfl fM jq jr .nil aW (ah (pv 0) (ah (pv 1) aw))))
 (ax (di (bA oj (pv 1) aA (br _))
 (aI (aT (i := 2) rG.nd rfl (Or.inl rfl) (Ag xI (pv 2))))
 b9)
 (aI (bg (Bl (ah (aS (jf hdp hpt ⟨_, _, rfl, rfl, rfl, rfl, rfl⟩) (pv 0) (pv 2)) (ah (aS (jf hdp hpt ⟨_, _, rfl, rfl, rfl, rfl, rfl⟩) (pv 1) (pv 2)) aw))))))))),
   (aG (df (jW (iC (gv (cx (n := 1) (f := fZ) (ai (ae 0) az)))) (iC (gv (cx (n := 1) (f := fZ) (ai (ae 1) az)))))
 lV
 cc)
 (aG (df (bS (ar gw (ae 1) (aB 0)))
 lV
 cc)
 (aG (aO (cx (n := 2) (f := da) (ai (ae 0) (ai (ae 1) az))))
 (aG (df (bS (ar n5 (ae 1) (aB 0)))
 (aO (zH xA (ae 2)))
 cc)
 (bh (A2 (ai (ar ia (ae 0) (ae 2)) (ai (ar ia (ae 1) (ae 2)) az))))))))⟩
theorem pB : bo ["numbers", "others"] ["numbers", "others"] (aF dW) := ⟨rfl, rfl, rfl, by decide +kernel, rfl, by decide +kernel, by decide +kernel⟩
theorem pT {a : Addr} {fd : FuncData} (F : Fun K "sum_of_products" "sum_of_products" dW a fd) (hm : mg "sum_of_products" = some (.ref a)) (hpt : P.given.tree = none) (n_zip : mg "zip" = none) (n_sum : mg "sum" = none) : cy P w K mg base ca 35 "sum_of_products" ["numbers", "others"] bU a fd := by
  refine ⟨bZ F pB rfl fun cdv A outer s H E hr => ?_, hm, F.kp, F.binds fun _ _ _ _ _ _ us hl => match us, hl with | [_, _], _ => rfl⟩
  have hu := hr.units
  have hdp := cG hr (by decide)
  exact ⟨_, (aI (bg (aZ (uR rfl) rfl n_sum Boot.«sum» (ah (dw (own := ["number", "other"]) (cap := []) (caps := []) rfl ⟨rfl, by decide +kernel, by decide +kernel, by decide +kernel, trivial, by decide +kernel⟩ (nr rfl n_zip (ah (pv 0) (ah (pv 1) aw))) (fun _ _ _ => (gK rfl (bM (aQ (i := 0) (show ((["number", "other"] : List Str) ++ ([] : List Str)).Nodup from by decide +kernel) rfl (Or.inl rfl)) (bM (aQ (i := 1) (show ((["number", "other"] : List Str) ++ ([] : List Str)).Nodup from by decide +kernel) rfl (Or.inl rfl)) fB)))) (fun _ _ _ => cC) (fun _ _ _ => (aS du (pv 0) (pv 1)))) aw)))),
   (bh (ba BI (ai (cB (m := 2) (caps := []) (sE (ai (ae 0) (ai (ae 1) az))) (fq (bO (aK 0) (bO (aK 1) fA))) cA (ar cH (ae 0) (ae 1))) az)))⟩
theorem yJ : bo ["at", "many", "told"] ["at", "many"] (aF nC) := ⟨rfl, rfl, rfl, by decide +kernel, rfl, by decide +kernel, by decide +kernel⟩
theorem Ed {a : Addr} {fd : FuncData} (F : Fun K "unit" "unit" nC a fd) (hm : mg "unit" = some (.ref a)) (hpt : P.given.tree = none) : cy P w K mg base ca 35 "unit" ["at", "many"] m5 a fd := by
  refine ⟨bZ F yJ rfl fun cdv A outer s H E hr => ?_, hm, F.kp, F.binds fun _ _ _ _ _ _ us hl => match us, hl with | [_, _], _ => rfl⟩
  have hu := hr.units
  have hdp := cG hr (by decide)
  exact ⟨_, (ax (aT (i := 2) yJ.nd rfl (Or.inl rfl) (aS Gy (iD (ah aA aw)) (pv 1)))
 (ax (tL aA (tG (pv 2) (pv 0) set_list))
 (aI (bg (pv 2))))),
   (aG (aO (Ey (ai (aB 0) az) (ae 1)))
 (aG (ph (aB 1) (tm (ae 2) (ae 0)))
 (bh (ae 2))))⟩
theorem Dx : bo ["many"] ["many"] (aF lN) := ⟨rfl, rfl, rfl, by decide +kernel, rfl, by decide +kernel, by decide +kernel⟩
theorem CO {a : Addr} {fd : FuncData} (F : Fun K "units" "units" lN a fd) (hm : mg "units" = some (.ref a)) (hpt : P.given.tree = none) (n_range : mg "range" = none) (FG : bC P w K mg base ca 35 "unit" ["at", "many"] m5) : cy P w K mg base ca 36 "units" ["many"] nt a fd := by
  obtain ⟨Jg, IP, FU, pN, Gz, Ge⟩ := FG
  refine ⟨bZ F Dx rfl fun cdv A outer s H E hr => ?_, hm, F.kp, F.binds fun _ _ _ _ _ _ us hl => match us, hl with | [_], _ => rfl⟩
  have hu := hr.units
  have hdp := cG hr (by decide)
  exact ⟨_, (aI (bg (dw (own := ["at"]) (cap := ["many"]) (caps := [0]) rfl ⟨rfl, by decide +kernel, by decide +kernel, by decide +kernel, ⟨rfl, Or.inl rfl, rfl, trivial⟩, by decide +kernel⟩ (jA rfl n_range (ah (pv 0) aw)) (fun _ _ _ => (aQ (i := 0) (show ((["at"] : List Str) ++ (["many"] : List Str)).Nodup from by decide +kernel) rfl (Or.inl rfl))) (fun _ _ _ => cC) (fun _ _ _ => (aN FU (hr.mono (by decide)) rfl pN Gz Ge .nil aW (ah (pv 0) (ah (pv 1) aw))))))),
   (bh (cB (m := 1) (caps := [0]) (lJ (ai (ae 0) az)) (aK 0) cA (fJ (n := 2) (f := m5) (ai (ae 0) (ai (ae 1) az)))))⟩
theorem u4 : bo ["one", "one_value", "other", "other_value", "mixed"] ["one", "one_value", "other", "other_value"] (aF j3) := ⟨rfl, rfl, rfl, by decide +kernel, rfl, by decide +kernel, by decide +kernel⟩
theorem A0 {a : Addr} {fd : FuncData} (F : Fun K "offset" "offset" j3 a fd) (hm : mg "offset" = some (.ref a)) (hpt : P.given.tree = none) (n_zip : mg "zip" = none) (rN : bC P w K mg base ca 37 "lowest" ["numbers"] gW) : cy P w K mg base ca 38 "offset" ["one", "one_value", "other", "other_value"] j4 a fd := by
  obtain ⟨DK, BE, rB, gY, rZ, sm⟩ := rN
  refine ⟨bZ F u4 rfl fun cdv A outer s H E hr => ?_, hm, F.kp, F.binds fun _ _ _ _ _ _ us hl => match us, hl with | [_, _, _, _], _ => rfl⟩
  have hu := hr.units
  have hdp := cG hr (by decide)
  exact ⟨_, (ax (dE (i := 4) (own := ["number", "other_number"]) (cap := ["one_value", "other_value"]) (caps := [1, 3]) rfl ⟨rfl, by decide +kernel, by decide +kernel, by decide +kernel, ⟨rfl, Or.inl rfl, rfl, ⟨rfl, Or.inl rfl, rfl, trivial⟩⟩, by decide +kernel⟩ (nr rfl n_zip (ah (pv 0) (ah (pv 2) aw))) (fun _ _ _ => (gK rfl (bM (aQ (i := 0) (show ((["number", "other_number"] : List Str) ++ (["one_value", "other_value"] : List Str)).Nodup from by decide +kernel) rfl (Or.inl rfl)) (bM (aQ (i := 1) (show ((["number", "other_number"] : List Str) ++ (["one_value", "other_value"] : List Str)).Nodup from by decide +kernel) rfl (Or.inl rfl)) fB)))) (fun _ _ _ => cC) (fun _ _ _ => (aS pj (aS du (pv 0) (pv 3)) (aS du (pv 1) (pv 2)))) u4.nd rfl (Or.inl rfl) rfl)
 (aI (bg (aN rB (hr.mono (by decide)) rfl gY rZ sm .nil aW (ah (pv 4) aw))))),
   (aG (aO (cB (m := 2) (caps := [1, 3]) (sE (ai (ae 0) (ai (ae 2) az))) (fq (bO (aK 0) (bO (aK 1) fA))) cA (ar pY (ar cH (ae 0) (ae 3)) (ar cH (ae 1) (ae 2)))))
 (bh (fJ (n := 1) (f := gW) (ai (ae 4) az))))⟩
theorem ip : bo ["numbers", "at", "number"] ["numbers"] (aF dG) := ⟨rfl, rfl, rfl, by decide +kernel, rfl, by decide +kernel, by decide +kernel⟩
theorem oN {a : Addr} {fd : FuncData} (F : Fun K "first_not_nought" "first_not_nought" dG a fd) (hm : mg "first_not_nought" = some (.ref a)) (hpt : P.given.tree = none) (n_enumerate : mg "enumerate" = none) : cy P w K mg base ca 35 "first_not_nought" ["numbers"] eM a fd := by
  refine ⟨bZ F ip rfl fun cdv A outer s H E hr => ?_, hm, F.kp, F.binds fun _ _ _ _ _ _ us hl => match us, hl with | [_], _ => rfl⟩
  have hu := hr.units
  have hdp := cG hr (by decide)
  exact ⟨_, (ax (d0 PassesOwn.never rfl (qo rfl n_enumerate (ah (pv 0) aw)) (gK rfl (bM (aQ (i := 1) ip.nd rfl (Or.inl rfl)) (bM (aQ (i := 2) ip.nd rfl (Or.inl rfl)) fB)))
 (aI (di (bA (pS hu) (pv 2) aA (br _))
 (aI (bg (pv 1)))
 b9)))
 (aI (bg Fq))),
   (aG (d4 (jT (ai (ae 0) az)) (fq (bO (aK 1) (bO (aK 2) fA)))
 (df (bS (ar mE (ae 2) (aB 0)))
 (bh (ae 1))
 cc))
 (bh GL))⟩
theorem iJ : bo ["numbers", "bits", "number"] ["numbers"] (aF ic) := ⟨rfl, rfl, rfl, by decide +kernel, rfl, by decide +kernel, by decide +kernel⟩
theorem w9 {a : Addr} {fd : FuncData} (F : Fun K "places_of" "places_of" ic a fd) (hm : mg "places_of" = some (.ref a)) (hpt : P.given.tree = none) : cy P w K mg base ca 35 "places_of" ["numbers"] cz a fd := by
  refine ⟨bZ F iJ rfl fun cdv A outer s H E hr => ?_, hm, F.kp, F.binds fun _ _ _ _ _ _ us hl => match us, hl with | [_], _ => rfl⟩
  have hu := hr.units
  have hdp := cG hr (by decide)
  exact ⟨_, (ax (aT (i := 1) iJ.nd rfl (Or.inl rfl) aA)
 (ax (d0 PassesOwn.never rfl (bH (pv 0)) (aQ (i := 2) iJ.nd rfl (Or.inl rfl))
 (ax (aT (i := 1) iJ.nd rfl (Or.inl rfl) (aS du (pv 1) aA))
 (aI (di (bA ji (pv 2) aA (br _))
 (aI (aT (i := 1) iJ.nd rfl (Or.inl rfl) (aS ir (pv 1) aA)))
 b9))))
 (aI (bg (pv 1))))),
   (aG (aO (aB 0))
 (aG (d4 (bG (ae 0)) (aK 2)
 (aG (aO (ar cH (ae 1) (aB 2)))
 (df (bS (ar jh (ae 2) (aB 0)))
 (aO (ar gk (ae 1) (aB 1)))
 cc)))
 (bh (ae 1))))⟩
theorem yc : bo ["places", "others"] ["places", "others"] (aF iU) := ⟨rfl, rfl, rfl, by decide +kernel, rfl, by decide +kernel, by decide +kernel⟩
theorem xY {a : Addr} {fd : FuncData} (F : Fun K "is_among" "is_among" iU a fd) (hm : mg "is_among" = some (.ref a)) (hpt : P.given.tree = none) : cy P w K mg base ca 35 "is_among" ["places", "others"] eF a fd := by
  refine ⟨bZ F yc rfl fun cdv A outer s H E hr => ?_, hm, F.kp, F.binds fun _ _ _ _ _ _ us hl => match us, hl with | [_, _], _ => rfl⟩
  have hu := hr.units
  have hdp := cG hr (by decide)
  exact ⟨_, (aI (bg (fV (iX hu) (aS D0 (pv 0) (pv 1)) (pv 1) (br _)))),
   (bh (ar gw (ar AR (ae 0) (ae 1)) (ae 1)))⟩
theorem kS : bo ["one", "other", "all_places", "both"] ["one", "other", "all_places"] (aF d5) := ⟨rfl, rfl, rfl, by decide +kernel, rfl, by decide +kernel, by decide +kernel⟩
theorem qO {a : Addr} {fd : FuncData} (F : Fun K "are_neighbours" "are_neighbours" d5 a fd) (hm : mg "are_neighbours" = some (.ref a)) (hpt : P.given.tree = none) (n_len : mg "len" = none) (oa : bC P w K mg base ca 35 "is_among" ["places", "others"] eF) : cy P w K mg base ca 36 "are_neighbours" ["one", "other", "all_places"] ee a fd := by
  obtain ⟨Af, yz, oq, gU, nI, n6⟩ := oa
  refine ⟨bZ F kS rfl fun cdv A outer s H E hr => ?_, hm, F.kp, F.binds fun _ _ _ _ _ _ us hl => match us, hl with | [_, _, _], _ => rfl⟩
  have hu := hr.units
  have hdp := cG hr (by decide)
  exact ⟨_, (ax (aT (i := 3) kS.nd rfl (Or.inr rfl) (aS D0 (pv 0) (pv 1)))
 (aI (bg (fV (iX hu) (aZ cJ rfl n_len Boot.«len» (ah (dw (own := ["places"]) (cap := ["both"]) (caps := [3]) rfl ⟨rfl, by decide +kernel, by decide +kernel, by decide +kernel, ⟨rfl, Or.inl rfl, rfl, trivial⟩, by decide +kernel⟩ (bH (pv 2)) (fun _ _ _ => (aQ (i := 0) (show ((["places"] : List Str) ++ (["both"] : List Str)).Nodup from by decide +kernel) rfl (Or.inl rfl))) (fun _ _ _ => (lG (eT (aN oq (hr.mono (by decide)) rfl gU nI n6 .nil aW (ah (pv 0) (ah (pv 1) aw)))))) (fun _ _ _ => (pv 0))) aw)) aA (br _))))),
   (aG (aO (ar AR (ae 0) (ae 1)))
 (bh (ar gw (ba dR (ai (cB (m := 1) (caps := [3]) (bG (ae 2)) (aK 0) (gv (cx (n := 2) (f := eF) (ai (ae 0) (ai (ae 1) az)))) (ae 0)) az)) (aB 2))))⟩
theorem cE : bo ["lists", "row", "values", "places", "told", "above", "below", "high", "low"] ["lists", "row"] (aF dI) := ⟨rfl, rfl, rfl, by decide +kernel, rfl, by decide +kernel, by decide +kernel⟩
theorem oM {a : Addr} {fd : FuncData} (F : Fun K "lone_by_one_more" "lone_by_one_more" dI a fd) (hm : mg "lone_by_one_more" = some (.ref a)) (hpt : P.given.tree = none) (n_zip : mg "zip" = none) (n_enumerate : mg "enumerate" = none) (i4 : bC P w K mg base ca 35 "sum_of_products" ["numbers", "others"] bU) (mO : bC P w K mg base ca 35 "places_of" ["numbers"] cz) (rS : bC P w K mg base ca 36 "are_neighbours" ["one", "other", "all_places"] ee) (Dj : bC P w K mg base ca 38 "offset" ["one", "one_value", "other", "other_value"] j4) : cy P w K mg base ca 39 "lone_by_one_more" ["lists", "row"] eK a fd := by
  obtain ⟨qN, o7, i3, dk, iZ, i5⟩ := i4
  obtain ⟨xZ, xF, km, fj, kn, kf⟩ := mO
  obtain ⟨Cq, Cb, rP, fK, rM, rW⟩ := rS
  obtain ⟨HZ, Hr, Dl, lX, Dy, DN⟩ := Dj
  refine ⟨bZ F cE rfl fun cdv A outer s H E hr => ?_, hm, F.kp, F.binds fun _ _ _ _ _ _ us hl => match us, hl with | [_, _], _ => rfl⟩
  have hu := hr.units
  have hdp := cG hr (by decide)
  exact ⟨_, (ax (dE (i := 2) (own := ["one"]) (cap := ["row"]) (caps := [1]) rfl ⟨rfl, by decide +kernel, by decide +kernel, by decide +kernel, ⟨rfl, Or.inl rfl, rfl, trivial⟩, by decide +kernel⟩ (bH (pv 0)) (fun _ _ _ => (aQ (i := 0) (show ((["one"] : List Str) ++ (["row"] : List Str)).Nodup from by decide +kernel) rfl (Or.inl rfl))) (fun _ _ _ => cC) (fun _ _ _ => (aN i3 (hr.mono (by decide)) rfl dk iZ i5 .nil aW (ah (pv 1) (ah (pv 0) aw)))) cE.nd rfl (Or.inl rfl) rfl)
 (ax (dE (i := 3) (own := ["one"]) (cap := []) (caps := []) rfl ⟨rfl, by decide +kernel, by decide +kernel, by decide +kernel, trivial, by decide +kernel⟩ (bH (pv 0)) (fun _ _ _ => (aQ (i := 0) (show ((["one"] : List Str) ++ ([] : List Str)).Nodup from by decide +kernel) rfl (Or.inl rfl))) (fun _ _ _ => cC) (fun _ _ _ => (aN km (hr.mono (by decide)) rfl fj kn kf .nil aW (ah (pv 0) aw))) cE.nd rfl (Or.inl rfl) rfl)
 (ax (dE (i := 4) (own := ["one", "value"]) (cap := []) (caps := []) rfl ⟨rfl, by decide +kernel, by decide +kernel, by decide +kernel, trivial, by decide +kernel⟩ (nr rfl n_zip (ah (pv 0) (ah (pv 2) aw))) (fun _ _ _ => (gK rfl (bM (aQ (i := 0) (show ((["one", "value"] : List Str) ++ ([] : List Str)).Nodup from by decide +kernel) rfl (Or.inl rfl)) (bM (aQ (i := 1) (show ((["one", "value"] : List Str) ++ ([] : List Str)).Nodup from by decide +kernel) rfl (Or.inl rfl)) fB)))) (fun _ _ _ => (lG (bA (iX hu) (pv 1) aA (br _)))) (fun _ _ _ => (pv 0)) cE.nd rfl (Or.inl rfl) rfl)
 (ax (dE (i := 5) (own := ["at", "value"]) (cap := []) (caps := []) rfl ⟨rfl, by decide +kernel, by decide +kernel, by decide +kernel, trivial, by decide +kernel⟩ (qo rfl n_enumerate (ah (pv 2) aw)) (fun _ _ _ => (gK rfl (bM (aQ (i := 0) (show ((["at", "value"] : List Str) ++ ([] : List Str)).Nodup from by decide +kernel) rfl (Or.inl rfl)) (bM (aQ (i := 1) (show ((["at", "value"] : List Str) ++ ([] : List Str)).Nodup from by decide +kernel) rfl (Or.inl rfl)) fB)))) (fun _ _ _ => (lG (bA ji (pv 1) aA (br _)))) (fun _ _ _ => (pv 0)) cE.nd rfl (Or.inl rfl) rfl)
 (ax (dE (i := 6) (own := ["at", "value"]) (cap := []) (caps := []) rfl ⟨rfl, by decide +kernel, by decide +kernel, by decide +kernel, trivial, by decide +kernel⟩ (qo rfl n_enumerate (ah (pv 2) aw)) (fun _ _ _ => (gK rfl (bM (aQ (i := 0) (show ((["at", "value"] : List Str) ++ ([] : List Str)).Nodup from by decide +kernel) rfl (Or.inl rfl)) (bM (aQ (i := 1) (show ((["at", "value"] : List Str) ++ ([] : List Str)).Nodup from by decide +kernel) rfl (Or.inl rfl)) fB)))) (fun _ _ _ => (lG (bA oj (pv 1) aA (br _)))) (fun _ _ _ => (pv 0)) cE.nd rfl (Or.inl rfl) rfl)
 (ax (d0 PassesOwn.never rfl (bH (pv 5)) (aQ (i := 7) cE.nd rfl (Or.inl rfl))
 (aI (d0 PassesOwn.never rfl (bH (pv 6)) (aQ (i := 8) cE.nd rfl (Or.inl rfl))
 (aI (di (eT (aN rP (hr.mono (by decide)) rfl fK rM rW .nil aW (ah (bQ bu (pv 3) (pv 7) (fun _ _ => rfl)) (ah (bQ bu (pv 3) (pv 8) (fun _ _ => rfl)) (ah (pv 3) aw)))))
 (aI (iN (nV PySem.F.plainAttrs_list PySem.F.slot_list_append PySem.F.type_list_append gO (pv 4) (ah (aN Dl (hr.mono (by decide)) rfl lX Dy DN .nil aW (ah (bQ bu (pv 0) (pv 8) (fun _ _ => rfl)) (ah (bQ bu (pv 2) (pv 8) (fun _ _ => rfl)) (ah (bQ bu (pv 0) (pv 7) (fun _ _ => rfl)) (ah (bQ bu (pv 2) (pv 7) (fun _ _ => rfl)) aw))))) aw))))
 b9)))))
 (aI (bg (pv 4))))))))),
   (aG (aO (cB (m := 1) (caps := [1]) (bG (ae 0)) (aK 0) cA (gr (n := 2) (f := bU) (ai (ae 1) (ai (ae 0) az)))))
 (aG (aO (cB (m := 1) (caps := []) (bG (ae 0)) (aK 0) cA (gr (n := 1) (f := cz) (ai (ae 0) az))))
 (aG (aO (n9 (m := 2) (caps := []) (sE (ai (ae 0) (ai (ae 2) az))) (fq (bO (aK 0) (bO (aK 1) fA))) (bS (ar gw (ae 1) (aB 0))) (ae 0)))
 (aG (aO (cB (m := 2) (caps := []) (jT (ai (ae 2) az)) (fq (bO (aK 0) (bO (aK 1) fA))) (bS (ar jh (ae 1) (aB 0))) (ae 0)))
 (aG (aO (cB (m := 2) (caps := []) (jT (ai (ae 2) az)) (fq (bO (aK 0) (bO (aK 1) fA))) (bS (ar n5 (ae 1) (aB 0))) (ae 0)))
 (aG (d4 (bG (ae 5)) (aK 7)
 (d4 (bG (ae 6)) (aK 8)
 (df (gv (cx (n := 3) (f := ee) (ai (ar bP (ae 3) (ae 7)) (ai (ar bP (ae 3) (ae 8)) (ai (ae 3) az)))))
 (iP (mC (ae 4) (Cj (n := 4) (f := j4) (ai (ar bP (ae 0) (ae 8)) (ai (ar bP (ae 2) (ae 8)) (ai (ar bP (ae 0) (ae 7)) (ai (ar bP (ae 2) (ae 7)) az)))))))
 cc)))
 (bh (i6 (ae 4)))))))))⟩
theorem qx : bo ["rows", "many", "lists", "row"] ["rows", "many"] (aF nA) := ⟨rfl, rfl, rfl, by decide +kernel, rfl, by decide +kernel, by decide +kernel⟩
theorem EA {a : Addr} {fd : FuncData} (F : Fun K "lone" "lone" nA a fd) (hm : mg "lone" = some (.ref a)) (hpt : P.given.tree = none) (n_sorted : mg "sorted" = none) (ES : bC P w K mg base ca 36 "units" ["many"] nt) (pM : bC P w K mg base ca 39 "lone_by_one_more" ["lists", "row"] eK) : cy P w K mg base ca 40 "lone" ["rows", "many"] gd a fd := by
  obtain ⟨IY, HY, Er, mZ, E6, Ei⟩ := ES
  obtain ⟨A4, Aw, pQ, eL, p9, p8⟩ := pM
  refine ⟨bZ F qx rfl fun cdv A outer s H E hr => ?_, hm, F.kp, F.binds fun _ _ _ _ _ _ us hl => match us, hl with | [_, _], _ => rfl⟩
  have hu := hr.units
  have hdp := cG hr (by decide)
  exact ⟨_, (ax (aT (i := 2) qx.nd rfl (Or.inl rfl) (aN Er (hr.mono (by decide)) rfl mZ E6 Ei .nil aW (ah (pv 1) aw)))
 (ax (d0 PassesOwn.never rfl (bH (pv 0)) (aQ (i := 3) qx.nd rfl (Or.inl rfl))
 (aI (aT (i := 2) qx.nd rfl (Or.inl rfl) (aN pQ (hr.mono (by decide)) rfl eL p9 p8 .nil aW (ah (pv 2) (ah (pv 3) aw))))))
 (aI (bg (aZ (w6 hu) rfl n_sorted Boot.«sorted» (ah (pv 2) aw)))))),
   (aG (aO (cK (n := 1) (f := nt) (ai (ae 1) az)))
 (aG (d4 (bG (ae 0)) (aK 3)
 (aO (cK (n := 2) (f := eK) (ai (ae 2) (ai (ae 3) az)))))
 (bh (Dg (ae 2)))))⟩
theorem wb : bo ["rows", "many", "fit"] ["rows", "many", "fit"] (aF ie) := ⟨rfl, rfl, rfl, by decide +kernel, rfl, by decide +kernel, by decide +kernel⟩
theorem xg {a : Addr} {fd : FuncData} (F : Fun K "check_fit" "check_fit" ie a fd) (hm : mg "check_fit" = some (.ref a)) (hpt : P.given.tree = none) (n_len : mg "len" = none) (n_any : mg "any" = none) (i4 : bC P w K mg base ca 35 "sum_of_products" ["numbers", "others"] bU) : cy P w K mg base ca 36 "check_fit" ["rows", "many", "fit"] jd a fd := by
  obtain ⟨qN, o7, i3, dk, iZ, i5⟩ := i4
  refine ⟨bZ F wb rfl fun cdv A outer s H E hr => ?_, hm, F.kp, F.binds fun _ _ _ _ _ _ us hl => match us, hl with | [_, _, _], _ => rfl⟩
  have hu := hr.units
  have hdp := cG hr (by decide)
  exact ⟨_, (ax (di (bA (pS hu) (aZ cJ rfl n_len Boot.«len» (ah (pv 2) aw)) (pv 1) (br _))
 (aI lU)
 b9)
 (ax (di (eT (aZ (uT rfl) rfl n_any Boot.«any» (ah (dw (own := ["number"]) (cap := []) (caps := []) rfl ⟨rfl, by decide +kernel, by decide +kernel, by decide +kernel, trivial, by decide +kernel⟩ (bH (pv 2)) (fun _ _ _ => (aQ (i := 0) (show ((["number"] : List Str) ++ ([] : List Str)).Nodup from by decide +kernel) rfl (Or.inl rfl))) (fun _ _ _ => cC) (fun _ _ _ => (fV oj (pv 0) aA (br _)))) aw)))
 (aI lU)
 b9)
 (aI (di (eT (aZ (uT rfl) rfl n_any Boot.«any» (ah (dw (own := ["row"]) (cap := ["fit"]) (caps := [2]) rfl ⟨rfl, by decide +kernel, by decide +kernel, by decide +kernel, ⟨rfl, Or.inl rfl, rfl, trivial⟩, by decide +kernel⟩ (bH (pv 0)) (fun _ _ _ => (aQ (i := 0) (show ((["row"] : List Str) ++ (["fit"] : List Str)).Nodup from by decide +kernel) rfl (Or.inl rfl))) (fun _ _ _ => cC) (fun _ _ _ => (fV (pS hu) (aN i3 (hr.mono (by decide)) rfl dk iZ i5 .nil aW (ah (pv 0) (ah (pv 1) aw))) aA (br _)))) aw)))
 (aI lU)
 b9)))),
   (aG (df (bS (ar mE (ba dR (ai (ae 2) az)) (ae 1)))
 lV
 cc)
 (aG (df (gv (ba BZ (ai (cB (m := 1) (caps := []) (bG (ae 2)) (aK 0) cA (ar n5 (ae 0) (aB 0))) az)))
 lV
 cc)
 (df (gv (ba BZ (ai (cB (m := 1) (caps := [2]) (bG (ae 0)) (aK 0) cA (ar mE (gr (n := 2) (f := bU) (ai (ae 0) (ai (ae 1) az))) (aB 0))) az)))
 lV
 cc)))⟩
theorem eV : bo ["left", "one", "best", "at", "number"] ["left", "one"] (aF ez) := ⟨rfl, rfl, rfl, by decide +kernel, rfl, by decide +kernel, by decide +kernel⟩
theorem qK {a : Addr} {fd : FuncData} (F : Fun K "tightest_place" "tightest_place" ez a fd) (hm : mg "tightest_place" = some (.ref a)) (hpt : P.given.tree = none) (n_enumerate : mg "enumerate" = none) (pI : bC P w K mg base ca 35 "first_not_nought" ["numbers"] eM) : cy P w K mg base ca 36 "tightest_place" ["left", "one"] ey a fd := by
  obtain ⟨AD, Av, pU, cX, pe, pX⟩ := pI
  refine ⟨bZ F eV rfl fun cdv A outer s H E hr => ?_, hm, F.kp, F.binds fun _ _ _ _ _ _ us hl => match us, hl with | [_, _], _ => rfl⟩
  have hu := hr.units
  have hdp := cG hr (by decide)
  exact ⟨_, (ax (aT (i := 2) eV.nd rfl (Or.inl rfl) (aN pU (hr.mono (by decide)) rfl cX pe pX .nil aW (ah (pv 1) aw)))
 (ax (d0 PassesOwn.never rfl (qo rfl n_enumerate (ah (pv 1) aw)) (gK rfl (bM (aQ (i := 3) eV.nd rfl (Or.inl rfl)) (bM (aQ (i := 4) eV.nd rfl (Or.inl rfl)) fB)))
 (aI (di (PW.pt (pw_and (bA ji (pv 4) aA (br _)) (pw_and1 (bA oj (aS du (bQ bu (pv 0) (pv 3) (fun _ _ => rfl)) (bQ bu (pv 1) (pv 2) (fun _ _ => rfl))) (aS du (bQ bu (pv 0) (pv 2) (fun _ _ => rfl)) (pv 4)) (br _)))))
 (aI (aT (i := 2) eV.nd rfl (Or.inl rfl) (pv 3)))
 b9)))
 (aI (bg (pv 2))))),
   (aG (aO (cx (n := 1) (f := eM) (ai (ae 1) az)))
 (aG (d4 (jT (ai (ae 1) az)) (fq (bO (aK 3) (bO (aK 4) fA)))
 (df (xQ (bS (ar jh (ae 4) (aB 0))) (bS (ar n5 (ar cH (ar bP (ae 0) (ae 3)) (ar bP (ae 1) (ae 2))) (ar cH (ar bP (ae 0) (ae 2)) (ae 4)))))
 (aO (ae 3))
 cc))
 (bh (ae 2))))⟩
theorem fk : bo ["rows", "many", "fit", "told", "left", "bottom", "one", "at", "rest", "reduced"] ["rows", "many", "fit"] (aF j0) := ⟨rfl, rfl, rfl, by decide +kernel, rfl, by decide +kernel, by decide +kernel⟩
theorem A6 {a : Addr} {fd : FuncData} (F : Fun K "shares" "shares" j0 a fd) (hm : mg "shares" = some (.ref a)) (hpt : P.given.tree = none) (n_list : mg "list" = none) (n_zip : mg "zip" = none) (yC : bC P w K mg base ca 36 "check_fit" ["rows", "many", "fit"] jd) (pE : bC P w K mg base ca 40 "lone" ["rows", "many"] gd) (oa : bC P w K mg base ca 35 "is_among" ["places", "others"] eF) (mO : bC P w K mg base ca 35 "places_of" ["numbers"] cz) (rQ : bC P w K mg base ca 36 "tightest_place" ["left", "one"] ey) (Ew : bC P w K mg base ca 36 "ratio" ["top", "bottom"] j6) (rN : bC P w K mg base ca 37 "lowest" ["numbers"] gW) : cy P w K mg base ca 41 "shares" ["rows", "many", "fit"] ei a fd := by
  obtain ⟨G1, Fy, xW, i8, yb, yh⟩ := yC
  obtain ⟨Bo, zd, o6, jQ, oQ, pW⟩ := pE
  obtain ⟨Af, yz, oq, gU, nI, n6⟩ := oa
  obtain ⟨xZ, xF, km, fj, kn, kf⟩ := mO
  obtain ⟨CN, Cc, rJ, fI, rC, r9⟩ := rQ
  obtain ⟨IV, HM, E3, nq, EI, EG⟩ := Ew
  obtain ⟨DK, BE, rB, gY, rZ, sm⟩ := rN
  refine ⟨bZ F fk rfl fun cdv A outer s H E hr => ?_, hm, F.kp, F.binds fun _ _ _ _ _ _ us hl => match us, hl with | [_, _, _], _ => rfl⟩
  have hu := hr.units
  have hdp := cG hr (by decide)
  exact ⟨_, (ax (iN (aN xW (hr.mono (by decide)) rfl i8 yb yh .nil aW (ah (pv 0) (ah (pv 1) (ah (pv 2) aw)))))
 (ax (aT (i := 3) fk.nd rfl (Or.inl rfl) (iD aw))
 (ax (aT (i := 4) fk.nd rfl (Or.inr rfl) (gb eJ rfl n_list Boot.«list» (ah (pv 2) aw)))
 (ax (aT (i := 5) fk.nd rfl (Or.inl rfl) aA)
 (ax (d0 PassesOwn.never rfl (bH (aN o6 (hr.mono (by decide)) rfl jQ oQ pW .nil aW (ah (pv 0) (ah (pv 1) aw)))) (aQ (i := 6) fk.nd rfl (Or.inr rfl))
 (aI (di (eT (aN oq (hr.mono (by decide)) rfl gU nI n6 .nil aW (ah (aN km (hr.mono (by decide)) rfl fj kn kf .nil aW (ah (pv 6) aw)) (ah (aN km (hr.mono (by decide)) rfl fj kn kf .nil aW (ah (pv 4) aw)) aw))))
 (ax (aT (i := 7) fk.nd rfl (Or.inr rfl) (aN rJ (hr.mono (by decide)) rfl fI rC r9 .nil aW (ah (pv 4) (ah (pv 6) aw))))
 (ax (iN (nV PySem.F.plainAttrs_list PySem.F.slot_list_append PySem.F.type_list_append gO (pv 3) (ah (Bl (ah (aN E3 (hr.mono (by decide)) rfl nq EI EG .nil aW (ah (bQ bu (pv 4) (pv 7) (fun _ _ => rfl)) (ah (aS du (pv 5) (bQ bu (pv 6) (pv 7) (fun _ _ => rfl))) aw))) (ah (pv 6) aw))) aw)))
 (ax (dE (i := 8) (own := ["number", "other"]) (cap := ["at", "left", "one"]) (caps := [7, 4, 6]) rfl ⟨rfl, by decide +kernel, by decide +kernel, by decide +kernel, ⟨rfl, Or.inl rfl, rfl, ⟨rfl, Or.inl rfl, rfl, ⟨rfl, Or.inl rfl, rfl, trivial⟩⟩⟩, by decide +kernel⟩ (nr rfl n_zip (ah (pv 4) (ah (pv 6) aw))) (fun _ _ _ => (gK rfl (bM (aQ (i := 0) (show ((["number", "other"] : List Str) ++ (["at", "left", "one"] : List Str)).Nodup from by decide +kernel) rfl (Or.inl rfl)) (bM (aQ (i := 1) (show ((["number", "other"] : List Str) ++ (["at", "left", "one"] : List Str)).Nodup from by decide +kernel) rfl (Or.inl rfl)) fB)))) (fun _ _ _ => cC) (fun _ _ _ => (aS pj (aS du (pv 0) (bQ bu (pv 4) (pv 2) (fun _ _ => rfl))) (aS du (pv 1) (bQ bu (pv 3) (pv 2) (fun _ _ => rfl))))) fk.nd rfl (Or.inl rfl) rfl)
 (ax (aT (i := 9) fk.nd rfl (Or.inl rfl) (aN rB (hr.mono (by decide)) rfl gY rZ sm .nil aW (ah (aS ir (pv 8) (iD (ah (aS du (pv 5) (bQ bu (pv 6) (pv 7) (fun _ _ => rfl))) aw))) aw)))
 (ax (aT (i := 4) fk.nd rfl (Or.inr rfl) (jt j7 (pv 9) nk (iW (pv 1))))
 (aI (aT (i := 5) fk.nd rfl (Or.inl rfl) (bQ bu (pv 9) (pv 1) (fun _ _ => rfl)))))))))
 b9)))
 (aI (bg (pv 3)))))))),
   (aG (iP (cx (n := 3) (f := jd) (ai (ae 0) (ai (ae 1) (ai (ae 2) az)))))
 (aG (aO (lM az))
 (aG (aO (ba jw (ai (ae 2) az)))
 (aG (aO (aB 1))
 (aG (d4 (bG (i6 (fJ (n := 2) (f := gd) (ai (ae 0) (ai (ae 1) az))))) (aK 6)
 (df (gv (cx (n := 2) (f := eF) (ai (gr (n := 1) (f := cz) (ai (ae 6) az)) (ai (gr (n := 1) (f := cz) (ai (ae 4) az)) az))))
 (aG (aO (gr (n := 2) (f := ey) (ai (ae 4) (ai (ae 6) az))))
 (aG (iP (mC (ae 3) (A2 (ai (cx (n := 2) (f := j6) (ai (ar bP (ae 4) (ae 7)) (ai (ar cH (ae 5) (ar bP (ae 6) (ae 7))) az))) (ai (ae 6) az)))))
 (aG (aO (vg (m := 2) (caps := [7, 4, 6]) (ze (ai (ae 4) (ai (ae 6) az))) (fq (bO (aK 0) (bO (aK 1) fA))) cA (ar pY (ar cH (ae 0) (ar bP (ae 4) (ae 2))) (ar cH (ae 1) (ar bP (ae 3) (ae 2))))))
 (aG (aO (i6 (fJ (n := 1) (f := gW) (ai (ar gk (ae 8) (sD (ai (ar cH (ae 5) (ar bP (ae 6) (ae 7))) az))) az))))
 (aG (aO (nH (ae 9) kE (iV (ae 1))))
 (aO (ar bP (ae 9) (ae 1))))))))
 cc))
 (bh (ae 3)))))))⟩
theorem yo : bo ["_law_script", "_law_k"] ["_law_script", "_law_k"] (aF iO) := ⟨rfl, rfl, rfl, by decide +kernel, rfl, by decide +kernel, by decide +kernel⟩
theorem yw {a : Addr} {fd : FuncData} (F : Fun K "_law_cell" "_law_cell" iO a fd) (hm : mg "_law_cell" = some (.ref a)) (hpt : P.given.tree = none) (n_len : mg "len" = none) : cy P w K mg base ca 35 "_law_cell" ["_law_script", "_law_k"] bL a fd := by
  refine ⟨bZ F yo rfl fun cdv A outer s H E hr => ?_, hm, F.kp, F.binds fun _ _ _ _ _ _ us hl => match us, hl with | [_, _], _ => rfl⟩
  have hu := hr.units
  have hdp := cG hr (by decide)
  exact ⟨_, (ax (di (bA oj (pv 1) (aZ cJ rfl n_len Boot.«len» (ah (pv 0) aw)) (br _))
 (aI (bg (bQ bu (pv 0) (pv 1) (fun _ _ => rfl))))
 b9)
 (aI (bg aA))),
   (aG (df (bS (ar n5 (ae 1) (ba dR (ai (ae 0) az))))
 (bh (ar bP (ae 0) (ae 1)))
 cc)
 (bh (aB 0)))⟩
theorem zQ : bo ["_law_cell_here"] ["_law_cell_here"] (aF jN) := ⟨rfl, rfl, rfl, by decide +kernel, rfl, by decide +kernel, by decide +kernel⟩
theorem zJ {a : Addr} {fd : FuncData} (F : Fun K "_law_bag" "_law_bag" jN a fd) (hm : mg "_law_bag" = some (.ref a)) (hpt : P.given.tree = none) : cy P w K mg base ca 35 "_law_bag" ["_law_cell_here"] fi a fd := by
  refine ⟨bZ F zQ rfl fun cdv A outer s H E hr => ?_, hm, F.kp, F.binds fun _ _ _ _ _ _ us hl => match us, hl with | [_], _ => rfl⟩
  have hu := hr.units
  have hdp := cG hr (by decide)
  exact ⟨_, (aI (bg (iD (ah (aS du (aS fu (aS (jf hdp hpt ⟨_, _, rfl, rfl, rfl, rfl, rfl⟩) (pv 0) aA) (aS kC aA aA)) (aS fu (pv 0) aA)) (ah (aS fu (aS (jf hdp hpt ⟨_, _, rfl, rfl, rfl, rfl, rfl⟩) (pv 0) aA) aA) aw))))),
   (bh (lM (ai (ar cH (ar gJ (ar ia (ae 0) (aB 2)) (ar kB (aB 10) (aB 60))) (ar gJ (ae 0) (aB 2))) (ai (ar gJ (ar ia (ae 0) (aB 2)) (aB 2147483647)) az))))⟩
theorem rf : bo ["_law_bag_here", "_law_many", "_law_found"] ["_law_bag_here", "_law_many"] (aF iM) := ⟨rfl, rfl, rfl, by decide +kernel, rfl, by decide +kernel, by decide +kernel⟩
theorem yi {a : Addr} {fd : FuncData} (F : Fun K "_law_draw" "_law_draw" iM a fd) (hm : mg "_law_draw" = some (.ref a)) (hpt : P.given.tree = none) : cy P w K mg base ca 35 "_law_draw" ["_law_bag_here", "_law_many"] aH a fd := by
  refine ⟨bZ F rf rfl fun cdv A outer s H E hr => ?_, hm, F.kp, F.binds fun _ _ _ _ _ _ us hl => match us, hl with | [_, _], _ => rfl⟩
  have hu := hr.units
  have hdp := cG hr (by decide)
  exact ⟨_, (ax (di (bA ji (bQ bu (pv 0) aA (fun _ _ => rfl)) aA (br _))
 (ax (aT (i := 2) rf.nd rfl (Or.inl rfl) (aS fu (bQ bu (pv 0) aA (fun _ _ => rfl)) (pv 1)))
 (ax (tL (aS (jf hdp hpt ⟨_, _, rfl, rfl, rfl, rfl, rfl⟩) (bQ bu (pv 0) aA (fun _ _ => rfl)) (pv 1)) (tG (pv 0) aA set_list))
 (aI (bg (pv 2)))))
 b9)
 (ax (tL (aS fu (aS ir (aS du (bQ bu (pv 0) aA (fun _ _ => rfl)) aA) aA) aA) (tG (pv 0) aA set_list))
 (aI (bg (aS fu (aS (jf hdp hpt ⟨_, _, rfl, rfl, rfl, rfl, rfl⟩) (aS fu (aS du (bQ bu (pv 0) aA (fun _ _ => rfl)) (aS ir (aS (jf hdp hpt ⟨_, _, rfl, rfl, rfl, rfl, rfl⟩) (bQ bu (pv 0) aA (fun _ _ => rfl)) aA) aA)) aA) aA) (pv 1)))))),
   (aG (df (bS (ar jh (ar bP (ae 0) (aB 0)) (aB 0)))
 (aG (aO (ar gJ (ar bP (ae 0) (aB 0)) (ae 1)))
 (aG (ph (ar ia (ar bP (ae 0) (aB 0)) (ae 1)) (tm (ae 0) (aB 0)))
 (bh (ae 2))))
 cc)
 (aG (ph (ar gJ (ar gk (ar cH (ar bP (ae 0) (aB 1)) (aB 48271)) (aB 4099)) (aB 2147483647)) (tm (ae 0) (aB 1)))
 (bh (ar gJ (ar ia (ar gJ (ar cH (ar bP (ae 0) (aB 1)) (ar gk (ar ia (ar bP (ae 0) (aB 1)) (aB 65536)) (aB 7))) (aB 2147483629)) (aB 32)) (ae 1)))))⟩
theorem oI : bo ["_law_bag_here", "_law_wide", "_law_way"] ["_law_bag_here", "_law_wide"] (aF gA) := ⟨rfl, rfl, rfl, by decide +kernel, rfl, by decide +kernel, by decide +kernel⟩
theorem vD {a : Addr} {fd : FuncData} (F : Fun K "_law_number" "_law_number" gA a fd) (hm : mg "_law_number" = some (.ref a)) (hpt : P.given.tree = none) (gT : bC P w K mg base ca 35 "_law_draw" ["_law_bag_here", "_law_many"] aH) : cy P w K mg base ca 36 "_law_number" ["_law_bag_here", "_law_wide"] dQ a fd := by
  obtain ⟨oA, mU, cv, bz, cm, cq⟩ := gT
  refine ⟨bZ F oI rfl fun cdv A outer s H E hr => ?_, hm, F.kp, F.binds fun _ _ _ _ _ _ us hl => match us, hl with | [_, _], _ => rfl⟩
  have hu := hr.units
  have hdp := cG hr (by decide)
  exact ⟨_, (ax (aT (i := 2) oI.nd rfl (Or.inl rfl) (aN cv (hr.mono (by decide)) rfl bz cm cq .nil aW (ah (pv 0) (ah aA aw))))
 (ax (di (bA (iX hu) (pv 2) aA (br _))
 (aI (bg aA))
 b9)
 (ax (di (bA (iX hu) (pv 2) aA (br _))
 (aI (bg (aS pj (aS fu (aS ir (aS du (aN cv (hr.mono (by decide)) rfl bz cm cq .nil aW (ah (pv 0) (ah aA aw))) (aS kC aA aA)) (aN cv (hr.mono (by decide)) rfl bz cm cq .nil aW (ah (pv 0) (ah (aS kC aA aA) aw)))) (pv 1)) (aN cv (hr.mono (by decide)) rfl bz cm cq .nil aW (ah (pv 0) (ah aA aw))))))
 b9)
 (aI (bg (aS pj (aN cv (hr.mono (by decide)) rfl bz cm cq .nil aW (ah (pv 0) (ah aA aw))) aA)))))),
   (aG (aO (cK (n := 2) (f := aH) (ai (ae 0) (ai (aB 6) az))))
 (aG (df (bS (ar gw (ae 2) (aB 4)))
 (bh (aB 0))
 cc)
 (aG (df (bS (ar gw (ae 2) (aB 5)))
 (bh (ar pY (ar gJ (ar gk (ar cH (cK (n := 2) (f := aH) (ai (ae 0) (ai (aB 1000) az))) (ar kB (aB 10) (aB 6))) (cK (n := 2) (f := aH) (ai (ae 0) (ai (ar kB (aB 10) (aB 6)) az)))) (ae 1)) (cK (n := 2) (f := aH) (ai (ae 0) (ai (aB 9) az)))))
 cc)
 (bh (ar pY (cK (n := 2) (f := aH) (ai (ae 0) (ai (aB 7) az))) (aB 3))))))⟩
theorem xD : bo ["_law_found"] ["_law_found"] (aF ig) := ⟨rfl, rfl, rfl, by decide +kernel, rfl, by decide +kernel, by decide +kernel⟩
theorem vU {a : Addr} {fd : FuncData} (F : Fun K "_law_whole" "_law_whole" ig a fd) (hm : mg "_law_whole" = some (.ref a)) (hpt : P.given.tree = none) (n_isinstance : mg "isinstance" = none) (n_int : mg "int" = none) (n_bool : mg "bool" = none) : cy P w K mg base ca 35 "_law_whole" ["_law_found"] cN a fd := by
  refine ⟨bZ F xD rfl fun cdv A outer s H E hr => ?_, hm, F.kp, F.binds fun _ _ _ _ _ _ us hl => match us, hl with | [_], _ => rfl⟩
  have hu := hr.units
  have hdp := cG hr (by decide)
  exact ⟨_, (aI (bg (md (aZ iI rfl n_isinstance Boot.«isinstance» (ah (pv 0) (ah (jC (v := .ty "int") rfl n_int Boot.«int» rfl) aw))) (pV (AY (aZ iI rfl n_isinstance Boot.«isinstance» (ah (pv 0) (ah (jC (v := .ty "bool") rfl n_bool Boot.«bool» rfl) aw)))))))),
   (bh (ka (kM ty_int (ae 0)) (yS (kM ty_bool (ae 0)))))⟩
theorem ur : bo ["_law_found", "_law_many"] ["_law_found", "_law_many"] (aF fS) := ⟨rfl, rfl, rfl, by decide +kernel, rfl, by decide +kernel, by decide +kernel⟩
theorem tT {a : Addr} {fd : FuncData} (F : Fun K "_law_is_list" "_law_is_list" fS a fd) (hm : mg "_law_is_list" = some (.ref a)) (hpt : P.given.tree = none) (n_isinstance : mg "isinstance" = none) (n_list : mg "list" = none) (n_len : mg "len" = none) (n_all : mg "all" = none) (mQ : bC P w K mg base ca 35 "_law_whole" ["_law_found"] cN) : cy P w K mg base ca 36 "_law_is_list" ["_law_found", "_law_many"] hU a fd := by
  obtain ⟨yy, xJ, ky, gs, kx, kv⟩ := mQ
  refine ⟨bZ F ur rfl fun cdv A outer s H E hr => ?_, hm, F.kp, F.binds fun _ _ _ _ _ _ us hl => match us, hl with | [_, _], _ => rfl⟩
  have hu := hr.units
  have hdp := cG hr (by decide)
  exact ⟨_, (aI (bg (md (aZ iI rfl n_isinstance Boot.«isinstance» (ah (pv 0) (ah (jC (v := .ty "list") rfl n_list Boot.«list» rfl) aw))) (md (fV (iX hu) (aZ cJ rfl n_len Boot.«len» (ah (pv 0) aw)) (pv 1) (br _)) (pV (aZ (Bz rfl) rfl n_all Boot.«all» (ah (dw (own := ["_law_number_here"]) (cap := []) (caps := []) rfl ⟨rfl, by decide +kernel, by decide +kernel, by decide +kernel, trivial, by decide +kernel⟩ (bH (pv 0)) (fun _ _ _ => (aQ (i := 0) (show ((["_law_number_here"] : List Str) ++ ([] : List Str)).Nodup from by decide +kernel) rfl (Or.inl rfl))) (fun _ _ _ => cC) (fun _ _ _ => (aN ky (hr.mono (by decide)) rfl gs kx kv .nil aW (ah (pv 0) aw)))) aw))))))),
   (bh (ka (kM ty_list (ae 0)) (ka (ar gw (ba dR (ai (ae 0) az)) (ae 1)) (ba GJ (ai (cB (m := 1) (caps := []) (bG (ae 0)) (aK 0) cA (cx (n := 1) (f := cN) (ai (ae 0) az))) az)))))⟩
theorem eh : bo ["_law_numbers", "_law_found", "_law_number_here", "_law_other", "_law_rest"] ["_law_numbers"] (aF fW) := ⟨rfl, rfl, rfl, by decide +kernel, rfl, by decide +kernel, by decide +kernel⟩
theorem uf {a : Addr} {fd : FuncData} (F : Fun K "_law_measure" "_law_measure" fW a fd) (hm : mg "_law_measure" = some (.ref a)) (hpt : P.given.tree = none) (n_abs : mg "abs" = none) : cy P w K mg base ca 35 "_law_measure" ["_law_numbers"] hE a fd := by
  refine ⟨bZ F eh rfl fun cdv A outer s H E hr => ?_, hm, F.kp, F.binds fun _ _ _ _ _ _ us hl => match us, hl with | [_], _ => rfl⟩
  have hu := hr.units
  have hdp := cG hr (by decide)
  exact ⟨_, (ax (aT (i := 1) eh.nd rfl (Or.inl rfl) aA)
 (ax (d0 PassesOwn.never rfl (bH (pv 0)) (aQ (i := 2) eh.nd rfl (Or.inl rfl))
 (ax (aT (i := 3) eh.nd rfl (Or.inl rfl) (aZ rD rfl n_abs Boot.«abs» (ah (pv 2) aw)))
 (aI (wJ PassesOwn.never (bA ji (pv 3) aA (br _))
 (ax (aT (i := 4) eh.nd rfl (Or.inl rfl) (aS fu (pv 1) (pv 3)))
 (ax (aT (i := 1) eh.nd rfl (Or.inl rfl) (pv 3))
 (aI (aT (i := 3) eh.nd rfl (Or.inl rfl) (pv 4)))))))))
 (aI (bg (pv 1))))),
   (aG (aO (aB 0))
 (aG (d4 (bG (ae 0)) (aK 2)
 (aG (aO (ba xH (ai (ae 2) az)))
 (xf (bS (ar jh (ae 3) (aB 0)))
 (aG (aO (ar gJ (ae 1) (ae 3)))
 (aG (aO (ae 3))
 (aO (ae 4)))))))
 (bh (ae 1))))⟩
theorem gZ : bo ["_law_bag_here", "_law_many", "_law_made", "_law_k", "_law_way", "_law_number_here"] ["_law_bag_here", "_law_many"] (aF jK) := ⟨rfl, rfl, rfl, by decide +kernel, rfl, by decide +kernel, by decide +kernel⟩
theorem Aa {a : Addr} {fd : FuncData} (F : Fun K "_law_fit" "_law_fit" jK a fd) (hm : mg "_law_fit" = some (.ref a)) (hpt : P.given.tree = none) (n_range : mg "range" = none) (gT : bC P w K mg base ca 35 "_law_draw" ["_law_bag_here", "_law_many"] aH) : cy P w K mg base ca 36 "_law_fit" ["_law_bag_here", "_law_many"] jL a fd := by
  obtain ⟨oA, mU, cv, bz, cm, cq⟩ := gT
  refine ⟨bZ F gZ rfl fun cdv A outer s H E hr => ?_, hm, F.kp, F.binds fun _ _ _ _ _ _ us hl => match us, hl with | [_, _], _ => rfl⟩
  have hu := hr.units
  have hdp := cG hr (by decide)
  exact ⟨_, (ax (aT (i := 2) gZ.nd rfl (Or.inl rfl) (iD (ah aA aw)))
 (ax (d0 PassesOwn.never rfl (jA rfl n_range (ah (aS pj (pv 1) aA) aw)) (aQ (i := 3) gZ.nd rfl (Or.inl rfl))
 (ax (aT (i := 4) gZ.nd rfl (Or.inl rfl) (aN cv (hr.mono (by decide)) rfl bz cm cq .nil aW (ah (pv 0) (ah aA aw))))
 (ax (aT (i := 5) gZ.nd rfl (Or.inl rfl) aA)
 (ax (di (bA oj (pv 4) aA (br _))
 (aI (aT (i := 5) gZ.nd rfl (Or.inl rfl) (aS ir (aN cv (hr.mono (by decide)) rfl bz cm cq .nil aW (ah (pv 0) (ah aA aw))) aA)))
 b9)
 (ax (di (bA (iX hu) (pv 4) aA (br _))
 (aI (aT (i := 5) gZ.nd rfl (Or.inl rfl) (aN cv (hr.mono (by decide)) rfl bz cm cq .nil aW (ah (pv 0) (ah (aS kC aA aA) aw)))))
 b9)
 (aI (iN (nV PySem.F.plainAttrs_list PySem.F.slot_list_append PySem.F.type_list_append gO (pv 2) (ah (pv 5) aw)))))))))
 (aI (bg (pv 2))))),
   (aG (aO (lM (ai (aB 1) az)))
 (aG (d4 (lJ (ai (ar pY (ae 1) (aB 1)) az)) (aK 3)
 (aG (aO (cK (n := 2) (f := aH) (ai (ae 0) (ai (aB 8) az))))
 (aG (aO (aB 0))
 (aG (df (bS (ar n5 (ae 4) (aB 4)))
 (aO (ar gk (cK (n := 2) (f := aH) (ai (ae 0) (ai (aB 4) az))) (aB 1)))
 cc)
 (aG (df (bS (ar gw (ae 4) (aB 7)))
 (aO (cK (n := 2) (f := aH) (ai (ae 0) (ai (ar kB (aB 10) (aB 6)) az))))
 cc)
 (iP (mC (ae 2) (ae 5))))))))
 (bh (i6 (ae 2)))))⟩
theorem fU : bo ["_law_cells", "_law_fit_here", "_law_count", "_law_wide", "_law_made", "_law_at", "_law_bag_here", "_law_one"] ["_law_cells", "_law_fit_here", "_law_count", "_law_wide"] (aF gN) := ⟨rfl, rfl, rfl, by decide +kernel, rfl, by decide +kernel, by decide +kernel⟩
theorem vy {a : Addr} {fd : FuncData} (F : Fun K "_law_closed" "_law_closed" gN a fd) (hm : mg "_law_closed" = some (.ref a)) (hpt : P.given.tree = none) (n_range : mg "range" = none) (n_len : mg "len" = none) (n_sum : mg "sum" = none) (pH : bC P w K mg base ca 35 "_law_bag" ["_law_cell_here"] fi) (xl : bC P w K mg base ca 36 "_law_number" ["_law_bag_here", "_law_wide"] dQ) (gT : bC P w K mg base ca 35 "_law_draw" ["_law_bag_here", "_law_many"] aH) : cy P w K mg base ca 37 "_law_closed" ["_law_cells", "_law_fit_here", "_law_count", "_law_wide"] gx a fd := by
  obtain ⟨BU, zU, o9, jI, pR, oY⟩ := pH
  obtain ⟨Gs, Fm, xR, dA, wz, wB⟩ := xl
  obtain ⟨oA, mU, cv, bz, cm, cq⟩ := gT
  refine ⟨bZ F fU rfl fun cdv A outer s H E hr => ?_, hm, F.kp, F.binds fun _ _ _ _ _ _ us hl => match us, hl with | [_, _, _, _], _ => rfl⟩
  have hu := hr.units
  have hdp := cG hr (by decide)
  exact ⟨_, (ax (aT (i := 4) fU.nd rfl (Or.inl rfl) (iD aw))
 (ax (d0 PassesOwn.never rfl (jA rfl n_range (ah (pv 2) aw)) (aQ (i := 5) fU.nd rfl (Or.inl rfl))
 (ax (aT (i := 6) fU.nd rfl (Or.inr rfl) (aN o9 (hr.mono (by decide)) rfl jI pR oY .nil aW (ah (aS ir (bQ bu (pv 0) (aS fu (pv 5) (aZ cJ rfl n_len Boot.«len» (ah (pv 0) aw))) (fun _ _ => rfl)) (aS du aA (aS (jf hdp hpt ⟨_, _, rfl, rfl, rfl, rfl, rfl⟩) (pv 5) (aZ cJ rfl n_len Boot.«len» (ah (pv 0) aw))))) aw)))
 (ax (aT (i := 7) fU.nd rfl (Or.inr rfl) (dw (own := ["_law_k"]) (cap := ["_law_bag_here", "_law_wide"]) (caps := [6, 3]) rfl ⟨rfl, by decide +kernel, by decide +kernel, by decide +kernel, ⟨rfl, Or.inl rfl, rfl, ⟨rfl, Or.inl rfl, rfl, trivial⟩⟩, by decide +kernel⟩ (bH (pv 1)) (fun _ _ _ => (aQ (i := 0) (show ((["_law_k"] : List Str) ++ (["_law_bag_here", "_law_wide"] : List Str)).Nodup from by decide +kernel) rfl (Or.inl rfl))) (fun _ _ _ => cC) (fun _ _ _ => (aN xR (hr.mono (by decide)) rfl dA wz wB .nil aW (ah (pv 1) (ah (pv 2) aw))))))
 (ax (di (PW.pt (pw_and (bA (iX hu) (aN cv (hr.mono (by decide)) rfl bz cm cq .nil aW (ah (pv 6) (ah aA aw))) aA (br _)) (pw_and1 (bA ji (aZ cJ rfl n_len Boot.«len» (ah (pv 4) aw)) aA (br _)))))
 (aI (aT (i := 7) fU.nd rfl (Or.inr rfl) (dw (own := ["_law_number_here"]) (cap := []) (caps := []) rfl ⟨rfl, by decide +kernel, by decide +kernel, by decide +kernel, trivial, by decide +kernel⟩ (bH (bQ bu (pv 4) (Ag xI aA) (fun _ _ => rfl))) (fun _ _ _ => (aQ (i := 0) (show ((["_law_number_here"] : List Str) ++ ([] : List Str)).Nodup from by decide +kernel) rfl (Or.inl rfl))) (fun _ _ _ => cC) (fun _ _ _ => (aS du aA (pv 0))))))
 b9)
 (ax (tL (Ag xI (aZ (uR rfl) rfl n_sum Boot.«sum» (ah (dw (own := ["_law_k"]) (cap := ["_law_fit_here", "_law_one"]) (caps := [1, 7]) rfl ⟨rfl, by decide +kernel, by decide +kernel, by decide +kernel, ⟨rfl, Or.inl rfl, rfl, ⟨rfl, Or.inl rfl, rfl, trivial⟩⟩, by decide +kernel⟩ (Bg rfl n_range (ah aA (ah (aZ cJ rfl n_len Boot.«len» (ah (pv 1) aw)) aw))) (fun _ _ _ => (aQ (i := 0) (show ((["_law_k"] : List Str) ++ (["_law_fit_here", "_law_one"] : List Str)).Nodup from by decide +kernel) rfl (Or.inl rfl))) (fun _ _ _ => cC) (fun _ _ _ => (aS du (bQ bu (pv 2) (pv 0) (fun _ _ => rfl)) (bQ bu (pv 1) (pv 0) (fun _ _ => rfl))))) aw))) (tG (pv 7) aA set_list))
 (aI (iN (nV PySem.F.plainAttrs_list PySem.F.slot_list_append PySem.F.type_list_append gO (pv 4) (ah (pv 7) aw)))))))))
 (aI (bg (pv 4))))),
   (aG (aO (lM az))
 (aG (d4 (lJ (ai (ae 2) az)) (aK 5)
 (aG (aO (fJ (n := 1) (f := fi) (ai (ar gk (ar bP (ae 0) (ar gJ (ae 5) (ba dR (ai (ae 0) az)))) (ar cH (aB 500009) (ar ia (ae 5) (ba dR (ai (ae 0) az))))) az)))
 (aG (aO (n9 (m := 1) (caps := [6, 3]) (bG (ae 1)) (aK 0) cA (cK (n := 2) (f := dQ) (ai (ae 1) (ai (ae 2) az)))))
 (aG (df (xQ (bS (ar gw (cK (n := 2) (f := aH) (ai (ae 6) (ai (aB 7) az))) (aB 6))) (bS (ar jh (ba dR (ai (ae 4) az)) (aB 0))))
 (aO (n9 (m := 1) (caps := []) (bG (ar bP (ae 4) (zH xA (aB 1)))) (aK 0) cA (ar cH (aB 3) (ae 0))))
 cc)
 (aG (ph (zH xA (ba BI (ai (cB (m := 1) (caps := [1, 7]) (Fi (ai (aB 1) (ai (ba dR (ai (ae 1) az)) az))) (aK 0) cA (ar cH (ar bP (ae 2) (ae 0)) (ar bP (ae 1) (ae 0)))) az))) (tm (ae 7) (aB 0)))
 (iP (mC (ae 4) (i6 (ae 7)))))))))
 (bh (i6 (ae 4)))))⟩
theorem vo : bo ["_law_some", "_law_turn"] ["_law_some", "_law_turn"] (aF gL) := ⟨rfl, rfl, rfl, by decide +kernel, rfl, by decide +kernel, by decide +kernel⟩
theorem vB {a : Addr} {fd : FuncData} (F : Fun K "_law_turned" "_law_turned" gL a fd) (hm : mg "_law_turned" = some (.ref a)) (hpt : P.given.tree = none) : cy P w K mg base ca 35 "_law_turned" ["_law_some", "_law_turn"] gM a fd := by
  refine ⟨bZ F vo rfl fun cdv A outer s H E hr => ?_, hm, F.kp, F.binds fun _ _ _ _ _ _ us hl => match us, hl with | [_, _], _ => rfl⟩
  have hu := hr.units
  have hdp := cG hr (by decide)
  exact ⟨_, (aI (bg (dw (own := ["_law_one"]) (cap := ["_law_turn"]) (caps := [1]) rfl ⟨rfl, by decide +kernel, by decide +kernel, by decide +kernel, ⟨rfl, Or.inl rfl, rfl, trivial⟩, by decide +kernel⟩ (bH (pv 0)) (fun _ _ _ => (aQ (i := 0) (show ((["_law_one"] : List Str) ++ (["_law_turn"] : List Str)).Nodup from by decide +kernel) rfl (Or.inl rfl))) (fun _ _ _ => cC) (fun _ _ _ => (aS ir (jt j7 (pv 0) (iW (pv 1)) nk) (jt j7 (pv 0) nk (iW (pv 1)))))))),
   (bh (cB (m := 1) (caps := [1]) (bG (ae 0)) (aK 0) cA (ar gk (nH (ae 0) (iV (ae 1)) kE) (nH (ae 0) kE (iV (ae 1))))))⟩
theorem sP : bo ["_law_found"] ["_law_found"] (aF ft) := ⟨rfl, rfl, rfl, by decide +kernel, rfl, by decide +kernel, by decide +kernel⟩
theorem sV {a : Addr} {fd : FuncData} (F : Fun K "_law_is_share" "_law_is_share" ft a fd) (hm : mg "_law_is_share" = some (.ref a)) (hpt : P.given.tree = none) (n_isinstance : mg "isinstance" = none) (n_tuple : mg "tuple" = none) (n_len : mg "len" = none) (n_list : mg "list" = none) (mQ : bC P w K mg base ca 35 "_law_whole" ["_law_found"] cN) (vF : bC P w K mg base ca 35 "_law_measure" ["_law_numbers"] hE) : cy P w K mg base ca 36 "_law_is_share" ["_law_found"] gD a fd := by
  obtain ⟨yy, xJ, ky, gs, kx, kv⟩ := mQ
  obtain ⟨Fo, Ff, vv, hJ, vx, vA⟩ := vF
  refine ⟨bZ F sP rfl fun cdv A outer s H E hr => ?_, hm, F.kp, F.binds fun _ _ _ _ _ _ us hl => match us, hl with | [_], _ => rfl⟩
  have hu := hr.units
  have hdp := cG hr (by decide)
  exact ⟨_, (ax (di (PW.pt (pw_or (iK (eT (aZ iI rfl n_isinstance Boot.«isinstance» (ah (pv 0) (ah (jC (v := .ty "tuple") rfl n_tuple Boot.«tuple» rfl) aw))))) (pw_or (bA (pS hu) (aZ cJ rfl n_len Boot.«len» (ah (pv 0) aw)) aA (br _)) (pw_or (iK (eT (aN ky (hr.mono (by decide)) rfl gs kx kv .nil aW (ah (bQ bu (pv 0) aA (fun _ _ => rfl)) aw)))) (pw_or1 (iK (eT (aN ky (hr.mono (by decide)) rfl gs kx kv .nil aW (ah (bQ bu (pv 0) aA (fun _ _ => rfl)) aw)))))))))
 (aI (bg nG))
 b9)
 (aI (bg (md (fV ji (bQ bu (pv 0) aA (fun _ _ => rfl)) aA (br _)) (md (fV ji (bQ bu (pv 0) aA (fun _ _ => rfl)) aA (br _)) (pV (fV (iX hu) (aN vv (hr.mono (by decide)) rfl hJ vx vA .nil aW (ah (gb eJ rfl n_list Boot.«list» (ah (pv 0) aw)) aw)) aA (br _)))))))),
   (aG (df (jW (iC (gv (kM ty_tuple (ae 0)))) (jW (bS (ar mE (ba dR (ai (ae 0) az)) (aB 2))) (jW (iC (gv (cx (n := 1) (f := cN) (ai (ar bP (ae 0) (aB 0)) az)))) (iC (gv (cx (n := 1) (f := cN) (ai (ar bP (ae 0) (aB 1)) az)))))))
 (bh (oE false))
 cc)
 (bh (ka (ar jh (ar bP (ae 0) (aB 0)) (aB 0)) (ka (ar jh (ar bP (ae 0) (aB 1)) (aB 0)) (ar gw (cx (n := 1) (f := hE) (ai (ba jw (ai (ae 0) az)) az)) (aB 1))))))⟩
theorem dB : bo ["_law_told", "_law_fit_here", "_law_common", "_law_share", "_law_one", "_law_made", "_law_often"] ["_law_told", "_law_fit_here"] (aF hZ) := ⟨rfl, rfl, rfl, by decide +kernel, rfl, by decide +kernel, by decide +kernel⟩
theorem wx {a : Addr} {fd : FuncData} (F : Fun K "_law_comes" "_law_comes" hZ a fd) (hm : mg "_law_comes" = some (.ref a)) (hpt : P.given.tree = none) (n_zip : mg "zip" = none) : cy P w K mg base ca 35 "_law_comes" ["_law_told", "_law_fit_here"] eG a fd := by
  refine ⟨bZ F dB rfl fun cdv A outer s H E hr => ?_, hm, F.kp, F.binds fun _ _ _ _ _ _ us hl => match us, hl with | [_, _], _ => rfl⟩
  have hu := hr.units
  have hdp := cG hr (by decide)
  exact ⟨_, (ax (aT (i := 2) dB.nd rfl (Or.inr rfl) aA)
 (ax (d0 PassesOwn.never rfl (bH (pv 0)) (gK rfl (bM (aQ (i := 3) dB.nd rfl (Or.inl rfl)) (bM (aQ (i := 4) dB.nd rfl (Or.inl rfl)) fB)))
 (aI (aT (i := 2) dB.nd rfl (Or.inr rfl) (aS du (pv 2) (bQ bu (pv 3) aA (fun _ _ => rfl))))))
 (ax (dE (i := 5) (own := ["_law_number_here"]) (cap := []) (caps := []) rfl ⟨rfl, by decide +kernel, by decide +kernel, by decide +kernel, trivial, by decide +kernel⟩ (bH (pv 1)) (fun _ _ _ => (aQ (i := 0) (show ((["_law_number_here"] : List Str) ++ ([] : List Str)).Nodup from by decide +kernel) rfl (Or.inl rfl))) (fun _ _ _ => cC) (fun _ _ _ => aA) dB.nd rfl (Or.inl rfl) rfl)
 (ax (d0 PassesOwn.never rfl (bH (pv 0)) (gK rfl (bM (aQ (i := 3) dB.nd rfl (Or.inl rfl)) (bM (aQ (i := 4) dB.nd rfl (Or.inl rfl)) fB)))
 (ax (aT (i := 6) dB.nd rfl (Or.inr rfl) (aS du (bQ bu (pv 3) aA (fun _ _ => rfl)) (aS (jf hdp hpt ⟨_, _, rfl, rfl, rfl, rfl, rfl⟩) (pv 2) (bQ bu (pv 3) aA (fun _ _ => rfl)))))
 (aI (dE (i := 5) (own := ["_law_number_here", "_law_here"]) (cap := ["_law_often"]) (caps := [6]) rfl ⟨rfl, by decide +kernel, by decide +kernel, by decide +kernel, ⟨rfl, Or.inl rfl, rfl, trivial⟩, by decide +kernel⟩ (nr rfl n_zip (ah (pv 5) (ah (pv 4) aw))) (fun _ _ _ => (gK rfl (bM (aQ (i := 0) (show ((["_law_number_here", "_law_here"] : List Str) ++ (["_law_often"] : List Str)).Nodup from by decide +kernel) rfl (Or.inl rfl)) (bM (aQ (i := 1) (show ((["_law_number_here", "_law_here"] : List Str) ++ (["_law_often"] : List Str)).Nodup from by decide +kernel) rfl (Or.inl rfl)) fB)))) (fun _ _ _ => cC) (fun _ _ _ => (aS ir (pv 0) (aS du (pv 2) (pv 1)))) dB.nd rfl (Or.inl rfl) rfl))))
 (aI (bg (fV (iX hu) (pv 5) (dw (own := ["_law_number_here"]) (cap := ["_law_common"]) (caps := [2]) rfl ⟨rfl, by decide +kernel, by decide +kernel, by decide +kernel, ⟨rfl, Or.inl rfl, rfl, trivial⟩, by decide +kernel⟩ (bH (pv 1)) (fun _ _ _ => (aQ (i := 0) (show ((["_law_number_here"] : List Str) ++ (["_law_common"] : List Str)).Nodup from by decide +kernel) rfl (Or.inl rfl))) (fun _ _ _ => cC) (fun _ _ _ => (aS du (pv 0) (pv 1)))) (br _)))))))),
   (aG (aO (aB 1))
 (aG (d4 (bG (ae 0)) (fq (bO (aK 3) (bO (aK 4) fA)))
 (aO (ar cH (ae 2) (ar bP (ae 3) (aB 1)))))
 (aG (aO (cB (m := 1) (caps := []) (bG (ae 1)) (aK 0) cA (aB 0)))
 (aG (d4 (bG (ae 0)) (fq (bO (aK 3) (bO (aK 4) fA)))
 (aG (aO (ar cH (ar bP (ae 3) (aB 0)) (ar ia (ae 2) (ar bP (ae 3) (aB 1)))))
 (aO (cB (m := 2) (caps := [6]) (sE (ai (ae 5) (ai (ae 4) az))) (fq (bO (aK 0) (bO (aK 1) fA))) cA (ar gk (ae 0) (ar cH (ae 2) (ae 1)))))))
 (bh (ar gw (ae 5) (cB (m := 1) (caps := [2]) (bG (ae 1)) (aK 0) cA (ar cH (ae 0) (ae 1)))))))))⟩
theorem eH : bo ["_law_some", "_law_fit_here", "_law_known", "_law_one", "_law_handed", "_law_lent", "_law_told", "_law_seen_ones", "_law_pair", "_law_share"] ["_law_some", "_law_fit_here", "_law_known"] (aF hW) := ⟨rfl, rfl, rfl, by decide +kernel, rfl, by decide +kernel, by decide +kernel⟩
theorem wy {a : Addr} {fd : FuncData} (F : Fun K "_law_right" "_law_right" hW a fd) (hm : mg "_law_right" = some (.ref a)) (hpt : P.given.tree = none) (n_list : mg "list" = none) (n_len : mg "len" = none) (n_isinstance : mg "isinstance" = none) (n_tuple : mg "tuple" = none) (n_range : mg "range" = none) (su : bC P w K mg base ca 41 "shares" ["rows", "many", "fit"] ei) (uc : bC P w K mg base ca 36 "_law_is_share" ["_law_found"] gD) (vz : bC P w K mg base ca 36 "_law_is_list" ["_law_found", "_law_many"] hU) (yt : bC P w K mg base ca 35 "_law_comes" ["_law_told", "_law_fit_here"] eG) (pE : bC P w K mg base ca 40 "lone" ["rows", "many"] gd) : cy P w K mg base ca 42 "_law_right" ["_law_some", "_law_fit_here", "_law_known"] jc a fd := by
  obtain ⟨Cu, Bi, nZ, iH, nX, nN⟩ := su
  obtain ⟨Ef, D6, uo, gF, tX, uv⟩ := uc
  obtain ⟨Fl, EX, vC, g9, vq, vE⟩ := vz
  obtain ⟨G2, GY, qU, h8, qY, qT⟩ := yt
  obtain ⟨Bo, zd, o6, jQ, oQ, pW⟩ := pE
  refine ⟨bZ F eH rfl fun cdv A outer s H E hr => ?_, hm, F.kp, F.binds fun _ _ _ _ _ _ us hl => match us, hl with | [_, _, _], _ => rfl⟩
  have hu := hr.units
  have hdp := cG hr (by decide)
  exact ⟨_, (ax (dE (i := 4) (own := ["_law_one"]) (cap := []) (caps := []) rfl ⟨rfl, by decide +kernel, by decide +kernel, by decide +kernel, trivial, by decide +kernel⟩ (bH (pv 0)) (fun _ _ _ => (aQ (i := 0) (show ((["_law_one"] : List Str) ++ ([] : List Str)).Nodup from by decide +kernel) rfl (Or.inl rfl))) (fun _ _ _ => cC) (fun _ _ _ => (gb eJ rfl n_list Boot.«list» (ah (pv 0) aw))) eH.nd rfl (Or.inl rfl) rfl)
 (ax (aT (i := 5) eH.nd rfl (Or.inl rfl) (gb eJ rfl n_list Boot.«list» (ah (pv 1) aw)))
 (ax (aT (i := 6) eH.nd rfl (Or.inl rfl) (aN nZ (hr.mono (by decide)) rfl iH nX nN .nil aW (ah (pv 4) (ah (aZ cJ rfl n_len Boot.«len» (ah (pv 1) aw)) (ah (pv 5) aw)))))
 (ax (di (PW.pt (pw_or (iK (eT (aZ iI rfl n_isinstance Boot.«isinstance» (ah (pv 6) (ah (jC (v := .ty "list") rfl n_list Boot.«list» rfl) aw))))) (pw_or (bA (pS hu) (pv 4) (pv 0) (br _)) (pw_or1 (bA (pS hu) (pv 5) (pv 1) (br _))))))
 (aI (bg nG))
 b9)
 (ax (aT (i := 7) eH.nd rfl (Or.inl rfl) (iD aw))
 (ax (d0 PassesOwn.never rfl (bH (pv 6)) (aQ (i := 8) eH.nd rfl (Or.inr rfl))
 (ax (di (PW.pt (pw_or (iK (eT (aZ iI rfl n_isinstance Boot.«isinstance» (ah (pv 8) (ah (jC (v := .ty "tuple") rfl n_tuple Boot.«tuple» rfl) aw))))) (pw_or (bA (pS hu) (aZ cJ rfl n_len Boot.«len» (ah (pv 8) aw)) aA (br _)) (pw_or (iK (eT (aN uo (hr.mono (by decide)) rfl gF tX uv .nil aW (ah (bQ bu (pv 8) aA (fun _ _ => rfl)) aw)))) (pw_or1 (bA (AH hu) (bQ bu (pv 8) aA (fun _ _ => rfl)) (pv 2) (by with_unfolding_all rfl)))))))
 (aI (bg nG))
 b9)
 (ax (di (PW.pt (pw_or (iK (eT (aN vC (hr.mono (by decide)) rfl g9 vq vE .nil aW (ah (bQ bu (pv 8) aA (fun _ _ => rfl)) (ah (aZ cJ rfl n_len Boot.«len» (ah (pv 1) aw)) aw))))) (pw_or1 (bA (FX hu) (bQ bu (pv 8) aA (fun _ _ => rfl)) (pv 7) (by with_unfolding_all rfl)))))
 (aI (bg nG))
 b9)
 (ax (di (bA ji (aZ cJ rfl n_len Boot.«len» (ah (dw (own := ["_law_at"]) (cap := ["_law_fit_here", "_law_pair"]) (caps := [1, 8]) rfl ⟨rfl, by decide +kernel, by decide +kernel, by decide +kernel, ⟨rfl, Or.inl rfl, rfl, ⟨rfl, Or.inl rfl, rfl, trivial⟩⟩, by decide +kernel⟩ (jA rfl n_range (ah (aZ cJ rfl n_len Boot.«len» (ah (pv 1) aw)) aw)) (fun _ _ _ => (aQ (i := 0) (show ((["_law_at"] : List Str) ++ (["_law_fit_here", "_law_pair"] : List Str)).Nodup from by decide +kernel) rfl (Or.inl rfl))) (fun _ _ _ => (lG (PW.pt (pw_and (bA ji (bQ bu (bQ bu (pv 2) aA (fun _ _ => rfl)) (pv 0) (fun _ _ => rfl)) aA (br _)) (pw_and1 (bA (iX hu) (bQ bu (pv 1) (pv 0) (fun _ _ => rfl)) aA (br _))))))) (fun _ _ _ => (pv 0))) aw)) aA (br _))
 (aI (bg nG))
 b9)
 (aI (iN (nV PySem.F.plainAttrs_list PySem.F.slot_list_append PySem.F.type_list_append gO (pv 7) (ah (gb eJ rfl n_list Boot.«list» (ah (bQ bu (pv 8) aA (fun _ _ => rfl)) aw)) aw))))))))
 (ax (di (PW.pt (pw_or (iK (eT (aN qU (hr.mono (by decide)) rfl h8 qY qT .nil aW (ah (pv 6) (ah (pv 1) aw))))) (pw_or1 (bA ji (aZ cJ rfl n_len Boot.«len» (ah (pv 6) aw)) (aZ cJ rfl n_len Boot.«len» (ah (dw (own := ["_law_number_here"]) (cap := []) (caps := []) rfl ⟨rfl, by decide +kernel, by decide +kernel, by decide +kernel, trivial, by decide +kernel⟩ (bH (pv 1)) (fun _ _ _ => (aQ (i := 0) (show ((["_law_number_here"] : List Str) ++ ([] : List Str)).Nodup from by decide +kernel) rfl (Or.inl rfl))) (fun _ _ _ => (lG (bA ji (pv 0) aA (br _)))) (fun _ _ _ => (pv 0))) aw)) (br _)))))
 (aI (bg nG))
 b9)
 (ax (d0 PassesOwn.never rfl (bH (pv 6)) (gK rfl (bM (aQ (i := 9) eH.nd rfl (Or.inl rfl)) (bM (aQ (i := 3) eH.nd rfl (Or.inl rfl)) fB)))
 (aI (iN (nV PySem.F.plainAttrs_list PySem.F.slot_list_append PySem.F.type_list_append gO (pv 3) (ah aA aw)))))
 (ax (iN (FD PySem.F.plainAttrs_list PySem.F.slot_list_clear PySem.F.type_list_clear Dv (pv 6)))
 (aI (bg (md (aN qU (hr.mono (by decide)) rfl h8 qY qT .nil aW (ah (aN nZ (hr.mono (by decide)) rfl iH nX nN .nil aW (ah (pv 4) (ah (aZ cJ rfl n_len Boot.«len» (ah (pv 1) aw)) (ah (pv 5) aw)))) (ah (pv 1) aw))) (pV (fV (iX hu) (aN o6 (hr.mono (by decide)) rfl jQ oQ pW .nil aW (ah (pv 4) (ah (aZ cJ rfl n_len Boot.«len» (ah (pv 1) aw)) aw))) (pv 2) (br _))))))))))))))),
   (aG (aO (cB (m := 1) (caps := []) (bG (ae 0)) (aK 0) cA (ba jw (ai (ae 0) az))))
 (aG (aO (ba jw (ai (ae 1) az)))
 (aG (aO (fJ (n := 3) (f := ei) (ai (ae 4) (ai (ba dR (ai (ae 1) az)) (ai (ae 5) az)))))
 (aG (df (jW (iC (gv (kM ty_list (ae 6)))) (jW (bS (ar mE (ae 4) (ae 0))) (bS (ar mE (ae 5) (ae 1)))))
 (bh (oE false))
 cc)
 (aG (aO (lM az))
 (aG (d4 (bG (ae 6)) (aK 8)
 (aG (df (jW (iC (gv (kM ty_tuple (ae 8)))) (jW (bS (ar mE (ba dR (ai (ae 8) az)) (aB 2))) (jW (iC (gv (cx (n := 1) (f := gD) (ai (ar bP (ae 8) (aB 0)) az)))) (bS (ar BY (ar bP (ae 8) (aB 1)) (ae 2))))))
 (bh (oE false))
 cc)
 (aG (df (jW (iC (gv (gr (n := 2) (f := hU) (ai (ar bP (ae 8) (aB 1)) (ai (ba dR (ai (ae 1) az)) az))))) (bS (ar Gn (ar bP (ae 8) (aB 1)) (ae 7))))
 (bh (oE false))
 cc)
 (aG (df (bS (ar jh (ba dR (ai (cB (m := 1) (caps := [1, 8]) (lJ (ai (ba dR (ai (ae 1) az)) az)) (aK 0) (xQ (bS (ar jh (ar bP (ar bP (ae 2) (aB 1)) (ae 0)) (aB 0))) (bS (ar gw (ar bP (ae 1) (ae 0)) (aB 0)))) (ae 0)) az)) (aB 0)))
 (bh (oE false))
 cc)
 (iP (mC (ae 7) (ba jw (ai (ar bP (ae 8) (aB 1)) az))))))))
 (aG (df (jW (iC (gv (gr (n := 2) (f := eG) (ai (ae 6) (ai (ae 1) az))))) (bS (ar jh (ba dR (ai (ae 6) az)) (ba dR (ai (cB (m := 1) (caps := []) (bG (ae 1)) (aK 0) (bS (ar jh (ae 0) (aB 0))) (ae 0)) az)))))
 (bh (oE false))
 cc)
 (aG (d4 (bG (ae 6)) (fq (bO (aK 9) (bO (aK 3) fA)))
 (iP (mC (ae 3) (aB 1))))
 (aG (iP (C4 (ae 6)))
 (bh (ka (gr (n := 2) (f := eG) (ai (i6 (fJ (n := 3) (f := ei) (ai (ae 4) (ai (ba dR (ai (ae 1) az)) (ai (ae 5) az))))) (ai (ae 1) az))) (ar gw (i6 (fJ (n := 2) (f := gd) (ai (ae 4) (ai (ba dR (ai (ae 1) az)) az)))) (ae 2)))))))))))))⟩
theorem dS : bo ["_law_script", "_law_many", "_law_cells", "_law_bag_here", "_law_fit_here", "_law_some", "_law_turn", "_law_one", "_law_known", "_law_fits", "_law_share", "_law_made", "_law_often"] ["_law_script"] (aF lF) := ⟨rfl, rfl, rfl, by decide +kernel, rfl, by decide +kernel, by decide +kernel⟩
theorem GA {a : Addr} {fd : FuncData} (F : Fun K "law" "law" lF a fd) (hm : mg "law" = some (.ref a)) (hpt : P.given.tree = none) (n_len : mg "len" = none) (n_int : mg "int" = none) (n_list : mg "list" = none) (n_range : mg "range" = none) (n_zip : mg "zip" = none) (zN : bC P w K mg base ca 35 "_law_cell" ["_law_script", "_law_k"] bL) (pH : bC P w K mg base ca 35 "_law_bag" ["_law_cell_here"] fi) (B5 : bC P w K mg base ca 36 "_law_fit" ["_law_bag_here", "_law_many"] jL) (xn : bC P w K mg base ca 37 "_law_closed" ["_law_cells", "_law_fit_here", "_law_count", "_law_wide"] gx) (gT : bC P w K mg base ca 35 "_law_draw" ["_law_bag_here", "_law_many"] aH) (wG : bC P w K mg base ca 35 "_law_turned" ["_law_some", "_law_turn"] gM) (pE : bC P w K mg base ca 40 "lone" ["rows", "many"] gd) (yf : bC P w K mg base ca 42 "_law_right" ["_law_some", "_law_fit_here", "_law_known"] jc) (su : bC P w K mg base ca 41 "shares" ["rows", "many", "fit"] ei) : cy P w K mg base ca 43 "law" ["_law_script"] vP a fd := by
  obtain ⟨G8, GZ, kT, gg, kW, lr⟩ := zN
  obtain ⟨BU, zU, o9, jI, pR, oY⟩ := pH
  obtain ⟨HC, Hk, B9, kA, Br, AS⟩ := B5
  obtain ⟨Fz, Fj, v8, iG, v9, w8⟩ := xn
  obtain ⟨oA, mU, cv, bz, cm, cq⟩ := gT
  obtain ⟨FI, Fn, xb, iF, vX, wQ⟩ := wG
  obtain ⟨Bo, zd, o6, jQ, oQ, pW⟩ := pE
  obtain ⟨G4, FO, yq, i9, ym, yk⟩ := yf
  obtain ⟨Cu, Bi, nZ, iH, nX, nN⟩ := su
  refine ⟨bZ F dS rfl fun cdv A outer s H E hr => ?_, hm, F.kp, F.binds fun _ _ _ _ _ _ us hl => match us, hl with | [_], _ => rfl⟩
  have hu := hr.units
  have hdp := cG hr (by decide)
  exact ⟨_, (ax (aT (i := 1) dS.nd rfl (Or.inl rfl) (aS ir aA (aS fu (aN kT (hr.mono (by decide)) rfl gg kW lr .nil aW (ah (pv 0) (ah aA aw))) aA)))
 (ax (aT (i := 2) dS.nd rfl (Or.inl rfl) (aS ir (iD (ah (aN kT (hr.mono (by decide)) rfl gg kW lr .nil aW (ah (pv 0) (ah aA aw))) aw)) (jt j7 (pv 0) (iW aA) (iW aA))))
 (ax (aT (i := 3) dS.nd rfl (Or.inl rfl) (aN o9 (hr.mono (by decide)) rfl jI pR oY .nil aW (ah (aN kT (hr.mono (by decide)) rfl gg kW lr .nil aW (ah (pv 0) (ah aA aw))) aw)))
 (ax (aT (i := 4) dS.nd rfl (Or.inl rfl) (aN B9 (hr.mono (by decide)) rfl kA Br AS .nil aW (ah (pv 3) (ah (pv 1) aw))))
 (ax (aT (i := 5) dS.nd rfl (Or.inl rfl) (aN v8 (hr.mono (by decide)) rfl iG v9 w8 .nil aW (ah (pv 2) (ah (pv 4) (ah (aZ cJ rfl n_len Boot.«len» (ah (jt j7 (pv 0) (iW aA) (iW aA)) aw)) (ah (bQ bu (iD (ah aA (ah (aS kC aA aA) aw))) (aS du (gb BC rfl n_int Boot.«int» (ah (fV oj (pv 1) aA (br _)) aw)) (aN cv (hr.mono (by decide)) rfl bz cm cq .nil aW (ah (pv 3) (ah aA aw)))) (fun _ _ => rfl)) aw))))))
 (ax (aT (i := 6) dS.nd rfl (Or.inl rfl) (aN cv (hr.mono (by decide)) rfl bz cm cq .nil aW (ah (pv 3) (ah (pv 1) aw))))
 (ax (aT (i := 5) dS.nd rfl (Or.inl rfl) (aN xb (hr.mono (by decide)) rfl iF vX wQ .nil aW (ah (pv 5) (ah (pv 6) aw))))
 (ax (aT (i := 4) dS.nd rfl (Or.inl rfl) (aS ir (jt j7 (pv 4) (iW (pv 6)) nk) (jt j7 (pv 4) nk (iW (pv 6)))))
 (ax (aT (i := 8) dS.nd rfl (Or.inl rfl) (aN o6 (hr.mono (by decide)) rfl jQ oQ pW .nil aW (ah (dw (own := ["_law_one"]) (cap := []) (caps := []) rfl ⟨rfl, by decide +kernel, by decide +kernel, by decide +kernel, trivial, by decide +kernel⟩ (bH (pv 5)) (fun _ _ _ => (aQ (i := 0) (show ((["_law_one"] : List Str) ++ ([] : List Str)).Nodup from by decide +kernel) rfl (Or.inl rfl))) (fun _ _ _ => cC) (fun _ _ _ => (gb eJ rfl n_list Boot.«list» (ah (pv 0) aw)))) (ah (pv 1) aw))))
 (ax (aT (i := 9) dS.nd rfl (Or.inl rfl) (iD (ah (pv 4) (ah (dw (own := ["_law_number_here"]) (cap := ["_law_script"]) (caps := [0]) rfl ⟨rfl, by decide +kernel, by decide +kernel, by decide +kernel, ⟨rfl, Or.inl rfl, rfl, trivial⟩, by decide +kernel⟩ (bH (pv 4)) (fun _ _ _ => (aQ (i := 0) (show ((["_law_number_here"] : List Str) ++ (["_law_script"] : List Str)).Nodup from by decide +kernel) rfl (Or.inl rfl))) (fun _ _ _ => cC) (fun _ _ _ => (aS du (pv 0) (aS ir aA (aS fu (aN kT (hr.mono (by decide)) rfl gg kW lr .nil aW (ah (pv 1) (ah aA aw))) (aS kC aA aA)))))) aw))))
 (ax (d0 PassesOwn.never rfl (jA rfl n_range (ah aA aw)) (aQ (i := 6) dS.nd rfl (Or.inl rfl))
 (ax (aT (i := 10) dS.nd rfl (Or.inr rfl) (aN cv (hr.mono (by decide)) rfl bz cm cq .nil aW (ah (pv 3) (ah aA aw))))
 (ax (dE (i := 11) (own := ["_law_number_here"]) (cap := ["_law_share"]) (caps := [10]) rfl ⟨rfl, by decide +kernel, by decide +kernel, by decide +kernel, ⟨rfl, Or.inl rfl, rfl, trivial⟩, by decide +kernel⟩ (bH (pv 4)) (fun _ _ _ => (aQ (i := 0) (show ((["_law_number_here"] : List Str) ++ (["_law_share"] : List Str)).Nodup from by decide +kernel) rfl (Or.inl rfl))) (fun _ _ _ => cC) (fun _ _ _ => (aS du (pv 0) (pv 1))) dS.nd rfl (Or.inl rfl) rfl)
 (ax (d0 PassesOwn.never rfl (bH (pv 8)) (aQ (i := 7) dS.nd rfl (Or.inl rfl))
 (ax (aT (i := 12) dS.nd rfl (Or.inr rfl) (aN cv (hr.mono (by decide)) rfl bz cm cq .nil aW (ah (pv 3) (ah aA aw))))
 (ax (di (bA (iX hu) (aN cv (hr.mono (by decide)) rfl bz cm cq .nil aW (ah (pv 3) (ah aA aw))) aA (br _))
 (aI (aT (i := 12) dS.nd rfl (Or.inr rfl) (aS du (aN cv (hr.mono (by decide)) rfl bz cm cq .nil aW (ah (pv 3) (ah (aS kC aA aA) aw))) (aS kC aA aA))))
 b9)
 (aI (dE (i := 11) (own := ["_law_number_here", "_law_here"]) (cap := ["_law_often"]) (caps := [12]) rfl ⟨rfl, by decide +kernel, by decide +kernel, by decide +kernel, ⟨rfl, Or.inl rfl, rfl, trivial⟩, by decide +kernel⟩ (nr rfl n_zip (ah (pv 11) (ah (pv 7) aw))) (fun _ _ _ => (gK rfl (bM (aQ (i := 0) (show ((["_law_number_here", "_law_here"] : List Str) ++ (["_law_often"] : List Str)).Nodup from by decide +kernel) rfl (Or.inl rfl)) (bM (aQ (i := 1) (show ((["_law_number_here", "_law_here"] : List Str) ++ (["_law_often"] : List Str)).Nodup from by decide +kernel) rfl (Or.inl rfl)) fB)))) (fun _ _ _ => cC) (fun _ _ _ => (aS ir (pv 0) (aS du (pv 2) (pv 1)))) dS.nd rfl (Or.inl rfl) rfl)))))
 (aI (iN (nV PySem.F.plainAttrs_list PySem.F.slot_list_append PySem.F.type_list_append gO (pv 9) (ah (pv 11) aw))))))))
 (ax (d0 PassesOwn.never rfl (bH (pv 9)) (aQ (i := 7) dS.nd rfl (Or.inl rfl))
 (aI (di (iK (eT (aN yq (hr.mono (by decide)) rfl i9 ym yk .nil aW (ah (pv 5) (ah (pv 7) (ah (pv 8) aw))))))
 (aI (bg nG))
 b9)))
 (aI (bg (fV (iX hu) (aN nZ (hr.mono (by decide)) rfl iH nX nN .nil aW (ah (dw (own := ["_law_one"]) (cap := []) (caps := []) rfl ⟨rfl, by decide +kernel, by decide +kernel, by decide +kernel, trivial, by decide +kernel⟩ (bH (pv 5)) (fun _ _ _ => (aQ (i := 0) (show ((["_law_one"] : List Str) ++ ([] : List Str)).Nodup from by decide +kernel) rfl (Or.inl rfl))) (fun _ _ _ => cC) (fun _ _ _ => (gb eJ rfl n_list Boot.«list» (ah (pv 0) aw)))) (ah (pv 1) (ah (dw (own := ["_law_k"]) (cap := []) (caps := []) rfl ⟨rfl, by decide +kernel, by decide +kernel, by decide +kernel, trivial, by decide +kernel⟩ (jA rfl n_range (ah (pv 1) aw)) (fun _ _ _ => (aQ (i := 0) (show ((["_law_k"] : List Str) ++ ([] : List Str)).Nodup from by decide +kernel) rfl (Or.inl rfl))) (fun _ _ _ => cC) (fun _ _ _ => aA)) aw)))) (iD aw) (br _)))))))))))))))),
   (aG (aO (ar gk (aB 1) (ar gJ (cx (n := 2) (f := bL) (ai (ae 0) (ai (aB 0) az))) (aB 6))))
 (aG (aO (ar gk (sD (ai (cx (n := 2) (f := bL) (ai (ae 0) (ai (aB 1) az))) az)) (nH (ae 0) (iV (aB 3)) (iV (aB 8)))))
 (aG (aO (fJ (n := 1) (f := fi) (ai (cx (n := 2) (f := bL) (ai (ae 0) (ai (aB 2) az))) az)))
 (aG (aO (cK (n := 2) (f := jL) (ai (ae 3) (ai (ae 1) az))))
 (aG (aO (cx (n := 4) (f := gx) (ai (ae 2) (ai (ae 4) (ai (ba dR (ai (nH (ae 0) (iV (aB 3)) (iV (aB 8))) az)) (ai (ar bP (sD (ai (aB 4) (ai (ar kB (aB 10) (aB 9)) az))) (ar cH (ba Cv (ai (ar n5 (ae 1) (aB 5)) az)) (cK (n := 2) (f := aH) (ai (ae 3) (ai (aB 2) az))))) az))))))
 (aG (aO (cK (n := 2) (f := aH) (ai (ae 3) (ai (ae 1) az))))
 (aG (aO (cx (n := 2) (f := gM) (ai (ae 5) (ai (ae 6) az))))
 (aG (aO (ar gk (nH (ae 4) (iV (ae 6)) kE) (nH (ae 4) kE (iV (ae 6)))))
 (aG (aO (i6 (fJ (n := 2) (f := gd) (ai (cB (m := 1) (caps := []) (bG (ae 5)) (aK 0) cA (ba jw (ai (ae 0) az))) (ai (ae 1) az)))))
 (aG (aO (lM (ai (ae 4) (ai (cB (m := 1) (caps := [0]) (bG (ae 4)) (aK 0) cA (ar cH (ae 0) (ar gk (aB 1) (ar gJ (cx (n := 2) (f := bL) (ai (ae 1) (ai (aB 1) az))) (ar kB (aB 10) (aB 20)))))) az))))
 (aG (d4 (lJ (ai (aB 2) az)) (aK 6)
 (aG (aO (cK (n := 2) (f := aH) (ai (ae 3) (ai (aB 3) az))))
 (aG (aO (cB (m := 1) (caps := [10]) (bG (ae 4)) (aK 0) cA (ar cH (ae 0) (ae 1))))
 (aG (d4 (bG (ae 8)) (aK 7)
 (aG (aO (cK (n := 2) (f := aH) (ai (ae 3) (ai (aB 4) az))))
 (aG (df (bS (ar gw (cK (n := 2) (f := aH) (ai (ae 3) (ai (aB 9) az))) (aB 8)))
 (aO (ar cH (cK (n := 2) (f := aH) (ai (ae 3) (ai (ar kB (aB 10) (aB 6)) az))) (ar kB (aB 10) (aB 6))))
 cc)
 (aO (vg (m := 2) (caps := [12]) (ze (ai (ae 11) (ai (ae 7) az))) (fq (bO (aK 0) (bO (aK 1) fA))) cA (ar gk (ae 0) (ar cH (ae 2) (ae 1))))))))
 (iP (mC (ae 9) (ae 11)))))))
 (aG (d4 (bG (ae 9)) (aK 7)
 (df (iC (gv (gr (n := 3) (f := jc) (ai (ae 5) (ai (ae 7) (ai (ae 8) az))))))
 (bh (oE false))
 cc))
 (bh (ar gw (i6 (fJ (n := 3) (f := ei) (ai (cB (m := 1) (caps := []) (bG (ae 5)) (aK 0) cA (ba jw (ai (ae 0) az))) (ai (ae 1) (ai (cB (m := 1) (caps := []) (lJ (ai (ae 1) az)) (aK 0) cA (aB 0)) az))))) (sD az)))))))))))))))⟩
end
end Lk18
set_option maxRecDepth 100000
set_option maxHeartbeats 4000000
namespace Lk18
open PySem PySem.Spec PyProof.Rows L2 M
theorem mot (a b : Int) : da [.int a, .int b] [] = .ok (.int (Int.gcd a b : Nat), []) := Bf a b
theorem zS (ns : List Int) : jB [vI ns] [] = .ok (.int (bV ns : Nat), []) := by
  obtain ⟨s', e, c, x, h1, h2⟩ := jG (ok := okC (ns.map D.int) none) (g := aE 2) (body := kg)
    (fun pre s => ∃ (ms : List Int) (x : Option D), pre = ms.map D.int ∧ s = ⟨[some (vI ns), some (.int (ms.foldl (fun c n => Nat.gcd c n.natAbs) 0 : Nat)), x], []⟩) (fun _ _ _ => trivial) (ns.map D.int) [] (by
      rintro pre d rest e s ⟨ms, x, rfl, rfl⟩
      have hd : d ∈ ns.map D.int := by rw [List.nil_append] at e; rw [e]; simp
      obtain ⟨m, _, rfl⟩ := List.mem_map.mp hd
      refine ⟨_, _, rfl, .inl ?_, ms ++ [m], some (.int m), by simp, rfl⟩
      simp [kg, mot, Int.gcd]) ⟨[some (vI ns), some (.int 0), none], []⟩ ⟨[], none, rfl, rfl⟩
  rw [List.nil_append] at h1
  have hc : c = ns := (List.map_inj_right (fun a b h => by cases h; rfl)).mp h1.symm
  subst hc
  have hf := dv (im := listI (aa 0)) (g := aE 2) (body := kg) (s := ⟨[some (vI c), some (.int 0), none], []⟩) (ds := c.map D.int) (k := none) (s1 := ⟨[some (vI c), some (.int 0), none], []⟩) (by simp)
  rw [e] at hf
  have q := cO (n := 3) (m := jE) (ds := [vI c]) (O := []) (d := .int (bV c : Nat)) (s := s') (by
    show jE ⟨[some (vI c), none, none], []⟩ = _
    rw [jE, qj]
    rw [show setM 1 (ao (.int 0)) ⟨[some (vI c), none, none], []⟩ = .next ⟨[some (vI c), some (.int 0), none], []⟩ by simp]
    rw [uO, qj, hf, uO, h2]
    simp [bV])
  rw [h2] at q
  exact q
theorem AE {a b : List Int} (hl : a.length ≤ 1000000) (hm : ∀ p ∈ a.zip b, IntMulOk p.1 p.2) : bU [vI a, vI b] [] = .ok (.int (aD a b), []) := by
  have hz : (a.zip b).length ≤ 1000000 := by rw [List.length_zip]; omega
  have hc := wo (l := a.zip b) (f := fun p => .int p.1) (g := fun p => .int p.2) (out := fun p => .int (p.1 * p.2)) (caps := []) (im := mM (af (aa 0) (af (aa 1) aq))) (e := aj bB (aa 0) (aa 1)) (k := none) (s := ⟨[some (vI a), some (vI b)], []⟩) (by simp [kK]) trivial (by omega) (fun p hp => by
    simp [bJ (hm p hp)])
  rw [show (a.zip b).map (fun p => D.int (p.1 * p.2)) = (List.zipWith (· * ·) a b).map D.int by rw [← Ee]; simp] at hc
  refine cO (s := ⟨[some (vI a), some (vI b)], []⟩) ?_
  show dk ⟨[some (vI a), some (vI b)], []⟩ = _
  rw [dk]
  refine b8 ?_
  rw [uq, gq, hc, ak, aC, ak, ak]
  dsimp only
  rw [uC, ak]
  rfl
theorem uK (ns : List Int) (hl : ns.length ≤ 1000000) : gW [vI ns] [] = .ok (.ptr 0, [.lst ((low ns).map D.int)]) := by
  have e1 : setM 1 (bF 1 jB (af (aa 0) aq)) ⟨[some (vI ns), none], []⟩ = .next ⟨[some (vI ns), some (.int (bV ns : Nat))], []⟩ := aX (sr (av (ag rfl) (aC _)) (za _) rfl (zS ns) (by simp)) rfl
  by_cases h : bV ns = 0
  · refine fe (R := [some (vI ns), some (.int (bV ns : Nat))]) ?_
    show gY ⟨[some (vI ns), none], []⟩ = _
    rw [gY]
    refine aP e1 (nR (lC (eq_test (ag rfl)) (decide_eq_true (by omega)) (b8 (Ec (ag rfl) (BF _ _) rfl ?_))))
    rw [show low ns = ns by unfold low; rw [if_pos h]]
    rfl
  · have hc := A5 (l := ns) (item := D.int) (out := fun n => .int (n / (bV ns : Int))) (caps := [1]) (im := listI (aa 0)) (e := aj gj (aa 0) (aa 1)) (k := none) (s := ⟨[some (vI ns), some (.int (bV ns : Nat))], []⟩) (by simp) trivial (by omega) (fun a _ => by
      simp [iB (show (bV ns : Int) ≠ 0 by omega), mm (show (0 : Int) < bV ns by omega)])
    refine fe (R := [some (vI ns), some (.int (bV ns : Nat))]) ?_
    show gY ⟨[some (vI ns), none], []⟩ = _
    rw [gY]
    refine aP e1 (aP (dM (eq_test (ag rfl)) (decide_eq_false (by omega)) (bX _)) (b8 (hc.trans ?_)))
    rw [show (low ns).map D.int = ns.map fun n => .int (n / (bV ns : Int)) by unfold low; rw [if_neg h, List.map_map]; rfl]
    rfl
theorem Bb {one other : List Int} {v w : Int} (hl : one.length ≤ 1000000) (h1 : ∀ a ∈ one, IntMulOk a w) (h2 : ∀ b ∈ other, IntMulOk b v) : j4 [vI one, .int v, vI other, .int w] [] = .ok (.ptr 0, [.lst ((cU one v other w).map D.int)]) := by
  have hz : (one.zip other).length ≤ 1000000 := by rw [List.length_zip]; omega
  have hc := wo (l := one.zip other) (f := fun p => .int p.1) (g := fun p => .int p.2) (out := fun p => .int (p.1 * w - p.2 * v)) (caps := [1, 3]) (im := mM (af (aa 0) (af (aa 2) aq))) (e := aj mD (aj bB (aa 0) (aa 3)) (aj bB (aa 1) (aa 2))) (k := none) (s := ⟨[some (vI one), some (.int v), some (vI other), some (.int w), none], []⟩) (by simp [kK]) trivial (by omega) (fun p hp => by
    have hp' := List.of_mem_zip hp
    simp [bJ (h1 p.1 hp'.1), bJ (h2 p.2 hp'.2)])
  rw [show (one.zip other).map (fun p => D.int (p.1 * w - p.2 * v)) = (jo one v other w).map D.int by rw [jo, ← zip_map]; simp] at hc
  have hll : (jo one v other w).length ≤ 1000000 := by unfold jo; rw [List.length_zipWith]; omega
  refine fe (R := [some (vI one), some (.int v), some (vI other), some (.int w), some (vI (jo one v other w))]) ?_
  show lX ⟨[some (vI one), some (.int v), some (vI other), some (.int w), none], []⟩ = _
  rw [lX]
  exact aP (mY hc) (b8 (gz (av (ag rfl) (aC _)) (uK _ hll) (za _) rfl (fC _ _) (by
    simp only [List.map_cons, List.map_nil, List.nil_append, uk, vm]
    rfl)))
theorem B3 {O : au} (a b : Nat) : orD O (.int (a : Int)) (.int (b : Int)) = .ok (.int ((a ||| b : Nat) : Int)) := by
  have e : Builtin.bitOr (a : Int) (b : Int) = ((a ||| b : Nat) : Int) := by
    unfold Builtin.bitOr Builtin.bitAnd Builtin.bitNot
    rw [decide_eq_false (show ¬ (0 : Int) ≤ -(a : Int) - 1 by omega), decide_eq_false (show ¬ (0 : Int) ≤ -(b : Int) - 1 by omega)]
    dsimp only
    rw [show (-(-(a : Int) - 1) - 1).toNat = a by omega, show (-(-(b : Int) - 1) - 1).toNat = b by omega]
    omega
  show Res.ok (D.int (Builtin.bitOr (a : Int) (b : Int))) = _
  rw [e]
theorem xP (a b : Nat) : eF [.int (a : Int), .int (b : Int)] [] = .ok (.bl (decide (a ||| b = b)), []) := by
  refine fe (R := [some (.int (a : Int)), some (.int (b : Int))]) ?_
  show gU ⟨[some (.int (a : Int)), some (.int (b : Int))], []⟩ = _
  rw [gU]
  refine b8 (aJ (aJ (ag rfl) (ag rfl) (B3 a b)) (ag rfl) ?_)
  rw [nB]
  congr 3
  rw [eq_iff_iff]
  omega
abbrev vN (l : List Nat) : D := .lst (l.map fun x : Nat => D.int (x : Int))
theorem Em (l : List Nat) : bf (l.map fun x : Nat => D.int (x : Int)) = true := by
  induction l with
  | nil => simp
  | cons a l ih => simp [ih]
theorem CB {a b : Nat} {pl : List Nat} (hl : pl.length ≤ 1000) : ee [.int (a : Int), .int (b : Int), vN pl] [] = .ok (.bl ((pl.filter fun x => decide (x ||| (a ||| b) = a ||| b)).length == 2), []) := by
  have hc := tR (l := pl) (item := fun x : Nat => D.int (x : Int)) (out := fun x : Nat => D.int (x : Int)) (p := fun x => decide (x ||| (a ||| b) = a ||| b)) (caps := [3]) (im := listI (aa 2)) (c := aU (bF 2 eF (af (aa 0) (af (aa 1) aq)))) (e := aa 0) (k := none) (s := ⟨[some (.int (a : Int)), some (.int (b : Int)), some (vN pl), some (.int ((a ||| b : Nat) : Int))], []⟩) (by
    rw [bW, ag (i := 2) rfl, ak]; rfl) trivial (by omega) (fun x _ => cM (eP (av (ag rfl) (av (ag rfl) (aC _))) (xP x (a ||| b)) (by simp) rfl (by simp))) (fun x _ _ => ag rfl)
  refine fe (R := [some (.int (a : Int)), some (.int (b : Int)), some (vN pl), some (.int ((a ||| b : Nat) : Int))]) ?_
  show fK ⟨[some (.int (a : Int)), some (.int (b : Int)), some (vN pl), none], []⟩ = _
  rw [fK]
  refine aP (aX (aJ (ag rfl) (ag rfl) (B3 a b)) rfl) (b8 (aJ (dN (av hc (aC _)) (gS _)) (aL _ _) ?_))
  rw [nB, List.length_map]
  congr 2
  rw [Bool.eq_iff_iff, decide_eq_true_eq, beq_iff_eq]
  omega
theorem pA {x : List Int} : cz [vI x] [] = .ok (.int (cg x : Nat), []) := by
  have go : ∀ (l : List Int) (b : Nat) (z : Option D), ∃ z', bt (okC (x.map D.int) none) (aE 2) kP (l.map D.int) ⟨[some (vI x), some (.int (b : Int)), z], []⟩ = .next ⟨[some (vI x), some (.int ((l.foldl (fun b y => b * 2 + if 0 < y then 1 else 0) b : Nat) : Int)), z'], []⟩ := by
    intro l
    induction l with
    | nil => intro b z; exact ⟨z, by rw [List.map_nil, bt, if_pos (show okC (x.map D.int) none _ from trivial)]; rfl⟩
    | cons y l ih =>
      intro b z
      obtain ⟨z', e⟩ := ih (b * 2 + if 0 < y then 1 else 0) (some (.int y))
      refine ⟨z', ?_⟩
      rw [List.map_cons, List.foldl_cons]
      refine Eq.trans (cR (s1 := ⟨[some (vI x), some (.int (b : Int)), some (.int y)], []⟩) (s2 := ⟨[some (vI x), some (.int ((b * 2 + if 0 < y then 1 else 0 : Nat) : Int)), some (.int y)], []⟩) trivial rfl ?_) e
      rw [kP]
      refine aP (aX (R' := [some (vI x), some (.int ((b : Int) * 2)), some (.int y)]) (aJ (ag rfl) (aL _ _) (bJ (dY (.inr (by decide))))) rfl) ?_
      by_cases hy : 0 < y
      · refine lC (jM (ag rfl)) (decide_eq_true hy) (aX (d := .int ((b * 2 + if 0 < y then 1 else 0 : Nat) : Int)) (R := [some (vI x), some (.int ((b : Int) * 2)), some (.int y)]) (aJ (ag rfl) (aL _ _) ?_) rfl)
        rw [jm, if_pos hy]
        congr 2
      · refine dM (jM (ag rfl)) (decide_eq_false hy) ((bX _).trans ?_)
        rw [if_neg hy, show ((b * 2 + 0 : Nat) : Int) = (b : Int) * 2 by omega]
  obtain ⟨z', e⟩ := go x 0 none
  refine fe (R := [some (vI x), some (.int (cg x : Nat)), z']) ?_
  show fj ⟨[some (vI x), none, none], []⟩ = _
  rw [fj]
  refine aP (aX (R' := [some (vI x), some (.int ((0 : Nat) : Int)), none]) (aL _ _) rfl) (aP ?_ (b8 (ag rfl)))
  exact (dv (im := listI (aa 0)) (ds := x.map D.int) (k := none) (s1 := ⟨[some (vI x), some (.int ((0 : Nat) : Int)), none], []⟩) (by rw [bW, ag (i := 0) rfl, ak]; rfl)).trans e
theorem qk {α : Type} {O : au} {f : α → D} {l : List α} {i : Nat} {a : α} (h : l[i]? = some a) : ixD O (.lst (l.map f)) (.int (i : Int)) = .ok (f a) := by
  have hi : i < l.length := by
    by_cases z : i < l.length
    · exact z
    · rw [List.getElem?_eq_none (by omega)] at h; cases h
  refine qy ?_
  rw [r8 (by simpa using hi)]
  rw [List.getElem?_eq_getElem hi] at h
  cases h
  simp
structure Wrk (n : Nat) (L : List (Nat × List Int)) (row : List Int) (b : Nat) : Prop where
  len : ∀ p ∈ L, p.2.length = n
  nn : ∀ p ∈ L, ∀ i, 0 ≤ nth p.2 i
  few : L.length < 64
  rl : row.length = n
  n7 : n ≤ 1000
  sz : fO b (L.map (·.2))
  rz : SzL b row
  bb : 2 * b + 20 ≤ 60000000
theorem Wrk.dz {n : Nat} {L : List (Nat × List Int)} {row : List Int} {b : Nat} (h : Wrk n L row b) {p : Nat × List Int} (hp : p ∈ L) : Sz (b + b + 10) (aD row p.2) := pK h.rz (h.sz _ (List.mem_map_of_mem hp)) (by rw [h.rl]; exact h.n7)
theorem Hn {n : Nat} {L : List (Nat × List Int)} {row : List Int} {b : Nat} (h : Wrk n L row b) {p q : Nat × List Int} (hp : p ∈ L) (hq : q ∈ L) : (((L.map fun x => cg x.2).filter fun x => decide (x ||| (cg p.2 ||| cg q.2) = cg p.2 ||| cg q.2)).length == 2) = nbB n (L.map (·.2)) p.2 q.2 := by
  unfold nbB
  rw [List.filter_map, List.length_map, List.filter_map, List.length_map]
  congr 2
  refine List.filter_congr fun x hx => ?_
  show decide (cg x.2 ||| (cg p.2 ||| cg q.2) = cg p.2 ||| cg q.2) = subB n x.2 p.2 q.2
  exact bits_sub (h.len x hx) (h.len p hp) (h.len q hq) (h.nn x hx) (h.nn p hp) (h.nn q hq)
structure Iv (L T : List (Nat × List Int)) (t : Nat) (O : au) : Prop where
  told : O[t]? = some (.lst (bD T))
  l : Sto O L
  s : Sto O T
  tn : ∀ p ∈ T, p.1 ≠ t
  ln : ∀ p ∈ L, p.1 ≠ t
abbrev mR (L : List (Nat × List Int)) (row : List Int) (t : Nat) (ab bl : List Nat) (x7 x8 : Option D) : List (Option D) := [some (.lst (bD L)), some (vI row), some (.lst (L.map fun p => .int (aD row p.2))), some (vN (L.map fun p => cg p.2)), some (.ptr t), some (vN ab), some (vN bl), x7, x8]
theorem xB {n : Nat} {L : List (Nat × List Int)} {row : List Int} {b t : Nat} {ab bl : List Nat} (h : Wrk n L row b) {qh : (Nat × List Int) × Nat} (hh : L[qh.2]? = some qh.1) (K : List D) : ∀ (Bs : List ((Nat × List Int) × Nat)) (T : List (Nat × List Int)) (O : au) (x8 : Option D), (∀ q ∈ Bs, L[q.2]? = some q.1) → T.length + Bs.length ≤ 100000 → Iv L T t O →
    ∃ T' O' y8, bt (okC K none) (aE 8) eY (Bs.map fun q => D.int (q.2 : Int)) ⟨mR L row t ab bl (some (.int (qh.2 : Int))) x8, O⟩ = .next ⟨mR L row t ab bl (some (.int (qh.2 : Int))) y8, O'⟩ ∧ Iv L T' t O' ∧ T'.length ≤ T.length + Bs.length ∧
      T'.map (·.2) = T.map (·.2) ++ ((Bs.filter fun q => nbB n (L.map (·.2)) qh.1.2 q.1.2).map fun q => cU q.1.2 (aD row q.1.2) qh.1.2 (aD row qh.1.2))
  | [], T, O, x8, _, _, iv => ⟨T, O, x8, by rw [List.map_nil, bt, if_pos (show okC K none _ from trivial)], iv, by simp, by simp⟩
  | q :: Bs, T, O, x8, hb, hl, iv => by
    have hq := hb q List.mem_cons_self
    have mh : qh.1 ∈ L := List.mem_of_getElem? hh
    have mq : q.1 ∈ L := List.mem_of_getElem? hq
    have hb' := fun z hz => hb z (List.mem_cons_of_mem _ hz)
    rw [List.length_cons] at hl
    have tst : aU (bF 3 ee (af (aj ixD (aa 3) (aa 7)) (af (aj ixD (aa 3) (aa 8)) (af (aa 3) aq)))) ⟨mR L row t ab bl (some (.int (qh.2 : Int))) (some (.int (q.2 : Int))), O⟩ = .ok (nbB n (L.map (·.2)) qh.1.2 q.1.2, ⟨mR L row t ab bl (some (.int (qh.2 : Int))) (some (.int (q.2 : Int))), O⟩) := by
      rw [← Hn h mh mq]
      refine cM (eP (av (aJ (ag rfl) (ag rfl) (qk (f := fun x : Nat => D.int (x : Int)) (l := L.map fun p => cg p.2) (a := cg qh.1.2) (by rw [List.getElem?_map, hh]; rfl))) (av (aJ (ag rfl) (ag rfl) (qk (f := fun x : Nat => D.int (x : Int)) (l := L.map fun p => cg p.2) (a := cg q.1.2) (by rw [List.getElem?_map, hq]; rfl))) (av (ag rfl) (aC _)))) (CB (by rw [List.length_map]; have := h.few; omega)) ?_ rfl (by simp))
      rw [dc, dc, dc, Ai, uM, uM, gP, Em]; rfl
    rw [List.map_cons]
    cases hn : nbB n (L.map (·.2)) qh.1.2 q.1.2 with
    | false =>
      obtain ⟨T', O', y8, e, a1, a2, a3⟩ := xB h hh K Bs T O (some (.int (q.2 : Int))) hb' (by omega) iv
      refine ⟨T', O', y8, ?_, a1, by rw [List.length_cons]; omega, by rw [a3, List.filter_cons_of_neg (by rw [hn]; decide)]⟩
      refine Eq.trans (cR (s1 := ⟨mR L row t ab bl (some (.int (qh.2 : Int))) (some (.int (q.2 : Int))), O⟩) (s2 := ⟨mR L row t ab bl (some (.int (qh.2 : Int))) (some (.int (q.2 : Int))), O⟩) trivial rfl ?_) e
      rw [eY]
      exact dM tst hn (bX _)
    | true =>
      have zq := h.sz _ (List.mem_map_of_mem (f := (·.2)) mq)
      have zh := h.sz _ (List.mem_map_of_mem (f := (·.2)) mh)
      have off := Bb (one := q.1.2) (other := qh.1.2) (v := aD row q.1.2) (w := aD row qh.1.2) (by rw [h.len _ mq]; have := h.n7; omega) (fun a ha => eS (by have := h.bb; omega) (by have := h.bb; omega) (zq a ha) (h.dz mh)) (fun a ha => eS (by have := h.bb; omega) (by have := h.bb; omega) (zh a ha) (h.dz mq))
      have call : sN 4 j4 (af (aj ixD (aa 0) (aa 8)) (af (aj ixD (aa 2) (aa 8)) (af (aj ixD (aa 0) (aa 7)) (af (aj ixD (aa 2) (aa 7)) aq)))) ⟨mR L row t ab bl (some (.int (qh.2 : Int))) (some (.int (q.2 : Int))), O⟩ = .ok (.ptr O.length, ⟨mR L row t ab bl (some (.int (qh.2 : Int))) (some (.int (q.2 : Int))), O ++ [.lst ((cU q.1.2 (aD row q.1.2) qh.1.2 (aD row qh.1.2)).map D.int)]⟩) := by
        refine Ep (av (aJ (ag rfl) (ag rfl) (qk (f := fun p : Nat × List Int => D.ptr p.1) hq)) (av (aJ (ag rfl) (ag rfl) (qk (f := fun p : Nat × List Int => D.int (aD row p.2)) hq)) (av (aJ (ag rfl) (ag rfl) (qk (f := fun p : Nat × List Int => D.ptr p.1) hh)) (av (aJ (ag rfl) (ag rfl) (qk (f := fun p : Nat × List Int => D.int (aD row p.2)) hh)) (aC _))))) (rs := [vI q.1.2, .int (aD row q.1.2), vI qh.1.2, .int (aD row qh.1.2)]) ?_ off (by simp) rfl rfl ?_ (fC _ _) ?_
        · simp only [dr, eQ, hX (iv.l _ mq), hX (iv.l _ mh), yZ, d7, dP]
        · simp [vR, qD]
        · simp
      have iv' : Iv L (T ++ [(O.length, cU q.1.2 (aD row q.1.2) qh.1.2 (aD row qh.1.2))]) t ((O ++ [Cell.lst ((cU q.1.2 (aD row q.1.2) qh.1.2 (aD row qh.1.2)).map D.int)]).set t (Cell.lst (bD T ++ [D.ptr O.length]))) := by
        have tl := jb iv.told
        have told' : (O ++ [Cell.lst ((cU q.1.2 (aD row q.1.2) qh.1.2 (aD row qh.1.2)).map D.int)])[t]? = some (.lst (bD T)) := dt iv.told
        refine ⟨by rw [cP told']; simp [bD], (iv.l.app _).set iv.ln _, fun p hp => ?_, fun p hp => ?_, iv.ln⟩
        · rcases List.mem_append.mp hp with hp | hp
          · exact ((iv.s.app _).set iv.tn _) p hp
          · rw [List.mem_singleton.mp hp]
            dsimp only
            rw [cF (by omega)]
            simp
        · rcases List.mem_append.mp hp with hp | hp
          · exact iv.tn p hp
          · rw [List.mem_singleton.mp hp]; dsimp only; omega
      obtain ⟨T', O', y8, e, a1, a2, a3⟩ := xB h hh K Bs (T ++ [(O.length, cU q.1.2 (aD row q.1.2) qh.1.2 (aD row qh.1.2))]) _ (some (.int (q.2 : Int))) hb' (by rw [List.length_append, List.length_singleton]; omega) iv'
      refine ⟨T', O', y8, ?_, a1, by rw [List.length_append, List.length_singleton] at a2; rw [List.length_cons]; omega, by rw [a3, List.filter_cons_of_pos (p := fun q : (Nat × List Int) × Nat => nbB n (L.map (·.2)) qh.1.2 q.1.2) (a := q) (l := Bs) hn, List.map_append, List.map_cons, List.append_assoc]; rfl⟩
      refine Eq.trans (cR (s1 := ⟨mR L row t ab bl (some (.int (qh.2 : Int))) (some (.int (q.2 : Int))), O⟩) (s2 := ⟨mR L row t ab bl (some (.int (qh.2 : Int))) (some (.int (q.2 : Int))), (O ++ [Cell.lst ((cU q.1.2 (aD row q.1.2) qh.1.2 (aD row qh.1.2)).map D.int)]).set t (Cell.lst (bD T ++ [D.ptr O.length]))⟩) trivial rfl ?_) e
      rw [eY]
      exact lC tst hn (gX (ow (ag rfl) iv.told call (dt iv.told) (by rw [List.length_map]; omega) rfl))
theorem yL {n : Nat} {L : List (Nat × List Int)} {row : List Int} {b t : Nat} {ab : List Nat} {Bs : List ((Nat × List Int) × Nat)} (h : Wrk n L row b) (hB : ∀ q ∈ Bs, L[q.2]? = some q.1) (hBl : Bs.length ≤ 64) (K : List D) : ∀ (As : List ((Nat × List Int) × Nat)) (T : List (Nat × List Int)) (O : au) (x7 x8 : Option D), (∀ q ∈ As, L[q.2]? = some q.1) → T.length + As.length * 64 ≤ 10000 → Iv L T t O →
    ∃ T' O' y7 y8, bt (okC K none) (aE 7) gR (As.map fun q => D.int (q.2 : Int)) ⟨mR L row t ab (Bs.map (·.2)) x7 x8, O⟩ = .next ⟨mR L row t ab (Bs.map (·.2)) y7 y8, O'⟩ ∧ Iv L T' t O' ∧
      T'.map (·.2) = T.map (·.2) ++ As.flatMap fun a => (Bs.filter fun q => nbB n (L.map (·.2)) a.1.2 q.1.2).map fun q => cU q.1.2 (aD row q.1.2) a.1.2 (aD row a.1.2)
  | [], T, O, x7, x8, _, _, iv => ⟨T, O, x7, x8, by rw [List.map_nil, bt, if_pos (show okC K none _ from trivial)], iv, by simp⟩
  | a :: As, T, O, x7, x8, hA, hl, iv => by
    rw [List.length_cons] at hl
    obtain ⟨T1, O1, y8, e1, i1, l1, m1⟩ := xB (ab := ab) (bl := Bs.map (·.2)) h (hA a List.mem_cons_self) ((Bs.map (·.2)).map fun x : Nat => D.int (x : Int)) Bs T O x8 hB (by omega) iv
    obtain ⟨T2, O2, z7, z8, e2, i2, m2⟩ := yL (ab := ab) h hB hBl K As T1 O1 (some (.int (a.2 : Int))) y8 (fun q hq => hA q (List.mem_cons_of_mem _ hq)) (by omega) i1
    refine ⟨T2, O2, z7, z8, ?_, i2, by rw [m2, m1, List.flatMap_cons, List.append_assoc]⟩
    rw [List.map_cons]
    refine Eq.trans (cR (s1 := ⟨mR L row t ab (Bs.map (·.2)) (some (.int (a.2 : Int))) x8, O⟩) (s2 := ⟨mR L row t ab (Bs.map (·.2)) (some (.int (a.2 : Int))) y8, O1⟩) trivial rfl ?_) e2
    rw [gR]
    refine (dv (im := listI (aa 6)) (ds := (Bs.map (·.2)).map fun x : Nat => D.int (x : Int)) (k := none) (s1 := ⟨mR L row t ab (Bs.map (·.2)) (some (.int (a.2 : Int))) x8, O⟩) (by rw [bW, ag (i := 6) rfl, ak]; rfl)).trans ?_
    rw [List.map_map] at e1 ⊢
    exact e1
theorem EU {α : Type} {caps : List Nat} {im : IM} {c : TM} {e : EM} {s : S} {k : Option Nat} {l : List α} {p : α → Bool} {out : α → D} {f g : α → D} (him : im s = .ok ((l.map (fun a => D.tup [f a, g a]), k), s)) (hok : okC (l.map (fun a => D.tup [f a, g a])) k s.o) (hl : l.length ≤ 16777216)
    (hc : ∀ a ∈ l, c ⟨some (f a) :: some (g a) :: caps.map (fun i => (s.r[i]?).getD none), s.o⟩ = .ok (p a, ⟨some (f a) :: some (g a) :: caps.map (fun i => (s.r[i]?).getD none), s.o⟩))
    (he : ∀ a ∈ l, p a = true → e ⟨some (f a) :: some (g a) :: caps.map (fun i => (s.r[i]?).getD none), s.o⟩ = .ok (out a, ⟨some (f a) :: some (g a) :: caps.map (fun i => (s.r[i]?).getD none), s.o⟩)) :
    jO 2 caps im (cZ (aV (aE 0) (aV (aE 1) de)) 2) c e s = .ok (.ptr s.o.length, ⟨s.r, s.o ++ [.lst ((l.filter p).map out)]⟩) := by
  rw [rq, xM him hok hl hc he, ak]
theorem DA {α : Type} (f g : α → D) : ∀ l : List α, ju (l.map f) (l.map g) = l.map fun a => .tup [f a, g a] := fun l => by
  unfold ju
  rw [List.zipWith_map, List.zipWith_self]
theorem wV {α : Type} (p : α → Bool) (l : List α) : (l.zipIdx.filter fun q => p q.1).map (·.1) = l.filter p := by
  have h : (l.zipIdx.map (·.1)) = l := by simp
  conv => rhs; rw [← h, List.filter_map]
  rfl
theorem Et {n : Nat} {L : List (Nat × List Int)} {row : List Int} {b : Nat} {O : au} (h : Wrk n L row b) (hs : Sto O L) : ∃ L' O', eK [.lst (bD L), vI row] O = .ok (.lst (bD L'), O') ∧ L'.map (·.2) = dn n (L.map (·.2)) row ∧ Sto O' L' := by
  have few := h.few
  have dz : ∀ p ∈ L, bU [vI row, vI p.2] [] = .ok (.int (aD row p.2), []) := fun p hp => AE (by rw [h.rl]; have := h.n7; omega) fun q hq => eS (by have := h.bb; omega) (by have := h.bb; omega) (h.rz _ (List.of_mem_zip hq).1) (h.sz _ (List.mem_map_of_mem hp) _ (List.of_mem_zip hq).2)
  have v2 := gc (l := L) (item := fun p => .ptr p.1) (out := fun p => .int (aD row p.2)) (caps := [1]) (im := listI (aa 0)) (e := dJ 2 bU (af (aa 1) (af (aa 0) aq))) (k := none) (s := ⟨[some (.lst (bD L)), some (vI row), none, none, none, none, none, none, none], O⟩) (by rw [bW, ag (i := 0) rfl, ak]; rfl) trivial (by omega)
    (fun p hp => h9 (av (ag rfl) (av (ag rfl) (aC _))) (rs := [vI row, vI p.2]) (by simp only [dr, eQ, hX (hs p hp), d7, dP]) (dz p hp) (by simp) rfl rfl)
  have v3 := gc (l := L) (item := fun p => .ptr p.1) (out := fun p => .int (cg p.2 : Nat)) (caps := []) (im := listI (aa 0)) (e := dJ 1 cz (af (aa 0) aq)) (k := none) (s := ⟨[some (.lst (bD L)), some (vI row), some (.lst (L.map fun p => .int (aD row p.2))), none, none, none, none, none, none], O⟩) (by rw [bW, ag (i := 0) rfl, ak]; rfl) trivial (by omega)
    (fun p hp => h9 (av (ag rfl) (aC _)) (rs := [vI p.2]) (by simp only [dr, eQ, hX (hs p hp), d7, dP]) pA (by simp) rfl rfl)
  rw [show (L.map fun p => D.int (cg p.2 : Nat)) = (L.map fun p => cg p.2).map (fun x : Nat => D.int (x : Int)) by rw [List.map_map]; rfl] at v3
  have v4 := EU (l := L) (f := fun p => .ptr p.1) (g := fun p => .int (aD row p.2)) (p := fun p => decide (aD row p.2 = 0)) (out := fun p => .ptr p.1) (caps := []) (im := mM (af (aa 0) (af (aa 2) aq))) (c := aU (aj eqD (aa 1) (ao (.int 0)))) (e := aa 0) (k := none) (s := ⟨[some (.lst (bD L)), some (vI row), some (.lst (L.map fun p => .int (aD row p.2))), some (vN (L.map fun p => cg p.2)), none, none, none, none, none], O⟩) (by
    rw [zu, gq, ag (i := 0) rfl, ak]
    dsimp only
    rw [gq, ag (i := 2) rfl, ak]
    dsimp only
    rw [aC, ak, ak, ak]
    dsimp only
    rw [DA]) trivial (by omega) (fun p _ => cM (aJ (ag rfl) (aL _ _) (nB _ _))) (fun p _ _ => ag rfl)
  have enum : ∀ (R : List (Option D)) (P : au), R[2]? = some (some (.lst (L.map fun p => .int (aD row p.2)))) → dO (af (aa 2) aq) ⟨R, P⟩ = .ok ((L.zipIdx.map fun q => D.tup [.int (q.2 : Int), .int (aD row q.1.2)], none), ⟨R, P⟩) := fun R P hR => by
    rw [oJ, gq, ag (i := 2) hR, ak]
    dsimp only
    rw [aC, ak, ak]
    dsimp only
    rw [show iu (L.map fun p => D.int (aD row p.2)) = L.zipIdx.map fun q => D.tup [.int (q.2 : Int), .int (aD row q.1.2)] by
      unfold iu
      rw [List.mapIdx_eq_zipIdx_map, List.zipIdx_map, List.map_map]
      rfl]
  have zl : L.zipIdx.length = L.length := by simp
  have vn : ∀ Z : List ((Nat × List Int) × Nat), (Z.map fun q => D.int (q.2 : Int)) = (Z.map (·.2)).map fun x : Nat => D.int (x : Int) := fun Z => by rw [List.map_map]; rfl
  have v5 := zv (l := L.zipIdx) (f := fun q => .int (q.2 : Int)) (g := fun q => .int (aD row q.1.2)) (p := fun q => decide (0 < aD row q.1.2)) (out := fun q => .int (q.2 : Int)) (caps := []) (im := dO (af (aa 2) aq)) (c := aU (aj gtD (aa 1) (ao (.int 0)))) (e := aa 0) (k := none) (s := ⟨[some (.lst (bD L)), some (vI row), some (.lst (L.map fun p => .int (aD row p.2))), some (vN (L.map fun p => cg p.2)), some (.ptr O.length), none, none, none, none], O ++ [.lst ((L.filter fun p => decide (aD row p.2 = 0)).map fun p => .ptr p.1)]⟩) (enum _ _ rfl) trivial (by omega) (fun q _ => cM (aJ (ag rfl) (aL _ _) (nu _ _))) (fun q _ _ => ag rfl)
  generalize hA : (L.zipIdx.filter fun q => decide (0 < aD row q.1.2)) = As at v5
  rw [vn] at v5
  have v6 := zv (l := L.zipIdx) (f := fun q => .int (q.2 : Int)) (g := fun q => .int (aD row q.1.2)) (p := fun q => decide (aD row q.1.2 < 0)) (out := fun q => .int (q.2 : Int)) (caps := []) (im := dO (af (aa 2) aq)) (c := aU (aj ltD (aa 1) (ao (.int 0)))) (e := aa 0) (k := none) (s := ⟨[some (.lst (bD L)), some (vI row), some (.lst (L.map fun p => .int (aD row p.2))), some (vN (L.map fun p => cg p.2)), some (.ptr O.length), some (vN (As.map (·.2))), none, none, none], O ++ [.lst ((L.filter fun p => decide (aD row p.2 = 0)).map fun p => .ptr p.1)]⟩) (enum _ _ rfl) trivial (by omega) (fun q _ => cM (aJ (ag rfl) (aL _ _) (lI _ _))) (fun q _ _ => ag rfl)
  generalize hB : (L.zipIdx.filter fun q => decide (aD row q.1.2 < 0)) = Bs at v6
  rw [vn] at v6
  have at_ : ∀ q ∈ L.zipIdx, L[q.2]? = some q.1 := fun q hq => List.mem_zipIdx_iff_getElem?.mp hq
  have mA : ∀ q ∈ As, L[q.2]? = some q.1 := fun q hq => at_ q (by rw [← hA] at hq; exact (List.mem_filter.mp hq).1)
  have mB : ∀ q ∈ Bs, L[q.2]? = some q.1 := fun q hq => at_ q (by rw [← hB] at hq; exact (List.mem_filter.mp hq).1)
  have lA : As.length ≤ L.length := by rw [← hA, ← zl]; exact List.length_filter_le _ _
  have lB : Bs.length ≤ L.length := by rw [← hB, ← zl]; exact List.length_filter_le _ _
  have sub : ∀ p ∈ L.filter (fun p => decide (aD row p.2 = 0)), p ∈ L := fun p hp => (List.mem_filter.mp hp).1
  have lT : (L.filter fun p => decide (aD row p.2 = 0)).length ≤ L.length := List.length_filter_le _ _
  have iv : Iv L (L.filter fun p => decide (aD row p.2 = 0)) O.length (O ++ [.lst ((L.filter fun p => decide (aD row p.2 = 0)).map fun p => .ptr p.1)]) := ⟨by simp, hs.app _, fun p hp => (hs.app _) p (sub p hp), fun p hp => Nat.ne_of_lt (hs.lt (sub p hp)), fun p hp => Nat.ne_of_lt (hs.lt hp)⟩
  obtain ⟨T', O', y7, y8, e7, i7, m7⟩ := yL (ab := As.map (·.2)) h mB (by omega) ((As.map (·.2)).map fun x : Nat => D.int (x : Int)) As _ _ none none mA (by omega) iv
  refine ⟨T', O'.set O.length .dead, ?_, ?_, i7.s.set i7.tn _⟩
  · refine fe (R := mR L row O.length (As.map (·.2)) (Bs.map (·.2)) y7 y8) ?_
    show eL ⟨[some (.lst (bD L)), some (vI row), none, none, none, none, none, none, none], O⟩ = _
    rw [eL]
    refine aP (aX v2 rfl) (aP (aX v3 rfl) (aP (aX v4 rfl) (aP (aX v5 rfl) (aP (aX v6 rfl) (aP ?_ (b8 (kq (ag rfl) i7.told rfl)))))))
    refine (dv (im := listI (aa 5)) (ds := (As.map (·.2)).map fun x : Nat => D.int (x : Int)) (k := none) (s1 := ⟨mR L row O.length (As.map (·.2)) (Bs.map (·.2)) none none, O ++ [.lst ((L.filter fun p => decide (aD row p.2 = 0)).map fun p => .ptr p.1)]⟩) (by rw [bW, ag (i := 5) rfl, ak]; rfl)).trans ?_
    rw [← vn]
    exact e7
  · rw [m7]
    unfold dn
    rw [List.filter_map, List.filter_map, List.filter_map]
    have eA := wV (fun p : Nat × List Int => decide (0 < aD row p.2)) L
    have eB := wV (fun p : Nat × List Int => decide (aD row p.2 < 0)) L
    rw [hA] at eA
    rw [hB] at eB
    show _ = (L.filter fun p => decide (aD row p.2 = 0)).map (·.2) ++ ((L.filter fun p : Nat × List Int => decide (0 < aD row p.2)).map (·.2)).flatMap fun h => (((L.filter fun p : Nat × List Int => decide (aD row p.2 < 0)).map (·.2)).filter fun w => nbB n (L.map (·.2)) h w).map fun w => cU w (aD row w) h (aD row h)
    rw [← eA, ← eB]
    congr 1
    rw [List.flatMap_map, List.flatMap_map]
    refine congrArg (fun F => As.flatMap F) (funext fun a => ?_)
    rw [List.map_map, List.filter_map, List.map_map]
    rfl
theorem BH {α : Type} {l : List α} {item : α → D} {f : α → List Int} {T : α → Nat → Prop} {caps : List Nat} {im : IM} {e : EM} {k : Option Nat} {R : List (Option D)} {O : au} (I : au → Prop) (hI : ∀ O E, I O → I (O ++ E)) (h0 : I O) (him : im ⟨R, O⟩ = .ok ((l.map item, k), ⟨R, O⟩)) (hok : ∀ O, I O → okC (l.map item) k O) (hl : l.length ≤ 1000000)
    (he : ∀ a ∈ l, ∀ O, I O → ∃ q E, e ⟨some (item a) :: caps.map (fun i => (R[i]?).getD none), O⟩ = .ok (.ptr q, ⟨some (item a) :: caps.map (fun i => (R[i]?).getD none), O ++ E⟩) ∧ (O ++ E)[q]? = some (.lst ((f a).map D.int)) ∧ (T a q ∨ O.length ≤ q)) :
    ∃ (L : List (Nat × List Int)) (E : au), cf 1 caps im (aE 0) bT e ⟨R, O⟩ = .ok (.lst (bD L), ⟨R, O ++ E⟩) ∧ L.map (·.2) = l.map f ∧ Sto (O ++ E) L := by
  obtain ⟨L, E, x', e1, e2, e3, e4⟩ := tK (ok := okC (l.map item) k) (e := e) (cap := caps.map (fun i => (R[i]?).getD none)) (T := T) I hI hok l [] none O h0 (by simp; omega) he
  refine ⟨L, E, ?_, e2, e3⟩
  rw [mj, nU, him, ak]
  dsimp only
  rw [show j1 1 caps R = none :: caps.map (fun i => (R[i]?).getD none) from rfl, e1, ak, ak]
  rfl
theorem Eo {n a : Nat} (ha : a < n) (hn : n ≤ 1000000) : m5 [.int (a : Int), .int (n : Int)] [] = .ok (.ptr 0, [.lst ((gf n a).map D.int)]) := by
  have h1 := mY (i := 2) (Eq.trans (G7 (fin := pJ) (mk := aa 1) (s := ⟨[some (.int (a : Int)), some (.int (n : Int)), none], []⟩) (n := n) (by simp) hn) (zx _ _))
  have h2 : jR (ao (.int 1)) (mf (aa 2) (aa 0)) ⟨[some (.int (a : Int)), some (.int (n : Int)), some (.ptr 0)], [.lst ((List.replicate n (0 : Int)).map D.int)]⟩ = .next ⟨[some (.int (a : Int)), some (.int (n : Int)), some (.ptr 0)], [.lst ((gf n a).map D.int)]⟩ := by
    rw [qz, aL, ak, oC (k := 0) (a := a) (ds := (List.replicate n (0 : Int)).map D.int) (s1 := ⟨[some (.int (a : Int)), some (.int (n : Int)), some (.ptr 0)], [.lst ((List.replicate n (0 : Int)).map D.int)]⟩) (s2 := ⟨[some (.int (a : Int)), some (.int (n : Int)), some (.ptr 0)], [.lst ((List.replicate n (0 : Int)).map D.int)]⟩) (by simp) (by simp) rfl (by simpa using ha)]
    simp [gf, List.map_set]
  refine fe (R := [some (.int (a : Int)), some (.int (n : Int)), some (.ptr 0)]) ?_
  show pN ⟨[some (.int (a : Int)), some (.int (n : Int)), none], []⟩ = _
  rw [pN, fT h1]
  exact aP h2 (b8 (ag rfl))
theorem Cr {n : Nat} (hn : n ≤ 1000) (O : au) : ∃ L E, nt [.int (n : Int)] O = .ok (.lst (bD L), O ++ E) ∧ L.map (·.2) = gi n ∧ Sto (O ++ E) L := by
  obtain ⟨L, E, e, h1, h2⟩ := BH (l := List.range n) (item := fun i : Nat => D.int (i : Int)) (f := gf n) (T := fun _ _ => False) (caps := [0]) (im := jP (af (aa 0) aq)) (e := dC 2 m5 (af (aa 0) (af (aa 1) aq))) (k := none) (R := [some (.int (n : Int))]) (O := O) (fun _ => True) (fun _ _ _ => trivial) trivial (by
      rw [kb (n := n) (s1 := ⟨[some (.int (n : Int))], O⟩) (av (ag rfl) (aC _)) (by omega), qJ]) (fun _ _ => trivial) (by rw [List.length_range]; omega) (fun a ha P _ =>
      ⟨P.length, [.lst ((gf n a).map D.int)], gz (av (ag rfl) (av (ag rfl) (aC _))) (Eo (List.mem_range.mp ha) (by omega)) (by simp) rfl (fC _ _) (by simp), by simp, .inr (Nat.le_refl _)⟩)
  refine ⟨L, E, ?_, h1, h2⟩
  refine fe (R := [some (.int (n : Int))]) ?_
  show mZ ⟨[some (.int (n : Int))], O⟩ = _
  rw [mZ]
  exact b8 e
theorem tI {O : au} : ∀ {L : List (Nat × List Int)}, Sto O L → keyed O (bD L) = some (L.map fun p => (.ptr p.1, p.2))
  | [], _ => rfl
  | p :: L, h => by
    have e := tI (L := L) fun q hq => h q (List.mem_cons_of_mem _ hq)
    have c : ko O (.ptr p.1) = some p.2 := by
      unfold ko
      rw [gB (h p List.mem_cons_self)]
      exact lg _
    show keyed O (.ptr p.1 :: bD L) = _
    unfold keyed
    rw [c, e]
    rfl
theorem AL (L : List (Nat × List Int)) : (dD (L.map fun p => (D.ptr p.1, p.2))).map (·.1) = bD (dD L) := by
  rw [kD (g := fun p : Nat × List Int => (D.ptr p.1, p.2)) fun _ => rfl, List.map_map]
  rfl
theorem sk {O : au} {L : List (Nat × List Int)} {fin : S → List D → Res (D × S)} {me : EM} {s s1 : S} {d : D} (he : me s = .ok (d, s1)) (hd : lsD s1.o d = some (bD L)) (hs : Sto s1.o L) (hl : L.length < 64) (nd : (L.map (·.2)).Nodup) : qv fin me s = fin s1 (bD (dD L)) := by
  unfold qv
  rw [he, ak]
  dsimp only
  rw [hd]
  dsimp only
  rw [tI hs]
  dsimp only
  rw [if_pos ⟨by rw [List.length_map]; exact hl, by rw [List.map_map]; exact nd⟩, AL]
def lq (V : List (List Int)) : List (List Int) := (dD (V.map fun x => ((), x))).map (·.2)
theorem BV (L : List (Nat × List Int)) : (dD L).map (·.2) = lq (L.map (·.2)) := by
  unfold lq
  rw [List.map_map, show ((fun x : List Int => ((), x)) ∘ fun x : Nat × List Int => x.2) = fun p : Nat × List Int => ((), p.2) from rfl, kD (g := fun p : Nat × List Int => ((), p.2)) fun _ => rfl, List.map_map]
  rfl
theorem Az (n : Nat) : fO 1 (gi n) := fun x hx => by
  unfold gi at hx
  obtain ⟨a, _, rfl⟩ := List.mem_map.mp hx
  exact zg n a
structure lR (n : Nat) (rows : List (List Int)) : Prop where
  len : ∀ r ∈ rows, r.length = n
  sz : fO 200 rows
  cnt : rows.length ≤ 5
  n7 : n ≤ 7
theorem big : qa 200 5 1 ≤ 8000 := by decide
theorem rO {n : Nat} {rows : List (List Int)} (h : lR n rows) {rs : List (List Int)} (hr : ∀ r ∈ rs, r ∈ rows) (hl : rs.length ≤ 5) : fO 8000 (rs.foldl (dn n) (gi n)) := by
  refine (wa rs 1 _ (fun r hr' => ⟨h.sz r (hr r hr'), by rw [h.len r (hr r hr')]; have := h.n7; omega⟩) (Az n)).mono ?_
  exact Nat.le_trans (vf 200 rs.length 5 1 hl) big
theorem tW {n : Nat} {rows : List (List Int)} (h : lR n rows) : ∃ k O Ls, gd [vII rows, .int (n : Int)] [] = .ok (.ptr k, O) ∧ O[k]? = some (.lst (bD Ls)) ∧ Sto O Ls ∧ (∀ p ∈ Ls, p.1 ≠ k) ∧ Ls = dD Ls ∧ Ls.map (·.2) = lq (eU rows n) := by
  have n7 := h.n7
  obtain ⟨L0, E0, e0, m0, s0⟩ := Cr (n := n) (by omega) []
  rw [List.nil_append] at e0 s0
  obtain ⟨s', el, rs, L, O, x3, hpre, hs', sto, ml⟩ := jG (ok := okC (rows.map vI) none) (g := aE 3) (body := rY)
    (fun pre s => ∃ (rs : List (List Int)) (L : List (Nat × List Int)) (O : au) (x3 : Option D), pre = rs.map vI ∧ s = ⟨[some (vII rows), some (.int (n : Int)), some (.lst (bD L)), x3], O⟩ ∧ Sto O L ∧ L.map (·.2) = rs.foldl (dn n) (gi n)) (fun _ _ _ => trivial) (rows.map vI) [] (by
      rintro pre d rest ed s ⟨rs, L, O, x3, rfl, rfl, sto, ml⟩
      rw [List.nil_append] at ed
      obtain ⟨l1, l2, e1, e2, e3⟩ := List.map_eq_append_iff.mp ed
      cases l2 with
      | nil => cases e3
      | cons r l2 =>
        rw [List.map_cons] at e3
        injection e3 with e3 e4
        subst e3
        have e5 : l1 = rs := (List.map_inj_right (fun a b h => by
          have : a.map D.int = b.map D.int := by injection h
          exact (List.map_inj_right (fun x y q => by cases q; rfl)).mp this)).mp e2
        subst e5
        have inR : ∀ q ∈ l1, q ∈ rows := fun q hq => by rw [e1]; exact List.mem_append_left _ hq
        have rR : r ∈ rows := by rw [e1]; simp
        have k : fF n l1 (eU l1 n) := kF fun q hq => h.len q (inR q hq)
        have cl : l1.length ≤ 5 := by have := h.cnt; rw [e1, List.length_append] at this; omega
        have mem : ∀ p ∈ L, cj n l1 p.2 := fun p hp => (k.all p.2).mp (by
          show p.2 ∈ l1.foldl (dn n) (gi n)
          rw [← ml]; exact List.mem_map_of_mem hp)
        have wk : Wrk n L r 8000 := ⟨fun p hp => (mem p hp).fit.len, fun p hp => (mem p hp).fit.nn, by
          have := k.few n7
          have e : L.length = (eU l1 n).length := by show _ = (l1.foldl (dn n) (gi n)).length; rw [← ml, List.length_map]
          omega, h.len r rR, by omega, by rw [ml]; exact rO h inR cl, (h.sz r rR).mono (by decide), by decide⟩
        obtain ⟨L', O', e6, m6, s6⟩ := Et wk sto
        refine ⟨⟨[some (vII rows), some (.int (n : Int)), some (.lst (bD L)), some (vI r)], O⟩, ⟨[some (vII rows), some (.int (n : Int)), some (.lst (bD L')), some (vI r)], O'⟩, rfl, .inl ?_, l1 ++ [r], L', O', _, by simp, rfl, s6, by rw [m6, ml, List.foldl_append]; rfl⟩
        rw [rY]
        exact aX (eO (av (ag rfl) (av (ag rfl) (aC _))) e6 rfl) rfl) ⟨[some (vII rows), some (.int (n : Int)), some (.lst (bD L0)), none], E0⟩ ⟨[], L0, E0, none, rfl, rfl, s0, m0⟩
  rw [List.nil_append] at hpre
  have e5 : rows = rs := (List.map_inj_right (fun a b h => by
    have : a.map D.int = b.map D.int := by injection h
    exact (List.map_inj_right (fun x y q => by cases q; rfl)).mp this)).mp hpre
  subst e5
  subst hs'
  have k : fF n rows (eU rows n) := kF h.len
  have ml' : L.map (·.2) = eU rows n := ml
  have nd : (L.map (·.2)).Nodup := by rw [ml']; exact k.nd
  have few : L.length < 64 := by have := k.few n7; rw [← ml', List.length_map] at this; exact this
  have so : qv pJ (aa 2) ⟨[some (vII rows), some (.int (n : Int)), some (.lst (bD L)), x3], O⟩ = .ok (.ptr O.length, ⟨[some (vII rows), some (.int (n : Int)), some (.lst (bD L)), x3], O ++ [.lst (bD (dD L))]⟩) := (sk (O := O) (fin := pJ) (ag rfl) rfl sto few nd).trans (zx _ _)
  have mem : ∀ p ∈ dD L, p ∈ L := fun p hp => (fY L).mem_iff.mp hp
  refine ⟨O.length, O ++ [.lst (bD (dD L))], dD L, ?_, by simp, fun p hp => (sto.app _) p (mem p hp), fun p hp => Nat.ne_of_lt (sto.lt (mem p hp)), ?_, by rw [BV, ml']⟩
  · refine fe (R := [some (vII rows), some (.int (n : Int)), some (.lst (bD L)), x3]) ?_
    show jQ ⟨[some (vII rows), some (.int (n : Int)), none, none], []⟩ = _
    rw [jQ]
    refine aP (aX (eO (av (ag rfl) (aC _)) e0 rfl) rfl) (aP ?_ (b8 so))
    exact (dv (im := listI (aa 0)) (ds := rows.map vI) (k := none) (s1 := ⟨[some (vII rows), some (.int (n : Int)), some (.lst (bD L0)), none], E0⟩) (by rw [bW, ag (i := 0) rfl, ak]; rfl)).trans el
  · refine si (fY _).symm ?_ (lj L) (lj _)
    exact ((fY L).map (·.2)).nodup_iff.mpr nd
theorem wt (i : Int) : cN [.int i] [] = .ok (.bl true, []) := by
  refine cO (s := ⟨[some (.int i)], []⟩) ?_
  simp [gs]
theorem Am {ts : List Int} {m : Nat} (h : ts.length = m) (hl : m ≤ 1000) : hU [vI ts, .int (m : Int)] [] = .ok (.bl true, []) := by
  have hc := gc (l := ts) (item := D.int) (out := fun _ => .bl true) (caps := []) (im := listI (aa 0)) (e := bF 1 cN (af (aa 0) aq)) (k := none) (s := ⟨[some (vI ts), some (.int (m : Int))], []⟩) (by simp) trivial (by omega) (fun x _ =>
    sr (ds := [.int x]) (by simp) (by simp) rfl (wt x) (by simp))
  rw [show ts.map (fun _ => D.bl true) = (ts.map fun _ => true).map D.bl by rw [List.map_map]; rfl] at hc
  refine cO (s := ⟨[some (vI ts), some (.int (m : Int))], []⟩) ?_
  show g9 ⟨[some (vI ts), some (.int (m : Int))], []⟩ = _
  have e1 : bj zK (af (cf 1 [] (listI (aa 0)) (aE 0) bT (bF 1 cN (af (aa 0) aq))) aq) ⟨[some (vI ts), some (.int (m : Int))], []⟩ = .ok (.bl true, ⟨[some (vI ts), some (.int (m : Int))], []⟩) := by
    rw [uq, gq, hc, ak, aC, ak, ak]
    dsimp only
    rw [CW, ak]
    simp
  rw [g9]
  refine b8 ?_
  rw [ux, show unM (gE "list") (aa 0) ⟨[some (vI ts), some (.int (m : Int))], []⟩ = .ok (.bl true, ⟨[some (vI ts), some (.int (m : Int))], []⟩) by simp, ak]
  dsimp only
  rw [ux, show aj eqD (bj cD (af (aa 0) aq)) (aa 1) ⟨[some (vI ts), some (.int (m : Int))], []⟩ = .ok (.bl true, ⟨[some (vI ts), some (.int (m : Int))], []⟩) by simp [h], ak]
  exact e1
theorem uS : ∀ (n : Nat) (a b : Int) (L z x : Option D) (O : au), 0 ≤ a → 0 ≤ b → b.natAbs < n → ∃ y, ib (aU (aj gtD (aa 3) (ao (.int 0)))) iw n ⟨[L, some (.int a), z, some (.int b), x], O⟩ = .next ⟨[L, some (.int (Nat.gcd a.natAbs b.natAbs : Nat)), z, some (.int 0), y], O⟩
  | 0, _, _, _, _, _, _, _, _, h => by omega
  | n + 1, a, b, L, z, x, O, ha, hb, hn => by
    have t : aU (aj gtD (aa 3) (ao (.int 0))) ⟨[L, some (.int a), z, some (.int b), x], O⟩ = .ok (decide (0 < b), ⟨[L, some (.int a), z, some (.int b), x], O⟩) := jM (ag rfl)
    rw [ib, t, nF]
    by_cases h : b = 0
    · subst h
      refine ⟨x, ?_⟩
      have e : ((Nat.gcd a.natAbs (0 : Int).natAbs : Nat) : Int) = a := by
        rw [Int.natAbs_zero, Nat.gcd_zero_right]
        omega
      rw [e]
      rfl
    · have hb' : 0 < b := by omega
      have h1 : 0 ≤ a % b := Int.emod_nonneg a h
      have h2 : a % b < b := Int.emod_lt_of_pos a hb'
      obtain ⟨y, e⟩ := uS n b (a % b) L z (some (.int (a % b))) O hb h1 (by omega)
      refine ⟨y, ?_⟩
      have eb : iw ⟨[L, some (.int a), z, some (.int b), x], O⟩ = .next ⟨[L, some (.int b), z, some (.int (a % b)), some (.int (a % b))], O⟩ := by
        rw [iw]
        exact aP (aX (aJ (ag rfl) (ag rfl) (fD hb')) rfl) (aP (aX (ag rfl) rfl) (aX (ag rfl) rfl))
      rw [decide_eq_true hb', if_pos rfl, eb]
      dsimp only
      rw [e]
      have e2 : (a % b).natAbs = a.natAbs % b.natAbs := by
        have : ((a % b).natAbs : Int) = ((a.natAbs % b.natAbs : Nat) : Int) := by
          rw [Int.natAbs_of_nonneg h1, Int.natCast_emod, Int.natAbs_of_nonneg ha, Int.natAbs_of_nonneg hb]
        omega
      rw [e2, show Nat.gcd a.natAbs b.natAbs = Nat.gcd b.natAbs (a.natAbs % b.natAbs) by rw [Nat.gcd_comm a.natAbs, Nat.gcd_rec b.natAbs, Nat.gcd_comm]]
theorem GV (ns : List Int) : hE [vI ns] [] = .ok (.int (bV ns : Nat), []) := by
  obtain ⟨s', e, c, x, y, z, h1, h2⟩ := jG (ok := okC (ns.map D.int) none) (g := aE 2) (body := iq)
    (fun pre s => ∃ (ms : List Int) (x y z : Option D), pre = ms.map D.int ∧ s = ⟨[some (vI ns), some (.int (ms.foldl (fun c n => Nat.gcd c n.natAbs) 0 : Nat)), x, y, z], []⟩) (fun _ _ _ => trivial) (ns.map D.int) [] (by
      rintro pre d rest e s ⟨ms, x, y, z, rfl, rfl⟩
      have hd : d ∈ ns.map D.int := by rw [List.nil_append] at e; rw [e]; simp
      obtain ⟨m, _, rfl⟩ := List.mem_map.mp hd
      obtain ⟨w, ew⟩ := uS ((m.natAbs : Int).natAbs + 1) (ms.foldl (fun c n => Nat.gcd c n.natAbs) 0 : Nat) (m.natAbs : Int) (some (vI ns)) (some (.int m)) z [] (by omega) (by omega) (by omega)
      refine ⟨⟨[some (vI ns), some (.int (ms.foldl (fun c n => Nat.gcd c n.natAbs) 0 : Nat)), some (.int m), y, z], []⟩, ⟨[some (vI ns), some (.int (Nat.gcd (ms.foldl (fun c n => Nat.gcd c n.natAbs) 0) m.natAbs : Nat)), some (.int m), some (.int 0), w], []⟩, rfl, .inl ?_, ms ++ [m], some (.int m), some (.int 0), w, by simp, by rw [List.foldl_append]; rfl⟩
      rw [iq]
      exact aP (aX (R := [some (vI ns), some (.int (ms.foldl (fun c n => Nat.gcd c n.natAbs) 0 : Nat)), some (.int m), y, z]) (O := []) (dN (av (ag rfl) (aC _)) (Dk _)) rfl) (by exact ew)) ⟨[some (vI ns), some (.int 0), none, none, none], []⟩ ⟨[], none, none, none, rfl, rfl⟩
  rw [List.nil_append] at h1
  have hc : c = ns := (List.map_inj_right (fun a b h => by cases h; rfl)).mp h1.symm
  subst hc
  have hf := dv (im := listI (aa 0)) (g := aE 2) (body := iq) (s := ⟨[some (vI c), some (.int 0), none, none, none], []⟩) (ds := c.map D.int) (k := none) (s1 := ⟨[some (vI c), some (.int 0), none, none, none], []⟩) (by simp)
  rw [e, h2] at hf
  refine fe (R := [some (vI c), some (.int (bV c : Nat)), x, y, z]) ?_
  show hJ ⟨[some (vI c), none, none, none, none], []⟩ = _
  rw [hJ]
  exact aP (aX (R' := [some (vI c), some (.int 0), none, none, none]) (aL _ _) rfl) (aP hf (b8 (ag rfl)))
theorem AB (x : Option D) (L : D) : ∀ (ns : List Int) (k0 : Nat) (x1 x2 : Option D), (dg ns = none → ∃ y1 y2, bt (okC (iu [L]) none) (cZ (aV (aE 1) (aV (aE 2) de)) 2) bK ((ns.zipIdx k0).map fun p => .tup [.int (p.2 : Int), .int p.1]) ⟨[some L, x1, x2], []⟩ = .next ⟨[some L, y1, y2], []⟩) ∧
    ∀ j, dg ns = some j → ∃ y1 y2, bt (okC (iu [L]) none) (cZ (aV (aE 1) (aV (aE 2) de)) 2) bK ((ns.zipIdx k0).map fun p => .tup [.int (p.2 : Int), .int p.1]) ⟨[some L, x1, x2], []⟩ = .ret (.int ((k0 + j : Nat) : Int)) ⟨[some L, y1, y2], []⟩
  | [], k0, x1, x2 => ⟨fun _ => ⟨x1, x2, by simp [bt]⟩, fun j h => by cases h⟩
  | n :: ns, k0, x1, x2 => by
    have ih := AB x L ns (k0 + 1) (some (.int (k0 : Int))) (some (.int n))
    rw [List.zipIdx_cons, List.map_cons, bt, if_pos (show okC (iu [L]) none _ from trivial)]
    have hg : cZ (aV (aE 1) (aV (aE 2) de)) 2 (.tup [.int (k0 : Int), .int n]) ⟨[some L, x1, x2], []⟩ = .ok ⟨[some L, some (.int (k0 : Int)), some (.int n)], []⟩ := by simp
    rw [hg, nF]
    by_cases hn : n = 0
    · have hb : bK ⟨[some L, some (.int (k0 : Int)), some (.int n)], []⟩ = .next ⟨[some L, some (.int (k0 : Int)), some (.int n)], []⟩ := by simp [bK, hn]
      rw [hb]
      dsimp only
      constructor
      · intro h
        unfold dg at h
        rw [if_neg (by simpa using hn)] at h
        exact ih.1 (by simpa using h)
      · intro j h
        unfold dg at h
        rw [if_neg (by simpa using hn)] at h
        cases e : dg ns with
        | none => rw [e] at h; cases h
        | some i =>
          rw [e] at h
          have hj : j = i + 1 := by simpa using h.symm
          subst hj
          obtain ⟨y1, y2, e2⟩ := ih.2 i e
          exact ⟨y1, y2, by rw [e2, show k0 + 1 + i = k0 + (i + 1) by omega]⟩
    · have hb : bK ⟨[some L, some (.int (k0 : Int)), some (.int n)], []⟩ = .ret (.int (k0 : Int)) ⟨[some L, some (.int (k0 : Int)), some (.int n)], []⟩ := by simp [bK, hn]
      rw [hb]
      dsimp only
      have hs : dg (n :: ns) = some 0 := by unfold dg; rw [if_pos hn]
      rw [hs]
      refine ⟨fun h => (by cases h), fun j h => ?_⟩
      have hj : j = 0 := by simpa using h.symm
      subst hj
      exact ⟨_, _, rfl⟩
def Ij : Option Nat → D
  | none => .non
  | some k => .int (k : Int)
theorem GX (ns : List Int) : eM [vI ns] [] = .ok (Ij (dg ns), []) := by
  have hf := dv (im := dO (af (aa 0) aq)) (g := cZ (aV (aE 1) (aV (aE 2) de)) 2) (body := bK) (s := ⟨[some (vI ns), none, none], []⟩) (ds := (ns.zipIdx 0).map fun p => .tup [.int (p.2 : Int), .int p.1]) (k := none) (s1 := ⟨[some (vI ns), none, none], []⟩) (by simp [tx])
  have go := AB none (vI ns) ns 0 none none
  cases e : dg ns with
  | none =>
    obtain ⟨y1, y2, e1⟩ := go.1 e
    refine cO (s := ⟨[some (vI ns), y1, y2], []⟩) ?_
    show cX ⟨[some (vI ns), none, none], []⟩ = _
    rw [cX, qj, hf]
    rw [show bt (okC ((ns.zipIdx 0).map fun p => D.tup [.int (p.2 : Int), .int p.1]) none) (cZ (aV (aE 1) (aV (aE 2) de)) 2) bK ((ns.zipIdx 0).map fun p => .tup [.int (p.2 : Int), .int p.1]) ⟨[some (vI ns), none, none], []⟩ = .next ⟨[some (vI ns), y1, y2], []⟩ from e1]
    rfl
  | some k =>
    obtain ⟨y1, y2, e1⟩ := go.2 k e
    refine cO (s := ⟨[some (vI ns), y1, y2], []⟩) ?_
    show cX ⟨[some (vI ns), none, none], []⟩ = _
    rw [cX, qj, hf]
    rw [show bt (okC ((ns.zipIdx 0).map fun p => D.tup [.int (p.2 : Int), .int p.1]) none) (cZ (aV (aE 1) (aV (aE 2) de)) 2) bK ((ns.zipIdx 0).map fun p => .tup [.int (p.2 : Int), .int p.1]) ⟨[some (vI ns), none, none], []⟩ = .ret (.int ((0 + k : Nat) : Int)) ⟨[some (vI ns), y1, y2], []⟩ from e1]
    rw [Nat.zero_add]; rfl
theorem ug (ns : List Int) (k : Nat) : ∃ c, bL [vI ns, .int (k : Int)] [] = .ok (.int c, []) ∧ (k < ns.length → c = nth ns k) := by
  by_cases h : k < ns.length
  · refine ⟨nth ns k, cO (s := ⟨[some (vI ns), some (.int (k : Int))], []⟩) ?_, fun _ => rfl⟩
    have hk : ((k : Int) < (ns.length : Int)) := by omega
    simp [gg, hk, kh h]
  · refine ⟨0, cO (s := ⟨[some (vI ns), some (.int (k : Int))], []⟩) ?_, fun z => absurd z h⟩
    have hk : ¬ ((k : Int) < (ns.length : Int)) := by omega
    simp [gg, hk]
theorem A8 (z : Int) : ∃ a c, fi [.int z] [] = .ok (.ptr 0, [.lst [.int a, .int c]]) := by
  refine ⟨z / 2 % 10 ^ 60 * (z % 2), z / 2 % 2147483647, cO (s := ⟨[some (.int z)], [.lst [.int (z / 2 % 10 ^ 60 * (z % 2)), .int (z / 2 % 2147483647)]]⟩) ?_⟩
  have hm : IntMulOk (z / 2 % 1000000000000000000000000000000000000000000000000000000000000) (z % 2) := dY (.inr (by omega))
  simp [jI, qZ, fD, jv, bJ hm]
theorem lH {O : au} {k : Nat} {a c m : Int} (hk : O[k]? = some (.lst [.int a, .int c])) (hm : 0 < m) : ∃ r a' c', aH [.ptr k, .int m] O = .ok (.int r, O.set k (.lst [.int a', .int c'])) ∧ 0 ≤ r ∧ r < m := by
  have h0 : ixD O (.ptr k) (.int 0) = .ok (.int a) := ni hk rfl
  have h1 : ixD O (.ptr k) (.int 1) = .ok (.int c) := ni hk rfl
  by_cases h : 0 < a
  · refine ⟨a % m, a / m, c, cO (s := ⟨[some (.ptr k), some (.int m), some (.int (a % m))], O.set k (.lst [.int (a / m), .int c])⟩) ?_, Int.emod_nonneg _ (by omega), Int.emod_lt_of_pos _ hm⟩
    have e1 := mY (i := 2) (m := aj fg (aj ixD (aa 0) (ao (.int 0))) (aa 1)) (s := ⟨[some (.ptr k), some (.int m), none], O⟩) (s' := ⟨[some (.ptr k), some (.int m), none], O⟩) (d := .int (a % m)) (by simp [h0, fD hm])
    have e2 : jR (aj gj (aj ixD (aa 0) (ao (.int 0))) (aa 1)) (mf (aa 0) (ao (.int 0))) ⟨[some (.ptr k), some (.int m), some (.int (a % m))], O⟩ = .next ⟨[some (.ptr k), some (.int m), some (.int (a % m))], O.set k (.lst [.int (a / m), .int c])⟩ := by
      rw [qz, show aj gj (aj ixD (aa 0) (ao (.int 0))) (aa 1) ⟨[some (.ptr k), some (.int m), some (.int (a % m))], O⟩ = .ok (.int (a / m), ⟨[some (.ptr k), some (.int m), some (.int (a % m))], O⟩) by simp [h0, iB (show m ≠ 0 by omega), mm hm], ak]
      rw [oC (k := k) (a := 0) (ds := [.int a, .int c]) (ag rfl) rfl hk (by simp)]
      rfl
    show bz ⟨[some (.ptr k), some (.int m), none], O⟩ = _
    rw [bz]
    refine nR (Eq.trans (vO (s' := ⟨[some (.ptr k), some (.int m), none], O⟩) (by simp [h0, h])) ?_)
    rw [fT e1]
    refine Eq.trans (fT e2) ?_
    exact b8 (ag rfl)
  · generalize hcc : (c * 48271 + 4099) % 2147483647 = c'
    have hc0 : 0 ≤ c' := by rw [← hcc]; exact Int.emod_nonneg _ (by decide)
    have hc1 : c' < 2147483647 := by rw [← hcc]; exact Int.emod_lt_of_pos _ (by decide)
    generalize hO : O.set k (.lst [.int a, .int c']) = O'
    have hk' : O'[k]? = some (.lst [.int a, .int c']) := by rw [← hO]; exact cP hk
    have h1' : ixD O' (.ptr k) (.int 1) = .ok (.int c') := ni hk' rfl
    refine ⟨c' * (c' / 65536 + 7) % 2147483629 / 32 % m, a, c', ?_, Int.emod_nonneg _ (by omega), Int.emod_lt_of_pos _ hm⟩
    rw [hO]
    refine cO (s := ⟨[some (.ptr k), some (.int m), none], O'⟩) ?_
    have e2 : jR (aj fg (aj dm (aj bB (aj ixD (aa 0) (ao (.int 1))) (ao (.int 48271))) (ao (.int 4099))) (ao (.int 2147483647))) (mf (aa 0) (ao (.int 1))) ⟨[some (.ptr k), some (.int m), none], O⟩ = .next ⟨[some (.ptr k), some (.int m), none], O'⟩ := by
      rw [qz, show aj fg (aj dm (aj bB (aj ixD (aa 0) (ao (.int 1))) (ao (.int 48271))) (ao (.int 4099))) (ao (.int 2147483647)) ⟨[some (.ptr k), some (.int m), none], O⟩ = .ok (.int c', ⟨[some (.ptr k), some (.int m), none], O⟩) by
        rw [← hcc]
        simp [h1, bJ (dY (i := c) (j := 48271) (.inr (by decide))), fD], ak]
      rw [oC (k := k) (a := 1) (ds := [.int a, .int c]) (ag rfl) rfl hk (by simp), ← hO]
      rfl
    show bz ⟨[some (.ptr k), some (.int m), none], O⟩ = _
    rw [bz]
    refine Eq.trans (fT (s' := ⟨[some (.ptr k), some (.int m), none], O⟩) (Eq.trans (vQ (s' := ⟨[some (.ptr k), some (.int m), none], O⟩) (by simp [h0, h])) rfl)) ?_
    refine Eq.trans (fT e2) ?_
    refine b8 ?_
    have hmm : IntMulOk c' (c' / 65536 + 7) := dY (.inl (by omega))
    simp [h1', qZ, bJ hmm, fD, fD hm]
theorem AW {O : au} {k : Nat} {a c wide : Int} (hk : O[k]? = some (.lst [.int a, .int c])) (hw : 0 < wide) (hw2 : wide ≤ 1000000000) : ∃ r a' c', dQ [.ptr k, .int wide] O = .ok (.int r, O.set k (.lst [.int a', .int c'])) ∧ Sz 31 r := by
  obtain ⟨w, a1, c1, e1, w0, w1⟩ := lH hk (m := 6) (by decide)
  have k1 : (O.set k (.lst [.int a1, .int c1]))[k]? = some (.lst [.int a1, .int c1]) := cP hk
  have s1 := mY (i := 2) (m := bE 2 aH (af (aa 0) (af (ao (.int 6)) aq))) (s := ⟨[some (.ptr k), some (.int wide), none], O⟩) (j8 (n := 2) (ds := [.ptr k, .int 6]) (s' := ⟨[some (.ptr k), some (.int wide), none], O⟩) (by simp) rfl e1)
  generalize hO1 : O.set k (.lst [.int a1, .int c1]) = O1 at *
  have hset : ∀ x y : Int, O1.set k (.lst [.int x, .int y]) = O.set k (.lst [.int x, .int y]) := fun x y => by rw [← hO1, List.set_set]
  have head : ∀ T, dA = T → dQ = runM 3 T := fun T h => by rw [dQ, h]
  by_cases h4 : w = 4
  · refine ⟨0, a1, c1, ?_, Sz.zero 31⟩
    rw [hO1]
    refine cO (s := ⟨[some (.ptr k), some (.int wide), some (.int w)], O1⟩) ?_
    show dA ⟨[some (.ptr k), some (.int wide), none], O⟩ = _
    rw [dA, fT s1]
    exact nR (Eq.trans (vO (s' := ⟨[some (.ptr k), some (.int wide), some (.int w)], O1⟩) (by simp [h4])) rfl)
  · have f4 : ifS (aU (aj eqD (aa 2) (ao (.int 4)))) (bN (ao (.int 0))) cu ⟨[some (.ptr k), some (.int wide), some (.int w)], O1⟩ = .next ⟨[some (.ptr k), some (.int wide), some (.int w)], O1⟩ := Eq.trans (vQ (s' := ⟨[some (.ptr k), some (.int wide), some (.int w)], O1⟩) (by simp [h4])) rfl
    by_cases h5 : w = 5
    · obtain ⟨r2, a2, c2, e2, p2, q2⟩ := lH k1 (m := 1000) (by decide)
      have k2 : (O1.set k (.lst [.int a2, .int c2]))[k]? = some (.lst [.int a2, .int c2]) := cP k1
      rw [hset] at e2 k2
      obtain ⟨r3, a3, c3, e3, p3, q3⟩ := lH k2 (m := 1000000) (by decide)
      have k3 : ((O.set k (.lst [.int a2, .int c2])).set k (.lst [.int a3, .int c3]))[k]? = some (.lst [.int a3, .int c3]) := cP k2
      rw [List.set_set] at e3 k3
      obtain ⟨r4, a4, c4, e4, p4, q4⟩ := lH k3 (m := 9) (by decide)
      rw [List.set_set] at e4
      refine ⟨(r2 * 1000000 + r3) % wide - r4, a4, c4, ?_, ?_⟩
      · refine cO (s := ⟨[some (.ptr k), some (.int wide), some (.int w)], O.set k (.lst [.int a4, .int c4])⟩) ?_
        show dA ⟨[some (.ptr k), some (.int wide), none], O⟩ = _
        rw [dA, fT s1]
        refine Eq.trans (fT f4) (nR (Eq.trans (vO (s' := ⟨[some (.ptr k), some (.int wide), some (.int w)], O1⟩) (by simp [h5])) ?_))
        refine b8 ?_
        have t2 := j8 (n := 2) (f := aH) (ma := af (aa 0) (af (ao (.int 1000)) aq)) (s := ⟨[some (.ptr k), some (.int wide), some (.int w)], O1⟩) (s' := ⟨[some (.ptr k), some (.int wide), some (.int w)], O1⟩) (ds := [.ptr k, .int 1000]) (by simp) rfl e2
        have t3 := j8 (n := 2) (f := aH) (ma := af (aa 0) (af (aj eN (ao (.int 10)) (ao (.int 6))) aq)) (s := ⟨[some (.ptr k), some (.int wide), some (.int w)], O.set k (.lst [.int a2, .int c2])⟩) (s' := ⟨[some (.ptr k), some (.int wide), some (.int w)], O.set k (.lst [.int a2, .int c2])⟩) (ds := [.ptr k, .int 1000000]) (by simp [jv]) rfl e3
        have t4 := j8 (n := 2) (f := aH) (ma := af (aa 0) (af (ao (.int 9)) aq)) (s := ⟨[some (.ptr k), some (.int wide), some (.int w)], O.set k (.lst [.int a3, .int c3])⟩) (s' := ⟨[some (.ptr k), some (.int wide), some (.int w)], O.set k (.lst [.int a3, .int c3])⟩) (ds := [.ptr k, .int 9]) (by simp) rfl e4
        have hmm : IntMulOk r2 1000000 := dY (.inr (by decide))
        have u1 : aj bB (bE 2 aH (af (aa 0) (af (ao (.int 1000)) aq))) (aj eN (ao (.int 10)) (ao (.int 6))) ⟨[some (.ptr k), some (.int wide), some (.int w)], O1⟩ = .ok (.int (r2 * 1000000), ⟨[some (.ptr k), some (.int wide), some (.int w)], O.set k (.lst [.int a2, .int c2])⟩) := by
          rw [jF, t2, ak]
          simp [jv, bJ hmm]
        have u2 : aj dm (aj bB (bE 2 aH (af (aa 0) (af (ao (.int 1000)) aq))) (aj eN (ao (.int 10)) (ao (.int 6)))) (bE 2 aH (af (aa 0) (af (aj eN (ao (.int 10)) (ao (.int 6))) aq))) ⟨[some (.ptr k), some (.int wide), some (.int w)], O1⟩ = .ok (.int (r2 * 1000000 + r3), ⟨[some (.ptr k), some (.int wide), some (.int w)], O.set k (.lst [.int a3, .int c3])⟩) := by
          rw [jF, u1, ak]
          dsimp only
          rw [t3, ak]
          rfl
        rw [jF, jF, u2, ak]
        dsimp only
        rw [ag (i := 1) rfl, ak]
        dsimp only
        rw [fD hw, ak, ak]
        dsimp only
        rw [t4, ak]
        rfl
      · unfold Sz
        have g1 : 0 ≤ (r2 * 1000000 + r3) % wide := Int.emod_nonneg _ (by omega)
        have g2 : (r2 * 1000000 + r3) % wide < wide := Int.emod_lt_of_pos _ hw
        have : (2 : Nat) ^ 31 = 2147483648 := by decide
        omega
    · have f5 : ifS (aU (aj eqD (aa 2) (ao (.int 5)))) (bN (aj mD (aj fg (aj dm (aj bB (bE 2 aH (af (aa 0) (af (ao (.int 1000)) aq))) (aj eN (ao (.int 10)) (ao (.int 6)))) (bE 2 aH (af (aa 0) (af (aj eN (ao (.int 10)) (ao (.int 6))) aq)))) (aa 1)) (bE 2 aH (af (aa 0) (af (ao (.int 9)) aq))))) cu ⟨[some (.ptr k), some (.int wide), some (.int w)], O1⟩ = .next ⟨[some (.ptr k), some (.int wide), some (.int w)], O1⟩ := Eq.trans (vQ (s' := ⟨[some (.ptr k), some (.int wide), some (.int w)], O1⟩) (by simp [h5])) rfl
      obtain ⟨r2, a2, c2, e2, p2, q2⟩ := lH k1 (m := 7) (by decide)
      rw [hset] at e2
      refine ⟨r2 - 3, a2, c2, ?_, ?_⟩
      · refine cO (s := ⟨[some (.ptr k), some (.int wide), some (.int w)], O.set k (.lst [.int a2, .int c2])⟩) ?_
        show dA ⟨[some (.ptr k), some (.int wide), none], O⟩ = _
        rw [dA, fT s1]
        refine Eq.trans (fT f4) (Eq.trans (fT f5) (b8 ?_))
        have t2 := j8 (n := 2) (f := aH) (ma := af (aa 0) (af (ao (.int 7)) aq)) (s := ⟨[some (.ptr k), some (.int wide), some (.int w)], O1⟩) (s' := ⟨[some (.ptr k), some (.int wide), some (.int w)], O1⟩) (ds := [.ptr k, .int 7]) (by simp) rfl e2
        rw [jF, t2, ak]
        rfl
      · unfold Sz
        have : (2 : Nat) ^ 31 = 2147483648 := by decide
        omega
def fN (O : au) (j : Nat) : Prop := ∃ a c : Int, O[j]? = some (.lst [.int a, .int c])
theorem gn {O : au} {j : Nat} {m : Int} (h : fN O j) (hm : 0 < m) : ∃ r O', aH [.ptr j, .int m] O = .ok (.int r, O') ∧ 0 ≤ r ∧ r < m ∧ fN O' j ∧ ∀ i, i ≠ j → O'[i]? = O[i]? := by
  obtain ⟨a, c, h⟩ := h
  obtain ⟨r, a', c', e, h1, h2⟩ := lH h hm
  exact ⟨r, _, e, h1, h2, ⟨a', c', cP h⟩, fun i hi => cF fun z => hi z.symm⟩
theorem zB {O : au} {j : Nat} {wide : Int} (h : fN O j) (hw : 0 < wide) (hw2 : wide ≤ 1000000000) : ∃ r O', dQ [.ptr j, .int wide] O = .ok (.int r, O') ∧ Sz 31 r ∧ fN O' j ∧ ∀ i, i ≠ j → O'[i]? = O[i]? := by
  obtain ⟨a, c, h⟩ := h
  obtain ⟨r, a', c', e, h1⟩ := AW h hw hw2
  exact ⟨r, _, e, h1, ⟨a', c', cP h⟩, fun i hi => cF fun z => hi z.symm⟩
theorem Aq (A : List (List Int)) {d : D} (h : cQ d = true) : bf [vII A, d] = true := by
  rw [dc, dc, gP, mK, h]
  rfl
theorem pq {O : au} : ∀ {L : List (Nat × List Int)}, Sto O L → bR O (bD L) = (L.map (·.2)).map vI
  | [], _ => by simp
  | p :: L, h => by
    have e := pq (L := L) fun q hq => h q (List.mem_cons_of_mem _ hq)
    have hp := h p List.mem_cons_self
    show bR O (.ptr p.1 :: bD L) = _
    rw [dr, e, hX hp]
    rfl
theorem CA {O : au} {L : List (Nat × List Int)} (h : Sto O L) (A : List (List Int)) : eqD O (.lst (bD L)) (vII A) = .ok (.bl (decide (L.map (·.2) = A))) := by
  have e : eqB O (.lst (bD L)) (vII A) = eqB O (vII (L.map (·.2))) (vII A) := by
    show fL O _ _ = fL O _ _
    unfold fL
    rw [d7, pq h]
    have q : res O (vII (L.map (·.2))) = vII (L.map (·.2)) := by rw [d7, qw]
    rw [q, q]
  unfold eqD
  rw [e, yV]
theorem yR (n : Nat) : ∀ L : List (Nat × List Int), eR n (bD L) = bD (L.map fun p => (n + p.1, p.2))
  | [] => by simp [eR]
  | p :: L => by
    show eR n (.ptr p.1 :: bD L) = _
    unfold eR
    rw [yR n L, fC]
    rfl
theorem xC {O S : au} {L : List (Nat × List Int)} (h : Sto O L) : Sto (S ++ O.map (shC S.length)) (L.map fun p => (S.length + p.1, p.2)) := fun q hq => by
  obtain ⟨p, hp, rfl⟩ := List.mem_map.mp hq
  dsimp only
  rw [List.getElem?_append_right (by omega), Nat.add_sub_cancel_left, List.getElem?_map, h p hp]
  simp
theorem uw {O S : au} {k : Nat} {L : List (Nat × List Int)} (h : O[k]? = some (.lst (bD L))) : (S ++ O.map (shC S.length))[S.length + k]? = some (.lst (bD (L.map fun p => (S.length + p.1, p.2)))) := by
  rw [List.getElem?_append_right (by omega), Nat.add_sub_cancel_left, List.getElem?_map, h]
  simp only [Option.map_some, uk, yR]
theorem zY {O : au} {k : Nat} {r : List Int} (h : O[k]? = some (.lst (r.map D.int))) : eW O [.ptr k] = .ok (vI r) := by
  unfold eW
  simp only [gB h]
theorem Cp {O : au} {j k : Nat} {many : Int} {ns : List Int} {x3 x4 x5 : Option D} (hb : fN O j) (hk : O[k]? = some (.lst (ns.map D.int))) (hjk : k ≠ j) (hl : ns.length ≤ 1000) :
    ∃ (r : Int) (O' : au) (y4 y5 : Option D), kj ⟨[some (.ptr j), some (.int many), some (.ptr k), x3, x4, x5], O⟩ = .next ⟨[some (.ptr j), some (.int many), some (.ptr k), x3, y4, y5], O'⟩ ∧ fN O' j ∧ O'[k]? = some (.lst ((ns ++ [r]).map D.int)) ∧ 0 ≤ r ∧ r ≤ 1000000 := by
  obtain ⟨w, O1, e1, w0, w1, b1, k1⟩ := gn hb (m := 8) (by decide)
  have h1 : setM 4 (bE 2 aH (af (aa 0) (af (ao (.int 8)) aq))) ⟨[some (.ptr j), some (.int many), some (.ptr k), x3, x4, x5], O⟩ = .next ⟨[some (.ptr j), some (.int many), some (.ptr k), x3, some (.int w), x5], O1⟩ := aX (eO (av (ag rfl) (av (aL _ _) (aC _))) e1 rfl) rfl
  have h2 : setM 5 (ao (.int 0)) ⟨[some (.ptr j), some (.int many), some (.ptr k), x3, some (.int w), x5], O1⟩ = .next ⟨[some (.ptr j), some (.int many), some (.ptr k), x3, some (.int w), some (.int 0)], O1⟩ := aX (aL _ _) rfl
  have h3 : ∃ r O2, ifS (aU (aj ltD (aa 4) (ao (.int 4)))) (setM 5 (aj dm (bE 2 aH (af (aa 0) (af (ao (.int 4)) aq))) (ao (.int 1)))) cu ⟨[some (.ptr j), some (.int many), some (.ptr k), x3, some (.int w), some (.int 0)], O1⟩ = .next ⟨[some (.ptr j), some (.int many), some (.ptr k), x3, some (.int w), some (.int r)], O2⟩ ∧ fN O2 j ∧ O2[k]? = O1[k]? ∧ 0 ≤ r ∧ r ≤ 1000000 := by
    have t : aU (aj ltD (aa 4) (ao (.int 4))) ⟨[some (.ptr j), some (.int many), some (.ptr k), x3, some (.int w), some (.int 0)], O1⟩ = .ok (decide (w < 4), ⟨[some (.ptr j), some (.int many), some (.ptr k), x3, some (.int w), some (.int 0)], O1⟩) := cM (aJ (ag rfl) (aL _ _) (lI _ _))
    by_cases h : w < 4
    · obtain ⟨v, O2, e2, v0, v1, b2, k2⟩ := gn b1 (m := 4) (by decide)
      exact ⟨v + 1, O2, lC t (decide_eq_true h) (aX (aJ (eO (av (ag rfl) (av (aL _ _) (aC _))) e2 rfl) (aL _ _) (jm _ _)) rfl), b2, k2 k hjk, by omega, by omega⟩
    · exact ⟨0, O1, dM t (decide_eq_false h) (bX _), b1, rfl, by decide, by decide⟩
  obtain ⟨r, O2, h3, b2, k2, r0, r1⟩ := h3
  have h4 : ∃ r' O3, ifS (aU (aj eqD (aa 4) (ao (.int 7)))) (setM 5 (bE 2 aH (af (aa 0) (af (aj eN (ao (.int 10)) (ao (.int 6))) aq)))) cu ⟨[some (.ptr j), some (.int many), some (.ptr k), x3, some (.int w), some (.int r)], O2⟩ = .next ⟨[some (.ptr j), some (.int many), some (.ptr k), x3, some (.int w), some (.int r')], O3⟩ ∧ fN O3 j ∧ O3[k]? = O2[k]? ∧ 0 ≤ r' ∧ r' ≤ 1000000 := by
    have t : aU (aj eqD (aa 4) (ao (.int 7))) ⟨[some (.ptr j), some (.int many), some (.ptr k), x3, some (.int w), some (.int r)], O2⟩ = .ok (decide (w = 7), ⟨[some (.ptr j), some (.int many), some (.ptr k), x3, some (.int w), some (.int r)], O2⟩) := eq_test (ag rfl)
    by_cases h : w = 7
    · obtain ⟨v, O3, e3, v0, v1, b3, k3⟩ := gn b2 (m := 1000000) (by decide)
      exact ⟨v, O3, lC t (decide_eq_true h) (aX (eO (av (ag rfl) (av (aJ (aL _ _) (aL _ _) (show eN O2 (.int 10) (.int 6) = .ok (.int 1000000) from jv (by decide) (by decide) (by decide))) (aC _))) e3 rfl) rfl), b3, k3 k hjk, by omega, by omega⟩
    · exact ⟨r, O2, dM t (decide_eq_false h) (bX _), b2, rfl, r0, r1⟩
  obtain ⟨r', O3, h4, b3, k3, p0, p1⟩ := h4
  have g3 : O3[k]? = some (.lst (ns.map D.int)) := by rw [k3, k2, k1 k hjk]; exact hk
  refine ⟨r', O3.set k (.lst (ns.map D.int ++ [.int r'])), some (.int w), some (.int r'), ?_, ?_, by rw [cP g3, List.map_append]; rfl, p0, p1⟩
  · rw [kj]
    exact aP h1 (aP h2 (aP h3 (aP h4 (gX (ow (ag rfl) g3 (ag rfl) g3 (by rw [List.length_map]; omega) rfl)))))
  · obtain ⟨a, c, h⟩ := b3
    exact ⟨a, c, by rw [cF hjk]; exact h⟩
theorem GK {O : au} {j many : Nat} (hb : fN O j) (h1 : 1 ≤ many) (h7 : many ≤ 1000) : ∃ (ns : List Int) (O' : au), jL [.ptr j, .int (many : Int)] O = .ok (vI (1 :: ns), O') ∧ ns.length + 1 = many ∧ (∀ a ∈ ns, 0 ≤ a ∧ a ≤ 1000000) ∧ fN O' j := by
  have jl : O.length ≠ j := by
    obtain ⟨a, c, h⟩ := hb
    have := jb h
    omega
  obtain ⟨s', el, ns, O1, x3, x4, x5, hl, hs', b1, g1, hn⟩ := jG (ok := okC (dj 0 ((many - 1 : Nat) : Int)) none) (g := aE 3) (body := kj)
    (fun pre s => ∃ (ns : List Int) (O1 : au) (x3 x4 x5 : Option D), pre.length = ns.length ∧ s = ⟨[some (.ptr j), some (.int (many : Int)), some (.ptr O.length), x3, x4, x5], O1⟩ ∧ fN O1 j ∧ O1[O.length]? = some (.lst ((1 :: ns).map D.int)) ∧ ∀ a ∈ ns, 0 ≤ a ∧ a ≤ 1000000) (fun _ _ _ => trivial) (dj 0 ((many - 1 : Nat) : Int)) [] (by
      rintro pre d rest ed s ⟨ns, O1, x3, x4, x5, hl, rfl, b1, g1, hn⟩
      have pl : pre.length + rest.length + 1 = many - 1 := by
        have := congrArg List.length ed
        rw [List.nil_append, fR, List.length_append, List.length_cons] at this
        omega
      obtain ⟨r, O2, y4, y5, e2, b2, g2, r0, r1⟩ := Cp (many := (many : Int)) (x3 := some d) (x4 := x4) (x5 := x5) b1 g1 jl (by rw [List.length_cons]; omega)
      refine ⟨⟨[some (.ptr j), some (.int (many : Int)), some (.ptr O.length), some d, x4, x5], O1⟩, _, rfl, .inl e2, ns ++ [r], O2, _, _, _, by simp [hl], rfl, b2, g2, fun a ha => ?_⟩
      rcases List.mem_append.mp ha with q | q
      · exact hn a q
      · rw [List.mem_singleton.mp q]; exact ⟨r0, r1⟩) ⟨[some (.ptr j), some (.int (many : Int)), some (.ptr O.length), none, none, none], O ++ [.lst [.int 1]]⟩ ⟨[], _, none, none, none, rfl, rfl, by
        obtain ⟨a, c, h⟩ := hb
        exact ⟨a, c, dt h⟩, by simp, by simp⟩
  rw [List.nil_append, fR] at hl
  subst hs'
  refine ⟨ns, O1.set O.length .dead, ?_, by omega, hn, ?_⟩
  · refine fe (R := [some (.ptr j), some (.int (many : Int)), some (.ptr O.length), x3, x4, x5]) ?_
    show kA ⟨[some (.ptr j), some (.int (many : Int)), none, none, none, none], O⟩ = _
    rw [kA]
    refine aP (aX (oR (av (aL _ _) (aC _)) (by simp) rfl rfl) rfl) (aP ?_ (b8 (kq (ag rfl) g1 rfl)))
    refine (dv (im := jP (af (aj mD (aa 1) (ao (.int 1))) aq)) (ds := dj 0 ((many - 1 : Nat) : Int)) (k := none) (s1 := ⟨[some (.ptr j), some (.int (many : Int)), some (.ptr O.length), none, none, none], O ++ [.lst [.int 1]]⟩) (kb (n := many - 1) (av (aJ (ag rfl) (aL _ _) ?_) (aC _)) (by omega))).trans el
    rw [v7]
    congr 2
    omega
  · obtain ⟨a, c, h⟩ := b1
    exact ⟨a, c, by rw [cF jl]; exact h⟩
theorem BQ {caps : List Nat} {im : IM} {e : EM} {s : S} {ds : List D} {k : Option Nat} (PO : au → Prop) (Q : Int → Prop) (him : im s = .ok ((ds, k), s)) (hok : ∀ O, PO O → okC ds k O) (h0 : PO s.o) (hl : ds.length ≤ 1000000)
    (he : ∀ d ∈ ds, ∀ O, PO O → ∃ r O', e ⟨some d :: caps.map (fun i => (s.r[i]?).getD none), O⟩ = .ok (.int r, ⟨some d :: caps.map (fun i => (s.r[i]?).getD none), O'⟩) ∧ Q r ∧ PO O') :
    ∃ (ns : List Int) (O' : au), jO 1 caps im (aE 0) bT e s = .ok (.ptr O'.length, ⟨s.r, O' ++ [.lst (ns.map D.int)]⟩) ∧ ns.length = ds.length ∧ (∀ n ∈ ns, Q n) ∧ PO O' := by
  obtain ⟨outs, s', e1, h1, h2, x, O', h3, h4⟩ := uX (ok := okC ds k) (g := aE 0) (c := bT) (e := e) (fun s2 => ∃ x O', s2 = ⟨x :: caps.map (fun i => (s.r[i]?).getD none), O'⟩ ∧ PO O') (fun y => ∃ r, y = .int r ∧ Q r) (by rintro _ ⟨_, O', rfl, h⟩; exact hok O' h) ds [] ⟨j1 1 caps s.r, s.o⟩ (by
    rintro d hd _ ⟨x, O', rfl, h⟩
    obtain ⟨r, O2, q1, q2, q3⟩ := he d hd O' h
    exact ⟨_, _, .int r, _, rfl, rfl, q1, ⟨r, rfl, q2⟩, _, O2, rfl, q3⟩) (by simpa using zw hl) ⟨none, s.o, rfl, h0⟩
  obtain ⟨ns, rfl, hn⟩ := yY h2
  refine ⟨ns, O', ?_, by simpa using h1, hn, h4⟩
  rw [rq, nU, him, ak]
  dsimp only
  rw [e1, ak, ak]
  subst h3
  rfl
theorem AK (n : Nat) (f : Nat → Int) : ((List.range n).map f).sum = cV n f := by
  induction n with
  | zero => rfl
  | succ n ih => rw [List.range_succ, List.map_append, List.sum_append, ih]; simp [cV]
theorem CQ (os fs : List Int) : ((List.range fs.length).map fun k => nth os k * nth fs k).sum = aD os fs := by
  rw [AK, sx]
theorem Ax (a b : Int) (x y : List Int) : aD (a :: x) (b :: y) = a * b + aD x y := by
  unfold aD
  rw [List.zipWith_cons_cons, List.sum_cons]
theorem HR {b : Nat} {x : Int} (h : Sz b x) : Sz (b + 2) (3 * x) := by
  unfold Sz at *
  rw [Nat.pow_add]
  omega
abbrev fQ (cs fs : List Int) (cnt wide : Int) (at_ : Nat) (x6 x7 : Option D) : List (Option D) := [some (vI cs), some (vI (1 :: fs)), some (.int cnt), some (.int wide), some (.ptr 0), some (.int (at_ : Int)), x6, x7]
theorem FH (n : Nat) : dj 1 ((n + 1 : Nat) : Int) = (List.range n).map fun k : Nat => D.int ((k + 1 : Nat) : Int) := by
  unfold dj
  rw [show (((n + 1 : Nat) : Int) - 1).toNat = n by omega]
  refine List.map_congr_left fun k _ => ?_
  congr 1
  omega
theorem De {m : AM} {s s1 : S} {n : Nat} (h : m s = .ok ([.int 1, .int (n : Int)], s1)) (hn : n ≤ 1000000) : tZ m s = .ok ((dj 1 (n : Int), none), s1) := by
  unfold tZ
  rw [h, ak]
  dsimp only
  rw [if_pos (by omega)]
theorem yn {cs fs : List Int} (hcs : 0 < cs.length) {at_ : Nat} {cnt wide : Int} {made : List (List Int)} {O : au} {x6 x7 : Option D} (hO : O[0]? = some (.lst (made.map vI))) (hf : fs.length ≤ 100) (hfs : SzL 20 fs) (hc : made.length ≤ 100) (hw : 0 < wide) (hw2 : wide ≤ 1000000000)
    (hl : ∀ r ∈ made, r.length = fs.length + 1) (hs : fO (31 + 33 * made.length) made) :
    ∃ r O' y6 y7, iL ⟨fQ cs fs cnt wide at_ x6 x7, O⟩ = .next ⟨fQ cs fs cnt wide at_ y6 y7, O'⟩ ∧ O'[0]? = some (.lst ((made ++ [r]).map vI)) ∧ r.length = fs.length + 1 ∧ SzL (31 + 33 * made.length + 33) r ∧ aD r (1 :: fs) = 0 := by
  have hi : ((at_ : Int) % (cs.length : Int)) = ((at_ % cs.length : Nat) : Int) := by simp
  have hlt : at_ % cs.length < cs.length := Nat.mod_lt _ hcs
  have hO0 : 0 < O.length := jb hO
  obtain ⟨a0, c0, eb⟩ := A8 (nth cs (at_ % cs.length) + 500009 * ((at_ : Int) / (cs.length : Int)))
  have hmm : IntMulOk 500009 ((at_ : Int) / (cs.length : Int)) := dY (.inl (by decide))
  have hp : (0 : Int) < (cs.length : Int) := by omega
  have len0 : bj cD (af (aa 0) aq) ⟨fQ cs fs cnt wide at_ x6 x7, O⟩ = .ok (.int (cs.length : Int), ⟨fQ cs fs cnt wide at_ x6 x7, O⟩) := by
    refine dN (av (ag rfl) (aC _)) ?_
    rw [gS, List.length_map]
  have e6 : setM 6 (dC 1 fi (af (aj dm (aj ixD (aa 0) (aj fg (aa 5) (bj cD (af (aa 0) aq)))) (aj bB (ao (.int 500009)) (aj gj (aa 5) (bj cD (af (aa 0) aq))))) aq)) ⟨fQ cs fs cnt wide at_ x6 x7, O⟩ = .next ⟨fQ cs fs cnt wide at_ (some (.ptr O.length)) x7, O ++ [.lst [.int a0, .int c0]]⟩ := by
    refine aX (gz (av (aJ (aJ (ag rfl) (aJ (ag rfl) len0 (d := .int ((at_ % cs.length : Nat) : Int)) ?_) (kh hlt)) (aJ (aL _ _) (aJ (ag rfl) len0 (d := .int ((at_ : Int) / (cs.length : Int))) ?_) (bJ hmm)) (jm _ _)) (aC _)) eb (by simp) rfl (fC _ _) ?_) rfl
    · rw [fD hp, hi]
    · rw [iB (show (cs.length : Int) ≠ 0 by omega), mm hp]
    · simp [shC, eR, shD]
  have b1 : fN (O ++ [.lst [.int a0, .int c0]]) O.length := ⟨a0, c0, oZ⟩
  have g1 : (O ++ [Cell.lst [.int a0, .int c0]])[0]? = some (.lst (made.map vI)) := dt hO
  generalize hj : O.length = j at *
  generalize O ++ [Cell.lst [.int a0, .int c0]] = O1 at *
  have hne : (0 : Nat) ≠ j := by omega
  obtain ⟨one, O2, e7, l7, s7, b2, g2⟩ := BQ (caps := [6, 3]) (im := listI (aa 1)) (e := bE 2 dQ (af (aa 1) (af (aa 2) aq))) (s := ⟨fQ cs fs cnt wide at_ (some (.ptr j)) x7, O1⟩) (ds := (1 :: fs).map D.int) (k := none)
    (fun O' => fN O' j ∧ O'[0]? = some (.lst (made.map vI))) (Sz 31) (by rw [bW, ag (i := 1) rfl, ak]; rfl) (fun _ _ => trivial) ⟨b1, g1⟩ (by simp; omega) (fun d _ O' ⟨hb, hg⟩ => by
      obtain ⟨r, O2, en, q1, q2, q3⟩ := zB hb hw hw2
      exact ⟨r, O2, eO (av (ag rfl) (av (ag rfl) (aC _))) en rfl, q1, q2, by rw [q3 0 hne]; exact hg⟩)
  have l7 : one.length = fs.length + 1 := by simpa using l7
  have e7 := aX (i := 7) e7 rfl
  dsimp only at e7
  have jl : j < O2.length := by
    obtain ⟨a, c, h⟩ := b2
    exact jb h
  have b2' : fN (O2 ++ [.lst (one.map D.int)]) j := by
    obtain ⟨a, c, h⟩ := b2
    exact ⟨a, c, dt h⟩
  have g2' : (O2 ++ [Cell.lst (one.map D.int)])[0]? = some (.lst (made.map vI)) := dt g2
  have c2' : (O2 ++ [Cell.lst (one.map D.int)])[O2.length]? = some (.lst (one.map D.int)) := oZ
  generalize hk : O2.length = k at *
  generalize O2 ++ [Cell.lst (one.map D.int)] = O2' at *
  obtain ⟨w, O3, e8, w0, w1, b3, k3⟩ := gn b2' (m := 7) (by decide)
  have g3 : O3[0]? = some (.lst (made.map vI)) := by rw [k3 0 hne]; exact g2'
  have c3 : O3[k]? = some (.lst (one.map D.int)) := by rw [k3 k (by omega)]; exact c2'
  have d8 : aU (aj eqD (bE 2 aH (af (aa 6) (af (ao (.int 7)) aq))) (ao (.int 6))) ⟨fQ cs fs cnt wide at_ (some (.ptr j)) (some (.ptr k)), O2'⟩ = .ok (decide (w = 6), ⟨fQ cs fs cnt wide at_ (some (.ptr j)) (some (.ptr k)), O3⟩) := eq_test (eO (av (ag rfl) (av (aL _ _) (aC _))) e8 rfl)
  have d9 : aU (aj gtD (bj cD (af (aa 4) aq)) (ao (.int 0))) ⟨fQ cs fs cnt wide at_ (some (.ptr j)) (some (.ptr k)), O3⟩ = .ok (decide (0 < ((made.map vI).length : Int)), ⟨fQ cs fs cnt wide at_ (some (.ptr j)) (some (.ptr k)), O3⟩) := jM (dN (av (ag rfl) (aC _)) (xm g3))
  have st : ∃ two O4 k', ifS (mX (aU (aj eqD (bE 2 aH (af (aa 6) (af (ao (.int 7)) aq))) (ao (.int 6)))) (aU (aj gtD (bj cD (af (aa 4) aq)) (ao (.int 0))))) (setM 7 (jO 1 [] (listI (aj ixD (aa 4) (unM oy (ao (.int 1))))) (aE 0) bT (aj bB (ao (.int 3)) (aa 0)))) cu ⟨fQ cs fs cnt wide at_ (some (.ptr j)) (some (.ptr k)), O2'⟩ = .next ⟨fQ cs fs cnt wide at_ (some (.ptr j)) (some (.ptr k')), O4⟩ ∧ O4[0]? = some (.lst (made.map vI)) ∧ O4[k']? = some (.lst (two.map D.int)) ∧ 0 ≠ k' ∧ two.length = fs.length + 1 ∧ SzL (31 + 33 * made.length + 2) two := by
    have keep : SzL (31 + 33 * made.length + 2) one := fun x hx => (s7 x hx).mono (by omega)
    by_cases h6 : w = 6
    · by_cases hm : 0 < ((made.map vI).length : Int)
      · have hm' : 0 < made.length := by rw [List.length_map] at hm; omega
        have a1 : atI (made.map vI) (-1) = some (vI (made[made.length - 1])) := by
          have := El (l := made.map vI) (i := 1) (by decide) (by simp; omega)
          rw [show (-((1 : Nat) : Int)) = -1 by rfl] at this
          rw [this]; simp
        have m1 : made[made.length - 1] ∈ made := List.getElem_mem _
        generalize made[made.length - 1] = p1 at a1 m1
        have q7 := A5 (l := p1) (item := D.int) (out := fun x => .int (3 * x)) (caps := []) (im := listI (aj ixD (aa 4) (unM oy (ao (.int 1))))) (e := aj bB (ao (.int 3)) (aa 0)) (k := none) (s := ⟨fQ cs fs cnt wide at_ (some (.ptr j)) (some (.ptr k)), O3⟩) (by
          rw [bW, aJ (s2 := ⟨fQ cs fs cnt wide at_ (some (.ptr j)) (some (.ptr k)), O3⟩) (ag (i := 4) rfl) (vY (aL _ _) (xc _)) (ni g3 a1), ak]; rfl) trivial (by have := hl p1 m1; omega) (fun x _ => aJ (aL _ _) (ag rfl) (bJ (dY (.inl (by decide)))))
        rw [show p1.map (fun x => D.int (3 * x)) = (p1.map (3 * ·)).map D.int by rw [List.map_map]; rfl] at q7
        refine ⟨p1.map (3 * ·), _, _, lC (sI d8 (decide_eq_true h6) d9) (decide_eq_true hm) (aX q7 rfl), dt g3, oZ, ?_, by rw [List.length_map]; exact hl p1 m1, fun x hx => ?_⟩
        · have := jb g3
          show 0 ≠ O3.length
          omega
        · obtain ⟨y, hy, rfl⟩ := List.mem_map.mp hx
          exact HR (hs p1 m1 y hy)
      · exact ⟨one, O3, k, dM (sI d8 (decide_eq_true h6) d9) (decide_eq_false hm) (bX _), g3, c3, by omega, l7, keep⟩
    · exact ⟨one, O3, k, dM (Bq d8 (decide_eq_false h6)) rfl (bX _), g3, c3, by omega, l7, keep⟩
  obtain ⟨two, O4, k', e9, g4, c4, n4, l4, s4⟩ := st
  cases two with
  | nil => exact absurd l4 (by simp)
  | cons o os =>
    have lo : os.length = fs.length := by simpa using l4
    have so : SzL (31 + 33 * made.length + 2) os := fun x hx => s4 x (List.mem_cons_of_mem _ hx)
    have hsum := gc (l := List.range fs.length) (item := fun k : Nat => D.int ((k + 1 : Nat) : Int)) (out := fun k => .int (nth os k * nth fs k)) (caps := [1, 7]) (im := tZ (af (ao (.int 1)) (af (bj cD (af (aa 1) aq)) aq))) (e := aj bB (aj ixD (aa 2) (aa 0)) (aj ixD (aa 1) (aa 0))) (k := none) (s := ⟨fQ cs fs cnt wide at_ (some (.ptr j)) (some (.ptr k')), O4⟩) (by
      rw [De (n := fs.length + 1) (s1 := ⟨fQ cs fs cnt wide at_ (some (.ptr j)) (some (.ptr k')), O4⟩) (av (aL _ _) (av (dN (av (ag rfl) (aC _)) (by rw [gS, List.length_map]; rfl)) (aC _))) (by omega), FH]) trivial (by rw [List.length_range]; omega) (fun i hi => by
        have hi' := List.mem_range.mp hi
        refine aJ (aJ (ag rfl) (ag rfl) (d := .int (nth os i)) (ni c4 ?_)) (aJ (ag rfl) (ag rfl) (d := .int (nth fs i)) (kh (r := 1 :: fs) (i := i + 1) (by simp; omega))) (bJ (eS (m := 31 + 33 * made.length + 2) (n := 20) (by omega) (by decide) (so _ (dH (by omega))) (hfs _ (dH hi'))))
        rw [r8 (by simp; omega)]
        simp [nth, List.getD_eq_getElem?_getD, lo, hi'])
    rw [show (List.range fs.length).map (fun k => D.int (nth os k * nth fs k)) = ((List.range fs.length).map fun k => nth os k * nth fs k).map D.int by rw [List.map_map]; rfl] at hsum
    have eput : jR (unM oy (bj vT (af (cf 1 [1, 7] (tZ (af (ao (.int 1)) (af (bj cD (af (aa 1) aq)) aq))) (aE 0) bT (aj bB (aj ixD (aa 2) (aa 0)) (aj ixD (aa 1) (aa 0)))) aq))) (mf (aa 7) (ao (.int 0))) ⟨fQ cs fs cnt wide at_ (some (.ptr j)) (some (.ptr k')), O4⟩ = .next ⟨fQ cs fs cnt wide at_ (some (.ptr j)) (some (.ptr k')), O4.set k' (.lst ((-(aD os fs) :: os).map D.int))⟩ := by
      rw [qz, vY (dN (av hsum (aC _)) (uC _ _)) (xc _), ak]
      dsimp only
      rw [oC (k := k') (a := 0) (ds := (o :: os).map D.int) (s1 := ⟨fQ cs fs cnt wide at_ (some (.ptr j)) (some (.ptr k')), O4⟩) (s2 := ⟨fQ cs fs cnt wide at_ (some (.ptr j)) (some (.ptr k')), O4⟩) (ag (i := 7) rfl) rfl c4 (by simp), CQ]
      rfl
    have c5 : (O4.set k' (Cell.lst ((-(aD os fs) :: os).map D.int)))[k']? = some (.lst ((-(aD os fs) :: os).map D.int)) := cP c4
    have g5 : (O4.set k' (Cell.lst ((-(aD os fs) :: os).map D.int)))[0]? = some (.lst (made.map vI)) := by rw [cF (fun z => n4 z.symm)]; exact g4
    generalize O4.set k' (Cell.lst ((-(aD os fs) :: os).map D.int)) = O5 at *
    have g6 : (O5.set k' Cell.dead)[0]? = some (.lst (made.map vI)) := by rw [cF (fun z => n4 z.symm)]; exact g5
    refine ⟨-(aD os fs) :: os, (O5.set k' .dead).set 0 (.lst (made.map vI ++ [vI (-(aD os fs) :: os)])), some (.ptr j), some (.ptr k'), ?_, by rw [cP g6, List.map_append]; rfl, by simp [lo], fun x hx => ?_, ?_⟩
    · rw [iL]
      exact aP e6 (aP e7 (aP e9 (aP eput (gX (ow (ag rfl) g5 (kq (ag rfl) c5 rfl) g6 (by rw [List.length_map]; omega) rfl)))))
    · rcases List.mem_cons.mp hx with rfl | hx
      · exact ((pK so hfs (by omega)).neg).mono (by omega)
      · exact (so x hx).mono (by omega)
    · rw [Ax]; omega
theorem AA {cs fs : List Int} (hcs : 0 < cs.length) {cnt : Nat} {wide : Int} (hf : fs.length ≤ 100) (hfs : SzL 20 fs) (hc : cnt ≤ 5) (hw : 0 < wide) (hw2 : wide ≤ 1000000000) :
    ∃ made O, gx [vI cs, vI (1 :: fs), .int (cnt : Int), .int wide] [] = .ok (vII made, O) ∧ made.length = cnt ∧ (∀ r ∈ made, r.length = fs.length + 1) ∧ fO 200 made ∧ ∀ r ∈ made, aD r (1 :: fs) = 0 := by
  obtain ⟨s', el, made, O, x5, x6, x7, hpl, hs', h2, h3, h4, h5⟩ := jG (ok := okC (dj 0 (cnt : Int)) none) (g := aE 5) (body := iL)
    (fun pre s => ∃ (made : List (List Int)) (O : au) (x5 x6 x7 : Option D), made.length = pre.length ∧ s = ⟨[some (vI cs), some (vI (1 :: fs)), some (.int (cnt : Int)), some (.int wide), some (.ptr 0), x5, x6, x7], O⟩ ∧ O[0]? = some (.lst (made.map vI)) ∧ (∀ r ∈ made, r.length = fs.length + 1) ∧ fO (31 + 33 * made.length) made ∧ ∀ r ∈ made, aD r (1 :: fs) = 0) (fun _ _ _ => trivial) (dj 0 (cnt : Int)) [] (by
      rintro pre d rest ed s ⟨made, O, x5, x6, x7, hl, rfl, h2, h3, h4, h5⟩
      have hd : d ∈ dj 0 (cnt : Int) := by rw [List.nil_append] at ed; rw [ed]; simp
      rw [qJ] at hd
      obtain ⟨i, _, rfl⟩ := List.mem_map.mp hd
      have pl : pre.length + rest.length + 1 = cnt := by
        have := congrArg List.length ed
        rw [List.nil_append, fR, List.length_append, List.length_cons] at this
        omega
      obtain ⟨r, O', y6, y7, eb, q1, q2, q3, q4⟩ := yn (at_ := i) (cnt := (cnt : Int)) (x6 := x6) (x7 := x7) hcs h2 hf hfs (by omega) hw hw2 h3 h4
      refine ⟨⟨fQ cs fs cnt wide i x6 x7, O⟩, _, rfl, .inl eb, made ++ [r], O', _, y6, y7, by simp [hl], rfl, q1, fun q hq => ?_, fun q hq => ?_, fun q hq => ?_⟩
      · rcases List.mem_append.mp hq with z | z
        · exact h3 q z
        · rw [List.mem_singleton.mp z]; exact q2
      · rcases List.mem_append.mp hq with z | z
        · exact (h4 q z).mono (by rw [List.length_append]; omega)
        · rw [List.mem_singleton.mp z]; exact q3.mono (by rw [List.length_append, List.length_singleton]; omega)
      · rcases List.mem_append.mp hq with z | z
        · exact h5 q z
        · rw [List.mem_singleton.mp z]; exact q4) ⟨[some (vI cs), some (vI (1 :: fs)), some (.int (cnt : Int)), some (.int wide), some (.ptr 0), none, none, none], [.lst []]⟩ ⟨[], _, none, none, none, rfl, rfl, rfl, by simp, (fun _ h => by cases h), by simp⟩
  rw [List.nil_append, fR] at hpl
  subst hs'
  refine ⟨made, O.set 0 .dead, ?_, by omega, h3, fun q hq => (h4 q hq).mono (by omega), h5⟩
  refine fe (R := [some (vI cs), some (vI (1 :: fs)), some (.int (cnt : Int)), some (.int wide), some (.ptr 0), x5, x6, x7]) ?_
  show iG ⟨[some (vI cs), some (vI (1 :: fs)), some (.int (cnt : Int)), some (.int wide), none, none, none, none], []⟩ = _
  rw [iG]
  refine aP (aX (oR (aC _) (by simp) rfl rfl) rfl) (aP ?_ (b8 (kq (ag rfl) h2 rfl)))
  exact (dv (im := jP (af (aa 2) aq)) (ds := dj 0 (cnt : Int)) (k := none) (s1 := ⟨[some (vI cs), some (vI (1 :: fs)), some (.int (cnt : Int)), some (.int wide), some (.ptr 0), none, none, none], [.lst []]⟩) (kb (n := cnt) (av (ag rfl) (aC _)) (by omega))).trans el
def dh (t : Nat) (r : List Int) : List Int := r.drop t ++ r.take t
theorem BL {rows : List (List Int)} {t n : Nat} (hl : ∀ r ∈ rows, r.length = n) (ht : t ≤ n) (hn : n ≤ 1000) (hc : rows.length ≤ 1000) : gM [vII rows, .int (t : Int)] [] = .ok (vII (rows.map (dh t)), []) := by
  have hcp := gc (l := rows) (item := vI) (out := fun r => vI (dh t r)) (caps := [1]) (im := listI (aa 0)) (e := aj dm (slM (aa 0) (part (aa 1)) gG) (slM (aa 0) gG (part (aa 1)))) (k := none) (s := ⟨[some (vII rows), some (.int (t : Int))], []⟩) (by rw [bW, ag (i := 0) rfl, ak]; rfl) trivial (by omega) (fun r hr => by
    have rl := hl r hr
    refine aJ (ua (ag rfl) (mr (ag rfl)) (mx _) fv (uW (by omega))) (ua (ag rfl) (mx _) (mr (ag rfl)) fv px) ?_
    rw [n8 (by simp; omega), ← List.map_append]
    rfl)
  rw [show rows.map (fun r => vI (dh t r)) = (rows.map (dh t)).map vI by rw [List.map_map]; rfl] at hcp
  refine fe (R := [some (vII rows), some (.int (t : Int))]) ?_
  show iF ⟨[some (vII rows), some (.int (t : Int))], []⟩ = _
  rw [iF]
  exact b8 hcp
theorem xv {t : Nat} {r : List Int} (h : t ≤ r.length) : (dh t r).length = r.length := by
  unfold dh
  rw [List.length_append, List.length_drop, List.length_take]
  omega
theorem nL {t : Nat} {r : List Int} {x : Int} : x ∈ dh t r ↔ x ∈ r := by
  unfold dh
  rw [List.mem_append, or_comm, ← List.mem_append, List.take_append_drop]
theorem xo {a b c d : List Int} (h : a.length = c.length) : aD (a ++ b) (c ++ d) = aD a c + aD b d := by
  unfold aD
  rw [List.zipWith_append h, List.sum_append]
theorem CT {t : Nat} {r x : List Int} (h : r.length = x.length) : aD (dh t r) (dh t x) = aD r x := by
  unfold dh
  have e : aD r x = aD (r.take t ++ r.drop t) (x.take t ++ x.drop t) := by rw [List.take_append_drop, List.take_append_drop]
  rw [e, xo (by rw [List.length_drop, List.length_drop, h]), xo (by rw [List.length_take, List.length_take, h])]
  omega
theorem Du {t n : Nat} {rows : List (List Int)} {fs : List Int} (hf : fs.length + 1 = n) (h0 : ∀ a ∈ fs, 0 ≤ a) (hl : ∀ r ∈ rows, r.length = n) (hd : ∀ r ∈ rows, aD r (1 :: fs) = 0) (ht : t ≤ n) : Fit n (rows.map (dh t)) (dh t (1 :: fs)) := by
  have len : (dh t (1 :: fs)).length = n := by rw [xv (by simp; omega)]; simpa using hf
  refine ⟨len, fun i => ?_, fun q hq => ?_, ?_⟩
  · by_cases hi : i < (dh t (1 :: fs)).length
    · have := nL.mp (dH hi)
      rcases List.mem_cons.mp this with h | h
      · rw [h]; decide
      · exact h0 _ h
    · rw [cI (by omega)]; decide
  · obtain ⟨r, hr, rfl⟩ := List.mem_map.mp hq
    rw [← lS len, CT (by rw [hl r hr]; simp; omega), hd r hr]
  · have : (1 : Int) ∈ dh t (1 :: fs) := nL.mpr List.mem_cons_self
    obtain ⟨i, hi, e⟩ := List.getElem_of_mem this
    refine ⟨i, ?_⟩
    unfold nth
    rw [List.getD_eq_getElem?_getD, List.getElem?_eq_getElem hi, e]
    decide
theorem ou (V : List (List Int)) : (lq V).Perm V := by
  unfold lq
  have := (fY (V.map fun x => ((), x))).map (·.2)
  rw [List.map_map, show ((fun x : Unit × List Int => x.2) ∘ fun x => ((), x)) = id from rfl, List.map_id] at this
  exact this
theorem zE (i : Int) : fZ [.int i] [] = .ok (.bl true, []) := by
  refine cO (s := ⟨[some (.int i)], []⟩) ?_
  simp [jS]
theorem Cg {a b : Int} (hb : 0 < b) : j6 [.int a, .int b] [] = .ok (.tup [.int (rat a b).1, .int (rat a b).2], []) := by
  have hg : 0 < Int.gcd a b := Int.gcd_pos_of_ne_zero_right a (by omega)
  have nb : ¬ b < 0 := by omega
  have c1 : ∀ (i : Nat) (x : Int) {R : List (Option D)}, R[i]? = some (some (.int x)) → bF 1 fZ (af (aa i) aq) ⟨R, []⟩ = .ok (.bl true, ⟨R, []⟩) := fun i x R hR => eP (av (ag hR) (aC _)) (zE x) (by simp) rfl rfl
  refine fe (R := [some (.int a), some (.int b), some (.int (Int.gcd a b : Nat))]) ?_
  show nq ⟨[some (.int a), some (.int b), none], []⟩ = _
  rw [nq]
  refine aP (dM (jX (jY (cM (c1 0 a rfl))) rfl (jY (cM (c1 1 b rfl)))) rfl (bX _)) (aP (dM (eq_test (ag rfl)) (decide_eq_false (by omega)) (bX _)) (aP (aX (eP (av (ag rfl) (av (ag rfl) (aC _))) (mot a b) (by simp) rfl rfl) rfl) (aP (dM (cM (aJ (ag rfl) (aL _ _) (lI _ _))) (decide_eq_false nb) (bX _)) ?_)))
  refine b8 (D5 (av (aJ (ag rfl) (ag rfl) (d := .int (rat a b).1) ?_) (av (aJ (ag rfl) (ag rfl) (d := .int (rat a b).2) ?_) (aC _))) (by simp))
  · rw [iB (by omega)]
    unfold rat
    rw [if_neg nb]
  · rw [iB (by omega)]
    unfold rat
    rw [if_neg nb]
theorem CH {n : Nat} {rows : List (List Int)} {fit : List Int} (h : lR n rows) (hl : fit.length = n) (h0 : ∀ a ∈ fit, 0 ≤ a) (hs : ∀ r ∈ rows, aD r fit = 0) {c : Nat} (hz : SzL c fit) (hc : c ≤ 1000000) : jd [vII rows, .int (n : Int), vI fit] [] = .ok (.non, []) := by
  have n7 := h.n7
  have e1 := gc (l := fit) (item := D.int) (out := fun _ => .bl false) (caps := []) (im := listI (aa 2)) (e := aj ltD (aa 0) (ao (.int 0))) (k := none) (s := ⟨[some (vII rows), some (.int (n : Int)), some (vI fit)], []⟩) (by rw [bW, ag (i := 2) rfl, ak]; rfl) trivial (by omega) (fun a ha => by
    refine aJ (ag rfl) (aL _ _) ?_
    rw [lI, decide_eq_false (by have := h0 a ha; omega)])
  rw [show fit.map (fun _ => D.bl false) = (fit.map fun _ => false).map D.bl by rw [List.map_map]; rfl] at e1
  have e2 := gc (l := rows) (item := vI) (out := fun _ => .bl false) (caps := [2]) (im := listI (aa 0)) (e := aj neD (dJ 2 bU (af (aa 0) (af (aa 1) aq))) (ao (.int 0))) (k := none) (s := ⟨[some (vII rows), some (.int (n : Int)), some (vI fit)], []⟩) (by rw [bW, ag (i := 0) rfl, ak]; rfl) trivial (by have := h.cnt; omega) (fun r hr => by
    have rl := h.len r hr
    refine aJ (h9 (av (ag rfl) (av (ag rfl) (aC _))) (rs := [vI r, vI fit]) ?_ (AE (a := r) (b := fit) (by omega) (fun p hp => eS (m := 200) (n := c) (by decide) (by omega) (h.sz r hr _ (List.of_mem_zip (a := p.1) (b := p.2) hp).1) (hz _ (List.of_mem_zip (a := p.1) (b := p.2) hp).2))) (by simp) rfl rfl) (aL _ _) ?_
    · simp only [dr, eQ, d7, dP]
    · rw [qd, hs r hr]; rfl)
  rw [show rows.map (fun _ => D.bl false) = (rows.map fun _ => false).map D.bl by rw [List.map_map]; rfl] at e2
  refine Gr (R := [some (vII rows), some (.int (n : Int)), some (vI fit)]) ?_
  show i8 ⟨[some (vII rows), some (.int (n : Int)), some (vI fit)], []⟩ = _
  rw [i8]
  refine aP (dM (cM (aJ (dN (av (ag rfl) (aC _)) (gS _)) (ag rfl) (qd _ _))) ?_ (bX _)) (aP (dM (cM (dN (av e1 (aC _)) (wO _ _))) ?_ (bX _)) (dM (cM (dN (av e2 (aC _)) (wO _ _))) ?_ (bX _)))
  · rw [List.length_map, hl]; simp
  · simp
  · simp
abbrev tiR (left y : List Int) (b : Nat) (x3 x4 : Option D) : List (Option D) := [some (vI left), some (vI y), some (.int (b : Int)), x3, x4]
theorem xS {left y : List Int} {c : Nat} (hl : left.length = y.length) (hz : SzL c left) (hy : SzL 8000 y) (hc : c ≤ 1000000) (K : List D) : ∀ (l : List Int) (k b : Nat) (x3 x4 : Option D), (∀ i, i < l.length → nth y (k + i) = nth l i) → k + l.length = y.length → b < y.length → 0 < nth y b → (∀ i, i < k → 0 < nth y i → nth left b * nth y i ≤ nth left i * nth y b) →
    ∃ b' y3 y4, bt (okC K none) (cZ (aV (aE 3) (aV (aE 4) de)) 2) cW ((l.zipIdx k).map fun p => .tup [.int (p.2 : Int), .int p.1]) ⟨tiR left y b x3 x4, []⟩ = .next ⟨tiR left y b' y3 y4, []⟩ ∧ b' < y.length ∧ 0 < nth y b' ∧ ∀ i, i < y.length → 0 < nth y i → nth left b' * nth y i ≤ nth left i * nth y b'
  | [], k, b, x3, x4, _, hk, hb, hp, hm => ⟨b, x3, x4, by rw [List.zipIdx_nil, List.map_nil, bt, if_pos (show okC K none _ from trivial)], hb, hp, fun i hi => hm i (by simp at hk; omega)⟩
  | v :: l, k, b, x3, x4, hv, hk, hb, hp, hm => by
    rw [List.length_cons] at hk
    have ev : nth y k = v := by
      have := hv 0 (by simp)
      rw [Nat.add_zero] at this
      exact this
    have hv' : ∀ i, i < l.length → nth y (k + 1 + i) = nth l i := fun i hi => by
      have := hv (i + 1) (by simp; omega)
      rw [show k + 1 + i = k + (i + 1) by omega, this]; rfl
    have kl : k < y.length := by omega
    have t1 : aU (aj gtD (aa 4) (ao (.int 0))) ⟨tiR left y b (some (.int (k : Int))) (some (.int v)), []⟩ = .ok (decide (0 < v), ⟨tiR left y b (some (.int (k : Int))) (some (.int v)), []⟩) := jM (ag rfl)
    have t2 : aU (aj ltD (aj bB (aj ixD (aa 0) (aa 3)) (aj ixD (aa 1) (aa 2))) (aj bB (aj ixD (aa 0) (aa 2)) (aa 4))) ⟨tiR left y b (some (.int (k : Int))) (some (.int v)), []⟩ = .ok (decide (nth left k * nth y b < nth left b * v), ⟨tiR left y b (some (.int (k : Int))) (some (.int v)), []⟩) := by
      refine cM (aJ (aJ (aJ (ag rfl) (ag rfl) (kh (by omega))) (aJ (ag rfl) (ag rfl) (kh hb)) (bJ ?_)) (aJ (aJ (ag rfl) (ag rfl) (kh (by omega))) (ag rfl) (bJ ?_)) (lI _ _))
      · exact eS (m := c) (n := 8000) (by omega) (by decide) (hz _ (dH (by omega))) (hy _ (dH hb))
      · exact eS (m := c) (n := 8000) (by omega) (by decide) (hz _ (dH (by omega))) (by rw [← ev]; exact hy _ (dH kl))
    rw [List.zipIdx_cons, List.map_cons]
    have step : ∀ b1 : Nat, cW ⟨tiR left y b (some (.int (k : Int))) (some (.int v)), []⟩ = .next ⟨tiR left y b1 (some (.int (k : Int))) (some (.int v)), []⟩ → b1 < y.length → 0 < nth y b1 → (∀ i, i < k + 1 → 0 < nth y i → nth left b1 * nth y i ≤ nth left i * nth y b1) → (∃ b' y3 y4, bt (okC K none) (cZ (aV (aE 3) (aV (aE 4) de)) 2) cW (D.tup [.int (k : Int), .int v] :: ((l.zipIdx (k + 1)).map fun p => .tup [.int (p.2 : Int), .int p.1])) ⟨tiR left y b x3 x4, []⟩ = .next ⟨tiR left y b' y3 y4, []⟩ ∧ b' < y.length ∧ 0 < nth y b' ∧ ∀ i, i < y.length → 0 < nth y i → nth left b' * nth y i ≤ nth left i * nth y b') := fun b1 e h1 h2 h3 => by
      obtain ⟨b', y3, y4, e', q1, q2, q3⟩ := xS hl hz hy hc K l (k + 1) b1 (some (.int (k : Int))) (some (.int v)) hv' (by omega) h1 h2 h3
      exact ⟨b', y3, y4, Eq.trans (cR (s1 := ⟨tiR left y b (some (.int (k : Int))) (some (.int v)), []⟩) (s2 := ⟨tiR left y b1 (some (.int (k : Int))) (some (.int v)), []⟩) trivial (by rw [nO]; rfl) e) e', q1, q2, q3⟩
    have split : ∀ i, i < k + 1 → i < k ∨ i = k := fun i hi => by omega
    by_cases h1 : 0 < v
    · by_cases h2 : nth left k * nth y b < nth left b * v
      · refine step k ?_ kl (by rw [ev]; exact h1) fun i hi hp' => ?_
        · rw [cW]
          exact lC (sI t1 (decide_eq_true h1) t2) (decide_eq_true h2) (aX (ag rfl) rfl)
        · rcases split i hi with q | rfl
          · rw [ev]
            exact qX (a := nth left k) (b := v) (c := nth left b) (d := nth y b) (e := nth left i) (f := nth y i) h1 hp hp' (by omega) (hm i q hp')
          · exact Int.le_refl _
      · refine step b ?_ hb hp fun i hi hp' => ?_
        · rw [cW]
          exact dM (sI t1 (decide_eq_true h1) t2) (decide_eq_false h2) (bX _)
        · rcases split i hi with q | rfl
          · exact hm i q hp'
          · rw [ev]; omega
    · refine step b ?_ hb hp fun i hi hp' => ?_
      · rw [cW]
        exact dM (Bq t1 (decide_eq_false h1)) rfl (bX _)
      · rcases split i hi with q | rfl
        · exact hm i q hp'
        · rw [ev] at hp'; omega
theorem CM {left y : List Int} {c : Nat} (hl : left.length = y.length) (hz : SzL c left) (hy : SzL 8000 y) (hc : c ≤ 1000000) (h0 : ∀ i, 0 ≤ nth y i) (hnz : ∃ i, nth y i ≠ 0) (len : y.length ≤ 1000) : ∃ a : Nat, ey [vI left, vI y] [] = .ok (.int (a : Int), []) ∧ a < y.length ∧ Tight left y a := by
  obtain ⟨b, eb⟩ : ∃ b, dg y = some b := by
    cases e : dg y with
    | some b => exact ⟨b, rfl⟩
    | none =>
      obtain ⟨i, hi⟩ := hnz
      have := lY e (nth y i) (dH (by
        by_cases q : i < y.length
        · exact q
        · exact absurd (cI (by omega)) hi))
      exact absurd this hi
  obtain ⟨b1, b2, _⟩ := iA eb
  have fn := GX y
  rw [eb] at fn
  obtain ⟨b', y3, y4, e, q1, q2, q3⟩ := xS hl hz hy hc ((y.zipIdx 0).map fun p => .tup [.int (p.2 : Int), .int p.1]) y 0 b none none (fun i _ => by rw [Nat.zero_add]) (by omega) b1 (by have := h0 b; omega) (fun i hi => absurd hi (by omega))
  refine ⟨b', ?_, q1, q2, fun i hi => q3 i (by
    by_cases q : i < y.length
    · exact q
    · rw [cI (by omega)] at hi; omega) hi⟩
  refine fe (R := tiR left y b' y3 y4) ?_
  show fI ⟨[some (vI left), some (vI y), none, none, none], []⟩ = _
  rw [fI]
  refine aP (aX (R' := tiR left y b none none) (eP (av (ag rfl) (aC _)) fn (by simp) rfl rfl) rfl) (aP ?_ (b8 (ag rfl)))
  refine (dv (im := dO (af (aa 1) aq)) (ds := (y.zipIdx 0).map fun p => .tup [.int (p.2 : Int), .int p.1]) (k := none) (s1 := ⟨tiR left y b none none, []⟩) ?_).trans e
  rw [oJ, gq, ag (i := 1) rfl, ak, aC, ak, ak]
  dsimp only
  rw [tx]
theorem AO {n : Nat} {y l : List Int} (hy : y.length = n) (hl : l.length = n) (ny : ∀ i, 0 ≤ nth y i) (nl : ∀ i, 0 ≤ nth l i) : decide (cg y ||| cg l = cg l) = true ↔ Sub y l := by
  have := bits_sub hy hl hl ny nl nl
  rw [Nat.or_self] at this
  rw [this, oD hy]
  exact ⟨fun h i hi => (h i hi).elim id id, fun h i hi => .inl (h i hi)⟩
theorem AQ {m : AM} {s s1 : S} {x y : D} {as bs : List D} (h : m s = .ok ([x, y], s1)) (h1 : lsD s1.o x = some as) (h2 : lsD s1.o y = some bs) : sf m s = .ok ((ju as bs, fun O => lsD O x = some as ∧ lsD O y = some bs), s1) := by
  unfold sf
  rw [h, ak]
  dsimp only
  rw [h1, h2]
theorem yG {α : Type} {l : List α} {f g out : α → D} {caps : List Nat} {im : IX} {e : EM} {s : S} {ok : au → Prop} (him : im s = .ok ((l.map (fun a => D.tup [f a, g a]), ok), s)) (hok : ok s.o) (hl : l.length ≤ 16777216)
    (he : ∀ a ∈ l, e ⟨some (f a) :: some (g a) :: caps.map (fun i => (s.r[i]?).getD none), s.o⟩ = .ok (out a, ⟨some (f a) :: some (g a) :: caps.map (fun i => (s.r[i]?).getD none), s.o⟩)) :
    m8 2 caps im (cZ (aV (aE 0) (aV (aE 1) de)) 2) bT e s = .ok (.lst (l.map out), s) := by
  obtain ⟨s', e1, x, y, h1⟩ := mS (ok := ok) (g := cZ (aV (aE 0) (aV (aE 1) de)) 2) (c := bT) (e := e) (O := s.o) hok (fun a => D.tup [f a, g a]) (fun s2 => ∃ x y, s2 = ⟨x :: y :: caps.map (fun i => (s.r[i]?).getD none), s.o⟩) (by rintro _ ⟨_, _, rfl⟩; rfl) l (fun _ => true) out (by
    rintro a ha _ ⟨x, y, rfl⟩
    exact ⟨_, _, by simp, rfl, fun _ => ⟨_, _, rfl⟩, fun _ => ⟨_, he a ha, _, _, rfl⟩⟩) [] ⟨j1 2 caps s.r, s.o⟩ (by simpa using hl) ⟨none, none, rfl⟩
  unfold m8 sA
  rw [him, ak]
  dsimp only
  rw [e1, ak, ak]
  subst h1
  rw [ki]
  rfl
abbrev Tl : Type := (Int × Int) × (Nat × List Int)
def tD (s : Tl) : D := .tup [.tup [.int s.1.1, .int s.1.2], .ptr s.2.1]
def unp (s : Tl) : Sh := (s.1, s.2.2)
abbrev sR (rows : List (List Int)) (n : Nat) (fit left : List Int) (bot : Int) (x6 x7 x8 x9 : Option D) : List (Option D) := [some (vII rows), some (.int (n : Int)), some (vI fit), some (.ptr 0), some (vI left), some (.int bot), x6, x7, x8, x9]
structure SIv (Q : List (Nat × List Int)) (T : List Tl) (O : au) : Prop where
  told : O[0]? = some (.lst (T.map tD))
  s : Sto O Q
  n0 : ∀ p ∈ Q, p.1 ≠ 0
  m : ∀ s ∈ T, s.2 ∈ Q
theorem tQ {O : au} {k i : Nat} {y : List Int} (h : O[k]? = some (.lst (y.map D.int))) (hi : i < y.length) : ixD O (.ptr k) (.int (i : Int)) = .ok (.int (nth y i)) := by
  refine ni h ?_
  rw [r8 (by simpa using hi)]
  simp [nth, List.getD_eq_getElem?_getD, hi]
theorem t9 (x : List Int) : cnt x ≤ x.length := List.length_filter_le _ _
theorem yu {n : Nat} {rows : List (List Int)} {fit : List Int} {c : Nat} {Q : List (Nat × List Int)} {pre : List (List Int)} {T : List Tl} {left : List Int} {bot : Int} {O : au} {p : Nat × List Int} {x7 x8 x9 : Option D}
    (hn : n ≤ 7) (hf : fit.length = n) (hc : c ≤ 20000) (hp : p ∈ Q) (lp : cj n rows p.2) (zp : SzL 8000 p.2) (sh : Shr n rows fit c pre (T.map unp) left bot) (iv : SIv Q T O) :
    ∃ T' left' bot' O' y7 y8 y9, jU ⟨sR rows n fit left bot (some (.ptr p.1)) x7 x8 x9, O⟩ = .next ⟨sR rows n fit left' bot' (some (.ptr p.1)) y7 y8 y9, O'⟩ ∧ Shr n rows fit c (pre ++ [p.2]) (T'.map unp) left' bot' ∧ SIv Q T' O' := by
  have yl := lp.fit.len
  have tl : T.length ≤ 7 := by
    have h1 := sh.cn
    have h2 := t9 fit
    rw [List.length_map] at h1
    omega
  have cb : c + 8001 * (T.map unp).length ≤ 80000 := by rw [List.length_map]; omega
  have pl1 : dJ 1 cz (af (aa 6) aq) ⟨sR rows n fit left bot (some (.ptr p.1)) x7 x8 x9, O⟩ = .ok (.int (cg p.2 : Nat), ⟨sR rows n fit left bot (some (.ptr p.1)) x7 x8 x9, O⟩) := h9 (av (ag rfl) (aC _)) (rs := [vI p.2]) (by simp only [dr, eQ, hX (iv.s p hp), d7, dP]) pA (by simp) rfl rfl
  have pl2 : dJ 1 cz (af (aa 4) aq) ⟨sR rows n fit left bot (some (.ptr p.1)) x7 x8 x9, O⟩ = .ok (.int (cg left : Nat), ⟨sR rows n fit left bot (some (.ptr p.1)) x7 x8 x9, O⟩) := h9 (av (ag rfl) (aC _)) (rs := [vI left]) (by simp only [dr, eQ, d7, dP]) pA (by simp) rfl rfl
  have tst : aU (bF 2 eF (af (dJ 1 cz (af (aa 6) aq)) (af (dJ 1 cz (af (aa 4) aq)) aq))) ⟨sR rows n fit left bot (some (.ptr p.1)) x7 x8 x9, O⟩ = .ok (decide (cg p.2 ||| cg left = cg left), ⟨sR rows n fit left bot (some (.ptr p.1)) x7 x8 x9, O⟩) := cM (eP (av pl1 (av pl2 (aC _))) (xP _ _) (by simp) rfl rfl)
  have amo := AO yl sh.len lp.fit.nn sh.nn
  by_cases hs : Sub p.2 left
  · obtain ⟨a, ea, al, ti⟩ := CM (c := 80000) (left := left) (y := p.2) (by rw [sh.len, yl]) (fun x hx => (sh.sz x hx).mono cb) zp (by decide) lp.fit.nn lp.fit.nz (by omega)
    have ll := sh.len
    have e7 : setM 7 (dJ 2 ey (af (aa 4) (af (aa 6) aq))) ⟨sR rows n fit left bot (some (.ptr p.1)) x7 x8 x9, O⟩ = .next ⟨sR rows n fit left bot (some (.ptr p.1)) (some (.int (a : Int))) x8 x9, O⟩ := aX (h9 (av (ag rfl) (av (ag rfl) (aC _))) (rs := [vI left, vI p.2]) (by simp only [dr, eQ, hX (iv.s p hp), d7, dP]) ea (by simp) rfl rfl) rfl
    have zb : IntMulOk bot (nth p.2 a) := eS (m := 80000) (n := 8000) (by decide) (by decide) (sh.szb.mono cb) (zp _ (dH al))
    have Bp : 0 < bot * nth p.2 a := Int.mul_pos sh.bp ti.pos
    have eB : ∀ {O' : au} {x8 x9 : Option D}, Sto O' Q → aj bB (aa 5) (aj ixD (aa 6) (aa 7)) ⟨sR rows n fit left bot (some (.ptr p.1)) (some (.int (a : Int))) x8 x9, O'⟩ = .ok (.int (bot * nth p.2 a), ⟨sR rows n fit left bot (some (.ptr p.1)) (some (.int (a : Int))) x8 x9, O'⟩) := fun s' => aJ (ag rfl) (aJ (ag rfl) (ag rfl) (tQ (s' p hp) al)) (bJ zb)
    have en : rK (af (bF 2 j6 (af (aj ixD (aa 4) (aa 7)) (af (aj bB (aa 5) (aj ixD (aa 6) (aa 7))) aq))) (af (aa 6) aq)) ⟨sR rows n fit left bot (some (.ptr p.1)) (some (.int (a : Int))) x8 x9, O⟩ = .ok (tD (rat (nth left a) (bot * nth p.2 a), p), ⟨sR rows n fit left bot (some (.ptr p.1)) (some (.int (a : Int))) x8 x9, O⟩) := D5 (av (eP (av (aJ (ag rfl) (ag rfl) (kh (by omega))) (av (eB iv.s) (aC _))) (Cg Bp) (by simp) rfl (by simp)) (av (ag rfl) (aC _))) (by simp)
    generalize hO1 : O.set 0 (.lst (T.map tD ++ [tD (rat (nth left a) (bot * nth p.2 a), p)])) = O1
    have e8 : ix (kN (aa 3) (rK (af (bF 2 j6 (af (aj ixD (aa 4) (aa 7)) (af (aj bB (aa 5) (aj ixD (aa 6) (aa 7))) aq))) (af (aa 6) aq)))) ⟨sR rows n fit left bot (some (.ptr p.1)) (some (.int (a : Int))) x8 x9, O⟩ = .next ⟨sR rows n fit left bot (some (.ptr p.1)) (some (.int (a : Int))) x8 x9, O1⟩ := gX (ow (ag rfl) iv.told en iv.told (by rw [List.length_map]; omega) hO1)
    have told1 : O1[0]? = some (.lst ((T ++ [(rat (nth left a) (bot * nth p.2 a), p)]).map tD)) := by rw [← hO1, cP iv.told, List.map_append]; rfl
    have sto1 : Sto O1 Q := by rw [← hO1]; exact iv.s.set iv.n0 _
    have zl : ∀ x ∈ left, Sz 80000 x := fun x hx => (sh.sz x hx).mono cb
    have e9 := yG (l := left.zip p.2) (f := fun q => .int q.1) (g := fun q => .int q.2) (out := fun q => .int (q.1 * nth p.2 a - q.2 * nth left a)) (caps := [7, 4, 6]) (im := sf (af (aa 4) (af (aa 6) aq))) (e := aj mD (aj bB (aa 0) (aj ixD (aa 4) (aa 2))) (aj bB (aa 1) (aj ixD (aa 3) (aa 2)))) (s := ⟨sR rows n fit left bot (some (.ptr p.1)) (some (.int (a : Int))) x8 x9, O1⟩) (ok := fun O => lsD O (vI left) = some (left.map D.int) ∧ lsD O (.ptr p.1) = some (p.2.map D.int)) (by
      rw [AQ (as := left.map D.int) (bs := p.2.map D.int) (av (ag (i := 4) rfl) (av (ag (i := 6) rfl) (aC _))) fv (gB (sto1 p hp)), kK]) ⟨fv, gB (sto1 p hp)⟩ (by rw [List.length_zip]; omega) (fun q hq => by
        have m1 := (List.of_mem_zip (a := q.1) (b := q.2) hq).1
        have m2 := (List.of_mem_zip (a := q.1) (b := q.2) hq).2
        exact aJ (aJ (ag rfl) (aJ (ag rfl) (ag rfl) (tQ (sto1 p hp) al)) (bJ (eS (m := 80000) (n := 8000) (by decide) (by decide) (zl _ m1) (zp _ (dH al))))) (aJ (ag rfl) (aJ (ag rfl) (ag rfl) (kh (by omega))) (bJ (eS (m := 8000) (n := 80000) (by decide) (by decide) (zp _ m2) (zl _ (dH (by omega)))))) (v7 _ _))
    rw [show (left.zip p.2).map (fun q => D.int (q.1 * nth p.2 a - q.2 * nth left a)) = (dU left p.2 a).map D.int by unfold dU; rw [List.map_map]; rfl] at e9
    have rl := wd (a := a) sh.len yl
    have e10 : setM 9 (gH (dC 1 gW (af (aj dm (aa 8) (mP (af (aj bB (aa 5) (aj ixD (aa 6) (aa 7))) aq))) aq))) ⟨sR rows n fit left bot (some (.ptr p.1)) (some (.int (a : Int))) (some (vI (dU left p.2 a))) x9, O1⟩ = .next ⟨sR rows n fit left bot (some (.ptr p.1)) (some (.int (a : Int))) (some (vI (dU left p.2 a))) (some (vI (gC left p.2 bot a))), O1 ++ [.dead]⟩ := by
      refine aX (kq (gz (av (aJ (ag rfl) (vL (av (eB sto1) (aC _)) (by simp)) (d := vI (dU left p.2 a ++ [bot * nth p.2 a])) ?_) (aC _)) (uK _ (by simp; omega)) (by rw [dc, gP, qR]; rfl) rfl (fC _ _) rfl) (ds := (gC left p.2 bot a).map D.int) ?_ ?_) rfl
      · rw [n8 (by simp; omega)]
        show _ = Res.ok (D.lst ((dU left p.2 a ++ [bot * nth p.2 a]).map D.int))
        rw [List.map_append]
        rfl
      · rw [Nat.add_zero]
        simp
        rfl
      · rw [Nat.add_zero, List.map_cons, List.map_nil, Cz]
    have red := Gg (bot := bot) (a := a) sh.len yl
    have len : (gC left p.2 bot a).length = n + 1 := by unfold gC; rw [low_length]; simp [rl]
    have e11 : setM 4 (slM (aa 9) gG (part (aa 1))) ⟨sR rows n fit left bot (some (.ptr p.1)) (some (.int (a : Int))) (some (vI (dU left p.2 a))) (some (vI (gC left p.2 bot a))), O1 ++ [.dead]⟩ = .next ⟨sR rows n fit ((gC left p.2 bot a).take n) bot (some (.ptr p.1)) (some (.int (a : Int))) (some (vI (dU left p.2 a))) (some (vI (gC left p.2 bot a))), O1 ++ [.dead]⟩ := aX (ua (ag rfl) (mx _) (mr (ag rfl)) fv px) rfl
    have e12 : setM 5 (aj ixD (aa 9) (aa 1)) ⟨sR rows n fit ((gC left p.2 bot a).take n) bot (some (.ptr p.1)) (some (.int (a : Int))) (some (vI (dU left p.2 a))) (some (vI (gC left p.2 bot a))), O1 ++ [.dead]⟩ = .next ⟨sR rows n fit ((gC left p.2 bot a).take n) (nth (gC left p.2 bot a) n) (some (.ptr p.1)) (some (.int (a : Int))) (some (vI (dU left p.2 a))) (some (vI (gC left p.2 bot a))), O1 ++ [.dead]⟩ := aX (aJ (ag rfl) (ag rfl) (kh (by omega))) rfl
    refine ⟨T ++ [(rat (nth left a) (bot * nth p.2 a), p)], _, _, O1 ++ [.dead], some (.int (a : Int)), some (vI (dU left p.2 a)), some (vI (gC left p.2 bot a)), ?_, by rw [List.map_append]; exact Ce sh lp hs zp ti red, dt told1, sto1.app _, iv.n0, fun s hs' => ?_⟩
    · rw [jU]
      exact lC tst (amo.mpr hs) (aP e7 (aP e8 (aP (aX e9 rfl) (aP e10 (aP e11 e12)))))
    · rcases List.mem_append.mp hs' with q | q
      · exact iv.m s q
      · rw [List.mem_singleton.mp q]; exact hp
  · refine ⟨T, left, bot, O, x7, x8, x9, ?_, C6 sh hs, iv⟩
    rw [jU]
    exact dM tst (by rw [Bool.eq_false_iff]; exact fun z => hs (amo.mp z)) (bX _)
theorem uF {n : Nat} {rows : List (List Int)} {fit : List Int} {c : Nat} {Q : List (Nat × List Int)} (hn : n ≤ 7) (hf : fit.length = n) (hc : c ≤ 20000) (lo : ∀ p ∈ Q, cj n rows p.2) (z : ∀ p ∈ Q, SzL 8000 p.2) (K : List D) :
    ∀ (rest : List (Nat × List Int)) (pre : List (List Int)) (T : List Tl) (left : List Int) (bot : Int) (O : au) (x6 x7 x8 x9 : Option D), (∀ p ∈ rest, p ∈ Q) → Shr n rows fit c pre (T.map unp) left bot → SIv Q T O →
    ∃ T' left' bot' O' y6 y7 y8 y9, bt (okC K none) (aE 6) jU (bD rest) ⟨sR rows n fit left bot x6 x7 x8 x9, O⟩ = .next ⟨sR rows n fit left' bot' y6 y7 y8 y9, O'⟩ ∧ Shr n rows fit c (pre ++ rest.map (·.2)) (T'.map unp) left' bot' ∧ SIv Q T' O'
  | [], pre, T, left, bot, O, x6, x7, x8, x9, _, sh, iv => ⟨T, left, bot, O, x6, x7, x8, x9, by show bt _ _ _ [] _ = _; rw [bt, if_pos (show okC K none _ from trivial)], by simpa using sh, iv⟩
  | p :: rest, pre, T, left, bot, O, x6, x7, x8, x9, hr, sh, iv => by
    have hp := hr p List.mem_cons_self
    obtain ⟨T1, left1, bot1, O1, y7, y8, y9, e1, sh1, iv1⟩ := yu (x7 := x7) (x8 := x8) (x9 := x9) hn hf hc hp (lo p hp) (z p hp) sh iv
    obtain ⟨T2, left2, bot2, O2, z6, z7, z8, z9, e2, sh2, iv2⟩ := uF hn hf hc lo z K rest (pre ++ [p.2]) T1 left1 bot1 O1 (some (.ptr p.1)) y7 y8 y9 (fun q hq => hr q (List.mem_cons_of_mem _ hq)) sh1 iv1
    refine ⟨T2, left2, bot2, O2, z6, z7, z8, z9, ?_, by rw [List.append_assoc] at sh2; exact sh2, iv2⟩
    show bt _ _ _ (.ptr p.1 :: bD rest) _ = _
    exact Eq.trans (cR (s1 := ⟨sR rows n fit left bot (some (.ptr p.1)) x7 x8 x9, O⟩) (s2 := ⟨sR rows n fit left1 bot1 (some (.ptr p.1)) y7 y8 y9, O1⟩) trivial rfl e1) e2
structure Ii (n : Nat) (rows : List (List Int)) (fit : List Int) (T : List Tl) (O : au) : Prop where
  told : O[0]? = some (.lst (T.map tD))
  s : ∀ s ∈ T, O[s.2.1]? = some (.lst (s.2.2.map D.int))
  n0 : ∀ s ∈ T, s.2.1 ≠ 0
  good : ∀ s ∈ T, 0 < s.1.1 ∧ 0 < s.1.2 ∧ Int.gcd s.1.1 s.1.2 = 1 ∧ Sub s.2.2 fit
  lo : ∀ s ∈ T, cj n rows s.2.2
  nd : (T.map fun s => s.2.2).Nodup
  cn : T.length ≤ cnt fit
  eq : ∀ i, (psS i (T.map unp)).2 = (psS i (T.map unp)).1 * nth fit i
  zt : ∀ s ∈ T, Sz 80000 s.1.1 ∧ Sz 80000 s.1.2 ∧ SzL 8000 s.2.2
structure dZ (n : Nat) (rows : List (List Int)) (fit : List Int) (c : Nat) : Prop where
  len : fit.length = n
  nn : ∀ i, 0 ≤ nth fit i
  st : ∀ r ∈ rows, bI n (nth r) (nth fit) = 0
  sz : SzL c fit
  c1 : 1 ≤ c
  c2 : c ≤ 20000
theorem dZ.all {n : Nat} {rows : List (List Int)} {fit : List Int} {c : Nat} (h : dZ n rows fit c) : ∀ a ∈ fit, 0 ≤ a := fun a ha => by
  obtain ⟨i, hi, rfl⟩ := List.getElem_of_mem ha
  have := h.nn i
  unfold nth at this
  simpa [List.getD_eq_getElem?_getD, List.getElem?_eq_getElem hi] using this
theorem ve {n : Nat} {rows : List (List Int)} {fit : List Int} {c : Nat} (h : lR n rows) (f : dZ n rows fit c) : ∃ T O, ei [vII rows, .int (n : Int), vI fit] [] = .ok (.ptr 0, O) ∧ Ii n rows fit T O := by
  have n7 := h.n7
  obtain ⟨k, Op, Q, ep, hd, sQ, nQ, qS, qV⟩ := tW h
  have know : fF n rows (eU rows n) := kF h.len
  have perm : (Q.map (·.2)).Perm (eU rows n) := by rw [qV]; exact ou _
  have pa : bf [vII rows, .int (n : Int)] = true := Aq _ rfl
  have hd1 := uw (S := [Cell.lst []]) hd
  have sQ1 := xC (S := [Cell.lst []]) sQ
  have nQ1 : ∀ p ∈ Q.map (fun p => (1 + p.1, p.2)), p.1 ≠ 1 + k := fun p hp => by
    obtain ⟨q, hq, rfl⟩ := List.mem_map.mp hp
    have := nQ q hq
    dsimp only
    omega
  have n01 : ∀ p ∈ Q.map (fun p => (1 + p.1, p.2)), p.1 ≠ 0 := fun p hp => by
    obtain ⟨q, hq, rfl⟩ := List.mem_map.mp hp
    dsimp only
    omega
  have mQ1 : (Q.map fun p => (1 + p.1, p.2)).map (·.2) = Q.map (·.2) := by rw [List.map_map]; rfl
  have z0 : ([Cell.lst []] ++ Op.map (shC 1))[0]? = some (Cell.lst []) := rfl
  have fr : gH (dC 2 gd (af (aa 0) (af (aa 1) aq))) ⟨sR rows n fit fit 1 none none none none, [.lst []]⟩ = .ok (.lst (bD (Q.map fun p => (1 + p.1, p.2))), ⟨sR rows n fit fit 1 none none none none, ([Cell.lst []] ++ Op.map (shC 1)).set (1 + k) .dead⟩) := kq (gz (av (ag rfl) (av (ag rfl) (aC _))) ep pa rfl (fC _ _) rfl) hd1 rfl
  have sQ2 : Sto (([Cell.lst []] ++ Op.map (shC 1)).set (1 + k) .dead) (Q.map fun p => (1 + p.1, p.2)) := sQ1.set nQ1 _
  have z2 : (([Cell.lst []] ++ Op.map (shC 1)).set (1 + k) Cell.dead)[0]? = some (Cell.lst []) := by rw [cF (by omega)]; exact z0
  generalize ([Cell.lst []] ++ Op.map (shC 1)).set (1 + k) Cell.dead = O2 at fr sQ2 z2
  generalize (Q.map fun p => (1 + p.1, p.2)) = Q1 at *
  have lo : ∀ p ∈ Q1, cj n rows p.2 := fun p hp => (know.all _).mp (perm.mem_iff.mp (by rw [← mQ1]; exact List.mem_map_of_mem hp))
  have sz : ∀ p ∈ Q1, SzL 8000 p.2 := fun p hp => rO h (rs := rows) (fun _ q => q) h.cnt _ (perm.mem_iff.mp (by rw [← mQ1]; exact List.mem_map_of_mem hp))
  obtain ⟨T, left, bot, O3, y6, y7, y8, y9, el, sh, iv⟩ := uF n7 f.len f.c2 lo sz (bD Q1) Q1 [] [] fit 1 O2 none none none none (fun _ q => q) (CY f.len f.nn f.st f.sz f.c1) ⟨z2, sQ2, n01, by simp⟩
  rw [List.nil_append] at sh
  have ck := CH h f.len f.all (fun r hr => by rw [lS f.len]; exact f.st r hr) f.sz (by have := f.c2; omega)
  refine ⟨T, O3, ?_, iv.told, fun s hs => iv.s _ (iv.m s hs), fun s hs => iv.n0 _ (iv.m s hs), fun s hs => sh.good (unp s) (List.mem_map_of_mem hs), fun s hs => lo _ (iv.m s hs), ?_, by have := sh.cn; rw [List.length_map] at this; omega, EJ sh fun l hl => by rw [mQ1]; exact perm.mem_iff.mpr ((know.all l).mpr hl), fun s hs => ?_⟩
  · refine fe (R := sR rows n fit left bot y6 y7 y8 y9) ?_
    show iH ⟨[some (vII rows), some (.int (n : Int)), some (vI fit), none, none, none, none, none, none, none], []⟩ = _
    rw [iH]
    refine aP (gX (eP (av (ag rfl) (av (ag rfl) (av (ag rfl) (aC _)))) ck (by simp) rfl rfl)) (aP (aX (oR (aC _) (by simp) rfl rfl) rfl) (aP (aX (dN (av (ag rfl) (aC _)) (mH _)) rfl) (aP (aX (R' := sR rows n fit fit 1 none none none none) (aL _ _) rfl) (aP ?_ (b8 (ag rfl))))))
    refine (dv (im := listI (gH (dC 2 gd (af (aa 0) (af (aa 1) aq))))) (ds := bD Q1) (k := none) (s1 := ⟨sR rows n fit fit 1 none none none none, O2⟩) ?_).trans el
    rw [bW]
    exact (congrArg (fun r => Res.bind r _) fr).trans rfl
  · have := sh.sl
    rw [List.map_map] at this
    refine List.Sublist.nodup this ?_
    rw [mQ1]
    exact perm.nodup_iff.mpr know.nd
  · have cb : c + 8001 * (T.map unp).length ≤ 80000 := by
      have h1 := sh.cn
      have h2 := t9 fit
      have h3 := f.len
      have h4 := f.c2
      rw [List.length_map] at h1 ⊢
      omega
    obtain ⟨q1, q2⟩ := sh.szt (unp s) (List.mem_map_of_mem hs)
    exact ⟨q1.mono cb, q2.mono cb, sz _ (iv.m s hs)⟩
theorem HX (t b : Int) : bV [t, b] = Int.gcd t b := by
  unfold bV
  simp [Int.gcd]
theorem yx {t b : Int} (ht : 0 < t) (hb : 0 < b) (hg : Int.gcd t b = 1) : gD [.tup [.int t, .int b]] [] = .ok (.bl true, []) := by
  have w : ∀ (i : Nat) (x : Int), ixD [] (.tup [.int t, .int b]) (.int (i : Int)) = .ok (.int x) → bF 1 cN (af (aj ixD (aa 0) (ao (.int (i : Int)))) aq) ⟨[some (.tup [.int t, .int b])], []⟩ = .ok (.bl true, ⟨[some (.tup [.int t, .int b])], []⟩) := fun i x hx => eP (av (aJ (ag rfl) (aL _ _) hx) (aC _)) (wt x) (by simp) rfl rfl
  have i0 : ixD [] (.tup [.int t, .int b]) (.int 0) = .ok (.int t) := iS rfl
  have i1 : ixD [] (.tup [.int t, .int b]) (.int 1) = .ok (.int b) := iS rfl
  have ml : eW [] [.tup [.int t, .int b]] = .ok (vI [t, b]) := Ay _
  refine fe (R := [some (.tup [.int t, .int b])]) ?_
  show gF ⟨[some (.tup [.int t, .int b])], []⟩ = _
  rw [gF]
  refine aP (dM (jX (jY (cM (vY (ag rfl) (yK _ _)))) (by decide) (jX (cM (aJ (dN (av (ag rfl) (aC _)) (wm _)) (aL _ _) (qd _ _))) (by simp) (jX (jY (cM (w 0 t i0))) rfl (jY (cM (w 1 b i1)))))) rfl (bX _)) (b8 (um (aJ (aJ (ag rfl) (aL _ _) i0) (aL _ _) (nu _ _)) (decide_eq_true ht) (um (aJ (aJ (ag rfl) (aL _ _) i1) (aL _ _) (nu _ _)) (decide_eq_true hb) (aJ (eP (av (dN (av (ag rfl) (aC _)) ml) (aC _)) (GV [t, b]) (by simp) rfl rfl) (aL _ _) ?_))))
  rw [nB, HX, hg]
  rfl
def wD (s : Sh) : D := .tup [.tup [.int s.1.1, .int s.1.2], vI s.2]
theorem FA (T : List Sh) : bf (T.map wD) = true := by
  induction T with
  | nil => rfl
  | cons s T ih =>
    rw [List.map_cons, dc, ih]
    simp [wD]
structure Ar (n : Nat) (T : List Sh) : Prop where
  b : ∀ s ∈ T, 0 < s.1.2
  z : ∀ s ∈ T, Sz 80000 s.1.1 ∧ Sz 80000 s.1.2 ∧ SzL 8000 s.2
  l : ∀ s ∈ T, s.2.length = n
  c : T.length ≤ 7
abbrev coR (T : List Sh) (fit : List Int) (C : Int) (x3 x4 x5 x6 : Option D) : List (Option D) := [some (.lst (T.map wD)), some (vI fit), some (.int C), x3, x4, x5, x6]
theorem BO {n : Nat} {T : List Sh} {fit : List Int} (K : List D) : ∀ (l : List Sh) (k : Nat) (P : Int) (x3 x4 x5 x6 : Option D), Ar n l → k + l.length ≤ 7 → Sz (1 + 80000 * k) P → ∃ y3 y4, bt (okC K none) (cZ (aV (aE 3) (aV (aE 4) de)) 2) kQ (l.map wD) ⟨coR T fit P x3 x4 x5 x6, []⟩ = .next ⟨coR T fit (eZ P l) y3 y4 x5 x6, []⟩ ∧ Sz (1 + 80000 * (k + l.length)) (eZ P l)
  | [], k, P, x3, x4, x5, x6, _, _, hz => ⟨x3, x4, by rw [List.map_nil, bt, if_pos (show okC K none _ from trivial)]; rfl, hz⟩
  | s :: l, k, P, x3, x4, x5, x6, h, hk, hz => by
    rw [List.length_cons] at hk
    have zs := h.z s List.mem_cons_self
    have z' : Sz (1 + 80000 * (k + 1)) (P * s.1.2) := (Sz.mul hz zs.2.1).mono (by omega)
    obtain ⟨y3, y4, e, q⟩ := BO (T := T) (fit := fit) K l (k + 1) (P * s.1.2) (some (.tup [.int s.1.1, .int s.1.2])) (some (vI s.2)) x5 x6 ⟨fun z hz => h.b z (List.mem_cons_of_mem _ hz), fun z hz => h.z z (List.mem_cons_of_mem _ hz), fun z hz => h.l z (List.mem_cons_of_mem _ hz), by have := h.c; rw [List.length_cons] at this; omega⟩ (by omega) z'
    refine ⟨y3, y4, ?_, by rw [List.length_cons, show k + (l.length + 1) = k + 1 + l.length by omega]; exact q⟩
    rw [List.map_cons]
    refine Eq.trans (cR (s1 := ⟨coR T fit P (some (.tup [.int s.1.1, .int s.1.2])) (some (vI s.2)) x5 x6, []⟩) (s2 := ⟨coR T fit (P * s.1.2) (some (.tup [.int s.1.1, .int s.1.2])) (some (vI s.2)) x5 x6, []⟩) trivial (by rw [wD, nO]; rfl) ?_) e
    rw [kQ]
    exact aX (aJ (ag rfl) (aJ (ag rfl) (aL _ _) (iS rfl)) (bJ (eS (by omega) (by decide) hz zs.2.1))) rfl
theorem AN {n : Nat} {T : List Sh} {fit : List Int} {C : Int} (n7 : n ≤ 7) (hC : Sz 600000 C) (K : List D) : ∀ (l : List Sh) (k : Nat) (L : List Int) (x3 x4 x6 : Option D), Ar n l → (∀ s ∈ l, s.1.2 * (C / s.1.2) = C) → L.length = n → SzL (700000 + k) L → k + l.length ≤ 100 → ∃ L' y3 y4 y6, bt (okC K none) (cZ (aV (aE 3) (aV (aE 4) de)) 2) kR (l.map wD) ⟨coR T fit C x3 x4 (some (vI L)) x6, []⟩ = .next ⟨coR T fit C y3 y4 (some (vI L')) y6, []⟩ ∧ L'.length = n ∧ ∀ i, i < n → nth L' i = mkS C i (nth L i) l
  | [], k, L, x3, x4, x6, _, _, hL, _, _ => ⟨L, x3, x4, x6, by rw [List.map_nil, bt, if_pos (show okC K none _ from trivial)], hL, fun _ _ => rfl⟩
  | s :: l, k, L, x3, x4, x6, h, hd, hL, zL, hk => by
    rw [List.length_cons] at hk
    have zs := h.z s List.mem_cons_self
    have bp := h.b s List.mem_cons_self
    have sl := h.l s List.mem_cons_self
    have zq : Sz 600000 (C / s.1.2) := m9 bp (hd s List.mem_cons_self) hC
    have zo : Sz 680000 (s.1.1 * (C / s.1.2)) := (Sz.mul zs.1 zq).mono (by decide)
    have hc := wo (l := L.zip s.2) (f := fun p => .int p.1) (g := fun p => .int p.2) (out := fun p => .int (p.1 + s.1.1 * (C / s.1.2) * p.2)) (caps := [6]) (im := mM (af (aa 5) (af (aa 4) aq))) (e := aj dm (aa 0) (aj bB (aa 2) (aa 1))) (k := none) (s := ⟨coR T fit C (some (.tup [.int s.1.1, .int s.1.2])) (some (vI s.2)) (some (vI L)) (some (.int (s.1.1 * (C / s.1.2)))), []⟩) (by
      rw [zu, gq, ag (i := 5) rfl, ak, gq, ag (i := 4) rfl, ak, aC, ak, ak, ak]
      dsimp only
      rw [kK]) trivial (by rw [List.length_zip]; omega) (fun p hp => aJ (ag rfl) (aJ (ag rfl) (ag rfl) (bJ (eS (m := 680000) (n := 8000) (by decide) (by decide) zo (zs.2.2 _ (List.of_mem_zip (a := p.1) (b := p.2) hp).2)))) (jm _ _))
    rw [show (L.zip s.2).map (fun p => D.int (p.1 + s.1.1 * (C / s.1.2) * p.2)) = ((L.zip s.2).map fun p => p.1 + s.1.1 * (C / s.1.2) * p.2).map D.int by rw [List.map_map]; rfl] at hc
    generalize hL' : (L.zip s.2).map (fun p => p.1 + s.1.1 * (C / s.1.2) * p.2) = L1 at hc
    have l1 : L1.length = n := by rw [← hL', List.length_map, List.length_zip]; omega
    have v1 : ∀ i, i < n → nth L1 i = nth L i + s.1.1 * (C / s.1.2) * nth s.2 i := fun i hi => by
      rw [← hL']
      unfold nth
      simp [List.getD_eq_getElem?_getD, List.getElem?_eq_getElem (show i < L.length by omega), List.getElem?_eq_getElem (show i < s.2.length by omega), List.getElem?_eq_getElem (show i < (L.zip s.2).length by rw [List.length_zip]; omega)]
    have z1 : SzL (700000 + (k + 1)) L1 := fun x hx => by
      rw [← hL'] at hx
      obtain ⟨p, hp, rfl⟩ := List.mem_map.mp hx
      have a1 := zL _ (List.of_mem_zip (a := p.1) (b := p.2) hp).1
      have a2 := (Sz.mul zo (zs.2.2 _ (List.of_mem_zip (a := p.1) (b := p.2) hp).2)).mono (show 680000 + 8000 ≤ 700000 + k by omega)
      exact (Sz.add a1 a2).mono (by omega)
    obtain ⟨L', y3, y4, y6, e, q1, q2⟩ := AN (T := T) (fit := fit) n7 hC K l (k + 1) L1 (some (.tup [.int s.1.1, .int s.1.2])) (some (vI s.2)) (some (.int (s.1.1 * (C / s.1.2)))) ⟨fun z hz => h.b z (List.mem_cons_of_mem _ hz), fun z hz => h.z z (List.mem_cons_of_mem _ hz), fun z hz => h.l z (List.mem_cons_of_mem _ hz), by have := h.c; rw [List.length_cons] at this; omega⟩ (fun z hz => hd z (List.mem_cons_of_mem _ hz)) l1 z1 (by omega)
    refine ⟨L', y3, y4, y6, ?_, q1, fun i hi => by rw [q2 i hi, v1 i hi]; rfl⟩
    rw [List.map_cons]
    refine Eq.trans (cR (s1 := ⟨coR T fit C (some (.tup [.int s.1.1, .int s.1.2])) (some (vI s.2)) (some (vI L)) x6, []⟩) (s2 := ⟨coR T fit C (some (.tup [.int s.1.1, .int s.1.2])) (some (vI s.2)) (some (vI L1)) (some (.int (s.1.1 * (C / s.1.2)))), []⟩) trivial (by rw [wD, nO]; rfl) ?_) e
    rw [kR]
    refine aP (aX (aJ (aJ (ag rfl) (aL _ _) (iS rfl)) (aJ (ag rfl) (aJ (ag rfl) (aL _ _) (iS rfl)) (d := .int (C / s.1.2)) ?_) (bJ (eS (m := 80000) (n := 600000) (by decide) (by decide) zs.1 zq))) rfl) (aX hc rfl)
    rw [iB (by omega), mm bp]
theorem E1 {n : Nat} {a b : List Int} (ha : a.length = n) (hb : b.length = n) (h : ∀ i, i < n → nth a i = nth b i) : a = b := by
  refine List.ext_getElem (by omega) fun i h1 h2 => ?_
  have := h i (by omega)
  unfold nth at this
  simpa [List.getD_eq_getElem?_getD, List.getElem?_eq_getElem h1, List.getElem?_eq_getElem h2] using this
theorem DG {n : Nat} {T : List Sh} {fit : List Int} (n7 : n ≤ 7) (hf : fit.length = n) (zf : SzL 20000 fit) (h : Ar n T) (eq : ∀ i, (psS i T).2 = (psS i T).1 * nth fit i) : eG [.lst (T.map wD), vI fit] [] = .ok (.bl true, []) := by
  obtain ⟨y3, y4, e1, z1⟩ := BO (T := T) (fit := fit) (T.map wD) T 0 1 none none none none h (by have := h.c; omega) (by unfold Sz; decide)
  have zC : Sz 600000 (eZ 1 T) := z1.mono (by have := h.c; omega)
  have hz := gc (l := fit) (item := D.int) (out := fun _ => .int 0) (caps := []) (im := listI (aa 1)) (e := ao (.int 0)) (k := none) (s := ⟨coR T fit (eZ 1 T) y3 y4 none none, []⟩) (by rw [bW, ag (i := 1) rfl, ak]; rfl) trivial (by omega) (fun _ _ => aL _ _)
  rw [show fit.map (fun _ => D.int 0) = (List.replicate n (0 : Int)).map D.int by rw [List.map_replicate, List.eq_replicate_iff]; simp [hf]] at hz
  obtain ⟨L, z3, z4, z6, e2, l2, v2⟩ := AN (T := T) (fit := fit) n7 zC (T.map wD) T 0 (List.replicate n 0) y3 y4 none h (fun s hs => Int.mul_ediv_cancel' ((o5 T 1).2 s hs)) (by simp) (fun x hx => by rw [(List.mem_replicate.mp hx).2]; exact Sz.zero _) (by have := h.c; omega)
  have hm := gc (l := fit) (item := D.int) (out := fun x => .int (x * eZ 1 T)) (caps := [2]) (im := listI (aa 1)) (e := aj bB (aa 0) (aa 1)) (k := none) (s := ⟨coR T fit (eZ 1 T) z3 z4 (some (vI L)) z6, []⟩) (by rw [bW, ag (i := 1) rfl, ak]; rfl) trivial (by omega) (fun x hx => aJ (ag rfl) (ag rfl) (bJ (eS (m := 20000) (n := 600000) (by decide) (by decide) (zf x hx) zC)))
  rw [show fit.map (fun x => D.int (x * eZ 1 T)) = (fit.map (· * eZ 1 T)).map D.int by rw [List.map_map]; rfl] at hm
  have key : L = fit.map (· * eZ 1 T) := E1 l2 (by rw [List.length_map]; exact hf) fun i hi => by
    rw [v2 i hi, iR (f := (· * eZ 1 T)) (Int.zero_mul _), show nth (List.replicate n (0 : Int)) i = 0 by unfold nth; simp [List.getD_eq_getElem?_getD, List.getElem?_replicate, hi], xV h.b eq i, Int.mul_comm]
  refine fe (R := coR T fit (eZ 1 T) z3 z4 (some (vI L)) z6) ?_
  show h8 ⟨[some (.lst (T.map wD)), some (vI fit), none, none, none, none, none], []⟩ = _
  rw [h8]
  refine aP (aX (R' := coR T fit 1 none none none none) (aL _ _) rfl) (aP ?_ (aP (aX hz rfl) (aP ?_ (b8 (aJ (ag rfl) hm ?_)))))
  · exact (dv (im := listI (aa 0)) (ds := T.map wD) (k := none) (s1 := ⟨coR T fit 1 none none none none, []⟩) (by rw [bW, ag (i := 0) rfl, ak]; rfl)).trans e1
  · exact (dv (im := listI (aa 0)) (ds := T.map wD) (k := none) (s1 := ⟨coR T fit (eZ 1 T) y3 y4 (some (vI (List.replicate n 0))) none, []⟩) (by rw [bW, ag (i := 0) rfl, ak]; rfl)).trans e2
  · rw [xK, decide_eq_true key]
theorem w4 (O : au) : ∀ A : List (List Int), keyed O (A.map vI) = some (A.map fun x => (vI x, x))
  | [] => rfl
  | a :: A => by
    have c : ko O (vI a) = some a := by
      unfold ko
      rw [fv]
      exact lg _
    show keyed O (vI a :: A.map vI) = _
    unfold keyed
    rw [c, w4 O A]
    rfl
theorem By {O : au} {p : Nat} {y : List Int} {d : D} {A : List (List Int)} (h : O[p]? = some (.lst (y.map D.int))) (hd : lsD O d = some (A.map vI)) : ue O (.ptr p) d = some (A.any (· == y)) := by
  have c : ko O (.ptr p) = some y := by
    unfold ko
    rw [gB h]
    exact lg _
  unfold ue
  rw [c, hd]
  dsimp only
  rw [w4]
  dsimp only
  rw [List.any_map]
  rfl
def shT (n : Nat) (s : Tl) : Tl := (s.1, (n + s.2.1, s.2.2))
structure At (d : Nat) (T : List Tl) (O : au) : Prop where
  told : O[d]? = some (.lst (T.map tD))
  s : ∀ s ∈ T, O[s.2.1]? = some (.lst (s.2.2.map D.int))
  n0 : ∀ s ∈ T, s.2.1 ≠ d
theorem Bv (n : Nat) : ∀ T : List Tl, eR n (T.map tD) = (T.map (shT n)).map tD
  | [] => by simp [eR]
  | s :: T => by
    rw [List.map_cons, List.map_cons, List.map_cons, ← Bv n T]
    conv => lhs; unfold eR
    congr 1
theorem zI {T : List Tl} {O : au} (S : au) (h : At 0 T O) : At (S.length + 0) (T.map (shT S.length)) (S ++ O.map (shC S.length)) := by
  refine ⟨?_, fun s hs => ?_, fun s hs => ?_⟩
  · rw [List.getElem?_append_right (by omega), Nat.add_sub_cancel_left, List.getElem?_map, h.told]
    simp only [Option.map_some, uk, Bv]
  · obtain ⟨p, hp, rfl⟩ := List.mem_map.mp hs
    show (S ++ O.map (shC S.length))[S.length + p.2.1]? = some (.lst (p.2.2.map D.int))
    rw [List.getElem?_append_right (by omega), Nat.add_sub_cancel_left, List.getElem?_map, h.s p hp]
    simp
  · obtain ⟨p, hp, rfl⟩ := List.mem_map.mp hs
    have := h.n0 p hp
    show S.length + p.2.1 ≠ S.length + 0
    omega
theorem BX (n : Nat) (T : List Tl) : (T.map (shT n)).map unp = T.map unp := by rw [List.map_map]; rfl
theorem ub {O : au} : ∀ {T : List Tl}, (∀ s ∈ T, O[s.2.1]? = some (.lst (s.2.2.map D.int))) → bR O (T.map tD) = (T.map unp).map wD
  | [], _ => by simp
  | s :: T, h => by
    have e := ub (T := T) fun q hq => h q (List.mem_cons_of_mem _ hq)
    rw [List.map_cons, List.map_cons, List.map_cons, dr, e]
    congr 1
    have := h s List.mem_cons_self
    simp [tD, wD, unp, res, bR, this]
abbrev riR (rows : List (List Int)) (fit : List Int) (known : List (List Int)) (x3 : Option D) (d q : Nat) (x8 x9 : Option D) : List (Option D) := [some (vII rows), some (vI fit), some (vII known), x3, some (vII rows), some (vI fit), some (.ptr d), some (.ptr q), x8, x9]
theorem Ac {n : Nat} {rows known : List (List Int)} {fit : List Int} {s : Tl} {O : au} {d q : Nat} {done : List (List Int)} {x3 x9 : Option D} (n7 : n ≤ 7) (hf : fit.length = n) (hO : O[s.2.1]? = some (.lst (s.2.2.map D.int))) (hq : O[q]? = some (.lst (done.map vI))) (hg : 0 < s.1.1 ∧ 0 < s.1.2 ∧ Int.gcd s.1.1 s.1.2 = 1 ∧ Sub s.2.2 fit) (hk : s.2.2 ∈ known) (hn : s.2.2 ∉ done) (hl : s.2.2.length = n) (h0 : ∀ i, 0 ≤ nth s.2.2 i) (dl : done.length ≤ 1000) :
    g8 ⟨riR rows fit known x3 d q (some (tD s)) x9, O⟩ = .next ⟨riR rows fit known x3 d q (some (tD s)) x9, O.set q (.lst ((done ++ [s.2.2]).map vI))⟩ := by
  have i0 : ixD O (tD s) (.int 0) = .ok (.tup [.int s.1.1, .int s.1.2]) := iS rfl
  have i1 : ixD O (tD s) (.int 1) = .ok (.ptr s.2.1) := iS rfl
  have p1 : aj ixD (aa 8) (ao (.int 1)) ⟨riR rows fit known x3 d q (some (tD s)) x9, O⟩ = .ok (.ptr s.2.1, ⟨riR rows fit known x3 d q (some (tD s)) x9, O⟩) := aJ (ag rfl) (aL _ _) i1
  have n1 : nD O (.ptr s.2.1) (vII known) = .ok (.bl false) := by
    unfold nD
    rw [By hO fv]
    dsimp only
    rw [show known.any (· == s.2.2) = true from List.any_eq_true.mpr ⟨s.2.2, hk, beq_self_eq_true _⟩]
    rfl
  have n2 : wU O (.ptr s.2.1) (.ptr q) = .ok (.bl false) := by
    unfold wU
    rw [By hO (gB hq)]
    dsimp only
    rw [show done.any (· == s.2.2) = false by
      rw [Bool.eq_false_iff]
      intro z
      obtain ⟨w, hw, e⟩ := List.any_eq_true.mp z
      exact hn (by rw [← eq_of_beq e]; exact hw)]
  have lf : bj cD (af (aa 1) aq) ⟨riR rows fit known x3 d q (some (tD s)) x9, O⟩ = .ok (.int (n : Int), ⟨riR rows fit known x3 d q (some (tD s)) x9, O⟩) := dN (av (ag rfl) (aC _)) (by rw [gS, List.length_map, hf])
  have il := Am (ts := s.2.2) (m := n) hl (by omega)
  have hc := tR (l := List.range n) (item := fun i : Nat => D.int (i : Int)) (out := fun i : Nat => D.int (i : Int)) (p := fun i => decide (0 < nth s.2.2 i) && decide (nth fit i = 0)) (caps := [1, 8]) (im := jP (af (bj cD (af (aa 1) aq)) aq)) (c := mX (aU (aj gtD (aj ixD (aj ixD (aa 2) (ao (.int 1))) (aa 0)) (ao (.int 0)))) (aU (aj eqD (aj ixD (aa 1) (aa 0)) (ao (.int 0))))) (e := aa 0) (k := none) (s := ⟨riR rows fit known x3 d q (some (tD s)) x9, O⟩) (by
    rw [kb (n := n) (s1 := ⟨riR rows fit known x3 d q (some (tD s)) x9, O⟩) (av lf (aC _)) (by omega), qJ]) trivial (by rw [List.length_range]; omega) (fun i hi => by
      have hi' := List.mem_range.mp hi
      exact Hq (jM (aJ (aJ (ag rfl) (aL _ _) i1) (ag rfl) (tQ hO (by omega)))) (eq_test (aJ (ag rfl) (ag rfl) (kh (by omega))))) (fun i _ _ => ag rfl)
  have none_ : (List.range n).filter (fun i => decide (0 < nth s.2.2 i) && decide (nth fit i = 0)) = [] := by
    rw [List.filter_eq_nil_iff]
    intro i _ z
    rw [Bool.and_eq_true, decide_eq_true_eq, decide_eq_true_eq] at z
    exact hg.2.2.2 i (by omega) z.2
  rw [none_, List.map_nil] at hc
  rw [g8]
  refine aP (dM (jX (jY (cM (vY (ag rfl) (yK _ _)))) (by decide) (jX (cM (aJ (dN (av (ag rfl) (aC _)) (wm _)) (aL _ _) (qd _ _))) (by simp) (jX (jY (cM (eP (av (aJ (ag rfl) (aL _ _) i0) (aC _)) (yx hg.1 hg.2.1 hg.2.2.1) (by simp) rfl rfl))) rfl (cM (aJ p1 (ag rfl) n1))))) rfl (bX _)) (aP (dM (jX (jY (cM (h9 (av p1 (av lf (aC _))) (rs := [vI s.2.2, .int (n : Int)]) ?_ il (by simp) rfl rfl))) rfl (cM (aJ p1 (ag rfl) n2))) rfl (bX _)) (aP (dM (jM (dN (av hc (aC _)) (gS _))) (by simp) (bX _)) (gX (ow (ag rfl) hq (dN (av p1 (aC _)) (zY hO)) hq (by rw [List.length_map]; omega) ?_))))
  · simp only [dr, eQ, hX hO, yZ, d7, dP]
  · rw [List.map_append]; rfl
theorem wA {n : Nat} {rows known : List (List Int)} {fit : List Int} {d q : Nat} {T : List Tl} (n7 : n ≤ 7) (hf : fit.length = n) (hqd : q ≠ d) (hg : ∀ s ∈ T, 0 < s.1.1 ∧ 0 < s.1.2 ∧ Int.gcd s.1.1 s.1.2 = 1 ∧ Sub s.2.2 fit) (hk : ∀ s ∈ T, s.2.2 ∈ known) (lo : ∀ s ∈ T, cj n rows s.2.2) (hq : ∀ s ∈ T, s.2.1 ≠ q) :
    ∀ (rest : List Tl) (done : List (List Int)) (x3 x8 x9 : Option D) (O : au), (∀ s ∈ rest, s ∈ T) → (done ++ rest.map fun s => s.2.2).Nodup → done.length + rest.length ≤ 100 → At d T O → O[q]? = some (.lst (done.map vI)) →
    ∃ y8 O', bt (okC (T.map tD) (some d)) (aE 8) g8 (rest.map tD) ⟨riR rows fit known x3 d q x8 x9, O⟩ = .next ⟨riR rows fit known x3 d q y8 x9, O'⟩ ∧ At d T O'
  | [], done, x3, x8, x9, O, _, _, _, h, _ => ⟨x8, O, by rw [List.map_nil, bt, if_pos (show okC (T.map tD) (some d) _ from h.told)], h⟩
  | s :: rest, done, x3, x8, x9, O, hr, nd, dl, h, hs => by
    have sT := hr s List.mem_cons_self
    rw [List.length_cons] at dl
    have eb := Ac (rows := rows) (x3 := x3) (x9 := x9) (d := d) n7 hf (h.s s sT) hs (hg s sT) (hk s sT) (fun z => by
      rw [List.map_cons] at nd
      exact (List.nodup_append.mp nd).2.2 _ z _ List.mem_cons_self rfl) (lo s sT).fit.len (lo s sT).fit.nn (by omega)
    have h' : At d T (O.set q (.lst ((done ++ [s.2.2]).map vI))) := ⟨by rw [cF hqd]; exact h.told, fun z hz => by rw [cF (fun e => hq z hz e.symm)]; exact h.s z hz, h.n0⟩
    obtain ⟨y8, O', e, q1⟩ := wA n7 hf hqd hg hk lo hq rest (done ++ [s.2.2]) x3 (some (tD s)) x9 _ (fun z hz => hr z (List.mem_cons_of_mem _ hz)) (by rw [List.append_assoc]; exact nd) (by rw [List.length_append, List.length_singleton]; omega) h' (cP hs)
    refine ⟨y8, O', ?_, q1⟩
    rw [List.map_cons]
    exact Eq.trans (cR (s1 := ⟨riR rows fit known x3 d q (some (tD s)) x9, O⟩) (s2 := ⟨riR rows fit known x3 d q (some (tD s)) x9, O.set q (.lst ((done ++ [s.2.2]).map vI))⟩) (show okC (T.map tD) (some d) _ from h.told) rfl eb) e
theorem Bx {rows known : List (List Int)} {fit : List Int} {d q : Nat} {T : List Tl} {x8 : Option D} (hd : ∀ s ∈ T, s.2.1 ≠ d) :
    ∀ (rest : List Tl) (m : Nat) (x3 x9 : Option D) (O : au), (∀ s ∈ rest, s ∈ T) → m + rest.length ≤ 1000 → O[d]? = some (.lst (T.map tD)) → (∀ s ∈ T, ∃ xs, O[s.2.1]? = some (.lst xs) ∧ xs.length ≤ 1000 + m) →
    ∃ y3 y9 O', bt (okC (T.map tD) (some d)) (cZ (aV (aE 9) (aV (aE 3) de)) 2) jj (rest.map tD) ⟨riR rows fit known x3 d q x8 x9, O⟩ = .next ⟨riR rows fit known y3 d q x8 y9, O'⟩ ∧ O'[d]? = some (.lst (T.map tD))
  | [], m, x3, x9, O, _, _, h, _ => ⟨x3, x9, O, by rw [List.map_nil, bt, if_pos (show okC (T.map tD) (some d) _ from h)], h⟩
  | s :: rest, m, x3, x9, O, hr, hm, h, hc => by
    have hp := hr s List.mem_cons_self
    obtain ⟨xs, h1, h2⟩ := hc s hp
    rw [List.length_cons] at hm
    obtain ⟨y3, y9, O', e, h3⟩ := Bx (rows := rows) (known := known) (fit := fit) (q := q) (x8 := x8) hd rest (m + 1) (some (.ptr s.2.1)) (some (.tup [.int s.1.1, .int s.1.2])) (O.set s.2.1 (.lst (xs ++ [.int 1]))) (fun z hz => hr z (List.mem_cons_of_mem _ hz)) (by omega) (by rw [cF (hd s hp)]; exact h) (fun z hz => by
      obtain ⟨ys, g1, g2⟩ := hc z hz
      by_cases he : s.2.1 = z.2.1
      · rw [← he, cP h1]
        exact ⟨_, rfl, by simp; omega⟩
      · rw [cF he]
        exact ⟨ys, g1, by omega⟩)
    refine ⟨y3, y9, O', ?_, h3⟩
    rw [List.map_cons]
    refine Eq.trans (cR (s1 := ⟨riR rows fit known (some (.ptr s.2.1)) d q x8 (some (.tup [.int s.1.1, .int s.1.2])), O⟩) (s2 := ⟨riR rows fit known (some (.ptr s.2.1)) d q x8 (some (.tup [.int s.1.1, .int s.1.2])), O.set s.2.1 (.lst (xs ++ [.int 1]))⟩) (show okC (T.map tD) (some d) _ from h) (by rw [tD, nO]; rfl) ?_) e
    rw [jj]
    exact gX (ow (ag rfl) h1 (aL _ _) h1 (by omega) rfl)
theorem E8 {n : Nat} {rows : List (List Int)} {fit : List Int} {c : Nat} (f : dZ n rows fit c) : (fit.filter fun x => decide (0 < x)).length = cnt fit := by
  unfold M.cnt
  congr 1
  refine List.filter_congr fun x hx => ?_
  have := f.all x hx
  rw [decide_eq_decide]
  omega
theorem Cd {n : Nat} {rows : List (List Int)} {fit : List Int} {c : Nat} (h : lR n rows) (f : dZ n rows fit c) : ∃ O', jc [vII rows, vI fit, vII (lq (eU rows n))] [] = .ok (.bl true, O') := by
  have n7 := h.n7
  have fl := f.len
  have rc := h.cnt
  obtain ⟨T, Os, es, out⟩ := ve h f
  obtain ⟨k, Op, Q, ep, hd, sQ, nQ, qS, qV⟩ := tW h
  have know : fF n rows (eU rows n) := kF h.len
  have perm := ou (eU rows n)
  generalize hK : lq (eU rows n) = known at *
  have at0 : At 0 T Os := ⟨out.told, out.s, out.n0⟩
  have tl : T.length ≤ 7 := by
    have h1 := out.cn
    have h2 := t9 fit
    omega
  have sok : Ar n (T.map unp) := ⟨fun s hs => by
    obtain ⟨p, hp, rfl⟩ := List.mem_map.mp hs
    exact (out.good p hp).2.1, fun s hs => by
    obtain ⟨p, hp, rfl⟩ := List.mem_map.mp hs
    exact out.zt p hp, fun s hs => by
    obtain ⟨p, hp, rfl⟩ := List.mem_map.mp hs
    exact (out.lo p hp).fit.len, by rw [List.length_map]; exact tl⟩
  have co := DG n7 fl (f.sz.mono f.c2) sok out.eq
  have pw := FA (T.map unp)
  have pf : bf [.lst ((T.map unp).map wD), vI fit] = true := by rw [dc, gP, pw]; simp
  have pa : bf [vII rows, .int (n : Int), vI fit] = true := by simp
  have pl : bf [vII rows, .int (n : Int)] = true := Aq _ rfl
  have len : ∀ {R : List (Option D)} {O : au}, R[1]? = some (some (vI fit)) → bj cD (af (aa 1) aq) ⟨R, O⟩ = .ok (.int (n : Int), ⟨R, O⟩) := fun hR => dN (av (ag hR) (aC _)) (by rw [gS, List.length_map, fl])
  have e4 := aX (i := 4) (gc (l := rows) (item := vI) (out := vI) (caps := []) (im := listI (aa 0)) (e := bj eW (af (aa 0) aq)) (k := none) (s := ⟨[some (vII rows), some (vI fit), some (vII known), none, none, none, none, none, none, none], []⟩) (by rw [bW, ag (i := 0) rfl, ak]; rfl) trivial (by omega) (fun r _ => dN (av (ag rfl) (aC _)) (mH _))) rfl
  have e5 : setM 5 (bj eW (af (aa 1) aq)) ⟨[some (vII rows), some (vI fit), some (vII known), none, some (vII rows), none, none, none, none, none], []⟩ = .next ⟨[some (vII rows), some (vI fit), some (vII known), none, some (vII rows), some (vI fit), none, none, none, none], []⟩ := aX (dN (av (ag rfl) (aC _)) (mH _)) rfl
  have e6 : setM 6 (dC 3 ei (af (aa 4) (af (bj cD (af (aa 1) aq)) (af (aa 5) aq)))) ⟨[some (vII rows), some (vI fit), some (vII known), none, some (vII rows), some (vI fit), none, none, none, none], []⟩ = .next ⟨[some (vII rows), some (vI fit), some (vII known), none, some (vII rows), some (vI fit), some (.ptr (([] : au).length + 0)), none, none, none], ([] : au) ++ Os.map (shC ([] : au).length)⟩ := aX (gz (av (ag rfl) (av (len rfl) (av (ag rfl) (aC _)))) es pa rfl (fC _ _) rfl) rfl
  have at1 := zI [] at0
  have mT1 : ∀ s ∈ T.map (shT ([] : au).length), ∃ p ∈ T, s.1 = p.1 ∧ s.2.2 = p.2.2 := fun s hs => by
    obtain ⟨p, hp, rfl⟩ := List.mem_map.mp hs
    exact ⟨p, hp, rfl, rfl⟩
  have uT1 := BX ([] : au).length T
  have lT1 : (T.map (shT ([] : au).length)).length = T.length := List.length_map _
  have nd1 : ((T.map (shT ([] : au).length)).map fun s => s.2.2).Nodup := by rw [List.map_map]; exact out.nd
  generalize ([] : au) ++ Os.map (shC ([] : au).length) = O1 at e6 at1
  generalize ([] : au).length + 0 = d at e6 at1
  generalize T.map (shT ([] : au).length) = T1 at *
  have e7 : ifS (orT (iY (aU (unM (gE "list") (aa 6)))) (orT (aU (aj neD (aa 4) (aa 0))) (aU (aj neD (aa 5) (aa 1))))) (bN (ao (.bl false))) cu ⟨[some (vII rows), some (vI fit), some (vII known), none, some (vII rows), some (vI fit), some (.ptr d), none, none, none], O1⟩ = .next ⟨[some (vII rows), some (vI fit), some (vII known), none, some (vII rows), some (vI fit), some (.ptr d), none, none, none], O1⟩ := dM (jX (jY (cM (vY (ag rfl) (Ej at1.told _)))) (by decide) (jX (cM (aJ (ag rfl) (ag rfl) (EY _ _))) (by simp) (cM (aJ (ag rfl) (ag rfl) (Cf _ _))))) (by simp) (bX _)
  have e8 : setM 7 (mw aq) ⟨[some (vII rows), some (vI fit), some (vII known), none, some (vII rows), some (vI fit), some (.ptr d), none, none, none], O1⟩ = .next ⟨riR rows fit known none d O1.length none none, O1 ++ [.lst []]⟩ := aX (oR (aC _) (by simp) rfl rfl) rfl
  have dq : O1.length ≠ d := by have := jb at1.told; omega
  have sq : ∀ s ∈ T1, s.2.1 ≠ O1.length := fun s hs => by have := jb (at1.s s hs); omega
  have at2 : At d T1 (O1 ++ [.lst []]) := ⟨dt at1.told, fun s hs => dt (at1.s s hs), at1.n0⟩
  have g1 : ∀ s ∈ T1, 0 < s.1.1 ∧ 0 < s.1.2 ∧ Int.gcd s.1.1 s.1.2 = 1 ∧ Sub s.2.2 fit := fun s hs => by
    obtain ⟨p, hp, q1, q2⟩ := mT1 s hs
    rw [q1, q2]
    exact out.good p hp
  have lo1 : ∀ s ∈ T1, cj n rows s.2.2 := fun s hs => by
    obtain ⟨p, hp, q1, q2⟩ := mT1 s hs
    rw [q2]
    exact out.lo p hp
  obtain ⟨y8, O3, el1, at3⟩ := wA (known := known) n7 fl dq g1 (fun s hs => perm.mem_iff.mpr ((know.all _).mpr (lo1 s hs))) lo1 sq T1 [] none none none (O1 ++ [.lst []]) (fun _ q => q) (by simpa using nd1) (by simp; omega) at2 (by simp)
  have hf1 := dv (im := listI (aa 6)) (g := aE 8) (body := g8) (s := ⟨riR rows fit known none d O1.length none none, O1 ++ [.lst []]⟩) (ds := T1.map tD) (k := some d) (s1 := ⟨riR rows fit known none d O1.length none none, O1 ++ [.lst []]⟩) (oX (ag rfl) at2.told)
  rw [el1] at hf1
  have hcf := tR (l := fit) (item := D.int) (out := D.int) (p := fun x => decide (0 < x)) (caps := []) (im := listI (aa 1)) (c := aU (aj gtD (aa 0) (ao (.int 0)))) (e := aa 0) (k := none) (s := ⟨riR rows fit known none d O1.length y8 none, O3⟩) (by rw [bW, ag (i := 1) rfl, ak]; rfl) trivial (by omega) (fun x _ => jM (ag rfl)) (fun x _ _ => ag rfl)
  have e9 : ifS (orT (iY (aU (dJ 2 eG (af (aa 6) (af (aa 1) aq))))) (aU (aj gtD (bj cD (af (aa 6) aq)) (bj cD (af (cf 1 [] (listI (aa 1)) (aE 0) (aU (aj gtD (aa 0) (ao (.int 0)))) (aa 0)) aq))))) (bN (ao (.bl false))) cu ⟨riR rows fit known none d O1.length y8 none, O3⟩ = .next ⟨riR rows fit known none d O1.length y8 none, O3⟩ := by
    refine dM (jX (jY (cM (h9 (av (ag rfl) (av (ag rfl) (aC _))) ?_ co pf rfl rfl))) rfl (cM (aJ (dN (av (ag rfl) (aC _)) (xm at3.told)) (dN (av hcf (aC _)) (gS _)) (nu _ _)))) ?_ (bX _)
    · simp only [dr, eQ, hX at3.told, d7, dP]
      rw [ub at3.s, uT1]
    · rw [List.length_map, List.length_map, E8 f, lT1]
      have := out.cn
      exact decide_eq_false (by omega)
  obtain ⟨y3, y9, O4, el2, hd4⟩ := Bx (rows := rows) (known := known) (fit := fit) (q := O1.length) (x8 := y8) at3.n0 T1 0 none none O3 (fun _ q => q) (by omega) at3.told (fun s hs => ⟨_, at3.s s hs, by rw [List.length_map, (lo1 s hs).fit.len]; omega⟩)
  have hf2 := dv (im := listI (aa 6)) (g := cZ (aV (aE 9) (aV (aE 3) de)) 2) (body := jj) (s := ⟨riR rows fit known none d O1.length y8 none, O3⟩) (ds := T1.map tD) (k := some d) (s1 := ⟨riR rows fit known none d O1.length y8 none, O3⟩) (oX (ag rfl) at3.told)
  rw [el2] at hf2
  have e10 : ix (qB Cn (aa 6)) ⟨riR rows fit known y3 d O1.length y8 y9, O4⟩ = .next ⟨riR rows fit known y3 d O1.length y8 y9, O4.set d (.lst [])⟩ := gX (Ft (ag rfl) hd4 rfl rfl)
  generalize O4.set d (.lst []) = O5 at e10
  have at6 := zI O5 at0
  have e11 : gH (dC 3 ei (af (aa 4) (af (bj cD (af (aa 1) aq)) (af (aa 5) aq)))) ⟨riR rows fit known y3 d O1.length y8 y9, O5⟩ = .ok (.lst ((T.map (shT O5.length)).map tD), ⟨riR rows fit known y3 d O1.length y8 y9, (O5 ++ Os.map (shC O5.length)).set (O5.length + 0) .dead⟩) := kq (gz (av (ag rfl) (av (len rfl) (av (ag rfl) (aC _)))) es pa rfl (fC _ _) rfl) at6.told rfl
  have s6 : ∀ s ∈ T.map (shT O5.length), ((O5 ++ Os.map (shC O5.length)).set (O5.length + 0) .dead)[s.2.1]? = some (.lst (s.2.2.map D.int)) := fun s hs => by rw [cF (fun e => at6.n0 s hs e.symm)]; exact at6.s s hs
  have u6 := BX O5.length T
  generalize (O5 ++ Os.map (shC O5.length)).set (O5.length + 0) Cell.dead = O6 at e11 s6
  have e12 : dJ 2 eG (af (gH (dC 3 ei (af (aa 4) (af (bj cD (af (aa 1) aq)) (af (aa 5) aq))))) (af (aa 1) aq)) ⟨riR rows fit known y3 d O1.length y8 y9, O5⟩ = .ok (.bl true, ⟨riR rows fit known y3 d O1.length y8 y9, O6⟩) := by
    refine h9 (av e11 (av (ag rfl) (aC _))) ?_ co pf rfl rfl
    dsimp only
    simp only [dr, eQ, d7, dP]
    rw [ub s6, u6, kI pw]
  have hd3 := uw (S := O6) hd
  have sQ3 := xC (S := O6) sQ
  refine yF ⟨⟨riR rows fit known y3 d O1.length y8 y9, (O6 ++ Op.map (shC O6.length)).set (O6.length + k) .dead⟩, ?_⟩
  show i9 ⟨[some (vII rows), some (vI fit), some (vII known), none, none, none, none, none, none, none], []⟩ = _
  rw [i9]
  refine aP e4 (aP e5 (aP e6 (aP e7 (aP e8 (aP hf1 (aP e9 (aP hf2 (aP e10 (b8 (um e12 rfl (aJ (kq (gz (av (ag rfl) (av (len rfl) (aC _))) ep pl rfl (fC _ _) rfl) hd3 rfl) (ag rfl) ?_)))))))))))
  have sQ4 : Sto ((O6 ++ Op.map (shC O6.length)).set (O6.length + k) .dead) (Q.map fun p => (O6.length + p.1, p.2)) := sQ3.set (fun p hp => by
    obtain ⟨q, hq, rfl⟩ := List.mem_map.mp hp
    have := nQ q hq
    dsimp only
    omega) _
  have := CA sQ4 known
  rw [show (Q.map fun p => (O6.length + p.1, p.2)).map (·.2) = known by rw [List.map_map]; exact qV, decide_eq_true rfl] at this
  exact this
theorem uH {n : Nat} {rows : List (List Int)} {a : List Int} {c k : Nat} {m : Int} (f : dZ n rows a c) (m0 : 0 ≤ m) (mz : Sz k m) (hk : c + k ≤ 20000) : dZ n rows (a.map (· * m)) (c + k) := by
  have v : ∀ i, nth (a.map (· * m)) i = nth a i * m := fun i => iR (f := (· * m)) (Int.zero_mul _) a i
  refine ⟨by rw [List.length_map]; exact f.len, fun i => by rw [v]; exact Int.mul_nonneg (f.nn i) m0, fun r hr => ?_, fun x hx => ?_, by have := f.c1; omega, hk⟩
  · rw [lL (c := m) (d := 0) (x := a) (y := a) (fun i => by rw [v, Int.mul_comm, Int.zero_mul, Int.sub_zero]), f.st r hr]
    omega
  · obtain ⟨y, hy, rfl⟩ := List.mem_map.mp hx
    exact Sz.mul (f.sz y hy) mz
theorem Dp {n : Nat} {rows : List (List Int)} {a y : List Int} {j : Nat} {o : Int} (f : dZ n rows a (8050 + j)) (l : cj n rows y) (z : SzL 8000 y) (o0 : 0 ≤ o) (oz : Sz 50 o) (hj : j ≤ 1000) : dZ n rows ((a.zip y).map fun p => p.1 + o * p.2) (8050 + (j + 1)) := by
  have fl := f.len
  have yl := l.fit.len
  have len : ((a.zip y).map fun p => p.1 + o * p.2).length = n := by rw [List.length_map, List.length_zip]; omega
  have v : ∀ i, nth ((a.zip y).map fun p => p.1 + o * p.2) i = nth a i + o * nth y i := fun i => by
    by_cases h : i < n
    · unfold nth
      simp [List.getD_eq_getElem?_getD, List.getElem?_eq_getElem (show i < a.length by omega), List.getElem?_eq_getElem (show i < y.length by omega), List.getElem?_eq_getElem (show i < (a.zip y).length by rw [List.length_zip]; omega)]
    · rw [cI (r := (a.zip y).map fun p => p.1 + o * p.2) (i := i) (by omega), cI (r := a) (i := i) (by omega), cI (r := y) (i := i) (by omega), Int.mul_zero]
      rfl
  refine ⟨len, fun i => ?_, fun r hr => ?_, fun x hx => ?_, by omega, by omega⟩
  · rw [v]
    have h1 := f.nn i
    have h2 := Int.mul_nonneg o0 (l.fit.nn i)
    omega
  · rw [lL (c := 1) (d := -o) (x := a) (y := y) (fun i => by rw [v, Int.one_mul, Int.neg_mul]; omega), f.st r hr, l.fit.st r hr]
    omega
  · obtain ⟨p, hp, rfl⟩ := List.mem_map.mp hx
    have a1 := f.sz _ (List.of_mem_zip (a := p.1) (b := p.2) hp).1
    have a2 := (Sz.mul oz (z _ (List.of_mem_zip (a := p.1) (b := p.2) hp).2)).mono (show 50 + 8000 ≤ 8050 + j by omega)
    exact (Sz.add a1 a2).mono (by omega)
abbrev laR (ns : List Int) (many : Nat) (cs fit : List Int) (rows : List (List Int)) (x6 x7 : Option D) (Q : List (Nat × List Int)) (f : Nat) (x10 x11 x12 : Option D) : List (Option D) := [some (vI ns), some (.int (many : Int)), some (vI cs), some (.ptr 0), some (vI fit), some (vII rows), x6, x7, some (.lst (bD Q)), some (.ptr f), x10, x11, x12]
structure LIv (Q : List (Nat × List Int)) (f : Nat) (A : List (List Int)) (O : au) : Prop where
  bag : fN O 0
  s : Sto O Q
  fits : O[f]? = some (.lst (A.map vI))
theorem LIv.keep {Q : List (Nat × List Int)} {f : Nat} {A : List (List Int)} {O O' : au} (h : LIv Q f A O) (q0 : ∀ p ∈ Q, p.1 ≠ 0) (f0 : f ≠ 0) (b : fN O' 0) (k : ∀ i, i ≠ 0 → O'[i]? = O[i]?) : LIv Q f A O' := ⟨b, fun p hp => by rw [k _ (q0 p hp)]; exact h.s p hp, by rw [k _ f0]; exact h.fits⟩
theorem Bd {ns cs fit made : List Int} {many : Nat} {rows A : List (List Int)} {Q : List (Nat × List Int)} {f j : Nat} {p : Nat × List Int} {O : au} {x6 x10 x12 : Option D} (q0 : ∀ p ∈ Q, p.1 ≠ 0) (f0 : f ≠ 0) (hp : p ∈ Q) (lp : cj many rows p.2) (zp : SzL 8000 p.2) (n7 : many ≤ 7) (h : LIv Q f A O) (fo : dZ many rows made (8050 + j)) (hj : j ≤ 1000) :
    ∃ made' O' y12, qs ⟨laR ns many cs fit rows x6 (some (.ptr p.1)) Q f x10 (some (vI made)) x12, O⟩ = .next ⟨laR ns many cs fit rows x6 (some (.ptr p.1)) Q f x10 (some (vI made')) y12, O'⟩ ∧ LIv Q f A O' ∧ dZ many rows made' (8050 + (j + 1)) := by
  obtain ⟨o1, O1, d1, a1, a2, b1, k1⟩ := gn h.bag (m := 4) (by decide)
  obtain ⟨w, O2, d2, w1, w2, b2, k2⟩ := gn b1 (m := 9) (by decide)
  have h2 : LIv Q f A O2 := (h.keep q0 f0 b1 k1).keep q0 f0 b2 k2
  have e1 : setM 12 (bE 2 aH (af (aa 3) (af (ao (.int 4)) aq))) ⟨laR ns many cs fit rows x6 (some (.ptr p.1)) Q f x10 (some (vI made)) x12, O⟩ = .next ⟨laR ns many cs fit rows x6 (some (.ptr p.1)) Q f x10 (some (vI made)) (some (.int o1)), O1⟩ := aX (eO (av (ag rfl) (av (aL _ _) (aC _))) d1 rfl) rfl
  have t : aU (aj eqD (bE 2 aH (af (aa 3) (af (ao (.int 9)) aq))) (ao (.int 8))) ⟨laR ns many cs fit rows x6 (some (.ptr p.1)) Q f x10 (some (vI made)) (some (.int o1)), O1⟩ = .ok (decide (w = 8), ⟨laR ns many cs fit rows x6 (some (.ptr p.1)) Q f x10 (some (vI made)) (some (.int o1)), O2⟩) := eq_test (eO (av (ag rfl) (av (aL _ _) (aC _))) d2 rfl)
  have e2 : ∃ o O3, ifS (aU (aj eqD (bE 2 aH (af (aa 3) (af (ao (.int 9)) aq))) (ao (.int 8)))) (setM 12 (aj bB (bE 2 aH (af (aa 3) (af (aj eN (ao (.int 10)) (ao (.int 6))) aq))) (aj eN (ao (.int 10)) (ao (.int 6))))) cu ⟨laR ns many cs fit rows x6 (some (.ptr p.1)) Q f x10 (some (vI made)) (some (.int o1)), O1⟩ = .next ⟨laR ns many cs fit rows x6 (some (.ptr p.1)) Q f x10 (some (vI made)) (some (.int o)), O3⟩ ∧ LIv Q f A O3 ∧ 0 ≤ o ∧ Sz 50 o := by
    by_cases hw : w = 8
    · obtain ⟨v, O3, d3, v0, v1, b3, k3⟩ := gn b2 (m := 1000000) (by decide)
      have p6 : ∀ O, eN O (.int 10) (.int 6) = .ok (.int 1000000) := fun O => jv (by decide) (by decide) (by decide)
      refine ⟨v * 1000000, O3, lC t (decide_eq_true hw) (aX (aJ (eO (av (ag rfl) (av (aJ (aL _ _) (aL _ _) (p6 _)) (aC _))) d3 rfl) (aJ (aL _ _) (aL _ _) (p6 _)) (bJ (dY (.inr (by decide))))) rfl), h2.keep q0 f0 b3 k3, by omega, ?_⟩
      unfold Sz
      omega
    · exact ⟨o1, O2, dM t (decide_eq_false hw) (bX _), h2, a1, by unfold Sz; omega⟩
  obtain ⟨o, O3, e2, h3, o0, oz⟩ := e2
  have fl := fo.len
  have e3 := yG (l := made.zip p.2) (f := fun q => .int q.1) (g := fun q => .int q.2) (out := fun q => .int (q.1 + o * q.2)) (caps := [12]) (im := sf (af (aa 11) (af (aa 7) aq))) (e := aj dm (aa 0) (aj bB (aa 2) (aa 1))) (s := ⟨laR ns many cs fit rows x6 (some (.ptr p.1)) Q f x10 (some (vI made)) (some (.int o)), O3⟩) (ok := fun O => lsD O (vI made) = some (made.map D.int) ∧ lsD O (.ptr p.1) = some (p.2.map D.int)) (by
    rw [AQ (as := made.map D.int) (bs := p.2.map D.int) (av (ag (i := 11) rfl) (av (ag (i := 7) rfl) (aC _))) fv (gB (h3.s p hp)), kK]) ⟨fv, gB (h3.s p hp)⟩ (by rw [List.length_zip]; omega) (fun q hq => aJ (ag rfl) (aJ (ag rfl) (ag rfl) (bJ (eS (m := 50) (n := 8000) (by decide) (by decide) oz (zp _ (List.of_mem_zip (a := q.1) (b := q.2) hq).2)))) (jm _ _))
  rw [show (made.zip p.2).map (fun q => D.int (q.1 + o * q.2)) = ((made.zip p.2).map fun q => q.1 + o * q.2).map D.int by rw [List.map_map]; rfl] at e3
  refine ⟨(made.zip p.2).map fun q => q.1 + o * q.2, O3, some (.int o), ?_, h3, Dp fo lp zp o0 oz hj⟩
  rw [qs]
  exact aP e1 (aP e2 (aX e3 rfl))
theorem zc {ns cs fit : List Int} {many : Nat} {rows A : List (List Int)} {Q : List (Nat × List Int)} {f : Nat} {x6 x10 : Option D} (q0 : ∀ p ∈ Q, p.1 ≠ 0) (f0 : f ≠ 0) (lo : ∀ p ∈ Q, cj many rows p.2) (z : ∀ p ∈ Q, SzL 8000 p.2) (n7 : many ≤ 7) (K : List D) : ∀ (rest : List (Nat × List Int)) (j : Nat) (made : List Int) (O : au) (x7 x12 : Option D), (∀ p ∈ rest, p ∈ Q) → LIv Q f A O → dZ many rows made (8050 + j) → j + rest.length ≤ 100 →
    ∃ made' O' y7 y12, bt (okC K none) (aE 7) qs (bD rest) ⟨laR ns many cs fit rows x6 x7 Q f x10 (some (vI made)) x12, O⟩ = .next ⟨laR ns many cs fit rows x6 y7 Q f x10 (some (vI made')) y12, O'⟩ ∧ LIv Q f A O' ∧ dZ many rows made' 9000
  | [], j, made, O, x7, x12, _, h, fo, hj => ⟨made, O, x7, x12, by show bt _ _ _ [] _ = _; rw [bt, if_pos (show okC K none _ from trivial)], h, ⟨fo.len, fo.nn, fo.st, fo.sz.mono (by simp at hj; omega), by decide, by decide⟩⟩
  | p :: rest, j, made, O, x7, x12, hr, h, fo, hj => by
    rw [List.length_cons] at hj
    have hp := hr p List.mem_cons_self
    obtain ⟨m1, O1, y12, e1, h1, f1⟩ := Bd (ns := ns) (cs := cs) (fit := fit) (x6 := x6) (x10 := x10) (x12 := x12) q0 f0 hp (lo p hp) (z p hp) n7 h fo (by omega)
    obtain ⟨m2, O2, z7, z12, e2, h2, f2⟩ := zc (ns := ns) (cs := cs) (fit := fit) (x6 := x6) (x10 := x10) q0 f0 lo z n7 K rest (j + 1) m1 O1 (some (.ptr p.1)) y12 (fun q hq => hr q (List.mem_cons_of_mem _ hq)) h1 f1 (by omega)
    refine ⟨m2, O2, z7, z12, ?_, h2, f2⟩
    show bt _ _ _ (.ptr p.1 :: bD rest) _ = _
    exact Eq.trans (cR (s1 := ⟨laR ns many cs fit rows x6 (some (.ptr p.1)) Q f x10 (some (vI made)) x12, O⟩) (s2 := ⟨laR ns many cs fit rows x6 (some (.ptr p.1)) Q f x10 (some (vI m1)) y12, O1⟩) trivial rfl e1) e2
theorem uD {ns cs fit : List Int} {many : Nat} {rows A : List (List Int)} {Q : List (Nat × List Int)} {f : Nat} {O : au} {x6 x7 x10 x11 x12 : Option D} (q0 : ∀ p ∈ Q, p.1 ≠ 0) (f0 : f ≠ 0) (qf : ∀ p ∈ Q, p.1 ≠ f) (lo : ∀ p ∈ Q, cj many rows p.2) (z : ∀ p ∈ Q, SzL 8000 p.2) (n7 : many ≤ 7) (ql : Q.length ≤ 64) (fo : dZ many rows fit 20) (h : LIv Q f A O) (al : A.length ≤ 100) :
    ∃ made O' y7 y10 y11 y12, qr ⟨laR ns many cs fit rows x6 x7 Q f x10 x11 x12, O⟩ = .next ⟨laR ns many cs fit rows x6 y7 Q f y10 y11 y12, O'⟩ ∧ LIv Q f (A ++ [made]) O' ∧ dZ many rows made 9000 := by
  obtain ⟨s, O1, d1, s0, s1, b1, k1⟩ := gn h.bag (m := 3) (by decide)
  have h1 := h.keep q0 f0 b1 k1
  have e1 : setM 10 (bE 2 aH (af (aa 3) (af (ao (.int 3)) aq))) ⟨laR ns many cs fit rows x6 x7 Q f x10 x11 x12, O⟩ = .next ⟨laR ns many cs fit rows x6 x7 Q f (some (.int s)) x11 x12, O1⟩ := aX (eO (av (ag rfl) (av (aL _ _) (aC _))) d1 rfl) rfl
  have fl := fo.len
  have e2 := gc (l := fit) (item := D.int) (out := fun x => .int (x * s)) (caps := [10]) (im := listI (aa 4)) (e := aj bB (aa 0) (aa 1)) (k := none) (s := ⟨laR ns many cs fit rows x6 x7 Q f (some (.int s)) x11 x12, O1⟩) (by rw [bW, ag (i := 4) rfl, ak]; rfl) trivial (by omega) (fun x _ => aJ (ag rfl) (ag rfl) (bJ (dY (.inr (by omega)))))
  rw [show fit.map (fun x => D.int (x * s)) = (fit.map (· * s)).map D.int by rw [List.map_map]; rfl] at e2
  have f1 := uH (k := 2) fo s0 (by unfold Sz; omega) (by decide)
  have f2 : dZ many rows (fit.map (· * s)) (8050 + 0) := ⟨f1.len, f1.nn, f1.st, f1.sz.mono (by decide), by decide, by decide⟩
  obtain ⟨made, O2, y7, y12, e3, h2, f3⟩ := zc (ns := ns) (cs := cs) (fit := fit) (x6 := x6) (x10 := some (.int s)) q0 f0 lo z n7 (bD Q) Q 0 _ O1 x7 x12 (fun _ q => q) h1 f2 (by omega)
  refine ⟨made, O2.set f (.lst (A.map vI ++ [vI made])), y7, some (.int s), some (vI made), y12, ?_, ⟨?_, h2.s.set qf _, by rw [cP h2.fits, List.map_append]; rfl⟩, f3⟩
  · rw [qr]
    exact aP e1 (aP (aX e2 rfl) (aP ((dv (im := listI (aa 8)) (ds := bD Q) (k := none) (s1 := ⟨laR ns many cs fit rows x6 x7 Q f (some (.int s)) (some (vI (fit.map (· * s)))) x12, O1⟩) (by rw [bW, ag (i := 8) rfl, ak]; rfl)).trans e3) (gX (ow (ag rfl) h2.fits (ag rfl) h2.fits (by rw [List.length_map]; omega) rfl))))
  · obtain ⟨a, c, hb⟩ := h2.bag
    exact ⟨a, c, by rw [cF f0]; exact hb⟩
theorem yX {ns cs fit : List Int} {many : Nat} {rows : List (List Int)} {Q : List (Nat × List Int)} {f : Nat} {A : List (List Int)} {O : au} {x6 x10 x11 x12 : Option D} (rok : lR many rows) (hQ : Q.map (·.2) = lq (eU rows many)) (h : LIv Q f A O) (fo : ∀ x ∈ A, dZ many rows x 9000) : ∀ (rest : List (List Int)) (x7 : Option D), (∀ x ∈ rest, x ∈ A) →
    ∃ y7, bt (okC (A.map vI) (some f)) (aE 7) qm (rest.map vI) ⟨laR ns many cs fit rows x6 x7 Q f x10 x11 x12, O⟩ = .next ⟨laR ns many cs fit rows x6 y7 Q f x10 x11 x12, O⟩
  | [], x7, _ => ⟨x7, by rw [List.map_nil, bt, if_pos (show okC (A.map vI) (some f) _ from h.fits)]⟩
  | x :: rest, x7, hr => by
    obtain ⟨y7, e⟩ := yX (ns := ns) (cs := cs) (fit := fit) (x6 := x6) (x10 := x10) (x11 := x11) (x12 := x12) rok hQ h fo rest (some (vI x)) fun q hq => hr q (List.mem_cons_of_mem _ hq)
    refine ⟨y7, ?_⟩
    obtain ⟨Or, er⟩ := Cd rok (fo x (hr x List.mem_cons_self))
    rw [List.map_cons]
    refine Eq.trans (cR (s1 := ⟨laR ns many cs fit rows x6 (some (vI x)) Q f x10 x11 x12, O⟩) (s2 := ⟨laR ns many cs fit rows x6 (some (vI x)) Q f x10 x11 x12, O⟩) (show okC (A.map vI) (some f) _ from h.fits) rfl ?_) e
    rw [qm]
    refine dM (jY (cM (h9 (av (ag rfl) (av (ag rfl) (av (ag rfl) (aC _)))) (rs := [vII rows, vI x, vII (lq (eU rows many))]) ?_ er (by simp) rfl rfl))) rfl (bX _)
    simp only [dr, eQ, d7, dP, qw, pq h.s, hQ]
theorem Hc (many w : Int) (O : au) (w0 : 0 ≤ w) (w1 : w < 2) : ∃ i wide, bB O (.int (if decide (many < 5) = true then 1 else 0)) (.int w) = .ok (.int i) ∧ ixD O (.lst [.int 4, .int 1000000000]) (.int i) = .ok (.int wide) ∧ 0 < wide ∧ wide ≤ 1000000000 := by
  have h : w = 0 ∨ w = 1 := by omega
  rcases h with rfl | rfl
  · refine ⟨0, 4, ?_, GF _ _, by decide, by decide⟩
    rw [bJ (dY (.inr (by decide))), Int.mul_zero]
  · by_cases h : many < 5
    · refine ⟨1, 1000000000, ?_, HF _ _ _, by decide, by decide⟩
      rw [bJ (dY (.inr (by decide))), decide_eq_true h]; rfl
    · refine ⟨0, 4, ?_, GF _ _, by decide, by decide⟩
      rw [bJ (dY (.inr (by decide))), decide_eq_false h]; rfl
theorem DD (ns : List Int) (h : ns.length ≤ 63) : ∃ O, vP [.lst (ns.map D.int)] [] = .ok (.bl true, O) := by
  obtain ⟨c0, k0, _⟩ := ug ns 0
  obtain ⟨c1, k1, _⟩ := ug ns 1
  obtain ⟨c2, k2, _⟩ := ug ns 2
  have k0 : bL [vI ns, .int 0] [] = .ok (.int c0, []) := k0
  have k1 : bL [vI ns, .int 1] [] = .ok (.int c1, []) := k1
  have k2 : bL [vI ns, .int 2] [] = .ok (.int c2, []) := k2
  obtain ⟨ks, hcut, hks⟩ := C3 ns 3 8
  have hks : ks.length ≤ 5 := by omega
  have pc : ∀ z : Int, bf [vI ns, .int z] = true := fun z => by simp
  have call : ∀ {z c : Int} {R : List (Option D)} {O : au} (i : Nat), bL [vI ns, .int z] [] = .ok (.int c, []) → R[i]? = some (some (vI ns)) → bF 2 bL (af (aa i) (af (ao (.int z)) aq)) ⟨R, O⟩ = .ok (.int c, ⟨R, O⟩) := fun i hc hR => eP (av (ag hR) (av (aL _ _) (aC _))) hc (pc _) rfl rfl
  have sl : ∀ {R : List (Option D)} {O : au}, R[0]? = some (some (vI ns)) → slM (aa 0) (part (ao (.int 3))) (part (ao (.int 8))) ⟨R, O⟩ = .ok (vI ks, ⟨R, O⟩) := fun hR => ua (ag hR) (mr (aL _ _)) (mr (aL _ _)) fv hcut
  obtain ⟨many, hm, m0, m7⟩ : ∃ many : Nat, 1 + c0 % 6 = (many : Int) ∧ 0 < many ∧ many ≤ 7 := ⟨(1 + c0 % 6).toNat, by omega, by omega, by omega⟩
  have e1 : setM 1 (aj dm (ao (.int 1)) (aj fg (bF 2 bL (af (aa 0) (af (ao (.int 0)) aq))) (ao (.int 6)))) ⟨[some (vI ns), none, none, none, none, none, none, none, none, none, none, none, none], []⟩ = .next ⟨[some (vI ns), some (.int (many : Int)), none, none, none, none, none, none, none, none, none, none, none], []⟩ := by
    refine aX (aJ (aL _ _) (aJ (call 0 k0 rfl) (aL _ _) (fD (by decide))) ?_) rfl
    rw [jm, hm]
  have e2 : setM 2 (aj dm (mP (af (bF 2 bL (af (aa 0) (af (ao (.int 1)) aq))) aq)) (slM (aa 0) (part (ao (.int 3))) (part (ao (.int 8))))) ⟨[some (vI ns), some (.int (many : Int)), none, none, none, none, none, none, none, none, none, none, none], []⟩ = .next ⟨[some (vI ns), some (.int (many : Int)), some (vI (c1 :: ks)), none, none, none, none, none, none, none, none, none, none], []⟩ := by
    refine aX (aJ (vL (av (call 0 k1 rfl) (aC _)) (by simp)) (sl rfl) ?_) rfl
    rw [n8 (by simp; omega)]
    rfl
  obtain ⟨a, c, eb⟩ := A8 c2
  have e3 : setM 3 (dC 1 fi (af (bF 2 bL (af (aa 0) (af (ao (.int 2)) aq))) aq)) ⟨[some (vI ns), some (.int (many : Int)), some (vI (c1 :: ks)), none, none, none, none, none, none, none, none, none, none], []⟩ = .next ⟨[some (vI ns), some (.int (many : Int)), some (vI (c1 :: ks)), some (.ptr 0), none, none, none, none, none, none, none, none, none], [.lst [.int a, .int c]]⟩ := aX (gz (av (call 0 k2 rfl) (aC _)) eb (by simp) rfl (fC _ _) (by simp [shC, eR, shD])) rfl
  have b0 : fN [Cell.lst [D.int a, .int c]] 0 := ⟨a, c, rfl⟩
  obtain ⟨fs, O1, d1, fl, f0, b1⟩ := GK b0 (many := many) (by omega) (by omega)
  have e4 : setM 4 (bE 2 jL (af (aa 3) (af (aa 1) aq))) ⟨[some (vI ns), some (.int (many : Int)), some (vI (c1 :: ks)), some (.ptr 0), none, none, none, none, none, none, none, none, none], [.lst [.int a, .int c]]⟩ = .next ⟨[some (vI ns), some (.int (many : Int)), some (vI (c1 :: ks)), some (.ptr 0), some (vI (1 :: fs)), none, none, none, none, none, none, none, none], O1⟩ := aX (eO (av (ag rfl) (av (ag rfl) (aC _))) d1 rfl) rfl
  have fz : SzL 20 fs := fun x hx => by
    have := f0 x hx
    unfold Sz
    omega
  obtain ⟨v, O2, d2, v0, v1, b2, _⟩ := gn b1 (m := 2) (by decide)
  obtain ⟨i, wide, i1, i2, wd0, wd1⟩ := Hc (many : Int) v O2 v0 v1
  obtain ⟨made, Oc, ec, ml, mlen, msz, mst⟩ := AA (cs := c1 :: ks) (fs := fs) (cnt := ks.length) (wide := wide) (by simp) (by omega) fz hks wd0 wd1
  have p10 : ∀ O, eN O (.int 10) (.int 9) = .ok (.int 1000000000) := fun O => jv (by decide) (by decide) (by decide)
  have p20 : ∀ O, eN O (.int 10) (.int 20) = .ok (.int 100000000000000000000) := fun O => jv (by decide) (by decide) (by decide)
  have e5 : setM 5 (bF 4 gx (af (aa 2) (af (aa 4) (af (bj cD (af (slM (aa 0) (part (ao (.int 3))) (part (ao (.int 8)))) aq)) (af (aj ixD (mP (af (ao (.int 4)) (af (aj eN (ao (.int 10)) (ao (.int 9))) aq))) (aj bB (bj intOf (af (aj ltD (aa 1) (ao (.int 5))) aq)) (bE 2 aH (af (aa 3) (af (ao (.int 2)) aq))))) aq))))) ⟨[some (vI ns), some (.int (many : Int)), some (vI (c1 :: ks)), some (.ptr 0), some (vI (1 :: fs)), none, none, none, none, none, none, none, none], O1⟩ = .next ⟨[some (vI ns), some (.int (many : Int)), some (vI (c1 :: ks)), some (.ptr 0), some (vI (1 :: fs)), some (vII made), none, none, none, none, none, none, none], O2⟩ := by
    refine aX (eP (av (ag rfl) (av (ag rfl) (av (dN (av (sl rfl) (aC _)) (gS _)) (av (aJ (vL (av (aL _ _) (av (aJ (aL _ _) (aL _ _) (p10 _)) (aC _))) (by simp)) (aJ (dN (av (aJ (ag rfl) (aL _ _) (lI _ _)) (aC _)) (DC _)) (eO (av (ag rfl) (av (aL _ _) (aC _))) d2 rfl) i1) i2) (aC _))))) (by rw [List.length_map]; exact ec) (by simp) rfl (by rw [gP, mK])) rfl
  obtain ⟨t, O3, d3, t0, t1, b3, _⟩ := gn b2 (m := (many : Int)) (by omega)
  obtain ⟨tn, rfl⟩ : ∃ tn : Nat, t = (tn : Int) := ⟨t.toNat, by omega⟩
  have e6 : setM 6 (bE 2 aH (af (aa 3) (af (aa 1) aq))) ⟨[some (vI ns), some (.int (many : Int)), some (vI (c1 :: ks)), some (.ptr 0), some (vI (1 :: fs)), some (vII made), none, none, none, none, none, none, none], O2⟩ = .next ⟨[some (vI ns), some (.int (many : Int)), some (vI (c1 :: ks)), some (.ptr 0), some (vI (1 :: fs)), some (vII made), some (.int (tn : Int)), none, none, none, none, none, none], O3⟩ := aX (eO (av (ag rfl) (av (ag rfl) (aC _))) d3 rfl) rfl
  have slen : ∀ r ∈ made, r.length = many := fun r hr => by rw [mlen r hr]; omega
  have e7 : setM 5 (bF 2 gM (af (aa 5) (af (aa 6) aq))) ⟨[some (vI ns), some (.int (many : Int)), some (vI (c1 :: ks)), some (.ptr 0), some (vI (1 :: fs)), some (vII made), some (.int (tn : Int)), none, none, none, none, none, none], O3⟩ = .next ⟨[some (vI ns), some (.int (many : Int)), some (vI (c1 :: ks)), some (.ptr 0), some (vI (1 :: fs)), some (vII (made.map (dh tn))), some (.int (tn : Int)), none, none, none, none, none, none], O3⟩ := aX (eP (av (ag rfl) (av (ag rfl) (aC _))) (BL slen (by omega) (by omega) (by omega)) (by simp) rfl (by rw [gP, mK])) rfl
  have rok : lR many (made.map (dh tn)) := ⟨fun r hr => by
    obtain ⟨q, hq, rfl⟩ := List.mem_map.mp hr
    rw [xv (by rw [slen q hq]; omega), slen q hq], fun r hr x hx => by
    obtain ⟨q, hq, rfl⟩ := List.mem_map.mp hr
    exact msz q hq x (nL.mp hx), by rw [List.length_map]; omega, m7⟩
  have rfit : Fit many (made.map (dh tn)) (dh tn (1 :: fs)) := Du (by omega) (fun a ha => (f0 a ha).1) slen mst (by omega)
  have fok : dZ many (made.map (dh tn)) (dh tn (1 :: fs)) 20 := ⟨rfit.len, rfit.nn, rfit.st, fun x hx => by
    rcases List.mem_cons.mp (nL.mp hx) with rfl | q
    · unfold Sz; decide
    · exact fz x q, by decide, by decide⟩
  have e8 : setM 4 (aj dm (slM (aa 4) (part (aa 6)) gG) (slM (aa 4) gG (part (aa 6)))) ⟨[some (vI ns), some (.int (many : Int)), some (vI (c1 :: ks)), some (.ptr 0), some (vI (1 :: fs)), some (vII (made.map (dh tn))), some (.int (tn : Int)), none, none, none, none, none, none], O3⟩ = .next ⟨[some (vI ns), some (.int (many : Int)), some (vI (c1 :: ks)), some (.ptr 0), some (vI (dh tn (1 :: fs))), some (vII (made.map (dh tn))), some (.int (tn : Int)), none, none, none, none, none, none], O3⟩ := by
    refine aX (aJ (ua (ag rfl) (mr (ag rfl)) (mx _) fv (uW (by simp; omega))) (ua (ag rfl) (mx _) (mr (ag rfl)) fv px) ?_) rfl
    rw [n8 (by simp; omega), ← List.map_append]
    rfl
  generalize made.map (dh tn) = rows at *
  generalize dh tn (1 :: fs) = fit at *
  have rcnt := rok.cnt
  have cp : ∀ {R : List (Option D)} {O : au}, R[5]? = some (some (vII rows)) → cf 1 [] (listI (aa 5)) (aE 0) bT (bj eW (af (aa 0) aq)) ⟨R, O⟩ = .ok (vII rows, ⟨R, O⟩) := fun {R O} hR => gc (l := rows) (item := vI) (out := vI) (caps := []) (im := listI (aa 5)) (e := bj eW (af (aa 0) aq)) (k := none) (s := ⟨R, O⟩) (by rw [bW, ag hR, ak]; rfl) trivial (by omega) (fun r _ => dN (av (ag rfl) (aC _)) (mH _))
  obtain ⟨d, Op, Q, ep, hd, sQ, nQ, qS, qV⟩ := tW rok
  have know : fF many rows (eU rows many) := kF rok.len
  have perm : (Q.map (·.2)).Perm (eU rows many) := by rw [qV]; exact ou _
  have qlone : ∀ x ∈ Q.map (·.2), cj many rows x := fun x hx => (know.all x).mp (perm.mem_iff.mp hx)
  have qsz : ∀ x ∈ Q.map (·.2), SzL 8000 x := fun x hx => rO rok (rs := rows) (fun _ q => q) rcnt x (perm.mem_iff.mp hx)
  have qfew : Q.length < 64 := by
    have := know.few m7
    rw [← perm.length_eq, List.length_map] at this
    exact this
  have pa : bf [vII rows, .int (many : Int)] = true := Aq _ rfl
  have o3 : 0 < O3.length := by
    obtain ⟨x, y, hb⟩ := b3
    exact jb hb
  have hd1 : (O3 ++ Op.map (shC O3.length))[O3.length + d]? = some (.lst (bD (Q.map fun p => (O3.length + p.1, p.2)))) := uw (S := O3) hd
  have sQ1 : Sto (O3 ++ Op.map (shC O3.length)) (Q.map fun p => (O3.length + p.1, p.2)) := xC (S := O3) sQ
  have nQ1 : ∀ p ∈ Q.map (fun p => (O3.length + p.1, p.2)), p.1 ≠ O3.length + d := fun p hp => by
    obtain ⟨q, hq, rfl⟩ := List.mem_map.mp hp
    have := nQ q hq
    dsimp only
    omega
  have q0 : ∀ p ∈ Q.map (fun p => (O3.length + p.1, p.2)), p.1 ≠ 0 := fun p hp => by
    obtain ⟨q, hq, rfl⟩ := List.mem_map.mp hp
    dsimp only
    omega
  have mQ1 : (Q.map fun p => (O3.length + p.1, p.2)).map (·.2) = Q.map (·.2) := by rw [List.map_map]; rfl
  have lQ1 : (Q.map fun p => (O3.length + p.1, p.2)).length = Q.length := List.length_map _
  have e9 : setM 8 (gH (dC 2 gd (af (cf 1 [] (listI (aa 5)) (aE 0) bT (bj eW (af (aa 0) aq))) (af (aa 1) aq)))) ⟨[some (vI ns), some (.int (many : Int)), some (vI (c1 :: ks)), some (.ptr 0), some (vI fit), some (vII rows), some (.int (tn : Int)), none, none, none, none, none, none], O3⟩ = .next ⟨[some (vI ns), some (.int (many : Int)), some (vI (c1 :: ks)), some (.ptr 0), some (vI fit), some (vII rows), some (.int (tn : Int)), none, some (.lst (bD (Q.map fun p => (O3.length + p.1, p.2)))), none, none, none, none], (O3 ++ Op.map (shC O3.length)).set (O3.length + d) .dead⟩ :=
    aX (kq (gz (av (cp rfl) (av (ag rfl) (aC _))) ep pa rfl (fC _ _) rfl) hd1 rfl) rfl
  have sQ2 : Sto ((O3 ++ Op.map (shC O3.length)).set (O3.length + d) .dead) (Q.map fun p => (O3.length + p.1, p.2)) := sQ1.set nQ1 _
  have b4 : fN ((O3 ++ Op.map (shC O3.length)).set (O3.length + d) .dead) 0 := by
    obtain ⟨x, y, hb⟩ := b3
    exact ⟨x, y, by rw [cF (by omega)]; exact dt hb⟩
  generalize (O3 ++ Op.map (shC O3.length)).set (O3.length + d) Cell.dead = O4 at e9 sQ2 b4
  generalize (Q.map fun p => (O3.length + p.1, p.2)) = Q1 at *
  have lo1 : ∀ p ∈ Q1, cj many rows p.2 := fun p hp => qlone _ (by rw [← mQ1]; exact List.mem_map_of_mem hp)
  have sz1 : ∀ p ∈ Q1, SzL 8000 p.2 := fun p hp => qsz _ (by rw [← mQ1]; exact List.mem_map_of_mem hp)
  have fl' := fok.len
  have m1 : 0 ≤ c1 % 100000000000000000000 := Int.emod_nonneg _ (by decide)
  have m2 : c1 % 100000000000000000000 < 100000000000000000000 := Int.emod_lt_of_pos _ (by decide)
  have zm : Sz 80 (1 + c1 % 100000000000000000000) := by unfold Sz; omega
  have hsc := gc (l := fit) (item := D.int) (out := fun x => .int (x * (1 + c1 % 100000000000000000000))) (caps := [0]) (im := listI (aa 4)) (e := aj bB (aa 0) (aj dm (ao (.int 1)) (aj fg (bF 2 bL (af (aa 1) (af (ao (.int 1)) aq))) (aj eN (ao (.int 10)) (ao (.int 20)))))) (k := none) (s := ⟨[some (vI ns), some (.int (many : Int)), some (vI (c1 :: ks)), some (.ptr 0), some (vI fit), some (vII rows), some (.int (tn : Int)), none, some (.lst (bD Q1)), none, none, none, none], O4⟩) (by rw [bW, ag (i := 4) rfl, ak]; rfl) trivial (by omega) (fun x hx => aJ (ag rfl) (aJ (aL _ _) (aJ (call 1 k1 rfl) (aJ (aL _ _) (aL _ _) (p20 _)) (fD (by decide))) (jm _ _)) (bJ (eS (m := 20) (n := 80) (by decide) (by decide) (fok.sz x hx) zm)))
  rw [show fit.map (fun x => D.int (x * (1 + c1 % 100000000000000000000))) = (fit.map (· * (1 + c1 % 100000000000000000000))).map D.int by rw [List.map_map]; rfl] at hsc
  have f2 := uH (k := 80) fok (by omega) zm (by decide)
  have up : ∀ {x : List Int} {c : Nat}, dZ many rows x c → c ≤ 9000 → dZ many rows x 9000 := fun f hc => ⟨f.len, f.nn, f.st, f.sz.mono hc, by decide, by decide⟩
  generalize fit.map (· * (1 + c1 % 100000000000000000000)) = fit2 at hsc f2
  have e10 : setM 9 (mw (af (aa 4) (af (cf 1 [0] (listI (aa 4)) (aE 0) bT (aj bB (aa 0) (aj dm (ao (.int 1)) (aj fg (bF 2 bL (af (aa 1) (af (ao (.int 1)) aq))) (aj eN (ao (.int 10)) (ao (.int 20))))))) aq))) ⟨[some (vI ns), some (.int (many : Int)), some (vI (c1 :: ks)), some (.ptr 0), some (vI fit), some (vII rows), some (.int (tn : Int)), none, some (.lst (bD Q1)), none, none, none, none], O4⟩ = .next ⟨laR ns many (c1 :: ks) fit rows (some (.int (tn : Int))) none Q1 O4.length none none none, O4 ++ [.lst ([fit, fit2].map vI)]⟩ := aX (oR (av (ag rfl) (av hsc (aC _))) (by simp) rfl rfl) rfl
  have o4 : 0 < O4.length := by
    obtain ⟨x, y, hb⟩ := b4
    exact jb hb
  have qf : ∀ p ∈ Q1, p.1 ≠ O4.length := fun p hp => Nat.ne_of_lt (sQ2.lt hp)
  have iv0 : LIv Q1 O4.length [fit, fit2] (O4 ++ [.lst ([fit, fit2].map vI)]) := ⟨by
    obtain ⟨x, y, hb⟩ := b4
    exact ⟨x, y, dt hb⟩, sQ2.app _, by simp⟩
  generalize O4 ++ [Cell.lst ([fit, fit2].map vI)] = O5 at e10 iv0
  generalize O4.length = f at *
  obtain ⟨g1, O6, y7, y10, y11, y12, t1, iv1, w1⟩ := uD (ns := ns) (cs := c1 :: ks) (x6 := some (.int 0)) (x7 := none) (x10 := none) (x11 := none) (x12 := none) q0 (by omega) qf lo1 sz1 m7 (by omega) fok iv0 (by simp)
  obtain ⟨g2, O7, z7, z10, z11, z12, t2, iv2, w2⟩ := uD (ns := ns) (cs := c1 :: ks) (x6 := some (.int 1)) (x7 := y7) (x10 := y10) (x11 := y11) (x12 := y12) q0 (by omega) qf lo1 sz1 m7 (by omega) fok iv1 (by simp)
  have e11 : fP (jP (af (ao (.int 2)) aq)) (aE 6) qr ⟨laR ns many (c1 :: ks) fit rows (some (.int (tn : Int))) none Q1 f none none none, O5⟩ = .next ⟨laR ns many (c1 :: ks) fit rows (some (.int 1)) z7 Q1 f z10 z11 z12, O7⟩ := by
    refine (dv (ds := dj 0 ((2 : Nat) : Int)) (k := none) (s1 := ⟨laR ns many (c1 :: ks) fit rows (some (.int (tn : Int))) none Q1 f none none none, O5⟩) (kb (n := 2) (av (aL _ _) (aC _)) (by decide))).trans ?_
    rw [show (dj 0 ((2 : Nat) : Int)) = [D.int 0, D.int 1] from rfl]
    refine Eq.trans (cR (s1 := ⟨laR ns many (c1 :: ks) fit rows (some (.int 0)) none Q1 f none none none, O5⟩) (s2 := ⟨laR ns many (c1 :: ks) fit rows (some (.int 0)) y7 Q1 f y10 y11 y12, O6⟩) trivial rfl t1) ?_
    refine Eq.trans (cR (s1 := ⟨laR ns many (c1 :: ks) fit rows (some (.int 1)) y7 Q1 f y10 y11 y12, O6⟩) (s2 := ⟨laR ns many (c1 :: ks) fit rows (some (.int 1)) z7 Q1 f z10 z11 z12, O7⟩) trivial rfl t2) ?_
    rw [bt, if_pos (show okC _ none _ from trivial)]
  have allf : ∀ x ∈ [fit, fit2] ++ [g1] ++ [g2], dZ many rows x 9000 := fun x hx => by
    simp only [List.cons_append, List.nil_append, List.mem_cons, List.not_mem_nil, or_false] at hx
    rcases hx with rfl | rfl | rfl | rfl
    · exact up fok (by decide)
    · exact up f2 (by decide)
    · exact w1
    · exact w2
  obtain ⟨u7, el⟩ := yX (ns := ns) (cs := c1 :: ks) (fit := fit) (x6 := some (.int 1)) (x10 := z10) (x11 := z11) (x12 := z12) rok (by rw [mQ1]; exact qV) iv2 allf ([fit, fit2] ++ [g1] ++ [g2]) z7 (fun _ q => q)
  have hf := dv (im := listI (aa 9)) (g := aE 7) (body := qm) (s := ⟨laR ns many (c1 :: ks) fit rows (some (.int 1)) z7 Q1 f z10 z11 z12, O7⟩) (ds := ([fit, fit2] ++ [g1] ++ [g2]).map vI) (k := some f) (s1 := ⟨laR ns many (c1 :: ks) fit rows (some (.int 1)) z7 Q1 f z10 z11 z12, O7⟩) (oX (ag rfl) iv2.fits)
  rw [el] at hf
  have zr : ∀ i, nth (List.replicate many (0 : Int)) i = 0 := fun i => by
    unfold nth
    simp [List.getD_eq_getElem?_getD, List.getElem?_replicate]
    split <;> rfl
  have fz0 : dZ many rows (List.replicate many 0) 1 := ⟨by simp, fun i => by rw [zr]; decide, fun r _ => by
    unfold bI
    exact jJ fun i _ => by rw [zr, Int.mul_zero], fun x hx => by rw [(List.mem_replicate.mp hx).2]; exact Sz.zero _, by decide, by decide⟩
  obtain ⟨T, Os, es, out⟩ := ve rok fz0
  have T0 : T = [] := by
    have h1 := out.cn
    have h2 : cnt (List.replicate many (0 : Int)) = 0 := by
      unfold M.cnt
      simp
    exact List.eq_nil_of_length_eq_zero (by omega)
  subst T0
  have hz := gc (l := List.range many) (item := fun i : Nat => D.int (i : Int)) (out := fun _ => .int 0) (caps := []) (im := jP (af (aa 1) aq)) (e := ao (.int 0)) (k := none) (s := ⟨laR ns many (c1 :: ks) fit rows (some (.int 1)) u7 Q1 f z10 z11 z12, O7⟩) (by
    rw [kb (n := many) (s1 := ⟨laR ns many (c1 :: ks) fit rows (some (.int 1)) u7 Q1 f z10 z11 z12, O7⟩) (av (ag rfl) (aC _)) (by omega), qJ]) trivial (by rw [List.length_range]; omega) (fun _ _ => aL _ _)
  rw [show (List.range many).map (fun _ => D.int 0) = (List.replicate many (0 : Int)).map D.int by rw [List.map_replicate, List.eq_replicate_iff]; simp] at hz
  have at9 := zI O7 (⟨out.told, out.s, out.n0⟩ : At 0 [] Os)
  refine yF ⟨⟨laR ns many (c1 :: ks) fit rows (some (.int 1)) u7 Q1 f z10 z11 z12, (O7 ++ Os.map (shC O7.length)).set (O7.length + 0) .dead⟩, ?_⟩
  show zV ⟨[some (vI ns), none, none, none, none, none, none, none, none, none, none, none, none], []⟩ = _
  rw [zV]
  refine aP e1 (aP e2 (aP e3 (aP e4 (aP e5 (aP e6 (aP e7 (aP e8 (aP e9 (aP e10 (aP e11 (aP hf (b8 (aJ (kq (gz (av (cp rfl) (av (ag rfl) (av hz (aC _)))) es (by rw [dc, gP, mK, dc, dc, gP, qR]; rfl) rfl (fC _ _) rfl) at9.told rfl) (vL (aC _) (by simp)) ?_)))))))))))))
  exact xK [] []
end Lk18
namespace Lk18
open PySem PySem.Spec PyProof.Rows L2 M
theorem all_mk {l : PySem.W.OpenLaw} {w : World} {K : PySem.W.Frag} {h : Heap} {mg : Str → Option Value} {fa f0 f1 f2 f3 f4 f5 f6 f7 f8 f9 f10 f11 f12 f13 f14 f15 f16 f17 f18 f19 f20 f21 f22 f23 f24 f25 f26 f27 f28 f29 f30 f31 : Addr} (X : K.In h) (G : h.Ns mainGlobals mg) (hfa : mg "law" = some (.ref fa)) (hpt : l.prog.given.tree = none)
  {od0 an0 od1 an1 od2 an2 od3 an3 od4 an4 od5 an5 od6 an6 od7 an7 od8 an8 od9 an9 od10 an10 od11 an11 od12 an12 od13 an13 od14 an14 od15 an15 od16 an16 od17 an17 od18 an18 od19 an19 od20 an20 od21 an21 od22 an22 od23 an23 od24 an24 od25 an25 od26 an26 od27 an27 od28 an28 od29 an29 od30 an30 od31 an31 : Option Addr} {sl0 sl1 sl2 sl3 sl4 sl5 sl6 sl7 sl8 sl9 sl10 sl11 sl12 sl13 sl14 sl15 sl16 sl17 sl18 sl19 sl20 sl21 sl22 sl23 sl24 sl25 sl26 sl27 sl28 sl29 sl30 sl31 : Array (Option Value)} {oc0 kV0 dc0 pm0 cd0 ct0 oc1 kV1 dc1 pm1 cd1 ct1 oc2 kV2 dc2 pm2 cd2 ct2 oc3 kV3 dc3 pm3 cd3 ct3 oc4 kV4 dc4 pm4 cd4 ct4 oc5 kV5 dc5 pm5 cd5 ct5 oc6 kV6 dc6 pm6 cd6 ct6 oc7 kV7 dc7 pm7 cd7 ct7 oc8 kV8 dc8 pm8 cd8 ct8 oc9 kV9 dc9 pm9 cd9 ct9 oc10 kV10 dc10 pm10 cd10 ct10 oc11 kV11 dc11 pm11 cd11 ct11 oc12 kV12 dc12 pm12 cd12 ct12 oc13 kV13 dc13 pm13 cd13 ct13 oc14 kV14 dc14 pm14 cd14 ct14 oc15 kV15 dc15 pm15 cd15 ct15 oc16 kV16 dc16 pm16 cd16 ct16 oc17 kV17 dc17 pm17 cd17 ct17 oc18 kV18 dc18 pm18 cd18 ct18 oc19 kV19 dc19 pm19 cd19 ct19 oc20 kV20 dc20 pm20 cd20 ct20 oc21 kV21 dc21 pm21 cd21 ct21 oc22 kV22 dc22 pm22 cd22 ct22 oc23 kV23 dc23 pm23 cd23 ct23 oc24 kV24 dc24 pm24 cd24 ct24 oc25 kV25 dc25 pm25 cd25 ct25 oc26 kV26 dc26 pm26 cd26 ct26 oc27 kV27 dc27 pm27 cd27 ct27 oc28 kV28 dc28 pm28 cd28 ct28 oc29 kV29 dc29 pm29 cd29 ct29 oc30 kV30 dc30 pm30 cd30 ct30 oc31 kV31 dc31 pm31 cd31 ct31 : Value}
  (a0 : PySem.W.nsIn K mainGlobals "is_whole" = some (some (.ref f0)))
  (l0 : K.lookup f0 = some ⟨oc0, od0, .func (PySem.W.fnOf "is_whole" "is_whole" (bq iT) (bc iT) (aF iT) .none kV0 dc0 pm0 an0 cd0 ct0), sl0⟩)
  (c0 : PySem.W.codeIn K cd0 "is_whole" = true)
  (k0 : PySem.W.keepIn K (.ref f0) = true)
  (a1 : PySem.W.nsIn K mainGlobals "measure_of_two" = some (some (.ref f1)))
  (l1 : K.lookup f1 = some ⟨oc1, od1, .func (PySem.W.fnOf "measure_of_two" "measure_of_two" (bq eg) (bc eg) (aF eg) .none kV1 dc1 pm1 an1 cd1 ct1), sl1⟩)
  (c1 : PySem.W.codeIn K cd1 "measure_of_two" = true)
  (k1 : PySem.W.keepIn K (.ref f1) = true)
  (a2 : PySem.W.nsIn K mainGlobals "measure" = some (some (.ref f2)))
  (l2 : K.lookup f2 = some ⟨oc2, od2, .func (PySem.W.fnOf "measure" "measure" (bq jD) (bc jD) (aF jD) .none kV2 dc2 pm2 an2 cd2 ct2), sl2⟩)
  (c2 : PySem.W.codeIn K cd2 "measure" = true)
  (k2 : PySem.W.keepIn K (.ref f2) = true)
  (a3 : PySem.W.nsIn K mainGlobals "lowest" = some (some (.ref f3)))
  (l3 : K.lookup f3 = some ⟨oc3, od3, .func (PySem.W.fnOf "lowest" "lowest" (bq j2) (bc j2) (aF j2) .none kV3 dc3 pm3 an3 cd3 ct3), sl3⟩)
  (c3 : PySem.W.codeIn K cd3 "lowest" = true)
  (k3 : PySem.W.keepIn K (.ref f3) = true)
  (a4 : PySem.W.nsIn K mainGlobals "ratio" = some (some (.ref f4)))
  (l4 : K.lookup f4 = some ⟨oc4, od4, .func (PySem.W.fnOf "ratio" "ratio" (bq lP) (bc lP) (aF lP) .none kV4 dc4 pm4 an4 cd4 ct4), sl4⟩)
  (c4 : PySem.W.codeIn K cd4 "ratio" = true)
  (k4 : PySem.W.keepIn K (.ref f4) = true)
  (a5 : PySem.W.nsIn K mainGlobals "sum_of_products" = some (some (.ref f5)))
  (l5 : K.lookup f5 = some ⟨oc5, od5, .func (PySem.W.fnOf "sum_of_products" "sum_of_products" (bq dW) (bc dW) (aF dW) .none kV5 dc5 pm5 an5 cd5 ct5), sl5⟩)
  (c5 : PySem.W.codeIn K cd5 "sum_of_products" = true)
  (k5 : PySem.W.keepIn K (.ref f5) = true)
  (a6 : PySem.W.nsIn K mainGlobals "unit" = some (some (.ref f6)))
  (l6 : K.lookup f6 = some ⟨oc6, od6, .func (PySem.W.fnOf "unit" "unit" (bq nC) (bc nC) (aF nC) .none kV6 dc6 pm6 an6 cd6 ct6), sl6⟩)
  (c6 : PySem.W.codeIn K cd6 "unit" = true)
  (k6 : PySem.W.keepIn K (.ref f6) = true)
  (a7 : PySem.W.nsIn K mainGlobals "units" = some (some (.ref f7)))
  (l7 : K.lookup f7 = some ⟨oc7, od7, .func (PySem.W.fnOf "units" "units" (bq lN) (bc lN) (aF lN) .none kV7 dc7 pm7 an7 cd7 ct7), sl7⟩)
  (c7 : PySem.W.codeIn K cd7 "units" = true)
  (k7 : PySem.W.keepIn K (.ref f7) = true)
  (a8 : PySem.W.nsIn K mainGlobals "offset" = some (some (.ref f8)))
  (l8 : K.lookup f8 = some ⟨oc8, od8, .func (PySem.W.fnOf "offset" "offset" (bq j3) (bc j3) (aF j3) .none kV8 dc8 pm8 an8 cd8 ct8), sl8⟩)
  (c8 : PySem.W.codeIn K cd8 "offset" = true)
  (k8 : PySem.W.keepIn K (.ref f8) = true)
  (a9 : PySem.W.nsIn K mainGlobals "first_not_nought" = some (some (.ref f9)))
  (l9 : K.lookup f9 = some ⟨oc9, od9, .func (PySem.W.fnOf "first_not_nought" "first_not_nought" (bq dG) (bc dG) (aF dG) .none kV9 dc9 pm9 an9 cd9 ct9), sl9⟩)
  (c9 : PySem.W.codeIn K cd9 "first_not_nought" = true)
  (k9 : PySem.W.keepIn K (.ref f9) = true)
  (a10 : PySem.W.nsIn K mainGlobals "places_of" = some (some (.ref f10)))
  (l10 : K.lookup f10 = some ⟨oc10, od10, .func (PySem.W.fnOf "places_of" "places_of" (bq ic) (bc ic) (aF ic) .none kV10 dc10 pm10 an10 cd10 ct10), sl10⟩)
  (c10 : PySem.W.codeIn K cd10 "places_of" = true)
  (k10 : PySem.W.keepIn K (.ref f10) = true)
  (a11 : PySem.W.nsIn K mainGlobals "is_among" = some (some (.ref f11)))
  (l11 : K.lookup f11 = some ⟨oc11, od11, .func (PySem.W.fnOf "is_among" "is_among" (bq iU) (bc iU) (aF iU) .none kV11 dc11 pm11 an11 cd11 ct11), sl11⟩)
  (c11 : PySem.W.codeIn K cd11 "is_among" = true)
  (k11 : PySem.W.keepIn K (.ref f11) = true)
  (a12 : PySem.W.nsIn K mainGlobals "are_neighbours" = some (some (.ref f12)))
  (l12 : K.lookup f12 = some ⟨oc12, od12, .func (PySem.W.fnOf "are_neighbours" "are_neighbours" (bq d5) (bc d5) (aF d5) .none kV12 dc12 pm12 an12 cd12 ct12), sl12⟩)
  (c12 : PySem.W.codeIn K cd12 "are_neighbours" = true)
  (k12 : PySem.W.keepIn K (.ref f12) = true)
  (a13 : PySem.W.nsIn K mainGlobals "lone_by_one_more" = some (some (.ref f13)))
  (l13 : K.lookup f13 = some ⟨oc13, od13, .func (PySem.W.fnOf "lone_by_one_more" "lone_by_one_more" (bq dI) (bc dI) (aF dI) .none kV13 dc13 pm13 an13 cd13 ct13), sl13⟩)
  (c13 : PySem.W.codeIn K cd13 "lone_by_one_more" = true)
  (k13 : PySem.W.keepIn K (.ref f13) = true)
  (a14 : PySem.W.nsIn K mainGlobals "lone" = some (some (.ref f14)))
  (l14 : K.lookup f14 = some ⟨oc14, od14, .func (PySem.W.fnOf "lone" "lone" (bq nA) (bc nA) (aF nA) .none kV14 dc14 pm14 an14 cd14 ct14), sl14⟩)
  (c14 : PySem.W.codeIn K cd14 "lone" = true)
  (k14 : PySem.W.keepIn K (.ref f14) = true)
  (a15 : PySem.W.nsIn K mainGlobals "check_fit" = some (some (.ref f15)))
  (l15 : K.lookup f15 = some ⟨oc15, od15, .func (PySem.W.fnOf "check_fit" "check_fit" (bq ie) (bc ie) (aF ie) .none kV15 dc15 pm15 an15 cd15 ct15), sl15⟩)
  (c15 : PySem.W.codeIn K cd15 "check_fit" = true)
  (k15 : PySem.W.keepIn K (.ref f15) = true)
  (a16 : PySem.W.nsIn K mainGlobals "tightest_place" = some (some (.ref f16)))
  (l16 : K.lookup f16 = some ⟨oc16, od16, .func (PySem.W.fnOf "tightest_place" "tightest_place" (bq ez) (bc ez) (aF ez) .none kV16 dc16 pm16 an16 cd16 ct16), sl16⟩)
  (c16 : PySem.W.codeIn K cd16 "tightest_place" = true)
  (k16 : PySem.W.keepIn K (.ref f16) = true)
  (a17 : PySem.W.nsIn K mainGlobals "shares" = some (some (.ref f17)))
  (l17 : K.lookup f17 = some ⟨oc17, od17, .func (PySem.W.fnOf "shares" "shares" (bq j0) (bc j0) (aF j0) .none kV17 dc17 pm17 an17 cd17 ct17), sl17⟩)
  (c17 : PySem.W.codeIn K cd17 "shares" = true)
  (k17 : PySem.W.keepIn K (.ref f17) = true)
  (a18 : PySem.W.nsIn K mainGlobals "_law_cell" = some (some (.ref f18)))
  (l18 : K.lookup f18 = some ⟨oc18, od18, .func (PySem.W.fnOf "_law_cell" "_law_cell" (bq iO) (bc iO) (aF iO) .none kV18 dc18 pm18 an18 cd18 ct18), sl18⟩)
  (c18 : PySem.W.codeIn K cd18 "_law_cell" = true)
  (k18 : PySem.W.keepIn K (.ref f18) = true)
  (a19 : PySem.W.nsIn K mainGlobals "_law_bag" = some (some (.ref f19)))
  (l19 : K.lookup f19 = some ⟨oc19, od19, .func (PySem.W.fnOf "_law_bag" "_law_bag" (bq jN) (bc jN) (aF jN) .none kV19 dc19 pm19 an19 cd19 ct19), sl19⟩)
  (c19 : PySem.W.codeIn K cd19 "_law_bag" = true)
  (k19 : PySem.W.keepIn K (.ref f19) = true)
  (a20 : PySem.W.nsIn K mainGlobals "_law_draw" = some (some (.ref f20)))
  (l20 : K.lookup f20 = some ⟨oc20, od20, .func (PySem.W.fnOf "_law_draw" "_law_draw" (bq iM) (bc iM) (aF iM) .none kV20 dc20 pm20 an20 cd20 ct20), sl20⟩)
  (c20 : PySem.W.codeIn K cd20 "_law_draw" = true)
  (k20 : PySem.W.keepIn K (.ref f20) = true)
  (a21 : PySem.W.nsIn K mainGlobals "_law_number" = some (some (.ref f21)))
  (l21 : K.lookup f21 = some ⟨oc21, od21, .func (PySem.W.fnOf "_law_number" "_law_number" (bq gA) (bc gA) (aF gA) .none kV21 dc21 pm21 an21 cd21 ct21), sl21⟩)
  (c21 : PySem.W.codeIn K cd21 "_law_number" = true)
  (k21 : PySem.W.keepIn K (.ref f21) = true)
  (a22 : PySem.W.nsIn K mainGlobals "_law_whole" = some (some (.ref f22)))
  (l22 : K.lookup f22 = some ⟨oc22, od22, .func (PySem.W.fnOf "_law_whole" "_law_whole" (bq ig) (bc ig) (aF ig) .none kV22 dc22 pm22 an22 cd22 ct22), sl22⟩)
  (c22 : PySem.W.codeIn K cd22 "_law_whole" = true)
  (k22 : PySem.W.keepIn K (.ref f22) = true)
  (a23 : PySem.W.nsIn K mainGlobals "_law_is_list" = some (some (.ref f23)))
  (l23 : K.lookup f23 = some ⟨oc23, od23, .func (PySem.W.fnOf "_law_is_list" "_law_is_list" (bq fS) (bc fS) (aF fS) .none kV23 dc23 pm23 an23 cd23 ct23), sl23⟩)
  (c23 : PySem.W.codeIn K cd23 "_law_is_list" = true)
  (k23 : PySem.W.keepIn K (.ref f23) = true)
  (a24 : PySem.W.nsIn K mainGlobals "_law_measure" = some (some (.ref f24)))
  (l24 : K.lookup f24 = some ⟨oc24, od24, .func (PySem.W.fnOf "_law_measure" "_law_measure" (bq fW) (bc fW) (aF fW) .none kV24 dc24 pm24 an24 cd24 ct24), sl24⟩)
  (c24 : PySem.W.codeIn K cd24 "_law_measure" = true)
  (k24 : PySem.W.keepIn K (.ref f24) = true)
  (a25 : PySem.W.nsIn K mainGlobals "_law_fit" = some (some (.ref f25)))
  (l25 : K.lookup f25 = some ⟨oc25, od25, .func (PySem.W.fnOf "_law_fit" "_law_fit" (bq jK) (bc jK) (aF jK) .none kV25 dc25 pm25 an25 cd25 ct25), sl25⟩)
  (c25 : PySem.W.codeIn K cd25 "_law_fit" = true)
  (k25 : PySem.W.keepIn K (.ref f25) = true)
  (a26 : PySem.W.nsIn K mainGlobals "_law_closed" = some (some (.ref f26)))
  (l26 : K.lookup f26 = some ⟨oc26, od26, .func (PySem.W.fnOf "_law_closed" "_law_closed" (bq gN) (bc gN) (aF gN) .none kV26 dc26 pm26 an26 cd26 ct26), sl26⟩)
  (c26 : PySem.W.codeIn K cd26 "_law_closed" = true)
  (k26 : PySem.W.keepIn K (.ref f26) = true)
  (a27 : PySem.W.nsIn K mainGlobals "_law_turned" = some (some (.ref f27)))
  (l27 : K.lookup f27 = some ⟨oc27, od27, .func (PySem.W.fnOf "_law_turned" "_law_turned" (bq gL) (bc gL) (aF gL) .none kV27 dc27 pm27 an27 cd27 ct27), sl27⟩)
  (c27 : PySem.W.codeIn K cd27 "_law_turned" = true)
  (k27 : PySem.W.keepIn K (.ref f27) = true)
  (a28 : PySem.W.nsIn K mainGlobals "_law_is_share" = some (some (.ref f28)))
  (l28 : K.lookup f28 = some ⟨oc28, od28, .func (PySem.W.fnOf "_law_is_share" "_law_is_share" (bq ft) (bc ft) (aF ft) .none kV28 dc28 pm28 an28 cd28 ct28), sl28⟩)
  (c28 : PySem.W.codeIn K cd28 "_law_is_share" = true)
  (k28 : PySem.W.keepIn K (.ref f28) = true)
  (a29 : PySem.W.nsIn K mainGlobals "_law_comes" = some (some (.ref f29)))
  (l29 : K.lookup f29 = some ⟨oc29, od29, .func (PySem.W.fnOf "_law_comes" "_law_comes" (bq hZ) (bc hZ) (aF hZ) .none kV29 dc29 pm29 an29 cd29 ct29), sl29⟩)
  (c29 : PySem.W.codeIn K cd29 "_law_comes" = true)
  (k29 : PySem.W.keepIn K (.ref f29) = true)
  (a30 : PySem.W.nsIn K mainGlobals "_law_right" = some (some (.ref f30)))
  (l30 : K.lookup f30 = some ⟨oc30, od30, .func (PySem.W.fnOf "_law_right" "_law_right" (bq hW) (bc hW) (aF hW) .none kV30 dc30 pm30 an30 cd30 ct30), sl30⟩)
  (c30 : PySem.W.codeIn K cd30 "_law_right" = true)
  (k30 : PySem.W.keepIn K (.ref f30) = true)
  (a31 : PySem.W.nsIn K mainGlobals "law" = some (some (.ref f31)))
  (l31 : K.lookup f31 = some ⟨oc31, od31, .func (PySem.W.fnOf "law" "law" (bq lF) (bc lF) (aF lF) .none kV31 dc31 pm31 an31 cd31 ct31), sl31⟩)
  (c31 : PySem.W.codeIn K cd31 "law" = true)
  (k31 : PySem.W.keepIn K (.ref f31) = true)
  (z_isinstance : PySem.W.nsIn K mainGlobals "isinstance" = some none)
  (z_int : PySem.W.nsIn K mainGlobals "int" = some none)
  (z_bool : PySem.W.nsIn K mainGlobals "bool" = some none)
  (z_abs : PySem.W.nsIn K mainGlobals "abs" = some none)
  (z_list : PySem.W.nsIn K mainGlobals "list" = some none)
  (z_zip : PySem.W.nsIn K mainGlobals "zip" = some none)
  (z_sum : PySem.W.nsIn K mainGlobals "sum" = some none)
  (z_range : PySem.W.nsIn K mainGlobals "range" = some none)
  (z_enumerate : PySem.W.nsIn K mainGlobals "enumerate" = some none)
  (z_len : PySem.W.nsIn K mainGlobals "len" = some none)
  (z_sorted : PySem.W.nsIn K mainGlobals "sorted" = some none)
  (z_any : PySem.W.nsIn K mainGlobals "any" = some none)
  (z_all : PySem.W.nsIn K mainGlobals "all" = some none)
  (z_tuple : PySem.W.nsIn K mainGlobals "tuple" = some none) :
  ∃ fd : FuncData, (∀ (s : Shared) (v : Value), BindsTo s fd ⟨[v], []⟩ [("_law_script", v)]) ∧ ∀ base : Heap, K.In base → base.Ns mainGlobals mg → iE l.prog w K mg base (CXE l.prog w) 43 fa fd ["_law_script"] (spM K (fun _ => 0) 1 vP) := by
  have e := hfa.symm.trans (PySem.W.mg_of X G a31)
  cases e
  have F0 := bY (st := iT) l0 c0 k0
  have F1 := bY (st := eg) l1 c1 k1
  have F2 := bY (st := jD) l2 c2 k2
  have F3 := bY (st := j2) l3 c3 k3
  have F4 := bY (st := lP) l4 c4 k4
  have F5 := bY (st := dW) l5 c5 k5
  have F6 := bY (st := nC) l6 c6 k6
  have F7 := bY (st := lN) l7 c7 k7
  have F8 := bY (st := j3) l8 c8 k8
  have F9 := bY (st := dG) l9 c9 k9
  have F10 := bY (st := ic) l10 c10 k10
  have F11 := bY (st := iU) l11 c11 k11
  have F12 := bY (st := d5) l12 c12 k12
  have F13 := bY (st := dI) l13 c13 k13
  have F14 := bY (st := nA) l14 c14 k14
  have F15 := bY (st := ie) l15 c15 k15
  have F16 := bY (st := ez) l16 c16 k16
  have F17 := bY (st := j0) l17 c17 k17
  have F18 := bY (st := iO) l18 c18 k18
  have F19 := bY (st := jN) l19 c19 k19
  have F20 := bY (st := iM) l20 c20 k20
  have F21 := bY (st := gA) l21 c21 k21
  have F22 := bY (st := ig) l22 c22 k22
  have F23 := bY (st := fS) l23 c23 k23
  have F24 := bY (st := fW) l24 c24 k24
  have F25 := bY (st := jK) l25 c25 k25
  have F26 := bY (st := gN) l26 c26 k26
  have F27 := bY (st := gL) l27 c27 k27
  have F28 := bY (st := ft) l28 c28 k28
  have F29 := bY (st := hZ) l29 c29 k29
  have F30 := bY (st := hW) l30 c30 k30
  have F31 := bY (st := lF) l31 c31 k31
  refine ⟨PySem.W.fnOf "law" "law" (bq lF) (bc lF) (aF lF) .none kV31 dc31 pm31 an31 cd31 ct31, fun s v => .of_eq rfl, fun base _ _ => ?_⟩
  have E_is_whole := xX (P := l.prog) (w := w) (mg := mg) (base := base) (ca := fun _ => 0) F0 (PySem.W.mg_of X G a0) hpt (PySem.W.mg_none_of X G z_isinstance) (PySem.W.mg_none_of X G z_int) (PySem.W.mg_none_of X G z_bool)
  have E_measure_of_two := qM (P := l.prog) (w := w) (mg := mg) (base := base) (ca := fun _ => 0) F1 (PySem.W.mg_of X G a1) hpt (PySem.W.mg_none_of X G z_abs)
  have E_measure := Ap (P := l.prog) (w := w) (mg := mg) (base := base) (ca := fun _ => 0) F2 (PySem.W.mg_of X G a2) hpt E_measure_of_two.in
  have E_lowest := BW (P := l.prog) (w := w) (mg := mg) (base := base) (ca := fun _ => 0) F3 (PySem.W.mg_of X G a3) hpt (PySem.W.mg_none_of X G z_list) E_measure.in
  have E_ratio := C1 (P := l.prog) (w := w) (mg := mg) (base := base) (ca := fun _ => 0) F4 (PySem.W.mg_of X G a4) hpt E_is_whole.in E_measure_of_two.in
  have E_sum_of_products := pT (P := l.prog) (w := w) (mg := mg) (base := base) (ca := fun _ => 0) F5 (PySem.W.mg_of X G a5) hpt (PySem.W.mg_none_of X G z_zip) (PySem.W.mg_none_of X G z_sum)
  have E_unit := Ed (P := l.prog) (w := w) (mg := mg) (base := base) (ca := fun _ => 0) F6 (PySem.W.mg_of X G a6) hpt
  have E_units := CO (P := l.prog) (w := w) (mg := mg) (base := base) (ca := fun _ => 0) F7 (PySem.W.mg_of X G a7) hpt (PySem.W.mg_none_of X G z_range) E_unit.in
  have E_offset := A0 (P := l.prog) (w := w) (mg := mg) (base := base) (ca := fun _ => 0) F8 (PySem.W.mg_of X G a8) hpt (PySem.W.mg_none_of X G z_zip) E_lowest.in
  have E_first_not_nought := oN (P := l.prog) (w := w) (mg := mg) (base := base) (ca := fun _ => 0) F9 (PySem.W.mg_of X G a9) hpt (PySem.W.mg_none_of X G z_enumerate)
  have E_places_of := w9 (P := l.prog) (w := w) (mg := mg) (base := base) (ca := fun _ => 0) F10 (PySem.W.mg_of X G a10) hpt
  have E_is_among := xY (P := l.prog) (w := w) (mg := mg) (base := base) (ca := fun _ => 0) F11 (PySem.W.mg_of X G a11) hpt
  have E_are_neighbours := qO (P := l.prog) (w := w) (mg := mg) (base := base) (ca := fun _ => 0) F12 (PySem.W.mg_of X G a12) hpt (PySem.W.mg_none_of X G z_len) E_is_among.in
  have E_lone_by_one_more := oM (P := l.prog) (w := w) (mg := mg) (base := base) (ca := fun _ => 0) F13 (PySem.W.mg_of X G a13) hpt (PySem.W.mg_none_of X G z_zip) (PySem.W.mg_none_of X G z_enumerate) E_sum_of_products.in E_places_of.in E_are_neighbours.in E_offset.in
  have E_lone := EA (P := l.prog) (w := w) (mg := mg) (base := base) (ca := fun _ => 0) F14 (PySem.W.mg_of X G a14) hpt (PySem.W.mg_none_of X G z_sorted) E_units.in E_lone_by_one_more.in
  have E_check_fit := xg (P := l.prog) (w := w) (mg := mg) (base := base) (ca := fun _ => 0) F15 (PySem.W.mg_of X G a15) hpt (PySem.W.mg_none_of X G z_len) (PySem.W.mg_none_of X G z_any) E_sum_of_products.in
  have E_tightest_place := qK (P := l.prog) (w := w) (mg := mg) (base := base) (ca := fun _ => 0) F16 (PySem.W.mg_of X G a16) hpt (PySem.W.mg_none_of X G z_enumerate) E_first_not_nought.in
  have E_shares := A6 (P := l.prog) (w := w) (mg := mg) (base := base) (ca := fun _ => 0) F17 (PySem.W.mg_of X G a17) hpt (PySem.W.mg_none_of X G z_list) (PySem.W.mg_none_of X G z_zip) E_check_fit.in E_lone.in E_is_among.in E_places_of.in E_tightest_place.in E_ratio.in E_lowest.in
  have E_law_cell := yw (P := l.prog) (w := w) (mg := mg) (base := base) (ca := fun _ => 0) F18 (PySem.W.mg_of X G a18) hpt (PySem.W.mg_none_of X G z_len)
  have E_law_bag := zJ (P := l.prog) (w := w) (mg := mg) (base := base) (ca := fun _ => 0) F19 (PySem.W.mg_of X G a19) hpt
  have E_law_draw := yi (P := l.prog) (w := w) (mg := mg) (base := base) (ca := fun _ => 0) F20 (PySem.W.mg_of X G a20) hpt
  have E_law_number := vD (P := l.prog) (w := w) (mg := mg) (base := base) (ca := fun _ => 0) F21 (PySem.W.mg_of X G a21) hpt E_law_draw.in
  have E_law_whole := vU (P := l.prog) (w := w) (mg := mg) (base := base) (ca := fun _ => 0) F22 (PySem.W.mg_of X G a22) hpt (PySem.W.mg_none_of X G z_isinstance) (PySem.W.mg_none_of X G z_int) (PySem.W.mg_none_of X G z_bool)
  have E_law_is_list := tT (P := l.prog) (w := w) (mg := mg) (base := base) (ca := fun _ => 0) F23 (PySem.W.mg_of X G a23) hpt (PySem.W.mg_none_of X G z_isinstance) (PySem.W.mg_none_of X G z_list) (PySem.W.mg_none_of X G z_len) (PySem.W.mg_none_of X G z_all) E_law_whole.in
  have E_law_measure := uf (P := l.prog) (w := w) (mg := mg) (base := base) (ca := fun _ => 0) F24 (PySem.W.mg_of X G a24) hpt (PySem.W.mg_none_of X G z_abs)
  have E_law_fit := Aa (P := l.prog) (w := w) (mg := mg) (base := base) (ca := fun _ => 0) F25 (PySem.W.mg_of X G a25) hpt (PySem.W.mg_none_of X G z_range) E_law_draw.in
  have E_law_closed := vy (P := l.prog) (w := w) (mg := mg) (base := base) (ca := fun _ => 0) F26 (PySem.W.mg_of X G a26) hpt (PySem.W.mg_none_of X G z_range) (PySem.W.mg_none_of X G z_len) (PySem.W.mg_none_of X G z_sum) E_law_bag.in E_law_number.in E_law_draw.in
  have E_law_turned := vB (P := l.prog) (w := w) (mg := mg) (base := base) (ca := fun _ => 0) F27 (PySem.W.mg_of X G a27) hpt
  have E_law_is_share := sV (P := l.prog) (w := w) (mg := mg) (base := base) (ca := fun _ => 0) F28 (PySem.W.mg_of X G a28) hpt (PySem.W.mg_none_of X G z_isinstance) (PySem.W.mg_none_of X G z_tuple) (PySem.W.mg_none_of X G z_len) (PySem.W.mg_none_of X G z_list) E_law_whole.in E_law_measure.in
  have E_law_comes := wx (P := l.prog) (w := w) (mg := mg) (base := base) (ca := fun _ => 0) F29 (PySem.W.mg_of X G a29) hpt (PySem.W.mg_none_of X G z_zip)
  have E_law_right := wy (P := l.prog) (w := w) (mg := mg) (base := base) (ca := fun _ => 0) F30 (PySem.W.mg_of X G a30) hpt (PySem.W.mg_none_of X G z_list) (PySem.W.mg_none_of X G z_len) (PySem.W.mg_none_of X G z_isinstance) (PySem.W.mg_none_of X G z_tuple) (PySem.W.mg_none_of X G z_range) E_shares.in E_law_is_share.in E_law_is_list.in E_law_comes.in E_lone.in
  have E_law := GA (P := l.prog) (w := w) (mg := mg) (base := base) (ca := fun _ => 0) F31 (PySem.W.mg_of X G a31) hpt (PySem.W.mg_none_of X G z_len) (PySem.W.mg_none_of X G z_int) (PySem.W.mg_none_of X G z_list) (PySem.W.mg_none_of X G z_range) (PySem.W.mg_none_of X G z_zip) E_law_cell.in E_law_bag.in E_law_fit.in E_law_closed.in E_law_draw.in E_law_turned.in E_lone.in E_law_right.in E_shares.in
  exact E_law.1
end Lk18
open PySem PySem.W PyProof.Rows
theorem PySem.W.Fast.tw15100652307719906432 : True := ⟨⟩
theorem PySem.W.Fast.tw12382231134519107846 : True := ⟨⟩
theorem PySem.W.Fast.tw18008952733935876357 : True := ⟨⟩
theorem PySem.W.Fast.tw16431309139474801166 : True := ⟨⟩
theorem PySem.W.Fast.tw8753230670918921453 : True := ⟨⟩
theorem PySem.W.Fast.tw8596282474380140285 : True := ⟨⟩
theorem PySem.W.Fast.tw1449712595785661411 : True := ⟨⟩
theorem PySem.W.Fast.tw18013768433179846895 : True := ⟨⟩
theorem PySem.W.Fast.tw1510739534405091172 : True := ⟨⟩
theorem PySem.W.Fast.tw9363104575094252479 : True := ⟨⟩
theorem PySem.W.Fast.tw15056807660317149564 : True := ⟨⟩
theorem PySem.W.Fast.tw7170352348750012043 : True := ⟨⟩
theorem PySem.W.Fast.tw18225810420245384916 : True := ⟨⟩
theorem PySem.W.Fast.tw6864566129337143015 : True := ⟨⟩
theorem PySem.W.Fast.tw938060602749148640 : True := ⟨⟩
theorem PySem.W.Fast.tw1977073804729214054 : True := ⟨⟩
theorem PySem.W.Fast.tw5055455795072804498 : True := ⟨⟩
theorem PySem.W.Fast.tw1729159723218191582 : True := ⟨⟩
theorem PySem.W.Fast.tw3271898279679834655 : True := ⟨⟩
theorem PySem.W.Fast.tw1554368788645863163 : True := ⟨⟩
theorem PySem.W.Fast.tw11242317823337004262 : True := ⟨⟩
theorem PySem.W.Fast.tw10274852945596876809 : True := ⟨⟩
theorem PySem.W.Fast.tw9159641976124263654 : True := ⟨⟩
theorem PySem.W.Fast.tw819287895926882362 : True := ⟨⟩
theorem PySem.W.Fast.tw9984945876832395517 : True := ⟨⟩
theorem PySem.W.Fast.tw15732477243419401187 : True := ⟨⟩
theorem PySem.W.Fast.tw14183659760576816976 : True := ⟨⟩
theorem PySem.W.Fast.tw1970654377005220731 : True := ⟨⟩
theorem PySem.W.Fast.tw11265506249481331774 : True := ⟨⟩
theorem PySem.W.Fast.tw9406589779142770229 : True := ⟨⟩
theorem PySem.W.Fast.tw11033391988147789813 : True := ⟨⟩
theorem PySem.W.Fast.tw1040266743680315939 : True := ⟨⟩
theorem PySem.W.Fast.tw15378900009275130915 : True := ⟨⟩
theorem PySem.W.Fast.tw11761697941215890098 : True := ⟨⟩
theorem PySem.W.Fast.tw11423229552662701772 : True := ⟨⟩
theorem PySem.W.Fast.tw8028600185114116866 : True := ⟨⟩
theorem PySem.W.Fast.tw13526478343176072735 : True := ⟨⟩
theorem PySem.W.Fast.tw14958576575617813261 : True := ⟨⟩
theorem PySem.W.Fast.tw10701081919647163897 : True := ⟨⟩
theorem PySem.W.Fast.tw16093875864929603273 : True := ⟨⟩
theorem PySem.W.Fast.tw1824644578548373772 : True := ⟨⟩
theorem PySem.W.Fast.tw6278826686876870223 : True := ⟨⟩
theorem PySem.W.Fast.tw4272179893020372679 : True := ⟨⟩
theorem PySem.W.Fast.tw1628237960696959727 : True := ⟨⟩
theorem PySem.W.Fast.tw6372884754157312937 : True := ⟨⟩
theorem PySem.W.Fast.tw15321472609357707659 : True := ⟨⟩
theorem PySem.W.Fast.tw17761356304820273574 : True := ⟨⟩
theorem PySem.W.Fast.tw1709679884167580104 : True := ⟨⟩
theorem PySem.W.Fast.tw3528530688383182199 : True := ⟨⟩
theorem PySem.W.Fast.tw1171210593114603101 : True := ⟨⟩
theorem PySem.W.Fast.tw12268333792306571463 : True := ⟨⟩
theorem PySem.W.Fast.tw2182115136325221404 : True := ⟨⟩
theorem PySem.W.Fast.tw14965835052428404899 : True := ⟨⟩
theorem PySem.W.Fast.tw8567341578035328262 : True := ⟨⟩
theorem PySem.W.Fast.tw4893677677591975503 : True := ⟨⟩
theorem PySem.W.Fast.tw16440640143791455222 : True := ⟨⟩
theorem PySem.W.Fast.tw9517720031535931561 : True := ⟨⟩
theorem PySem.W.Fast.tw15811523589129917600 : True := ⟨⟩
theorem PySem.W.Fast.tw1225494876427760292 : True := ⟨⟩
theorem PySem.W.Fast.tw661394826626484074 : True := ⟨⟩
set_option maxRecDepth 100000 in
set_option maxHeartbeats 0 in
theorem PySem.Challenge.cw_modeyard_k18_shares_of_lone_lists_holds : PySem.Challenge.rw_modeyard_k18_shares_of_lone_lists.Holds := by
  w_on; o_law; k_head; (case hw => w_witness2)
  k_fill
  refine L2.C8 (l := PySem.Challenge.rw_modeyard_k18_shares_of_lone_lists) (n := 63) (k := 43) (x := "_law_script") (sp := fun K => M.spM K (fun _ => 0) 1 Lk18.vP) rfl (by decide) rfl ⟨rfl, by decide, by decide⟩ (by decide +kernel) (fun w h Y => PySem.W.kIn_of Y) ?F ?S
  case F =>
    intro w mg fa h KX G hmg
    refine' Lk18.all_mk KX G hmg rfl ?a0 ?l0 ?c0 ?k0 ?a1 ?l1 ?c1 ?k1 ?a2 ?l2 ?c2 ?k2 ?a3 ?l3 ?c3 ?k3 ?a4 ?l4 ?c4 ?k4 ?a5 ?l5 ?c5 ?k5 ?a6 ?l6 ?c6 ?k6 ?a7 ?l7 ?c7 ?k7 ?a8 ?l8 ?c8 ?k8 ?a9 ?l9 ?c9 ?k9 ?a10 ?l10 ?c10 ?k10 ?a11 ?l11 ?c11 ?k11 ?a12 ?l12 ?c12 ?k12 ?a13 ?l13 ?c13 ?k13 ?a14 ?l14 ?c14 ?k14 ?a15 ?l15 ?c15 ?k15 ?a16 ?l16 ?c16 ?k16 ?a17 ?l17 ?c17 ?k17 ?a18 ?l18 ?c18 ?k18 ?a19 ?l19 ?c19 ?k19 ?a20 ?l20 ?c20 ?k20 ?a21 ?l21 ?c21 ?k21 ?a22 ?l22 ?c22 ?k22 ?a23 ?l23 ?c23 ?k23 ?a24 ?l24 ?c24 ?k24 ?a25 ?l25 ?c25 ?k25 ?a26 ?l26 ?c26 ?k26 ?a27 ?l27 ?c27 ?k27 ?a28 ?l28 ?c28 ?k28 ?a29 ?l29 ?c29 ?k29 ?a30 ?l30 ?c30 ?k30 ?a31 ?l31 ?c31 ?k31 ?z_isinstance ?z_int ?z_bool ?z_abs ?z_list ?z_zip ?z_sum ?z_range ?z_enumerate ?z_len ?z_sorted ?z_any ?z_all ?z_tuple
    (case a0 => k_is)
    (case l0 => k_is)
    (case c0 => k_is)
    (case k0 => k_is)
    (case a1 => k_is)
    (case l1 => k_is)
    (case c1 => k_is)
    (case k1 => k_is)
    (case a2 => k_is)
    (case l2 => k_is)
    (case c2 => k_is)
    (case k2 => k_is)
    (case a3 => k_is)
    (case l3 => k_is)
    (case c3 => k_is)
    (case k3 => k_is)
    (case a4 => k_is)
    (case l4 => k_is)
    (case c4 => k_is)
    (case k4 => k_is)
    (case a5 => k_is)
    (case l5 => k_is)
    (case c5 => k_is)
    (case k5 => k_is)
    (case a6 => k_is)
    (case l6 => k_is)
    (case c6 => k_is)
    (case k6 => k_is)
    (case a7 => k_is)
    (case l7 => k_is)
    (case c7 => k_is)
    (case k7 => k_is)
    (case a8 => k_is)
    (case l8 => k_is)
    (case c8 => k_is)
    (case k8 => k_is)
    (case a9 => k_is)
    (case l9 => k_is)
    (case c9 => k_is)
    (case k9 => k_is)
    (case a10 => k_is)
    (case l10 => k_is)
    (case c10 => k_is)
    (case k10 => k_is)
    (case a11 => k_is)
    (case l11 => k_is)
    (case c11 => k_is)
    (case k11 => k_is)
    (case a12 => k_is)
    (case l12 => k_is)
    (case c12 => k_is)
    (case k12 => k_is)
    (case a13 => k_is)
    (case l13 => k_is)
    (case c13 => k_is)
    (case k13 => k_is)
    (case a14 => k_is)
    (case l14 => k_is)
    (case c14 => k_is)
    (case k14 => k_is)
    (case a15 => k_is)
    (case l15 => k_is)
    (case c15 => k_is)
    (case k15 => k_is)
    (case a16 => k_is)
    (case l16 => k_is)
    (case c16 => k_is)
    (case k16 => k_is)
    (case a17 => k_is)
    (case l17 => k_is)
    (case c17 => k_is)
    (case k17 => k_is)
    (case a18 => k_is)
    (case l18 => k_is)
    (case c18 => k_is)
    (case k18 => k_is)
    (case a19 => k_is)
    (case l19 => k_is)
    (case c19 => k_is)
    (case k19 => k_is)
    (case a20 => k_is)
    (case l20 => k_is)
    (case c20 => k_is)
    (case k20 => k_is)
    (case a21 => k_is)
    (case l21 => k_is)
    (case c21 => k_is)
    (case k21 => k_is)
    (case a22 => k_is)
    (case l22 => k_is)
    (case c22 => k_is)
    (case k22 => k_is)
    (case a23 => k_is)
    (case l23 => k_is)
    (case c23 => k_is)
    (case k23 => k_is)
    (case a24 => k_is)
    (case l24 => k_is)
    (case c24 => k_is)
    (case k24 => k_is)
    (case a25 => k_is)
    (case l25 => k_is)
    (case c25 => k_is)
    (case k25 => k_is)
    (case a26 => k_is)
    (case l26 => k_is)
    (case c26 => k_is)
    (case k26 => k_is)
    (case a27 => k_is)
    (case l27 => k_is)
    (case c27 => k_is)
    (case k27 => k_is)
    (case a28 => k_is)
    (case l28 => k_is)
    (case c28 => k_is)
    (case k28 => k_is)
    (case a29 => k_is)
    (case l29 => k_is)
    (case c29 => k_is)
    (case k29 => k_is)
    (case a30 => k_is)
    (case l30 => k_is)
    (case c30 => k_is)
    (case k30 => k_is)
    (case a31 => k_is)
    (case l31 => k_is)
    (case c31 => k_is)
    (case k31 => k_is)
    (case z_isinstance => k_is)
    (case z_int => k_is)
    (case z_bool => k_is)
    (case z_abs => k_is)
    (case z_list => k_is)
    (case z_zip => k_is)
    (case z_sum => k_is)
    (case z_range => k_is)
    (case z_enumerate => k_is)
    (case z_len => k_is)
    (case z_sorted => k_is)
    (case z_any => k_is)
    (case z_all => k_is)
    (case z_tuple => k_is)
  case S => exact fun K H a ns hl _ hS => M.Fs hS (Lk18.DD ns hl)
