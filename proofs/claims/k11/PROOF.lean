import PyProof.Rows.All
import Wide.All
import OpenK.AllK
import Wide.FinOn
import Lean
import PyProof.EqAt
import PyProof.EqKinds
import PyProof.TupleCall
import PySem.Challenge.RW_modeyard_k11_what_is_no_way
set_option Elab.async false
set_option linter.all false
set_option maxRecDepth 100000
namespace L2
open PySem PySem.Spec PyProof.Rows
abbrev Key := Sum Int Str
def Az : Key → Value → Bool
  | .inl k, v => Value.isInt k v
  | .inr x, v => Value.isStrOf x v
def Fo (w : World) : Key → Int
  | .inl k => hashInt k
  | .inr x => hashStr w x
theorem dH : ∀ {k : Key} {v : Value}, Az k v = true → (∃ i t, k = Sum.inl i ∧ v = Value.int i t) ∨ (∃ x t, k = Sum.inr x ∧ v = Value.str x t)
  | .inl i, v, h => by
    obtain ⟨t, e⟩ := Value.isInt_shape (k := i) (v := v) h
    exact .inl ⟨i, t, rfl, e⟩
  | .inr x, v, h => by
    obtain ⟨t, e⟩ := Value.isStrOf_shape (x := x) (v := v) h
    exact .inr ⟨x, t, rfl, e⟩
theorem DE (a b : Int) : decide ((Sum.inl a : Key) = Sum.inl b) = (a == b) := by
  by_cases e : a = b
  · subst e; simp
  · have h : ¬ (Sum.inl a : Key) = Sum.inl b := fun q => e (Sum.inl.inj q)
    rw [decide_eq_false h]
    exact (beq_eq_false_iff_ne.mpr e).symm
theorem Cw (a b : Str) : decide ((Sum.inr a : Key) = Sum.inr b) = decide (a = b) := by
  by_cases e : a = b
  · subst e; simp
  · have h : ¬ (Sum.inr a : Key) = Sum.inr b := fun q => e (Sum.inr.inj q)
    rw [decide_eq_false h, decide_eq_false e]
theorem CU (a : Int) (b : Str) : decide ((Sum.inl a : Key) = Sum.inr b) = false := decide_eq_false (fun q => nomatch q)
theorem DT (a : Str) (b : Int) : decide ((Sum.inr a : Key) = Sum.inl b) = false := decide_eq_false (fun q => nomatch q)
def qd (prog : Program) (w : World) : PySem.KeyKind prog w Key where
  is := Az
  hash := Fo w
  inj := fun v a b ha hb => by
    rcases dH ha with ⟨i, t, rfl, rfl⟩ | ⟨x, t, rfl, rfl⟩
    · rcases dH hb with ⟨j, u, rfl, e⟩ | ⟨y, u, rfl, e⟩
      · injection e with e1 _; rw [e1]
      · exact nomatch e
    · rcases dH hb with ⟨j, u, rfl, e⟩ | ⟨y, u, rfl, e⟩
      · exact nomatch e
      · injection e with e1 _; rw [e1]
  byValue := fun k v h => by
    rcases dH h with ⟨i, t, rfl, rfl⟩ | ⟨x, t, rfl, rfl⟩ <;> rfl
  pyHash := fun hv h => by
    rcases dH hv with ⟨i, t, rfl, rfl⟩ | ⟨x, t, rfl, rfl⟩
    · exact wpAny_pyHash_int h
    · exact wpAny_pyHash_str h
  eqBool := fun hu hv h => by
    rcases dH hu with ⟨i, t, rfl, rfl⟩ | ⟨x, t, rfl, rfl⟩
    · rcases dH hv with ⟨j, u, rfl, rfl⟩ | ⟨y, u, rfl, rfl⟩
      · rw [DE] at h; exact wpAny_eqBool_int h
      · rw [CU] at h; exact SeqAt.EqAt.int_str i t y u _ _ _ _ h
    · rcases dH hv with ⟨j, u, rfl, rfl⟩ | ⟨y, u, rfl, rfl⟩
      · rw [DT] at h; exact SeqAt.EqAt.str_int x t j u _ _ _ _ h
      · rw [Cw] at h; exact wpAny_eqBool_str h
  «strs» := fun k x t v h => by
    rcases dH h with ⟨i, u, rfl, e⟩ | ⟨y, u, rfl, e⟩
    · exact nomatch e
    · injection e with e1 _
      subst e1
      cases v <;> rfl
end L2
namespace L2
open PySem PySem.Spec PyProof.Rows
inductive V where
  | non | bl (b : Bool) | int (i : Int) | str (x : Str) | byt (b : Array UInt8) | flt (b : UInt64) | ref (a : Addr) | ty (n : String)
  deriving DecidableEq
def RelV : V → Value → Prop
  | .non, u => u = Value.none
  | .bl b, u => u = Value.bool b
  | .int i, u => ∃ t, u = Value.int i t
  | .str x, u => ∃ t, u = Value.str x t
  | .byt b, u => ∃ t, u = Value.bytes b t
  | .flt b, u => ∃ t, u = Value.float b t
  | .ref a, u => u = Value.ref a
  | .ty n, u => u = Value.type n
abbrev Vals : List V → List Value → Prop := Paired RelV
theorem Vals.length {xs : List V} {us : List Value} (r : Vals xs us) : xs.length = us.length := Paired.length r
theorem Vals.get : ∀ {xs : List V} {us : List Value} {i : Nat} {x : V}, Vals xs us → xs[i]? = some x → ∃ u, us[i]? = some u ∧ RelV x u
  | _, _, _, _, .nil, e => by simp at e
  | _, _, 0, _, .cons r _, e => by simp at e; subst e; exact ⟨_, rfl, r⟩
  | _, _, i + 1, x, .cons _ t, e => by
    obtain ⟨u, h1, h2⟩ := Vals.get (i := i) (x := x) t (by simpa using e)
    exact ⟨u, by simpa using h1, h2⟩
theorem Vals.set {x : V} {u : Value} (r : RelV x u) : ∀ {xs : List V} {us : List Value} (i : Nat), Vals xs us → Vals (xs.set i x) (us.set i u)
  | _, _, _, .nil => .nil
  | _, _, 0, .cons _ t => .cons r t
  | _, _, i + 1, .cons q t => .cons q (Vals.set r i t)
theorem Vals.append : ∀ {xs ys : List V} {us ws : List Value}, Vals xs us → Vals ys ws → Vals (xs ++ ys) (us ++ ws)
  | _, _, _, _, .nil, s => s
  | _, _, _, _, .cons r t, s => .cons r (Vals.append t s)
theorem Vals.take : ∀ {xs : List V} {us : List Value} (n : Nat), Vals xs us → Vals (xs.take n) (us.take n)
  | _, _, 0, _ => .nil
  | _, _, _ + 1, .nil => .nil
  | _, _, n + 1, .cons r t => .cons r (Vals.take n t)
theorem Vals.drop : ∀ {xs : List V} {us : List Value} (n : Nat), Vals xs us → Vals (xs.drop n) (us.drop n)
  | _, _, 0, r => r
  | _, _, _ + 1, .nil => .nil
  | _, _, n + 1, .cons _ t => Vals.drop n t
theorem Vals.none_of : ∀ {xs : List V} {us : List Value} {i : Nat}, Vals xs us → xs[i]? = none → us[i]? = none := fun {xs us i} r e => by
  have h1 := r.length
  have h2 : xs.length ≤ i := List.getElem?_eq_none_iff.mp e
  exact List.getElem?_eq_none_iff.mpr (by omega)
def kQ : Option V → Option Value → Prop
  | some v, some u => RelV v u
  | none, none => True
  | _, _ => False
def KV {κ : Type} : List (κ × V) → List (κ × Value) → Prop := Paired fun (p : κ × V) (q : κ × Value) => p.1 = q.1 ∧ RelV p.2 q.2
def kV : Key → V
  | .inl i => .int i
  | .inr x => .str x
inductive HO where
    | lst (xs : List V)
    | tup (xs : List V)
    | dK (kvs : List (Key × V)) | dT (kvs : List (List Key × V))
    | set (S : Int → Bool) (n : Nat)
    | ins (C dx : Addr) (fs : List (Str × V))
    | own (x : Addr)
    | xd (fs : List (Str × V))
    | met (f x : Addr)
    | rng (lo hi : Int)
    | frz (o : Obj) (u : HO)
    | tbl (ps : Array Value)
    | ext (φ : Heap → Prop)
abbrev Hp := Addr → Option HO
def upd (H : Hp) (a : Addr) (o : HO) : Hp := fun b => if b = a then some o else H b
theorem bP {H : Hp} {a : Addr} {o : HO} : upd H a o a = some o := by unfold upd; rw [if_pos rfl]
theorem aG {H : Hp} {a b : Addr} {o : HO} (h : b ≠ a) : upd H a o b = H b := by unfold upd; rw [if_neg h]
theorem dQ {H : Hp} {a b : Addr} {o : HO} (h : H a = some o) (h' : H b = none) : a ≠ b := by
  intro e; subst e; rw [h] at h'; cases h'
section
variable (P : Program) (w : World)
def eD (H : Hp) (h : Heap) (a : Addr) : HO → Prop
  | .lst xs => xs.length ≤ sizeLine ∧ ∃ (its : List Value) (n : Nat), Vals xs its ∧ h.get? a = some { cls := .type "list", data := .seq its.toArray n }
  | .tup xs => xs.length ≤ sizeLine ∧ ∃ its : List Value, Vals xs its ∧ IsTup h a its.toArray
  | .dK kvs => kvs.length ≤ sizeLine ∧ (a == sysModules) = false ∧ ∃ vs, KV kvs vs ∧ h.DictOf (qd P w) a vs
  | .dT kvs => kvs.length ≤ sizeLine ∧ (a == sysModules) = false ∧ ∃ xs : List (List Key × Addr × Value),
      Paired (fun (p : List Key × V) (q : List Key × Addr × Value) => p.1 = q.1 ∧ H q.2.1 = some (.tup (p.1.map kV)) ∧ RelV p.2 q.2.2) kvs xs ∧
      ∃ o es ep, h.get? a = some o ∧ o.ExactDict ∧ o.data = .dict es ep ∧ es.toList = xs.map (entryOfKey (tupleKind (qd P w))) ∧ (xs.map (·.1)).Nodup
  | .set S n => h.SetOf (intKind P w) a S n
  | .ins C dx fs => H dx = some (.own a) ∧ fs.length ≤ 1000 ∧ dx ≠ a ∧ h.get? a = some (PySem.W.instObj C dx) ∧
      ∃ mA, h.Ns1 dx mA ∧ (∀ f, kQ (fs.lookup f) (mA f)) ∧ PySem.Within mA (fs.map (·.1))
  | .own _ => ∃ o, h.get? a = some o
  | .xd fs => ∃ mA, h.Ns1 a mA ∧ ∀ f, kQ (fs.lookup f) (mA f)
  | .rng lo hi => ∃ t u v, h.get? a = some { cls := .type "range", data := .fields #[.int lo t, .int hi u, .int 1 v] }
  | .frz o u => h.get? a = some o ∧ eD H h a u
  | .tbl ps => h.get? a = some { cls := .none, data := .fields ps }
  | .met f x => h.get? a = some (PySem.W.methodObj (.ref f) (.ref x))
  | .ext φ => φ h ∧ (∃ o, h.get? a = some o) ∧ ∀ h1 h2 : Heap, φ h1 → (∀ o, h1.get? a = some o → h2.get? a = some o) → φ h2
def HOk (H : Hp) (h : Heap) : Prop := ∀ a o, H a = some o → eD P w H h a o
end
section
variable {P : Program} {w : World} {H H' : Hp} {h h' : Heap} {a : Addr} {o : HO}
theorem eD.lt (x : eD P w H h a o) : a < h.objs.size := by
  cases o with
  | lst xs => obtain ⟨_, _, _, _, e⟩ := x; exact Heap.lt_size e
  | tup xs => obtain ⟨_, _, _, p⟩ := x; exact p.lt
  | dK kvs => obtain ⟨_, _, _, _, o, _, _, e, _⟩ := x; exact Heap.lt_size e
  | dT kvs => obtain ⟨_, _, _, _, o, _, _, e, _⟩ := x; exact Heap.lt_size e
  | set S n => obtain ⟨o, _, _, _, e, _⟩ := x; exact Heap.lt_size e
  | ins C dx fs => obtain ⟨_, _, _, e, _⟩ := x; exact Heap.lt_size e
  | own y => obtain ⟨_, e⟩ := x; exact Heap.lt_size e
  | xd fs => obtain ⟨_, ⟨_, _, _, e, _⟩, _⟩ := x; exact Heap.lt_size e
  | rng lo hi => obtain ⟨_, _, _, e⟩ := x; exact Heap.lt_size e
  | frz ob u => obtain ⟨e, _⟩ := x; exact Heap.lt_size e
  | tbl ps => exact Heap.lt_size (show h.get? a = some _ from x)
  | met f y => exact Heap.lt_size (show h.get? a = some _ from x)
  | ext φ => obtain ⟨_, ⟨_, e⟩, _⟩ := x; exact Heap.lt_size e
theorem Paired.mapP {α β : Type} {F G : α → β → Prop} : ∀ {l₁ : List α} {l₂ : List β}, Paired F l₁ l₂ → (∀ a b, F a b → G a b) → Paired G l₁ l₂
  | _, _, .nil, _ => .nil
  | _, _, .cons r t, f => .cons (f _ _ r) (Paired.mapP t f)
theorem eD.stay (x : eD P w H h a o) (k : ∀ b u, (b = a ∨ H b = some (.own a)) → h.get? b = some u → h'.get? b = some u)
    (ho : ∀ b, H b = some (.own a) → H' b = some (.own a)) (ht : ∀ b xs, H b = some (.tup xs) → H' b = some (.tup xs)) : eD P w H' h' a o := by
  induction o with
  | lst xs => obtain ⟨z, its, n, r, e⟩ := x; exact ⟨z, its, n, r, k _ _ (.inl rfl) e⟩
  | tup xs => obtain ⟨z, its, r, ob, e, c⟩ := x; exact ⟨z, its, r, ob, k _ _ (.inl rfl) e, c⟩
  | dK kvs => obtain ⟨z, y, vs, r, ob, es, ep, e, c⟩ := x; exact ⟨z, y, vs, r, ob, es, ep, k _ _ (.inl rfl) e, c⟩
  | dT kvs =>
    obtain ⟨z, y, xs, r, ob, es, ep, e, c⟩ := x
    exact ⟨z, y, xs, Paired.mapP r fun p q z => ⟨z.1, ht _ _ z.2.1, z.2.2⟩, ob, es, ep, k _ _ (.inl rfl) e, c⟩
  | set S n => obtain ⟨ob, es, ep, t, e, c⟩ := x; exact ⟨ob, es, ep, t, k _ _ (.inl rfl) e, c⟩
  | ins C dx fs =>
    obtain ⟨d, z, ne, e, mA, ⟨od, es, ep, e2, c⟩, r⟩ := x
    exact ⟨ho _ d, z, ne, k _ _ (.inl rfl) e, mA, ⟨od, es, ep, k _ _ (.inr d) e2, c⟩, r⟩
  | own y => obtain ⟨ob, e⟩ := x; exact ⟨ob, k _ _ (.inl rfl) e⟩
  | xd fs => obtain ⟨mA, ⟨od, es, ep, e, c⟩, r⟩ := x; exact ⟨mA, ⟨od, es, ep, k _ _ (.inl rfl) e, c⟩, r⟩
  | rng lo hi => obtain ⟨t, u, v, e⟩ := x; exact ⟨t, u, v, k _ _ (.inl rfl) e⟩
  | frz ob u ih => obtain ⟨e, q⟩ := x; exact ⟨k _ _ (.inl rfl) e, ih q⟩
  | tbl ps =>
    have e : h.get? a = some { cls := .none, data := .fields ps } := x
    show h'.get? a = some { cls := .none, data := .fields ps }
    exact k a _ (.inl rfl) e
  | met f y =>
    have e : h.get? a = some (PySem.W.methodObj (.ref f) (.ref y)) := x
    show h'.get? a = some (PySem.W.methodObj (.ref f) (.ref y))
    exact k a _ (.inl rfl) e
  | ext φ => obtain ⟨p, ⟨o, e⟩, st⟩ := x; exact ⟨st _ _ p fun o q => k _ _ (.inl rfl) q, ⟨o, k _ _ (.inl rfl) e⟩, st⟩
theorem HOk.lt (x : HOk P w H h) (e : H a = some o) : a < h.objs.size := (x a o e).lt
theorem HOk.fresh (x : HOk P w H h) (e : h.objs.size ≤ a) : H a = none := by
  cases q : H a with
  | none => rfl
  | some u => exact absurd (Nat.lt_of_lt_of_le (x.lt q) e) (Nat.lt_irrefl _)
theorem HOk.kept (x : HOk P w H h) (k : ∀ b u, h.get? b = some u → h'.get? b = some u) : HOk P w H h' := fun a o e =>
  (x a o e).stay (fun b u _ q => k b u q) (fun _ q => q) fun _ _ q => q
theorem HOk.laid (x : HOk P w H h) (k : ∀ b u, h.get? b = some u → h'.get? b = some u) (hp : h.objs.size ≤ a) (new : eD P w (upd H a o) h' a o) : HOk P w (upd H a o) h' := fun b u e => by
  have hn := x.fresh hp
  by_cases hb : b = a
  · subst hb; rw [bP] at e; cases e; exact new
  · rw [aG hb] at e
    exact (x b u e).stay (fun c v _ q => k c v q) (fun c q => by rw [aG (dQ q hn)]; exact q) fun c xs q => by rw [aG (dQ q hn)]; exact q
end
def Rd (H : Hp) (a : Addr) (u : HO) : Prop := H a = some u ∨ ∃ o, H a = some (.frz o u)
theorem Rd.of {H : Hp} {a : Addr} {u : HO} (h : H a = some u) : Rd H a u := .inl h
theorem Rd.ok {P : Program} {w : World} {H : Hp} {h : Heap} {a : Addr} {u : HO} (r : Rd H a u) (x : HOk P w H h) : eD P w H h a u := by
  rcases r with r | ⟨o, r⟩
  · exact x a u r
  · obtain ⟨_, q⟩ := x a _ r
    exact q
def Mut : Option HO → Prop
  | some (.lst _) => True
  | some (.dK _) => True
  | some (.dT _) => True
  | some (.set _ _) => True
  | some (.ins _ _ _) => True
  | some (.ext _) => True
  | _ => False
section
variable {P : Program} {w : World} {H : Hp} {h h' : Heap} {x e : Addr} {o' : HO}
theorem HOk.write (ok : HOk P w H h) (mu : Mut (H x)) (he : e = x ∨ H e = some (.own x)) (k : ∀ b u, b ≠ e → h.get? b = some u → h'.get? b = some u) (heo : ∃ u, h'.get? e = some u)
    (new : eD P w (upd H x o') h' x o') : HOk P w (upd H x o') h' := fun b u q => by
  have nown : ∀ c y, H c = some (.own y) → c ≠ x := fun c y r z => by subst z; rw [r] at mu; exact mu
  have ntup : ∀ c xs, H c = some (.tup xs) → c ≠ x := fun c xs r z => by subst z; rw [r] at mu; exact mu
  by_cases hb : b = x
  · subst hb; rw [bP] at q; cases q; exact new
  · rw [aG hb] at q
    by_cases hbe : b = e
    · have q' : H b = some (.own x) := by
        rcases he with z | z
        · exact absurd (hbe.trans z) hb
        · rw [hbe]; exact z
      rw [q] at q'; cases q'
      obtain ⟨v, hv⟩ := heo
      exact ⟨v, by rw [hbe]; exact hv⟩
    · refine (ok b u q).stay (fun c v hc r => k c v ?_ r) (fun c r => by rw [aG (nown c b r)]; exact r) fun c xs r => by rw [aG (ntup c xs r)]; exact r
      rcases hc with rfl | hc
      · exact hbe
      · rintro rfl
        rcases he with z | z
        · exact nown c b hc z
        · rw [hc] at z; cases z; exact hb rfl
end
structure Un (fs ex : List Addr) (H H' : Hp) (h h' : Heap) : Prop where
  keep : ∀ b o, h.get? b = some o → H b = none → b ∉ fs → b ∉ ex → h'.get? b = some o
  slot : ∀ b o, h.get? b = some o → H b = none → b ∈ fs → b ∉ ex → ∃ sl, h'.get? b = some { o with slots := sl }
  free : ∀ b o, h.get? b = some o → H b = none → b ∉ ex → H' b = none
  there : ∀ b o, h.get? b = some o → b ∉ ex → ∃ o', h'.get? b = some o'
  tups : ∀ b xs, H b = some (.tup xs) → H' b = some (.tup xs)
  frzs : ∀ b o u, H b = some (.frz o u) → H' b = some (.frz o u)
  tbls : ∀ b ps, H b = some (.tbl ps) → ∃ more, H' b = some (.tbl (ps ++ more))
section
variable {fs fs' ex ex' : List Addr} {H H1 H2 : Hp} {h h1 h2 h' : Heap} {a x e : Addr} {o : HO}
theorem Un.any (u : Un fs ex H H1 h h1) {b : Addr} {ob : Obj} (q : h.get? b = some ob) (n : H b = none) (hx : b ∉ ex) : ∃ sl, h1.get? b = some { ob with slots := sl } := by
  by_cases hb : b ∈ fs
  · exact u.slot b ob q n hb hx
  · exact ⟨ob.slots, u.keep b ob q n hb hx⟩
theorem Un.trans (a : Un fs ex H H1 h h1) (b : Un fs ex H1 H2 h1 h2) : Un fs ex H H2 h h2 where
  keep := fun c ob q n hc hx => b.keep c ob (a.keep c ob q n hc hx) (a.free c ob q n hx) hc hx
  slot := fun c ob q n hc hx => by
    obtain ⟨sl, e1⟩ := a.slot c ob q n hc hx
    obtain ⟨sl', e2⟩ := b.slot c _ e1 (a.free c ob q n hx) hc hx
    exact ⟨sl', e2⟩
  free := fun c ob q n hx => by
    obtain ⟨o', e1⟩ := a.there c ob q hx
    exact b.free c o' e1 (a.free c ob q n hx) hx
  there := fun c ob q hx => by
    obtain ⟨o', e1⟩ := a.there c ob q hx
    exact b.there c o' e1 hx
  tups := fun c xs q => b.tups c xs (a.tups c xs q)
  frzs := fun c ob xs q => b.frzs c ob xs (a.frzs c ob xs q)
  tbls := fun c ps q => by
    obtain ⟨m1, e1⟩ := a.tbls c ps q
    obtain ⟨m2, e2⟩ := b.tbls c _ e1
    exact ⟨m1 ++ m2, by rw [e2, Array.append_assoc]⟩
theorem Un.kept (k : ∀ b u, h.get? b = some u → h'.get? b = some u) : Un fs ex H H h h' :=
  ⟨fun b ob q _ _ _ => k b ob q, fun b ob q _ _ _ => ⟨ob.slots, k b ob q⟩, fun _ _ _ n _ => n, fun b ob q _ => ⟨ob, k b ob q⟩, fun _ _ q => q, fun _ _ _ q => q, fun _ ps q => ⟨#[], by rw [q]; simp⟩⟩
theorem Un.refl : Un fs ex H H h h := Un.kept fun _ _ q => q
theorem Un.laid (k : ∀ b u, h.get? b = some u → h'.get? b = some u) (hp : h.objs.size ≤ a) (hn : H a = none) : Un fs ex H (upd H a o) h h' where
  keep := fun b u q _ _ _ => k b u q
  slot := fun b u q _ _ _ => ⟨u.slots, k b u q⟩
  free := fun b u q n _ => by rw [aG (Nat.ne_of_lt (Nat.lt_of_lt_of_le (Heap.lt_size q) hp))]; exact n
  there := fun b u q _ => ⟨u, k b u q⟩
  tups := fun b xs q => by rw [aG (dQ q hn)]; exact q
  frzs := fun b u xs q => by rw [aG (dQ q hn)]; exact q
  tbls := fun b ps q => ⟨#[], by rw [aG (dQ q hn), q]; simp⟩
theorem Un.write (mu : Mut (H x)) (he : e = x ∨ H e = some (.own x)) (k : ∀ b u, b ≠ e → h.get? b = some u → h'.get? b = some u) (heo : ∃ u, h'.get? e = some u) : Un fs ex H (upd H x o) h h' := by
  have hx : ∀ b, H b = none → b ≠ x := fun b n z => by subst z; rw [n] at mu; exact mu
  have hb : ∀ b, H b = none → b ≠ e := fun b n z => by
    subst z
    rcases he with r | r
    · exact hx b n r
    · rw [n] at r; cases r
  have hm : ∀ b u, H b = some u → ¬ Mut (some u) → b ≠ x := fun b u q nm z => by subst z; rw [q] at mu; exact nm mu
  refine ⟨fun b u q n _ _ => k b u (hb b n) q, fun b u q n _ _ => ⟨u.slots, k b u (hb b n) q⟩, fun b u q n _ => by rw [aG (hx b n)]; exact n, fun b u q _ => ?_,
    fun b xs q => by rw [aG (hm b _ q fun z => z)]; exact q, fun b u xs q => by rw [aG (hm b _ q fun z => z)]; exact q, fun b ps q => ⟨#[], by rw [aG (hm b _ q fun z => z), q]; simp⟩⟩
  by_cases hbe : b = e
  · subst hbe; exact heo
  · exact ⟨u, k b u hbe q⟩
theorem Un.mono (u : Un fs ex H H1 h h1) (hs : ∀ b ∈ fs, b ∈ fs') (hx : ∀ b ∈ ex, b ∈ ex') : Un fs' ex' H H1 h h1 :=
  ⟨fun b ob q n hb he => u.keep b ob q n (fun z => hb (hs b z)) fun z => he (hx b z), fun _ _ q n _ he => u.any q n fun z => he (hx _ z), fun b ob q n he => u.free b ob q n fun z => he (hx b z), fun b ob q he => u.there b ob q fun z => he (hx b z), u.tups, u.frzs, u.tbls⟩
end
def trk (h : Heap) (H : Hp) : List Addr := (List.range h.objs.size).filter fun a => (H a).isSome
def kG (h : Heap) (H : Hp) : Heap := PySem.W.hideAll h (trk h H)
theorem xV (h : Heap) (H : Hp) : (kG h H).objs.size = h.objs.size := PySem.W.hideAll_size _ _
theorem An {h : Heap} {H : Hp} {b : Addr} {o : Obj} (e : h.get? b = some o) (n : H b = none) : (kG h H).get? b = some o :=
  PySem.W.hideAll_get _ e fun hm => by
    have q : (H b).isSome = true := (List.mem_filter.mp hm).2
    rw [n] at q; simp at q
theorem Cf {h : Heap} {H : Hp} {b : Addr} {o : Obj} (e : (kG h H).get? b = some o) : h.get? b = some o ∧ H b = none := by
  have e' : h.get? b = some o := PySem.W.of_hideAll (trk h H) e
  refine ⟨e', ?_⟩
  cases q : H b with
  | none => rfl
  | some x =>
    have hm : b ∈ trk h H := List.mem_filter.mpr ⟨List.mem_range.mpr (Heap.lt_size e'), by simp [q]⟩
    have z : (kG h H).get? b = none := PySem.W.hideAll_none (trk h H) hm
    rw [z] at e; cases e
def B0 (g h : Heap) (L : Addr) : List (Addr × Obj) := (List.range h.objs.size).filterMap fun a => if a = L ∨ (g.get? a).isSome = true then none else (h.get? a).map fun o => (a, o)
def rest (g h : Heap) (L d : Addr) : List (Addr × Obj) := (B0 g h L).filter fun p => decide (p.1 ≠ d)
end L2
namespace L2
open PySem PySem.Spec PyProof.Rows
structure Mod (K : PySem.W.Frag) (mg : Str → Option Value) (base : Heap) : Prop where
  kin : K.In base
  glob : base.Ns mainGlobals mg
  blt : ∃ mb, base.Ns builtinsNs mb ∧ ∀ x : Str, x ≠ "__name__" → mb x = bootBuiltins x
  nolimit : base.NoLimit
  seer : base.NoSeer
structure Cx where
  prog : Program
  w : World
  K : PySem.W.Frag
  mg : Str → Option Value
  base : Heap
  A : Around
  N : List Str
  s₀ : Shared
  H₀ : Hp
  env : Env
  outer : List Env
  stack : List Env
  ex : List Addr
  fn : Str → Bool
  calm : Bool
  pn : List (Addr × Obj)
  xe : Value → Shared → Prop
def frs (l : List Env) : List Addr := l.filterMap (·.frame)
abbrev Cx.fs (X : Cx) : List Addr := frs X.outer
def Vis (sc : Scope) (x : Str) : Prop := sc.names.lookup x = some .local ∨ sc.names.lookup x = some .cell ∨ sc.names.lookup x = some .free
def Loc (sc : Scope) (x : Str) : Prop := sc.names.lookup x = some .local ∨ sc.names.lookup x = some .cell
def Look (env : Env) (h : Heap) (m : Str → Option Value) (x : Str) (u : Value) : Prop :=
  (env.kindOf x = some .local ∧ m x = some u) ∨ ((env.kindOf x = some .cell ∨ env.kindOf x = some .free) ∧ ∃ c, env.cells.lookup x = some c ∧ h.IsCell c (some u))
structure Cx.Ok (X : Cx) : Prop where
  mod : Mod X.K X.mg X.base
  kind : X.env.scope.kind = .function
  glob : X.env.globals = mainGlobals
  blt : X.env.builtins = builtinsNs
  above : X.s₀.heap.objs.size ≤ X.env.locals
  inj : ∀ x y c, X.env.cells.lookup x = some c → X.env.cells.lookup y = some c → x = y
  has : ∀ x, (X.env.kindOf x = some .cell ∨ X.env.kindOf x = some .free) → ∃ c, X.env.cells.lookup x = some c
  cab : ∀ x c, X.fn x = true → X.env.cells.lookup x = some c → X.s₀.heap.objs.size ≤ c
  hd : X.calm = true → X.A.handled = none
  frames : X.A.frames = some X.stack
  stk : X.stack = X.outer ∨ (X.stack = X.env :: X.outer ∧ X.env.frame = some X.env.locals)
  exf : ∀ b ∈ X.ex, b ≠ X.env.locals ∧ ∀ x c, X.env.cells.lookup x = some c → c ≠ b
  bs : ∀ b o, X.base.get? b = some o → X.s₀.heap.get? b = some o ∧ X.H₀ b = none
  bsz : X.base.objs.size ≤ X.s₀.heap.objs.size
  noex : ∀ b o, X.base.get? b = some o → b ∉ X.ex
  exfs : ∀ b ∈ X.ex, b ∉ X.fs
  funs : X.s₀.heap.FunFrames X.base X.outer
  frf : ∀ b ∈ X.fs, X.H₀ b = none
structure Inv (X : Cx) (pins : List (Addr × Obj)) (σ : List (Option V)) (H : Hp) (s : Shared) : Prop where
  ok : X.Ok
  os : s.os = X.s₀.os
  bare : AllBare s.gens
  base : Un X.fs X.ex X.H₀ H X.s₀.heap s.heap
  loc : ∃ m, s.heap.Ns X.env.locals m ∧ ∀ (i : Nat) (x : Str) (v : V), X.N[i]? = some x → σ[i]? = some (some v) → Vis X.env.scope x → ∃ u, RelV v u ∧ Look X.env s.heap m x u
  cell : ∀ x c, X.env.cells.lookup x = some c → ∃ v, s.heap.IsCell c v
  free : H X.env.locals = none
  freeC : ∀ x c, X.env.cells.lookup x = some c → H c = none
  pin : ∀ p ∈ X.pn ++ pins, s.heap.get? p.1 = some p.2 ∧ H p.1 = none ∧ p.1 ≠ X.env.locals ∧ p.1 ∉ X.fs ∧ ∀ v, p.2.data ≠ .cell v
  hok : HOk X.prog X.w H s.heap
  len : σ.length = X.N.length
section
variable {X : Cx} {pins : List (Addr × Obj)} {σ : List (Option V)} {H H' : Hp} {s : Shared} {h' : Heap}
theorem Cx.Ok.nofr (ok : X.Ok) {b : Addr} {o : Obj} (e : X.base.get? b = some o) : b ∉ X.fs := fun hb => by
  have := (ok.funs.mem hb).1
  rw [e] at this; cases this
theorem Inv.bs (I : Inv X pins σ H s) : ∀ b o, X.base.get? b = some o → s.heap.get? b = some o ∧ H b = none := fun b o e =>
  ⟨I.base.keep b o (I.ok.bs b o e).1 (I.ok.bs b o e).2 (I.ok.nofr e) (I.ok.noex b o e), I.base.free b o (I.ok.bs b o e).1 (I.ok.bs b o e).2 (I.ok.noex b o e)⟩
theorem Inv.bk (I : Inv X pins σ H s) : ∀ b o, X.base.get? b = some o → s.heap.get? b = some o := fun b o e => (I.bs b o e).1
theorem Inv.mod (I : Inv X pins σ H s) : Mod X.K X.mg X.base := I.ok.mod
theorem Inv.kIn (I : Inv X pins σ H s) : X.K.In s.heap := I.ok.mod.kin.keeps I.bk
theorem Inv.nolimit (I : Inv X pins σ H s) : s.heap.NoLimit := I.ok.mod.nolimit.keeps I.bk
theorem Inv.noseer (I : Inv X pins σ H s) : s.heap.NoSeer := I.ok.mod.seer.keeps I.bk
theorem Inv.fr (I : Inv X pins σ H s) : ∃ m, Fr X.base X.env.locals s.heap m :=
  let ⟨m, hn, _⟩ := I.loc
  ⟨m, hn, I.bk, Nat.le_trans I.ok.bsz I.ok.above⟩
theorem Inv.lt (I : Inv X pins σ H s) : X.env.locals < s.heap.objs.size := let ⟨_, hn, _⟩ := I.loc; hn.lt
theorem Inv.sz (I : Inv X pins σ H s) : X.s₀.heap.objs.size ≤ s.heap.objs.size := Nat.le_trans I.ok.above (Nat.le_of_lt I.lt)
theorem Inv.nofs (I : Inv X pins σ H s) {a : Addr} (h : s.heap.objs.size ≤ a) : a ∉ X.fs := fun hb => by
  obtain ⟨_, o, ho, _⟩ := I.ok.funs.mem hb
  exact absurd (Nat.lt_of_lt_of_le (Heap.lt_size ho) (Nat.le_trans I.sz h)) (Nat.lt_irrefl _)
theorem Inv.cne (I : Inv X pins σ H s) : ∀ x c, X.env.cells.lookup x = some c → c ≠ X.env.locals := fun x c e z => by
  obtain ⟨v, o, ho, hd⟩ := I.cell x c e
  obtain ⟨m, ⟨o', es, ep, ho', hd', _⟩, _⟩ := I.loc
  rw [z, ho'] at ho; cases ho; rw [hd'] at hd; cases hd
theorem Inv.funs (I : Inv X pins σ H s) : s.heap.FunFrames X.base X.outer := by
  have all : ∀ (l : List Env), (∀ b ∈ frs l, b ∈ X.fs) → X.s₀.heap.FunFrames X.base l → s.heap.FunFrames X.base l := by
    intro l
    induction l with
    | nil => intro _ _; trivial
    | cons env r ih =>
      intro hs hl
      obtain ⟨hk, ⟨L, o, hf, hn, ho, hd⟩, hr⟩ := hl
      have hL : L ∈ X.fs := hs L (by unfold frs; rw [List.filterMap_cons, hf]; exact List.mem_cons_self)
      obtain ⟨sl, e⟩ := I.base.slot L o ho (I.ok.frf L hL) hL fun z => I.ok.exfs L z hL
      exact ⟨hk, ⟨L, _, hf, hn, e, hd⟩, ih (fun b hb => hs b (by unfold frs; rw [List.filterMap_cons, hf]; exact List.mem_cons_of_mem _ hb)) hr⟩
  exact all X.outer (fun _ hb => hb) I.ok.funs
theorem Inv.stack (I : Inv X pins σ H s) : s.heap.FunFrames X.base X.stack := by
  rcases I.ok.stk with e | ⟨e, hf⟩
  · rw [e]; exact I.funs
  · rw [e]
    obtain ⟨m, hn, _⟩ := I.loc
    refine .cons (by rw [I.ok.kind]; decide) hf hn ?_ I.funs
    exact Heap.get?_none_of_le (Nat.le_trans I.ok.bsz I.ok.above)
theorem Inv.stkSub (I : Inv X pins σ H s) : ∀ b ∈ frs X.stack, b ∈ X.env.locals :: X.fs := fun b hb => by
  rcases I.ok.stk with e | ⟨e, hf⟩
  · rw [e] at hb; exact List.mem_cons_of_mem _ hb
  · rw [e] at hb
    unfold frs at hb
    rw [List.filterMap_cons, hf] at hb
    exact hb
theorem Inv.stkFree (I : Inv X pins σ H s) : ∀ b ∈ frs X.stack, H b = none := fun b hb => by
  rcases List.mem_cons.mp (I.stkSub b hb) with e | hb
  · rw [e]; exact I.free
  · obtain ⟨_, o, ho, _⟩ := I.ok.funs.mem hb
    exact I.base.free b o ho (I.ok.frf b hb) fun z => I.ok.exfs b z hb
theorem Inv.step {g' : Array GenState} {t' : Nat} {d' : Drawn} {ch : List Addr} (I : Inv X pins σ H s)
    (hch : ∀ b ∈ ch, (b ∈ X.ex ∨ X.s₀.heap.objs.size ≤ b) ∧ b ≠ X.env.locals ∧ (∀ x c, X.env.cells.lookup x = some c → c ≠ b) ∧ ∀ p ∈ X.pn ++ pins, p.1 ≠ b)
    (keep : ∀ b o, b ≠ X.env.locals → b ∉ X.fs → b ∉ ch → s.heap.get? b = some o → H b = none → h'.get? b = some o)
    (slot : ∀ b o, b ≠ X.env.locals → b ∈ X.fs → b ∉ ch → s.heap.get? b = some o → H b = none → ∃ sl, h'.get? b = some { o with slots := sl }) (free : ∀ b o, b ∉ ch → s.heap.get? b = some o → H b = none → H' b = none)
    (there : ∀ b o, b ∉ ch → s.heap.get? b = some o → ∃ o', h'.get? b = some o')
    (tups : ∀ b xs, H b = some (.tup xs) → H' b = some (.tup xs)) (frzs : ∀ b o u, H b = some (.frz o u) → H' b = some (.frz o u)) (tbls : ∀ b ps, H b = some (.tbl ps) → ∃ more, H' b = some (.tbl (ps ++ more)))
    (ns : ∀ m, s.heap.Ns X.env.locals m → h'.Ns X.env.locals m) (hok : HOk X.prog X.w H' h') (hg : AllBare g') :
    Inv X pins σ H' { s with heap := h', gens := g', drawn := d', toks := t' } := by
  have neL : ∀ b o, X.s₀.heap.get? b = some o → b ≠ X.env.locals := fun b o e => Nat.ne_of_lt (Nat.lt_of_lt_of_le (Heap.lt_size e) I.ok.above)
  have neC : ∀ b o, X.s₀.heap.get? b = some o → b ∉ X.ex → b ∉ ch := fun b o e hx hb => by
    rcases (hch b hb).1 with z | z
    · exact hx z
    · exact absurd (Nat.lt_of_lt_of_le (Heap.lt_size e) z) (Nat.lt_irrefl _)
  have cellK : ∀ x c, X.env.cells.lookup x = some c → ∀ v, s.heap.IsCell c v → h'.IsCell c v := fun x c e v ⟨o, ho, hd⟩ => by
    have nch : c ∉ ch := fun z => (hch c z).2.2.1 x c e rfl
    by_cases hc : c ∈ X.fs
    · obtain ⟨sl, q⟩ := slot c o (I.cne x c e) hc nch ho (I.freeC x c e)
      exact ⟨_, q, hd⟩
    · exact ⟨o, keep c o (I.cne x c e) hc nch ho (I.freeC x c e), hd⟩
  refine ⟨I.ok, I.os, hg, ⟨fun b o e n hb hx => ?_, fun b o e n hb hx => ?_, fun b o e n hx => ?_, fun b o e hx => ?_, fun b xs e => tups b xs (I.base.tups b xs e), fun b o xs e => frzs b o xs (I.base.frzs b o xs e), fun b ps e => ?_⟩, ?_, fun x c e => ?_, ?_, fun x c e => ?_, fun p hp => ?_, hok, I.len⟩
  · exact keep b o (neL b o e) hb (neC b o e hx) (I.base.keep b o e n hb hx) (I.base.free b o e n hx)
  · obtain ⟨sl, e1⟩ := I.base.slot b o e n hb hx
    obtain ⟨sl', e2⟩ := slot b _ (neL b o e) hb (neC b o e hx) e1 (I.base.free b o e n hx)
    exact ⟨sl', e2⟩
  · obtain ⟨o', e1⟩ := I.base.there b o e hx
    exact free b o' (neC b o e hx) e1 (I.base.free b o e n hx)
  · obtain ⟨o', e1⟩ := I.base.there b o e hx
    exact there b o' (neC b o e hx) e1
  · obtain ⟨m1, e1⟩ := I.base.tbls b ps e
    obtain ⟨m2, e2⟩ := tbls b _ e1
    exact ⟨m1 ++ m2, by rw [e2, Array.append_assoc]⟩
  · obtain ⟨m, hn, hl⟩ := I.loc
    refine ⟨m, ns m hn, fun i x v e1 e2 e3 => ?_⟩
    obtain ⟨u, r, l⟩ := hl i x v e1 e2 e3
    refine ⟨u, r, ?_⟩
    rcases l with l | ⟨k, c, e, z⟩
    · exact .inl l
    · exact .inr ⟨k, c, e, cellK x c e _ z⟩
  · obtain ⟨v, z⟩ := I.cell x c e
    exact ⟨v, cellK x c e v z⟩
  · obtain ⟨m, ⟨o, _, _, ho, _⟩, _⟩ := I.loc
    exact free _ o (fun z => (hch _ z).2.1 rfl) ho I.free
  · obtain ⟨v, o, ho, hd⟩ := I.cell x c e
    exact free c o (fun z => (hch c z).2.2.1 x c e rfl) ho (I.freeC x c e)
  · obtain ⟨e, n, ne, nf, d⟩ := I.pin p hp
    have nch : p.1 ∉ ch := fun z => (hch p.1 z).2.2.2 p hp rfl
    exact ⟨keep p.1 p.2 ne nf nch e n, free p.1 p.2 nch e n, ne, nf, d⟩
theorem Inv.un {t' : Nat} (I : Inv X pins σ H s) (u : Un X.fs [] H H' s.heap h') (hok : HOk X.prog X.w H' h') : Inv X pins σ H' { s with heap := h', toks := t' } := by
  obtain ⟨m, ⟨o, es, ep, ho, r⟩, _⟩ := id I.loc
  obtain ⟨sl, hL⟩ := u.any ho I.free (by simp)
  exact I.step (g' := s.gens) (d' := s.drawn) (ch := []) (fun _ z => nomatch z) (fun b o _ hb _ e n => u.keep b o e n hb (by simp)) (fun b o _ hb _ e n => u.slot b o e n hb (by simp)) (fun b o _ e n => u.free b o e n (by simp)) (fun b o _ e => u.there b o e (by simp)) u.tups u.frzs u.tbls (fun m' hm => by
    obtain ⟨o', es', ep', ho', r'⟩ := hm
    rw [ho] at ho'; cases ho'
    exact ⟨_, es', ep', hL, r'⟩) hok I.bare
theorem Inv.call {g' : Array GenState} {t' : Nat} {d' : Drawn} {ch : List Addr} (I : Inv X pins σ H s) (u : Un (frs X.stack) ch H H' s.heap h') (hok : HOk X.prog X.w H' h') (hg : AllBare g')
    (hch : ∀ b ∈ ch, (b ∈ X.ex ∨ X.s₀.heap.objs.size ≤ b) ∧ b ≠ X.env.locals ∧ (∀ x c, X.env.cells.lookup x = some c → c ≠ b) ∧ ∀ p ∈ X.pn ++ pins, p.1 ≠ b) :
    Inv X pins σ H' { s with heap := h', gens := g', drawn := d', toks := t' } := by
  obtain ⟨m, ⟨o, es, ep, ho, r⟩, _⟩ := id I.loc
  obtain ⟨sl, hL⟩ := u.any ho I.free fun z => (hch _ z).2.1 rfl
  exact I.step (ch := ch) hch (fun b o hL hb hc e n => u.keep b o e n (fun z => (List.mem_cons.mp (I.stkSub b z)).elim hL hb) hc) (fun b o _ _ hc e n => u.any e n hc) (fun b o hc e n => u.free b o e n hc) (fun b o hc e => u.there b o e hc) u.tups u.frzs u.tbls (fun m' hm => by
    obtain ⟨o', es', ep', ho', r'⟩ := hm
    rw [ho] at ho'; cases ho'
    exact ⟨_, es', ep', hL, r'⟩) hok hg
theorem Inv.turned {t' : Nat} {it : Addr} (I : Inv X pins σ H s) (k : ∀ b o, b ≠ it → s.heap.get? b = some o → h'.get? b = some o) (hn : H it = none) (hL : it ≠ X.env.locals)
    (h1 : it ∈ X.ex ∨ X.s₀.heap.objs.size ≤ it) (h2 : ∀ x c, X.env.cells.lookup x = some c → c ≠ it) (h3 : ∀ p ∈ X.pn ++ pins, p.1 ≠ it) : Inv X pins σ H { s with heap := h', toks := t' } := by
  have nit : ∀ b u, H b = some u → b ≠ it := fun b u e z => by rw [z, hn] at e; cases e
  refine I.step (g' := s.gens) (d' := s.drawn) (ch := [it]) (fun b hb => ?_) (fun b o _ _ hc e _ => k b o (fun z => hc (by simp [z])) e) (fun b o _ _ hc e _ => ⟨o.slots, k b o (fun z => hc (by simp [z])) e⟩) (fun _ _ _ _ n => n)
    (fun b o hc e => ⟨o, k b o (fun z => hc (by simp [z])) e⟩) (fun _ _ e => e) (fun _ _ _ e => e) (fun b ps e => ⟨#[], by rw [e]; simp⟩) (fun m hm => ?_) (fun b u e => ?_) I.bare
  · have e : b = it := by simpa using hb
    subst e
    exact ⟨h1, hL, h2, h3⟩
  · obtain ⟨o, es, ep, ho, r⟩ := hm
    exact ⟨o, es, ep, k _ o (Ne.symm hL) ho, r⟩
  · refine (I.hok b u e).stay (fun c v hc q => k c v ?_ q) (fun _ q => q) fun _ _ q => q
    rcases hc with z | z
    · rw [z]; exact nit b u e
    · exact nit c _ z
theorem Inv.tok (I : Inv X pins σ H s) (t : Nat) : Inv X pins σ H { s with toks := t } := I.un (h' := s.heap) (t' := t) Un.refl I.hok
theorem Inv.kept {t' : Nat} (I : Inv X pins σ H s) (k : ∀ b u, s.heap.get? b = some u → h'.get? b = some u) : Inv X pins σ H { s with heap := h', toks := t' } := I.un (Un.kept k) (I.hok.kept k)
theorem Inv.laid {a : Addr} {o : HO} {t' : Nat} (I : Inv X pins σ H s) (k : ∀ b u, s.heap.get? b = some u → h'.get? b = some u) (hp : s.heap.objs.size ≤ a) (new : eD X.prog X.w (upd H a o) h' a o) :
    Inv X pins σ (upd H a o) { s with heap := h', toks := t' } := I.un (Un.laid k hp (I.hok.fresh hp)) (I.hok.laid k hp new)
theorem Inv.write {x e : Addr} {o : HO} {t' : Nat} (I : Inv X pins σ H s) (mu : Mut (H x)) (he : e = x ∨ H e = some (.own x)) (k : ∀ b u, b ≠ e → s.heap.get? b = some u → h'.get? b = some u) (heo : ∃ u, h'.get? e = some u)
    (new : eD X.prog X.w (upd H x o) h' x o) : Inv X pins σ (upd H x o) { s with heap := h', toks := t' } := I.un (Un.write mu he k heo) (I.hok.write mu he k heo new)
theorem Inv.pins_of {pins' : List (Addr × Obj)} (I : Inv X pins σ H s) (h : ∀ p ∈ pins', s.heap.get? p.1 = some p.2 ∧ H p.1 = none ∧ p.1 ≠ X.env.locals ∧ p.1 ∉ X.fs ∧ ∀ v, p.2.data ≠ .cell v) : Inv X pins' σ H s :=
  ⟨I.ok, I.os, I.bare, I.base, I.loc, I.cell, I.free, I.freeC, fun p hp => (List.mem_append.mp hp).elim (fun z => I.pin p (List.mem_append_left _ z)) (h p), I.hok, I.len⟩
theorem o3 {N : List Str} (hN : N.Nodup) {i j : Nat} {x : Str} (a : N[i]? = some x) (b : N[j]? = some x) : i = j := by
  obtain ⟨h1, e1⟩ := List.getElem?_eq_some_iff.mp a
  obtain ⟨h2, e2⟩ := List.getElem?_eq_some_iff.mp b
  exact (List.getElem_inj hN).mp (e1.trans e2.symm)
theorem xN {M : Model} {A : Around} {E : Value → Shared → Prop} {i : Nat} {x : Str} {v : V} {u : Value} {Q : Unit → Shared → Prop} (I : Inv X pins σ H s) (hN : X.N.Nodup) (hi : X.N[i]? = some x) (hx : Loc X.env.scope x) (r : RelV v u)
    (h : ∀ s', Inv X pins (σ.set i (some v)) H s' → (∃ a, Heap.SameBut a s.heap s'.heap ∧ (a = X.env.locals ∨ X.env.cells.lookup x = some a)) → Q () s') (hf : X.fn x = true ∨ X.env.scope.names.lookup x = some .local := by first | exact .inl rfl | exact .inr rfl | assumption) : wpAny M A (storeName X.env x u) Q E s := by
  obtain ⟨m, hn, hl⟩ := id I.loc
  have hcls : (X.env.scope.kind == .class || (X.env.scope.kind == .module && X.env.locals != X.env.globals)) = false := by rw [I.ok.kind]; rfl
  have hiσ : i < σ.length := by rw [I.len]; exact (List.getElem?_eq_some_iff.mp hi).1
  have cne := I.cne
  have tracked : ∀ {a : Addr} {h' : Heap}, (∃ o, s.heap.get? a = some o ∧ H a = none) → Heap.SameBut a s.heap h' → HOk X.prog X.w H h' := fun {a h'} ha hs b ob e => by
    obtain ⟨_, _, hfree⟩ := ha
    refine (I.hok b ob e).stay (fun c w' hc q => (hs.2 c ?_).trans q) (fun _ q => q) fun _ _ q => q
    rintro rfl
    rcases hc with rfl | hc
    · rw [hfree] at e; cases e
    · rw [hfree] at hc; cases hc
  rcases hx with hk | hk
  · refine wpAny_storeName_local hk hn (fun h' hn' hs => ?_) hcls
    obtain ⟨oL, _, _, hoL, _⟩ := id hn
    refine h _ ⟨I.ok, I.os, I.bare, ⟨fun b o e n hb hx => ?_, fun b o e n hb hx => ?_, I.base.free, fun b o e hx => ?_, I.base.tups, I.base.frzs, I.base.tbls⟩, ⟨_, hn', fun j y v' e1 e2 e3 => ?_⟩, fun y c e => ?_, I.free, I.freeC, fun p hp => ?_, tracked ⟨oL, hoL, I.free⟩ hs, by simpa using I.len⟩ ⟨_, hs, .inl rfl⟩
    · exact (hs.2 b (Nat.ne_of_lt (Nat.lt_of_lt_of_le (Heap.lt_size e) I.ok.above))).trans (I.base.keep b o e n hb hx)
    · obtain ⟨sl, e1⟩ := I.base.slot b o e n hb hx
      exact ⟨sl, (hs.2 b (Nat.ne_of_lt (Nat.lt_of_lt_of_le (Heap.lt_size e) I.ok.above))).trans e1⟩
    · obtain ⟨o', e1⟩ := I.base.there b o e hx
      exact ⟨o', (hs.2 b (Nat.ne_of_lt (Nat.lt_of_lt_of_le (Heap.lt_size e) I.ok.above))).trans e1⟩
    · by_cases hj : j = i
      · subst hj
        rw [hi] at e1; cases e1
        rw [List.getElem?_set_self hiσ] at e2
        cases e2
        exact ⟨u, r, .inl ⟨hk, by simp⟩⟩
      · rw [List.getElem?_set_ne (Ne.symm hj)] at e2
        obtain ⟨u', r', q⟩ := hl j y v' e1 e2 e3
        refine ⟨u', r', ?_⟩
        rcases q with ⟨k, e⟩ | ⟨k, c, e, z⟩
        · refine .inl ⟨k, ?_⟩
          have : y ≠ x := fun e => hj (o3 hN e1 (e ▸ hi))
          simp [this, e]
        · exact .inr ⟨k, c, e, z.sameBut hs (cne y c e)⟩
    · obtain ⟨w', z⟩ := I.cell y c e
      exact ⟨w', z.sameBut hs (cne y c e)⟩
    · obtain ⟨e, n, ne, nf, d⟩ := I.pin p hp
      exact ⟨(hs.2 p.1 ne).trans e, n, ne, nf, d⟩
  · have hfn : X.fn x = true := by
      rcases hf with z | z
      · exact z
      · rw [z] at hk; cases hk
    obtain ⟨c, hc⟩ := I.ok.has x (.inl hk)
    obtain ⟨w', z⟩ := I.cell x c hc
    refine wpAny_storeName_cell I.ok.kind hk hc z (fun h' hc' hs => ?_)
    obtain ⟨oc, hoc, hocd⟩ := id z
    refine h { s with heap := h' } ⟨I.ok, I.os, I.bare, ⟨fun b o e n hb hx => ?_, fun b o e n hb hx => ?_, I.base.free, fun b o e hx => ?_, I.base.tups, I.base.frzs, I.base.tbls⟩, ⟨m, hn.sameBut hs (Ne.symm (cne x c hc)), fun j y v' e1 e2 e3 => ?_⟩, fun y c' e => ?_, I.free, I.freeC, fun p hp => ?_, tracked ⟨oc, hoc, I.freeC x c hc⟩ hs, by simpa using I.len⟩ ⟨c, hs, .inr hc⟩
    · exact (hs.2 b (Nat.ne_of_lt (Nat.lt_of_lt_of_le (Heap.lt_size e) (I.ok.cab x c hfn hc)))).trans (I.base.keep b o e n hb hx)
    · obtain ⟨sl, e1⟩ := I.base.slot b o e n hb hx
      exact ⟨sl, (hs.2 b (Nat.ne_of_lt (Nat.lt_of_lt_of_le (Heap.lt_size e) (I.ok.cab x c hfn hc)))).trans e1⟩
    · obtain ⟨o', e1⟩ := I.base.there b o e hx
      exact ⟨o', (hs.2 b (Nat.ne_of_lt (Nat.lt_of_lt_of_le (Heap.lt_size e) (I.ok.cab x c hfn hc)))).trans e1⟩
    · by_cases hj : j = i
      · subst hj
        rw [hi] at e1; cases e1
        rw [List.getElem?_set_self hiσ] at e2
        cases e2
        exact ⟨u, r, .inr ⟨.inl hk, c, hc, hc'⟩⟩
      · rw [List.getElem?_set_ne (Ne.symm hj)] at e2
        obtain ⟨u', r', q⟩ := hl j y v' e1 e2 e3
        refine ⟨u', r', ?_⟩
        rcases q with q | ⟨k, c', e, z'⟩
        · exact .inl q
        · refine .inr ⟨k, c', e, z'.sameBut hs ?_⟩
          rintro rfl
          exact hj (o3 hN e1 (I.ok.inj _ _ _ e hc ▸ hi))
    · by_cases hcc : c' = c
      · subst hcc; exact ⟨_, hc'⟩
      · obtain ⟨w2, z2⟩ := I.cell y c' e
        exact ⟨w2, z2.sameBut hs hcc⟩
    · obtain ⟨e, n, ne, nf, d⟩ := I.pin p hp
      refine ⟨(hs.2 p.1 ?_).trans e, n, ne, nf, d⟩
      intro q
      rw [q, hoc] at e
      have q' : oc = p.2 := Option.some.inj e
      exact d w' (by rw [← q']; exact hocd)
theorem lU {M : Model} {A : Around} {E : Value → Shared → Prop} {i : Nat} {x : Str} {v : V} {u : Value} {Q : Unit → Shared → Prop} (I : Inv X pins σ H s) (hN : X.N.Nodup) (hi : X.N[i]? = some x) (hx : Loc X.env.scope x) (r : RelV v u)
    (h : ∀ s', Inv X pins (σ.set i (some v)) H s' → Q () s') (hf : X.fn x = true ∨ X.env.scope.names.lookup x = some .local := by first | exact .inl rfl | exact .inr rfl | assumption) : wpAny M A (storeName X.env x u) Q E s :=
  xN I hN hi hx r (fun s' I' _ => h s' I') hf
theorem Inv.call' {s' : Shared} {ch : List Addr} (I : Inv X pins σ H s) (ho : s'.os = s.os) (u : Un (frs X.stack) ch H H' s.heap s'.heap) (hok : HOk X.prog X.w H' s'.heap) (hg : AllBare s'.gens)
    (hch : ∀ b ∈ ch, (b ∈ X.ex ∨ X.s₀.heap.objs.size ≤ b) ∧ b ≠ X.env.locals ∧ (∀ x c, X.env.cells.lookup x = some c → c ≠ b) ∧ ∀ p ∈ X.pn ++ pins, p.1 ≠ b) : Inv X pins σ H' s' := by
  obtain ⟨h', g', d', t', o'⟩ := s'
  have e : o' = s.os := ho
  subst e
  exact I.call (g' := g') (t' := t') (d' := d') u hok hg hch
end
abbrev XK := Value → Option Addr → Hp → Prop
abbrev St := List (Option V)
abbrev VK := V → Hp → Prop
abbrev TE := St → Hp → VK → Prop
abbrev TT := St → Hp → (Bool → Hp → Prop) → Prop
abbrev TA := St → Hp → (List V → Hp → Prop) → Prop
structure Ends where
  nx : St → Hp → Prop
  rt : VK
  bk : St → Hp → Prop := fun _ _ => False
  ct : St → Hp → Prop := fun _ _ => False
abbrev TS := Ends → St → Hp → Prop
def EP (X : Cx) (pins : List (Addr × Obj)) (σ : St) (Q : VK) (u : Value) (s' : Shared) : Prop := ∃ v H', Inv X pins σ H' s' ∧ RelV v u ∧ Q v H'
def TP (X : Cx) (pins : List (Addr × Obj)) (σ : St) (Q : Bool → Hp → Prop) (b : Bool) (s' : Shared) : Prop := ∃ H', Inv X pins σ H' s' ∧ Q b H'
def AP (X : Cx) (pins : List (Addr × Obj)) (σ : St) (Q : List V → Hp → Prop) (us : List Value) (s' : Shared) : Prop := ∃ vs H', Inv X pins σ H' s' ∧ Vals vs us ∧ Q vs H'
def SP (X : Cx) (pins : List (Addr × Obj)) (D : Ends) (f : Flow) (s' : Shared) : Prop :=
  match f with
  | .next => ∃ σ' H', Inv X pins σ' H' s' ∧ D.nx σ' H'
  | .brk => ∃ σ' H', Inv X pins σ' H' s' ∧ D.bk σ' H'
  | .cont => ∃ σ' H', Inv X pins σ' H' s' ∧ D.ct σ' H'
  | .ret u => ∃ v σ' H', Inv X pins σ' H' s' ∧ RelV v u ∧ D.rt v H'
def PE (X : Cx) (e : Expr) (t : TE) : Prop :=
  ∀ (pins : List (Addr × Obj)) (s : Shared) (σ : St) (H : Hp) (Q : VK), Inv X pins σ H s → t σ H Q → wpAny (model X.prog X.w) X.A (eval e X.env) (EP X pins σ Q) X.xe s
def PT (X : Cx) (e : Expr) (t : TT) : Prop :=
  ∀ (pins : List (Addr × Obj)) (s : Shared) (σ : St) (H : Hp) (Q : Bool → Hp → Prop), Inv X pins σ H s → t σ H Q → wpAny (model X.prog X.w) X.A (isTrue e X.env (eval e X.env)) (TP X pins σ Q) X.xe s
def PW (X : Cx) (e : Expr) (t : TT) : Prop :=
  ∀ (whole : Sem Value) (pins : List (Addr × Obj)) (s : Shared) (σ : St) (H : Hp) (Q : Bool → Hp → Prop), Inv X pins σ H s → t σ H Q → wpAny (model X.prog X.w) X.A (isTrue e X.env whole) (TP X pins σ Q) X.xe s
theorem PW.pt {X : Cx} {e : Expr} {t : TT} (h : PW X e t) : PT X e t := h _
def PA (X : Cx) (es : List Expr) (t : TA) : Prop :=
  ∀ (pos : Pos) (pins : List (Addr × Obj)) (s : Shared) (σ : St) (H : Hp) (Q : List V → Hp → Prop), Inv X pins σ H s → t σ H Q → wpAny (model X.prog X.w) X.A (spliced (backTo pos (starEach es X.env))) (AP X pins σ Q) X.xe s
def PS (X : Cx) (st : Stmt) (t : TS) : Prop :=
  ∀ (pins : List (Addr × Obj)) (s : Shared) (σ : St) (H : Hp) (D : Ends), Inv X pins σ H s → t D σ H → wpAny (model X.prog X.w) X.A (exec st X.env) (SP X pins D) X.xe s
def PSs (X : Cx) (st : List Stmt) (t : TS) : Prop :=
  ∀ (pins : List (Addr × Obj)) (s : Shared) (σ : St) (H : Hp) (D : Ends), Inv X pins σ H s → t D σ H → wpAny (model X.prog X.w) X.A (execs st X.env) (SP X pins D) X.xe s
theorem thn {α : Type} {t : Sem α} {Q Q' : α → Shared → Prop} {M : Model} {A : Around} {E : Value → Shared → Prop} {s : Shared} (h : wpAny M A t Q E s) (hQ : ∀ a s, Q a s → Q' a s) : wpAny M A t Q' E s := wpAny_mono h hQ fun _ _ x => x
end L2
namespace L2
open PySem PySem.Spec PyProof.Rows
section
variable {X : Cx}
theorem bin {a b : Expr} {ta tb : TE} (ha : PE X a ta) (hb : PE X b tb) {pins : List (Addr × Obj)} {s : Shared} {σ : St} {H : Hp} {R : V → V → Hp → Prop} (I : Inv X pins σ H s) (h : ta σ H fun x H1 => tb σ H1 fun y H2 => R x y H2)
    {α : Type} {Q : α → Shared → Prop} {f : Value → Value → Sem α}
    (hf : ∀ v u s2 x y H2, Inv X pins σ H2 s2 → RelV x v → RelV y u → R x y H2 → wpAny (model X.prog X.w) X.A (f v u) Q X.xe s2) :
    wpAny (model X.prog X.w) X.A (eval a X.env) (fun v s₁ => wpAny (model X.prog X.w) X.A (eval b X.env) (fun u s₂ => wpAny (model X.prog X.w) X.A (f v u) Q X.xe s₂) X.xe s₁) X.xe s := by
  refine thn (ha pins s σ H _ I h) fun v s1 ⟨x, H1, I1, r1, q1⟩ => ?_
  refine thn (hb pins s1 σ H1 _ I1 q1) fun u s2 ⟨y, H2, I2, r2, q2⟩ => ?_
  exact hf v u s2 x y H2 I2 r1 r2 q2
def uw (i : Nat) : TE := fun σ H Q => ∃ v, σ[i]? = some (some v) ∧ Q v H
def tC (v : V) : TE := fun _ H Q => Q v H
theorem Cy {i : Nat} {x : Str} {pos : Pos} (hN : X.N[i]? = some x) (hv : Vis X.env.scope x) (hd : (x == ("__debug__" : Str)) = false := by decide) (hcd : (x == ("__classdict__" : Str)) = false := by decide) : PE X (.Name x pos) (uw i) := by
  intro pins s σ H Q I h
  obtain ⟨v, e, h⟩ := h
  obtain ⟨m, hn, hl⟩ := I.loc
  obtain ⟨u, r, l⟩ := hl i x v hN e hv
  have fin : EP X pins σ Q u s := ⟨v, H, I, r, h⟩
  rcases l with ⟨hk, hm⟩ | ⟨hk, c, hc, hcell⟩
  · exact wpAny_Name (wpAny_loadName_local I.ok.kind hk hn hm fin) hd
  · rcases hk with hk | hk
    · exact wpAny_Name (wpAny_loadName_cell I.ok.kind hk hc hcell fin) hd
    · exact wpAny_Name (wpAny_loadName_free I.ok.kind hk hc hcell fin hcd) hd
theorem aB {i j pos} : PE X (.Constant (.int i) j pos) (tC (.int i)) := fun _ _ _ H _ I h => wpAny_Constant_int ⟨.int i, H, I.tok _, ⟨_, rfl⟩, h⟩
theorem pF {b j pos} : PE X (.Constant (.bool b) j pos) (tC (.bl b)) := fun _ _ _ H _ I h => Constant_bool ⟨.bl b, H, I, rfl, h⟩
theorem lA {x j pos} : PE X (.Constant (.str x) j pos) (tC (.str x)) := fun _ _ _ H _ I h => Calls.Constant_str ⟨.str x, H, I.tok _, ⟨_, rfl⟩, h⟩
def Gl (X : Cx) (x : Str) : Prop := X.env.kindOf x = some .globalImplicit
theorem lr {E : Value → Shared → Prop} {pins : List (Addr × Obj)} {s : Shared} {σ : St} {H : Hp} {x : Str} {u : Value} {pos : Pos} {Q : Value → Shared → Prop} (I : Inv X pins σ H s) (hg : Gl X x) (hm : X.mg x = some u) (h : Q u s)
    (hd : (x == ("__debug__" : Str)) = false := by decide) : wpAny (model X.prog X.w) X.A (eval (.Name x pos) X.env) Q E s :=
  Calls.Name_function_global I.ok.kind hg (Calls.loadGlobal_global (by rw [I.ok.glob]; exact I.mod.glob.keeps I.bk) hm h) hd
theorem kX {E : Value → Shared → Prop} {pins : List (Addr × Obj)} {s : Shared} {σ : St} {H : Hp} {x : Str} {u : Value} {pos : Pos} {Q : Value → Shared → Prop} (I : Inv X pins σ H s) (hg : Gl X x) (hm : X.mg x = none) (hv : bootBuiltins x = some u) (h : Q u s)
    (hn : x ≠ "__name__" := by decide) (hd : (x == ("__debug__" : Str)) = false := by decide) : wpAny (model X.prog X.w) X.A (eval (.Name x pos) X.env) Q E s := by
  obtain ⟨mb, h1, h2⟩ := I.mod.blt
  exact Calls.Name_function_global I.ok.kind hg (Calls.loadGlobal_builtin (by rw [I.ok.glob]; exact I.mod.glob.keeps I.bk) hm (by rw [I.ok.blt]; exact h1.keeps I.bk) ((h2 x hn).trans hv) h) hd
theorem dF {x : Str} {v : V} {u : Value} {pos : Pos} (hg : Gl X x) (hm : X.mg x = some u) (r : RelV v u) (hd : (x == ("__debug__" : Str)) = false := by decide) : PE X (.Name x pos) (tC v) :=
  fun _ _ _ H _ I h => lr I hg hm ⟨v, H, I, r, h⟩ hd
theorem qp {x : Str} {v : V} {u : Value} {pos : Pos} (hg : Gl X x) (hm : X.mg x = none) (hv : bootBuiltins x = some u) (r : RelV v u) (hn : x ≠ "__name__" := by decide) (hd : (x == ("__debug__" : Str)) = false := by decide) : PE X (.Name x pos) (tC v) :=
  fun _ _ _ H _ I h => kX I hg hm hv ⟨v, H, I, r, h⟩ hn hd
variable {a b : Expr} {ta tb : TE} {pos : Pos}
def PC (X : Cx) (op : CmpOp) (a b : Expr) (t : TE) : Prop :=
  ∀ (pins : List (Addr × Obj)) (s : Shared) (σ : St) (H : Hp) (Q : VK), Inv X pins σ H s → t σ H Q →
    wpAny (model X.prog X.w) X.A (eval a X.env) (fun v s₁ => wpAny (model X.prog X.w) X.A (eval b X.env) (fun u s₂ => wpAny (model X.prog X.w) X.A (compareOp op v u) (EP X pins σ Q) X.xe s₂) X.xe s₁) X.xe s
theorem zF (b : Expr) {op : CmpOp} (h : op ≠ .In) (h2 : op ≠ .NotIn) : behindInMarks op b = false := by
  have e1 : (op == CmpOp.In) = false := by cases op <;> first | rfl | exact absurd rfl h
  have e2 : (op == CmpOp.NotIn) = false := by cases op <;> first | rfl | exact absurd rfl h2
  cases b <;> simp [behindInMarks, e1, e2]
def tB (t : TE) : TT := fun σ H Q => t σ H fun x H1 => ∃ c, x = .bl c ∧ Q c H1
theorem Ge {op : CmpOp} {t : TE} (h : PC X op a b t) (h1 : behindInMarks op b = false := by first | exact zF _ (by decide) (by decide) | rfl) : PT X (.Compare a [op] [b] pos) (tB t) := by
  intro pins s σ H Q I hw
  refine wpAny_isTrue_Compare1 (thn (h pins s σ H _ I hw) fun v s1 h1 => thn h1 fun u s2 h2 => thn h2 fun c s3 ⟨x, H1, I1, r1, q1⟩ => ?_) h1
  obtain ⟨d, rfl, q⟩ := q1
  cases r1
  exact wpAny_truthy_bool ⟨H1, I1, q⟩
theorem lB {e : Expr} {t : TE} (h : PE X e t) (he : ∀ whole, isTrue e X.env whole = (do let v ← whole; standAt e.pos; holding [v] (truthy v)) := by intro _; rfl) : PT X e (tB t) := by
  intro pins s σ H Q I hw
  refine isTrue_plain (thn (h pins s σ H _ I hw) fun v s1 ⟨x, H1, I1, r1, q1⟩ => ?_) (he _)
  obtain ⟨d, rfl, q⟩ := q1
  cases r1
  exact wpAny_truthy_bool ⟨H1, I1, q⟩
variable {tA tB' : TT} {rest : List Expr}
def CY (t u : TT) : TT := fun σ H Q => t σ H fun c H1 => if c = true then u σ H1 Q else Q false H1
def tOr (t u : TT) : TT := fun σ H Q => t σ H fun c H1 => if c = true then Q true H1 else u σ H1 Q
def DI (t : TT) : TT := fun σ H Q => t σ H fun c H1 => Q (!c) H1
theorem pw_and1 (ha : PT X a tA) : PW X (.BoolOp .And [a] pos) tA := by
  intro wh pins s σ H Q I h
  refine isTrue_and (thn (ha pins s σ H Q I h) fun c s1 e => ?_)
  cases c with
  | true => exact isTrue_and_nil e
  | false => exact e
theorem pw_or1 (ha : PT X a tA) : PW X (.BoolOp .Or [a] pos) tA := by
  intro wh pins s σ H Q I h
  refine isTrue_or (thn (ha pins s σ H Q I h) fun c s1 e => ?_)
  cases c with
  | false => exact isTrue_or_nil e
  | true => exact e
theorem pw_and (ha : PT X a tA) (hb : PW X (.BoolOp .And (b :: rest) pos) tB') : PW X (.BoolOp .And (a :: b :: rest) pos) (CY tA tB') := by
  intro wh pins s σ H Q I h
  refine isTrue_and (thn (ha pins s σ H _ I h) fun c s1 ⟨H1, I1, q1⟩ => ?_)
  cases c with
  | true => exact hb wh pins s1 σ H1 Q I1 q1
  | false => exact ⟨H1, I1, q1⟩
theorem pw_or (ha : PT X a tA) (hb : PW X (.BoolOp .Or (b :: rest) pos) tB') : PW X (.BoolOp .Or (a :: b :: rest) pos) (tOr tA tB') := by
  intro wh pins s σ H Q I h
  refine isTrue_or (thn (ha pins s σ H _ I h) fun c s1 ⟨H1, I1, q1⟩ => ?_)
  cases c with
  | true => exact ⟨H1, I1, q1⟩
  | false => exact hb wh pins s1 σ H1 Q I1 q1
theorem pq (ha : PT X a tA) : PT X (.UnaryOp .Not a pos) (DI tA) := by
  intro pins s σ H Q I h
  exact isTrue_not (ha pins s σ H (fun c H1 => Q (!c) H1) I h)
def AF (ta tb : TE) : TE := fun σ H Q => ta σ H fun x H1 => ∃ c, x = .bl c ∧ if c = true then tb σ H1 Q else Q (.bl false) H1
def AL (ta : TE) : TE := fun σ H Q => ta σ H fun x H1 => ∃ c, x = .bl c ∧ Q (.bl (!c)) H1
theorem sL {op} {t : TE} (h : PE X a t) : PE X (.BoolOp op [a] pos) t := fun pins s σ H Q I hw => BoolOp_one (h pins s σ H Q I hw)
theorem ni (ha : PE X a ta) (hb : PE X (.BoolOp .And (b :: rest) pos) tb) : PE X (.BoolOp .And (a :: b :: rest) pos) (AF ta tb) := by
  intro pins s σ H Q I h
  refine BoolOp_and (thn (ha pins s σ H _ I h) fun v s1 ⟨x, H1, I1, r1, q1⟩ => ?_)
  obtain ⟨c, rfl, q1⟩ := q1
  cases r1
  refine wpAny_truthy_bool ?_
  cases c with
  | true => exact hb pins s1 σ H1 Q I1 q1
  | false => exact ⟨.bl false, H1, I1, rfl, q1⟩
theorem tS (ha : PE X a ta) : PE X (.UnaryOp .Not a pos) (AL ta) := by
  intro pins s σ H Q I h
  refine UnaryOp_ (thn (ha pins s σ H _ I h) fun v s1 ⟨x, H1, I1, r1, q1⟩ => ?_)
  obtain ⟨c, rfl, q1⟩ := q1
  cases r1
  exact not_of (wpAny_truthy_bool ⟨.bl (!c), H1, I1, rfl, q1⟩)
end
end L2
namespace L2
open PySem PySem.Spec PyProof.Rows
def SqL (K : PySem.W.Frag) (H : Hp) (a : Addr) (xs : List V) : Prop :=
  Rd H a (.lst xs) ∨
    ∃ (o : Obj) (its : Array Value) (n : Nat), K.lookup a = some o ∧ o.cls = .type "list" ∧ o.dict = none ∧ o.data = .seq its n ∧ its.size ≤ sizeLine ∧ Vals xs its.toList
def SqT (K : PySem.W.Frag) (H : Hp) (a : Addr) (xs : List V) : Prop :=
  Rd H a (.tup xs) ∨
    ∃ (o : Obj) (its : Array Value) (n : Nat), K.lookup a = some o ∧ o.cls = .type "tuple" ∧ o.data = .seq its n ∧ its.size ≤ sizeLine ∧ Vals xs its.toList
def E8 : Value → Option V
  | .none => some .non
  | .bool b => some (.bl b)
  | .int i _ => some (.int i)
  | .str x _ => some (.str x)
  | .bytes b _ => some (.byt b)
  | .float b _ => some (.flt b)
  | .ref a => some (.ref a)
  | .type n => some (.ty n)
  | _ => none
theorem RelV.abs {x : V} {u : Value} (r : RelV x u) : E8 u = some x := by
  cases x with
  | non => cases r; rfl
  | bl _ => cases r; rfl
  | int _ => obtain ⟨t, rfl⟩ := r; rfl
  | str _ => obtain ⟨t, rfl⟩ := r; rfl
  | byt _ => obtain ⟨t, rfl⟩ := r; rfl
  | flt _ => obtain ⟨t, rfl⟩ := r; rfl
  | ref _ => cases r; rfl
  | ty _ => cases r; rfl
theorem RelV.inj {x y : V} {u : Value} (r : RelV x u) (q : RelV y u) : x = y := Option.some.inj (r.abs.symm.trans q.abs)
theorem Vals.inj : ∀ {xs ys : List V} {us : List Value}, Vals xs us → Vals ys us → xs = ys
  | _, _, _, .nil, .nil => rfl
  | _, _, _, .cons r t, .cons r' t' => by rw [r.inj r', Vals.inj t t']
section
variable {X : Cx} {pins : List (Addr × Obj)} {σ : St} {H : Hp} {s : Shared} {a : Addr} {xs ys : List V}
theorem SqL.of {K : PySem.W.Frag} (h : H a = some (.lst xs)) : SqL K H a xs := .inl (.inl h)
theorem SqT.of {K : PySem.W.Frag} (h : H a = some (.tup xs)) : SqT K H a xs := .inl (.inl h)
theorem Inv.list (I : Inv X pins σ H s) (h : SqL X.K H a xs) : ∃ its : List Value, Vals xs its ∧ PlainL s.heap a its.toArray ∧ xs.length ≤ sizeLine := by
  rcases h with h | ⟨o, its, n, hk, hc, hd, hs, hz, r⟩
  · obtain ⟨z, its, n, r, e⟩ := h.ok I.hok
    exact ⟨its, r, ⟨_, n, e, rfl, rfl, rfl⟩, z⟩
  · refine ⟨its.toList, r, ⟨o, n, I.kIn a o hk, hc, hd, by simpa using hs⟩, ?_⟩
    have e := r.length
    simp only [Array.length_toList] at e
    omega
theorem Inv.tuple (I : Inv X pins σ H s) (h : SqT X.K H a xs) : ∃ its : List Value, Vals xs its ∧ IsTup s.heap a its.toArray ∧ xs.length ≤ sizeLine := by
  rcases h with h | ⟨o, its, n, hk, hc, hs, hz, r⟩
  · obtain ⟨z, its, r, p⟩ := h.ok I.hok
    exact ⟨its, r, p, z⟩
  · refine ⟨its.toList, r, ⟨o, I.kIn a o hk, hc, n, by simpa using hs⟩, ?_⟩
    have e := r.length
    simp only [Array.length_toList] at e
    omega
theorem Inv.list_inj (I : Inv X pins σ H s) (h : SqL X.K H a xs) (h' : SqL X.K H a ys) : xs = ys := by
  obtain ⟨its, r, ⟨o, n, e, _, _, d⟩, _⟩ := I.list h
  obtain ⟨its', r', ⟨o', n', e', _, _, d'⟩, _⟩ := I.list h'
  rw [e] at e'; cases e'
  rw [d] at d'
  injection d' with d1 _
  have : its = its' := by simpa using congrArg Array.toList d1
  subst this
  exact r.inj r'
end
abbrev Cx.wish (X : Cx) (E : Value → Shared → Prop) : Cx := { X with xe := E }
abbrev Cx.nox (X : Cx) : Cx := X.wish fun _ _ => False
theorem Cx.Ok.wish {X : Cx} (ok : X.Ok) (E : Value → Shared → Prop) : (X.wish E).Ok :=
  ⟨ok.mod, ok.kind, ok.glob, ok.blt, ok.above, ok.inj, ok.has, ok.cab, ok.hd, ok.frames, ok.stk, ok.exf, ok.bs, ok.bsz, ok.noex, ok.exfs, ok.funs, ok.frf⟩
theorem Cx.Ok.unwish {X : Cx} {E : Value → Shared → Prop} (ok : (X.wish E).Ok) : X.Ok :=
  ⟨ok.mod, ok.kind, ok.glob, ok.blt, ok.above, ok.inj, ok.has, ok.cab, ok.hd, ok.frames, ok.stk, ok.exf, ok.bs, ok.bsz, ok.noex, ok.exfs, ok.funs, ok.frf⟩
section
variable {X : Cx} {pins : List (Addr × Obj)} {σ : St} {H : Hp} {s : Shared} {E : Value → Shared → Prop}
theorem Inv.wish (I : Inv X pins σ H s) (E : Value → Shared → Prop) : Inv (X.wish E) pins σ H s := ⟨I.ok.wish E, I.os, I.bare, I.base, I.loc, I.cell, I.free, I.freeC, I.pin, I.hok, I.len⟩
theorem Inv.unwish (I : Inv (X.wish E) pins σ H s) : Inv X pins σ H s := ⟨I.ok.unwish, I.os, I.bare, I.base, I.loc, I.cell, I.free, I.freeC, I.pin, I.hok, I.len⟩
theorem SP.unwish {D : Ends} {f : Flow} {s' : Shared} (h : SP (X.wish E) pins D f s') : SP X pins D f s' := by
  cases f with
  | next => obtain ⟨σ', H', I, q⟩ := h; exact ⟨σ', H', I.unwish, q⟩
  | brk => obtain ⟨σ', H', I, q⟩ := h; exact ⟨σ', H', I.unwish, q⟩
  | cont => obtain ⟨σ', H', I, q⟩ := h; exact ⟨σ', H', I.unwish, q⟩
  | ret u => obtain ⟨v, σ', H', I, r, q⟩ := h; exact ⟨v, σ', H', I.unwish, r, q⟩
theorem PE.nox {e : Expr} {t : TE} (h : PE X.nox e t) : PE X e t := fun pins s σ H Q I hw =>
  wpAny_mono (h pins s σ H Q (I.wish _) hw) (fun _ _ ⟨v, H', I', r, q⟩ => ⟨v, H', I'.unwish, r, q⟩) fun _ _ z => False.elim z
theorem PT.nox {e : Expr} {t : TT} (h : PT X.nox e t) : PT X e t := fun pins s σ H Q I hw =>
  wpAny_mono (h pins s σ H Q (I.wish _) hw) (fun _ _ ⟨H', I', q⟩ => ⟨H', I'.unwish, q⟩) fun _ _ z => False.elim z
theorem PSs.nox {st : List Stmt} {t : TS} (h : PSs X.nox st t) : PSs X st t := fun pins s σ H D I hw =>
  wpAny_mono (h pins s σ H D (I.wish _) hw) (fun _ _ q => q.unwish) fun _ _ z => False.elim z
end
section
variable {X : Cx} {st : Stmt} {rest : List Stmt} {t u : TS} {e : Expr} {te : TE} {pos : Pos}
def Ay : TS := fun D σ H => D.nx σ H
def DB (t u : TS) : TS := fun D σ H => t { D with nx := u D } σ H
theorem cu : PSs X [] Ay := fun _ _ σ H _ I h => wpAny_execs_nil ⟨σ, H, I, h⟩
theorem aF (h1 : PS X st t) (h2 : PSs X rest u) : PSs X (st :: rest) (DB t u) := by
  intro pins s σ H D I h
  refine wpAny_execs_cons (thn (h1 pins s σ H { D with nx := u D } I h) fun f s1 q => ?_)
  cases f with
  | next =>
    obtain ⟨σ', H', I', q⟩ := q
    exact h2 pins s1 σ' H' D I' q
  | ret v => exact q
  | brk => exact q
  | cont => exact q
theorem aJ (h1 : PS X st t) : PSs X [st] t := by
  intro pins s σ H D I h
  refine wpAny_execs_cons (thn (h1 pins s σ H D I h) fun f s1 q => ?_)
  cases f with
  | next => exact wpAny_execs_nil q
  | ret v => exact q
  | brk => exact q
  | cont => exact q
theorem Inv.quiet {pins : List (Addr × Obj)} {σ : St} {H : Hp} {s : Shared} (I : Inv X pins σ H s) : interactive X.env = false := by simp [interactive, I.ok.kind]
def AD (te : TE) : TS := fun D σ H => te σ H fun _ H1 => D.nx σ H1
theorem bQ (he : PE X e te) (hs : swapsWith e none pos.line X.env = pure false := by rfl) : PS X (.Expr e pos) (AD te) := by
  intro pins s σ H D I h
  exact wpAny_Expr_any (thn (he pins s σ H _ I h) fun v s1 ⟨x, H1, I1, r1, q1⟩ => ⟨σ, H1, I1, q1⟩) I.quiet hs
def DY (te : TE) : TS := fun D σ H => te σ H D.rt
theorem cK (he : PE X e te) : PS X (.Return (some e) pos) (DY te) := by
  intro pins s σ H D I h
  exact wpAny_Return_some (thn (he pins s σ H _ I h) fun v s1 ⟨x, H1, I1, r1, q1⟩ => ⟨x, σ, H1, I1, r1, q1⟩)
def CQ (c : TT) (t u : TS) : TS := fun D σ H => c σ H fun b H1 => if b = true then t D σ H1 else u D σ H1
theorem dN {c : Expr} {a b : List Stmt} {tc : TT} (hc : PT X c tc) (ha : PSs X a t) (hb : PSs X b u) : PS X (.If c a b pos) (CQ tc t u) := by
  intro pins s σ H D I h
  refine wpAny_If (thn (hc pins s σ H _ I h) fun d s1 ⟨H1, I1, q1⟩ => ?_)
  cases d with
  | true => exact ha pins s1 σ H1 D I1 q1
  | false => exact hb pins s1 σ H1 D I1 q1
def xI : TS := fun _ _ _ => False
theorem iE : PS X st xI := fun _ _ _ _ _ _ h => h.elim
end
abbrev TG := V → St → Hp → (St → Hp → Prop) → Prop
abbrev TGs := List V → St → Hp → (St → Hp → Prop) → Prop
def PG (X : Cx) (target : Expr) (t : TG) : Prop :=
  ∀ (pins : List (Addr × Obj)) (s : Shared) (σ : St) (H : Hp) (v : V) (u : Value) (Q : St → Hp → Prop), Inv X pins σ H s → RelV v u → t v σ H Q →
    wpAny (model X.prog X.w) X.A (assign target X.env u) (fun _ s' => ∃ σ' H', Inv X pins σ' H' s' ∧ Q σ' H') X.xe s
def PGs (X : Cx) (ts : List Expr) (t : TGs) : Prop :=
  ∀ (pins : List (Addr × Obj)) (s : Shared) (σ : St) (H : Hp) (vs : List V) (us : List Value) (Q : St → Hp → Prop), Inv X pins σ H s → Vals vs us → t vs σ H Q →
    wpAny (model X.prog X.w) X.A (assignInOrder ((assignEach ts X.env).map (·.2)) us) (fun _ s' => ∃ σ' H', Inv X pins σ' H' s' ∧ Q σ' H') X.xe s
section
variable {X : Cx} {pos : Pos}
def sE (i : Nat) : TG := fun v σ H Q => Q (σ.set i (some v)) H
theorem bB {i : Nat} {x : Str} (hN : X.N.Nodup) (hi : X.N[i]? = some x) (hx : Loc X.env.scope x) (hf : X.fn x = true ∨ X.env.scope.names.lookup x = some .local := by first | exact .inl rfl | exact .inr rfl | assumption) : PG X (.Name x pos) (sE i) := by
  intro pins s σ H v u Q I r h
  exact wpAny_assign_Name (lU I hN hi hx r (fun s' I' => ⟨_, H, I', h⟩) hf)
def Dz : TGs := fun vs σ H Q => vs = [] ∧ Q σ H
def AR (t : TG) (u : TGs) : TGs := fun vs σ H Q => ∃ v r, vs = v :: r ∧ t v σ H fun σ' H' => u r σ' H' Q
theorem i4 : PGs X [] Dz := by
  intro pins s σ H vs us Q I r h
  obtain ⟨e, h⟩ := h
  subst e
  cases r
  exact assignInOrder_nil ⟨σ, H, I, h⟩
theorem cE {e : Expr} {es : List Expr} {t : TG} {u : TGs} (h1 : PG X e t) (h2 : PGs X es u)
    (hs : (assignEach (e :: es) X.env).map (·.2) = assign e X.env :: (assignEach es X.env).map (·.2) := by rfl) : PGs X (e :: es) (AR t u) := by
  intro pins s σ H vs us Q I r h
  obtain ⟨v, vr, e1, h⟩ := h
  subst e1
  cases r with
  | cons r rr =>
    rw [hs]
    refine assignInOrder_cons (thn (h1 pins s σ H _ _ _ I r h) fun _ s1 ⟨σ1, H1, I1, q1⟩ => ?_)
    exact h2 pins s1 σ1 H1 _ _ Q I1 rr q1
def CS (K : PySem.W.Frag) (n : Nat) (t : TGs) : TG := fun v σ H Q => ∃ a xs, v = .ref a ∧ SqT K H a xs ∧ xs.length = n ∧ t xs σ H Q
theorem km {es : List Expr} {k : Nat} {t : TGs} {n : Nat} (hc : X.calm = true) (h : PGs X es t)
    (hn : (assignEach es X.env).length = n := by rfl) (hst : (assignEach es X.env).findIdx? (·.1) = none := by rfl) : PG X (.Tuple es k pos) (CS X.K n t) := by
  intro pins s σ H v u Q I r hw
  obtain ⟨a, xs, e1, hq, hl, hw⟩ := hw
  subst e1
  cases r
  obtain ⟨its, rv, ht, hz⟩ := I.tuple hq
  refine assign_Tuple_tuple (I.ok.hd hc) ht (by simp [hn, ← hl, rv.length]) hst fun h' hx => ?_
  have I1 : Inv X pins σ H { s with heap := h' } := I.kept (t' := s.toks) fun b o e => hx b o (Nat.ne_of_lt (Heap.lt_size e)) e
  exact h pins _ σ H xs _ Q I1 (by simpa using rv) hw
def yX (te : TE) (g : TG) : TS := fun D σ H => te σ H fun x H1 => g x σ H1 D.nx
theorem bC {i : Nat} {x : Str} {e : Expr} {te : TE} {pos' : Pos} (hN : X.N.Nodup) (hi : X.N[i]? = some x) (hx : Loc X.env.scope x) (he : PE X e te) (hs : swapsWith e (some (.Name x pos')) pos.line X.env = pure false := by rfl) (hf : X.fn x = true ∨ X.env.scope.names.lookup x = some .local := by first | exact .inl rfl | exact .inr rfl | assumption) :
    PS X (.Assign [.Name x pos'] e pos) (yX te (sE i)) := by
  intro pins s σ H D I h
  refine wpAny_Assign_Name (thn (he pins s σ H _ I h) fun v s1 ⟨y, H1, I1, r1, q1⟩ => ?_) hs
  exact lU I1 hN hi hx r1 (fun s2 I2 => ⟨_, H1, I2, q1⟩) hf
end
section
variable {X : Cx} {pos : Pos}
end
structure It where
  go : Nat → Hp → Prop
  yld : Nat → Hp → V → Hp → Prop
  stop : Nat → Hp → Prop
def i7 (X : Cx) (pins : List (Addr × Obj)) (H : Hp) (b : Addr) : Prop :=
  H b = none ∧ b ≠ X.env.locals ∧ b ∉ X.fs ∧ (b ∈ X.ex ∨ X.s₀.heap.objs.size ≤ b) ∧ (∀ x c, X.env.cells.lookup x = some c → c ≠ b) ∧ ∀ p ∈ X.pn ++ pins, p.1 ≠ b
theorem Inv.fpOk {X : Cx} {pins : List (Addr × Obj)} {σ : St} {H H' : Hp} {s : Shared} {b : Addr} (I : Inv X pins σ H s) (hb : s.heap.objs.size ≤ b) (hn : H' b = none) : i7 X pins H' b := by
  refine ⟨hn, Nat.ne_of_gt (Nat.lt_of_lt_of_le I.lt hb), I.nofs hb, .inr (Nat.le_trans I.sz hb), fun x c e z => ?_, fun p hp z => ?_⟩
  · obtain ⟨v, q⟩ := I.cell x c e
    exact absurd (Nat.lt_of_lt_of_le q.lt (by rw [z]; exact hb)) (Nat.lt_irrefl _)
  · exact absurd (Nat.lt_of_lt_of_le (Heap.lt_size (I.pin p hp).1) (by rw [z]; exact hb)) (Nat.lt_irrefl _)
structure Turn (P : Program) (w : World) (K : PySem.W.Frag) (tg : Expr) (J : It) (fp : List Addr) (it : Addr) (tn : Nat → Heap → Prop) : Prop where
  mem : it ∈ fp
  obj : ∀ i h, tn i h → ∀ b ∈ fp, ∃ o, h.get? b = some o ∧ ∀ v, o.data ≠ .cell v
  keep : ∀ i h h', tn i h → (∀ b ∈ fp, ∀ o, h.get? b = some o → h'.get? b = some o) → tn i h'
  item : ∀ (X : Cx), X.prog = P → X.w = w → X.K = K → X.calm = true → ∀ (i : Nat) (pins : List (Addr × Obj)) (s : Shared) (σ : St) (H : Hp) (E : Value → Shared → Prop), Inv X pins σ H s → (∀ b ∈ fp, i7 X pins H b) → tn i s.heap → J.go i H →
    wpAny (model P w) X.A (pyNext (.ref it)) (fun r s1 => ∃ u, r = some u ∧
      wpAny (model P w) X.A (letOwnedTupleGo tg (.ref it) u) (fun _ s2 => ∃ x H', Inv X pins σ H' s2 ∧ RelV x u ∧ J.yld i H x H' ∧ tn (i + 1) s2.heap ∧ ∀ b ∈ fp, H' b = none) E s1) E s
  done : ∀ (X : Cx), X.prog = P → X.w = w → X.K = K → X.calm = true → ∀ (i : Nat) (pins : List (Addr × Obj)) (s : Shared) (σ : St) (H : Hp) (E : Value → Shared → Prop), Inv X pins σ H s → (∀ b ∈ fp, i7 X pins H b) → tn i s.heap → J.stop i H →
    wpAny (model P w) X.A (pyNext (.ref it)) (fun r s1 => r = none ∧ Inv X pins σ H s1) E s
  self : ∀ (A : Around) (i : Nat) (s : Shared) (Q : Value → Shared → Prop) (E : Value → Shared → Prop), tn i s.heap → Q (.ref it) s → wpAny (model P w) A (pyIter (.ref it)) Q E s
abbrev TI := St → Hp → (It → Hp → Prop) → Prop
def PIE (X : Cx) (pins : List (Addr × Obj)) (σ : St) (tg : Expr) (R : It → Hp → Prop) (itv : Value) (s2 : Shared) : Prop :=
  ∃ (it : Addr) (fp : List Addr) (tn : Nat → Heap → Prop) (J : It) (H' : Hp), itv = .ref it ∧ Inv X pins σ H' s2 ∧ Turn X.prog X.w X.K tg J fp it tn ∧ tn 0 s2.heap ∧ (∀ b ∈ fp, i7 X pins H' b) ∧ R J H'
def PI (X : Cx) (tg iter : Expr) (wi : TI) : Prop :=
  ∀ (pins : List (Addr × Obj)) (s : Shared) (σ : St) (H : Hp) (R : It → Hp → Prop), Inv X pins σ H s → wi σ H R →
    wpAny (model X.prog X.w) X.A (eval iter X.env) (fun v s1 => wpAny (model X.prog X.w) X.A (pyIter v) (PIE X pins σ tg R) X.xe s1) X.xe s
theorem w9 {M : Model} {A : Around} {E : Value → Shared → Prop} {s : Shared} {tg : Expr} {it : Addr} {u : Value} {o : Obj} {n : String} {vs : Array Value} {Q : Unit → Shared → Prop} (ho : s.heap.get? it = some o) (hc : o.cls = .type n) (hd : o.data = .fields vs)
    (hn : ["enumerate", "zip", "dict_itemiterator", "dict_reverseitemiterator", "odict_iterator", "itertools.zip_longest", "itertools.pairwise"].contains n = false) (hQ : Q () s) : wpAny M A (letOwnedTupleGo tg (.ref it) u) Q E s := by
  unfold letOwnedTupleGo
  cases tg <;> first
    | exact wpAny_pure hQ
    | (cases u <;> first
        | exact wpAny_pure hQ
        | (refine wpAny_bind (wpAny_load ho ?_)
           rw [hc, hd]
           show wpAny M A (if (["enumerate", "zip", "dict_itemiterator", "dict_reverseitemiterator", "odict_iterator", "itertools.zip_longest", "itertools.pairwise"].contains n && vs[0]? == some (rawInt _)) = true then _ else _) Q E s
           rw [if_neg (by intro h; rw [hn, Bool.false_and] at h; cases h)]
           exact wpAny_pure hQ))
def Itl (K : PySem.W.Frag) (a : Addr) : It :=
  ⟨fun i H => ∃ xs x, SqL K H a xs ∧ xs[i]? = some x, fun i H x H' => H' = H ∧ ∀ xs, SqL K H a xs → xs[i]? = some x, fun i H => ∃ xs, SqL K H a xs ∧ xs.length ≤ i⟩
def Itr (lo : Int) (n : Nat) : It := ⟨fun i _ => i < n, fun i H x H' => H' = H ∧ x = .int (lo + i), fun i _ => n ≤ i⟩
theorem yI {P : Program} {w : World} {K : PySem.W.Frag} {tg : Expr} (a it : Addr) : Turn P w K tg (Itl K a) [it] it (fun i h => h.IsListIter it a i) where
  mem := by simp
  obj := fun i h st b hb => by
    have e : b = it := by simpa using hb
    subst e
    obtain ⟨o, e, c, d⟩ := st
    exact ⟨o, e, fun v z => by rw [d] at z; cases z⟩
  keep := fun i h h' st k => st.at fun o e => k it (by simp) o e
  item := by
    intro X hP hw hK hc i pins s σ H E I hf st hg
    subst hP hw hK
    obtain ⟨xs, x, hq, hx⟩ := hg
    obtain ⟨its, rv, p, hz⟩ := I.list hq
    obtain ⟨u, hu, ru⟩ := rv.get hx
    obtain ⟨f0, f1, f2, f3, f4, f5⟩ := hf it (by simp)
    refine wpAny_pyNext_list_item st p.isList (x := u) (by simpa using hu) fun h' st' sb => ?_
    have I1 : Inv X pins σ H { s with heap := h' } := I.turned (t' := s.toks) (fun b o hb e => (sb.2 b hb).trans e) f0 f1 f3 f4 f5
    obtain ⟨o, e, c, d⟩ := id st'
    exact ⟨u, rfl, w9 (s := { s with heap := h' }) e c d (by decide) ⟨x, H, I1, ru, ⟨rfl, fun ys hy => by rw [I.list_inj hy hq]; exact hx⟩, st', fun b hb => (hf b hb).1⟩⟩
  done := by
    intro X hP hw hK hc i pins s σ H E I hf st hg
    subst hP hw hK
    obtain ⟨xs, hq, hx⟩ := hg
    obtain ⟨its, rv, p, hz⟩ := I.list hq
    obtain ⟨f0, f1, f2, f3, f4, f5⟩ := hf it (by simp)
    have hl := rv.length
    exact wpAny_pyNext_list_end (I.ok.hd hc) st p.isList (by simp; omega) fun h' eb => ⟨rfl, I.turned (t' := s.toks) (fun b o hb e => eb b o hb e) f0 f1 f3 f4 f5⟩
  self := fun _ _ _ _ _ st h => wpAny_pyIter_listiter st h
theorem v5 {P : Program} {w : World} {K : PySem.W.Frag} {tg : Expr} (it : Addr) (lo : Int) (n : Nat) : Turn P w K tg (Itr lo n) [it] it (fun i h => IsRangeIter h it (lo + (i : Nat) * 1) ((n : Int) - (i : Nat)) 1) where
  mem := by simp
  obj := fun i h st b hb => by
    have e : b = it := by simpa using hb
    subst e
    exact ⟨_, st, fun v z => by
      have z' : Data.fields _ = Data.cell v := z
      cases z'⟩
  keep := fun i h h' st k => k it (by simp) _ st
  item := by
    intro X hP hw hK hc i pins s σ H E I hf st hg
    subst hP hw hK
    obtain ⟨f0, f1, f2, f3, f4, f5⟩ := hf it (by simp)
    have W := Walks.range (prog := X.prog) (w := X.w) (I.ok.hd hc) it lo 1 n
    refine W.item i s _ _ hg st fun v h' tk hv st' kk => ?_
    obtain ⟨t, rfl⟩ := hv
    have I1 : Inv X pins σ H { s with heap := h', toks := tk } := I.turned (fun b o hb e => kk b o (by simpa using hb) e) f0 f1 f3 f4 f5
    refine ⟨_, rfl, w9 (s := { s with heap := h', toks := tk }) (n := "range_iterator") st' rfl rfl (by decide) ⟨.int (lo + i), H, I1, ⟨t, ?_⟩, ⟨rfl, rfl⟩, st', fun b hb => (hf b hb).1⟩⟩
    rw [Int.mul_one]
  done := by
    intro X hP hw hK hc i pins s σ H E I hf st hg
    subst hP hw hK
    obtain ⟨f0, f1, f2, f3, f4, f5⟩ := hf it (by simp)
    exact wpAny_pyNext_range_end (I.ok.hd hc) st (by have : n ≤ i := hg; omega) fun h' eb => ⟨rfl, I.turned (t' := s.toks) (fun b o hb e => eb b o hb e) f0 f1 f3 f4 f5⟩
  self := fun _ _ _ _ _ st h => wpAny_pyIter_rangeiter st h
end L2
namespace L2
open PySem PySem.Spec PyProof.Rows
section
variable {X : Cx} {tg : Expr}
def AO (K : PySem.W.Frag) (tl : TE) : TI := fun σ H R => tl σ H fun x H1 => ∃ a, x = .ref a ∧ (∃ xs, SqL K H1 a xs) ∧ R (Itl K a) H1
theorem eM {l : Expr} {tl : TE} (hl : PE X l tl) : PI X tg l (AO X.K tl) := by
  intro pins s σ H R I h
  refine thn (hl pins s σ H _ I h) fun v s1 ⟨x, H1, I1, r1, q1⟩ => ?_
  obtain ⟨a, e, ⟨xs, hq⟩, q⟩ := q1
  subst e
  cases r1
  obtain ⟨its, rv, p, hz⟩ := I1.list hq
  refine wpAny_pyIter_list p.isList ?_
  refine ⟨s1.heap.objs.size, [s1.heap.objs.size], _, _, H1, rfl, I1.kept (t' := s1.toks) fun b o e => Heap.get?_push_of_some _ e, yI a _, ⟨_, Heap.get?_push_size _ rfl, rfl, rfl⟩, fun b hb => ?_, q⟩
  have e : b = s1.heap.objs.size := by simpa using hb
  subst e
  exact I1.fpOk (Nat.le_refl _) (I1.hok.fresh (Nat.le_refl _))
theorem zj {pins : List (Addr × Obj)} {σ : St} {H : Hp} {s : Shared} {R : It → Hp → Prop} {E : Value → Shared → Prop} {lo hi : Int} {t u v : Tok} {tk : Nat} (I : Inv X pins σ H s) (h1 : -(2 ^ 62) ≤ lo) (h2 : lo < 2 ^ 62) (h3 : -(2 ^ 62) ≤ hi) (h4 : hi < 2 ^ 62)
    (q : R (Itr lo (hi - lo).toNat) H) : wpAny (model X.prog X.w) X.A (pyIter (.ref s.heap.objs.size)) (PIE X pins σ tg R) E { s with heap := s.heap.push { cls := .type "range", data := .fields #[.int lo t, .int hi u, .int 1 v] }, toks := tk } := by
  refine wpAny_pyIter_range (IsRange.new ..) (small_one h1 h2 h3 h4) ?_
  have I1 : Inv X pins σ H { s with heap := s.heap.push { cls := .type "range", data := .fields #[.int lo t, .int hi u, .int 1 v] }, toks := tk } := I.kept fun b o e => Heap.get?_push_of_some _ e
  refine ⟨(s.heap.push { cls := .type "range", data := .fields #[.int lo t, .int hi u, .int 1 v] }).objs.size, [(s.heap.push { cls := .type "range", data := .fields #[.int lo t, .int hi u, .int 1 v] }).objs.size], _, _, H, rfl,
    I1.kept (t' := tk) fun b o e => Heap.get?_push_of_some _ e, v5 _ lo (hi - lo).toNat, ?_, fun b hb => ?_, q⟩
  · have e1 : lo + ((0 : Nat) : Int) * 1 = lo := by simp
    have e2 : (((hi - lo).toNat : Nat) : Int) - ((0 : Nat) : Int) = Builtin.Range.rangeSize lo hi 1 := by rw [rangeSize_one]; split <;> omega
    show IsRangeIter _ _ (lo + ((0 : Nat) : Int) * 1) ((((hi - lo).toNat : Nat) : Int) - ((0 : Nat) : Int)) 1
    rw [e1, e2]
    exact Heap.get?_push_size _ rfl
  · have e : b = (s.heap.push { cls := .type "range", data := .fields #[.int lo t, .int hi u, .int 1 v] }).objs.size := by simpa using hb
    subst e
    exact I1.fpOk (Nat.le_refl _) (I1.hok.fresh (Nat.le_refl _))
def AK (ta : TA) : TI := fun σ H R => ta σ H fun vs H1 => ∃ j : Int, vs = [.int j] ∧ -(2 ^ 62) ≤ j ∧ j < 2 ^ 62 ∧ R (Itr 0 j.toNat) H1
theorem nC {a : Expr} {ta : TA} {p pos : Pos} (hg : Gl X "range") (hm : X.mg "range" = none) (ha : PA X [a] ta) (hs : starEach [a] X.env = [(false, eval a X.env)] := by rfl) : PI X tg (.Call (.Name "range" p) [a] [] pos) (AK ta) := by
  intro pins s σ H R I h
  refine Call_ (kX I hg hm boot_range (PyProof.Rows.callWith_type1 (thn (ha pos pins s σ H _ I h) fun us s1 ⟨vs, H1, I1, r1, q1⟩ => ?_) hs rfl))
  obtain ⟨j, e, q1, q2, q⟩ := q1
  subst e
  cases r1 with
  | cons r rr =>
    cases rr
    obtain ⟨t, rfl⟩ := r
    exact call_range_1 (zj I1 (by omega) (by omega) q1 q2 (by simpa using q))
def D0 (wi : TI) (g : TG) (tb : TS) : TS := fun D σ H => wi σ H fun J H1 => ∃ W : Nat → Nat → St → Hp → Prop, (∃ m, W 0 m σ H1) ∧ ∀ i m σ H, W i m σ H →
  (J.stop i H ∧ D.nx σ H) ∨ (J.go i H ∧ ∃ N : St → Hp → Prop, (∀ σ' H', N σ' H' → ∃ m', m' < m ∧ W (i + 1) m' σ' H') ∧ ∀ x H', J.yld i H x H' → g x σ H' fun σ2 H2 => tb { D with nx := N, ct := N, bk := D.nx } σ2 H2)
def nJ (fp : List Addr) (h : Heap) : List (Addr × Obj) := fp.filterMap fun b => (h.get? b).map fun o => (b, o)
theorem jJ {fp : List Addr} {h : Heap} {b : Addr} {o : Obj} (hb : b ∈ fp) (e : h.get? b = some o) : (b, o) ∈ nJ fp h := List.mem_filterMap.mpr ⟨b, hb, by rw [e]; rfl⟩
theorem yJ {fp : List Addr} {h : Heap} {p : Addr × Obj} (hp : p ∈ nJ fp h) : p.1 ∈ fp ∧ h.get? p.1 = some p.2 := by
  obtain ⟨b, hb, e⟩ := List.mem_filterMap.mp hp
  cases q : h.get? b with
  | none => rw [q] at e; cases e
  | some o =>
    rw [q] at e
    have e' : (b, o) = p := Option.some.inj e
    subst e'
    exact ⟨hb, q⟩
theorem Inv.pinned {pins : List (Addr × Obj)} {σ : St} {H : Hp} {s : Shared} {fp : List Addr} (I : Inv X pins σ H s) (hf : ∀ b ∈ fp, i7 X pins H b) (ho : ∀ b ∈ fp, ∃ o, s.heap.get? b = some o ∧ ∀ v, o.data ≠ .cell v) : Inv X (pins ++ nJ fp s.heap) σ H s :=
  I.pins_of fun p hp => (List.mem_append.mp hp).elim (fun z => I.pin p (List.mem_append_right _ z)) fun z => by
    obtain ⟨hb, e⟩ := yJ z
    obtain ⟨f0, f1, f2, _⟩ := hf p.1 hb
    obtain ⟨o, e', d⟩ := ho p.1 hb
    rw [e] at e'; cases e'
    exact ⟨e, f0, f1, f2, d⟩
theorem Inv.unpinned {pins pl : List (Addr × Obj)} {σ : St} {H : Hp} {s : Shared} (I : Inv X (pins ++ pl) σ H s) : Inv X pins σ H s := I.pins_of fun p hp => I.pin p (List.mem_append_right _ (List.mem_append_left _ hp))
theorem ju {iter : Expr} {body : List Stmt} {wi : TI} {g : TG} {tb : TS} {pos : Pos} (hp : PassesOwn (model X.prog X.w) X.A X.env X.xe) (hc : X.calm = true) (hi : PI X tg iter wi) (hg : PG X tg g) (hb : PSs X body tb)
    (hs : ∀ x, foldedSetIterable iter X.env x = pure x := by intro _; rfl) : PS X (.For tg iter body [] pos) (D0 wi g tb) := by
  intro pins s σ H D I h
  refine wpAny_For (thn (hi pins s σ H _ I h) fun v s1 h1 => thn h1 fun itv s2 h2 => ?_) hs
  obtain ⟨it, fp, tn, J, H2, e, I2, T, st2, f2, W, ⟨m0, w0⟩, turn⟩ := h2
  subst e
  have stat : ∀ {H' : Hp}, (∀ b ∈ fp, H' b = none) → ∀ b ∈ fp, i7 X pins H' b := fun hn b hb => ⟨hn b hb, (f2 b hb).2⟩
  refine codeAny_forLoop_any (fun n s' => ∃ i σ' H', Inv X pins σ' H' s' ∧ tn i s'.heap ∧ (∀ b ∈ fp, H' b = none) ∧ W i n σ' H') ?_ m0 ⟨0, σ, H2, I2, st2, fun b hb => (f2 b hb).1, w0⟩
  rintro n s3 ⟨i, σ3, H3, I3, st3, fr3, w3⟩
  rcases turn i n σ3 H3 w3 with ⟨stop, qn⟩ | ⟨go, N, hN, step⟩
  · refine wpAny_passesOwn hp (thn (T.done X rfl rfl rfl hc i pins s3 σ3 H3 X.xe I3 (stat fr3) st3 stop) fun r s4 ⟨hr, I4⟩ => ?_)
    subst hr
    exact wpAny_execs_nil ⟨σ3, H3, I4, qn⟩
  · refine wpAny_passesOwn hp (thn (T.item X rfl rfl rfl hc i pins s3 σ3 H3 X.xe I3 (stat fr3) st3 go) fun r s4 ⟨u, hr, h4⟩ => ?_)
    subst hr
    refine wpAny_passesOwn hp (thn h4 fun _ s5 ⟨x, H5, I5, r5, y5, st5, fr5⟩ => ?_)
    have I5' := I5.pinned (stat fr5) (T.obj _ _ st5)
    refine wpAny_passesOwn hp (thn (hg _ s5 σ3 H5 x u _ I5' r5 (step x H5 y5)) fun _ s6 ⟨σ6, H6, I6, q6⟩ => ?_)
    refine wpAny_passesOwn hp (thn (hb _ s6 σ6 H6 _ I6 q6) fun f s7 q7 => ?_)
    have again : ∀ {σ7 : St} {H7 : Hp}, Inv X (pins ++ nJ fp s5.heap) σ7 H7 s7 → N σ7 H7 → ∃ m, m < n ∧ ∃ i σ' H', Inv X pins σ' H' s7 ∧ tn i s7.heap ∧ (∀ b ∈ fp, H' b = none) ∧ W i m σ' H' := fun {σ7 H7} I7 n7 => by
      obtain ⟨m', hm, w7⟩ := hN σ7 H7 n7
      refine ⟨m', hm, i + 1, σ7, H7, I7.unpinned, T.keep _ _ _ st5 fun b hb o e => (I7.pin (b, o) (List.mem_append_right _ (List.mem_append_right _ (jJ hb e)))).1, fun b hb => ?_, w7⟩
      obtain ⟨o, e, d⟩ := T.obj _ _ st5 b hb
      exact (I7.pin (b, o) (List.mem_append_right _ (List.mem_append_right _ (jJ hb e)))).2.1
    cases f with
    | next => obtain ⟨σ7, H7, I7, n7⟩ := q7; exact again I7 n7
    | cont => obtain ⟨σ7, H7, I7, n7⟩ := q7; exact again I7 n7
    | brk => obtain ⟨σ7, H7, I7, q7⟩ := q7; exact ⟨σ7, H7, I7.unpinned, q7⟩
    | ret v => obtain ⟨x7, σ7, H7, I7, r7, q7⟩ := q7; exact ⟨x7, σ7, H7, I7.unpinned, r7, q7⟩
end
end L2
namespace L2
open PySem PySem.Spec PyProof.Rows
abbrev R2 := V → V → Hp → VK → Prop
def OpR (X : Cx) (f : Value → Value → Sem Value) (r : R2) : Prop :=
  ∀ (pins : List (Addr × Obj)) (s : Shared) (σ : St) (H : Hp) (x y : V) (v u : Value) (Q : VK), Inv X pins σ H s → RelV x v → RelV y u → r x y H Q →
    wpAny (model X.prog X.w) X.A (f v u) (EP X pins σ Q) X.xe s
def UnR (X : Cx) (f : Value → Sem Value) (r : V → Hp → VK → Prop) : Prop :=
  ∀ (pins : List (Addr × Obj)) (s : Shared) (σ : St) (H : Hp) (x : V) (v : Value) (Q : VK), Inv X pins σ H s → RelV x v → r x H Q →
    wpAny (model X.prog X.w) X.A (f v) (EP X pins σ Q) X.xe s
def gG (X : Cx) (f : Value) (r : List V → Hp → VK → Prop) : Prop :=
  ∀ (pins : List (Addr × Obj)) (s : Shared) (σ : St) (H : Hp) (xs : List V) (us : List Value) (Q : VK), Inv X pins σ H s → Vals xs us → r xs H Q →
    wpAny (model X.prog X.w) X.A (call f us) (EP X pins σ Q) X.xe s
def Fq (X : Cx) (r : V → Hp → (Bool → Hp → Prop) → Prop) : Prop :=
  ∀ (pins : List (Addr × Obj)) (s : Shared) (σ : St) (H : Hp) (x : V) (v : Value) (Q : Bool → Hp → Prop), Inv X pins σ H s → RelV x v → r x H Q →
    wpAny (model X.prog X.w) X.A (truthy v) (TP X pins σ Q) X.xe s
def tOp (r : R2) (ta tb : TE) : TE := fun σ H Q => ta σ H fun x H1 => tb σ H1 fun y H2 => r x y H2 Q
def tUn (r : V → Hp → VK → Prop) (ta : TE) : TE := fun σ H Q => ta σ H fun x H1 => r x H1 Q
def rI (C : Int → Int → Prop) (g : Int → Int → V) : R2 := fun x y H Q => ∃ i j, x = .int i ∧ y = .int j ∧ C i j ∧ Q (g i j) H
def rI0 (g : Int → Int → V) : R2 := fun x y H Q => ∃ i j, x = .int i ∧ y = .int j ∧ Q (g i j) H
def rU (g : Int → V) : V → Hp → VK → Prop := fun x H Q => ∃ i, x = .int i ∧ Q (g i) H
section
variable {X : Cx} {a b c : Expr} {ta tb tc : TE} {pos : Pos}
theorem yZ (ha : PE X a ta) (hb : PE X b tb) {pins : List (Addr × Obj)} {s : Shared} {σ : St} {H : Hp} {R : V → V → Hp → Prop} (I : Inv X pins σ H s)
    (h : ta σ H fun x H1 => tb σ H1 fun y H2 => R x y H2) {Q : Value → Shared → Prop} {f : Value → Value → Sem Value}
    (hf : ∀ v u s2 x y H2, Inv X pins σ H2 s2 → RelV x v → RelV y u → R x y H2 → wpAny (model X.prog X.w) X.A (f v u) Q X.xe s2) :
    wpAny (model X.prog X.w) X.A (eval a X.env) (fun v s₁ => wpAny (model X.prog X.w) X.A (eval b X.env) (fun u s₂ => wpAny (model X.prog X.w) X.A (f v u) Q X.xe s₂) X.xe s₁) X.xe s := by
  refine thn (ha pins s σ H _ I h) fun v s1 ⟨x, H1, I1, r1, q1⟩ => ?_
  refine thn (hb pins s1 σ H1 _ I1 q1) fun u s2 ⟨y, H2, I2, r2, q2⟩ => ?_
  exact hf v u s2 x y H2 I2 r1 r2 q2
theorem aH {op : Operator} {r : R2} (ho : OpR X (binaryOp op) r) (ha : PE X a ta) (hb : PE X b tb) : PE X (.BinOp a op b pos) (tOp r ta tb) := by
  intro pins s σ H Q I h
  exact wpAny_BinOp (yZ ha hb I h fun v u s2 x y H2 I2 rx ry q => ho pins s2 σ H2 x y v u Q I2 rx ry q)
theorem wb {op : UnaryOp} {r : V → Hp → VK → Prop} (ho : UnR X (unaryOp op) r) (ha : PE X a ta) : PE X (.UnaryOp op a pos) (tUn r ta) := by
  intro pins s σ H Q I h
  exact UnaryOp_ (thn (ha pins s σ H _ I h) fun v s1 ⟨x, H1, I1, r1, q1⟩ => ho pins s1 σ H1 x v Q I1 r1 q1)
theorem opI {f : Value → Value → Sem Value} {C : Int → Int → Prop} {g : Int → Int → Int}
    (rule : ∀ (i j : Int) (t u : Tok) (s : Shared) (Q : Value → Shared → Prop) (E : Value → Shared → Prop), C i j → Q (.int (g i j) s.toks) { s with toks := s.toks + 1 } → wpAny (model X.prog X.w) X.A (f (.int i t) (.int j u)) Q E s) :
    OpR X f (rI C fun i j => .int (g i j)) := by
  intro pins s σ H x y v u Q I rx ry h
  obtain ⟨i, j, rfl, rfl, hc, q⟩ := h
  obtain ⟨t, rfl⟩ := rx
  obtain ⟨t', rfl⟩ := ry
  exact rule i j t t' s _ _ hc ⟨.int (g i j), H, I.tok _, ⟨_, rfl⟩, q⟩
theorem Dh {f : Value → Value → Sem Value} {g : Int → Int → Int}
    (rule : ∀ (i j : Int) (t u : Tok) (s : Shared) (Q : Value → Shared → Prop) (E : Value → Shared → Prop), Q (.int (g i j) s.toks) { s with toks := s.toks + 1 } → wpAny (model X.prog X.w) X.A (f (.int i t) (.int j u)) Q E s) :
    OpR X f (rI0 fun i j => .int (g i j)) := by
  intro pins s σ H x y v u Q I rx ry h
  obtain ⟨i, j, rfl, rfl, q⟩ := h
  obtain ⟨t, rfl⟩ := rx
  obtain ⟨t', rfl⟩ := ry
  exact rule i j t t' s _ _ ⟨.int (g i j), H, I.tok _, ⟨_, rfl⟩, q⟩
theorem zG {f : Value → Value → Sem Value} {g : Int → Int → Bool}
    (rule : ∀ (i j : Int) (t u : Tok) (s : Shared) (Q : Value → Shared → Prop) (E : Value → Shared → Prop), Q (.bool (g i j)) s → wpAny (model X.prog X.w) X.A (f (.int i t) (.int j u)) Q E s) :
    OpR X f (rI0 fun i j => .bl (g i j)) := by
  intro pins s σ H x y v u Q I rx ry h
  obtain ⟨i, j, rfl, rfl, q⟩ := h
  obtain ⟨t, rfl⟩ := rx
  obtain ⟨t', rfl⟩ := ry
  exact rule i j t t' s _ _ ⟨.bl (g i j), H, I, rfl, q⟩
def za (i j : Int) : Prop := 0 ≤ j ∧ j ≤ 1000000 ∧ i.natAbs < 2 ^ 64
def Dl (i j : Int) : Prop := (-(2 ^ 64) < i ∧ i < 2 ^ 64) ∨ (-(2 ^ 64) < j ∧ j < 2 ^ 64)
theorem Dl.ok {i j : Int} (h : Dl i j) : IntMulOk i j := by
  rcases h with ⟨h1, h2⟩ | ⟨h1, h2⟩
  · exact .of_left (intBits_le_64 h1 h2)
  · exact .of_right (intBits_le_64 h1 h2)
theorem Dw : OpR X (binaryOp .Add) (rI0 fun i j => .int (i + j)) := Dh fun _ _ _ _ _ _ _ q => add_int q
theorem t9 : OpR X (binaryOp .Sub) (rI0 fun i j => .int (i - j)) := Dh fun _ _ _ _ _ _ _ q => sub_int q
theorem bz : OpR X (binaryOp .Mod) (rI (fun _ j => j ≠ 0) fun i j => .int (i.fmod j)) := opI fun _ _ _ _ _ _ _ hc q => mod_int' hc q
theorem ny : OpR X (binaryOp .Pow) (rI za fun i j => .int (i ^ j.toNat)) := opI fun _ _ _ _ _ _ _ hc q => pow_int_small hc.1 hc.2.1 hc.2.2 q
theorem unI {f : Value → Sem Value} {g : Int → Int}
    (rule : ∀ (i : Int) (t : Tok) (s : Shared) (Q : Value → Shared → Prop) (E : Value → Shared → Prop), Q (.int (g i) s.toks) { s with toks := s.toks + 1 } → wpAny (model X.prog X.w) X.A (f (.int i t)) Q E s) :
    UnR X f (rU fun i => .int (g i)) := by
  intro pins s σ H x v Q I rx h
  obtain ⟨i, rfl, q⟩ := h
  obtain ⟨t, rfl⟩ := rx
  exact rule i t s _ _ ⟨.int (g i), H, I.tok _, ⟨_, rfl⟩, q⟩
theorem ug : UnR X (unaryOp .USub) (rU fun i => .int (-i)) := unI fun _ _ _ _ _ q => neg_int q
end
def C8 : V → V → Bool
  | .non, .non => true | .non, .int _ => true | .int _, .non => true | .non, .bl _ => true | .bl _, .non => true | .non, .str _ => true | .str _, .non => true
  | .int _, .int _ => true | .bl _, .bl _ => true | .str _, .str _ => true | .byt _, .byt _ => true
  | .int _, .str _ => true | .str _, .int _ => true | .bl _, .str _ => true | .str _, .bl _ => true
  | _, _ => false
def rEq : R2 := fun x y H Q => C8 x y = true ∧ Q (.bl (decide (x = y))) H
def rNe : R2 := fun x y H Q => C8 x y = true ∧ Q (.bl (!decide (x = y))) H
theorem n9 {i j : Int} : decide (V.int i = V.int j) = (i == j) := by
  rw [Bool.eq_iff_iff]
  simp
theorem pJ {i j : Bool} : decide (V.bl i = V.bl j) = (i == j) := by
  rw [Bool.eq_iff_iff]
  simp
theorem n6 {i j : Str} : decide (V.str i = V.str j) = (i == j) := by
  rw [Bool.eq_iff_iff]
  simp
theorem vM {i j : Array UInt8} : decide (V.byt i = V.byt j) = (i.toList == j.toList) := by
  rw [Bool.eq_iff_iff]
  cases i
  cases j
  simp
section
variable {X : Cx} {a b c : Expr} {ta tb tc : TE} {pos : Pos}
theorem bM {pins : List (Addr × Obj)} {σ : St} {H : Hp} {s : Shared} {Q : VK} {k k' : Bool} (I : Inv X pins σ H s) (q : Q (.bl k) H) (e : k = k') : EP X pins σ Q (.bool k') s := by
  subst e
  exact ⟨.bl k, H, I, rfl, q⟩
theorem Ew : OpR X (compareOp .Eq) rEq := by
  intro pins s σ H x y v u Q I rx ry h
  obtain ⟨hs, q⟩ := h
  cases x with
  | non =>
    cases rx
    cases y with
    | non => cases ry; exact PySem.EqNone.eq_none_none (bM I q (by simp))
    | bl j => cases ry; exact PySem.EqNone.eq_none_bool (bM I q (by simp))
    | int j => obtain ⟨t', rfl⟩ := ry; exact PySem.EqNone.eq_none_int (bM I q (by simp))
    | str j => obtain ⟨t', rfl⟩ := ry; exact PySem.EqNone.eq_none_str (bM I q (by simp))
    | _ => exact absurd (show false = true from hs) Bool.false_ne_true
  | bl i =>
    cases rx
    cases y with
    | non => cases ry; exact PySem.EqNone.eq_bool_none (bM I q (by simp))
    | bl j => cases ry; exact eq_bool (bM I q pJ)
    | str j => obtain ⟨t', rfl⟩ := ry; exact PySem.EqMixed.eq_bool_str (bM I q (by simp))
    | _ => exact absurd (show false = true from hs) Bool.false_ne_true
  | int i =>
    obtain ⟨t, rfl⟩ := rx
    cases y with
    | non => cases ry; exact PySem.EqNone.eq_int_none (bM I q (by simp))
    | int j => obtain ⟨t', rfl⟩ := ry; exact eq_int (bM I q n9)
    | str j => obtain ⟨t', rfl⟩ := ry; exact PySem.EqMixed.eq_int_str (bM I q (by simp))
    | _ => exact absurd (show false = true from hs) Bool.false_ne_true
  | str i =>
    obtain ⟨t, rfl⟩ := rx
    cases y with
    | non => cases ry; exact PySem.EqNone.eq_str_none (bM I q (by simp))
    | bl j => cases ry; exact PySem.EqMixed.eq_str_bool (bM I q (by simp))
    | int j => obtain ⟨t', rfl⟩ := ry; exact PySem.EqMixed.eq_str_int (bM I q (by simp))
    | str j => obtain ⟨t', rfl⟩ := ry; exact eq_str (bM I q n6)
    | _ => exact absurd (show false = true from hs) Bool.false_ne_true
  | byt i =>
    obtain ⟨t, rfl⟩ := rx
    cases y with
    | byt j => obtain ⟨t', rfl⟩ := ry; exact PySem.W.eq_bytes (bM I q vM)
    | _ => exact absurd (show false = true from hs) Bool.false_ne_true
  | _ => cases y <;> exact absurd (show false = true from hs) Bool.false_ne_true
theorem Ez : OpR X (compareOp .NotEq) rNe := by
  intro pins s σ H x y v u Q I rx ry h
  obtain ⟨hs, q⟩ := h
  cases x with
  | non =>
    cases rx
    cases y with
    | non => cases ry; exact PySem.EqNone.ne_none_none (bM I q (by simp))
    | bl j => cases ry; exact PySem.EqNone.ne_none_bool (bM I q (by simp))
    | int j => obtain ⟨t', rfl⟩ := ry; exact PySem.EqNone.ne_none_int (bM I q (by simp))
    | str j => obtain ⟨t', rfl⟩ := ry; exact PySem.EqNone.ne_none_str (bM I q (by simp))
    | _ => exact absurd (show false = true from hs) Bool.false_ne_true
  | bl i =>
    cases rx
    cases y with
    | non => cases ry; exact PySem.EqNone.ne_bool_none (bM I q (by simp))
    | bl j => cases ry; exact ne_bool (bM I q (congrArg not pJ))
    | str j => obtain ⟨t', rfl⟩ := ry; exact PySem.EqMixed.ne_bool_str (bM I q (by simp))
    | _ => exact absurd (show false = true from hs) Bool.false_ne_true
  | int i =>
    obtain ⟨t, rfl⟩ := rx
    cases y with
    | non => cases ry; exact PySem.EqNone.ne_int_none (bM I q (by simp))
    | int j => obtain ⟨t', rfl⟩ := ry; exact ne_int (bM I q (congrArg not n9))
    | str j => obtain ⟨t', rfl⟩ := ry; exact PySem.EqMixed.ne_int_str (bM I q (by simp))
    | _ => exact absurd (show false = true from hs) Bool.false_ne_true
  | str i =>
    obtain ⟨t, rfl⟩ := rx
    cases y with
    | non => cases ry; exact PySem.EqNone.ne_str_none (bM I q (by simp))
    | bl j => cases ry; exact PySem.EqMixed.ne_str_bool (bM I q (by simp))
    | int j => obtain ⟨t', rfl⟩ := ry; exact PySem.EqMixed.ne_str_int (bM I q (by simp))
    | str j => obtain ⟨t', rfl⟩ := ry; exact ne_str (bM I q (congrArg not n6))
    | _ => exact absurd (show false = true from hs) Bool.false_ne_true
  | byt i =>
    obtain ⟨t, rfl⟩ := rx
    cases y with
    | byt j => obtain ⟨t', rfl⟩ := ry; exact PySem.W.ne_bytes (bM I q (congrArg not vM))
    | _ => exact absurd (show false = true from hs) Bool.false_ne_true
  | _ => cases y <;> exact absurd (show false = true from hs) Bool.false_ne_true
theorem nR : OpR X (compareOp .Lt) (rI0 fun i j => .bl (decide (i < j))) := zG fun _ _ _ _ _ _ _ q => lt_int q
theorem pS : OpR X (compareOp .Gt) (rI0 fun i j => .bl (decide (j < i))) := zG fun _ _ _ _ _ _ _ q => gt_int q
theorem EG : OpR X (compareOp .GtE) (rI0 fun i j => .bl (decide (j ≤ i))) := zG fun _ _ _ _ _ _ _ q => ge_int q
theorem OpR.or {f : Value → Value → Sem Value} {r r' : R2} (h : OpR X f r) (h' : OpR X f r') : OpR X f (fun x y H Q => r x y H Q ∨ r' x y H Q) := by
  intro pins s σ H x y v u Q I rx ry q
  rcases q with q | q
  · exact h pins s σ H x y v u Q I rx ry q
  · exact h' pins s σ H x y v u Q I rx ry q
theorem cy (b : Expr) {op : CmpOp} (h : op ≠ .In := by decide) (h2 : op ≠ .NotIn := by decide) : behindInMarks op b = false := by
  have e1 : (op == CmpOp.In) = false := by cases op <;> first | rfl | exact absurd rfl h
  have e2 : (op == CmpOp.NotIn) = false := by cases op <;> first | rfl | exact absurd rfl h2
  cases b <;> simp [behindInMarks, e1, e2]
theorem nU {op : CmpOp} {r : R2} (ho : OpR X (compareOp op) r) (ha : PE X a ta) (hb : PE X b tb) (hm : behindInMarks op b = false) : PE X (.Compare a [op] [b] pos) (tOp r ta tb) := by
  intro pins s σ H Q I h
  exact wpAny_Compare1 (yZ ha hb I h fun v u s2 x y H2 I2 rx ry q => ho pins s2 σ H2 x y v u Q I2 rx ry q) hm
def AV (t : TE) : TT := fun σ H Q => t σ H fun x H' => ∃ k, x = .bl k ∧ Q k H'
theorem bZ {op : CmpOp} {r : R2} (ho : OpR X (compareOp op) r) (ha : PE X a ta) (hb : PE X b tb) (hm : behindInMarks op b = false) : PT X (.Compare a [op] [b] pos) (AV (tOp r ta tb)) := by
  intro pins s σ H Q I h
  refine wpAny_isTrue_Compare1 (thn (ha pins s σ H _ I h) fun v s1 ⟨x, H1, I1, r1, q1⟩ => thn (hb pins s1 σ H1 _ I1 q1) fun u s2 ⟨y, H2, I2, r2, q2⟩ =>
    thn (ho pins s2 σ H2 x y v u _ I2 r1 r2 q2) fun c s3 ⟨z, H3, I3, r3, k, e, q3⟩ => ?_) hm
  subst e
  cases r3
  exact wpAny_truthy_bool ⟨H3, I3, q3⟩
def yA (r r' : R2) (ta tb tc : TE) : TE := fun σ H Q => ta σ H fun x H1 => tb σ H1 fun y H2 => r x y H2 fun z H3 => ∃ k, z = .bl k ∧
  (if k = true then tc σ H3 fun w' H4 => r' y w' H4 Q else Q (.bl false) H3)
theorem zD {op op' : CmpOp} {r r' : R2} (ho : OpR X (compareOp op) r) (ho' : OpR X (compareOp op') r') (ha : PE X a ta) (hb : PE X b tb) (hc : PE X c tc)
    (hm : lastMarks [op, op'] [b, c] = false := by with_unfolding_all rfl) : PE X (.Compare a [op, op'] [b, c] pos) (yA r r' ta tb tc) := by
  intro pins s σ H Q I h
  refine Compare_chain (thn (ha pins s σ H _ I h) fun v s1 ⟨x, H1, I1, r1, q1⟩ => chain_link (thn (hb pins s1 σ H1 _ I1 q1) fun u s2 ⟨y, H2, I2, r2, q2⟩ =>
    thn (ho pins s2 σ H2 x y v u _ I2 r1 r2 q2) fun d s3 ⟨z, H3, I3, r3, k, e, q3⟩ => ?_)) hm
  subst e
  cases r3
  refine wpAny_truthy_bool ?_
  cases k with
  | false => exact ite_ff ⟨.bl false, H3, I3, rfl, q3⟩
  | true => exact ite_tt (chain_last (thn (hc pins s3 σ H3 _ I3 q3) fun w' s4 ⟨z', H4, I4, r4, q4⟩ => ho' pins s4 σ H4 y z' u w' Q I4 r2 r4 q4))
def Fm (K : PySem.W.Frag) (x : V) (H : Hp) (k : Bool) : Prop :=
  match x with
  | .non => k = false
  | .bl b => k = b
  | .int i => k = (i != 0)
  | .str y => y.length ≤ sizeLine ∧ k = ((y.length : Int) != 0)
  | .byt y => y.size ≤ sizeLine ∧ k = ((y.size : Int) != 0)
  | .ref p => (∃ xs, SqL K H p xs ∧ k = !xs.isEmpty) ∨ (∃ xs, SqT K H p xs ∧ k = !xs.isEmpty) ∨ ∃ kvs, H p = some (.dK kvs) ∧ k = !kvs.isEmpty
  | _ => False
theorem w6 {κ : Type} {kvs : List (κ × V)} {vs : List (κ × Value)} (r : KV kvs vs) : (!vs.isEmpty) = !kvs.isEmpty := by
  cases r <;> rfl
theorem p6 {xs : List V} {its : List Value} (r : Vals xs its) : (!its.toArray.isEmpty) = !xs.isEmpty := by
  cases r <;> simp
theorem nG : (sizeLine : Nat) < 2 ^ 63 := by rw [sizeLine_eq]; decide
theorem Gd : Fq X (fun x H Q => ∃ k, Fm X.K x H k ∧ Q k H) := by
  intro pins s σ H x v Q I rx h
  obtain ⟨k, e, q⟩ := h
  have hl := nG
  have hs : sizeLine = 16777216 := sizeLine_eq
  cases x with
  | non =>
    cases rx
    have e' : k = false := e
    subst e'
    exact truthy_none ⟨H, I, q⟩
  | bl b =>
    cases rx
    have e' : k = b := e
    subst e'
    exact wpAny_truthy_bool ⟨H, I, q⟩
  | int i =>
    obtain ⟨t, rfl⟩ := rx
    have e' : k = (i != 0) := e
    subst e'
    exact PySem.P.truthy_int ⟨H, I, q⟩
  | str y =>
    obtain ⟨t, rfl⟩ := rx
    obtain ⟨hy, e'⟩ : y.length ≤ sizeLine ∧ k = ((y.length : Int) != 0) := e
    subst e'
    exact PySem.P.truthy_str (by omega) ⟨H, I.tok _, q⟩
  | byt y =>
    obtain ⟨t, rfl⟩ := rx
    obtain ⟨hy, e'⟩ : y.size ≤ sizeLine ∧ k = ((y.size : Int) != 0) := e
    subst e'
    exact PySem.W.truthy_bytes (by omega) ⟨H, I.tok _, q⟩
  | ref p =>
    cases rx
    have e' : (∃ xs, SqL X.K H p xs ∧ k = !xs.isEmpty) ∨ (∃ xs, SqT X.K H p xs ∧ k = !xs.isEmpty) ∨ ∃ kvs, H p = some (.dK kvs) ∧ k = !kvs.isEmpty := e
    rcases e' with ⟨xs, hx, e'⟩ | ⟨xs, hx, e'⟩ | ⟨kvs, hx, e'⟩
    · subst e'
      obtain ⟨its, r, pl, hz⟩ := I.list hx
      have hlen := r.length
      exact wpAny_truthy_list pl.isList (by simp only [List.size_toArray]; omega) ⟨H, I.tok _, by rw [p6 r]; exact q⟩
    · subst e'
      obtain ⟨its, r, pl, hz⟩ := I.tuple hx
      have hlen := r.length
      exact truthy_tuple pl (by simp only [List.size_toArray]; omega) ⟨H, I.tok _, by rw [p6 r]; exact q⟩
    · subst e'
      obtain ⟨hz, hS, vs, r, m⟩ : kvs.length ≤ sizeLine ∧ (p == sysModules) = false ∧ ∃ vs, KV kvs vs ∧ s.heap.DictOf (qd X.prog X.w) p vs := I.hok p _ hx
      have hlen : kvs.length = vs.length := Paired.length r
      exact wpAny_truthy_dict hS m (by omega) ⟨H, I.tok _, by rw [w6 r]; exact q⟩
  | _ => exact (show False from e).elim
theorem wo : OpR X (binaryOp .Add) (fun x y H Q => ∃ i j, x = .str i ∧ y = .str j ∧ i.length + j.length ≤ sizeLine ∧ Q (.str (i ++ j)) H) := by
  intro pins s σ H x y v u Q I rx ry h
  obtain ⟨i, j, rfl, rfl, hz, q⟩ := h
  obtain ⟨t, rfl⟩ := rx
  obtain ⟨t', rfl⟩ := ry
  exact add_str (fun t' tk => ⟨.str (i ++ j), H, I.tok _, ⟨_, rfl⟩, q⟩) hz
theorem vals1 {x : V} {us : List Value} (r : Vals [x] us) : ∃ u, us = [u] ∧ RelV x u := by
  cases r with
  | cons r1 r2 => cases r2; exact ⟨_, rfl, r1⟩
theorem vals2 {x y : V} {us : List Value} (r : Vals [x, y] us) : ∃ u w', us = [u, w'] ∧ RelV x u ∧ RelV y w' := by
  cases r with
  | cons r1 r2 =>
    cases r2 with
    | cons r3 r4 => cases r4; exact ⟨_, _, rfl, r1, r3⟩
theorem yi (hc : X.calm = true) : gG X (.builtin "min") (fun xs H Q => ∃ i j, xs = [.int i, .int j] ∧ Q (.int (if j < i then j else i)) H) := by
  intro pins s σ H xs us Q I r h
  obtain ⟨i, j, rfl, q⟩ := h
  obtain ⟨u, w', rfl, ⟨t, rfl⟩, ⟨t', rfl⟩⟩ := vals2 r
  refine min_two_ints (I.ok.hd hc) fun h' tk k => ⟨_, H, I.kept k, ?_, q⟩
  by_cases hj : j < i
  · rw [if_pos hj, if_pos hj]; exact ⟨_, rfl⟩
  · rw [if_neg hj, if_neg hj]; exact ⟨_, rfl⟩
def Cq (K : PySem.W.Frag) (x : V) (H : Hp) (n : Nat) : Prop :=
  match x with
  | .str y => y.length ≤ sizeLine ∧ n = y.length
  | .byt y => y.size ≤ sizeLine ∧ n = y.size
  | .ref p => (∃ xs, SqL K H p xs ∧ n = xs.length) ∨ ∃ xs, SqT K H p xs ∧ n = xs.length
  | _ => False
theorem eC : gG X (.builtin "len") (fun xs H Q => ∃ x n, xs = [x] ∧ Cq X.K x H n ∧ Q (.int n) H) := by
  intro pins s σ H xs us Q I r h
  obtain ⟨x, n, rfl, e, q⟩ := h
  obtain ⟨u, rfl, rx⟩ := vals1 r
  have hl := nG
  have hs : sizeLine = 16777216 := sizeLine_eq
  cases x with
  | str y =>
    obtain ⟨t, rfl⟩ := rx
    obtain ⟨hy, e'⟩ : y.length ≤ sizeLine ∧ n = y.length := e
    subst e'
    exact len_str (by omega) ⟨.int _, H, I.tok _, ⟨_, rfl⟩, q⟩
  | byt y =>
    obtain ⟨t, rfl⟩ := rx
    obtain ⟨hy, e'⟩ : y.size ≤ sizeLine ∧ n = y.size := e
    subst e'
    exact PySem.W.len_bytes (by omega) ⟨.int _, H, I.tok _, ⟨_, rfl⟩, q⟩
  | ref p =>
    cases rx
    have e' : (∃ xs, SqL X.K H p xs ∧ n = xs.length) ∨ ∃ xs, SqT X.K H p xs ∧ n = xs.length := e
    rcases e' with ⟨xs, hx, e'⟩ | ⟨xs, hx, e'⟩
    · subst e'
      obtain ⟨its, r', pl, hz⟩ := I.list hx
      have hlen := r'.length
      exact Calls.call_len_list pl.isList (by simp only [List.size_toArray]; omega) ⟨.int xs.length, H, I.tok _, ⟨_, by simp only [List.size_toArray]; rw [hlen]⟩, q⟩
    · subst e'
      obtain ⟨its, r', pl, hz⟩ := I.tuple hx
      have hlen := r'.length
      exact len_tuple pl (by simp only [List.size_toArray]; omega) ⟨.int xs.length, H, I.tok _, ⟨_, by simp only [List.size_toArray]; rw [hlen]⟩, q⟩
  | _ => exact (show False from e).elim
end
end L2
namespace L2
open PySem PySem.Spec PyProof.Rows
structure oH (h : Heap) (x dx C : Addr) (mA : Str → Option Value) : Prop where
  obj : h.get? x = some (PySem.W.instObj C dx)
  ns : h.Ns1 dx mA
  ne : dx ≠ x
theorem ym {h : Heap} {dx : Addr} {mA : Str → Option Value} (n : h.Ns1 dx mA) : ∃ od, h.get? dx = some od ∧ ∀ name, PySem.W.lookIn name od = some (mA name) := by
  obtain ⟨o, es, ep, ho, hd, hk, _, hm⟩ := n
  refine ⟨o, ho, fun name => ?_⟩
  have e := hm name
  unfold nsFind findBy at e
  rw [← Array.find?_toList] at e
  unfold PySem.W.lookIn
  rw [hd]
  dsimp only
  split
  · rename_i y q
    rw [q] at e
    exact congrArg some e
  · rename_i q
    rw [q] at e
    have a : es.toList.any (·.refKey) = false := by
      rw [List.any_eq_false]
      intro y hy
      obtain ⟨z, t, hkey⟩ := hk y (Array.mem_toList_iff.mp hy)
      simp [DictEntry.refKey, hkey]
    have a' : ¬ es.toList.any (·.refKey) = true := by rw [a]; exact Bool.false_ne_true
    rw [if_neg a']
    exact congrArg some e
theorem oH.look {h : Heap} {x dx C : Addr} {mA : Str → Option Value} (I : oH h x dx C mA) : ∃ od, PySem.W.InstAt h x (PySem.W.instObj C dx) C (some od) ∧ ∀ name, PySem.W.lookIn name od = some (mA name) :=
  let ⟨od, ho, hl⟩ := ym I.ns
  ⟨od, ⟨I.obj, rfl, rfl, ho⟩, hl⟩
section
variable {prog : Program} {w : World} {A : Around} {E : Value → Shared → Prop} {s : Shared} {K : PySem.W.Frag} {x dx C f : Addr} {mA : Str → Option Value} {name : Str} {v : Value}
theorem get_map {expr : Bool} {Q : Value → Shared → Prop} (X : K.In s.heap) (I : oH s.heap x dx C mA) (hg : PySem.W.plainGet K C name = true) (hh : PySem.W.hasDictIn K C = true)
    (ha : PySem.W.findIn K (.ref C) name = some none) (hv : mA name = some v) (hv' : PySem.W.handedIn v = true) (h : Q v { s with toks := s.toks + 1 }) :
    wpAny (model prog w) A (getAttr (.ref x) name expr) Q E s := by
  obtain ⟨od, J, hl⟩ := I.look
  exact PySem.W.get_value X J (PySem.W.plainGet_of hg).1 (PySem.W.findObj_own hh ha rfl (by rw [hl, hv])) hv' h
theorem zH {pl : Sem Bool} {Q : Value × List Value → Shared → Prop} (X : K.In s.heap) (I : oH s.heap x dx C mA) (hg : PySem.W.plainGet K C name = true)
    (hf : PySem.W.findIn K (.ref C) name = some (some (.ref f))) (ht : PySem.W.isFn K (.ref f) = true) (hv : mA name = none) (h : Q (.ref f, [.ref x]) s) :
    wpAny (model prog w) A (getMethod (.ref x) name pl) Q E s := by
  obtain ⟨od, J, hl⟩ := I.look
  exact PySem.W.method_fn X J (PySem.W.plainGet_of hg).1 (PySem.W.plainGet_of hg).2 hf (beq_iff_eq.mp ht) (by show (PySem.W.lookIn name od).map (·.isSome) = some false; rw [hl, hv]; rfl) h
theorem Bq {ns : List Str} {Q : Unit → Shared → Prop} (X : K.In s.heap) (I : oH s.heap x dx C mA)
    (hs : PySem.W.findIn K (.ref C) "__setattr__" = some (some (.builtin "object.__setattr__"))) (hp : PySem.W.plainOver K C = true) (ht : PySem.W.takerIn K C name = some none) (hh : PySem.W.hasDictIn K C = true)
    (hw : PySem.Within mA ns) (hsz : ns.length ≤ sizeLine)
    (h : ∀ h', oH h' x dx C (fun y => if y = name then some v else mA y) → Heap.SameBut dx s.heap h' → Q () { s with heap := h', toks := s.toks + 2 }) :
    wpAny (model prog w) A (setAttr (.ref x) name v) Q E s := by
  obtain ⟨od, J, hl⟩ := I.look
  refine PySem.W.set_plain X J hs (PySem.W.osa_open (s := { s with toks := s.toks + 1 }) (r := none) X J hp ht fun b => ?_)
  obtain ⟨cd, hc, hd'⟩ := PySem.W.any_some hh
  have hx : s.heap.get? x = some ⟨.ref C, some dx, .plain, #[]⟩ := I.obj
  refine wpAny_bind (wpAny_pure (wpAny_bind (wpAny_bind (wpAny_loadPart hx (wpAny_bind (PySem.W.Looks.here (s := { s with toks := s.toks + 1 }) (PySem.W.looks_clsIn X hc) ?_))))))
  rw [hd']
  refine wpAny_pure (a := some dx) (wpAny_bind (wpAny_pure (wpAny_bind ?_)))
  refine wpAny_nsSet1 (s := { s with toks := s.toks + 1 }) I.ns fun h' hn2 hs2 => ?_
  obtain ⟨oD, esD, epD, hoD, hdD, hcD⟩ := hn2.count (PySem.Within.cons name v hw)
  refine wpAny_bind (wpAny_lookBehind hoD (by rw [hdD]; exact pastItsLine_dict (Nat.le_trans hcD (by rw [List.length_cons]; omega))) ?_)
  exact wpAny_pure (h _ ⟨(hs2.2 _ (Ne.symm I.ne)).trans I.obj, hn2, I.ne⟩ hs2)
theorem zZ {R : Result → Shared → Prop} {vs : List Value} {kw : List (Str × Value)} (X : K.In s.heap) (hm : PySem.W.makesIn K C = true)
    (hi : PySem.W.findIn K (.ref C) "__init__" = some (some (.ref f))) (hf : PySem.W.typeIn K (.ref f) = some (.type "function"))
    (h : codeAny (model prog w) (A.under (.builtin "type.__call__" ⟨.ref C :: vs, kw⟩)) (.call (.ref f) ⟨.ref (s.heap.objs.size + 1) :: vs, kw⟩) (PySem.W.InitBack (s.heap.objs.size + 1) R)
      { s with heap := (s.heap.push PySem.W.emptyDict).push (PySem.W.instObj C s.heap.objs.size) }) :
    codeAny (model prog w) A (.call (.ref C) ⟨vs, kw⟩) R s := by
  obtain ⟨hh, g, d, t, os⟩ := s
  exact PySem.W.make_core (PySem.W.makes_of X hm) (PySem.W.looks_findIn X hi) (fun self => PySem.W.bind_fn X self hf) (.inl rfl) h
end
def gD (f : Str) (v : V) : List (Str × V) → List (Str × V)
  | [] => [(f, v)]
  | (g, x) :: r => if g = f then (g, v) :: r else (g, x) :: gD f v r
theorem oq (f g : Str) (v : V) : ∀ fs : List (Str × V), (gD f v fs).lookup g = if g = f then some v else fs.lookup g
  | [] => by
    show List.lookup g [(f, v)] = _
    by_cases h : g = f
    · have hb : (g == f) = true := beq_iff_eq.mpr h
      simp only [List.lookup, hb, if_pos h]
    · have hb : (g == f) = false := beq_eq_false_iff_ne.mpr h
      simp only [List.lookup, hb, if_neg h]
  | (k, x) :: r => by
    have ih := oq f g v r
    rw [show gD f v ((k, x) :: r) = (if k = f then (k, v) :: r else (k, x) :: gD f v r) from rfl]
    by_cases hk : k = f
    · rw [if_pos hk]
      by_cases h : g = k
      · have hb : (g == k) = true := beq_iff_eq.mpr h
        simp only [List.lookup, hb, if_pos (h.trans hk)]
      · have hb : (g == k) = false := beq_eq_false_iff_ne.mpr h
        simp only [List.lookup, hb, if_neg (fun e : g = f => h (e.trans hk.symm))]
    · rw [if_neg hk]
      by_cases h : g = k
      · have hb : (g == k) = true := beq_iff_eq.mpr h
        simp only [List.lookup, hb, if_neg (fun e : g = f => hk (h.symm.trans e))]
      · have hb : (g == k) = false := beq_eq_false_iff_ne.mpr h
        simp only [List.lookup, hb]
        exact ih
theorem mZ (f : Str) (v : V) : ∀ fs : List (Str × V), f ∈ (gD f v fs).map (·.1) ∧ ∀ g, g ∈ fs.map (·.1) → g ∈ (gD f v fs).map (·.1)
  | [] => ⟨by simp [gD], fun g h => by simp at h⟩
  | (k, x) :: r => by
    obtain ⟨i1, i2⟩ := mZ f v r
    rw [show gD f v ((k, x) :: r) = (if k = f then (k, v) :: r else (k, x) :: gD f v r) from rfl]
    by_cases hk : k = f
    · rw [if_pos hk]
      subst hk
      exact ⟨by simp, fun g h => by simpa using h⟩
    · rw [if_neg hk]
      refine ⟨?_, fun g h => ?_⟩
      · rw [List.map_cons]
        exact List.mem_cons_of_mem _ i1
      · rw [List.map_cons] at h ⊢
        rcases List.mem_cons.mp h with e | e
        · exact List.mem_cons.mpr (.inl e)
        · exact List.mem_cons_of_mem _ (i2 g e)
theorem ow (f : Str) (v : V) : ∀ fs : List (Str × V), (gD f v fs).length ≤ fs.length + 1
  | [] => by simp [gD]
  | (k, x) :: r => by
    have ih := ow f v r
    rw [show gD f v ((k, x) :: r) = (if k = f then (k, v) :: r else (k, x) :: gD f v r) from rfl]
    by_cases hk : k = f
    · rw [if_pos hk, List.length_cons, List.length_cons]; omega
    · rw [if_neg hk, List.length_cons, List.length_cons]; omega
theorem kQ.some_of {v : V} {o : Option Value} (r : kQ (some v) o) : ∃ u, o = some u ∧ RelV v u := by
  cases o with
  | none => exact (show False from r).elim
  | some u => exact ⟨u, rfl, r⟩
theorem kQ.none_of {o : Option Value} (r : kQ none o) : o = none := by
  cases o with
  | none => rfl
  | some u => exact (show False from r).elim
theorem xA {v : V} {u : Value} (r : RelV v u) : PySem.W.handedIn u = true := by
  cases v with
  | non => cases (show u = Value.none from r); rfl
  | bl b => cases (show u = Value.bool b from r); rfl
  | int i => obtain ⟨t, e⟩ := (show ∃ t, u = Value.int i t from r); cases e; rfl
  | str x => obtain ⟨t, e⟩ := (show ∃ t, u = Value.str x t from r); cases e; rfl
  | byt b => obtain ⟨t, e⟩ := (show ∃ t, u = Value.bytes b t from r); cases e; rfl
  | flt b => obtain ⟨t, e⟩ := (show ∃ t, u = Value.float b t from r); cases e; rfl
  | ref a => cases (show u = Value.ref a from r); rfl
  | ty n => cases (show u = Value.type n from r); rfl
section
variable {P : Program} {w : World} {H H' : Hp} {h h' : Heap} {a C dx : Addr} {fs fs' : List (Str × V)}
theorem qs (hok : HOk P w H h) (e : H a = some (.ins C dx fs)) : ∃ mA, oH h a dx C mA ∧ (∀ f, kQ (fs.lookup f) (mA f)) ∧ PySem.Within mA (fs.map (·.1)) ∧ fs.length ≤ 1000 ∧ H dx = some (.own a) := by
  obtain ⟨d, z, ne, ob, mA, n, r, q⟩ := (show eD P w H h a (.ins C dx fs) from hok a _ e)
  exact ⟨mA, ⟨ob, n, ne⟩, r, q, z, d⟩
end
structure Cls (K : PySem.W.Frag) (C : Addr) : Prop where
  pg : PySem.W.plainGet K C Str.empty = true
  hd : PySem.W.hasDictIn K C = true
  po : PySem.W.plainOver K C = true
  sa : PySem.W.findIn K (.ref C) "__setattr__" = some (some (.builtin "object.__setattr__"))
theorem Cls.get {K : PySem.W.Frag} {C : Addr} (c : Cls K C) (f : Str) : PySem.W.plainGet K C f = true := c.pg
def dU (K : PySem.W.Frag) (C : Addr) (f : Str) : Prop := PySem.W.findIn K (.ref C) f = some none
theorem dU.taker {K : PySem.W.Frag} {C : Addr} {f : Str} (n : dU K C f) : PySem.W.takerIn K C f = some none := by
  unfold PySem.W.takerIn
  rw [show PySem.W.findIn K (.ref C) f = some none from n]
  rfl
structure Con (K : PySem.W.Frag) (C : Addr) (f : Str) (v : V) (u : Value) : Prop where
  at_ : PySem.W.findIn K (.ref C) f = some (some u)
  rel : RelV v u
  get : PySem.W.specialIn K u "__get__" = some none
  cp : PySem.W.copiedNames.contains f = false
structure Meth (K : PySem.W.Frag) (C : Addr) (m : Str) (f : Addr) : Prop where
  at_ : PySem.W.findIn K (.ref C) m = some (some (.ref f))
  fn : PySem.W.isFn K (.ref f) = true
  kp : PySem.W.keepIn K (.ref f) = true
section
variable {X : Cx} {pins : List (Addr × Obj)} {σ : St} {H : Hp} {s : Shared} {a C dx : Addr} {fs : List (Str × V)} {f : Str} {v : V} {A : Around} {E : Value → Shared → Prop}
theorem wJ {b : Bool} {Q : Value → Shared → Prop} (I : Inv X pins σ H s) (e : H a = some (.ins C dx fs)) (c : Cls X.K C) (n : dU X.K C f) (l : fs.lookup f = some v)
    (h : ∀ u s', Inv X pins σ H s' → RelV v u → Q u s') : wpAny (model X.prog X.w) A (getAttr (.ref a) f b) Q E s := by
  obtain ⟨mA, O, r, _, _, _⟩ := qs I.hok e
  obtain ⟨u, hu, ru⟩ := kQ.some_of (v := v) (o := mA f) (by rw [← l]; exact r f)
  exact get_map I.kIn O (c.get f) c.hd n hu (xA ru) (h u _ (I.tok _) ru)
theorem jI {m : Str} {g : Addr} {pl : Sem Bool} {Q : Value × List Value → Shared → Prop} (I : Inv X pins σ H s) (e : H a = some (.ins C dx fs)) (c : Cls X.K C) (k : Meth X.K C m g) (l : fs.lookup m = none)
    (h : Q (.ref g, [.ref a]) s) : wpAny (model X.prog X.w) A (getMethod (.ref a) m pl) Q E s := by
  obtain ⟨mA, O, r, _, _, _⟩ := qs I.hok e
  have hn : mA m = none := kQ.none_of (by rw [← l]; exact r m)
  exact zH I.kIn O (c.get m) k.at_ k.fn hn h
theorem wt {y : V} {u : Value} {Q : Unit → Shared → Prop} (I : Inv X pins σ H s) (e : H a = some (.ins C dx fs)) (c : Cls X.K C) (n : dU X.K C f) (hl : fs.length < 1000) (ry : RelV y u)
    (h : ∀ s', Inv X pins σ (upd H a (.ins C dx (gD f y fs))) s' → Q () s') : wpAny (model X.prog X.w) A (setAttr (.ref a) f u) Q E s := by
  obtain ⟨mA, O, r, wi, _, ho⟩ := qs I.hok e
  have hz : (fs.map (·.1)).length ≤ sizeLine := by rw [List.length_map, sizeLine_eq]; omega
  refine Bq I.kIn O c.sa c.po n.taker c.hd wi hz fun h' O' sb => h _ ?_
  have hd : ∃ o, h'.get? dx = some o := let ⟨o, _, _, e', _⟩ := O'.ns; ⟨o, e'⟩
  refine I.write (x := a) (e := dx) (by rw [e]; exact True.intro) (.inr ho) (fun b q hb z => (sb.2 b hb).trans z) hd ?_
  refine ⟨by rw [aG O.ne]; exact ho, ?_, O.ne, O'.obj, _, O'.ns, fun g => ?_, fun g hg => ?_⟩
  · have := ow f y fs; omega
  · show kQ ((gD f y fs).lookup g) (if g = f then some u else mA g)
    rw [oq]
    by_cases q : g = f
    · rw [if_pos q, if_pos q]; exact ry
    · rw [if_neg q, if_neg q]; exact r g
  · by_cases q : g = f
    · rw [q]; exact (mZ f y fs).1
    · refine (mZ f y fs).2 g (wi g fun z => hg ?_)
      show (if g = f then some u else mA g) = none
      rw [if_neg q]; exact z
theorem Inv.made (I : Inv X pins σ H s) : Inv X pins σ (upd (upd H s.heap.objs.size (.own (s.heap.objs.size + 1))) (s.heap.objs.size + 1) (.ins C s.heap.objs.size []))
    { s with heap := (s.heap.push PySem.W.emptyDict).push (PySem.W.instObj C s.heap.objs.size) } := by
  have e1 : (s.heap.push PySem.W.emptyDict).get? s.heap.objs.size = some PySem.W.emptyDict := Heap.get?_push_size s.heap rfl
  have e2 : ((s.heap.push PySem.W.emptyDict).push (PySem.W.instObj C s.heap.objs.size)).get? (s.heap.objs.size + 1) = some (PySem.W.instObj C s.heap.objs.size) := by
    have := Heap.get?_push_size (s.heap.push PySem.W.emptyDict) (o := PySem.W.instObj C s.heap.objs.size) rfl
    rwa [Heap.size_push] at this
  have e3 : (s.heap.push PySem.W.emptyDict).Ns s.heap.objs.size (fun _ => none) := ⟨PySem.W.emptyDict, #[], _, e1, rfl, (fun e he => absurd he (by simp)), fun _ => rfl⟩
  have I1 := I.laid (a := s.heap.objs.size) (o := .own (s.heap.objs.size + 1)) (h' := s.heap.push PySem.W.emptyDict) (t' := s.toks) (fun b u q => Heap.get?_push_of_some _ q) (Nat.le_refl _) ⟨_, e1⟩
  refine I1.laid (a := s.heap.objs.size + 1) (o := .ins C s.heap.objs.size []) (t' := s.toks) (fun b u q => Heap.get?_push_of_some _ q) (Nat.le_of_eq (Heap.size_push _ _)) ?_
  have ne : s.heap.objs.size ≠ s.heap.objs.size + 1 := Nat.ne_of_lt (Nat.lt_succ_self _)
  refine ⟨by rw [aG ne, bP], Nat.zero_le _, ne, e2, fun _ => none, (Heap.Ns1.of_empty e3).at fun o q => Heap.get?_push_of_some _ q, fun _ => True.intro, fun y hy => absurd rfl hy⟩
theorem BB {prog : Program} {w : World} {env : Env} {e : Expr} {f : Str} {pos : Pos} {s : Shared} {Q : Value → Shared → Prop} (hb : attributeBase e f env (eval e env) = eval e env)
    (h : wpAny (model prog w) A (eval e env) (fun o s₁ => wpAny (model prog w) A (getAttr o f true) Q E s₁) E s) : wpAny (model prog w) A (eval (.Attribute e f pos) env) Q E s :=
  Attribute_any_ h (by rw [arm_eval_Attribute, hb])
end
def CI (K : PySem.W.Frag) (ta : TE) (f : Str) : TE := fun σ H Q => ta σ H fun x H1 => ∃ a C dx fs v, x = .ref a ∧ H1 a = some (.ins C dx fs) ∧ Cls K C ∧ dU K C f ∧ fs.lookup f = some v ∧ Q v H1
def CV (K : PySem.W.Frag) (ta tv : TE) (f : Str) : TS := fun D σ H => tv σ H fun y H1 => ta σ H1 fun x H2 => ∃ a C dx fs, x = .ref a ∧ H2 a = some (.ins C dx fs) ∧ Cls K C ∧ dU K C f ∧ fs.length < 1000 ∧
  D.nx σ (upd H2 a (.ins C dx (gD f y fs)))
section
variable {X : Cx} {o e value : Expr} {f : Str} {pos pos' tpos : Pos} {ta tv : TE}
theorem sO (he : PE X e ta) (hb : attributeBase e f X.env (eval e X.env) = eval e X.env) : PE X (.Attribute e f pos) (CI X.K ta f) := by
  intro pins s σ H Q I h
  refine BB hb (thn (he pins s σ H _ I h) fun u s1 ⟨x, H1, I1, rx, a, C, dx, fs, v, ex, ea, c, n, l, q⟩ => ?_)
  subst ex
  obtain rfl : u = Value.ref a := rx
  exact wJ I1 ea c n l fun u' s2 I2 ru => ⟨v, H1, I2, ru, q⟩
theorem uk (ha : PE X o ta) (hv : PE X value tv) (hs : swapsWith value (some (.Attribute o f pos')) pos.line X.env = pure false) : PS X (.Assign [.Attribute o f pos'] value pos) (CV X.K ta tv f) := by
  intro pins s σ H D I h
  refine plainObj_wpAny_Assign_Attribute (thn (hv pins s σ H _ I h) fun u s1 ⟨y, H1, I1, ry, q⟩ => thn (ha pins s1 σ H1 _ I1 q) fun ov s2 ⟨x, H2, I2, rx, a, C, dx, fs, ex, ea, c, n, l, q2⟩ => ?_) hs
  subst ex
  obtain rfl : ov = Value.ref a := rx
  exact wt I2 ea c n l ry fun s3 I3 => ⟨σ, _, I3, q2⟩
theorem D5 {pl : Sem Bool} {m : Str} {apos : Pos} {args : List Expr} {pins : List (Addr × Obj)} {s : Shared} {σ : St} {H : Hp} {Q : Value → Shared → Prop} {te : TE} (he : PE X e te) (I : Inv X pins σ H s)
    (h : te σ H fun x H1 => ∃ a C dx fs g, x = .ref a ∧ H1 a = some (.ins C dx fs) ∧ Cls X.K C ∧ Meth X.K C m g ∧ fs.lookup m = none ∧
      ∀ s1, Inv X pins σ H1 s1 → wpAny (model X.prog X.w) X.A (callWith pos (.ref g) [.ref a] (backTo pos (starEach args X.env)) (backToKw pos (keywordEach [] X.env))) Q X.xe s1)
    (ht : eval (.Call (.Attribute e m apos) args [] pos) X.env = (do
      let ov ← eval e X.env
      standAt apos.atName
      let (f, first) ← holding [ov] (getMethod ov m pl)
      callWith pos f first (backTo pos (starEach args X.env)) (backToKw pos (keywordEach [] X.env)))) :
    wpAny (model X.prog X.w) X.A (eval (.Call (.Attribute e m apos) args [] pos) X.env) Q X.xe s := by
  refine PySem.W.methodCall_KW (pl := pl) (thn (he pins s σ H _ I h) fun u s1 ⟨x, H1, I1, rx, a, C, dx, fs, g, ex, ea, c, k, l, q⟩ => ?_) ht
  subst ex
  obtain rfl : u = Value.ref a := rx
  exact jI I1 ea c k l (q s1 I1)
end
section
variable {X : Cx} {pins : List (Addr × Obj)} {σ : St} {H : Hp} {s : Shared} {A : Around} {E : Value → Shared → Prop} {Q : Value → Shared → Prop} {c : Value} {b : Bool}
inductive kq (K : PySem.W.Frag) (H : Hp) : V → Value → Prop where
  | non : kq K H .non (.type "NoneType")
  | bl (x : Bool) : kq K H (.bl x) (.type "bool")
  | int (i : Int) : kq K H (.int i) (.type "int")
  | str (x : Str) : kq K H (.str x) (.type "str")
  | flt (x : UInt64) : kq K H (.flt x) (.type "float")
  | lst {a : Addr} {xs : List V} (e : H a = some (.lst xs)) : kq K H (.ref a) (.type "list")
  | frz {a : Addr} {o : Obj} {xs : List V} (e : H a = some (.frz o (.lst xs))) : kq K H (.ref a) (.type "list")
  | tup {a : Addr} {xs : List V} (e : H a = some (.tup xs)) : kq K H (.ref a) (.type "tuple")
  | dK {a : Addr} {kvs : List (Key × V)} (e : H a = some (.dK kvs)) : kq K H (.ref a) (.type "dict")
  | dT {a : Addr} {kvs : List (List Key × V)} (e : H a = some (.dT kvs)) : kq K H (.ref a) (.type "dict")
  | ins {a C dx : Addr} {fs : List (Str × V)} (e : H a = some (.ins C dx fs)) (cl : Cls K C) (ha : PySem.W.findIn K (.ref C) "__class__" = some (some (.builtin "object.__class__")))
      (hn : PySem.W.specialIn K (.builtin "object.__class__") "__get__" = some (some (.builtin "getset_descriptor.__get__"))) (htk : PySem.W.takesIn K (.builtin "object.__class__") = some true)
      (hm : PySem.W.mroIn K C (.type "object") = some true) : kq K H (.ref a) (.ref C)
end
end L2
namespace L2
open PySem PySem.Spec PyProof.Rows
structure cC (k : Nat) (A : Around) : Prop where
  hd : A.handled = none
  dp : A.depth + 3 * k + 5 < recursionLimit
  un : A.units + 16 * k + 200 < cLine
theorem cC.mono {j k : Nat} {A : Around} (r : cC k A) (h : j ≤ k) : cC j A := ⟨r.hd, by have := r.dp; omega, by have := r.un; omega⟩
theorem cC.deeper {k : Nat} {A : Around} (r : cC (k + 1) A) (env : Env) : cC k (A.deeper env) :=
  ⟨r.hd, by have := r.dp; show A.depth + 1 + 3 * k + 5 < _; omega, by have := r.un; show A.units + 3 + 16 * k + 200 < _; omega⟩
theorem cC.in1 {k : Nat} {A : Around} (r : cC (k + 1) A) : cC k A.in1 :=
  ⟨r.hd, by have := r.dp; show A.depth + 3 * k + 5 < _; omega, by have := r.un; show A.units + 1 + 16 * k + 200 < _; omega⟩
theorem wU {A : Around} {C : Addr} {us : List Value} {kw : List (Str × Value)} : (A.under (.builtin "type.__call__" ⟨.ref C :: us, kw⟩)).depth = A.depth + 1 := by
  first | rfl | simp [Around.under, Code.weight, Code.isCreation, Code.isGuard, Code.isCaller, Code.frames, Code.isFrame, guardIds]
theorem xw {A : Around} {C : Addr} {us : List Value} {kw : List (Str × Value)} : (A.under (.builtin "type.__call__" ⟨.ref C :: us, kw⟩)).units = A.units + 1 := by
  first | rfl | simp [Around.under, Code.cUnits, Code.frames, Code.isFrame]
theorem cC.make {k : Nat} {A : Around} (r : cC (k + 1) A) (C : Addr) (us : List Value) (kw : List (Str × Value)) : cC k (A.under (.builtin "type.__call__" ⟨.ref C :: us, kw⟩)) :=
  ⟨r.hd, by have := r.dp; rw [wU]; omega, by have := r.un; rw [xw]; omega⟩
theorem cC.depth {k : Nat} {A : Around} (r : cC k A) : A.depth < recursionLimit := by have := r.dp; omega
theorem cC.units {k : Nat} {A : Around} (r : cC k A) : A.units + 64 < cLine := by have := r.un; omega
def kL : TA := fun _ H Q => Q [] H
def gJ (ta : TE) (tr : TA) : TA := fun σ H Q => ta σ H fun x H1 => tr σ H1 fun xs H2 => Q (x :: xs) H2
section
variable {X : Cx} {e : Expr} {es : List Expr} {te : TE} {t : TA} {pos : Pos}
theorem ay : PA X [] kL := fun _ _ _ _ H Q I h => Calls.spliced_nil ⟨[], H, I, .nil, h⟩
theorem aj (ha : PE X e te) (hr : PA X es t) (hs : starEach (e :: es) X.env = (false, eval e X.env) :: starEach es X.env := by rfl) : PA X (e :: es) (gJ te t) := by
  intro pos pins s σ H Q I h
  rw [hs]
  show wpAny _ _ (spliced ((false, eval e X.env) :: backTo pos (starEach es X.env))) _ _ s
  refine Calls.spliced_cons (thn (ha pins s σ H _ I h) fun u s1 ⟨x, H1, I1, r1, q1⟩ => ?_)
  exact thn (hr pos pins s1 σ H1 _ I1 q1) fun us s2 ⟨xs, H2, I2, r2, q2⟩ => ⟨x :: xs, H2, I2, .cons r1 r2, q2⟩
def Ak (t : TA) : TE := fun σ H Q => t σ H fun xs H1 => xs.length ≤ sizeLine ∧ ∀ p, H1 p = none → Q (.ref p) (upd H1 p (.tup xs))
def zi (t : TA) : TE := fun σ H Q => t σ H fun xs H1 => xs.length ≤ sizeLine ∧ ∀ p, H1 p = none → Q (.ref p) (upd H1 p (.lst xs))
theorem iV {x1} (h : PA X es t) : PE X (.Tuple es x1 pos) (Ak t) := by
  intro pins s σ H Q I hq
  refine wpAny_Tuple_spliced (thn (h pos pins s σ H _ I hq) fun us s1 ⟨xs, H1, I1, r, z, q⟩ => ⟨by rw [← r.length]; exact z, ?_⟩)
  have hf : H1 s1.heap.objs.size = none := I1.hok.fresh (Nat.le_refl _)
  refine ⟨.ref s1.heap.objs.size, upd H1 s1.heap.objs.size (.tup xs), I1.laid (t' := s1.toks) (fun b u e => Heap.get?_push_of_some _ e) (Nat.le_refl _) ?_, rfl, q _ hf⟩
  exact ⟨z, us, r, ⟨_, Heap.get?_push_size _ rfl, rfl, _, rfl⟩⟩
theorem fi (h : PA X es t) : PE X (.List es pos) (zi t) := by
  intro pins s σ H Q I hq
  refine wpAny_List_spliced (thn (h pos pins s σ H _ I hq) fun us s1 ⟨xs, H1, I1, r, z, q⟩ => ⟨by rw [← r.length]; exact z, ?_⟩)
  have hf : H1 s1.heap.objs.size = none := I1.hok.fresh (Nat.le_refl _)
  refine ⟨.ref s1.heap.objs.size, upd H1 s1.heap.objs.size (.lst xs), I1.laid (t' := s1.toks) (fun b u e => Heap.get?_push_of_some _ e) (Nat.le_refl _) ?_, rfl, q _ hf⟩
  exact ⟨z, us, 0, r, Heap.get?_push_size _ rfl⟩
end
abbrev Sp := List V → Hp → VK → XK → Prop
abbrev CXT := List Env → Hp → Shared → XK → Value → Shared → Prop
structure kH (P : Program) (w : World) (K : PySem.W.Frag) (mg : Str → Option Value) (base : Heap) (A : Around) (outer : List Env) (s : Shared) (H : Hp) : Prop where
  frames : A.frames = some outer
  mod : Mod K mg base
  bs : ∀ b o, base.get? b = some o → s.heap.get? b = some o ∧ H b = none
  bsz : base.objs.size ≤ s.heap.objs.size
  funs : s.heap.FunFrames base outer
  frf : ∀ b ∈ frs outer, H b = none
  hok : HOk P w H s.heap
  bare : AllBare s.gens
def CE (outer : List Env) (P : Program) (w : World) (H : Hp) (s : Shared) (Q : VK) (u : Value) (s' : Shared) : Prop :=
  ∃ v H', s'.os = s.os ∧ AllBare s'.gens ∧ Un (frs outer) [] H H' s.heap s'.heap ∧ HOk P w H' s'.heap ∧ RelV v u ∧ Q v H'
def CR (CX : CXT) (outer : List Env) (P : Program) (w : World) (H : Hp) (s : Shared) (Q : VK) (E : XK) (r : Result) (s' : Shared) : Prop :=
  match r with
  | .ok (.ret u) => CE outer P w H s Q u s'
  | .ok _ => False
  | .error e => CX outer H s E e s'
structure dR (P : Program) (w : World) (K : PySem.W.Frag) (mg : Str → Option Value) (base : Heap) (CX : CXT) (k : Nat) (f : Addr) (fd : FuncData) (ps : List Str) (sp : Sp) : Prop where
  len : ∀ vs H Q E, sp vs H Q E → vs.length = ps.length
  run : ∀ (A : Around) (outer : List Env) (s : Shared) (H : Hp) (args : Args) (us : List Value) (vs : List V) (Q : VK) (E : XK), cC k A → kH P w K mg base A outer s H → BindsTo s fd args (ps.zip us) → Vals vs us → sp vs H Q E →
    codeAny (model P w) A (.call (.ref f) args) (CR CX outer P w H s Q E) s
theorem dR.mono {P : Program} {w : World} {K : PySem.W.Frag} {mg : Str → Option Value} {base : Heap} {CX : CXT} {j k : Nat} {f : Addr} {fd : FuncData} {ps : List Str} {sp : Sp} (F : dR P w K mg base CX j f fd ps sp) (h : j ≤ k) :
    dR P w K mg base CX k f fd ps sp := ⟨F.len, fun A outer s H args us vs Q E hr => F.run A outer s H args us vs Q E (hr.mono h)⟩
theorem dR.imp {P : Program} {w : World} {K : PySem.W.Frag} {mg : Str → Option Value} {base : Heap} {CX : CXT} {k : Nat} {f : Addr} {fd : FuncData} {ps : List Str} {sp sp' : Sp} (F : dR P w K mg base CX k f fd ps sp)
    (h : ∀ vs H Q E, sp' vs H Q E → sp vs H Q E) : dR P w K mg base CX k f fd ps sp' :=
  ⟨fun vs H Q E q => F.len vs H Q E (h _ _ _ _ q), fun A outer s H args us vs Q E hr he hb hv hs => F.run A outer s H args us vs Q E hr he hb hv (h _ _ _ _ hs)⟩
theorem kH.make {P : Program} {w : World} {K : PySem.W.Frag} {mg : Str → Option Value} {base : Heap} {A : Around} {outer : List Env} {s : Shared} {H : Hp} (e : kH P w K mg base A outer s H) (C : Addr) (us : List Value) (kw : List (Str × Value)) :
    kH P w K mg base (A.under (.builtin "type.__call__" ⟨.ref C :: us, kw⟩)) outer s H := ⟨by first | exact e.frames | (simpa [Around.under, Code.envs, Code.isFrame, pushEnvs] using e.frames), e.mod, e.bs, e.bsz, e.funs, e.frf, e.hok, e.bare⟩
theorem kH.in1 {P : Program} {w : World} {K : PySem.W.Frag} {mg : Str → Option Value} {base : Heap} {A : Around} {outer : List Env} {s : Shared} {H : Hp} (e : kH P w K mg base A outer s H) :
    kH P w K mg base A.in1 outer s H := ⟨e.frames, e.mod, e.bs, e.bsz, e.funs, e.frf, e.hok, e.bare⟩
section
variable {X : Cx} {pins : List (Addr × Obj)} {σ : St} {H : Hp} {s s' : Shared}
theorem Inv.env0 (I : Inv X pins σ H s) : kH X.prog X.w X.K X.mg X.base X.A X.stack s H :=
  ⟨I.ok.frames, I.ok.mod, I.bs, Nat.le_trans I.ok.bsz I.sz, I.stack, I.stkFree, I.hok, I.bare⟩
theorem Inv.after {Q : VK} {u : Value} (I : Inv X pins σ H s) (h : CE X.stack X.prog X.w H s Q u s') : EP X pins σ Q u s' := by
  obtain ⟨v, H', os, bare, un, hok, r, q⟩ := h
  obtain ⟨hh, g, d, t, os'⟩ := s'
  obtain rfl : os' = s.os := os
  exact ⟨v, H', I.call (h' := hh) (g' := g) (d' := d) (t' := t) (ch := []) un hok bare (fun b z => absurd z (by simp)), r, q⟩
end
def xm (sp : Sp) (dvs : List V) (E : XK) (t : TA) : TE := fun σ H Q => t σ H fun vs H1 => sp (vs ++ dvs) H1 Q E
def sr (C : Addr) (m : Str) (sp : Sp) (dvs : List V) (E : XK) (ta : TE) (t : TA) : TE := fun σ H Q => ta σ H fun x H1 => ∃ a dx fs, x = .ref a ∧ H1 a = some (.ins C dx fs) ∧ fs.lookup m = none ∧
  t σ H1 fun vs H2 => sp (x :: (vs ++ dvs)) H2 Q E
def AQ (C : Addr) (sp : Sp) (dvs : List V) (E : XK) (t : TA) : TE := fun σ H Q => t σ H fun vs H1 => ∀ x dx, H1 x = none → H1 dx = none → dx ≠ x →
  sp (.ref x :: (vs ++ dvs)) (upd (upd H1 dx (.own x)) x (.ins C dx [])) (fun v H2 => v = .non ∧ Q (.ref x) H2) E
def Binds (K : PySem.W.Frag) (fd : FuncData) (ps : List Str) (ds : List Value) : Prop :=
  ∀ (s : Shared) (us : List Value), K.In s.heap → (us ++ ds).length = ps.length → BindsTo s fd ⟨us, []⟩ (ps.zip (us ++ ds))
theorem Binds.all {K : PySem.W.Frag} {fd : FuncData} {ps : List Str} (h : ∀ us : List Value, us.length = ps.length → bindArgs fd ⟨us, []⟩ = pure (ps.zip us)) : Binds K fd ps [] := fun s us _ hl => by
  rw [List.append_nil] at hl ⊢
  exact .of_eq (h us hl)
def Passes (CX : CXT) (X : Cx) (E : XK) : Prop := ∀ (pins : List (Addr × Obj)) (σ : St) (H : Hp) (s : Shared) (e : Value) (s' : Shared), Inv X pins σ H s → CX X.stack H s E e s' → X.xe e s'
section
variable {X : Cx} {CX : CXT} {k : Nat} {f C : Addr} {fd : FuncData} {ps : List Str} {sp : Sp} {dvs : List V} {ds : List Value} {E : XK} {x m : Str} {p pos apos : Pos} {e o : Expr} {es : List Expr} {ta : TE} {t : TA}
theorem t6 {pins : List (Addr × Obj)} {σ : St} {H : Hp} {s : Shared} {Q : VK} {us : List Value} {vs : List V} (F : dR X.prog X.w X.K X.mg X.base CX k f fd ps sp) (hr : cC k X.A) (hb : Binds X.K fd ps ds) (hd : Vals dvs ds) (hx : Passes CX X E)
    (I : Inv X pins σ H s) (r : Vals vs us) (h : sp (vs ++ dvs) H Q E) : wpAny (model X.prog X.w) X.A (call (.ref f) us) (EP X pins σ Q) X.xe s := by
  have r2 : Vals (vs ++ dvs) (us ++ ds) := r.append hd
  have hl : (us ++ ds).length = ps.length := by rw [← r2.length]; exact F.len _ _ _ _ h
  refine wpAny_call (codeAny_mono (F.run X.A X.stack s H ⟨us, []⟩ (us ++ ds) (vs ++ dvs) Q E hr I.env0 (hb s us I.kIn hl) r2 h) fun r s' hq => ?_)
  cases r with
  | error e => exact hx pins σ H s e s' I hq
  | ok fl =>
    cases fl with
    | ret u => exact I.after hq
    | next => exact False.elim hq
    | brk => exact False.elim hq
    | cont => exact False.elim hq
theorem bN (F : dR X.prog X.w X.K X.mg X.base CX k f fd ps sp) (hr : cC k X.A) (hg : Gl X x) (hm : X.mg x = some (.ref f)) (hk : PySem.W.keepIn X.K (.ref f) = true) (hb : Binds X.K fd ps ds) (hd : Vals dvs ds) (hx : Passes CX X E)
    (ha : PA X (e :: es) t) (hdb : (x == ("__debug__" : Str)) = false := by decide) (he : starEach (e :: es) X.env = (false, eval e X.env) :: starEach es X.env := by rfl) (hpl : (backTo pos (starEach es X.env)).any (·.1) = false := by rfl) :
    PE X (.Call (.Name x p) (e :: es) [] pos) (xm sp dvs E t) := by
  intro pins s σ H Q I h
  refine wpAny_Call_Name_kw (lr I hg hm ?_ hdb)
  refine PySem.W.callWith_K (h₀ := X.base) I.ok.mod.kin hk (thn (ha pos pins s σ H _ I h) fun us s1 ⟨vs, H1, I1, r, q⟩ => ⟨I1.kIn, ?_⟩) he hpl
  exact t6 F hr hb hd hx I1 r q
theorem kW {pl : Sem Bool} (he : PE X o ta) (c : Cls X.K C) (hm : Meth X.K C m f) (F : dR X.prog X.w X.K X.mg X.base CX k f fd ps sp) (hr : cC k X.A) (hb : Binds X.K fd ps ds) (hd : Vals dvs ds) (hx : Passes CX X E) (ha : PA X (e :: es) t)
    (hst : starEach (e :: es) X.env = (false, eval e X.env) :: starEach es X.env := by rfl) (hpl : (backTo pos (starEach es X.env)).any (·.1) = false := by rfl)
    (ht : eval (.Call (.Attribute o m apos) (e :: es) [] pos) X.env = (do
      let ov ← eval o X.env
      standAt apos.atName
      let (f, first) ← holding [ov] (getMethod ov m pl)
      callWith pos f first (backTo pos (starEach (e :: es) X.env)) (backToKw pos (keywordEach [] X.env))) := by rfl) :
    PE X (.Call (.Attribute o m apos) (e :: es) [] pos) (sr C m sp dvs E ta t) := by
  intro pins s σ H Q I h
  refine PySem.W.methodCall_KW (pl := pl) (thn (he pins s σ H _ I h) fun u s1 ⟨x, H1, I1, rx, a, dx, fs, ex, ea, l, q⟩ => ?_) ht
  subst ex
  obtain rfl : u = Value.ref a := rx
  refine jI I1 ea c hm l ?_
  refine PySem.W.callWith_K (first := [.ref a]) (h₀ := X.base) I.ok.mod.kin hm.kp (thn (ha pos pins s1 σ H1 _ I1 q) fun us s2 ⟨vs, H2, I2, r, q2⟩ => ⟨I2.kIn, ?_⟩) hst hpl
  exact t6 (us := .ref a :: us) (vs := .ref a :: vs) F hr hb hd hx I2 (.cons rfl r) q2
theorem Aq {pl : Sem Bool} (he : PE X o ta) (c : Cls X.K C) (hm : Meth X.K C m f) (F : dR X.prog X.w X.K X.mg X.base CX k f fd ps sp) (hr : cC k X.A) (hb : Binds X.K fd ps ds) (hd : Vals dvs ds) (hx : Passes CX X E)
    (ht : eval (.Call (.Attribute o m apos) [] [] pos) X.env = (do
      let ov ← eval o X.env
      standAt apos.atName
      let (f, first) ← holding [ov] (getMethod ov m pl)
      callWith pos f first (backTo pos (starEach [] X.env)) (backToKw pos (keywordEach [] X.env))) := by rfl) :
    PE X (.Call (.Attribute o m apos) [] [] pos) (sr C m sp dvs E ta kL) := by
  intro pins s σ H Q I h
  refine PySem.W.methodCall_KW (pl := pl) (thn (he pins s σ H _ I h) fun u s1 ⟨x, H1, I1, rx, a, dx, fs, ex, ea, l, q⟩ => ?_) ht
  subst ex
  obtain rfl : u = Value.ref a := rx
  refine jI I1 ea c hm l ?_
  exact PySem.W.callWith_K0 (first := [.ref a]) I1.kIn hm.kp (t6 (us := [.ref a]) (vs := [.ref a]) F hr hb hd hx I1 (.cons rfl .nil) q)
structure Mk (K : PySem.W.Frag) (C f : Addr) : Prop where
  makes : PySem.W.makesIn K C = true
  init : PySem.W.findIn K (.ref C) "__init__" = some (some (.ref f))
  fn : PySem.W.isFn K (.ref f) = true
  kp : PySem.W.keepIn K (.ref C) = true
theorem zr {pins : List (Addr × Obj)} {σ : St} {H : Hp} {s : Shared} {Q : VK} {us : List Value} {vs : List V} (M : Mk X.K C f) (F : dR X.prog X.w X.K X.mg X.base CX k f fd ps sp) (hr : cC (k + 1) X.A) (hb : Binds X.K fd ps ds) (hd : Vals dvs ds)
    (hx : Passes CX X E) (I : Inv X pins σ H s) (r : Vals vs us)
    (h : ∀ x dx, H x = none → H dx = none → dx ≠ x → sp (.ref x :: (vs ++ dvs)) (upd (upd H dx (.own x)) x (.ins C dx [])) (fun v H2 => v = .non ∧ Q (.ref x) H2) E) :
    wpAny (model X.prog X.w) X.A (call (.ref C) us) (EP X pins σ Q) X.xe s := by
  have hq := h (s.heap.objs.size + 1) s.heap.objs.size (I.hok.fresh (Nat.le_succ _)) (I.hok.fresh (Nat.le_refl _)) (Nat.ne_of_lt (Nat.lt_succ_self _))
  have I2 := Inv.made (C := C) I
  have r2 : Vals (V.ref (s.heap.objs.size + 1) :: (vs ++ dvs)) (Value.ref (s.heap.objs.size + 1) :: (us ++ ds)) := .cons rfl (r.append hd)
  have hl : (Value.ref (s.heap.objs.size + 1) :: us ++ ds).length = ps.length := by
    have e := r2.length
    rw [F.len _ _ _ _ hq] at e
    exact e.symm
  refine wpAny_call (zZ (f := f) I.kIn M.makes M.init (beq_iff_eq.mp M.fn) (codeAny_mono (F.run _ X.stack _ _ ⟨Value.ref (s.heap.objs.size + 1) :: us, []⟩ (Value.ref (s.heap.objs.size + 1) :: (us ++ ds)) _ _ E (hr.make C us [])
    (I2.env0.make C us []) (hb _ (Value.ref (s.heap.objs.size + 1) :: us) I2.kIn hl) r2 hq) fun r s' hq' => ?_))
  cases r with
  | error e => exact hx pins σ _ _ e s' I2 hq'
  | ok fl =>
    cases fl with
    | ret u =>
      obtain ⟨v, H', I3, rv, ev, q3⟩ := I2.after hq'
      subst ev
      exact ⟨rv, ⟨V.ref (s.heap.objs.size + 1), H', I3, rfl, q3⟩⟩
    | next => exact False.elim hq'
    | brk => exact False.elim hq'
    | cont => exact False.elim hq'
theorem AZ (M : Mk X.K C f) (F : dR X.prog X.w X.K X.mg X.base CX k f fd ps sp) (hr : cC (k + 1) X.A) (hg : Gl X x) (hm : X.mg x = some (.ref C)) (hb : Binds X.K fd ps ds) (hd : Vals dvs ds) (hx : Passes CX X E)
    (ha : PA X (e :: es) t) (hdb : (x == ("__debug__" : Str)) = false := by decide) (he : starEach (e :: es) X.env = (false, eval e X.env) :: starEach es X.env := by rfl) (hpl : (backTo pos (starEach es X.env)).any (·.1) = false := by rfl) :
    PE X (.Call (.Name x p) (e :: es) [] pos) (AQ C sp dvs E t) := by
  intro pins s σ H Q I h
  refine wpAny_Call_Name_kw (lr I hg hm ?_ hdb)
  refine PySem.W.callWith_K (h₀ := X.base) I.ok.mod.kin M.kp (thn (ha pos pins s σ H _ I h) fun us s1 ⟨vs, H1, I1, r, q⟩ => ⟨I1.kIn, ?_⟩) he hpl
  exact zr M F hr hb hd hx I1 r q
end
section
variable {X : Cx} {CX : CXT} {k : Nat} {f C : Addr} {fd : FuncData} {ps ks : List Str} {sp : Sp} {E : XK} {x m : Str} {p pos apos kpos : Pos} {e o : Expr} {es : List Expr} {kws : List Keyword} {te ta : TE} {t tk : TA} {nm : Option Str}
structure Gh (K : PySem.W.Frag) (fd : FuncData) (ps ks : List Str) (g : List Value → List Value → List Value) (gV : List V → List V → List V) : Prop where
  to : ∀ (s : Shared) (us ws : List Value), K.In s.heap → (g us ws).length = ps.length → BindsTo s fd ⟨us, ks.zip ws⟩ (ps.zip (g us ws))
  rel : ∀ {vs : List V} {us : List Value} {zs : List V} {ws : List Value}, Vals vs us → Vals zs ws → Vals (gV vs zs) (g us ws)
variable {g : List Value → List Value → List Value} {gV : List V → List V → List V}
end
structure bf (N P : List Str) (sc : Scope) : Prop where
  kind : sc.kind = .function
  co : sc.isCoroutine = false
  gen : sc.isGenerator = false
  nd : N.Nodup
  pre : N.take P.length = P
  par : ∀ x ∈ P, sc.names.lookup x = some .local ∨ sc.names.lookup x = some .cell
  nofree : ∀ y ∈ sc.names, y.2 ≠ .free
theorem rn {kindOf : Str → Option NameKind} {x : Str} : ∀ {binds : List (Str × Value)} {m : Str → Option Value}, (∀ v, (x, v) ∉ binds) → bindL kindOf binds m x = m x
  | [], _, _ => rfl
  | (n, v) :: r, m, h => by
    unfold bindL
    rw [rn fun w hw => h w (List.mem_cons_of_mem _ hw)]
    split
    · have : x ≠ n := by rintro rfl; exact h v List.mem_cons_self
      simp [this]
    · rfl
theorem qX {kindOf : Str → Option NameKind} {x : Str} : ∀ {binds : List (Str × Value)} {m : Str → Option Value}, (∀ v, (x, v) ∉ binds) → bindC kindOf binds m x = m x
  | [], _, _ => rfl
  | (n, v) :: r, m, h => by
    unfold bindC
    rw [qX fun w hw => h w (List.mem_cons_of_mem _ hw)]
    split
    · rfl
    · have : x ≠ n := by rintro rfl; exact h v List.mem_cons_self
      simp [this]
theorem rL {kindOf : Str → Option NameKind} {x : Str} {v : Value} : ∀ {P : List Str} {vs : List Value} {i : Nat} {m : Str → Option Value}, P.Nodup → P[i]? = some x → vs[i]? = some v → kindOf x = some .local →
    bindL kindOf (P.zip vs) m x = some v
  | [], _, _, _, _, h, _, _ => by simp at h
  | _ :: _, [], _, _, _, _, h, _ => by simp at h
  | p :: P, w :: vs, 0, m, nd, h1, h2, hk => by
    simp at h1 h2; subst h1; subst h2
    show bindL kindOf ((p, w) :: P.zip vs) m p = _
    unfold bindL
    rw [rn fun v hv => (List.nodup_cons.mp nd).1 (List.of_mem_zip hv).1, if_pos hk]
    simp
  | p :: P, w :: vs, i + 1, m, nd, h1, h2, hk => by
    show bindL kindOf ((p, w) :: P.zip vs) m x = _
    unfold bindL
    exact rL (i := i) (List.nodup_cons.mp nd).2 (by simpa using h1) (by simpa using h2) hk
theorem rf {kindOf : Str → Option NameKind} {x : Str} {v : Value} : ∀ {P : List Str} {vs : List Value} {i : Nat} {m : Str → Option Value}, P.Nodup → P[i]? = some x → vs[i]? = some v → kindOf x ≠ some .local →
    bindC kindOf (P.zip vs) m x = some v
  | [], _, _, _, _, h, _, _ => by simp at h
  | _ :: _, [], _, _, _, _, h, _ => by simp at h
  | p :: P, w :: vs, 0, m, nd, h1, h2, hk => by
    simp at h1 h2; subst h1; subst h2
    show bindC kindOf ((p, w) :: P.zip vs) m p = _
    unfold bindC
    rw [qX fun v hv => (List.nodup_cons.mp nd).1 (List.of_mem_zip hv).1, if_neg hk]
    simp
  | p :: P, w :: vs, i + 1, m, nd, h1, h2, hk => by
    show bindC kindOf ((p, w) :: P.zip vs) m x = _
    unfold bindC
    exact rf (i := i) (List.nodup_cons.mp nd).2 (by simpa using h1) (by simpa using h2) hk
def start (N : List Str) (vs : List V) : St := vs.map some ++ List.replicate (N.length - vs.length) none
def jC (CX : CXT) (P : Program) (w : World) (K : PySem.W.Frag) (mg : Str → Option Value) (base : Heap) (N : List Str) (qual : Str) (scope : Scope) (f : Addr) (cd : Value) (A : Around) (outer : List Env) (s : Shared) (H : Hp) (E : XK) : Cx where
  prog := P
  w := w
  K := K
  mg := mg
  base := base
  A := A.deeper (envOfC qual scope s.heap.objs.size f cd)
  N := N
  s₀ := s
  H₀ := H
  env := envOfC qual scope s.heap.objs.size f cd
  outer := outer
  stack := envOfC qual scope s.heap.objs.size f cd :: outer
  ex := []
  calm := true
  fn := fun _ => true
  pn := []
  xe := fun e s' => wpAny (model P w) (A.deeper (envOfC qual scope s.heap.objs.size f cd)) (leaving (envOfC qual scope s.heap.objs.size f cd) e) (fun _ s'' => CX outer H s E e s'') (fun e' s'' => CX outer H s E e' s'') s'
theorem tL {sc : Scope} {n : Nat} {x : Str} (h : sc.names.lookup x = some .cell) : ∃ c, (cellsFrom n sc.names []).lookup x = some c := by
  have q := PySem.W.cellsFrom_some sc.names n [] (.inl h)
  exact Option.isSome_iff_exists.mp q
theorem yg {CX : CXT} {P : Program} {w : World} {K : PySem.W.Frag} {mg : Str → Option Value} {base : Heap} {N ps : List Str} {qual : Str} {scope : Scope} {f : Addr} {cd : Value} {A : Around} {outer : List Env} {s s1 : Shared} {H : Hp} {E : XK} {us : List Value} {vs : List V}
    (S : bf N ps scope) (hd : A.handled = none) (e0 : kH P w K mg base A outer s H) (hl : vs.length = ps.length) (r : Vals vs us)
    (x : InCallC s s.heap.objs.size (bindL (envOfC qual scope s.heap.objs.size f cd).kindOf (ps.zip us) fun _ => none) (cellsFrom (s.heap.objs.size + 1) scope.names []) (bindC (envOfC qual scope s.heap.objs.size f cd).kindOf (ps.zip us) fun _ => none) s1) :
    Inv (jC CX P w K mg base N qual scope f cd A outer s H E) [] (start N vs) H s1 := by
  have hpl : ps.length ≤ N.length := by have := congrArg List.length S.pre; rw [List.length_take] at this; omega
  obtain ⟨h1, tk, rfl, hk⟩ := x.done
  have noA : ∀ b : Addr, b ∉ (jC CX P w K mg base N qual scope f cd A outer s H E).ex := fun b z => absurd (show b ∈ ([] : List Addr) from z) (by simp)
  refine ⟨⟨e0.mod, S.kind, rfl, rfl, Nat.le_refl _, fun y z c h1 h2 => ?_, fun y hy => ?_, fun y c _ h => ?_, fun _ => hd, Around.frames_deeper e0.frames, .inr ⟨rfl, rfl⟩, fun b z => absurd z (noA b), e0.bs, e0.bsz, fun b _ _ => noA b, fun b z => absurd z (noA b), e0.funs, e0.frf⟩,
    rfl, e0.bare, Un.kept hk, ⟨_, x.toInCall.ns, fun i y v h1 h2 h3 => ?_⟩, fun y c h => ⟨_, x.cell y c h⟩, e0.hok.fresh (Nat.le_refl _), fun y c h => ?_, fun p hp => absurd (show p ∈ ([] : List (Addr × Obj)) from hp) (by simp), e0.hok.kept hk, ?_⟩
  · exact name_of_addr x.apart (PySem.mem_of_lookup h1) (PySem.mem_of_lookup h2)
  · have hy : scope.names.lookup y = some .cell ∨ scope.names.lookup y = some .free := hy
    rcases hy with hy | hy
    · exact tL hy
    · exact absurd rfl (S.nofree _ (PySem.mem_of_lookup hy))
  · exact Nat.le_of_lt (x.above y c (PySem.mem_of_lookup h))
  · have hi : i < vs.length := by
      unfold start at h2
      by_cases hi : i < vs.length
      · exact hi
      · rw [List.getElem?_append_right (by simpa using hi)] at h2
        rw [List.getElem?_replicate] at h2
        split at h2 <;> cases h2
    have ha : vs[i]? = some v := by
      unfold start at h2
      rw [List.getElem?_append_left (by simpa using hi), List.getElem?_map] at h2
      cases e : vs[i]? with
      | none => rw [e] at h2; cases h2
      | some a => rw [e] at h2; cases h2; rfl
    obtain ⟨u, hu, rv⟩ := r.get ha
    have hp : ps[i]? = some y := by
      rw [← S.pre, List.getElem?_take_of_lt (by omega)]; exact h1
    have ndP : ps.Nodup := by rw [← S.pre]; exact S.nd.sublist (List.take_sublist _ _)
    refine ⟨u, rv, ?_⟩
    rcases S.par y (List.mem_of_getElem? hp) with k | k
    · exact .inl ⟨k, rL ndP hp hu k⟩
    · obtain ⟨c, e⟩ := tL (n := s.heap.objs.size + 1) k
      refine .inr ⟨.inl k, c, e, ?_⟩
      have q := x.cell y c e
      rw [rf ndP hp hu (by show scope.names.lookup y ≠ _; rw [k]; decide)] at q
      exact q
  · exact e0.hok.fresh (Nat.le_of_lt (x.above y c (PySem.mem_of_lookup h)))
  · unfold start
    show _ = N.length
    rw [List.length_append, List.length_map, List.length_replicate]
    omega
theorem AI {CX : CXT} {P : Program} {w : World} {K : PySem.W.Frag} {mg : Str → Option Value} {base : Heap} {k : Nat} {f : Addr} {name qual : Str} {params : Arguments} {body : List Stmt} {scope : Scope} {dV kV doc pm cdv ct oc : Value} {an od : Option Addr}
    {osl : Array (Option Value)} {N ps : List Str} {sp : Sp} (lk : K.lookup f = some ⟨oc, od, .func (PySem.W.fnOf name qual params body scope dV kV doc pm an cdv ct), osl⟩) (hcd : PySem.W.codeIn K cdv qual = true) (S : bf N ps scope)
    (len : ∀ vs H Q E, sp vs H Q E → vs.length = ps.length)
    (hbody : ∀ (A : Around) (outer : List Env) (s : Shared) (H : Hp) (vs : List V) (Q : VK) (E : XK), cC k (A.deeper (envOfC qual scope s.heap.objs.size f cdv)) → sp vs H Q E →
      ∃ t, PSs (jC CX P w K mg base N qual scope f cdv A outer s H E) body t ∧ t { nx := fun _ H' => Q .non H', rt := Q } (start N vs) H) :
    dR P w K mg base CX (k + 1) f (PySem.W.fnOf name qual params body scope dV kV doc pm an cdv ct) ps sp := by
  refine ⟨len, fun A outer s H args us vs Q E hr e0 hb r hsp => ?_⟩
  have hl := len _ _ _ _ hsp
  have KX : K.In s.heap := e0.mod.kin.keeps fun b o e => (e0.bs b o e).1
  have lim : s.heap.NoLimit := e0.mod.nolimit.keeps fun b o e => (e0.bs b o e).1
  have hkind : ∀ y ∈ ps.zip us, scope.names.lookup y.1 = some .local ∨ (scope.names.lookup y.1 = some .cell ∧ ((cellsFrom (s.heap.objs.size + 1) scope.names []).lookup y.1).isSome = true) := fun ⟨n, v⟩ hy => by
    rcases S.par n (List.of_mem_zip hy).1 with q | q
    · exact .inl q
    · exact .inr ⟨q, PySem.W.cellsFrom_some _ _ _ (.inl q)⟩
  refine codeAny_call_function hr.depth (KX _ _ lk) rfl S.co S.gen rfl (PySem.W.codeRec_of KX hcd) (hb _ _ _ _ ?_)
  refine wpAny_newFunctionEnv_cells S.kind hkind fun env he s1 x => ?_
  subst he
  refine ⟨lim.keeps x.toInCall.keep, codeAny_func ?_⟩
  obtain ⟨t, ht, hq⟩ := hbody A outer s H vs Q E (hr.deeper _) hsp
  have I : Inv (jC CX P w K mg base N qual scope f cdv A outer s H E) [] (start N vs) H s1 := yg S hr.hd e0 hl r x
  refine wpAny_mono (ht [] s1 (start N vs) H _ I hq) (fun fl s' hs => ?_) fun e s' hs => hs
  have fin : ∀ {σ' : St} {H' : Hp} {v : V} {u : Value}, Inv (jC CX P w K mg base N qual scope f cdv A outer s H E) [] σ' H' s' → RelV v u → Q v H' → CE outer P w H s Q u s' :=
    fun {σ' H' v u} J rv q => ⟨v, H', J.os, J.bare, J.base, J.hok, rv, q⟩
  cases fl with
  | ret u =>
    obtain ⟨v, σ', H', J, rv, q⟩ := hs
    exact fin J rv q
  | next =>
    obtain ⟨σ', H', J, q⟩ := hs
    exact fin (v := V.non) (u := Value.none) J rfl q
  | brk =>
    obtain ⟨_, _, _, q⟩ := hs
    exact False.elim q
  | cont =>
    obtain ⟨_, _, _, q⟩ := hs
    exact False.elim q
end L2
namespace L2
open PySem PySem.Spec PyProof.Rows
section
variable {X : Cx} {x : Str} {p pos : Pos} {e : Expr} {es : List Expr} {t : TA} {id T : String} {r : List V → Hp → VK → Prop}
def tCB (r : List V → Hp → VK → Prop) (t : TA) : TE := fun σ H Q => t σ H fun vs H1 => r vs H1 Q
theorem bL (hc : gG X (.builtin id) r) (hg : Gl X x) (hm : X.mg x = none) (hv : bootBuiltins x = some (.builtin id)) (ha : PA X (e :: es) t) (hn : x ≠ "__name__" := by decide) (hdb : (x == ("__debug__" : Str)) = false := by decide)
    (he : starEach (e :: es) X.env = (false, eval e X.env) :: starEach es X.env := by rfl) (hpl : (backTo pos (starEach es X.env)).any (·.1) = false := by rfl) : PE X (.Call (.Name x p) (e :: es) [] pos) (tCB r t) := by
  intro pins s σ H Q I h
  refine wpAny_Call_Name_kw (kX I hg hm hv ?_ hn hdb)
  exact PyProof.Rows.callWith_builtin1 (thn (ha pos pins s σ H _ I h) fun us s1 ⟨vs, H1, I1, r1, q1⟩ => hc pins s1 σ H1 vs us Q I1 r1 q1) he hpl
theorem dW (hc : gG X (.type T) r) (hg : Gl X x) (hm : X.mg x = none) (hv : bootBuiltins x = some (.type T)) (ha : PA X (e :: es) t) (hn : x ≠ "__name__" := by decide) (hdb : (x == ("__debug__" : Str)) = false := by decide)
    (he : starEach (e :: es) X.env = (false, eval e X.env) :: starEach es X.env := by rfl) (hpl : (backTo pos (starEach es X.env)).any (·.1) = false := by rfl) : PE X (.Call (.Name x p) (e :: es) [] pos) (tCB r t) := by
  intro pins s σ H Q I h
  refine wpAny_Call_Name_kw (kX I hg hm hv ?_ hn hdb)
  exact PyProof.Rows.callWith_type1 (thn (ha pos pins s σ H _ I h) fun us s1 ⟨vs, H1, I1, r1, q1⟩ => hc pins s1 σ H1 vs us Q I1 r1 q1) he hpl
end
end L2
namespace HT
open PySem PyProof.Rows
section
open PySem.SeqAt
open PySem.AutoSeq1 (wpAny_loadPart')
open PySem.MeetsSeq PySem.MeetsSeq2 PySem.MeetsSeq3
end
section
variable {prog : Program} {w : World} {A : Around} {E : Value → Shared → Prop} {s : Shared}
def sIx (n d : Nat) : Option Int → Nat
  | none => d
  | some v => if v < 0 then (v + (n : Int)).toNat else min v.toNat n
theorem pe (n d : Nat) : sIx n d none = d := rfl
theorem lD (n d k : Nat) : sIx n d (some (k : Int)) = min k n := by
  show (if (k : Int) < 0 then ((k : Int) + (n : Int)).toNat else min (k : Int).toNat n) = min k n
  rw [if_neg (by omega), Int.toNat_natCast]
end
end HT
namespace L2
open PySem PySem.Spec PyProof.Rows
abbrev TO := St → Hp → (Option Int → Hp → Prop) → Prop
def PO (X : Cx) (e : Option Expr) (t : TO) : Prop :=
  ∀ (pins : List (Addr × Obj)) (s : Shared) (σ : St) (H : Hp) (Q : Option Int → Hp → Prop), Inv X pins σ H s → t σ H Q →
    wpAny (model X.prog X.w) X.A (evalPart e X.env) (fun u s' => ∃ o H', Inv X pins σ H' s' ∧ IsPart u o ∧ Q o H') X.xe s
def vY : TO := fun _ H Q => Q none H
def AA (t : TE) : TO := fun σ H Q => t σ H fun x H1 => ∃ i, x = .int i ∧ Q (some i) H1
section
variable {X : Cx} {e : Expr} {te : TE} {lo hi : Option Expr} {tl th : TO} {pos p2 : Pos}
theorem ei : PO X none vY := by
  intro pins s σ H Q I h
  rw [evalPart_none]
  exact wpAny_pure ⟨none, H, I, .none, h⟩
theorem dE (h : PE X e te) : PO X (some e) (AA te) := by
  intro pins s σ H Q I hw
  rw [evalPart_some]
  refine thn (h pins s σ H _ I hw) fun u s1 ⟨x, H1, I1, r1, q1⟩ => ?_
  obtain ⟨i, rfl, q⟩ := q1
  obtain ⟨t, rfl⟩ := r1
  exact ⟨some i, H1, I1, .int i t, q⟩
def SlR (X : Cx) (r : V → Option Int → Option Int → Hp → VK → Prop) : Prop :=
  ∀ (pins : List (Addr × Obj)) (s : Shared) (σ : St) (H : Hp) (x : V) (v vl vu : Value) (lo hi : Option Int) (sl : Addr) (Q : VK), Inv X pins σ H s → RelV x v → s.heap.IsSliceOf sl vl vu .none → IsPart vl lo → IsPart vu hi → r x lo hi H Q →
    ∃ T id, typeLookup (.type T) "__getitem__" = pure (some (.builtin id)) ∧ s.TypeIs v T ∧ wpAny (model X.prog X.w) X.A (getItem v (.ref sl)) (EP X pins σ Q) X.xe s
theorem SlR.or {r r' : V → Option Int → Option Int → Hp → VK → Prop} (h : SlR X r) (h' : SlR X r') : SlR X (fun x lo hi H Q => r x lo hi H Q ∨ r' x lo hi H Q) := by
  intro pins s σ H x v vl vu lo hi sl Q I rx hs pl pu q
  rcases q with q | q
  · exact h pins s σ H x v vl vu lo hi sl Q I rx hs pl pu q
  · exact h' pins s σ H x v vl vu lo hi sl Q I rx hs pl pu q
def tSl (r : V → Option Int → Option Int → Hp → VK → Prop) (te : TE) (tl th : TO) : TE := fun σ H Q => te σ H fun x H1 => tl σ H1 fun l H2 => th σ H2 fun u H3 => r x l u H3 Q
theorem da {r : V → Option Int → Option Int → Hp → VK → Prop} (hr : SlR X r) (he : PE X e te) (hl : PO X lo tl) (hu : PO X hi th) : PE X (.Subscript e (.Slice lo hi none p2) pos) (tSl r te tl th) := by
  intro pins s σ H Q I h
  refine Subscript_ (thn (he pins s σ H _ I h) fun v s1 ⟨x, H1, I1, r1, q1⟩ => ?_)
  refine wpAny_Slice (thn (hl pins s1 σ H1 _ I1 q1) fun vl s2 ⟨l, H2, I2, pl, q2⟩ => thn (hu pins s2 σ H2 _ I2 q2) fun vu s3 ⟨u, H3, I3, pu, q3⟩ => ?_)
  rw [evalPart_none]
  refine wpAny_pure ?_
  have I4 : Inv X pins σ H3 { s3 with heap := s3.heap.push { cls := .type "slice", data := .fields #[vl, vu, .none] } } := I3.kept (t' := s3.toks) fun b ob q => Heap.get?_push_of_some _ q
  obtain ⟨T, id, hT, ht, hg⟩ := hr pins { s3 with heap := s3.heap.push { cls := .type "slice", data := .fields #[vl, vu, .none] } } σ H3 x v vl vu l u s3.heap.objs.size Q I4 r1 (Heap.IsSliceOf.new ..) pl pu q3
  show wpAny (model X.prog X.w) X.A (subscriptTail e (.Slice lo hi none p2) v (.ref s3.heap.objs.size)) (EP X pins σ Q) X.xe { s3 with heap := s3.heap.push { cls := .type "slice", data := .fields #[vl, vu, .none] } }
  exact tail_any (ops := [.ref s3.heap.objs.size, v]) ht hT hg (by with_unfolding_all rfl)
def qx (xs : List V) (lo hi : Option Int) : List V := (xs.drop (HT.sIx xs.length 0 lo)).take (HT.sIx xs.length xs.length hi - HT.sIx xs.length 0 lo)
theorem vg (xs : List V) (lo hi : Option Int) : (qx xs lo hi).length ≤ xs.length := by
  unfold qx
  rw [List.length_take, List.length_drop]
  omega
end
end L2
namespace L2
open PySem PySem.Spec PyProof.Rows
def ixN (n : Nat) (i : Int) : Option Nat := if 0 ≤ i then (if i < n then some i.toNat else none) else if -(n : Int) ≤ i then some (i + n).toNat else none
def atI {α : Type} (xs : List α) (i : Int) : Option α := (ixN xs.length i).bind fun j => xs[j]?
theorem Bp {n : Nat} {i : Int} {j : Nat} (h : ixN n i = some j) : seqIndex? i n = some j ∧ j < n ∧ -(n : Int) ≤ i ∧ i < n := by
  unfold ixN at h
  by_cases h0 : 0 ≤ i
  · rw [if_pos h0] at h
    by_cases h1 : i < n
    · rw [if_pos h1] at h
      have e : i.toNat = j := Option.some.inj h
      exact ⟨by rw [seqIndex_of h0 h1, e], by omega, by omega, h1⟩
    · rw [if_neg h1] at h; cases h
  · rw [if_neg h0] at h
    by_cases h1 : -(n : Int) ≤ i
    · rw [if_pos h1] at h
      have e : (i + n).toNat = j := Option.some.inj h
      exact ⟨by rw [seqIndex_neg (by omega) h1, e], by omega, h1, by omega⟩
    · rw [if_neg h1] at h; cases h
theorem qv {α : Type} {xs : List α} {i : Int} {v : α} (h : atI xs i = some v) : ∃ j, seqIndex? i xs.length = some j ∧ xs[j]? = some v ∧ j < xs.length ∧ -(xs.length : Int) ≤ i ∧ i < xs.length := by
  unfold atI at h
  cases e : ixN xs.length i with
  | none => rw [e] at h; cases h
  | some j =>
    rw [e] at h
    obtain ⟨h1, h2, h3, h4⟩ := Bp e
    exact ⟨j, h1, h, h2, h3, h4⟩
def A7 (b : Expr) : Prop := ∀ o i, subscripted b false o i = operate [o, i] (getItem o i)
def IxR (X : Cx) (r : R2) : Prop :=
  ∀ (value slice : Expr) (pins : List (Addr × Obj)) (s : Shared) (σ : St) (H : Hp) (x y : V) (v u : Value) (Q : VK), Inv X pins σ H s → RelV x v → RelV y u → r x y H Q →
    subscripted slice false v u = operate [v, u] (getItem v u) → wpAny (model X.prog X.w) X.A (subscriptTail value slice v u) (EP X pins σ Q) X.xe s
def MtR (X : Cx) (id : String) (r : V → List V → Hp → VK → Prop) : Prop :=
  ∀ (pins : List (Addr × Obj)) (s : Shared) (σ : St) (H : Hp) (x : V) (xs : List V) (v : Value) (us : List Value) (Q : VK), Inv X pins σ H s → RelV x v → Vals xs us → r x xs H Q →
    wpAny (model X.prog X.w) X.A (call (.builtin id) (v :: us)) (EP X pins σ Q) X.xe s
section
variable {X : Cx} {a b : Expr} {ta tb : TE} {pos : Pos}
theorem IxR.or {r r' : R2} (h : IxR X r) (h' : IxR X r') : IxR X (fun x y H Q => r x y H Q ∨ r' x y H Q) := by
  intro value slice pins s σ H x y v u Q I rx ry q hs
  rcases q with q | q
  · exact h value slice pins s σ H x y v u Q I rx ry q hs
  · exact h' value slice pins s σ H x y v u Q I rx ry q hs
theorem MtR.or {id : String} {r r' : V → List V → Hp → VK → Prop} (h : MtR X id r) (h' : MtR X id r') : MtR X id (fun x xs H Q => r x xs H Q ∨ r' x xs H Q) := by
  intro pins s σ H x xs v us Q I rx rs q
  rcases q with q | q
  · exact h pins s σ H x xs v us Q I rx rs q
  · exact h' pins s σ H x xs v us Q I rx rs q
theorem ig {r : R2} (hr : IxR X r) (ha : PE X a ta) (hb : PE X b tb) (hs : A7 b) : PE X (.Subscript a b pos) (tOp r ta tb) := by
  intro pins s σ H Q I h
  exact Subscript_ (yZ ha hb I h fun v u s2 x y H2 I2 rx ry q => hr a b pins s2 σ H2 x y v u Q I2 rx ry q (hs _ _))
def Cp (K : PySem.W.Frag) : R2 := fun x y H Q => ∃ p xs i v, x = .ref p ∧ y = .int i ∧ SqL K H p xs ∧ atI xs i = some v ∧ Q v H
def DZ (K : PySem.W.Frag) : R2 := fun x y H Q => ∃ p xs i v, x = .ref p ∧ y = .int i ∧ SqT K H p xs ∧ atI xs i = some v ∧ Q v H
def C4 : R2 := fun x y H Q => ∃ z i c, x = .str z ∧ y = .int i ∧ z.length ≤ sizeLine ∧ atI z.cps.toList i = some c ∧ Q (.str ⟨#[c]⟩) H
theorem BV : IxR X (Cp X.K) := by
  intro value slice pins s σ H x y v u Q I rx ry h hs
  obtain ⟨p, xs, i, z, rfl, rfl, hq, he, q⟩ := h
  cases rx
  obtain ⟨t, rfl⟩ := ry
  obtain ⟨its, r, pl, hz⟩ := I.list hq
  obtain ⟨j, h1, h2, h3, h4, h5⟩ := qv he
  obtain ⟨w, ew, rw'⟩ := r.get h2
  have hl := r.length
  have hn := nG
  have fin : EP X pins σ Q w s := ⟨z, H, I, rw', q⟩
  by_cases h0 : 0 ≤ i
  · have hj : i.toNat = j := by
      rw [seqIndex_of h0 h5] at h1
      exact Option.some.inj h1
    exact item_listR pl.isList h0 (by omega) (by rw [hj]; simpa using ew) fin hs
  · have hj : (i + (its.toArray.size : Int)).toNat = j := by
      rw [seqIndex_neg (by omega) h4] at h1
      rw [List.size_toArray, ← hl]
      exact Option.some.inj h1
    exact subscriptTail_builtinR (x := w) pl.isList.typeIs slot_list_getitem.lookup
      (wpAny_getItem_list_neg (Q := fun r s' => r = w ∧ EP X pins σ Q r s') pl.isList (by omega) (by rw [List.size_toArray] <;> omega) (by omega) (by rw [hj]; simpa using ew) ⟨rfl, fin⟩) hs
theorem Dr : IxR X (DZ X.K) := by
  intro value slice pins s σ H x y v u Q I rx ry h hs
  obtain ⟨p, xs, i, z, rfl, rfl, hq, he, q⟩ := h
  cases rx
  obtain ⟨t, rfl⟩ := ry
  obtain ⟨its, r, pl, hz⟩ := I.tuple hq
  obtain ⟨j, h1, h2, h3, h4, h5⟩ := qv he
  obtain ⟨w, ew, rw'⟩ := r.get h2
  have hl := r.length
  have hn := nG
  have fin : EP X pins σ Q w s := ⟨z, H, I, rw', q⟩
  exact subscriptTail_builtinR (x := w) pl.typeIs slot_tuple_getitem.lookup
    (getItem_tuple (j := j) (Q := fun r s' => r = w ∧ EP X pins σ Q r s') pl (by omega) (by omega) (by rw [List.size_toArray, ← hl]; exact h1) (by simpa using ew) ⟨rfl, fin⟩) hs
theorem DN : IxR X C4 := by
  intro value slice pins s σ H x y v u Q I rx ry h hs
  obtain ⟨z, i, c, rfl, rfl, hz, he, q⟩ := h
  obtain ⟨t, rfl⟩ := rx
  obtain ⟨t', rfl⟩ := ry
  obtain ⟨j, h1, h2, h3, h4, h5⟩ := qv he
  have hl : z.cps.toList.length = z.length := by simp [Str.length]
  rw [hl] at h1 h4 h5
  have hn := nG
  exact tail_any (typeIs_str s z t) slot_str_getitem.lookup (getItem_str (c := c) (by
    have e1 : decide (i < -(2 ^ 63 : Int)) = false := decide_eq_false (by omega)
    have e2 : decide (i ≥ 2 ^ 63) = false := decide_eq_false (by omega)
    rw [e1, e2, Bool.or_false]) (by rw [h1]; simpa using h2) ⟨.str ⟨#[c]⟩, H, I.tok _, ⟨_, rfl⟩, q⟩) hs
def rIx (K : PySem.W.Frag) : R2 := fun x y H Q => Cp K x y H Q ∨ DZ K x y H Q ∨ C4 x y H Q
theorem fP : IxR X (rIx X.K) := BV.or (Dr.or DN)
theorem Inv.lst {pins : List (Addr × Obj)} {σ : St} {H : Hp} {s : Shared} {p : Addr} {xs : List V} (I : Inv X pins σ H s) (h : H p = some (.lst xs)) :
    ∃ (its : List Value) (n : Nat), Vals xs its ∧ s.heap.get? p = some { cls := .type "list", data := .seq its.toArray n } ∧ xs.length ≤ sizeLine := by
  obtain ⟨z, its, n, r, e⟩ := I.hok p _ h
  exact ⟨its, n, r, e, z⟩
theorem tw (lo hi : Option Int) (n : Nat) : (sliceBounds lo hi none n).1 = ((HT.sIx n 0 lo : Nat) : Int) ∧ (sliceBounds lo hi none n).2.1 = ((HT.sIx n n hi : Nat) : Int) ∧ (sliceBounds lo hi none n).2.2 = 1 := by
  refine ⟨?_, ?_, rfl⟩
  · cases lo with
    | none => simp [sliceBounds, HT.sIx]
    | some i =>
      simp only [sliceBounds, HT.sIx, Option.getD_none, show (1 : Int) > 0 by decide, if_true]
      by_cases h : i < 0
      · simp only [h, if_true] <;> omega
      · simp only [h, if_false] <;> omega
  · cases hi with
    | none => simp [sliceBounds, HT.sIx]
    | some i =>
      simp only [sliceBounds, HT.sIx, Option.getD_none, show (1 : Int) > 0 by decide, if_true]
      by_cases h : i < 0
      · simp only [h, if_true] <;> omega
      · simp only [h, if_false] <;> omega
theorem rM (its : List Value) (lo hi : Option Int) : slicePick its.toArray lo hi none = ((its.drop (HT.sIx its.length 0 lo)).take (HT.sIx its.length its.length hi - HT.sIx its.length 0 lo)).toArray := by
  obtain ⟨h1, h2, h3⟩ := tw lo hi its.toArray.size
  unfold slicePick
  rw [h1, h2, h3]
  simp only [sliceRange_one, pick_run, List.size_toArray] <;> rfl
def DD (K : PySem.W.Frag) : V → Option Int → Option Int → Hp → VK → Prop := fun x lo hi H Q => ∃ a xs, x = .ref a ∧ SqL K H a xs ∧ ∀ p, H p = none → Q (.ref p) (upd H p (.lst (qx xs lo hi)))
theorem fG : SlR X (DD X.K) := by
  intro pins s σ H x v vl vu lo hi sl Q I rx hs pl pu h
  obtain ⟨a, xs, rfl, hx, q⟩ := h
  cases rx
  obtain ⟨its, r, ht, hz⟩ := I.list hx
  have hlen := r.length
  refine ⟨"list", _, slot_list_getitem.lookup, ht.isList.typeIs, ?_⟩
  refine wpAny_getItem_list_slice ht.isList hs pl pu .none (by simp) ?_ (by rw [List.size_toArray] <;> omega)
  rw [rM, ← hlen]
  refine ⟨.ref s.heap.objs.size, _, I.laid (t' := s.toks) (o := .lst (qx xs lo hi)) (fun b ob q => Heap.get?_push_of_some _ q) (Nat.le_refl _) ?_, rfl, q _ (I.hok.fresh (Nat.le_refl _))⟩
  exact ⟨Nat.le_trans (vg xs lo hi) hz, _, 0, (r.drop (HT.sIx xs.length 0 lo)).take (HT.sIx xs.length xs.length hi - HT.sIx xs.length 0 lo), Heap.get?_push_size _ rfl⟩
def jj : V → Bool
  | .non => true
  | .bl _ => true
  | .int _ => true
  | .str _ => true
  | _ => false
def eqV : V → V → Bool
  | .non, .non => true
  | .bl a, .bl b => a == b
  | .bl a, .int b => (if a then 1 else 0) == b
  | .int a, .bl b => a == (if b then 1 else 0)
  | .int a, .int b => a == b
  | .str a, .str b => a == b
  | _, _ => false
theorem Du {A : Around} {s : Shared} {y x : V} {u v : Value} (ry : RelV y u) (rx : RelV x v) (fy : jj y = true) (fx : jj x = true) : SeqAt.EqAt A s u v (eqV y x) := by
  cases y with
  | non =>
    cases ry
    cases x with
    | non => cases rx; exact SeqAt.EqAt.same _
    | bl b => cases rx; exact SeqAt.EqAt.none_bool b
    | int b => obtain ⟨t, rfl⟩ := rx; exact SeqAt.EqAt.none_int b t
    | str b => obtain ⟨t, rfl⟩ := rx; exact SeqAt.EqAt.none_str b t
    | _ => exact absurd (show false = true from fx) Bool.false_ne_true
  | bl a =>
    cases ry
    cases x with
    | non => cases rx; exact SeqAt.EqAt.bool_none a
    | bl b => cases rx; exact SeqAt.EqAt.bool_bool a b
    | int b => obtain ⟨t, rfl⟩ := rx; exact SeqAt.EqAt.bool_int a b t
    | str b => obtain ⟨t, rfl⟩ := rx; exact SeqAt.EqAt.bool_str a b t
    | _ => exact absurd (show false = true from fx) Bool.false_ne_true
  | int a =>
    obtain ⟨t', rfl⟩ := ry
    cases x with
    | non => cases rx; exact SeqAt.EqAt.int_none a t'
    | bl b => cases rx; exact SeqAt.EqAt.int_bool a t' b
    | int b => obtain ⟨t, rfl⟩ := rx; exact SeqAt.EqAt.int_int a t' b t
    | str b => obtain ⟨t, rfl⟩ := rx; exact SeqAt.EqAt.int_str a t' b t
    | _ => exact absurd (show false = true from fx) Bool.false_ne_true
  | str a =>
    obtain ⟨t', rfl⟩ := ry
    cases x with
    | non => cases rx; exact SeqAt.EqAt.str_none a t'
    | bl b => cases rx; exact SeqAt.EqAt.str_bool a t' b
    | int b => obtain ⟨t, rfl⟩ := rx; exact SeqAt.EqAt.str_int a t' b t
    | str b => obtain ⟨t, rfl⟩ := rx; exact SeqAt.EqAt.str_str a t' b t
    | _ => exact absurd (show false = true from fx) Bool.false_ne_true
  | _ => exact absurd (show false = true from fy) Bool.false_ne_true
def eqU (x : V) (u : Value) : Bool := match u with
  | .none => eqV .non x
  | .bool b => eqV (.bl b) x
  | .int i _ => eqV (.int i) x
  | .str z _ => eqV (.str z) x
  | _ => false
theorem yN {x y : V} {u : Value} (r : RelV y u) (f : jj y = true) : eqU x u = eqV y x := by
  cases y with
  | non => cases r; rfl
  | bl b => cases r; rfl
  | int i => obtain ⟨t, rfl⟩ := r; rfl
  | str z => obtain ⟨t, rfl⟩ := r; rfl
  | _ => exact absurd (show false = true from f) Bool.false_ne_true
theorem ly {x : V} : ∀ {xs : List V} {us : List Value}, Vals xs us → xs.all jj = true → us.any (eqU x) = xs.any fun y => eqV y x
  | _, _, .nil, _ => rfl
  | y :: xs, u :: us, .cons r t, f => by
    rw [List.all_cons, Bool.and_eq_true] at f
    rw [List.any_cons, List.any_cons, yN r f.1, ly t f.2]
theorem ko {A : Around} {s : Shared} {x : V} {v : Value} (rx : RelV x v) (fx : jj x = true) : ∀ {xs : List V} {us : List Value}, Vals xs us → xs.all jj = true → ∀ u ∈ us, SeqAt.EqAt A s u v (eqU x u)
  | _, _, .nil, _ => fun u hu => by cases hu
  | y :: xs, u :: us, .cons r t, f => fun u' hu => by
    rw [List.all_cons, Bool.and_eq_true] at f
    rcases List.mem_cons.mp hu with rfl | hu
    · rw [yN r f.1]; exact Du r rx f.1 fx
    · exact ko rx fx t f.2 u' hu
def inV (x : V) (xs : List V) : Bool := xs.any fun y => eqV y x
def rIn (K : PySem.W.Frag) (neg : Bool) : R2 := fun x y H Q => ∃ p xs, y = .ref p ∧ (SqL K H p xs ∨ SqT K H p xs) ∧ jj x = true ∧ xs.all jj = true ∧ Q (.bl (if neg then !inV x xs else inV x xs)) H
theorem ri : OpR X (compareOp .In) (rIn X.K false) := by
  intro pins s σ H x y v u Q I rx ry h
  obtain ⟨p, xs, rfl, hq, fx, fs, q⟩ := h
  cases ry
  rcases hq with hq | hq
  · obtain ⟨its, r, pl, hz⟩ := I.list hq
    refine SeqAt.in_listAt (eqU x) pl.isList (fun w hw => ko rx fx r fs w (by simpa using hw)) ⟨.bl _, H, I, rfl, ?_⟩
    rw [show its.toArray.any (eqU x) = its.any (eqU x) by simp, ly r fs]
    exact q
  · obtain ⟨its, r, pl, hz⟩ := I.tuple hq
    refine SeqAt.in_tupleAt (eqU x) pl (fun w hw => ko rx fx r fs w (by simpa using hw)) ⟨.bl _, H, I, rfl, ?_⟩
    rw [show its.toArray.any (eqU x) = its.any (eqU x) by simp, ly r fs]
    exact q
theorem uA : OpR X (compareOp .NotIn) (rIn X.K true) := by
  intro pins s σ H x y v u Q I rx ry h
  obtain ⟨p, xs, rfl, hq, fx, fs, q⟩ := h
  cases ry
  rcases hq with hq | hq
  · obtain ⟨its, r, pl, hz⟩ := I.list hq
    refine SeqAt.notIn_listAt (eqU x) pl.isList (fun w hw => ko rx fx r fs w (by simpa using hw)) ⟨.bl _, H, I, rfl, ?_⟩
    rw [show its.toArray.any (eqU x) = its.any (eqU x) by simp, ly r fs]
    exact q
  · obtain ⟨its, r, pl, hz⟩ := I.tuple hq
    refine SeqAt.notIn_tupleAt (eqU x) pl (fun w hw => ko rx fx r fs w (by simpa using hw)) ⟨.bl _, H, I, rfl, ?_⟩
    rw [show its.toArray.any (eqU x) = its.any (eqU x) by simp, ly r fs]
    exact q
theorem gG.or {f : Value} {r r' : List V → Hp → VK → Prop} (h : gG X f r) (h' : gG X f r') : gG X f (fun xs H Q => r xs H Q ∨ r' xs H Q) := by
  intro pins s σ H xs us Q I rs q
  rcases q with q | q
  · exact h pins s σ H xs us Q I rs q
  · exact h' pins s σ H xs us Q I rs q
theorem cz : gG X (.type "list") (fun xs H Q => ∃ p ys, xs = [.ref p] ∧ (SqL X.K H p ys ∨ SqT X.K H p ys) ∧ ∀ l, H l = none → Q (.ref l) (upd H l (.lst ys))) := by
  intro pins s σ H xs us Q I r h
  obtain ⟨p, ys, rfl, hq, q⟩ := h
  obtain ⟨u, rfl, rx⟩ := vals1 r
  cases rx
  have fin : ∀ (its : List Value), Vals ys its → ys.length ≤ sizeLine → ∀ (h' : Heap) (c' : Nat), (∀ b o', s.heap.get? b = some o' → h'.get? b = some o') →
      h'.get? s.heap.objs.size = some { cls := .type "list", dict := none, data := .seq its.toArray c', slots := #[] } → EP X pins σ Q (.ref s.heap.objs.size) { s with heap := h' } := fun its r' hz h' c' kp e =>
    ⟨.ref s.heap.objs.size, _, I.laid (t' := s.toks) kp (Nat.le_refl _) (show eD X.prog X.w _ h' _ (.lst ys) from ⟨hz, its, c', r', e⟩), rfl, q _ (I.hok.fresh (Nat.le_refl _))⟩
  rcases hq with hq | hq
  · obtain ⟨its, r', pl, hz⟩ := I.list hq
    have hlen := r'.length
    obtain ⟨o, ho, hc, n, hd⟩ := pl.isList
    exact call_list_seq p (.inl rfl) ho hc hd (fun h' c' kp e => fin its r' hz h' c' kp e) (by simp only [List.size_toArray] <;> omega)
  · obtain ⟨its, r', pl, hz⟩ := I.tuple hq
    have hlen := r'.length
    obtain ⟨o, ho, hc, n, hd⟩ := pl
    exact call_list_seq p (.inr rfl) ho hc hd (fun h' c' kp e => fin its r' hz h' c' kp e) (by simp only [List.size_toArray] <;> omega)
def tyV (K : PySem.W.Frag) (T : String) (x : V) (H : Hp) : Prop := match x with
  | .str _ => T = "str"
  | .int _ => T = "int"
  | .ref p => (T = "list" ∧ ∃ xs, SqL K H p xs) ∨ (T = "tuple" ∧ ∃ o, K.lookup p = some o ∧ o.cls = .type "tuple" ∧ o.dict = none) ∨
      (T = "dict" ∧ ((∃ kvs, H p = some (.dK kvs)) ∨ ∃ kvs, H p = some (.dT kvs))) ∨ (T = "set" ∧ ∃ S n, H p = some (.set S n))
  | _ => False
theorem yh {pins : List (Addr × Obj)} {σ : St} {H : Hp} {s : Shared} {T : String} {x : V} {v : Value} (I : Inv X pins σ H s) (r : RelV x v) (ty : tyV X.K T x H) :
    s.TypeIs v T ∧ ∀ a, v = .ref a → ∃ ob, s.heap.get? a = some ob ∧ ob.dict = none := by
  cases x with
  | str z =>
    obtain ⟨t, rfl⟩ := r
    cases (show T = "str" from ty)
    exact ⟨typeIs_str s z t, fun _ e => nomatch e⟩
  | int i =>
    obtain ⟨t, rfl⟩ := r
    cases (show T = "int" from ty)
    exact ⟨typeIs_int s i t, fun _ e => nomatch e⟩
  | ref p =>
    cases r
    rcases ty with ⟨rfl, xs, hq⟩ | ⟨rfl, o, hk, hc, hd⟩ | ⟨rfl, hk⟩ | ⟨rfl, S, n, hk⟩
    · obtain ⟨its, _, pl, _⟩ := I.list hq
      refine ⟨pl.isList.typeIs, fun a e => ?_⟩
      cases e
      obtain ⟨o, n, e, c, hd, _⟩ := pl
      exact ⟨o, e, hd⟩
    · refine ⟨⟨o, I.kIn p o hk, hc⟩, fun a e => ?_⟩
      cases e
      exact ⟨o, I.kIn _ o hk, hd⟩
    · have z : ∃ o, s.heap.get? p = some o ∧ o.ExactDict := by
        rcases hk with ⟨kvs, hk⟩ | ⟨kvs, hk⟩
        · obtain ⟨_, _, _, _, o, _, _, e, ex, _⟩ := I.hok p _ hk
          exact ⟨o, e, ex⟩
        · obtain ⟨_, _, _, _, o, _, _, e, ex, _⟩ := I.hok p _ hk
          exact ⟨o, e, ex⟩
      obtain ⟨o, e, ex⟩ := z
      refine ⟨⟨o, e, ex.1⟩, fun a e2 => ?_⟩
      cases e2
      exact ⟨o, e, ex.2.1⟩
    · obtain ⟨o, _, _, _, e, ex, _⟩ := I.hok p _ hk
      refine ⟨⟨o, e, ex.1⟩, fun a e2 => ?_⟩
      cases e2
      exact ⟨o, e, ex.2.1⟩
  | _ => exact False.elim ty
def Ai (K : PySem.W.Frag) (T : String) (r : V → List V → Hp → VK → Prop) (to : TE) : TE := fun σ H Q => to σ H fun x H1 => tyV K T x H1 ∧ r x [] H1 Q
def tBM (K : PySem.W.Frag) (T : String) (r : V → List V → Hp → VK → Prop) (to : TE) (t : TA) : TE := fun σ H Q => to σ H fun x H1 => tyV K T x H1 ∧ t σ H1 fun xs H2 => r x xs H2 Q
variable {o e : Expr} {es : List Expr} {to : TE} {t : TA} {name : Str} {apos cpos : Pos} {T id : String} {r : V → List V → Hp → VK → Prop}
theorem yc (pa : PlainAttrs T) (slot : Slot T name id) (hty : typeOf (.builtin id) = pure (.type "method_descriptor")) (hm : MtR X id r) (ho : PE X o to)
    (hbase : attributeBase o name X.env (eval o X.env) = eval o X.env := by rfl) (hline : (apos.endLine == cpos.line) = true := by rfl) : PE X (.Call (.Attribute o name apos) [] [] cpos) (Ai X.K T r to) := by
  intro pins s σ H Q I h
  refine wpAny_Call_method0_late hbase hline (thn (ho pins s σ H _ I h) fun v s1 ⟨x, H1, I1, r1, ty, q1⟩ => ?_)
  obtain ⟨h1, h2⟩ := yh I1 r1 ty
  exact ⟨T, id, pa, slot, hty, h1, h2, Calls.callWith_builtin rfl (PySem.evalArgs_none (hm pins s1 σ H1 x [] v [] Q I1 r1 .nil q1))⟩
theorem iZ (pa : PlainAttrs T) (slot : Slot T name id) (hty : typeOf (.builtin id) = pure (.type "method_descriptor")) (hm : MtR X id r) (ho : PE X o to) (ha : PA X (e :: es) t)
    (hbase : attributeBase o name X.env (eval o X.env) = eval o X.env := by rfl)
    (hfew : ((backTo cpos (starEach (e :: es) X.env)).all (fun x => !x.1) && (backToKw cpos (keywordEach [] X.env)).all (fun x => x.1.isSome)
      && decide ((e :: es).length + ([] : List Keyword).length + (if ([] : List Keyword).isEmpty then 0 else 1) < 30)) = true := by rfl)
    (hline : (apos.endLine == cpos.line) = true := by rfl) (hs : starEach (e :: es) X.env = (false, eval e X.env) :: starEach es X.env := by rfl) (hplain : (backTo cpos (starEach es X.env)).any (·.1) = false := by rfl) :
    PE X (.Call (.Attribute o name apos) (e :: es) [] cpos) (tBM X.K T r to t) := by
  intro pins s σ H Q I h
  refine wpAny_Call_method_late hbase hfew hline rfl (thn (ho pins s σ H _ I h) fun v s1 ⟨x, H1, I1, r1, ty, q1⟩ => ?_)
  obtain ⟨h1, h2⟩ := yh I1 r1 ty
  refine ⟨T, id, pa, slot, hty, h1, h2, ?_⟩
  have hA := ha cpos pins s1 σ H1 _ I1 q1
  rw [hs] at hA ⊢
  refine Calls.callWith_builtin (by show (false || (backTo cpos (starEach es X.env)).any (·.1)) = false; rw [hplain] <;> rfl) (Calls.evalArgs_plain ?_)
  exact thn hA fun us s2 ⟨vs, H2, I2, r2, q2⟩ => hm pins s2 σ H2 x vs v us Q I2 r1 r2 q2
end
end L2
namespace L2
open PySem PySem.Spec PyProof.Rows
def MtM (X : Cx) (id : String) (r : V → List V → Hp → VK → Prop) : Prop :=
  ∀ (pins : List (Addr × Obj)) (s : Shared) (σ : St) (H : Hp) (x : V) (xs : List V) (v : Value) (us : List Value) (Q : VK), Inv X pins σ H s → RelV x v → Vals xs us → r x xs H Q →
    wpAny (model X.prog X.w) X.A (call (.builtin id) (v :: us)) (EP X pins σ Q) X.xe s
theorem Vals.one : ∀ {x : V} {us : List Value}, Vals [x] us → ∃ u, us = [u] ∧ RelV x u
  | _, _, .cons r .nil => ⟨_, rfl, r⟩
theorem Vals.two : ∀ {x y : V} {us : List Value}, Vals [x, y] us → ∃ u v, us = [u, v] ∧ RelV x u ∧ RelV y v
  | _, _, _, .cons r (.cons q .nil) => ⟨_, _, rfl, r, q⟩
theorem Vals.zero : ∀ {us : List Value}, Vals [] us → us = []
  | _, .nil => rfl
theorem Vals.dropLast {xs : List V} {us : List Value} (h : Vals xs us) : Vals xs.dropLast us.dropLast := by
  induction h with
  | nil => exact .nil
  | cons r t ih =>
    cases t with
    | nil => exact .nil
    | cons q t' => exact .cons r ih
theorem Vals.eraseIdx : ∀ {xs : List V} {us : List Value} (i : Nat), Vals xs us → Vals (xs.eraseIdx i) (us.eraseIdx i)
  | _, _, _, .nil => .nil
  | _, _, 0, .cons _ t => t
  | _, _, i + 1, .cons r t => .cons r (Vals.eraseIdx i t)
theorem Vals.reverse {xs : List V} {us : List Value} (h : Vals xs us) : Vals xs.reverse us.reverse := by
  induction h with
  | nil => exact .nil
  | cons r t ih => rw [List.reverse_cons, List.reverse_cons]; exact Vals.append ih (.cons r .nil)
theorem w8 {α : Type} (l : List α) : l.eraseIdx (l.length - 1) = l.dropLast := by
  induction l with
  | nil => rfl
  | cons a r ih =>
    cases r with
    | nil => rfl
    | cons b r =>
      have e : (a :: b :: r).length - 1 = ((b :: r).length - 1) + 1 := by
        have h1 : (a :: b :: r).length = r.length + 2 := rfl
        have h2 : (b :: r).length = r.length + 1 := rfl
        omega
      rw [e, List.eraseIdx_cons_succ, ih]
      all_goals rfl
section
variable {X : Cx} {pins : List (Addr × Obj)} {σ : St} {H : Hp} {s : Shared} {l b : Addr} {xs ys zs : List V}
theorem Inv.lset {its its' : List Value} {n : Nat} {f : Array Value → Array Value} {t' : Nat} (I : Inv X pins σ H s) (hH : H l = some (.lst xs))
    (e : s.heap.get? l = some { cls := .type "list", data := .seq its.toArray n }) (hf : f its.toArray = its'.toArray) (hv : Vals ys its') (hz : ys.length ≤ sizeLine) :
    Inv X pins σ (upd H l (.lst ys)) { s with heap := s.heap.update l (Obj.mapSeq f), toks := t' } := by
  have q := PySem.IsL.update e f
  rw [hf] at q
  refine I.write (x := l) (e := l) (by rw [hH]; exact trivial) (.inl rfl) (fun b' u hb hu => (Heap.get?_update_other s.heap (Obj.mapSeq f) (Ne.symm hb)).trans hu) ⟨_, q⟩ ?_
  exact ⟨hz, its', _, hv, q⟩
theorem Inv.lnew {its : List Value} {t' : Nat} (I : Inv X pins σ H s) (hv : Vals ys its) (hz : ys.length ≤ sizeLine) :
    Inv X pins σ (upd H s.heap.objs.size (.lst ys)) { s with heap := s.heap.push { cls := .type "list", data := .seq its.toArray }, toks := t' } :=
  I.laid (fun _ _ q => Heap.get?_push_of_some _ q) (Nat.le_refl _) ⟨hz, its, 0, hv, Heap.get?_push_size _ rfl⟩
theorem Inv.fresh (I : Inv X pins σ H s) : H s.heap.objs.size = none := I.hok.fresh (Nat.le_refl _)
theorem Inv.lstM (I : Inv X pins σ H s) (hH : H l = some (.lst xs)) : xs.length ≤ sizeLine ∧ ∃ (its : List Value) (n : Nat), Vals xs its ∧ xs.length = its.length ∧ s.heap.get? l = some { cls := .type "list", data := .seq its.toArray n } := by
  obtain ⟨z, its, n, r, e⟩ := I.hok l _ hH
  exact ⟨z, its, n, r, r.length, e⟩
end
section
variable {X : Cx}
def vC : V → List V → Hp → VK → Prop := fun x vs H Q => ∃ l xs y, x = .ref l ∧ vs = [y] ∧ H l = some (.lst xs) ∧ xs.length < sizeLine ∧ Q .non (upd H l (.lst (xs ++ [y])))
theorem du : MtM X "list.append" vC := by
  intro pins s σ H x vs v us Q I rx rv h
  obtain ⟨l, xs, y, rfl, rfl, hH, hz, q⟩ := h
  cases rx
  obtain ⟨u, rfl, ru⟩ := rv.one
  obtain ⟨z, its, n, r, hl, e⟩ := I.lstM hH
  refine call_meets F.slot_list_append ⟨_, e, rfl⟩ F.entry_list_append (F.args_list_append_2 _ _) (PySem.list_append l its.toArray n u (by rw [List.size_toArray]; omega)) ⟨e, ?_⟩
  refine ⟨.non, _, I.lset (its' := its ++ [u]) hH e (by simp) (r.append (.cons ru .nil)) ?_, rfl, q⟩
  rw [List.length_append, List.length_singleton]
  omega
def EW : V → List V → Hp → VK → Prop := fun x vs H Q => ∃ l xs y, x = .ref l ∧ vs = [] ∧ H l = some (.lst xs) ∧ xs[xs.length - 1]? = some y ∧ Q y (upd H l (.lst xs.dropLast))
theorem FR : MtM X "list.pop" EW := by
  intro pins s σ H x vs v us Q I rx rv h
  obtain ⟨l, xs, y, rfl, rfl, hH, hy, q⟩ := h
  cases rx
  have hus := rv.zero
  subst hus
  obtain ⟨z, its, n, r, hl, e⟩ := I.lstM hH
  obtain ⟨u, hu, ru⟩ := r.get hy
  have hy' : its.toArray[its.toArray.size - 1]? = some u := by
    show its.toArray[its.length - 1]? = some u
    rw [← Array.getElem?_toList, ← hl]
    exact hu
  refine call_meets F.slot_list_pop ⟨_, e, rfl⟩ F.entry_list_pop (F.args_list_pop_1 _) (MeetsSeq.list_pop_last l its.toArray n u hy' (by rw [List.size_toArray]; omega)) ⟨e, ?_⟩
  refine ⟨y, _, I.lset (its' := its.dropLast) hH e ?_ r.dropLast ?_, ru, q⟩
  · show its.toArray.eraseIdxIfInBounds (its.toArray.size - 1) = its.dropLast.toArray
    rw [List.size_toArray, List.eraseIdxIfInBounds_toArray, w8]
  · rw [List.length_dropLast]
    omega
def uf : V → List V → Hp → VK → Prop := fun x vs H Q => ∃ l xs, x = .ref l ∧ vs = [] ∧ H l = some (.lst xs) ∧ Q .non (upd H l (.lst xs.reverse))
theorem pB : MtM X "list.reverse" uf := by
  intro pins s σ H x vs v us Q I rx rv h
  obtain ⟨l, xs, rfl, rfl, hH, q⟩ := h
  cases rx
  have hus := rv.zero
  subst hus
  obtain ⟨z, its, n, r, hl, e⟩ := I.lstM hH
  refine call_meets F.slot_list_reverse ⟨_, e, rfl⟩ F.entry_list_reverse (F.args_list_reverse_1 _) (AutoSeq1.list_reverse_list_0 l its.toArray n (by rw [List.size_toArray]; omega)) ⟨e, ?_⟩
  refine ⟨.non, _, I.lset (its' := its.reverse) hH e (by simp) r.reverse ?_, rfl, q⟩
  rw [List.length_reverse]
  omega
end
section
variable {prog : Program} {w : World} {A : Around} {E : Value → Shared → Prop} {s : Shared}
end
section
variable {X : Cx}
end
end L2
namespace Att
open PySem PySem.W PySem.Calls PyProof.Rows
theorem pH {P : Params} {h : Heap} : ∀ (ns : List Int) (vs : List Value), WellAll P h vs (ns.map WData.int) → IntsAre vs ns := by
  intro ns
  induction ns with
  | nil =>
    intro vs w
    rw [List.map_nil] at w
    cases w
    exact .nil
  | cons n ns ih =>
    intro vs w
    rw [List.map_cons] at w
    cases w with
    | cons a b =>
      cases a
      exact .cons _ _ (ih _ b)
theorem yt {l : OpenLaw} {n : Nat} (hn : l.most = some n) {P : Params} {h : Heap} {args : List WData} {vals : List Value}
    (hpre : l.row.toRowW.claim.pre args = true) (hwl : WellAll P h vals args) :
    ∃ a vs ns, vals = [Value.ref a] ∧ args = [WData.list (ns.map WData.int)] ∧ h.get? a = some { cls := .type "list", data := .seq vs.toArray } ∧ IntsAre vs ns ∧ ns.length ≤ n := by
  have hsh : WShape.hasAll [] args [.list .int] = true := (pre_splitW hpre).1
  have hc : l.pre.holds [] { args := args } = true := (pre_splitW hpre).2
  obtain ⟨d, r, rfl, h1, h2⟩ := hasAllW_cons hsh
  obtain rfl := hasAllW_nil h2
  obtain ⟨xs, rfl, h3⟩ := hasW_list h1
  obtain ⟨ns, rfl⟩ := items_int h3
  have hlen : ns.length ≤ n := by
    unfold OpenLaw.pre at hc
    have h4 : (WTm.not (.lt (.lit (.int (n : Int))) (.len (.arg 0)))).holds [] { args := [.list (ns.map .int)] } = true := by
      have h4 := (holds_andW hc).1
      rw [hn] at h4
      exact h4
    have h5 := condW_of h4 (w_not (w_lt w_lit (w_len_list (w_arg rfl))))
    rw [List.length_map] at h5
    refine Nat.le_of_not_lt fun q => ?_
    have q' : (n : Int) < ((ns.length : Nat) : Int) := by omega
    first
      | (rw [decide_eq_true q'] at h5; exact absurd h5 (by decide))
      | (simp at h5; omega)
  cases hwl with
  | cons w1 w2 =>
    cases w2
    cases w1 with
    | list ho hall => exact ⟨_, _, ns, rfl, rfl, ho, pH ns _ hall, hlen⟩
theorem yp (l : OpenLaw) (args : List WData) : l.row.toRowW.claim.post args (.bool true) args = true :=
  postW_of (r := l.row.toRowW) (X := (true == true))
    (show WShape.has [] (.bool true) .bool = true by first | rfl | decide | simp [WShape.has, WShape.arms, WShape.armsAll])
    (show (WTm.eq .res (.lit (.bool true))).value [] { args := args, res := some (.bool true), after := args } = some (.bool (true == true)) from w_eq_bool (w_res rfl) w_lit) rfl
theorem vd {l : OpenLaw} {n : Nat} {q : Program} {loose : List Str} {XP : (Str → Option Value) → Heap → Prop} {YP : World → Heap → Prop} {d : DefRec}
    (hn : l.most = some n) (hdf : d.params.defaults = [])
    (call : ∀ (w : World) (s₀ s₁ : Shared) (mg mb : Str → Option Value) (fa : Addr) (o : Obj) (pm cd doc : Value) (a : Addr) (vs : List Value) (ns : List Int),
      Ground q loose [] XP w s₀ mg mb s₁.heap → YP w s₁.heap →
      s₁.heap.get? fa = some o → o.data = .func (docDef d.name d.params d.body d.scope pm cd doc) → s₁.heap.CodeRec cd d.name → mg d.name = some (.ref fa) →
      s₁.heap.get? a = some { cls := .type "list", data := .seq vs.toArray } → IntsAre vs ns → ns.length ≤ n → s₁.gens = #[] →
      codeAny (model l.prog w) callerA (.call (.ref fa) ⟨[.ref a], []⟩) (fun r s' => r = .ok (.ret (.bool true)) ∧ OldK s₁.heap s'.heap ∧ s'.os = s₁.os ∧ AllBare s'.gens) s₁) :
    WalkO q loose XP YP l.row.toRowW d [] (fun f vs => PySem.call f vs) := by
  intro w s₀ s₁ mg mb G Y fa o pm cd doc dV kV ho hd hcd hD hmg hg args vals as hpre hlay hrd hwl hlo
  obtain rfl : dV = .none := Dflts.none hD hdf
  obtain rfl : kV = .none := Dflts.noKw hD
  obtain ⟨a, vs, ns, rfl, rfl, hobj, hints, hlen⟩ := yt hn hpre hwl
  refine enter_call (codeAny_mono (call w s₀ s₁ mg mb fa o pm cd doc a vs ns G Y ho (fd_plain hd) hcd hmg hobj hints hlen hg) fun r s' hq => ?_)
  obtain ⟨rfl, h2, h3, h4⟩ := hq
  exact ⟨.inl ⟨.bool true, .bool true, [], rfl, fun _ => rfl, .bool true, yp l _, fun _ => ⟨List.Pairwise.nil, fun _ hm => (nomatch hm)⟩⟩, h2, h3, h4⟩
section
variable {prog : Program} {w : World} {A : Around} {E : Value → Shared → Prop} {s : Shared} {K : Frag}
end
end Att
namespace L2
open PySem PySem.Spec PyProof.Rows
theorem rz : ∀ {vs : List Value} {ns : List Int}, IntsAre vs ns → Vals (ns.map V.int) vs
  | _, _, .nil => .nil
  | _, _, .cons n t h => .cons ⟨t, rfl⟩ (rz h)
def wa (H : Hp) : Prop := ∀ b, H b = none ∨ ∃ o xs, H b = some (.frz o (.lst xs))
theorem Ac {P : Program} {w : World} {K : PySem.W.Frag} {mg mb : Str → Option Value} {CX : CXT} {k : Nat} {fa a : Addr} {fd : FuncData} {x : Str} {sp : Sp} {s₁ : Shared} {vs : List Value} {ns : List Int}
    (KX : K.In s₁.heap) (hns : s₁.heap.Ns mainGlobals mg) (hb : s₁.heap.Ns builtinsNs mb) (hbb : ∀ x : Str, x ≠ "__name__" → mb x = bootBuiltins x) (hlim : s₁.heap.NoLimit) (hseer : s₁.heap.NoSeer) (hg : s₁.gens = #[])
    (ha : s₁.heap.get? a = some { cls := .type "list", data := .seq vs.toArray }) (hi : IntsAre vs ns) (hl : ns.length ≤ sizeLine) (hr : cC k callerA)
    (F : ∀ base : Heap, K.In base → base.Ns mainGlobals mg → dR P w K mg base CX k fa fd [x] sp) (hbind : ∀ (s : Shared) (u : Value), BindsTo s fd ⟨[u], []⟩ [(x, u)])
    (hsp : ∀ H : Hp, wa H → SqL K H a (ns.map V.int) → sp [.ref a] H (fun v _ => v = .bl true) fun _ _ _ => False)
    (hCX : ∀ H e s', CX [] H s₁ (fun _ _ _ => False) e s' → False) :
    codeAny (model P w) callerA (.call (.ref fa) ⟨[.ref a], []⟩) (fun r s' => r = .ok (.ret (.bool true)) ∧ OldK s₁.heap s'.heap ∧ s'.os = s₁.os ∧ AllBare s'.gens) s₁ := by
  have rv := rz hi
  have tN := hi.length
  have core : ∀ H : Hp, wa H → SqL K H a (ns.map V.int) → HOk P w H s₁.heap → (∀ b, H b ≠ none → b = a) → (H a ≠ none → K.lookup a = none) →
      codeAny (model P w) callerA (.call (.ref fa) ⟨[.ref a], []⟩) (fun r s' => r = .ok (.ret (.bool true)) ∧ OldK s₁.heap s'.heap ∧ s'.os = s₁.os ∧ AllBare s'.gens) s₁ := by
    intro H hO hS hok hA hK
    have base_of : ∀ {b : Addr} {o : Obj}, s₁.heap.get? b = some o → H b = none → (kG s₁.heap H).get? b = some o := fun e n => An e n
    have noA : ∀ {b : Addr} {o : Obj} {es : Array DictEntry} {ep : Nat}, s₁.heap.get? b = some o → o.data = .dict es ep → H b = none := fun {b o es ep} e d => by
      cases q : H b with
      | none => rfl
      | some u =>
        have e' : b = a := hA b (by rw [q]; simp)
        subst e'
        rw [ha] at e; cases e
        have d' : Data.seq vs.toArray _ = Data.dict es ep := d
        cases d'
    have nsK : ∀ {b : Addr} {m : Str → Option Value}, s₁.heap.Ns b m → (kG s₁.heap H).Ns b m := fun {b m} ⟨o, es, ep, e, d, r⟩ => ⟨o, es, ep, base_of e (noA e d), d, r⟩
    have hKb : K.In (kG s₁.heap H) := fun b o e => base_of (KX b o e) (by
      cases q : H b with
      | none => rfl
      | some u =>
        have e' : b = a := hA b (by rw [q]; simp)
        subst e'
        rw [hK (by rw [q]; simp)] at e; cases e)
    have noM : ∀ {b : Addr} {o : Obj}, s₁.heap.get? b = some o → o.cls = .type "module" → H b = none := fun {b o} e d => by
      cases q : H b with
      | none => rfl
      | some u =>
        have e' : b = a := hA b (by rw [q]; simp)
        subst e'
        rw [ha] at e; cases e
        exact absurd (show Value.type "list" = Value.type "module" from d) (by decide)
    have hN : (kG s₁.heap H).NoSeer := ⟨let ⟨mc, x, y⟩ := hseer.statics; ⟨mc, nsK x, y⟩, let ⟨mc, x, y⟩ := hseer.mods; ⟨mc, nsK x, y⟩, let ⟨mc, x, y⟩ := hseer.imp; ⟨mc, nsK x, y⟩, let ⟨mg', bm, ob, x, y, z, u, v⟩ := hseer.main; ⟨mg', bm, ob, nsK x, y, base_of z (noM z u), u, v⟩⟩
    have hM : Mod K mg (kG s₁.heap H) := ⟨hKb, nsK hns, ⟨mb, nsK hb, hbb⟩, (let ⟨mc, h1, h2⟩ := hlim; ⟨mc, nsK h1, h2⟩), hN⟩
    have e0 : kH P w K mg (kG s₁.heap H) callerA [] s₁ H := ⟨rfl, hM, fun b o e => Cf e, Nat.le_of_eq (xV _ _), trivial, fun b hb => absurd (show b ∈ ([] : List Addr) from hb) (by simp), hok, .of_eq hg⟩
    refine codeAny_mono ((F _ hKb (nsK hns)).run callerA [] s₁ H ⟨[.ref a], []⟩ [.ref a] [.ref a] _ _ hr e0 (hbind s₁ (.ref a)) (.cons rfl .nil) (hsp H hO hS)) fun r s' h => ?_
    cases r with
    | error e => exact (hCX H e s' h).elim
    | ok fl =>
      cases fl with
      | next => exact False.elim h
      | brk => exact False.elim h
      | cont => exact False.elim h
      | ret u =>
        obtain ⟨v, H', os, bare, un, hok', r', q⟩ := h
        have q' : v = .bl true := q
        subst q'
        obtain rfl : u = Value.bool true := r'
        refine ⟨rfl, OldK.of_keep fun b o e => ?_, os, bare⟩
        cases q : H b with
        | none => exact un.keep b o e q (by intro z; exact absurd (show b ∈ ([] : List Addr) from z) (by simp)) (by simp)
        | some u =>
          rcases hO b with z | ⟨ob, xs, z⟩
          · rw [q] at z; cases z
          · have z2 := un.frzs b ob _ z
            obtain ⟨e1, _⟩ := hok b _ z
            obtain ⟨e2, _⟩ := hok' b _ z2
            rw [e] at e1; cases e1
            exact e2
  cases hk : K.lookup a with
  | some o =>
    have e := KX a o hk
    rw [ha] at e
    cases e
    refine core (fun _ => none) (fun _ => .inl rfl) (.inr ⟨_, vs.toArray, _, hk, rfl, rfl, rfl, by rw [List.size_toArray, tN]; exact hl, by simpa using rv⟩) (fun b u z => by have z' : (none : Option HO) = some u := z; cases z') (fun b z => absurd rfl z) fun z => absurd rfl z
  | none =>
    refine core (fun b => if b = a then some (.frz { cls := .type "list", data := .seq vs.toArray } (.lst (ns.map V.int))) else none) (fun b => ?_) (.inl (.inr ⟨{ cls := .type "list", data := .seq vs.toArray }, if_pos rfl⟩)) (fun b u z => ?_) (fun b z => ?_) fun _ => hk
    · by_cases hb : b = a
      · exact .inr ⟨_, _, if_pos hb⟩
      · exact .inl (if_neg hb)
    · by_cases hb : b = a
      · have z' := (if_pos hb).symm.trans z
        cases z'
        subst hb
        exact ⟨ha, by rw [List.length_map]; exact hl, vs, _, rv, ha⟩
      · have z' := (if_neg hb).symm.trans z
        cases z'
    · by_cases hb : b = a
      · exact hb
      · exact absurd (if_neg hb) z
end L2
namespace L2
open PySem PySem.Spec PyProof.Rows
theorem BR {l : PySem.W.OpenLaw} {n k : Nat} {q : Program} {loose : List Str} {XP : (Str → Option Value) → Heap → Prop} {YP : World → Heap → Prop} {d : DefRec} {K : Params → PySem.W.Frag} {CX : World → CXT} {sp : World → Sp} {x : Str}
    (hn : l.most = some n) (hn2 : n ≤ sizeLine) (hdf : d.params.defaults = []) (hr : cC k callerA) (hi : importsNone q = true)
    (hY : ∀ (w : World) (h : Heap), YP w h → (K w.params).In h)
    (F : ∀ (w : World) (mg : Str → Option Value) (fa : Addr) (h : Heap), (K w.params).In h → h.Ns mainGlobals mg → mg d.name = some (.ref fa) →
      ∃ fd : FuncData, (∀ (s : Shared) (u : Value), BindsTo s fd ⟨[u], []⟩ [(x, u)]) ∧
        ∀ base : Heap, (K w.params).In base → base.Ns mainGlobals mg → dR l.prog w (K w.params) mg base (CX w) k fa fd [x] (sp w))
    (hsp : ∀ (w : World) (H : Hp) (a : Addr) (ns : List Int), ns.length ≤ n → wa H → SqL (K w.params) H a (ns.map V.int) → sp w [.ref a] H (fun v _ => v = .bl true) fun _ _ _ => False)
    (hCX : ∀ (w : World) (H : Hp) (s : Shared) (e : Value) (s' : Shared), CX w [] H s (fun _ _ _ => False) e s' → False) :
    PySem.W.WalkO q loose XP YP l.row.toRowW d [] (fun f vs => PySem.call f vs) := by
  refine Att.vd hn hdf fun w s₀ s₁ mg mb fa o pm cd doc a vs ns G Y ho hd hcd hmg hobj hints hlen hg => ?_
  have KX := hY w _ Y
  obtain ⟨fd, hb, hF⟩ := F w mg fa _ KX G.T.g hmg
  exact Ac KX G.T.g G.T.b G.T.builtins G.T.nolimit (G.T.seer hi) hg hobj hints (Nat.le_trans hlen hn2) hr hF hb (fun H hO hS => hsp w H a ns hlen hO hS) fun H e s' => hCX w H s₁ e s'
end L2
namespace L2
open PySem PySem.Spec PyProof.Rows
def inClass (s : Stmt) (j : Nat) : Stmt := match s with
  | .ClassDef _ _ _ body _ _ _ _ _ _ _ => body.getD j (.Pass ⟨0, 0, 0, 0⟩)
  | _ => .Pass ⟨0, 0, 0, 0⟩
def bj (s : Stmt) : Arguments := match s with
  | .FunctionDef _ a _ _ _ _ _ _ _ _ => a
  | _ => { posonlyargs := [], args := [], vararg := none, kwonlyargs := [], kw_defaults := [], kwarg := none, defaults := [] }
def aZ (s : Stmt) : List Stmt := match s with
  | .FunctionDef _ _ b _ _ _ _ _ _ _ => b
  | _ => []
def aD (s : Stmt) : Scope := match s with
  | .FunctionDef _ _ _ _ _ _ sc _ _ _ => sc
  | _ => { kind := .function, names := [], isGenerator := false, isCoroutine := false }
abbrev CX0 : CXT := fun _ _ _ _ _ _ => False
abbrev E0 : XK := fun _ _ _ => False
structure Fun (K : PySem.W.Frag) (x qual : Str) (st : Stmt) (f : Addr) (fd : FuncData) : Prop where
  ex : ∃ (oc : Value) (od : Option Addr) (kV doc pm : Value) (an : Option Addr) (cdv ct : Value) (osl : Array (Option Value)),
    fd = PySem.W.fnOf x qual (bj st) (aZ st) (aD st) .none kV doc pm an cdv ct ∧ K.lookup f = some ⟨oc, od, .func fd, osl⟩ ∧ PySem.W.codeIn K cdv qual = true
  kp : PySem.W.keepIn K (.ref f) = true
section
variable {P : Program} {w : World} {K : PySem.W.Frag} {mg : Str → Option Value} {base : Heap}
theorem Fun.ok {x qual : Str} {st : Stmt} {f : Addr} {fd : FuncData} {N ps : List Str} {k : Nat} {sp : Sp} (F : Fun K x qual st f fd) (S : bf N ps (aD st)) (len : ∀ vs H Q E, sp vs H Q E → vs.length = ps.length)
    (hbody : ∀ (cdv : Value) (A : Around) (outer : List Env) (s : Shared) (H : Hp) (vs : List V) (Q : VK) (E : XK), cC k (A.deeper (envOfC qual (aD st) s.heap.objs.size f cdv)) → sp vs H Q E →
      ∃ t, PSs (jC CX0 P w K mg base N qual (aD st) f cdv A outer s H E).nox (aZ st) t ∧ t { nx := fun _ H' => Q .non H', rt := Q } (start N vs) H) : dR P w K mg base CX0 (k + 1) f fd ps sp := by
  obtain ⟨oc, od, kV, doc, pm, an, cdv, ct, osl, rfl, lk, hcd⟩ := F.ex
  refine AI lk hcd S len fun A outer s H vs Q E hr hsp => ?_
  obtain ⟨t, h, q⟩ := hbody cdv A outer s H vs Q E hr hsp
  exact ⟨t, h.nox, q⟩
theorem Fun.binds {x qual : Str} {st : Stmt} {f : Addr} {fd : FuncData} {ps : List Str} (F : Fun K x qual st f fd)
    (h : ∀ (kV doc pm : Value) (an : Option Addr) (cdv ct : Value) (us : List Value), us.length = ps.length → bindArgs (PySem.W.fnOf x qual (bj st) (aZ st) (aD st) .none kV doc pm an cdv ct) ⟨us, []⟩ = pure (ps.zip us)) : Binds K fd ps [] := by
  obtain ⟨oc, od, kV, doc, pm, an, cdv, ct, osl, rfl, lk, hcd⟩ := F.ex
  exact .all (h kV doc pm an cdv ct)
theorem bY {x qual : Str} {st : Stmt} {f : Addr} {oc : Value} {od an : Option Addr} {osl : Array (Option Value)} {kV doc pm cdv ct : Value} (l : K.lookup f = some ⟨oc, od, .func (PySem.W.fnOf x qual (bj st) (aZ st) (aD st) .none kV doc pm an cdv ct), osl⟩)
    (c : PySem.W.codeIn K cdv qual = true) (k : PySem.W.keepIn K (.ref f) = true) : Fun K x qual st f (PySem.W.fnOf x qual (bj st) (aZ st) (aD st) .none kV doc pm an cdv ct) := ⟨⟨oc, od, kV, doc, pm, an, cdv, ct, osl, rfl, l, c⟩, k⟩
end
section
variable {X : Cx}
theorem pv (i : Nat) {x : Str} {pos : Pos} (hN : X.N[i]? = some x := by rfl) (hv : Vis X.env.scope x := by first | exact Or.inl rfl | exact Or.inr (Or.inl rfl) | exact Or.inr (Or.inr rfl)) (hd : (x == ("__debug__" : Str)) = false := by decide)
    (hcd : (x == ("__classdict__" : Str)) = false := by decide) : PE X (.Name x pos) (uw i) := Cy hN hv hd hcd
end
theorem qB {A B : Prop} (h : B) : if false = true then A else B := by
  rw [if_neg Bool.false_ne_true]
  exact h
theorem qJ {A B : Prop} (h : A) : if true = true then A else B := by
  rw [if_pos rfl]
  exact h
def bc (H H' : Hp) : Prop := ∀ b o, H b = some o → H' b = some o
theorem bc.refl (H : Hp) : bc H H := fun _ _ h => h
theorem bc.trans {H H1 H2 : Hp} (a : bc H H1) (b : bc H1 H2) : bc H H2 := fun c o h => b c o (a c o h)
theorem bc.free {H H' : Hp} (e : bc H H') {l : Addr} (h : H' l = Option.none) : H l = Option.none := by
  cases q : H l with
  | none => rfl
  | some o =>
    rw [e l o q] at h
    cases h
theorem bc.seq {K : PySem.W.Frag} {H H' : Hp} {a : Addr} {xs : List V} (e : bc H H') (h : SqL K H a xs) : SqL K H' a xs := by
  rcases h with (h | ⟨o, h⟩) | h
  · exact .inl (.inl (e _ _ h))
  · exact .inl (.inr ⟨o, e _ _ h⟩)
  · exact .inr h
end L2
set_option maxRecDepth 100000
set_option maxHeartbeats 4000000
namespace L2
open PySem PySem.Spec PyProof.Rows
def cT (env : Env) : List (Str × NameKind) → List (Str × Addr) → List (Str × Addr)
  | [], cs => cs
  | (n, k) :: r, cs => if k == .free then cT env r ((n, (env.cells.lookup n).getD 0) :: cs) else cT env r cs
theorem qi {env : Env} : ∀ (names : List (Str × NameKind)) (cs : List (Str × Addr)), (∀ n, (n, NameKind.free) ∈ names → ∃ c, env.cells.lookup n = some c) →
    (forIn names cs fun (x : Str × NameKind) (r : List (Str × Addr)) => (if (x.2 == NameKind.free) = true then do
        let a ← cellOf env x.1
        pure (ForInStep.yield ((x.1, a) :: r)) else pure (ForInStep.yield r) : Sem (ForInStep (List (Str × Addr))))) = pure (cT env names cs)
  | [], cs, _ => rfl
  | (n, k) :: r, cs, h => by
    rw [List.forIn_cons]
    by_cases hk : (k == NameKind.free) = true
    · have hk' : k = .free := by simpa using hk
      subst hk'
      obtain ⟨c, hc⟩ := h n List.mem_cons_self
      simp only [hk, if_true, cT, cellOf, hc, pure_bind, Option.getD_some]
      exact qi r _ fun m hm => h m (List.mem_cons_of_mem _ hm)
    · simp only [hk, if_false, cT, pure_bind]
      exact qi r cs fun m hm => h m (List.mem_cons_of_mem _ hm)
theorem sk {scope : Scope} {env : Env} (h : ∀ n, (n, NameKind.free) ∈ scope.names → ∃ c, env.cells.lookup n = some c) : closureFor scope env = pure (cT env scope.names []) := by
  have := qi scope.names [] h
  simp only [closureFor]
  rw [← this]
  exact bind_pure _
theorem mj {env : Env} : ∀ (names : List (Str × NameKind)) (cs : List (Str × Addr)), (∀ n, (n, NameKind.free) ∈ names → ∃ c, env.cells.lookup n = some c) →
    (∀ x c, cs.lookup x = some c → env.cells.lookup x = some c) → ∀ x c, (cT env names cs).lookup x = some c → env.cells.lookup x = some c
  | [], cs, _, h, x, c, e => h x c e
  | (n, k) :: r, cs, hf, h, x, c, e => by
    unfold cT at e
    by_cases hk : (k == NameKind.free) = true
    · rw [if_pos hk] at e
      have hk' : k = .free := by simpa using hk
      subst hk'
      refine mj r _ (fun m hm => hf m (List.mem_cons_of_mem _ hm)) (fun y d q => ?_) x c e
      obtain ⟨c', hc'⟩ := hf n List.mem_cons_self
      rw [List.lookup_cons] at q
      split at q
      · rename_i hy
        have : y = n := by simpa using hy
        subst this
        rw [hc', Option.getD_some] at q
        rw [hc']; exact q
      · exact h y d q
    · rw [if_neg hk] at e
      exact mj r cs (fun m hm => hf m (List.mem_cons_of_mem _ hm)) h x c e
theorem kJ {env : Env} : ∀ (names : List (Str × NameKind)) (cs : List (Str × Addr)) (x : Str), (∃ c, cs.lookup x = some c) → ∃ c, (cT env names cs).lookup x = some c
  | [], cs, _, h => h
  | (n, k) :: r, cs, x, h => by
    unfold cT
    by_cases hk : (k == NameKind.free) = true
    · rw [if_pos hk]
      refine kJ r _ x ?_
      rw [List.lookup_cons]
      split
      · exact ⟨_, rfl⟩
      · exact h
    · rw [if_neg hk]
      exact kJ r cs x h
theorem jL {env : Env} : ∀ (names : List (Str × NameKind)) (cs : List (Str × Addr)) (x : Str), (x, NameKind.free) ∈ names → ∃ c, (cT env names cs).lookup x = some c
  | (n, k) :: r, cs, x, h => by
    unfold cT
    rcases List.mem_cons.mp h with e | h
    · cases e
      rw [if_pos (by rfl)]
      refine kJ r _ n ?_
      exact ⟨_, by rw [List.lookup_cons]; simp; rfl⟩
    · by_cases hk : (k == NameKind.free) = true
      · rw [if_pos hk]; exact jL r _ x h
      · rw [if_neg hk]; exact jL r cs x h
theorem d6 : ∀ (names : List (Str × NameKind)) (n : Nat) (acc : List (Str × Addr)), cellsFrom n names acc = cellsFrom n names [] ++ acc
  | [], _, _ => rfl
  | (x, k) :: r, n, acc => by
    unfold cellsFrom
    split
    · rw [d6 r (n + 1) ((x, n) :: acc), d6 r (n + 1) [(x, n)], List.append_assoc]; rfl
    · exact d6 r n acc
theorem jF : ∀ (names : List (Str × NameKind)) (n : Nat) {x : Str} {c : Addr}, (x, c) ∈ cellsFrom n names [] → (x, NameKind.cell) ∈ names
  | [], _, _, _, h => nomatch h
  | (y, k) :: r, n, x, c, h => by
    unfold cellsFrom at h
    split at h
    · rename_i hk
      have hk' : k = .cell := by simpa using hk
      rw [d6] at h
      rcases List.mem_append.mp h with q | q
      · exact List.mem_cons_of_mem _ (jF r _ q)
      · cases List.mem_singleton.mp q
        rw [hk']
        exact List.mem_cons_self
    · exact List.mem_cons_of_mem _ (jF r _ h)
theorem wY {l m : List (Str × Addr)} {x : Str} {c : Addr} (h : (l ++ m).lookup x = some c) : l.lookup x = some c ∨ (l.lookup x = none ∧ m.lookup x = some c) := by
  rw [List.lookup_append] at h
  cases e : l.lookup x with
  | none => rw [e] at h; exact .inr ⟨rfl, h⟩
  | some d => rw [e] at h; exact .inl h
theorem m6 {l m : List (Str × Addr)} {x : Str} (h : l.lookup x = none) : (l ++ m).lookup x = m.lookup x := by rw [List.lookup_append, h]; rfl
theorem tV {l m : List (Str × Addr)} {x : Str} (h : ∃ c, m.lookup x = some c) : ∃ c, (l ++ m).lookup x = some c := by
  cases e : l.lookup x with
  | none => rw [m6 e]; exact h
  | some c => exact ⟨c, by rw [List.lookup_append, e]; rfl⟩
theorem ya (h : Heap) (names : List (Str × NameKind)) : CellsOk (pushCells (h.push { cls := .type "dict", data := .dict #[] }) names) (h.objs.size + 1) (cellsFrom (h.objs.size + 1) names []) := by
  have := cellsFrom_ok names (h.push { cls := .type "dict", data := .dict #[] }) (h.objs.size + 1) [] ⟨fun _ _ hm => (nomatch hm), List.Pairwise.nil⟩ (by rw [Heap.size_push]; exact Nat.le_refl _)
  rwa [Heap.size_push] at this
theorem vo {M : Model} {A : Around} {E : Value → Shared → Prop} {s : Shared} {scope : Scope} {globals : Addr} {closure : List (Str × Addr)} {qual : Str} {func : Option Addr} {code : Value} {outer : Env} {builtins : Addr} {Q : Env → Shared → Prop}
    (hQ : Q { scope := scope, locals := s.heap.objs.size, globals := globals, cells := cellsFrom (s.heap.objs.size + 1) scope.names closure, qual := qual, func := func, code := outer.code, frame := outer.frame, builtins := outer.builtins } { s with heap := pushCells (s.heap.push { cls := .type "dict", data := .dict #[] }) scope.names }) :
    wpAny M A (newFunctionEnv scope globals closure [] qual func code (some outer) builtins) Q E s := by
  simp only [newFunctionEnv, Option.isSome_some, if_true]
  refine wpAny_bind (wpAny_alloc ?_)
  refine wpAny_bind (wpAny_layCells _ (fun name kind cells => by cases hkc : kind == NameKind.cell <;> simp [hkc]) _ _ _ _ ?_)
  rw [show ({ s with heap := s.heap.push { cls := .type "dict", data := .dict #[] } } : Shared).heap.objs.size = s.heap.objs.size + 1 from Heap.size_push ..]
  refine wpAny_bind ?_
  rw [List.forIn_nil]
  exact wpAny_pure (wpAny_pure hQ)
def cxC (X : Cx) (scope : Scope) (N' : List Str) (fp : List Addr) (s : Shared) (H : Hp) : Cx where
  prog := X.prog
  w := X.w
  K := X.K
  mg := X.mg
  base := X.base
  A := X.A
  N := N'
  s₀ := s
  H₀ := H
  env := compEnvC scope (cellsFrom (s.heap.objs.size + 1) scope.names (cT X.env scope.names [])) s.heap.objs.size X.env
  outer := X.stack
  stack := X.stack
  ex := fp
  calm := X.calm
  fn := fun x => scope.names.lookup x == some .cell
  pn := []
  xe := fun _ _ => False
def jA (X : Cx) (scope : Scope) : List Str → List Nat → Prop
  | [], [] => True
  | x :: xs, j :: js => X.N[j]? = some x ∧ (X.env.scope.names.lookup x = some .cell ∨ X.env.scope.names.lookup x = some .free) ∧ scope.names.lookup x = some .free ∧ jA X scope xs js
  | _, _ => False
theorem jA.get {X : Cx} {scope : Scope} : ∀ {xs : List Str} {js : List Nat} {i : Nat} {x : Str}, jA X scope xs js → xs[i]? = some x →
    ∃ j, js[i]? = some j ∧ X.N[j]? = some x ∧ (X.env.scope.names.lookup x = some .cell ∨ X.env.scope.names.lookup x = some .free) ∧ scope.names.lookup x = some .free
  | [], _, _, _, _, e => by simp at e
  | _ :: _, [], _, _, h, _ => h.elim
  | y :: ys, j :: js, 0, x, h, e => by
    simp at e; subst e
    exact ⟨j, rfl, h.1, h.2.1, h.2.2.1⟩
  | y :: ys, j :: js, i + 1, x, h, e => by
    obtain ⟨j', e1, r⟩ := jA.get (i := i) (x := x) h.2.2.2 (by simpa using e)
    exact ⟨j', by simpa using e1, r⟩
theorem jA.length {X : Cx} {scope : Scope} : ∀ {xs : List Str} {js : List Nat}, jA X scope xs js → xs.length = js.length
  | [], [], _ => rfl
  | [], _ :: _, h => h.elim
  | _ :: _, [], h => h.elim
  | _ :: _, _ :: _, h => by rw [List.length_cons, List.length_cons, jA.length h.2.2.2]
def jQ (m : Nat) (caps : List Nat) (σ : St) : St := List.replicate m none ++ caps.map fun i => (σ[i]?).getD none
theorem lookup_mem {α β : Type} [BEq α] [LawfulBEq α] : ∀ {l : List (α × β)} {x : α} {b : β}, l.lookup x = some b → (x, b) ∈ l
  | [], _, _, h => by simp at h
  | (a, c) :: r, x, b, h => by
    rw [List.lookup_cons] at h
    split at h
    · rename_i q
      have : x = a := by simpa using q
      subst this
      cases h
      exact List.mem_cons_self
    · exact List.mem_cons_of_mem _ (lookup_mem h)
section
variable {X : Cx}
theorem fQ {scope : Scope} {env : Env} : ∀ {names : List (Str × NameKind)} {x : Str} {k : NameKind}, (names.map fun (n, k) => if (k == NameKind.free && env.scope.kind == .function && env.kindOf n == some .cell) then (n, NameKind.cell) else (n, k)).lookup x = some k →
    ∃ k', names.lookup x = some k' ∧ (k' = k ∨ (k' = .free ∧ k = .cell))
  | [], _, _, h => by simp at h
  | (n, k0) :: r, x, k, h => by
    have h' : List.lookup x ((if (k0 == NameKind.free && env.scope.kind == .function && env.kindOf n == some .cell) = true then (n, NameKind.cell) else (n, k0)) :: r.map _) = some k := h
    by_cases hc : (k0 == NameKind.free && env.scope.kind == .function && env.kindOf n == some .cell) = true
    · rw [if_pos hc, List.lookup_cons] at h'
      rw [List.lookup_cons]
      split at h'
      · rename_i q
        cases h'
        have hk : k0 = .free := by simp only [Bool.and_eq_true] at hc; simpa using hc.1.1
        exact ⟨k0, rfl, .inr ⟨hk, rfl⟩⟩
      · rename_i q
        exact fQ (scope := scope) h'
    · rw [if_neg hc, List.lookup_cons] at h'
      rw [List.lookup_cons]
      split at h'
      · rename_i q
        cases h'
        exact ⟨k0, rfl, .inl rfl⟩
      · rename_i q
        exact fQ (scope := scope) h'
structure la (X : Cx) (scope : Scope) (own cap : List Str) (caps : List Nat) : Prop where
  kind : scope.kind = .function
  cell : ∀ y ∈ scope.names, y.2 = .cell → scope.names.lookup y.1 = some .cell
  nm : ∀ y ∈ scope.names, y.2 = .local → scope.names.lookup y.1 = some .local
  fr : ∀ y ∈ scope.names, y.2 = .free → y.1 ∈ cap
  caps : jA X scope cap caps
  nd : (own ++ cap).Nodup
theorem la.out {X : Cx} {scope : Scope} {own cap : List Str} {caps : List Nat} (S : la X scope own cap caps) {n : Str} (h : (n, NameKind.free) ∈ scope.names) : X.env.scope.names.lookup n = some .cell ∨ X.env.scope.names.lookup n = some .free := by
  obtain ⟨i, hi, e⟩ := List.getElem_of_mem (S.fr _ h rfl)
  obtain ⟨_, _, _, k, _⟩ := S.caps.get (i := i) (x := n) (by rw [List.getElem?_eq_getElem hi, e])
  exact k
theorem z6 {scope : Scope} {own cap : List Str} {caps : List Nat} {pins : List (Addr × Obj)} {σ : St} {H : Hp} {s : Shared} {fp : List Addr} {h1 : Heap} {tk : Nat} (Sc : la X scope own cap caps) (I : Inv X pins σ H s)
    (hfp : ∀ b ∈ fp, i7 X pins H b) (hob : ∀ b ∈ fp, ∃ o, s.heap.get? b = some o) (hns : h1.Ns s.heap.objs.size fun _ => none)
    (hk : ∀ b o, s.heap.get? b = some o → h1.get? b = some o) (hnew : CellsOk h1 (s.heap.objs.size + 1) (cellsFrom (s.heap.objs.size + 1) scope.names [])) :
    Inv (cxC X scope (own ++ cap) fp s H) [] (jQ own.length caps σ) H { s with heap := h1, toks := tk } := by
  have hcl : ∀ n, (n, NameKind.free) ∈ scope.names → ∃ c, X.env.cells.lookup n = some c := fun n hn => I.ok.has n (Sc.out hn)
  have sub : ∀ x c, (cT X.env scope.names []).lookup x = some c → X.env.cells.lookup x = some c := mj scope.names [] hcl (fun x c e => by simp at e)
  have fresh : H s.heap.objs.size = none := I.hok.fresh (Nat.le_refl _)
  have two : ∀ x c, (cellsFrom (s.heap.objs.size + 1) scope.names (cT X.env scope.names [])).lookup x = some c → ((x, c) ∈ cellsFrom (s.heap.objs.size + 1) scope.names [] ∧ s.heap.objs.size < c) ∨ ((cellsFrom (s.heap.objs.size + 1) scope.names []).lookup x = none ∧ X.env.cells.lookup x = some c ∧ c < s.heap.objs.size) := fun x c e => by
    rw [d6] at e
    rcases wY e with q | ⟨q0, q⟩
    · exact .inl ⟨mem_of_lookup q, (hnew.empty x c (mem_of_lookup q)).2⟩
    · have q' := sub x c q
      obtain ⟨v, o, ho, _⟩ := I.cell x c q'
      exact .inr ⟨q0, q', Heap.lt_size ho⟩
  have notOwn : ∀ x, scope.names.lookup x = some .free → (cellsFrom (s.heap.objs.size + 1) scope.names []).lookup x = none := fun x hx => by
    cases e : (cellsFrom (s.heap.objs.size + 1) scope.names []).lookup x with
    | none => rfl
    | some c =>
      have := Sc.cell _ (jF _ _ (mem_of_lookup e)) rfl
      dsimp only at this
      rw [hx] at this
      cases this
  refine ⟨⟨I.ok.mod, Sc.kind, I.ok.glob, I.ok.blt, Nat.le_refl _, fun x y c e1 e2 => ?_, fun x hx => ?_, fun x c h e => ?_, I.ok.hd, I.ok.frames, .inl rfl, fun b hb => ⟨?_, fun x c e => ?_⟩, I.bs, Nat.le_trans I.ok.bsz I.sz, fun b o e hb => ?_, fun b hb hs => ?_, I.stack, I.stkFree⟩,
    rfl, I.bare, Un.kept hk, ⟨_, hns, fun i x v e1 e2 e3 => ?_⟩, fun x c e => ?_, fresh, fun x c e => ?_, fun p hp => absurd (show p ∈ ([] : List (Addr × Obj)) from hp) (by simp), I.hok.kept hk, ?_⟩
  · -- inj
    rcases two x c e1 with ⟨p1, p2⟩ | ⟨_, p1, p2⟩ <;> rcases two y c e2 with ⟨q1, q2⟩ | ⟨_, q1, q2⟩
    · exact name_of_addr hnew.apart p1 q1
    · exact absurd p2 (Nat.not_lt.mpr (Nat.le_of_lt q2))
    · exact absurd q2 (Nat.not_lt.mpr (Nat.le_of_lt p2))
    · exact I.ok.inj x y c p1 q1
  · -- has
    have hx' : (relabel scope X.env).names.lookup x = some .cell ∨ (relabel scope X.env).names.lookup x = some .free := hx
    have : (x, NameKind.free) ∈ scope.names ∨ scope.names.lookup x = some .cell := by
      rcases hx' with q | q
      · obtain ⟨k', e1, e2⟩ := fQ (scope := scope) q
        rcases e2 with rfl | ⟨rfl, _⟩
        · exact .inr e1
        · exact .inl (lookup_mem e1)
      · obtain ⟨k', e1, e2⟩ := fQ (scope := scope) q
        rcases e2 with rfl | ⟨rfl, z⟩
        · exact .inl (lookup_mem e1)
        · cases z
    rcases this with q | q
    · show ∃ c, (cellsFrom (s.heap.objs.size + 1) scope.names (cT X.env scope.names [])).lookup x = some c
      rw [d6]
      exact tV (jL scope.names [] x q)
    · exact Option.isSome_iff_exists.mp (PySem.W.cellsFrom_some scope.names _ _ (.inl q))
  · -- cab
    have h' : scope.names.lookup x = some .cell := by
      have : (scope.names.lookup x == some NameKind.cell) = true := h
      simpa using this
    rcases two x c e with ⟨_, p⟩ | ⟨p, _⟩
    · exact Nat.le_of_lt p
    · have := PySem.W.cellsFrom_some scope.names (s.heap.objs.size + 1) [] (.inl h')
      rw [p] at this
      cases this
  · obtain ⟨o, ho⟩ := hob b hb
    exact Nat.ne_of_lt (Heap.lt_size ho)
  · rcases two x c e with ⟨_, p⟩ | ⟨_, p, _⟩
    · obtain ⟨o, ho⟩ := hob b hb
      exact fun z => absurd (Heap.lt_size ho) (Nat.not_lt.mpr (Nat.le_of_lt (z ▸ p)))
    · exact (hfp b hb).2.2.2.2.1 x c p
  · rcases (hfp b hb).2.2.2.1 with z | z
    · exact I.ok.noex b o e z
    · exact absurd (Nat.lt_of_lt_of_le (Heap.lt_size e) (Nat.le_trans I.ok.bsz z)) (Nat.lt_irrefl _)
  · rcases List.mem_cons.mp (I.stkSub b hs) with z | z
    · exact (hfp b hb).2.1 z
    · exact (hfp b hb).2.2.1 z
  · -- the captured names
    have e1' : (own ++ cap)[i]? = some x := e1
    have hi : own.length ≤ i := by
      by_cases q : i < own.length
      · unfold jQ at e2
        rw [List.getElem?_append_left (by simpa using q), List.getElem?_replicate] at e2
        split at e2 <;> cases e2
      · omega
    rw [List.getElem?_append_right hi] at e1'
    obtain ⟨j, hj, hN, hkd, hfr⟩ := Sc.caps.get e1'
    unfold jQ at e2
    rw [List.getElem?_append_right (by simpa using hi)] at e2
    simp only [List.length_replicate, List.getElem?_map, hj, Option.map_some, Option.some.injEq] at e2
    have e2' : σ[j]? = some (some v) := by
      cases q : σ[j]? with
      | none => rw [q] at e2; simp at e2
      | some ov => rw [q] at e2; simp at e2; rw [e2]
    obtain ⟨m, hm, hl⟩ := I.loc
    obtain ⟨u, ru, lk⟩ := hl j x v hN e2' (hkd.elim (fun z => .inr (.inl z)) fun z => .inr (.inr z))
    refine ⟨u, ru, .inr ⟨?_, ?_⟩⟩
    · rcases e3 with q | q | q
      · obtain ⟨k', w1, w2⟩ := fQ (scope := scope) (show (relabel scope X.env).names.lookup x = some .local from q)
        rw [hfr] at w1
        cases w1
        rcases w2 with w | ⟨_, w⟩ <;> cases w
      · exact .inl q
      · exact .inr q
    · rcases lk with ⟨z, _⟩ | ⟨_, c, ec, hc⟩
      · have z' : X.env.scope.names.lookup x = some .local := z
        rcases hkd with q | q <;> (rw [q] at z'; cases z')
      · obtain ⟨c', hc'⟩ := jL (env := X.env) scope.names [] x (lookup_mem hfr)
        have := sub x c' hc'
        rw [ec] at this
        cases this
        obtain ⟨oc, h1', h2'⟩ := hc
        refine ⟨c, ?_, oc, hk _ _ h1', h2'⟩
        show (cellsFrom (s.heap.objs.size + 1) scope.names (cT X.env scope.names [])).lookup x = some c
        rw [d6, m6 (notOwn x hfr)]
        exact hc'
  · rcases two x c e with ⟨p, _⟩ | ⟨_, p, _⟩
    · exact ⟨none, (hnew.empty x c p).1⟩
    · obtain ⟨v, oc, h1', h2'⟩ := I.cell x c p
      exact ⟨v, oc, hk _ _ h1', h2'⟩
  · rcases two x c e with ⟨_, p⟩ | ⟨_, p, _⟩
    · exact I.hok.fresh (Nat.le_of_lt p)
    · exact I.freeC x c p
  · unfold jQ
    have := Sc.caps.length
    simp [cxC, this]
theorem xx {prog : Program} {w : World} {A : Around} {R : Result → Shared → Prop} {s : Shared} {elt target iter : Expr} {ifs : List Expr} {scope : Scope} {pos : Pos} {it acc : Value} {env : Env} (I : Nat → Shared → Prop)
    (turn : ∀ n s, I n s → wpAny (model prog w) A (pyNext it) (fun r s₁ => match r with
      | none => R (.ok .next) s₁
      | some v => wpAny (model prog w) A (letOwnedTupleGo target it v) (fun _ s₁' => wpAny (model prog w) A (assign target env v) (fun _ s₂ =>
          wpAny (model prog w) A (forIn ifs true fun c r => if r = true then do let ok ← isTrue c env (eval c env); pure (ForInStep.yield ok) else pure (ForInStep.yield r)) (fun ok s₃ =>
            if ok = true then wpAny (model prog w) A (eval elt env) (fun x s₄ =>
              wpAny (model prog w) A (call (.builtin "list.append") [acc, x]) (fun _ s₅ => ∃ m, m < n ∧ I m s₅) (fun _ _ => False) s₄) (fun _ _ => False) s₃
            else ∃ m, m < n ∧ I m s₃) (fun _ _ => False) s₂) (fun _ _ => False) s₁') (fun _ _ => False) s₁) (fun _ _ => False) s)
    (n : Nat) (h : I n s) :
    codeAny (model prog w) A (.compLoop (.ListComp elt [⟨target, iter, ifs, 0⟩] scope pos) 0 it acc env) R s := by
  refine codeAny_loop rfl I (fun n s hI => ?_) n h
  show wpAny _ A ((compTurn (.ListComp elt [⟨target, iter, ifs, 0⟩] scope pos) 0 it acc env).onRaise (fun x => do noteFrame x env; theTreesLotGoes x)) _ _ s
  refine wpAny_noted ?_
  rw [compTurn_list]
  refine wpAny_bind (wpAny_standAt (wpAny_bind (wpAny_mono (turn n s hI) (fun r s₁ h₁ => ?_) fun _ _ h' => h'.elim)))
  cases r with
  | none => exact wpAny_pure h₁
  | some v =>
    refine wpAny_bind (wpAny_mono h₁ (fun _ s₁' h₁' => wpAny_bind (wpAny_mono h₁' (fun _ s₂ h₂ => wpAny_bind (wpAny_mono h₂ (fun ok s₃ h₃ => ?_) fun _ _ h' => h'.elim)) fun _ _ h' => h'.elim)) fun _ _ h' => h'.elim)
    cases ok with
    | false => exact wpAny_pure ⟨rfl, h₃⟩
    | true =>
      exact wpAny_bind (wpAny_bind (wpAny_mono h₃ (fun x s₄ h₄ => wpAny_bind (wpAny_mono h₄ (fun _ s₅ h₅ => wpAny_pure (wpAny_pure ⟨rfl, h₅⟩)) fun _ _ h' => h'.elim)) fun _ _ h' => h'.elim))
def PTs (X : Cx) (ifs : List Expr) (t : TT) : Prop :=
  ∀ (pins : List (Addr × Obj)) (s : Shared) (σ : St) (H : Hp) (Q : Bool → Hp → Prop), Inv X pins σ H s → t σ H Q →
    wpAny (model X.prog X.w) X.A (forIn ifs true fun c r => if r = true then do let ok ← isTrue c X.env (eval c X.env); pure (ForInStep.yield ok) else pure (ForInStep.yield r)) (TP X pins σ Q) X.xe s
def AH : TT := fun _ H Q => Q true H
theorem fR : PTs X [] AH := fun _ _ _ H _ I h => wpAny_tests_nil ⟨H, I, h⟩
theorem By {c : Expr} {t : TT} (h : PT X c t) : PTs X [c] t := fun pins s σ H Q I q => wpAny_tests_one (h pins s σ H Q I q)
def sv (m : Nat) (caps : List Nat) (wi : TI) (g : TG) (tc : TT) (te : TE) : TE := fun σ H Q => wi σ H fun J H1 => ∀ p, H1 p = none →
  ∃ W : Nat → Nat → List V → St → Hp → Prop, (∃ k, W 0 k [] (jQ m caps σ) (upd H1 p (.lst []))) ∧ ∀ i k acc σ' H', W i k acc σ' H' →
    (J.stop i H' ∧ H' p = some (.lst acc) ∧ Q (.ref p) H') ∨ (J.go i H' ∧ ∀ x H2, J.yld i H' x H2 → g x σ' H2 fun σ2 H3 => tc σ2 H3 fun b H4 => if b = true then
      te σ2 H4 fun y H5 => H5 p = some (.lst acc) ∧ acc.length < sizeLine ∧ ∃ k', k' < k ∧ W (i + 1) k' (acc ++ [y]) σ2 (upd H5 p (.lst (acc ++ [y])))
      else ∃ k', k' < k ∧ W (i + 1) k' acc σ2 H4)
theorem zV {scope : Scope} {N' : List Str} {fp : List Addr} {pins pins' : List (Addr × Obj)} {σ σ' : St} {H3 H' : Hp} {s3 s' : Shared} (I3 : Inv X pins σ H3 s3) (I' : Inv (cxC X scope N' fp s3 H3) pins' σ' H' s') (hfp : ∀ b ∈ fp, i7 X pins H3 b) : Inv X pins σ H' s' :=
  I3.call' (ch := fp) I'.os I'.base I'.hok I'.bare fun b hb => ⟨(hfp b hb).2.2.2.1, (hfp b hb).2.1, (hfp b hb).2.2.2.2.1, (hfp b hb).2.2.2.2.2⟩
theorem wy {target iter elt : Expr} {ifs : List Expr} {scope : Scope} {pos : Pos} {own cap : List Str} {caps : List Nat} {g : TG} {tc : TT} {te : TE} {pins : List (Addr × Obj)} {σ : St} {H2 : Hp} {s₂ : Shared} {it : Addr} {fp : List Addr} {tn : Nat → Heap → Prop} {J : It} {E : Value → Shared → Prop}
    {RR : Value → Addr → Result → Shared → Prop} {Q : VK}
    (hc : X.calm = true) (Sc : la X scope own cap caps)
    (hg : ∀ s H, PG (cxC X scope (own ++ cap) fp s H) target g) (ht : ∀ s H, PTs (cxC X scope (own ++ cap) fp s H) ifs tc) (he : ∀ s H, PE (cxC X scope (own ++ cap) fp s H) elt te)
    (I : Inv X pins σ H2 s₂) (T : Turn X.prog X.w X.K target J fp it tn) (t0 : tn 0 s₂.heap) (hfp : ∀ b ∈ fp, i7 X pins H2 b)
    (hQ : ∀ p, H2 p = none → ∃ W : Nat → Nat → List V → St → Hp → Prop, (∃ k, W 0 k [] (jQ own.length caps σ) (upd H2 p (.lst []))) ∧ ∀ i k acc σ' H', W i k acc σ' H' →
      (J.stop i H' ∧ H' p = some (.lst acc) ∧ Q (.ref p) H') ∨ (J.go i H' ∧ ∀ x H2, J.yld i H' x H2 → g x σ' H2 fun σ2 H3 => tc σ2 H3 fun b H4 => if b = true then
        te σ2 H4 fun y H5 => H5 p = some (.lst acc) ∧ acc.length < sizeLine ∧ ∃ k', k' < k ∧ W (i + 1) k' (acc ++ [y]) σ2 (upd H5 p (.lst (acc ++ [y])))
        else ∃ k', k' < k ∧ W (i + 1) k' acc σ2 H4))
    (hRR : ∀ C p H' s' m, X.s₀.heap.objs.size ≤ C → C ≠ X.env.locals → (∀ x c, X.env.cells.lookup x = some c → c ≠ C) → (∀ q ∈ X.pn ++ pins, q.1 ≠ C) → H' C = none → s'.heap.Ns C m → Inv X pins σ H' s' → Q (.ref p) H' → RR (.ref p) C (.ok .next) s') :
    wpAny (model X.prog X.w) X.A (newList []) (fun acc s₃ => wpAny (model X.prog X.w) X.A (newFunctionEnv scope X.env.globals (cT X.env scope.names []) [] X.env.qual none .none (some X.env)) (fun cenv s₄ =>
      codeAny (model X.prog X.w) X.A (.compStart (.ListComp elt [⟨target, iter, ifs, 0⟩] scope pos) 0 (.ref it) acc { cenv with scope := relabel scope X.env }) (RR acc cenv.locals) s₄) E s₃) E s₂ := by
  refine wpAny_newObj_type (vo ?_)
  dsimp only
  have hD0 : H2 s₂.heap.objs.size = none := I.hok.fresh (Nat.le_refl _)
  have I3 : Inv X pins σ (upd H2 s₂.heap.objs.size (.lst [])) { s₂ with heap := s₂.heap.push { cls := .type "list", dict := none, data := .seq ([] : List Value).toArray } } := I.lnew (t' := s₂.toks) .nil (Nat.zero_le _)
  obtain ⟨W, ⟨k0, w0⟩, turn⟩ := hQ s₂.heap.objs.size hD0
  have old : ∀ b o, s₂.heap.get? b = some o → (s₂.heap.push { cls := .type "list", dict := none, data := .seq ([] : List Value).toArray }).get? b = some o := fun b o e => Heap.get?_push_of_some _ e
  have hbD : ∀ b ∈ fp, b ≠ s₂.heap.objs.size := fun b hb => by
    obtain ⟨o, ho, _⟩ := T.obj 0 s₂.heap t0 b hb
    exact Nat.ne_of_lt (Heap.lt_size ho)
  have hfp3 : ∀ b ∈ fp, i7 X pins (upd H2 s₂.heap.objs.size (.lst [])) b := fun b hb => ⟨by rw [aG (hbD b hb)]; exact (hfp b hb).1, (hfp b hb).2⟩
  have hob : ∀ b ∈ fp, ∃ o, (s₂.heap.push { cls := .type "list", dict := none, data := .seq ([] : List Value).toArray }).get? b = some o := fun b hb => by
    obtain ⟨o, ho, _⟩ := T.obj 0 s₂.heap t0 b hb
    exact ⟨o, old b o ho⟩
  generalize hh₁ : pushCells ((s₂.heap.push { cls := .type "list", dict := none, data := .seq ([] : List Value).toArray }).push { cls := .type "dict", data := .dict #[] }) scope.names = h₁
  have hns₁ : h₁.Ns (s₂.heap.push { cls := .type "list", dict := none, data := .seq ([] : List Value).toArray }).objs.size fun _ => none := by rw [← hh₁]; exact (Heap.Ns.new _ (.type "dict")).keeps (pushCells_keeps _ _)
  have hk : ∀ b o, (s₂.heap.push { cls := .type "list", dict := none, data := .seq ([] : List Value).toArray }).get? b = some o → h₁.get? b = some o := fun b o e => by rw [← hh₁]; exact pushCells_keeps _ _ b o (Heap.get?_push_of_some _ e)
  have hnew : CellsOk h₁ ((s₂.heap.push { cls := .type "list", dict := none, data := .seq ([] : List Value).toArray }).objs.size + 1) (cellsFrom ((s₂.heap.push { cls := .type "list", dict := none, data := .seq ([] : List Value).toArray }).objs.size + 1) scope.names []) := by rw [← hh₁]; exact ya _ _
  clear hh₁
  have st1 : tn 0 h₁ := T.keep 0 _ _ t0 fun b hb o e => hk b o (old b o e)
  generalize hs3 : ({ s₂ with heap := s₂.heap.push { cls := .type "list", dict := none, data := .seq ([] : List Value).toArray } } : Shared) = s3 at I3
  have hh3 : s3.heap = s₂.heap.push { cls := .type "list", dict := none, data := .seq ([] : List Value).toArray } := by rw [← hs3]
  rw [← hh3] at hns₁ hob hk hnew ⊢
  generalize s₂.heap.objs.size = D at *
  generalize hH3 : upd H2 D (.lst []) = H3 at *
  have loop : ∀ s₄ : Shared, s₄ = { s3 with heap := h₁ } →
      codeAny (model X.prog X.w) X.A (.compLoop (.ListComp elt [⟨target, iter, ifs, 0⟩] scope pos) 0 (.ref it) (.ref D) (compEnvC scope (cellsFrom (s3.heap.objs.size + 1) scope.names (cT X.env scope.names [])) s3.heap.objs.size X.env)) (RR (.ref D) s3.heap.objs.size) s₄ := by
    rintro s₄ rfl
    have I4 := z6 (tk := s3.toks) Sc I3 hfp3 hob hns₁ hk hnew
    have stat : ∀ {H' : Hp}, (∀ b ∈ fp, H' b = none) → ∀ b ∈ fp, i7 (cxC X scope (own ++ cap) fp s3 H3) [] H' b := fun hn b hb => by
      refine ⟨hn b hb, (I4.ok.exf b hb).1, I4.ok.exfs b hb, .inl hb, (I4.ok.exf b hb).2, fun p hp => absurd (show p ∈ ([] : List (Addr × Obj)) from hp) (by simp)⟩
    refine xx (fun n s' => ∃ i acc σ' H', Inv (cxC X scope (own ++ cap) fp s3 H3) [] σ' H' s' ∧ tn i s'.heap ∧ (∀ b ∈ fp, H' b = none) ∧ W i n acc σ' H') ?_ k0 ⟨0, [], _, _, I4, st1, fun b hb => (hfp3 b hb).1, w0⟩
    rintro n s5 ⟨i, acc, σ5, H5, I5, st5, fr5, w5⟩
    rcases turn i n acc σ5 H5 w5 with ⟨stop, hp, q⟩ | ⟨go, step⟩
    · refine thn (T.done (cxC X scope (own ++ cap) fp s3 H3) rfl rfl rfl hc i [] s5 σ5 H5 _ I5 (stat fr5) st5 stop) fun r s6 ⟨hr, I6⟩ => ?_
      subst hr
      obtain ⟨m, hm, _⟩ := I6.loc
      refine hRR s3.heap.objs.size D H5 s6 m I3.sz (Nat.ne_of_gt I3.lt) (fun x c e => ?_) (fun p hp => ?_) I6.free hm (zV I3 I6 hfp3) q
      · obtain ⟨v, o, ho, _⟩ := I3.cell x c e
        exact Nat.ne_of_lt (Heap.lt_size ho)
      · exact Nat.ne_of_lt (Heap.lt_size (I3.pin p hp).1)
    · refine thn (T.item (cxC X scope (own ++ cap) fp s3 H3) rfl rfl rfl hc i [] s5 σ5 H5 _ I5 (stat fr5) st5 go) fun r s6 ⟨u, hr, h6⟩ => ?_
      subst hr
      refine thn h6 fun _ s7 ⟨x, H7, I7, r7, y7, st7, fr7⟩ => ?_
      have I7' := I7.pinned (stat fr7) (T.obj _ _ st7)
      refine thn (hg s3 H3 _ s7 σ5 H7 x u _ I7' r7 (step x H7 y7)) fun _ s8 ⟨σ8, H8, I8, q8⟩ => ?_
      refine thn (ht s3 H3 _ s8 σ8 H8 _ I8 q8) fun b s9 ⟨H9, I9, q9⟩ => ?_
      have again : ∀ {σz : St} {Hz : Hp} {sz : Shared}, Inv (cxC X scope (own ++ cap) fp s3 H3) ([] ++ nJ fp s7.heap) σz Hz sz → Inv (cxC X scope (own ++ cap) fp s3 H3) [] σz Hz sz ∧ tn (i + 1) sz.heap ∧ ∀ b ∈ fp, Hz b = none := fun {σz Hz sz} Iz => by
        refine ⟨Iz.unpinned, T.keep _ _ _ st7 fun b hb o e => (Iz.pin (b, o) (List.mem_append_right _ (List.mem_append_right _ (jJ hb e)))).1, fun b hb => ?_⟩
        obtain ⟨o, e, d⟩ := T.obj _ _ st7 b hb
        exact (Iz.pin (b, o) (List.mem_append_right _ (List.mem_append_right _ (jJ hb e)))).2.1
      cases b with
      | false =>
        rw [if_neg Bool.false_ne_true] at q9 ⊢
        obtain ⟨k', hk', w'⟩ := q9
        obtain ⟨a1, a2, a3⟩ := again I9
        exact ⟨k', hk', i + 1, acc, σ8, H9, a1, a2, a3, w'⟩
      | true =>
        rw [if_pos rfl] at q9 ⊢
        refine thn (he s3 H3 _ s9 σ8 H9 _ I9 q9) fun yv s10 ⟨y, H10, I10, r10, hp, hl, k', hk', w'⟩ => ?_
        refine thn (du _ s10 σ8 H10 (.ref D) [y] (.ref D) [yv] (fun v Hz => Hz = upd H10 D (.lst (acc ++ [y]))) I10 rfl (.cons r10 .nil) ⟨D, acc, y, rfl, rfl, hp, hl, rfl⟩) fun _ s11 ⟨_, H11, I11, _, e11⟩ => ?_
        subst e11
        obtain ⟨a1, a2, a3⟩ := again I11
        exact ⟨k', hk', i + 1, acc ++ [y], σ8, _, a1, a2, a3, w'⟩
  have fin := loop _ rfl
  subst hs3
  exact codeAny_compStart_list fin (T.self _ _ _ _ _ st1 fin)
theorem PTs.ok {X : Cx} {scope : Scope} {own cap : List Str} {caps : List Nat} {pins : List (Addr × Obj)} {σ : St} {H : Hp} {s : Shared} (I : Inv X pins σ H s) (Sc : la X scope own cap caps) : closureFor scope X.env = pure (cT X.env scope.names []) :=
  sk fun n hn => I.ok.has n (Sc.out hn)
theorem eH {target iter elt : Expr} {ifs : List Expr} {scope : Scope} {pos : Pos} {own cap : List Str} {caps : List Nat} {wi : TI} {g : TG} {tc : TT} {te : TE} (hc : X.calm = true) (Sc : la X scope own cap caps) (hi : PI X target iter wi)
    (hg : ∀ fp s H, PG (cxC X scope (own ++ cap) fp s H) target g) (ht : ∀ fp s H, PTs (cxC X scope (own ++ cap) fp s H) ifs tc) (he : ∀ fp s H, PE (cxC X scope (own ++ cap) fp s H) elt te)
    (hs : ∀ x, foldedSetIterable iter X.env x = pure x := by intro _; rfl) : PE X (.ListComp elt [⟨target, iter, ifs, 0⟩] scope pos) (sv own.length caps wi g tc te) := by
  intro pins s σ H Q I h
  rw [eval_ListComp]
  refine wpAny_comprehension_free (use := none) rfl hs (PTs.ok I Sc) Sc.kind Sc.nm (thn (hi pins s σ H _ I h) fun v s1 h1 => thn h1 fun itv s2 h2 => ?_)
  obtain ⟨it, fp, tn, J, H2, e, I2, T, st2, f2, q⟩ := h2
  subst e
  refine wy (Q := Q) (RR := fun acc C => compPost (model X.prog X.w) X.A X.xe none (EP X pins σ Q) acc C) hc Sc (hg fp) (ht fp) (he fp) I2 T st2 f2 q ?_
  intro C p H' s' m h1 h2 h3 h4 h5 hn I' q'
  exact ⟨m, hn, fun h' hs' => ⟨.ref p, H', I'.turned (it := C) (t' := s'.toks) (fun b o hb e => hs'.extBut b o hb e) h5 (Ne.symm h2.symm) (.inr h1) h3 h4, rfl, q'⟩⟩
end
end L2
set_option maxRecDepth 100000
set_option maxHeartbeats 4000000
namespace L2
open PySem PySem.Spec PyProof.Rows
section
variable {X : Cx}
def AB (K : PySem.W.Frag) : R2 := fun x y H Q => ∃ l b xs zs, x = .ref l ∧ y = .ref b ∧ SqL K H l xs ∧ SqL K H b zs ∧ xs.length + zs.length ≤ sizeLine ∧ ∀ p, H p = none → Q (.ref p) (upd H p (.lst (xs ++ zs)))
theorem AY : OpR X (binaryOp .Add) (AB X.K) := by
  intro pins s σ H x y v u Q I rx ry h
  obtain ⟨l, b, xs, zs, rfl, rfl, hH, hB, hz, q⟩ := h
  cases rx
  cases ry
  obtain ⟨its, r, pl, _⟩ := I.list hH
  obtain ⟨its2, r2, pl2, _⟩ := I.list hB
  obtain ⟨⟨cls, dd, data, sl⟩, ho, hc, n, hd⟩ := pl.isList
  obtain ⟨⟨cls2, dd2, data2, sl2⟩, ho2, hc2, n2, hd2⟩ := pl2.isList
  simp only at hc hd hc2 hd2
  subst hc hd hc2 hd2
  have e : its.toArray ++ its2.toArray = (its ++ its2).toArray := by simp
  have hl1 := r.length
  have hl2 := r2.length
  refine concat_meets ⟨_, ho, rfl⟩ ⟨_, ho2, rfl⟩ noFill_list_add seq_list_add PySem.F.slot_list_add PySem.F.entry_list_add (PySem.F.args_list_add_2 _ _) (list_addW l b its.toArray its2.toArray n n2 dd dd2 sl sl2 (by simp only [List.size_toArray]; omega)) ⟨ho, ho2, ?_⟩
  rw [e]
  exact ⟨.ref _, _, I.lnew (t' := s.toks) (r.append r2) (by rw [List.length_append]; omega), rfl, q _ I.fresh⟩
mutual
def RdV (K : PySem.W.Frag) (H : Hp) : PyData → V → Prop
  | .none, v => v = .non
  | .bool b, v => v = .bl b
  | .int i, v => v = .int i
  | .str x, v => v = .str x
  | .list ds, v => ∃ a xs, v = .ref a ∧ SqL K H a xs ∧ lK K H ds xs
  | .tuple ds, v => ∃ a xs, v = .ref a ∧ SqT K H a xs ∧ lK K H ds xs
  | .dict _, _ => False
def lK (K : PySem.W.Frag) (H : Hp) : List PyData → List V → Prop
  | [], xs => xs = []
  | d :: ds, xs => ∃ v r, xs = v :: r ∧ RdV K H d v ∧ lK K H ds r
end
mutual
theorem jr {pins : List (Addr × Obj)} {σ : St} {H : Hp} {s : Shared} (I : Inv X pins σ H s) : ∀ {d : PyData} {v : V} {u : Value}, RdV X.K H d v → RelV v u → ∃ as, Reads s.heap u d as
  | .none, v, u, h, r => by
    unfold RdV at h; subst h
    cases (show u = Value.none from r); exact ⟨_, .none⟩
  | .bool b, v, u, h, r => by
    unfold RdV at h; subst h
    cases (show u = Value.bool b from r); exact ⟨_, .bool b⟩
  | .int i, v, u, h, r => by
    unfold RdV at h; subst h
    obtain ⟨t, rfl⟩ := (show ∃ t, u = Value.int i t from r); exact ⟨_, .int i t⟩
  | .str x, v, u, h, r => by
    unfold RdV at h; subst h
    obtain ⟨t, rfl⟩ := (show ∃ t, u = Value.str x t from r); exact ⟨_, .str x t⟩
  | .list ds, v, u, h, r => by
    unfold RdV at h
    obtain ⟨a, xs, rfl, hs, hr⟩ := h
    cases (show u = Value.ref a from r)
    obtain ⟨its, rv, pl, _⟩ := I.list hs
    obtain ⟨o, ho, hc, n, hd⟩ := pl.isList
    obtain ⟨as, ra⟩ := mC I hr rv
    exact ⟨_, .list ho hc hd (by simpa using ra)⟩
  | .tuple ds, v, u, h, r => by
    unfold RdV at h
    obtain ⟨a, xs, rfl, hs, hr⟩ := h
    cases (show u = Value.ref a from r)
    obtain ⟨its, rv, ⟨o, ho, hc, n, hd⟩, _⟩ := I.tuple hs
    obtain ⟨as, ra⟩ := mC I hr rv
    exact ⟨_, .tuple ho hc hd (by simpa using ra)⟩
  | .dict _, v, u, h, r => by unfold RdV at h; exact h.elim
theorem mC {pins : List (Addr × Obj)} {σ : St} {H : Hp} {s : Shared} (I : Inv X pins σ H s) : ∀ {ds : List PyData} {xs : List V} {us : List Value}, lK X.K H ds xs → Vals xs us → ∃ as, ReadsAll s.heap us ds as
  | [], xs, us, h, r => by
    unfold lK at h; subst h
    cases r; exact ⟨_, .nil⟩
  | d :: ds, xs, us, h, r => by
    unfold lK at h
    obtain ⟨v, w, rfl, h1, h2⟩ := h
    cases r with
    | cons r1 r2 =>
      obtain ⟨as, a1⟩ := jr I h1 r1
      obtain ⟨bs, a2⟩ := mC I h2 r2
      exact ⟨_, .cons a1 a2⟩
end
def Di (K : PySem.W.Frag) : R2 := fun x y H Q => ∃ d e, RdV K H d x ∧ RdV K H e y ∧ SeqAt.shaped d = true ∧ SeqAt.shaped e = true ∧ Q (.bl (PyData.eqv d e)) H
def DS (K : PySem.W.Frag) : R2 := fun x y H Q => ∃ d e, RdV K H d x ∧ RdV K H e y ∧ SeqAt.shaped d = true ∧ SeqAt.shaped e = true ∧ Q (.bl (!PyData.eqv d e)) H
theorem CT (hu : X.A.units + 64 < cLine) : OpR X (compareOp .Eq) (Di X.K) := by
  intro pins s σ H x y v u Q I rx ry h
  obtain ⟨d, e, h1, h2, s1, s2, q⟩ := h
  obtain ⟨as, ra⟩ := jr I h1 rx
  obtain ⟨bs, rb⟩ := jr I h2 ry
  exact SeqAt.compareEq_shaped ra rb s1 s2 hu ⟨.bl _, H, I, rfl, q⟩
theorem C3 (hu : X.A.units + 64 < cLine) : OpR X (compareOp .NotEq) (DS X.K) := by
  intro pins s σ H x y v u Q I rx ry h
  obtain ⟨d, e, h1, h2, s1, s2, q⟩ := h
  obtain ⟨as, ra⟩ := jr I h1 rx
  obtain ⟨bs, rb⟩ := jr I h2 ry
  exact SeqAt.compareNe_shaped ra rb s1 s2 hu ⟨.bl _, H, I, rfl, q⟩
def Ei (K : PySem.W.Frag) (H : Hp) (x : V) (T : String) : Prop := match x with
  | .non => T = "NoneType"
  | .bl _ => T = "bool"
  | .int _ => T = "int"
  | .str _ => T = "str"
  | .ref a => (T = "list" ∧ ∃ xs, SqL K H a xs) ∨ (T = "tuple" ∧ ∃ xs, SqT K H a xs)
  | _ => False
def zE (K : PySem.W.Frag) : List V → Hp → VK → Prop := fun xs H Q => ∃ x c T b, xs = [x, .ty c] ∧ Ei K H x T ∧ PySem.W.kitOne K (.type T) (.type c) = some b ∧ Q (.bl b) H
theorem uy : gG X (.builtin "isinstance") (zE X.K) := by
  intro pins s σ H xs us Q I r h
  obtain ⟨x, c, T, b, rfl, hT, hk, q⟩ := h
  obtain ⟨u, w, rfl, r1, r2⟩ := vals2 r
  cases (show w = Value.type c from r2)
  have fin : ∀ tk, EP X pins σ Q (.bool b) { s with toks := tk } := fun tk => ⟨.bl b, H, I.tok tk, rfl, q⟩
  cases x with
  | non => cases (show u = Value.none from r1); cases (show T = "NoneType" from hT); exact PySem.W.kia_one PySem.W.kitx_none I.kIn True.intro hk (fun z => nomatch z) fin
  | bl y => cases (show u = Value.bool y from r1); cases (show T = "bool" from hT); exact PySem.W.kia_one PySem.W.kitx_bool I.kIn True.intro hk (fun z => nomatch z) fin
  | int i => obtain ⟨t, e⟩ := (show ∃ t, u = Value.int i t from r1); cases e; cases (show T = "int" from hT); exact PySem.W.kia_one PySem.W.kitx_int I.kIn True.intro hk (fun z => nomatch z) fin
  | str y => obtain ⟨t, e⟩ := (show ∃ t, u = Value.str y t from r1); cases e; cases (show T = "str" from hT); exact PySem.W.kia_one PySem.W.kitx_str I.kIn True.intro hk (fun z => nomatch z) fin
  | ref a =>
    cases (show u = Value.ref a from r1)
    rcases hT with ⟨rfl, xs, hs⟩ | ⟨rfl, xs, hs⟩
    · obtain ⟨its, rv, ⟨o, n, ho, hc, _⟩, _⟩ := I.list hs
      exact PySem.W.kia_one PySem.W.kitx_list I.kIn ⟨o, ho, hc⟩ hk (fun z => nomatch z) fin
    · obtain ⟨its, rv, ⟨o, ho, hc, _⟩, _⟩ := I.tuple hs
      exact PySem.W.kia_one PySem.W.kitx_tuple I.kIn ⟨o, ho, hc⟩ hk (fun z => nomatch z) fin
  | byt y => exact False.elim hT
  | flt y => exact False.elim hT
  | ty y => exact False.elim hT
end
end L2
set_option maxRecDepth 100000
set_option maxHeartbeats 4000000
namespace L2
open PySem PySem.Spec PyProof.Rows
structure nL (S : List Addr) (e : Addr) (oe : Obj) (h h' : Heap) (T : Addr) : Prop where
  keep : ∀ b o, h.get? b = some o → b ∉ S → b ≠ e → h'.get? b = some o
  slot : ∀ b o, h.get? b = some o → b ∈ S → ∃ sl, h'.get? b = some { o with slots := sl }
  new : h.objs.size ≤ T
  ne : T ≠ e
  exc : ∃ oe' vs, h'.get? e = some oe' ∧ oe'.cls = oe.cls ∧ oe'.dict = oe.dict ∧ oe'.data = .fields vs ∧ vs[1]? = some (.ref T)
  trc : ∃ oT ts, h'.get? T = some oT ∧ oT.data = .fields ts ∧ ts[3]? = some .none
theorem yQ (o : Obj) (f : Array Value → Array Value) : (Obj.mapFields f o).dict = o.dict := by
  unfold Obj.mapFields
  split <;> rfl
section
variable {M : Model} {A : Around} {E : Value → Shared → Prop} {s : Shared}
theorem tu {base : Heap} {env : Env} {outer : List Env} {L e : Addr} {oe : Obj} {vs : Array Value} {head : Value} {hadNext : Bool} {Q : Unit → Shared → Prop} (hfr : A.frames = some (env :: outer))
    (hl : s.heap.FunFrames base (env :: outer)) (hf : env.frame = some L) (he : s.heap.get? e = some oe) (hd : oe.data = .fields vs) (hsz : 1 < vs.size)
    (h : ∀ h' T, nL (frs (env :: outer)) e oe s.heap h' T → Q () { s with heap := h' }) :
    wpAny M A (do
      let a ← frameOf env
      let pl ← entryPlaceOf L hadNext
      let b ← EntryCells.newEntry head a .none (rawInt L) .none pl
      setField (.ref e) 1 b) (fun _ s' => wpAny M A (setFlight (.ref e) none) Q E s') E s := by
  have out : e ∉ frs (env :: outer) := fun hm => by
    obtain ⟨_, o, ho, hnf⟩ := hl.mem hm
    cases he.symm.trans ho
    exact hnf vs hd
  refine wpAny_bind (wpAny_frameOf_fun hfr hl hf fun h1 x1 => wpAny_bind (wpAny_entryPlaceOf fun pl hpl => ?_))
  unfold EntryCells.newEntry newFields
  refine wpAny_bind (wpAny_newObj_type ?_ (hpl.sizeOk5 _ _ _ _ _))
  generalize hob : ({ cls := .type "traceback", dict := none, data := .fields ([head, .ref L, .none, rawInt L, .none] ++ (if pl.isEmpty then List.replicate 6 Value.none else pl)).toArray } : Obj) = ob
  have e1 : h1.get? e = some oe := (x1.2.1 e out).trans he
  have e2 : (h1.push ob).get? e = some oe := Heap.get?_push_of_some ob e1
  refine wpAny_setField e2 hd hsz ?_
  have ne : h1.objs.size ≠ e := Nat.ne_of_gt (Heap.lt_size e1)
  have d3 := Obj.data_mapFields hd (·.setIfInBounds 1 (Value.ref h1.objs.size))
  have e3 := Heap.get?_update_self (Obj.mapFields (·.setIfInBounds 1 (Value.ref h1.objs.size))) e2 (Obj.isFreed_of_fields d3)
  have obd : ob.data = .fields ([head, .ref L, .none, rawInt L, .none] ++ (if pl.isEmpty then List.replicate 6 Value.none else pl)).toArray := by rw [← hob]
  have t2 : (h1.push ob).get? h1.objs.size = some ob := Heap.get?_push_size h1 (by rw [← hob]; rfl)
  have t3 := (Heap.get?_update_other (h1.push ob) (Obj.mapFields (·.setIfInBounds 1 (Value.ref h1.objs.size))) (Ne.symm ne)).trans t2
  unfold setFlight
  refine wpAny_bind (wpAny_field e3 d3 (x := .ref h1.objs.size) (by simp [hsz]) ?_)
  rw [if_pos (by simp)]
  refine wpAny_setField t3 obd (by simp only [List.size_toArray, List.length_append, List.length_cons, List.length_nil]; omega) (h _ h1.objs.size ?_)
  have kp : ∀ b o, b ≠ e → h1.get? b = some o → (((h1.push ob).update e (Obj.mapFields (·.setIfInBounds 1 (Value.ref h1.objs.size)))).update h1.objs.size (Obj.mapFields (·.setIfInBounds 3 ((none : Option Addr).elim Value.none fun f => rawInt f)))).get? b = some o := fun b o n1 hb => by
    rw [Heap.get?_update_other _ _ (Nat.ne_of_gt (Heap.lt_size hb)), Heap.get?_update_other _ _ (Ne.symm n1)]
    exact Heap.get?_push_of_some ob hb
  refine ⟨fun b o hb hS hbe => kp b o hbe ((x1.2.1 b hS).trans hb), fun b o hb hS => ?_, Nat.le_of_eq x1.1.symm, ne, ⟨_, _, ?_, Obj.cls_mapFields _ _, yQ _ _, d3, by simp [hsz]⟩, ⟨_, _, Heap.get?_update_self _ t3 (Obj.isFreed_of_fields (Obj.data_mapFields obd _)), Obj.data_mapFields obd _, ?_⟩⟩
  · obtain ⟨sl, q⟩ := x1.2.2 b o hb
    exact ⟨sl, kp b _ (fun z => out (z ▸ hS)) q⟩
  · rw [Heap.get?_update_other _ _ ne]; exact e3
  · first | (simp; done) | (rcases hpl with rfl | ⟨_, _, _, _, _, _, _, rfl⟩ <;> simp)
theorem uN {base : Heap} {env : Env} {outer : List Env} {L e : Addr} {oe : Obj} {vs : Array Value} {Q : Unit → Shared → Prop} (hfr : A.frames = some (env :: outer)) (hl : s.heap.FunFrames base (env :: outer)) (hf : env.frame = some L)
    (he : s.heap.get? e = some oe) (hd : oe.data = .fields vs) (h1 : vs[1]? = some .none) (h : ∀ h' T, nL (frs (env :: outer)) e oe s.heap h' T → Q () { s with heap := h' }) : wpAny M A (leaving env (.ref e)) Q E s := by
  unfold leaving noteFrame
  simp only [hf]
  refine wpAny_bind (wpAny_bind (wpAny_field he hd h1 ?_))
  rw [if_neg (by decide)]
  exact tu hfr hl hf he hd (Array.getElem?_eq_some_iff.mp h1).1 h
structure Trc (h : Heap) (e : Addr) (oe : Obj) (T : Addr) : Prop where
  exc : h.get? e = some oe
  dat : ∃ vs, oe.data = .fields vs ∧ vs[1]? = some (.ref T)
  ne : T ≠ e
  trc : ∃ oT ts, h.get? T = some oT ∧ oT.data = .fields ts ∧ ts[3]? = some .none
theorem rG {base : Heap} {env : Env} {outer : List Env} {L e T0 : Addr} {oe : Obj} {Q : Unit → Shared → Prop} (hfr : A.frames = some (env :: outer)) (hl : s.heap.FunFrames base (env :: outer)) (hf : env.frame = some L)
    (ht : Trc s.heap e oe T0) (h : ∀ h1 h' T, (∀ b, b ≠ T0 → h1.get? b = s.heap.get? b) → h1.objs.size = s.heap.objs.size → nL (frs (env :: outer)) e oe h1 h' T → Q () { s with heap := h' }) :
    wpAny M A (noteFrame (.ref e) env) (fun _ s' => wpAny M A (setFlight (.ref e) none) Q E s') E s := by
  obtain ⟨he, ⟨vs, hd, h1⟩, hne, oT, ts, hT, hdT, h3⟩ := ht
  unfold noteFrame
  simp only [hf]
  refine wpAny_bind (wpAny_field he hd h1 ?_)
  rw [if_pos (by simp)]
  refine wpAny_bind (wpAny_field hT hdT h3 ?_)
  rw [if_neg (by simp [rawInt])]
  refine wpAny_bind (wpAny_setField hT hdT (Array.getElem?_eq_some_iff.mp h3).1 ?_)
  have oth : ∀ b, b ≠ T0 → (s.heap.update T0 (Obj.mapFields (·.setIfInBounds 3 Value.none))).get? b = s.heap.get? b := fun b hb => Heap.get?_update_other _ _ (Ne.symm hb)
  refine tu (base := base) hfr (hl.of_keeps fun b o hb hnf => ⟨o, (oth b fun q => ?_).trans hb, rfl⟩) hf ((oth e (Ne.symm hne)).trans he) hd (Array.getElem?_eq_some_iff.mp h1).1 fun h' T x => h _ h' T oth (Heap.size_after_update ..) x
  subst q
  cases hT.symm.trans hb
  exact hnf ts hdT
theorem v7 {base : Heap} {env : Env} {outer : List Env} {L e T0 : Addr} {oe : Obj} {Q : Unit → Shared → Prop} (hfr : A.frames = some (env :: outer)) (hl : s.heap.FunFrames base (env :: outer)) (hf : env.frame = some L)
    (ht : Trc s.heap e oe T0) (h : ∀ h1 h' T, (∀ b, b ≠ T0 → h1.get? b = s.heap.get? b) → h1.objs.size = s.heap.objs.size → nL (frs (env :: outer)) e oe h1 h' T → Q () { s with heap := h' }) : wpAny M A (leaving env (.ref e)) Q E s := by
  unfold leaving
  exact wpAny_bind (rG hfr hl hf ht h)
end
end L2
set_option maxRecDepth 100000
set_option maxHeartbeats 4000000
namespace L2
open PySem PySem.Spec PyProof.Rows
theorem eD.there {P : Program} {w : World} {H : Hp} {h : Heap} {a : Addr} {o : HO} (x : eD P w H h a o) : ∃ u, h.get? a = some u := by
  cases o with
  | lst xs => exact let ⟨_, _, _, _, e⟩ := x; ⟨_, e⟩
  | tup xs => exact let ⟨_, _, _, ob, e, _⟩ := x; ⟨_, e⟩
  | dK kvs => exact let ⟨_, _, _, _, ob, _, _, e, _⟩ := x; ⟨_, e⟩
  | dT kvs => exact let ⟨_, _, _, _, ob, _, _, e, _⟩ := x; ⟨_, e⟩
  | set S n => exact let ⟨ob, _, _, _, e, _⟩ := x; ⟨_, e⟩
  | ins C dx fs => exact let ⟨_, _, _, e, _⟩ := x; ⟨_, e⟩
  | own y => exact x
  | xd fs => exact let ⟨_, ⟨_, _, _, e, _⟩, _⟩ := x; ⟨_, e⟩
  | rng lo hi => exact let ⟨_, _, _, e⟩ := x; ⟨_, e⟩
  | frz ob u => exact let ⟨e, _⟩ := x; ⟨_, e⟩
  | tbl ps => exact ⟨_, x⟩
  | met f y => exact ⟨_, x⟩
  | ext φ => exact x.2.1
theorem HOk.free {P : Program} {w : World} {H : Hp} {h : Heap} {a : Addr} (x : HOk P w H h) (n : h.get? a = none) : H a = none := by
  cases e : H a with
  | none => rfl
  | some o =>
    obtain ⟨u, hu⟩ := (x a o e).there
    rw [n] at hu; cases hu
structure Ar (P : Program) (w : World) (fs : List Addr) (H : Hp) (h : Heap) (x : Addr) (H' : Hp) (h' : Heap) (oe : Obj) (T C : Addr) : Prop where
  un : Un fs [] H H' h h'
  hok : HOk P w H' h'
  nx : h.get? x = none
  nT : h.get? T = none
  hx : H' x = none
  hT : H' T = none
  tr : Trc h' x oe T
  cls : oe.cls = .ref C
def CXE (P : Program) (w : World) : CXT := fun outer H s E e s' => ∃ x oe T H' C, e = .ref x ∧ s'.os = s.os ∧ AllBare s'.gens ∧ Ar P w (frs outer) H s.heap x H' s'.heap oe T C ∧ E (.ref C) oe.dict H'
section
variable {X : Cx} {pins : List (Addr × Obj)} {σ : St} {H : Hp} {s : Shared}
theorem Inv.old (I : Inv X pins σ H s) (hex : X.ex = []) {a : Addr} (n : s.heap.get? a = none) : X.s₀.heap.get? a = none := by
  cases e : X.s₀.heap.get? a with
  | none => rfl
  | some o =>
    obtain ⟨o', q⟩ := I.base.there a o e (by rw [hex]; simp)
    rw [n] at q; cases q
theorem mi {x T0 T C : Addr} {oe : Obj} {h1 h' : Heap} (I : Inv X pins σ H s) (hstk : X.stack = X.env :: X.outer) (hfr : X.env.frame = some X.env.locals) (hex : X.ex = []) (hx0 : X.s₀.heap.get? x = none) (hx : H x = none)
    (hT0 : X.s₀.heap.get? T0 = none) (hHT0 : H T0 = none) (h01 : ∀ b, b ≠ T0 → h1.get? b = s.heap.get? b) (hsz : h1.objs.size = s.heap.objs.size) (xl : nL (frs X.stack) x oe h1 h' T) (hc : oe.cls = .ref C) :
    ∃ oe', Ar X.prog X.w X.fs X.H₀ X.s₀.heap x H h' oe' T C ∧ oe'.dict = oe.dict := by
  have sub : ∀ b ∈ X.fs, b ∈ frs X.stack := fun b hb => by
    rw [hstk]
    show b ∈ (X.env :: X.outer).filterMap (·.frame)
    rw [List.filterMap_cons, hfr]
    exact List.mem_cons_of_mem _ hb
  have nex : ∀ b : Addr, b ∉ X.ex := fun b z => by rw [hex] at z; cases z
  have ne0 : ∀ b o, X.s₀.heap.get? b = some o → b ≠ T0 ∧ b ≠ x ∧ b ≠ X.env.locals := fun b o e => ⟨fun z => (by rw [z, hT0] at e; cases e), fun z => (by rw [z, hx0] at e; cases e), Nat.ne_of_lt (Nat.lt_of_lt_of_le (Heap.lt_size e) I.ok.above)⟩
  obtain ⟨oe', vs, e1, e2, e3, e4, e5⟩ := xl.exc
  have nT : s.heap.objs.size ≤ T := hsz ▸ xl.new
  have gT : X.s₀.heap.get? T = none := by
    cases e : X.s₀.heap.get? T with
    | none => rfl
    | some o => exact absurd (Nat.lt_of_lt_of_le (Heap.lt_size e) (Nat.le_trans I.sz nT)) (Nat.lt_irrefl _)
  refine ⟨oe', ⟨⟨fun b o e n hb _ => ?_, fun b o e n hb _ => ?_, fun b o e n _ => I.base.free b o e n (nex b), fun b o e _ => ?_, I.base.tups, I.base.frzs, I.base.tbls⟩, fun a o e => ?_, hx0, gT, hx, I.hok.fresh nT, ⟨e1, ⟨vs, e4, e5⟩, xl.ne, xl.trc⟩, e2.trans hc⟩, e3⟩
  · obtain ⟨n1, n2, n3⟩ := ne0 b o e
    refine xl.keep b o ((h01 b n1).trans (I.base.keep b o e n hb (nex b))) (fun z => ?_) n2
    rcases List.mem_cons.mp (I.stkSub b z) with q | q
    · exact n3 q
    · exact hb q
  · obtain ⟨n1, n2, n3⟩ := ne0 b o e
    obtain ⟨sl, q⟩ := I.base.slot b o e n hb (nex b)
    obtain ⟨sl', q'⟩ := xl.slot b _ ((h01 b n1).trans q) (sub b hb)
    exact ⟨sl', q'⟩
  · obtain ⟨n1, n2, n3⟩ := ne0 b o e
    obtain ⟨o', q⟩ := I.base.there b o e (nex b)
    by_cases hb : b ∈ frs X.stack
    · obtain ⟨sl', q'⟩ := xl.slot b _ ((h01 b n1).trans q) hb
      exact ⟨_, q'⟩
    · exact ⟨o', xl.keep b o' ((h01 b n1).trans q) hb n2⟩
  · refine (I.hok a o e).stay (fun b u hb q => ?_) (fun _ q => q) fun _ _ q => q
    have tr : ∃ v, H b = some v := by
      rcases hb with rfl | hb
      · exact ⟨o, e⟩
      · exact ⟨_, hb⟩
    obtain ⟨v, hv⟩ := tr
    refine xl.keep b u ((h01 b fun z => ?_).trans q) (fun z => ?_) fun z => ?_
    · rw [z, hHT0] at hv; cases hv
    · rw [I.stkFree b z] at hv; cases hv
    · rw [z, hx] at hv; cases hv
end
section
variable {P : Program} {w : World} {K : PySem.W.Frag} {mg : Str → Option Value} {base : Heap} {N : List Str} {qual : Str} {scope : Scope} {f : Addr} {cd : Value} {A : Around} {outer : List Env} {s0 : Shared} {H0 : Hp} {E : XK}
theorem AU : Passes (CXE P w) (jC (CXE P w) P w K mg base N qual scope f cd A outer s0 H0 E) E := by
  intro pins σ H s e s' I ⟨x, oe, T0, H', C, he, os, bare, fl, hE⟩
  subst he
  have J := I.call' os fl.un fl.hok bare (fun b z => absurd z (by simp))
  have hx0 := I.old rfl fl.nx
  have hT0 := I.old rfl fl.nT
  refine v7 (base := base) (L := s0.heap.objs.size) J.ok.frames J.stack rfl fl.tr fun h1 h' T h01 hsz xl => ?_
  obtain ⟨oe', fl', hd⟩ := mi J rfl rfl rfl hx0 fl.hx hT0 fl.hT h01 hsz xl fl.cls
  exact ⟨x, oe', T, H', C, rfl, J.os, J.bare, fl', by rw [hd]; exact hE⟩
def Raises (X : Cx) (E : XK) : Prop := ∀ (pins : List (Addr × Obj)) (σ : St) (H : Hp) (s : Shared) (h' : Heap) (x C : Addr) (args : List Value), Inv X pins σ H s → Heap.MadeExcOf s.heap h' x (.ref C) args → E (.ref C) none H → X.xe (.ref x) { s with heap := h' }
theorem xP : Raises (jC (CXE P w) P w K mg base N qual scope f cd A outer s0 H0 E) E := by
  intro pins σ H s h' x C args I m hE
  have J : Inv (jC (CXE P w) P w K mg base N qual scope f cd A outer s0 H0 E) pins σ H { s with heap := h' } := I.kept (t' := s.toks) m.keeps
  have hx0 := I.old rfl m.new
  have hx := I.hok.free m.new
  obtain ⟨t, e1, _, _⟩ := m.there
  refine uN (base := base) (L := s0.heap.objs.size) J.ok.frames J.stack rfl e1 rfl rfl fun h2 T xl => ?_
  obtain ⟨oe', fl', hd⟩ := mi J rfl rfl rfl hx0 hx hx0 hx (fun _ _ => rfl) rfl xl rfl
  exact ⟨x, oe', T, H, C, rfl, J.os, J.bare, fl', by rw [hd]; exact hE⟩
end
end L2
set_option maxRecDepth 100000
set_option maxHeartbeats 4000000
namespace L2
open PySem PySem.Spec PyProof.Rows
abbrev bmV : List Value := [.type "ValueError", .type "Exception", .type "BaseException", .type "object"]
theorem BX {K : PySem.W.Frag} {h : Heap} {C : Addr} {bmB : List Value} {newId : String} (X : K.In h) (q : PySem.W.excIn K C bmB newId = true) :
    ∃ bm N nm qn bs hd sn sub ab col dd k0 k1 k2 k3 k5 mN, h.get? C = some (excClassObj nm qn C N bs bm hd sn sub ab col dd k0 k1 k2 k3 k5 newId) ∧ h.Ns N mN ∧ mN "__init__" = none ∧ OwnTail h bmB bm := by
  unfold PySem.W.excIn at q
  split at q
  · rename_i dd cd sl look
    split at q
    · rename_i C' bm k0 k1 k2 k3 n k5 em es
      simp only [Bool.and_eq_true, beq_iff_eq, Bool.not_eq_true'] at q
      obtain ⟨⟨⟨⟨⟨q1, q2⟩, q3⟩, q4⟩, q5⟩, q6⟩ := q
      subst q1; subst q2
      obtain ⟨nm, bs, mro, ns, qn, hd, sn, sub, ab, col, del⟩ := cd
      simp only at em q3 q5 q6
      subst em; subst q3
      obtain ⟨l⟩ := sl
      simp only at es
      subst es
      refine ⟨bm, ns, nm, qn, bs, hd, sn, sub, ab, col, dd, k0, k1, k2, k3, k5, h.nsMap ns, X _ _ look, ?_, ?_, PySem.W.tail_of_in X q4⟩
      · exact Heap.Ns.of_isNs (PySem.W.isNs_of_in X q5)
      · exact PySem.W.nsMap_none_of_in X q5 q6
    · cases q
  · cases q
def yj (C : Addr) (E : XK) (t : TA) : TS := fun _ σ H => t σ H fun vs H1 => vs.length ≤ sizeLine ∧ E (.ref C) none H1
section
variable {X : Cx} {E : XK} {c : Str} {C : Addr} {np cpos pos : Pos} {e : Expr} {es : List Expr} {t : TA} {B newId initId : String} {bmB : List Value}
theorem sQ (hx : Raises X E) (hq : PySem.W.excIn X.K C bmB newId = true) (FB : ExcBaseFacts B newId initId bmB) (hcalm : X.calm = true) (hg : Gl X c) (hm : X.mg c = some (.ref C)) (ha : PA X (e :: es) t)
    (hdb : (c == ("__debug__" : Str)) = false := by decide) (he : starEach (e :: es) X.env = (false, eval e X.env) :: starEach es X.env := by rfl) (hpl : (backTo cpos (starEach es X.env)).any (·.1) = false := by rfl) :
    PS X (.Raise (some (.Call (.Name c np) (e :: es) [] cpos)) none pos) (yj C E t) := by
  intro pins s σ H D I h
  obtain ⟨bm, N, nm, qn, bs, hd, sn, sub, ab, col, dd, k0, k1, k2, k3, k5, mN, g1, g2, g3, g4⟩ := BX I.ok.mod.kin hq
  refine wpAny_Raise_call_subT (C := C) (nm := nm) (q := qn) (N := N) (bs := bs) (bm := bm) (hdct := hd) (sn := sn) (sub := sub) (ab := ab) (col := col) (dd := dd) (k0 := k0) (k1 := k1) (k2 := k2) (k3 := k3) (k5 := k5)
    FB (mN := mN) (g4.hasType FB.hasBase) (I.ok.hd hcalm) ?_ g3 (lr I hg hm ⟨rfl, ?_⟩ hdb)
  · rw [he]
    show (false || _) = false
    rw [Bool.false_or]; exact hpl
  · have z := ha cpos pins s σ H _ I h
    rw [he] at z ⊢
    refine Calls.evalArgs_plain (thn z fun us s2 ⟨vs, H1, I1, r, hl, hE⟩ => ⟨rfl, by rw [← r.length]; exact hl, I1.bk _ _ g1, g2.keeps I1.bk, g4.keeps I1.bk, fun h' x m => hx pins σ H1 s2 h' x C us I1 m hE⟩)
end
section
variable {P : Program} {w : World} {K : PySem.W.Frag} {mg : Str → Option Value} {base : Heap}
theorem Fun.okE {CX : CXT} {x qual : Str} {st : Stmt} {f : Addr} {fd : FuncData} {N ps : List Str} {k : Nat} {sp : Sp} (F : Fun K x qual st f fd) (S : bf N ps (aD st)) (len : ∀ vs H Q E, sp vs H Q E → vs.length = ps.length)
    (hb : ∀ (cdv : Value) (A : Around) (outer : List Env) (s : Shared) (H : Hp) (vs : List V) (Q : VK) (E : XK), cC k (A.deeper (envOfC qual (aD st) s.heap.objs.size f cdv)) → sp vs H Q E →
      ∃ t, PSs (jC CX P w K mg base N qual (aD st) f cdv A outer s H E) (aZ st) t ∧ t { nx := fun _ H' => Q .non H', rt := Q } (start N vs) H) : dR P w K mg base CX (k + 1) f fd ps sp := by
  obtain ⟨oc, od, kV, doc, pm, an, cdv, ct, osl, rfl, look, hcd⟩ := F.ex
  exact AI look hcd S len (hb cdv)
end
theorem Ab {l : PySem.W.OpenLaw} {n k : Nat} {q : Program} {loose : List Str} {XP : (Str → Option Value) → Heap → Prop} {YP : World → Heap → Prop} {d : DefRec} {K : Params → PySem.W.Frag} {sp : PySem.W.Frag → Sp} {x : Str} (hn : l.most = some n) (hn2 : n ≤ sizeLine)
    (hdf : d.params.defaults = []) (hr : cC k callerA) (hi : importsNone q = true) (hY : ∀ (w : World) (h : Heap), YP w h → (K w.params).In h) (F : ∀ (w : World) (mg : Str → Option Value) (fa : Addr) (h : Heap), (K w.params).In h → h.Ns mainGlobals mg → mg d.name = some (.ref fa) →
      ∃ fd : FuncData, (∀ (s : Shared) (u : Value), BindsTo s fd ⟨[u], []⟩ [(x, u)]) ∧ ∀ base : Heap, (K w.params).In base → base.Ns mainGlobals mg → dR l.prog w (K w.params) mg base (CXE l.prog w) k fa fd [x] (sp (K w.params)))
    (hsp : ∀ (K : PySem.W.Frag) (H : Hp) (a : Addr) (ns : List Int), ns.length ≤ n → wa H → SqL K H a (ns.map V.int) → sp K [.ref a] H (fun v _ => v = .bl true) fun _ _ _ => False) : PySem.W.WalkO q loose XP YP l.row.toRowW d [] (fun f vs => PySem.call f vs) :=
  BR (K := K) (CX := fun w => CXE l.prog w) (sp := fun w => sp (K w.params)) hn hn2 hdf hr hi hY F (fun w H a ns h1 h2 h3 => hsp (K w.params) H a ns h1 h2 h3) fun _ _ _ _ _ ⟨_, _, _, _, _, _, _, _, _, z⟩ => z
end L2
set_option maxRecDepth 100000
set_option maxHeartbeats 4000000
namespace L2
open PySem PySem.Spec PyProof.Rows
def xy (C : Addr) (m : Str) (sp : Sp) (dvs : List V) (Es : St → XK) (ta : TE) (t : TA) : TE := fun σ H Q => ta σ H fun x H1 => ∃ a dx fs, x = .ref a ∧ H1 a = some (.ins C dx fs) ∧ fs.lookup m = none ∧ t σ H1 fun vs H2 => sp (x :: (vs ++ dvs)) H2 Q (Es σ)
def lb (CX : CXT) (X : Cx) (Es : St → XK) : Prop := ∀ (pins : List (Addr × Obj)) (σ : St) (H : Hp) (s : Shared) (e : Value) (s' : Shared), Inv X pins σ H s → CX X.stack H s (Es σ) e s' → X.xe e s'
theorem Passes.s {CX : CXT} {X : Cx} {E : XK} (h : Passes CX X E) : lb CX X fun _ => E := h
section
variable {X : Cx} {CX : CXT} {k : Nat} {f C : Addr} {fd : FuncData} {ps : List Str} {sp : Sp} {dvs : List V} {ds : List Value} {Es : St → XK} {x m : Str} {p pos apos : Pos} {e o : Expr} {es : List Expr} {ta : TE} {t : TA}
theorem BJ {pins : List (Addr × Obj)} {σ : St} {H : Hp} {s : Shared} {Q : VK} {us : List Value} {vs : List V} (F : dR X.prog X.w X.K X.mg X.base CX k f fd ps sp) (hr : cC k X.A) (hb : Binds X.K fd ps ds) (hd : Vals dvs ds) (hx : lb CX X Es)
    (I : Inv X pins σ H s) (r : Vals vs us) (h : sp (vs ++ dvs) H Q (Es σ)) : wpAny (model X.prog X.w) X.A (call (.ref f) us) (EP X pins σ Q) X.xe s := by
  have r2 : Vals (vs ++ dvs) (us ++ ds) := r.append hd
  have hl : (us ++ ds).length = ps.length := r2.length ▸ F.len _ _ _ _ h
  refine wpAny_call (codeAny_mono (F.run X.A X.stack s H ⟨us, []⟩ (us ++ ds) (vs ++ dvs) Q (Es σ) hr I.env0 (hb s us I.kIn hl) r2 h) fun res s' z => ?_)
  match res, z with
  | .error e, z => exact hx pins σ H s e s' I z
  | .ok (.ret u), z => exact I.after z
theorem lG {pl : Sem Bool} (he : PE X o ta) (c : Cls X.K C) (hm : Meth X.K C m f) (F : dR X.prog X.w X.K X.mg X.base CX k f fd ps sp) (hr : cC k X.A) (hb : Binds X.K fd ps ds) (hd : Vals dvs ds) (hx : lb CX X Es) (ha : PA X (e :: es) t)
    (hst : starEach (e :: es) X.env = (false, eval e X.env) :: starEach es X.env := by rfl) (hpl : (backTo pos (starEach es X.env)).any (·.1) = false := by rfl)
    (ht : eval (.Call (.Attribute o m apos) (e :: es) [] pos) X.env = (do
      let ov ← eval o X.env
      standAt apos.atName
      let (f, first) ← holding [ov] (getMethod ov m pl)
      callWith pos f first (backTo pos (starEach (e :: es) X.env)) (backToKw pos (keywordEach [] X.env))) := by rfl) :
    PE X (.Call (.Attribute o m apos) (e :: es) [] pos) (xy C m sp dvs Es ta t) := by
  intro pins s σ H Q I h
  refine PySem.W.methodCall_KW (pl := pl) (thn (he pins s σ H _ I h) fun u s1 ⟨y, H1, I1, ry, a, dx, fs, ey, ea, l, q⟩ => ?_) ht
  cases ey
  cases (show u = Value.ref a from ry)
  exact jI I1 ea c hm l (PySem.W.callWith_K (first := [.ref a]) (h₀ := X.base) I.ok.mod.kin hm.kp (thn (ha pos pins s1 σ H1 _ I1 q) fun us s2 ⟨vs, H2, I2, r, q2⟩ => ⟨I2.kIn, BJ (us := .ref a :: us) (vs := .ref a :: vs) F hr hb hd hx I2 (.cons rfl r) q2⟩) hst hpl)
end
abbrev Cx.pinned (X : Cx) (p : List (Addr × Obj)) (E : Value → Shared → Prop) : Cx := { X with pn := p, xe := E }
theorem Cx.Ok.pinned {X : Cx} (ok : X.Ok) (p : List (Addr × Obj)) (E : Value → Shared → Prop) : (X.pinned p E).Ok := ⟨ok.mod, ok.kind, ok.glob, ok.blt, ok.above, ok.inj, ok.has, ok.cab, ok.hd, ok.frames, ok.stk, ok.exf, ok.bs, ok.bsz, ok.noex, ok.exfs, ok.funs, ok.frf⟩
theorem Cx.Ok.unpinned {X : Cx} {p : List (Addr × Obj)} {E : Value → Shared → Prop} (ok : (X.pinned p E).Ok) : X.Ok := ⟨ok.mod, ok.kind, ok.glob, ok.blt, ok.above, ok.inj, ok.has, ok.cab, ok.hd, ok.frames, ok.stk, ok.exf, ok.bs, ok.bsz, ok.noex, ok.exfs, ok.funs, ok.frf⟩
section
variable {X : Cx} {pins : List (Addr × Obj)} {σ : St} {H : Hp} {s : Shared} {E : Value → Shared → Prop}
theorem Inv.toPinned (I : Inv X pins σ H s) (E : Value → Shared → Prop) : Inv (X.pinned (X.pn ++ pins) E) [] σ H s :=
  ⟨I.ok.pinned _ _, I.os, I.bare, I.base, I.loc, I.cell, I.free, I.freeC, fun p hp => I.pin p (by simpa using hp), I.hok, I.len⟩
theorem Inv.ofPinned {pins' : List (Addr × Obj)} (I : Inv (X.pinned (X.pn ++ pins) E) pins' σ H s) : Inv X pins σ H s :=
  ⟨I.ok.unpinned, I.os, I.bare, I.base, I.loc, I.cell, I.free, I.freeC, fun p hp => I.pin p (List.mem_append_left _ hp), I.hok, I.len⟩
theorem Inv.landed {s1 : Shared} {H1 : Hp} {x T0 T C : Addr} {oe : Obj} {h1 h' : Heap} (I : Inv X pins σ H s) (J : Inv X pins σ H1 s1) (hstk : X.stack = X.env :: X.outer) (hfr : X.env.frame = some X.env.locals) (hex : X.ex = []) (nx : s.heap.get? x = none) (hx : H1 x = none)
    (nT0 : s.heap.get? T0 = none) (hT0 : H1 T0 = none) (h01 : ∀ b, b ≠ T0 → h1.get? b = s1.heap.get? b) (hsz : h1.objs.size = s1.heap.objs.size) (xl : nL (frs X.stack) x oe h1 h' T) (hc : oe.cls = .ref C) : Inv X pins σ H1 { s1 with heap := h' } := by
  obtain ⟨oe', fl, _⟩ := mi J hstk hfr hex (I.old hex nx) hx (I.old hex nT0) hT0 h01 hsz xl hc
  have ne : ∀ b o, s.heap.get? b = some o → b ≠ T0 ∧ b ≠ x := fun b o e => ⟨fun z => (by rw [z, nT0] at e; cases e), fun z => (by rw [z, nx] at e; cases e)⟩
  have mv : ∀ b u o, s.heap.get? b = some u → s1.heap.get? b = some o → ∃ sl, h'.get? b = some { o with slots := sl } := fun b u o e1 e2 => by
    obtain ⟨n1, n2⟩ := ne b u e1
    by_cases hb : b ∈ frs X.stack
    · exact xl.slot b o ((h01 b n1).trans e2) hb
    · exact ⟨o.slots, xl.keep b o ((h01 b n1).trans e2) hb n2⟩
  have cellK : ∀ y c, X.env.cells.lookup y = some c → ∀ v, s1.heap.IsCell c v → h'.IsCell c v := fun y c e v ⟨o, ho, hd⟩ => by
    obtain ⟨v0, o0, ho0, _⟩ := I.cell y c e
    obtain ⟨sl, q⟩ := mv c o0 o ho0 ho
    exact ⟨_, q, hd⟩
  refine ⟨J.ok, J.os, J.bare, ?_, ?_, fun y c e => ?_, J.free, J.freeC, fun p hp => ?_, fl.hok, J.len⟩
  · show Un X.fs X.ex X.H₀ H1 X.s₀.heap h'
    rw [hex]; exact fl.un
  · obtain ⟨m, ⟨o, es, ep, ho, r⟩, hl⟩ := J.loc
    obtain ⟨m0, ⟨o0, _, _, ho0, _⟩, _⟩ := I.loc
    obtain ⟨sl, q⟩ := mv _ o0 o ho0 ho
    refine ⟨m, ⟨_, es, ep, q, r⟩, fun i y v e1 e2 e3 => ?_⟩
    obtain ⟨u, rv, l⟩ := hl i y v e1 e2 e3
    refine ⟨u, rv, ?_⟩
    rcases l with l | ⟨k, c, e, z⟩
    · exact .inl l
    · exact .inr ⟨k, c, e, cellK y c e _ z⟩
  · obtain ⟨v, z⟩ := J.cell y c e
    exact ⟨v, cellK y c e v z⟩
  · obtain ⟨e0, _⟩ := I.pin p hp
    obtain ⟨e, n, nl, nf, d⟩ := J.pin p hp
    obtain ⟨n1, n2⟩ := ne _ _ e0
    refine ⟨xl.keep p.1 p.2 ((h01 _ n1).trans e) (fun z => ?_) n2, n, nl, nf, d⟩
    rcases List.mem_cons.mp (J.stkSub _ z) with q | q
    · exact nl q
    · exact nf q
end
end L2
set_option maxRecDepth 100000
set_option maxHeartbeats 4000000
namespace L2
open PySem PySem.Spec PyProof.Rows
def exO (a C : Addr) : HO := .ext fun h => ∃ o, h.get? a = some o ∧ o.cls = .ref C ∧ o.dict = none ∧ (∀ cd, o.data ≠ .cls cd)
abbrev Cx.hand (X : Cx) (v : Value) : Cx := { X with A := X.A.mark (some v), calm := false, xe := fun _ _ => False }
section
variable {X : Cx} {pins : List (Addr × Obj)} {σ : St} {H : Hp} {s : Shared} {v : Value}
theorem Inv.hand (I : Inv X pins σ H s) (v : Value) : Inv (X.hand v) pins σ H s :=
  ⟨⟨I.ok.mod, I.ok.kind, I.ok.glob, I.ok.blt, I.ok.above, I.ok.inj, I.ok.has, I.ok.cab, (fun z => nomatch z), I.ok.frames, I.ok.stk, I.ok.exf, I.ok.bs, I.ok.bsz, I.ok.noex, I.ok.exfs, I.ok.funs, I.ok.frf⟩, I.os, I.bare, I.base, I.loc, I.cell, I.free, I.freeC, I.pin, I.hok, I.len⟩
theorem Inv.unhand (I : Inv (X.hand v) pins σ H s) (ok : X.Ok) : Inv X pins σ H s := ⟨ok, I.os, I.bare, I.base, I.loc, I.cell, I.free, I.freeC, I.pin, I.hok, I.len⟩
theorem SP.unhand {D : Ends} {f : Flow} {s' : Shared} (ok : X.Ok) (h : SP (X.hand v) pins D f s') : SP X pins D f s' := by
  cases f with
  | next => exact let ⟨σ', H', I, q⟩ := h; ⟨σ', H', I.unhand ok, q⟩
  | brk => exact let ⟨σ', H', I, q⟩ := h; ⟨σ', H', I.unhand ok, q⟩
  | cont => exact let ⟨σ', H', I, q⟩ := h; ⟨σ', H', I.unhand ok, q⟩
  | ret u => exact let ⟨v, σ', H', I, r, q⟩ := h; ⟨v, σ', H', I.unhand ok, r, q⟩
theorem Inv.track {x C : Addr} (I : Inv X pins σ H s) (hx : H x = none) (h0 : X.s₀.heap.get? x = none) (hC : ∃ o, s.heap.get? x = some o ∧ o.cls = .ref C ∧ o.dict = none ∧ ∀ cd, o.data ≠ .cls cd) (nl : x ≠ X.env.locals) (nc : ∀ y c, X.env.cells.lookup y = some c → c ≠ x) (np : ∀ p ∈ X.pn ++ pins, p.1 ≠ x) :
    Inv X pins σ (upd H x (exO x C)) s := by
  have ne : ∀ b u, H b = some u → b ≠ x := fun b u e z => by rw [z, hx] at e; cases e
  have ne0 : ∀ b o, X.s₀.heap.get? b = some o → b ≠ x := fun b o e z => by rw [z, h0] at e; cases e
  refine ⟨I.ok, I.os, I.bare, ⟨I.base.keep, I.base.slot, fun b o e n hb => ?_, I.base.there, fun b xs e => ?_, fun b o u e => ?_, fun b ps e => ?_⟩, I.loc, I.cell, ?_, fun y c e => ?_, fun p hp => ?_, fun a o e => ?_, I.len⟩
  · rw [aG (ne0 b o e)]; exact I.base.free b o e n hb
  · have := I.base.tups b xs e
    rw [aG (ne b _ this)]; exact this
  · have := I.base.frzs b o u e
    rw [aG (ne b _ this)]; exact this
  · obtain ⟨more, q⟩ := I.base.tbls b ps e
    exact ⟨more, by rw [aG (ne b _ q)]; exact q⟩
  · rw [aG (Ne.symm nl)]; exact I.free
  · rw [aG (nc y c e)]; exact I.freeC y c e
  · obtain ⟨q1, q2, q3⟩ := I.pin p hp
    exact ⟨q1, by rw [aG (np p hp)]; exact q2, q3⟩
  · by_cases z : a = x
    · subst z
      rw [bP] at e
      cases e
      obtain ⟨o, q1, q2, q4, q3⟩ := hC
      exact ⟨⟨o, q1, q2, q4, q3⟩, ⟨o, q1⟩, fun h1 h2 ⟨o', p1, p2, p3, p4⟩ k => ⟨o', k o' p1, p2, p3, p4⟩⟩
    · rw [aG z] at e
      refine (I.hok a o e).stay (fun _ _ _ q => q) (fun b q => ?_) fun b xs q => ?_
      · rw [aG (ne b _ q)]; exact q
      · rw [aG (ne b _ q)]; exact q
theorem name_goes {M : Model} {A : Around} {E : Value → Shared → Prop} {i : Nat} {n : Str} {pos : Pos} {Q : Unit → Shared → Prop} (I : Inv X pins σ H s) (hN : X.N.Nodup) (hi : X.N[i]? = some n) (hl : X.env.scope.names.lookup n = some .local)
    (h : ∀ s', Inv X pins (σ.set i none) H s' → Q () s') : wpAny M A (do bindName X.env n .none; unbindBehindTheSuite X.env n pos) Q E s := by
  have hcls : (X.env.scope.kind == .class || (X.env.scope.kind == .module && X.env.locals != X.env.globals)) = false := by rw [I.ok.kind]; rfl
  have hk : X.env.kindOf n = some .local := hl
  refine wpAny_bind (wpAny_bindName (lU I hN hi (.inl hl) (v := .non) (u := .none) rfl (fun s1 I1 => ?_) (.inr hl)))
  obtain ⟨m, hn, hm⟩ := id I1.loc
  unfold unbindBehindTheSuite
  refine wpAny_onRaise ?_
  unfold unbindName
  refine wpAny_bind (wpAny_point (wpAny_bind ?_))
  unfold deleteName
  simp only [hk, hcls]
  rw [if_neg (by decide)]
  refine wpAny_bind (wpAny_nsDel_keeps hn fun h2 w hn2 hs => ?_)
  have hiσ : i < σ.length := by rw [I.len]; exact (List.getElem?_eq_some_iff.mp hi).1
  have some_n : (m n).isSome = true := by
    obtain ⟨u, r, q⟩ := hm i n .non hi (List.getElem?_set_self hiσ) (.inl hl)
    rcases q with ⟨_, q⟩ | ⟨q, _⟩
    · rw [q]; rfl
    · rw [hk] at q; rcases q with q | q <;> cases q
  rw [some_n]
  simp only [if_true, Bool.not_true, Bool.false_eq_true, if_false]
  refine wpAny_pure (wpAny_point (h _ ?_))
  have hs : Heap.SameBut X.env.locals s1.heap h2 := hs
  refine ⟨I1.ok, I1.os, I1.bare, ⟨fun b o e n hb hx => ?_, fun b o e n hb hx => ?_, I1.base.free, fun b o e hx => ?_, I1.base.tups, I1.base.frzs, I1.base.tbls⟩, ⟨_, hn2, fun j y v' e1 e2 e3 => ?_⟩, fun y c e => ?_, I1.free, I1.freeC, fun p hp => ?_, fun b ob e => ?_, by simpa using I.len⟩
  · exact (hs.2 b (Nat.ne_of_lt (Nat.lt_of_lt_of_le (Heap.lt_size e) I.ok.above))).trans (I1.base.keep b o e n hb hx)
  · obtain ⟨sl, e1⟩ := I1.base.slot b o e n hb hx
    exact ⟨sl, (hs.2 b (Nat.ne_of_lt (Nat.lt_of_lt_of_le (Heap.lt_size e) I.ok.above))).trans e1⟩
  · obtain ⟨o', e1⟩ := I1.base.there b o e hx
    exact ⟨o', (hs.2 b (Nat.ne_of_lt (Nat.lt_of_lt_of_le (Heap.lt_size e) I.ok.above))).trans e1⟩
  · by_cases hj : i = j
    · subst hj
      rw [List.getElem?_set_self hiσ] at e2; cases e2
    · rw [List.getElem?_set_ne hj] at e2
      obtain ⟨u, r, q⟩ := hm j y v' e1 (by rw [List.getElem?_set_ne hj]; exact e2) e3
      refine ⟨u, r, ?_⟩
      have yn : y ≠ n := fun z => hj (o3 hN hi (z ▸ e1))
      rcases q with ⟨k1, q⟩ | ⟨k1, c, e, z⟩
      · exact .inl ⟨k1, by show (if y = n then w else m y) = _; rw [if_neg yn]; exact q⟩
      · exact .inr ⟨k1, c, e, z.sameBut hs (I1.cne y c e)⟩
  · obtain ⟨w', z⟩ := I1.cell y c e
    exact ⟨w', z.sameBut hs (I1.cne y c e)⟩
  · obtain ⟨e, n, ne, nf, d⟩ := I1.pin p hp
    exact ⟨(hs.2 p.1 ne).trans e, n, ne, nf, d⟩
  · refine (I1.hok b ob e).stay (fun c w' hc q => (hs.2 c ?_).trans q) (fun _ q => q) fun _ _ q => q
    rintro rfl
    rcases hc with rfl | hc
    · rw [I1.free] at e; cases e
    · rw [I1.free] at hc; cases hc
theorem uU {M : Model} {A : Around} {E : Value → Shared → Prop} {x T : Addr} {oe : Obj} {Q : Unit → Shared → Prop} (ht : Trc s.heap x oe T) (h : ∀ h', (∀ b u, s.heap.get? b = some u → h'.get? b = some u) → Q () { s with heap := h' }) : wpAny M A (setFlight (.ref x) none) Q E s := by
  obtain ⟨he, ⟨vs, hd, h1⟩, hne, oT, ts, hT, hdT, h3⟩ := ht
  unfold setFlight
  refine wpAny_bind (wpAny_field he hd h1 ?_)
  rw [if_pos (by simp)]
  refine wpAny_setField hT hdT (Array.getElem?_eq_some_iff.mp h3).1 (h _ fun b u e => ?_)
  by_cases z : b = T
  · subst z
    cases hT.symm.trans e
    have same : Obj.mapFields (·.setIfInBounds 3 ((none : Option Addr).elim Value.none fun f => rawInt f)) oT = oT := by
      obtain ⟨c, d, dt, sl⟩ := oT
      cases hdT
      show (Obj.mk c d (.fields (ts.setIfInBounds 3 Value.none)) sl) = _
      congr 2
      apply Array.ext
      · simp
      · intro k hk1 hk2
        rw [Array.getElem_setIfInBounds (by simpa using hk2)]
        split
        · rename_i q
          subst q
          have := (Array.getElem?_eq_some_iff.mp h3).2
          exact this.symm
        · rfl
    have := Heap.get?_update_self (Obj.mapFields (·.setIfInBounds 3 ((none : Option Addr).elim Value.none fun f => rawInt f))) hT (by rw [same]; exact Obj.isFreed_of_fields hdT)
    rw [same] at this
    exact this
  · rw [Heap.get?_update_other _ _ (Ne.symm z)]; exact e
end
end L2
set_option maxRecDepth 100000
set_option maxHeartbeats 4000000
namespace L2
open PySem PySem.Spec PyProof.Rows
structure ke (X : Cx) (pins : List (Addr × Obj)) (H : Hp) (s : Shared) (x C : Addr) : Prop where
  tr : ∃ oe T, Trc s.heap x oe T ∧ oe.cls = .ref C ∧ oe.dict = none
  hx : H x = none
  h0 : X.s₀.heap.get? x = none
  nl : x ≠ X.env.locals
  nc : ∀ y c, X.env.cells.lookup y = some c → c ≠ x
  np : ∀ p ∈ X.pn ++ pins, p.1 ≠ x
theorem ke.kept {X : Cx} {pins : List (Addr × Obj)} {H : Hp} {s : Shared} {x C : Addr} {h' : Heap} (c : ke X pins H s x C) (k : ∀ b u, s.heap.get? b = some u → h'.get? b = some u) : ke X pins H { s with heap := h' } x C :=
  let ⟨oe, T, ⟨e, d, n, oT, ts, a1, a2⟩, hc⟩ := c.tr
  ⟨⟨oe, T, ⟨k _ _ e, d, n, oT, ts, k _ _ a1, a2⟩, hc⟩, c.hx, c.h0, c.nl, c.nc, c.np⟩
theorem ke.obj {X : Cx} {pins : List (Addr × Obj)} {H : Hp} {s : Shared} {x C : Addr} (c : ke X pins H s x C) : ∃ o, s.heap.get? x = some o ∧ o.cls = .ref C ∧ o.dict = none ∧ ∀ cd, o.data ≠ .cls cd :=
  let ⟨oe, T, ⟨e, ⟨vs, d, _⟩, _, _⟩, hc, hd⟩ := c.tr
  ⟨oe, e, hc, hd, fun cd z => by rw [d] at z; cases z⟩
def HB (X : Cx) (hs : List ExceptHandler) (th : Addr → TS) : Prop := ∀ (pins : List (Addr × Obj)) (σ : St) (H : Hp) (s : Shared) (x C : Addr) (D : Ends), Inv X pins σ H s → ke X pins H s x C → th C D σ H → wpAny (model X.prog X.w) X.A (handleBy (.ref x) X.env hs) (SP X pins D) X.xe s
theorem CO {X : Cx} : HB X [] fun _ _ _ _ => False := fun _ _ _ _ _ _ _ _ _ z => z.elim
def tEx (sub : Addr → Option Bool) (tb : Addr → TS) (th : Addr → TS) : Addr → TS := fun C D σ H => match sub C with
  | some true => tb C D σ H
  | some false => th C D σ H
  | none => False
def tAs (i : Nat) (tb : TS) : Addr → TS := fun C D σ H => ∀ x, H x = none → tb { nx := fun σ' H' => D.nx (σ'.set i none) H', rt := D.rt, bk := fun σ' H' => D.bk (σ'.set i none) H', ct := fun σ' H' => D.ct (σ'.set i none) H' } (σ.set i (some (.ref x))) (upd H x (exO x C))
section
variable {X : Cx} {c : Str} {Dc : Addr} {np pos : Pos} {b0 : Stmt} {suite : List Stmt} {rest : List ExceptHandler} {sub : Addr → Option Bool} {tb : TS} {th : Addr → TS}
theorem vN {pins : List (Addr × Obj)} {σ : St} {H : Hp} {s : Shared} {x C : Addr} {name : Option Str} {body : List Stmt} {b : Bool} {Q : Flow → Shared → Prop} (I : Inv X pins σ H s) (cg : ke X pins H s x C) (hg : Gl X c) (hm : X.mg c = some (.ref Dc)) (hs : PySem.W.exmOne X.K (.ref C) (.ref Dc) = some b)
    (h : if b then codeAny (model X.prog X.w) (X.A.mark (some (.ref x))) (.handlers (.ref x) [.ExceptHandler none name body pos] X.env) (fun r s₂ => match r with
        | .ok f => (match name with
          | none => Q f s₂
          | some n => wpAny (model X.prog X.w) X.A (do bindName X.env n .none; unbindBehindTheSuite X.env n pos) (fun _ s₃ => Q f s₃) X.xe s₂)
        | .error x => cameBackBy (model X.prog X.w) X.A X.env X.xe x s₂) s
      else wpAny (model X.prog X.w) X.A (handleBy (.ref x) X.env rest) Q X.xe s) (hdb : (c == ("__debug__" : Str)) = false) : wpAny (model X.prog X.w) X.A (handleBy (.ref x) X.env (.ExceptHandler (some (.Name c np)) name body pos :: rest)) Q X.xe s := by
  obtain ⟨o, ho, hc, _⟩ := cg.obj
  have LT : PySem.W.Looks (model X.prog X.w) s.heap (typeOf (.ref x)) (.ref C) := hc ▸ (PySem.W.Looks.ld ho).andThen .now
  refine wpAny_handleBy_cons (codeAny_handlers_test ?_) (by intro q; cases q)
  refine lr (I.hand (.ref x)) hg hm ((PySem.W.exm_one I.kIn LT hs).here ?_) hdb
  cases b with
  | true => exact h
  | false => exact h
theorem Ej {i : Nat} {n : Str} (hN : X.N.Nodup) (hi : X.N[i]? = some n) (hl : X.env.scope.names.lookup n = some .local) (hg : Gl X c) (hm : X.mg c = some (.ref Dc)) (hs : ∀ C b, sub C = some b → PySem.W.exmOne X.K (.ref C) (.ref Dc) = some b)
    (hb : ∀ v, PSs (X.hand v) (b0 :: suite) tb) (hr : HB X rest th) (hdb : (c == ("__debug__" : Str)) = false := by decide) : HB X (.ExceptHandler (some (.Name c np)) (some n) (b0 :: suite) pos :: rest) (tEx sub (tAs i tb) th) := by
  intro pins σ H s x C D I cg h
  unfold tEx at h
  split at h
  · rename_i e
    refine vN I cg hg hm (hs C _ e) ?_ hdb
    rw [if_pos rfl]
    obtain ⟨oe, T, tr, _⟩ := cg.tr
    refine codeAny_handlers_suite_as (uU tr fun h' k => ?_)
    have I2 := I.kept (t' := s.toks) k
    have cg2 := cg.kept k
    have J := (I2.track cg2.hx cg2.h0 cg2.obj cg2.nl cg2.nc cg2.np).hand (.ref x)
    refine lU (X := X.hand (.ref x)) J hN hi (.inl hl) (v := .ref x) rfl (fun s3 J3 => ?_) (.inr hl)
    refine wpAny_mono (hb (.ref x) pins s3 _ _ _ J3 (h x cg.hx)) (fun f s4 q => ?_) fun _ _ z => False.elim z
    have q := q.unhand I.ok
    cases f with
    | next =>
      obtain ⟨σ', H', I4, q⟩ := q
      exact name_goes I4 hN hi hl fun s5 I5 => ⟨_, _, I5, q⟩
    | brk =>
      obtain ⟨σ', H', I4, q⟩ := q
      exact name_goes I4 hN hi hl fun s5 I5 => ⟨_, _, I5, q⟩
    | cont =>
      obtain ⟨σ', H', I4, q⟩ := q
      exact name_goes I4 hN hi hl fun s5 I5 => ⟨_, _, I5, q⟩
    | ret u =>
      obtain ⟨v, σ', H', I4, r, q⟩ := q
      exact name_goes I4 hN hi hl fun s5 I5 => ⟨v, _, _, I5, r, q⟩
  · rename_i e
    exact vN I cg hg hm (hs C _ e) (hr pins σ H s x C D I cg h) hdb
  · exact h.elim
end
def Dv (tb : (St → XK) → TS) (th : Addr → TS) : TS := fun D σ H => tb (fun σ' cls dx H' => ∃ C, cls = .ref C ∧ dx = none ∧ th C D σ' H') D σ H
theorem Dp {X : Cx} {body : List Stmt} {h0 : ExceptHandler} {hs : List ExceptHandler} {pos : Pos} {tb : (St → XK) → TS} {th : Addr → TS} (hstk : X.stack = X.env :: X.outer) (hfr : X.env.frame = some X.env.locals) (hex : X.ex = [])
    (hb : ∀ (p : List (Addr × Obj)) (E' : Value → Shared → Prop) (Es : St → XK), lb (CXE X.prog X.w) (X.pinned p E') Es → PSs (X.pinned p E') body (tb Es)) (hh : HB X (h0 :: hs) th) : PS X (.Try body (h0 :: hs) [] [] pos) (Dv tb th) := by
  intro pins s σ H D I h
  let Es : St → XK := fun σ' cls dx H' => ∃ C, cls = .ref C ∧ dx = none ∧ th C D σ' H'
  let E' : Value → Shared → Prop := fun e s' => ∃ σ1 H1 s1, Inv X pins σ1 H1 s1 ∧ CXE X.prog X.w X.stack H1 s1 (Es σ1) e s'
  have hp : lb (CXE X.prog X.w) (X.pinned (X.pn ++ pins) E') Es := fun p1 σ1 H1 s1 e s' I1 c => ⟨σ1, H1, s1, I1.ofPinned, c⟩
  refine wpAny_Try_except (wpAny_mono (hb (X.pn ++ pins) E' Es hp [] s σ H D (I.toPinned E') h) (fun f s1 q => ?_) fun e s1 ⟨σ1, H1, s2, I1, x, oe, T0, H2, C, he, os, bare, fl, hE⟩ => ?_)
  · cases f with
    | next =>
      obtain ⟨σ1, H1, I1, q⟩ := q
      exact wpAny_execs_nil ⟨σ1, H1, I1.ofPinned, q⟩
    | brk => exact let ⟨σ1, H1, I1, q⟩ := q; ⟨σ1, H1, I1.ofPinned, q⟩
    | cont => exact let ⟨σ1, H1, I1, q⟩ := q; ⟨σ1, H1, I1.ofPinned, q⟩
    | ret u => exact let ⟨v, σ1, H1, I1, r, q⟩ := q; ⟨v, σ1, H1, I1.ofPinned, r, q⟩
  · subst he
    have J := I1.call' os fl.un fl.hok bare (fun b z => absurd z (by simp))
    have fs := J.stack
    have ff := J.ok.frames
    rw [hstk] at fs ff
    refine rG (base := X.base) ff fs hfr fl.tr fun h1 h' T h01 hsz xl => ?_
    rw [← hstk] at xl
    have J2 := I1.landed J hstk hfr hex fl.nx fl.hx fl.nT fl.hT h01 hsz xl fl.cls
    obtain ⟨oe', vs, e1, e2, e3, e4, e5⟩ := xl.exc
    obtain ⟨C', hC', hdx, q⟩ := hE
    cases hC'
    refine hh pins σ1 H2 _ x C D J2 ⟨⟨oe', T, ⟨e1, ⟨vs, e4, e5⟩, xl.ne, xl.trc⟩, e2.trans fl.cls, e3.trans hdx⟩, fl.hx, I1.old hex fl.nx, fun z => ?_, fun y c e z => ?_, fun p hp z => ?_⟩ q
    · obtain ⟨m, ⟨o, _, _, ho, _⟩, _⟩ := I1.loc
      rw [← z, fl.nx] at ho; cases ho
    · obtain ⟨v, o, ho, _⟩ := I1.cell y c e
      rw [z, fl.nx] at ho; cases ho
    · obtain ⟨e, _⟩ := I1.pin p hp
      rw [z, fl.nx] at e; cases e
end L2
set_option maxRecDepth 100000
set_option maxHeartbeats 4000000
namespace L2
open PySem PySem.Spec PyProof.Rows PySem.W
structure ExK (K : PySem.W.Frag) (D : Addr) : Prop where
  ga : findIn K (.ref D) "__getattribute__" = some (some (.builtin "BaseException.__getattribute__"))
  hk : findIn K (.ref D) "__getattr__" = some none
  cl : findIn K (.ref D) "__class__" = some (some (.builtin "object.__class__"))
  gt : specialIn K (.builtin "object.__class__") "__get__" = some (some (.builtin "getset_descriptor.__get__"))
  tk : takesIn K (.builtin "object.__class__") = some true
  ob : mroIn K D (.type "object") = some true
  be : mroIn K D (.type "BaseException") = some true
section
variable {prog : Program} {w : World} {A : Around} {E : Value → Shared → Prop} {s : Shared} {K : PySem.W.Frag} {x D : Addr} {ox : Obj}
theorem rR {C : Addr} {name : Str} {a g : Value} (hc : (clsIn K C).isSome = true) (ha : findIn K (.ref C) name = some (some a)) (hg : specialIn K a "__get__" = some (some g)) (ht : takesIn K a = some true) : findObj K C none name = some (.bind g a) := by
  obtain ⟨cd, hc⟩ := Option.isSome_iff_exists.mp hc
  unfold findObj
  rw [hc, Option.bind_some, ha, Option.bind_some]
  simp [hg, ht]
theorem ExK.cls (k : ExK K D) : (clsIn K D).isSome = true := by
  obtain ⟨cd, hc, _⟩ := Option.bind_eq_some_iff.mp k.ob
  rw [hc]; rfl
theorem yL {Q : Option Value → Shared → Prop} (k : ExK K D) (X : K.In s.heap) (I : InstAt s.heap x ox D none) (h : Q (some (.ref D)) { s with toks := s.toks + 1 }) : wpAny (model prog w) A (getAttr? (.ref x) "__class__") Q E s := by
  obtain ⟨hh, g, d, t, os⟩ := s
  have L0 := I.type (M := model prog w)
  have L1 := looks_findIn (M := model prog w) X k.ga
  have L2 := looks_findIn (M := model prog w) X k.hk
  have L3 := looks_mroIn (M := model prog w) X k.be
  have L4 := looks_find (M := model prog w) X I (rR k.cls k.cl k.gt k.tk)
  unfold getAttr? getAttrBy? getAttrBy
  refine wpAny_bind (wpAny_mkText (wpAny_bind (wpAny_attempt (wpAny_holding (wpAny_bind (L0.at (wpAny_bind (L1.at ?_))))))))
  have ne : (onTheHeap (Value.ref D) && (Value.builtin "BaseException.__getattribute__" == Value.builtin "object.__getattribute__")) = false := by
    rw [show (Value.builtin "BaseException.__getattribute__" == Value.builtin "object.__getattribute__") = false by decide +kernel, Bool.and_false]
  dsimp only
  rw [if_neg (by rw [ne]; decide)]
  unfold getAttrByItsOwn hookBefore
  rw [if_pos (by rfl)]
  refine wpAny_bind (L2.at ?_)
  unfold callGetattribute
  rw [if_neg (by decide)]
  unfold boundAndCalled
  refine wpAny_bind (wpAny_attempt (wpAny_holding (wpAny_bind ?_)))
  rw [F.attr_ValueError.ga.bind]
  refine wpAny_pure ?_
  refine wpAny_call (codeAny_call_builtin F.attr_ValueError.ga.plain F.entry_bexc_ga ?_)
  have hkd : builtinKind "BaseException.__getattribute__" = some .slot := by decide +kernel
  have hsp : splitId "BaseException.__getattribute__" = some ("BaseException", "__getattribute__") := by decide +kernel
  have ha := F.args_bexc_ga (.ref x) (.str "__class__" t)
  have LI : Looks (model prog w) hh (isInstance (.ref x) (.type "BaseException")) true := L0.andThen L3
  show wpAny _ _ (checkBuiltinCall "BaseException.__getattribute__" ⟨[.ref x, .str "__class__" t], []⟩) _ _ _
  simp only [checkBuiltinCall, hkd, hsp]
  refine wpAny_bind (LI.at ?_)
  repeat wp_step
  refine wpAny_loadPart I.at_ ?_
  rw [I.cls]
  refine wpAny_pure (wpAny_bind (L4.at ?_))
  dsimp only
  unfold Builtin.ObjectAttr.bindTo
  dsimp only
  repeat wp_step
  refine class_get (ox := ox) (od := none) X I k.ob ?_
  exact wpAny_pure (handed_on rfl (wpAny_pure h))
def wB (x D : Addr) (h : Heap) : Prop := ∃ o, h.get? x = some o ∧ o.cls = .ref D ∧ o.dict = none ∧ (∀ cd, o.data ≠ .cls cd)
theorem wB.inst {h : Heap} (e : wB x D h) : ∃ ox, InstAt h x ox D none := by
  obtain ⟨o, h1, h2, h3, h4⟩ := e
  refine ⟨o, h1, h2, ?_, by rw [h3]; trivial⟩
  unfold notCls
  split
  · rename_i cd z; exact absurd z (h4 cd)
  · rfl
theorem o4 (k : ExK K D) : KitX K (.ref x) (.ref D) (wB x D) where
  ty := fun _ _ _ e => let ⟨_, i⟩ := e.inst; i.type
  it := fun _ _ X _ => by
    obtain ⟨cd, hc⟩ := Option.isSome_iff_exists.mp k.cls
    unfold clsIn at hc
    split at hc
    · rename_i look
      intro A' Q' E' s' kp q
      unfold isType loadHead
      exact wpAny_bind (wpAny_loadPart (kp _ _ (X _ _ look)) (wpAny_pure q))
    · cases hc
  ne := fun h tp dd its n sl X htp => by
    obtain ⟨cd, hc⟩ := Option.isSome_iff_exists.mp k.cls
    refine Bool.eq_false_iff.mpr fun q => ?_
    cases Value.ref.inj (beq_iff_eq.mp q)
    unfold clsIn at hc
    split at hc
    · rename_i look
      cases (X _ _ look).symm.trans htp
    · cases hc
  ca := fun X e h => let ⟨_, i⟩ := e.inst; yL k X i h
end
def qC (K : PySem.W.Frag) : List V → Hp → VK → Prop := fun xs H Q => ∃ a D b, H a = some (exO a D) ∧ ExK K D ∧ Q (.bl b) H ∧
  ((∃ C, xs = [.ref a, .ref C] ∧ kitOne K (.ref D) (.ref C) = some b) ∨ (∃ T, xs = [.ref a, .ty T] ∧ kitOne K (.ref D) (.type T) = some b) ∨ ∃ (tp : Addr) (Cs : List Addr), xs = [.ref a, .ref tp] ∧ H tp = some (.tup (Cs.map V.ref)) ∧ kitAny K (.ref D) (Cs.map Value.ref) = some b)
theorem rK : ∀ {Cs : List Addr} {us : List Value}, Vals (Cs.map V.ref) us → us = Cs.map Value.ref
  | [], _, h => by cases h; rfl
  | C :: Cs, _, h => by
    cases h with
    | cons r t =>
      rw [rK t]
      cases r
      rfl
theorem lW {X : Cx} : gG X (.builtin "isinstance") (qC X.K) := by
  intro pins s σ H xs us Q I r h
  obtain ⟨a, D, b, ha, k, q, h⟩ := h
  have at_ : wB a D s.heap := (I.hok a _ ha).1
  have fin : ∀ tk, EP X pins σ Q (.bool b) { s with toks := tk } := fun tk => ⟨.bl b, H, I.tok tk, rfl, q⟩
  rcases h with ⟨C, rfl, hk⟩ | ⟨T, rfl, hk⟩ | ⟨tp, Cs, rfl, htp, hk⟩
  · obtain ⟨u, v, rfl, r1, r2⟩ := vals2 r
    cases (show u = Value.ref a from r1)
    cases (show v = Value.ref C from r2)
    exact kia_one (o4 k) I.kIn at_ hk (fun z => nomatch z) fin
  · obtain ⟨u, v, rfl, r1, r2⟩ := vals2 r
    cases (show u = Value.ref a from r1)
    cases (show v = Value.type T from r2)
    exact kia_one (o4 k) I.kIn at_ hk (fun z => nomatch z) fin
  · obtain ⟨u, v, rfl, r1, r2⟩ := vals2 r
    cases (show u = Value.ref a from r1)
    cases (show v = Value.ref tp from r2)
    obtain ⟨_, its, rv, ob, ho, hc, n, hd⟩ := I.hok tp _ htp
    cases rK rv
    obtain ⟨c0, d0, dt, sl⟩ := ob
    cases hc
    cases hd
    exact kia_tup (o4 k) I.kIn at_ ho hk (fun z => nomatch z) fin
end L2
set_option maxRecDepth 100000
set_option maxHeartbeats 4000000
namespace L2
open PySem PySem.Spec PyProof.Rows
section
variable {X : Cx} {pins : List (Addr × Obj)} {σ : List (Option V)} {H : Hp} {s : Shared} {h' : Heap}
theorem Inv.turnedL {t' : Nat} {ch : List Addr} (I : Inv X pins σ H s) (k : ∀ b o, b ∉ ch → s.heap.get? b = some o → h'.get? b = some o) (hf : ∀ b ∈ ch, i7 X pins H b) : Inv X pins σ H { s with heap := h', toks := t' } := by
  have nit : ∀ b u, H b = some u → b ∉ ch := fun b u e z => by rw [(hf b z).1] at e; cases e
  refine I.step (g' := s.gens) (d' := s.drawn) (ch := ch) (fun b hb => ?_) (fun b o _ _ hc e _ => k b o hc e) (fun b o _ _ hc e _ => ⟨o.slots, k b o hc e⟩) (fun _ _ _ _ n => n)
    (fun b o hc e => ⟨o, k b o hc e⟩) (fun _ _ e => e) (fun _ _ _ e => e) (fun b ps e => ⟨#[], by rw [e]; simp⟩) (fun m hm => ?_) (fun b u e => ?_) I.bare
  · obtain ⟨f0, f1, f2, f3, f4, f5⟩ := hf b hb
    exact ⟨f3, f1, f4, f5⟩
  · obtain ⟨o, es, ep, ho, r⟩ := hm
    exact ⟨o, es, ep, k _ o (fun z => (hf _ z).2.1 rfl) ho, r⟩
  · refine (I.hok b u e).stay (fun c v hc q => k c v ?_ q) (fun _ q => q) fun _ _ q => q
    rcases hc with z | z
    · rw [z]; exact nit b u e
    · exact nit c _ z
theorem Inv.turnedT {t' : Nat} {ch : List Addr} {T : Addr} {xs : List V} (I : Inv X pins σ H s) (k : ∀ b o, b ∉ ch → s.heap.get? b = some o → h'.get? b = some o) (hf : ∀ b ∈ ch, i7 X pins H b) (hT : s.heap.objs.size ≤ T)
    (new : eD X.prog X.w (upd H T (.tup xs)) h' T (.tup xs)) : Inv X pins σ (upd H T (.tup xs)) { s with heap := h', toks := t' } := by
  have hn : H T = none := I.hok.fresh hT
  have nit : ∀ b u, H b = some u → b ∉ ch := fun b u e z => by rw [(hf b z).1] at e; cases e
  refine I.step (g' := s.gens) (d' := s.drawn) (ch := ch) (fun b hb => ?_) (fun b o _ _ hc e _ => k b o hc e) (fun b o _ _ hc e _ => ⟨o.slots, k b o hc e⟩) (fun b o _ e n => ?_)
    (fun b o hc e => ⟨o, k b o hc e⟩) (fun b xs e => by rw [aG (dQ e hn)]; exact e) (fun b o u e => by rw [aG (dQ e hn)]; exact e) (fun b ps e => ⟨#[], by rw [aG (dQ e hn), e]; simp⟩) (fun m hm => ?_) (fun b u e => ?_) I.bare
  · obtain ⟨f0, f1, f2, f3, f4, f5⟩ := hf b hb
    exact ⟨f3, f1, f4, f5⟩
  · have hb : b ≠ T := fun z => by
      subst z
      exact absurd (Nat.lt_of_lt_of_le (Heap.lt_size e) hT) (Nat.lt_irrefl _)
    rw [aG hb]; exact n
  · obtain ⟨o, es, ep, ho, r⟩ := hm
    exact ⟨o, es, ep, k _ o (fun z => (hf _ z).2.1 rfl) ho, r⟩
  · by_cases hb : b = T
    · subst hb; rw [bP] at e; cases e; exact new
    · rw [aG hb] at e
      refine (I.hok b u e).stay (fun c v hc q => k c v ?_ q) (fun c q => by rw [aG (dQ q hn)]; exact q) fun c xs q => by rw [aG (dQ q hn)]; exact q
      rcases hc with z | z
      · rw [z]; exact nit b u e
      · exact nit c _ z
end
def Itz (K : PySem.W.Frag) (a b : Addr) : It :=
  ⟨fun i H => ∃ xs ys x y, SqL K H a xs ∧ SqL K H b ys ∧ xs[i]? = some x ∧ ys[i]? = some y,
   fun i H v H' => ∃ T x y, H T = none ∧ v = .ref T ∧ H' = upd H T (.tup [x, y]) ∧ (∀ xs, SqL K H a xs → xs[i]? = some x) ∧ ∀ ys, SqL K H b ys → ys[i]? = some y,
   fun i H => ∃ xs ys, SqL K H a xs ∧ SqL K H b ys ∧ (xs.length ≤ i ∨ ys.length ≤ i)⟩
def Ite (K : PySem.W.Frag) (a : Addr) : It :=
  ⟨fun i H => ∃ xs x, SqL K H a xs ∧ xs[i]? = some x,
   fun i H v H' => ∃ T x, H T = none ∧ v = .ref T ∧ H' = upd H T (.tup [.int i, x]) ∧ ∀ xs, SqL K H a xs → xs[i]? = some x,
   fun i H => ∃ xs, SqL K H a xs ∧ xs.length ≤ i⟩
def Its (x : Str) : It := ⟨fun i _ => i < x.cps.size, fun i H v H' => H' = H ∧ ∃ c, x.cps[i]? = some c ∧ v = .str ⟨#[c]⟩, fun i _ => x.cps.size ≤ i⟩
theorem yM {P : Program} {w : World} {H : Hp} {h : Heap} {T : Addr} {x y : V} {u v : Value} (rx : RelV x u) (ry : RelV y v) (hT : h.IsTuple T #[u, v]) : eD P w H h T (.tup [x, y]) := by
  refine ⟨by simp only [List.length_cons, List.length_nil]; rw [sizeLine_eq]; decide, [u, v], .cons rx (.cons ry .nil), ?_⟩
  exact hT
theorem zw {P : Program} {w : World} {K : PySem.W.Frag} {elts : List Expr} {kk : Nat} {tp : Pos} {z TI TO i1 i2 a b : Addr} (D : ZipApart z TI TO i1 i2 a b) :
    Turn P w K (.Tuple elts kk tp) (Itz K a b) [z, TI, TO, i1, i2] z (fun i h => IsZip h z TI TO .none ∧ IsPair h TI (.ref i1) (.ref i2) ∧ (∃ u v, IsPair h TO u v) ∧ h.IsListIter i1 a i ∧ h.IsListIter i2 b i) where
  mem := by simp
  obj := fun i h st c hc => by
    obtain ⟨q1, q2, ⟨u, v, q3⟩, ⟨o1, e1, c1, d1⟩, ⟨o2, e2, c2, d2⟩⟩ := st
    simp only [List.mem_cons, List.not_mem_nil, or_false] at hc
    rcases hc with rfl | rfl | rfl | rfl | rfl
    · exact ⟨_, q1, fun v z => by have z' : Data.fields _ = Data.cell v := z; cases z'⟩
    · exact ⟨_, q2, fun v z => by have z' : Data.seq _ _ = Data.cell v := z; cases z'⟩
    · exact ⟨_, q3, fun v z => by have z' : Data.seq _ _ = Data.cell v := z; cases z'⟩
    · exact ⟨o1, e1, fun v z => by rw [d1] at z; cases z⟩
    · exact ⟨o2, e2, fun v z => by rw [d2] at z; cases z⟩
  keep := fun i h h' st k => by
    obtain ⟨q1, q2, ⟨u, v, q3⟩, q4, q5⟩ := st
    exact ⟨k z (by simp) _ q1, k TI (by simp) _ q2, ⟨u, v, k TO (by simp) _ q3⟩, q4.at fun o e => k i1 (by simp) o e, q5.at fun o e => k i2 (by simp) o e⟩
  item := by
    intro X hP hw hK hc i pins s σ H E I hf st hg
    subst hP hw hK
    obtain ⟨xs, ys, x, y, hq1, hq2, hx, hy⟩ := hg
    obtain ⟨its1, rv1, p1, hz1⟩ := I.list hq1
    obtain ⟨its2, rv2, p2, hz2⟩ := I.list hq2
    obtain ⟨u, hu, ru⟩ := rv1.get hx
    obtain ⟨v, hv, rv⟩ := rv2.get hy
    obtain ⟨q1, q2, q3, q4, q5⟩ := id st
    have W := WalksT.zip2 (prog := X.prog) (w := X.w) (A := X.A) (I.ok.hd hc) z TI TO i1 i2 a b D its1.toArray its2.toArray
    have hi1 : i < its1.length := (List.getElem?_eq_some_iff.mp hu).1
    have hi2 : i < its2.length := (List.getElem?_eq_some_iff.mp hv).1
    refine W.item i s _ _ (by simp; omega) ⟨q1, q2, q3, q4, q5, p1.isList, p2.isList⟩ fun T vals h1 tk hP hT isT mid kk1 => ⟨.ref T, rfl, W.go elts _ tp i T _ _ _ mid fun h2 st2 kk2 => ?_⟩
    obtain ⟨u', v', e1, e2, rfl⟩ := hP
    rw [show its1.toArray[i]? = its1[i]? by simp, hu] at e1
    rw [show its2.toArray[i]? = its2[i]? by simp, hv] at e2
    cases e1; cases e2
    have nT : T ∉ ([z, TO, i1, i2] : List Addr) := W.apart i T _ mid
    have sub : ∀ c, c ∈ ([z, TO, i1, i2] : List Addr) → c ∈ ([z, TI, TO, i1, i2] : List Addr) := fun c hc => by
      simp only [List.mem_cons, List.not_mem_nil, or_false] at hc ⊢
      rcases hc with h | h | h | h <;> simp [h]
    have kk : ∀ c o, c ∉ ([z, TO, i1, i2] : List Addr) → s.heap.get? c = some o → h2.get? c = some o := fun c o hc e => kk2 c o hc (kk1 c o hc e)
    have isT2 : h2.IsTuple T #[u, v] := by
      obtain ⟨o, e, c, d⟩ := isT
      exact ⟨o, kk2 T o nT e, c, d⟩
    have I2 : Inv X pins σ (upd H T (.tup [x, y])) { s with heap := h2, toks := tk } := I.turnedT kk (fun c hc => hf c (sub c hc)) hT (yM ru rv isT2)
    refine ⟨.ref T, _, I2, rfl, ⟨T, x, y, I.hok.fresh hT, rfl, rfl, fun xs' h => by rw [I.list_inj h hq1]; exact hx, fun ys' h => by rw [I.list_inj h hq2]; exact hy⟩, ⟨st2.1, st2.2.1, st2.2.2.1, st2.2.2.2.1, st2.2.2.2.2.1⟩, fun c hc => ?_⟩
    have hc0 := (hf c hc).1
    rw [aG (fun e => ?_)]
    · exact hc0
    · subst e
      simp only [List.mem_cons, List.not_mem_nil, or_false] at hc
      rcases hc with h | h | h | h | h
      · exact nT (by simp [h])
      · have : TI < s.heap.objs.size := Heap.lt_size q2
        rw [← h] at this
        exact absurd (Nat.lt_of_lt_of_le this hT) (Nat.lt_irrefl _)
      · exact nT (by simp [h])
      · exact nT (by simp [h])
      · exact nT (by simp [h])
  done := by
    intro X hP hw hK hc i pins s σ H E I hf st hg
    subst hP hw hK
    obtain ⟨xs, ys, hq1, hq2, hx⟩ := hg
    obtain ⟨its1, rv1, p1, hz1⟩ := I.list hq1
    obtain ⟨its2, rv2, p2, hz2⟩ := I.list hq2
    have l1 := rv1.length
    have l2 := rv2.length
    obtain ⟨q1, q2, ⟨u, v, q3⟩, q4, q5⟩ := id st
    refine wpAny_pyNext_zip_end (I.ok.hd hc) D q1 q2 q3 q4 q5 p1.isList p2.isList (by
      rcases hx with h | h
      · left; simp; omega
      · right; simp; omega) fun h' hk => ⟨rfl, ?_⟩
    exact I.turnedL (t' := s.toks) (ch := [z, TI, TO, i1, i2]) (fun c o hc e => hk c o (fun x => hc (by simp [x])) (fun x => hc (by simp [x])) (fun x => hc (by simp [x])) (fun x => hc (by simp [x])) e) hf
  self := fun _ _ _ _ _ st h => wpAny_pyIter_zip st.1 h
theorem xZ {P : Program} {w : World} {K : PySem.W.Frag} {elts : List Expr} {kk : Nat} {tp : Pos} {e it a : Addr} (hei : e ≠ it) (hle : a ≠ e) (hli : a ≠ it) :
    Turn P w K (.Tuple elts kk tp) (Ite K a) [e, it] e (fun i h => (∃ old, IsEnum h e it i old) ∧ h.IsListIter it a i) where
  mem := by simp
  obj := fun i h st c hc => by
    obtain ⟨⟨old, q1⟩, ⟨o1, e1, c1, d1⟩⟩ := st
    simp only [List.mem_cons, List.not_mem_nil, or_false] at hc
    rcases hc with rfl | rfl
    · exact ⟨_, q1, fun v z => by have z' : Data.fields _ = Data.cell v := z; cases z'⟩
    · exact ⟨o1, e1, fun v z => by rw [d1] at z; cases z⟩
  keep := fun i h h' st k => by
    obtain ⟨⟨old, q1⟩, q4⟩ := st
    exact ⟨⟨old, k e (by simp) _ q1⟩, q4.at fun o e' => k it (by simp) o e'⟩
  item := by
    intro X hP hw hK hc i pins s σ H E I hf st hg
    subst hP hw hK
    obtain ⟨xs, x, hq1, hx⟩ := hg
    obtain ⟨its1, rv1, p1, hz1⟩ := I.list hq1
    obtain ⟨u, hu, ru⟩ := rv1.get hx
    obtain ⟨q1, q4⟩ := id st
    have W := WalksT.enumerate (prog := X.prog) (w := X.w) (A := X.A) (I.ok.hd hc) e it a hei hle hli its1.toArray
    have hi1 : i < its1.length := (List.getElem?_eq_some_iff.mp hu).1
    refine W.item i s _ _ (by simpa using hi1) ⟨q1, q4, p1.isList⟩ fun T vals h1 tk hP hT isT mid kk1 => ⟨.ref T, rfl, W.go elts _ tp i T _ _ _ mid fun h2 st2 kk2 => ?_⟩
    obtain ⟨t, u', e1, rfl⟩ := hP
    rw [show its1.toArray[i]? = its1[i]? by simp, hu] at e1
    cases e1
    have nT : T ∉ ([e, it] : List Addr) := W.apart i T _ mid
    have kk : ∀ c o, c ∉ ([e, it] : List Addr) → s.heap.get? c = some o → h2.get? c = some o := fun c o hc e => kk2 c o hc (kk1 c o hc e)
    have isT2 : h2.IsTuple T #[.int i t, u] := by
      obtain ⟨o, e, c, d⟩ := isT
      exact ⟨o, kk2 T o nT e, c, d⟩
    have I2 : Inv X pins σ (upd H T (.tup [.int i, x])) { s with heap := h2, toks := tk } := I.turnedT kk hf hT (yM ⟨t, rfl⟩ ru isT2)
    refine ⟨.ref T, _, I2, rfl, ⟨T, x, I.hok.fresh hT, rfl, rfl, fun xs' h => by rw [I.list_inj h hq1]; exact hx⟩, ⟨st2.1, st2.2.1⟩, fun c hc => ?_⟩
    have hcT : c ≠ T := fun z => by
      subst z
      exact nT hc
    rw [aG hcT]
    exact (hf c hc).1
  done := by
    intro X hP hw hK hc i pins s σ H E I hf st hg
    subst hP hw hK
    obtain ⟨xs, hq1, hx⟩ := hg
    obtain ⟨its1, rv1, p1, hz1⟩ := I.list hq1
    have l1 := rv1.length
    obtain ⟨⟨old, q1⟩, q4⟩ := id st
    refine wpAny_pyNext_enum_end (I.ok.hd hc) q1 q4 p1.isList (by simp; omega) fun h' hk => ⟨rfl, ?_⟩
    exact I.turnedL (t' := s.toks) (ch := [e, it]) (fun c o hc e' => hk c o (fun x => hc (by simp [x])) e') hf
  self := fun _ _ _ _ _ st h => let ⟨_, q⟩ := st.1; wpAny_pyIter_enum q h
theorem zy {P : Program} {w : World} {K : PySem.W.Frag} {tg : Expr} (it : Addr) (x : Str) (t : Tok) (ty : String) (hty : ty = "str_ascii_iterator" ∨ ty = "str_iterator") : Turn P w K tg (Its x) [it] it (fun i h => h.IsStrIter it ty x t i) where
  mem := by simp
  obj := fun i h st b hb => by
    have e : b = it := by simpa using hb
    subst e
    obtain ⟨o, e, c, d⟩ := st
    exact ⟨o, e, fun v z => by rw [d] at z; cases z⟩
  keep := fun i h h' st k => let ⟨o, ho, r⟩ := st; ⟨o, k it (by simp) o ho, r⟩
  item := by
    intro X hP hw hK hc i pins s σ H E I hf st hg
    subst hP hw hK
    have hg : i < x.cps.size := hg
    have W : Walks X.prog X.w X.A it [it] [it] x.cps.size (SignAt x) (fun i h => h.IsStrIter it ty x t i) := by
      rcases hty with rfl | rfl
      · exact Walks.strAscii (I.ok.hd hc) it x t
      · exact Walks.strWide (I.ok.hd hc) it x t
    refine W.item i s _ _ hg st fun v h' tk hv st' kk => ?_
    obtain ⟨c, u, hc', rfl⟩ := hv
    have I1 : Inv X pins σ H { s with heap := h', toks := tk } := I.turnedL kk hf
    obtain ⟨o, e, hc1, d⟩ := id st'
    exact ⟨_, rfl, w9 (s := { s with heap := h', toks := tk }) (n := ty) e hc1 d (by rcases hty with rfl | rfl <;> decide) ⟨.str ⟨#[c]⟩, H, I1, ⟨u, rfl⟩, ⟨rfl, c, hc', rfl⟩, st', fun b hb => (hf b hb).1⟩⟩
  done := by
    intro X hP hw hK hc i pins s σ H E I hf st hg
    subst hP hw hK
    have hg : x.cps.size ≤ i := hg
    rcases hty with rfl | rfl
    · exact wpAny_pyNext_ascii_end (I.ok.hd hc) st (by simp; omega) fun h' eb => ⟨rfl, I.turnedL (t' := s.toks) (ch := [it]) (fun b o hb e => eb b o (fun z => hb (by simp [z])) e) hf⟩
    · exact wpAny_pyNext_wide_end (I.ok.hd hc) st (by simp; omega) fun h' eb => ⟨rfl, I.turnedL (t' := s.toks) (ch := [it]) (fun b o hb e => eb b o (fun z => hb (by simp [z])) e) hf⟩
  self := fun _ _ _ _ _ st h => by
    rcases hty with rfl | rfl
    · exact wpAny_pyIter_striter_ascii st h
    · exact wpAny_pyIter_striter_wide st h
section
variable {X : Cx} {tg : Expr}
def Dt (K : PySem.W.Frag) (ta : TA) : TI := fun σ H R => ta σ H fun vs H1 => ∃ a b, vs = [.ref a, .ref b] ∧ (∃ xs, SqL K H1 a xs) ∧ (∃ ys, SqL K H1 b ys) ∧ R (Itz K a b) H1
def AG (K : PySem.W.Frag) (ta : TA) : TI := fun σ H R => ta σ H fun vs H1 => ∃ a, vs = [.ref a] ∧ (∃ xs, SqL K H1 a xs) ∧ R (Ite K a) H1
def DL (te : TE) : TI := fun σ H R => te σ H fun x H1 => ∃ z, x = .str z ∧ R (Its z) H1
theorem Df {elts : List Expr} {kk : Nat} {tp : Pos} {a b : Expr} {ta : TA} {p pos : Pos} (hg : Gl X "zip") (hm : X.mg "zip" = none) (ha : PA X [a, b] ta) (hs : starEach [a, b] X.env = [(false, eval a X.env), (false, eval b X.env)] := by rfl) (hs2 : starEach [b] X.env = [(false, eval b X.env)] := by rfl) :
    PI X (.Tuple elts kk tp) (.Call (.Name "zip" p) [a, b] [] pos) (Dt X.K ta) := by
  intro pins s σ H R I h
  refine Call_ (kX I hg hm Boot.«zip» (PyProof.Rows.callWith_type1 (thn (ha pos pins s σ H _ I h) fun us s1 ⟨vs, H1, I1, r1, q1⟩ => ?_) (by rw [hs, hs2]) (by rw [hs2]; rfl)))
  obtain ⟨l1, l2, e, ⟨xs, hq1⟩, ⟨ys, hq2⟩, q⟩ := q1
  subst e
  obtain ⟨u, v, rfl, r, r'⟩ := vals2 r1
  cases r
  cases r'
  obtain ⟨its1, rv1, p1, hz1⟩ := I1.list hq1
  obtain ⟨its2, rv2, p2, hz2⟩ := I1.list hq2
  refine call_zip_2 p1.isList p2.isList fun h' hz hTI hTO hi1 hi2 hsz hk => ?_
  have a1 : l1 < s1.heap.objs.size := by obtain ⟨_, e, _⟩ := p1.isList; exact Heap.lt_size e
  have a2 : l2 < s1.heap.objs.size := by obtain ⟨_, e, _⟩ := p2.isList; exact Heap.lt_size e
  refine wpAny_pyIter_zip hz ⟨_, _, _, _, H1, rfl, I1.kept (t' := s1.toks) hk, zw (zipApart_new a1 a2), ⟨hz, hTI, ⟨_, _, hTO⟩, hi1, hi2⟩, fun b hb => ?_, q⟩
  have : s1.heap.objs.size ≤ b := by
    simp only [List.mem_cons, List.not_mem_nil, or_false] at hb
    rcases hb with rfl | rfl | rfl | rfl | rfl <;> omega
  exact I1.fpOk this (I1.hok.fresh this)
theorem qt {elts : List Expr} {kk : Nat} {tp : Pos} {a : Expr} {ta : TA} {p pos : Pos} (hg : Gl X "enumerate") (hm : X.mg "enumerate" = none) (ha : PA X [a] ta) (hs : starEach [a] X.env = [(false, eval a X.env)] := by rfl) :
    PI X (.Tuple elts kk tp) (.Call (.Name "enumerate" p) [a] [] pos) (AG X.K ta) := by
  intro pins s σ H R I h
  refine Call_ (kX I hg hm Boot.«enumerate» (PyProof.Rows.callWith_type1 (thn (ha pos pins s σ H _ I h) fun us s1 ⟨vs, H1, I1, r1, q1⟩ => ?_) hs rfl))
  obtain ⟨l1, e, ⟨xs, hq1⟩, q⟩ := q1
  subst e
  obtain ⟨u, rfl, ru⟩ := vals1 r1
  cases ru
  obtain ⟨its1, rv1, p1, hz1⟩ := I1.list hq1
  refine call_enumerate_list p1.isList fun h' hz hi1 hsz hk => ?_
  have a1 : l1 < s1.heap.objs.size := by obtain ⟨_, e, _⟩ := p1.isList; exact Heap.lt_size e
  refine wpAny_pyIter_enum hz ⟨_, _, _, _, H1, rfl, I1.kept (t' := s1.toks) hk, xZ (e := s1.heap.objs.size + 1) (it := s1.heap.objs.size) (a := l1) (Nat.succ_ne_self _) (Nat.ne_of_lt (Nat.lt_succ_of_lt a1)) (Nat.ne_of_lt a1), ⟨⟨_, hz⟩, hi1⟩, fun b hb => ?_, q⟩
  have : s1.heap.objs.size ≤ b := by
    simp only [List.mem_cons, List.not_mem_nil, or_false] at hb
    rcases hb with rfl | rfl <;> omega
  exact I1.fpOk this (I1.hok.fresh this)
theorem DV {l : Expr} {tl : TE} (hl : PE X l tl) : PI X tg l (DL tl) := by
  intro pins s σ H R I h
  refine thn (hl pins s σ H _ I h) fun v s1 ⟨x, H1, I1, r1, q1⟩ => ?_
  obtain ⟨z, e, q⟩ := q1
  subst e
  obtain ⟨t, rfl⟩ := r1
  have fin : ∀ (ty : String), (ty = "str_ascii_iterator" ∨ ty = "str_iterator") → PIE X pins σ tg R (.ref s1.heap.objs.size) { s1 with heap := s1.heap.push { cls := .type ty, data := .fields #[.str z t, .int 0 0] } } := fun ty hty => by
    refine ⟨s1.heap.objs.size, [s1.heap.objs.size], _, _, H1, rfl, I1.kept (t' := s1.toks) fun b o e => Heap.get?_push_of_some _ e, zy _ z t ty hty, ⟨_, Heap.get?_push_size _ rfl, rfl, rfl⟩, fun b hb => ?_, q⟩
    have e : b = s1.heap.objs.size := by simpa using hb
    subst e
    exact I1.fpOk (Nat.le_refl _) (I1.hok.fresh (Nat.le_refl _))
  cases ha : z.cps.all (· < 128)
  · exact wpAny_pyIter_wide ha (fin _ (.inr rfl))
  · exact wpAny_pyIter_ascii ha (fin _ (.inl rfl))
theorem p7 : ∀ {ns : List Int} {its : List Value}, Vals (ns.map V.int) its → IntsAre its ns
  | [], _, r => by cases r; exact .nil
  | n :: ns, _, r => by
    cases r with
    | cons r1 r2 =>
      obtain ⟨t, rfl⟩ := r1
      exact .cons _ _ (p7 r2)
theorem rA (hc : X.calm = true := by rfl) : gG X (.builtin "sum") (fun xs H Q => ∃ (p : Addr) (ns : List Int), xs = [.ref p] ∧ SqL X.K H p (ns.map V.int) ∧ Q (.int ns.sum) H) := by
  intro pins s σ H xs us Q I r h
  obtain ⟨p, ns, rfl, hq, q⟩ := h
  obtain ⟨u, rfl, ru⟩ := vals1 r
  cases ru
  obtain ⟨its, rv, pl, hz⟩ := I.list hq
  have hI := p7 rv
  obtain ⟨xs, exs⟩ := hI.allInts.items
  have hn : numsOf its = ns := hI.numsOf
  rw [show its = its.toArray.toList by simp, exs, nums_intItems] at hn
  refine sum_intListG (I.ok.hd hc) (exs ▸ pl.isList) fun h' tk t' hk => ?_
  rw [preSum_eq, List.take_of_length_le (by simp), hn]
  exact ⟨.int ns.sum, H, I.kept (t' := tk) hk, ⟨t', rfl⟩, q⟩
theorem AN {bs : List Bool} {its : List Value} (rv : Vals (bs.map V.bl) its) {i : Nat} {v : Value} (h : its.toArray[i]? = some v) : v = .bool (bs.getD i false) := by
  have hi : i < its.length := by
    have := (Array.getElem?_eq_some_iff.mp h).1
    simpa using this
  have hb : i < bs.length := by have := rv.length; rw [List.length_map] at this; omega
  obtain ⟨u, hu, ru⟩ := rv.get (i := i) (x := .bl bs[i]) (by simp [hb])
  rw [show its.toArray[i]? = its[i]? by simp, hu] at h
  cases h
  cases ru
  simp [List.getD_eq_getElem?_getD, hb]
theorem all_range (bs : List Bool) : (List.range bs.length).all (fun i => bs.getD i false) = bs.all id := by
  induction bs with
  | nil => rfl
  | cons b bs ih =>
    rw [List.length_cons, List.range_succ_eq_map, List.all_cons, List.all_map, List.all_cons]
    simp only [Function.comp_def, List.getD_cons_succ, List.getD_cons_zero, id]
    rw [ih]
theorem any_range (bs : List Bool) : (List.range bs.length).any (fun i => bs.getD i false) = bs.any id := by
  induction bs with
  | nil => rfl
  | cons b bs ih =>
    rw [List.length_cons, List.range_succ_eq_map, List.any_cons, List.any_map, List.any_cons]
    simp only [Function.comp_def, List.getD_cons_succ, List.getD_cons_zero, id]
    rw [ih]
theorem rm (hc : X.calm = true := by rfl) : gG X (.builtin "all") (fun xs H Q => ∃ (p : Addr) (bs : List Bool), xs = [.ref p] ∧ SqL X.K H p (bs.map V.bl) ∧ Q (.bl (bs.all id)) H) := by
  intro pins s σ H xs us Q I r h
  obtain ⟨p, bs, rfl, hq, q⟩ := h
  obtain ⟨u, rfl, ru⟩ := vals1 r
  cases ru
  obtain ⟨its, rv, pl, hz⟩ := I.list hq
  have hl := pl.isList
  have lt : p < s.heap.objs.size := by obtain ⟨_, e, _⟩ := hl; exact Heap.lt_size e
  have hlen : its.toArray.size = bs.length := by have := rv.length; rw [List.length_map] at this; simp; omega
  refine call_all_walk (wpAny_pyIter_list hl ?_)
  refine ⟨_, _, _, _, _, _, fun i => bs.getD i false, rfl, Walks.list (A := X.A.in1) (I.ok.hd hc) s.heap.objs.size p (Nat.ne_of_lt lt) its.toArray, ⟨⟨_, Heap.get?_push_size _ rfl, rfl, rfl⟩, hl.push _⟩, fun i v s' Q' E' hP hQ => ?_, fun h' tk hk => ?_⟩
  · rw [AN rv hP]
    exact wpAny_truthy_bool hQ
  · rw [hlen, all_range]
    refine ⟨.bl (bs.all id), H, I.kept (t' := tk) fun b o e => hk b o (fun z => ?_) (Heap.get?_push_of_some _ e), rfl, q⟩
    have hb := Heap.lt_size e
    rw [List.mem_singleton.mp z] at hb
    exact absurd hb (Nat.lt_irrefl _)
theorem yd (hc : X.calm = true := by rfl) : gG X (.builtin "any") (fun xs H Q => ∃ (p : Addr) (bs : List Bool), xs = [.ref p] ∧ SqL X.K H p (bs.map V.bl) ∧ Q (.bl (bs.any id)) H) := by
  intro pins s σ H xs us Q I r h
  obtain ⟨p, bs, rfl, hq, q⟩ := h
  obtain ⟨u, rfl, ru⟩ := vals1 r
  cases ru
  obtain ⟨its, rv, pl, hz⟩ := I.list hq
  have hl := pl.isList
  have lt : p < s.heap.objs.size := by obtain ⟨_, e, _⟩ := hl; exact Heap.lt_size e
  have hlen : its.toArray.size = bs.length := by have := rv.length; rw [List.length_map] at this; simp; omega
  refine call_any_walk (wpAny_pyIter_list hl ?_)
  refine ⟨_, _, _, _, _, _, fun i => bs.getD i false, rfl, Walks.list (A := X.A.in1) (I.ok.hd hc) s.heap.objs.size p (Nat.ne_of_lt lt) its.toArray, ⟨⟨_, Heap.get?_push_size _ rfl, rfl, rfl⟩, hl.push _⟩, fun i v s' Q' E' hP hQ => ?_, fun h' tk hk => ?_⟩
  · rw [AN rv hP]
    exact wpAny_truthy_bool hQ
  · rw [hlen, any_range]
    refine ⟨.bl (bs.any id), H, I.kept (t' := tk) fun b o e => hk b o (fun z => ?_) (Heap.get?_push_of_some _ e), rfl, q⟩
    have hb := Heap.lt_size e
    rw [List.mem_singleton.mp z] at hb
    exact absurd hb (Nat.lt_irrefl _)
end
end L2
set_option maxRecDepth 100000
set_option maxHeartbeats 4000000
namespace L2
open PySem PySem.Spec PyProof.Rows
section
variable {X : Cx} {e se : Expr} {te : TE} {lo hi : Option Expr} {tl th ts : TO} {pos p2 : Pos}
end
end L2
set_option maxRecDepth 100000
set_option maxHeartbeats 4000000
namespace L2
open PySem PySem.Spec PyProof.Rows
section
variable {X : Cx} {tg : Expr}
end
end L2
set_option maxRecDepth 100000
set_option maxHeartbeats 4000000
namespace L2
open PySem PySem.Spec PyProof.Rows
def iA (x : Str) (lo hi : Option Int) : Str :=
  if ((Builtin.Str.strSliceIndices lo hi 1 x.length).length == x.length) = true then x else ⟨((Builtin.Str.strSliceIndices lo hi 1 x.length).filterMap (x.cps[·]?)).toArray⟩
section
variable {X : Cx}
def AS : V → Option Int → Option Int → Hp → VK → Prop := fun x lo hi H Q => ∃ z, x = .str z ∧ z.length ≤ sizeLine ∧ Q (.str (iA z lo hi)) H
theorem ur : SlR X AS := by
  intro pins s σ H x v vl vu lo hi sl Q I rx hs pl pu h
  obtain ⟨z, rfl, hz, q⟩ := h
  obtain ⟨t, rfl⟩ := rx
  refine ⟨"str", _, F.slot_str_getitem.lookup, typeIs_str _ _ _, ?_⟩
  have part : ∀ {v : Value} {o : Option Int}, IsPart v o → ∃ p : Option (Int × Tok), v = partValue p ∧ p.map (·.1) = o := fun h => by
    cases h with
    | none => exact ⟨none, rfl, rfl⟩
    | int i t => exact ⟨some (i, t), rfl, rfl⟩
  obtain ⟨l, rfl, rfl⟩ := part pl
  obtain ⟨u, rfl, rfl⟩ := part pu
  refine wpAny_getItem_str_slice (l := l) (u := u) (st := none) hs rfl ?_
  unfold sliceMade
  show Made.post (if (true && ((Builtin.Str.strSliceIndices (l.map (·.1)) (u.map (·.1)) 1 z.length).length == z.length)) = true then _ else _) _ _
  unfold iA at q
  rw [Bool.true_and]
  by_cases hc : ((Builtin.Str.strSliceIndices (l.map (·.1)) (u.map (·.1)) 1 z.length).length == z.length) = true
  · rw [if_pos hc] at q ⊢
    exact ⟨.str z, H, I, ⟨t, rfl⟩, q⟩
  · rw [if_neg hc] at q ⊢
    refine ⟨?_, ⟨.str _, H, I.tok _, ⟨_, rfl⟩, q⟩⟩
    show (List.toArray _).size ≤ _
    rw [List.size_toArray]
    exact Nat.le_trans (Nat.le_trans (List.length_filterMap_le _ _) (sliceIndices_le _ _ _)) hz
end
end L2
set_option maxRecDepth 100000
set_option maxHeartbeats 4000000
namespace L2
open PySem PySem.Spec PyProof.Rows
section
variable {X : Cx}
end
end L2
set_option maxRecDepth 100000
set_option maxHeartbeats 4000000
namespace L2
open PySem PySem.Spec PyProof.Rows
section
variable {X : Cx}
end
end L2
set_option maxRecDepth 100000
set_option maxHeartbeats 4000000
namespace L2
open PySem PySem.Spec PyProof.Rows
section
variable {X : Cx}
def isT (y : Str) : Value → Bool
  | .str a _ => a == y
  | _ => false
end
end L2
set_option maxRecDepth 100000
set_option maxHeartbeats 4000000
namespace L2
open PySem PySem.Spec PyProof.Rows
section
variable {prog : Program} {w : World} {A : Around} {R : Result → Shared → Prop} {I : Addr} {fp wr : List Addr} {G : Array GenState → Array GenState → Prop} {n : Nat} {P : Nat → Value → Prop} {St : Nat → Shared → Prop}
end
section
variable {prog : Program} {w : World} {A : Around} {E : Value → Shared → Prop} {s : Shared}
end
section
variable {X : Cx} {e : Expr} {te : TE} {x y : Str} {p1 p2 q1 q2 : Pos}
end
end L2
set_option maxRecDepth 100000
set_option maxHeartbeats 1000000
namespace L2
open PySem PySem.Spec PyProof.Rows PySem.W
section
variable {O : KeyOrd} (key : Nat → O.α)
def kAt (p : Array Nat) (i : Nat) : O.α := key (p.getD i 0)
def qM (p : Array Nat) (m : Nat) : Prop := ∀ i j, i ≤ j → j < m → O.kle (kAt key p i) (kAt key p j)
def xa (p : Array Nat) (m : Nat) : Prop := ∀ i j, i ≤ j → j < m → O.kle (kAt key p j) (kAt key p i)
variable {key}
theorem qM.more {p : Array Nat} {n : Nat} (h1 : 1 ≤ n) (h : qM key p n) (hn : O.kle (kAt key p (n - 1)) (kAt key p n)) : qM key p (n + 1) := by
  intro i j hij hj
  by_cases hjn : j = n
  · subst hjn
    by_cases hi : i = j
    · subst hi; exact KeyOrd.kle_refl _
    · exact KeyOrd.kle_trans (h i (j - 1) (by omega) (by omega)) hn
  · exact h i j hij (by omega)
theorem xa.more {p : Array Nat} {n : Nat} (h1 : 1 ≤ n) (h : xa key p n) (hn : O.kle (kAt key p n) (kAt key p (n - 1))) : xa key p (n + 1) := by
  intro i j hij hj
  by_cases hjn : j = n
  · subst hjn
    by_cases hi : i = j
    · subst hi; exact KeyOrd.kle_refl _
    · exact KeyOrd.kle_trans hn (h i (j - 1) (by omega) (by omega))
  · exact h i j hij (by omega)
end
end L2
set_option maxRecDepth 100000
set_option maxHeartbeats 1000000
namespace L2
open PySem PySem.Spec PyProof.Rows PySem.W
def Lv {α : Type} (N : Nat) (P : α → Prop) : KasT α → Prop
  | .ret a => P a
  | .ask i j k => i < N ∧ j < N ∧ ∀ b, Lv N P (k b)
theorem Lv.bind {α β : Type} {N : Nat} {P : α → Prop} {P' : β → Prop} {f : α → KasT β} (hf : ∀ a, P a → Lv N P' (f a)) : ∀ {t : KasT α}, Lv N P t → Lv N P' (t.bind f)
  | .ret a, h => hf a h
  | .ask i j k, h => ⟨h.1, h.2.1, fun b => Lv.bind hf (h.2.2 b)⟩
def Und (N : Nat) (p : Array Nat) : Prop := ∀ i, p.getD i 0 < N
theorem Und.of {N : Nat} {p p' : Array Nat} (h : Und N p) (hp : ∀ i : Nat, ∃ j : Nat, p'[i]? = p[j]?) : Und N p' := fun i => by
  obtain ⟨j, e⟩ := hp i
  have := h j
  rw [Array.getD_eq_getD_getElem?] at this ⊢
  rw [e]; exact this
theorem Und.rev {N : Nat} {p : Array Nat} (h : Und N p) {i j : Nat} (hj : j ≤ p.size) : Und N (kas_rev p i j) := h.of fun k => by
  have g := getElem?_mirror_all (xs := p) (i := i) hj k
  split at g
  · exact ⟨_, g⟩
  · exact ⟨_, g⟩
theorem Lv.mono {α : Type} {N : Nat} {P P' : α → Prop} (h : ∀ a, P a → P' a) : ∀ {t : KasT α}, Lv N P t → Lv N P' t
  | .ret a, x => h a x
  | .ask i j k, x => ⟨x.1, x.2.1, fun b => Lv.mono h (x.2.2 b)⟩
section
open PySem.SeqAt
open PySem.AutoSeq1 (wpAny_loadPart')
open PySem.MeetsSeq PySem.MeetsSeq2 PySem.MeetsSeq3
end
section
variable {prog : Program} {w : World} {A : Around} {E : Value → Shared → Prop} {s : Shared}
end
end L2
set_option maxRecDepth 100000
set_option maxHeartbeats 1000000
namespace L2
open PySem PySem.Spec PyProof.Rows PySem.W
section
variable {prog : Program} {w : World} {A : Around} {E : Value → Shared → Prop} {s : Shared}
end
section
variable {α β : Type}
end
section
variable {X : Cx}
end
end L2
set_option maxRecDepth 100000
set_option maxHeartbeats 1000000
namespace L2
open PySem PySem.Spec PyProof.Rows
section
variable {prog : Program} {w : World} {A : Around} {R : Result → Shared → Prop} {I : Addr} {fp wr : List Addr} {n : Nat} {P : Nat → Value → Prop} {St : Nat → Heap → Prop} {kw : List (Str × Value)}
end
section
variable {prog : Program} {w : World} {A : Around} {E : Value → Shared → Prop} {s : Shared}
end
section
variable {X : Cx} {e d : Expr} {te td : TE} {p q kp : Pos}
end
end L2
set_option maxRecDepth 100000
set_option maxHeartbeats 1000000
namespace L2
open PySem PySem.Spec PyProof.Rows
section
variable {X : Cx}
end
end L2
set_option maxRecDepth 100000
set_option maxHeartbeats 1000000
namespace L2
open PySem PySem.Spec PyProof.Rows
end L2
set_option maxRecDepth 100000
set_option maxHeartbeats 1000000
namespace L2
open PySem PySem.Spec PyProof.Rows
section
variable {X : Cx}
end
end L2
set_option maxRecDepth 100000
set_option maxHeartbeats 4000000
namespace M
open PySem L2
inductive D where
  | non | bl (b : Bool) | int (i : Int) | str (x : Str) | lst (xs : List D) | tup (xs : List D) | ptr (k : Nat) | obj (c : Nat) (ns : List Str) (ds : List D) | exn (c : Nat)
inductive Cell where
  | dead | lst (xs : List D) | ins (c : Nat) (ns : List Str) (ds : List D)
abbrev aw := List Cell
structure S where
  r : List (Option D)
  o : aw
inductive Res (α : Type) where
  | ok (a : α) | exc (c : Nat) (a : D) (o : S) | bad
def Res.bind {α β : Type} (x : Res α) (f : α → Res β) : Res β := match x with
  | .ok a => f a
  | .exc c a o => .exc c a o
  | .bad => .bad
@[simp] theorem aa {α β : Type} (a : α) (f : α → Res β) : (Res.ok a).bind f = f a := rfl
@[simp] theorem E5 {α β : Type} (c : Nat) (a : D) (o : S) (f : α → Res β) : (Res.exc c a o : Res α).bind f = .exc c a o := rfl
@[simp] theorem Fg {α β : Type} (f : α → Res β) : (Res.bad : Res α).bind f = .bad := rfl
abbrev Wsh := Nat → D → S → Hp → Hp → List Addr → Prop
structure Ct where
  K : PySem.W.Frag
  ca : Nat → Addr
  W : Wsh
mutual
def Rep (K : PySem.W.Frag) (ca : Nat → Addr) (θ : List Addr) (F : Hp) : D → V → Prop
  | .non, v => v = .non
  | .bl b, v => v = .bl b
  | .int i, v => v = .int i
  | .str x, v => v = .str x
  | .lst ds, v => ∃ a xs, v = .ref a ∧ SqL K F a xs ∧ au K ca θ F ds xs
  | .tup ds, v => ∃ a xs, v = .ref a ∧ SqT K F a xs ∧ au K ca θ F ds xs
  | .ptr k, v => ∃ a, v = .ref a ∧ θ[k]? = some a
  | .obj c ns ds, v => ∃ a dx xs, v = .ref a ∧ F a = some (.ins (ca c) dx (ns.zip xs)) ∧ ns.length = xs.length ∧ au K ca θ F ds xs
  | .exn c, v => ∃ a, v = .ref a ∧ F a = some (exO a (ca c))
def au (K : PySem.W.Frag) (ca : Nat → Addr) (θ : List Addr) (F : Hp) : List D → List V → Prop
  | [], xs => xs = []
  | d :: ds, xs => ∃ v r, xs = v :: r ∧ Rep K ca θ F d v ∧ au K ca θ F ds r
end
mutual
def bG : D → Bool
  | .lst ds => ax ds
  | .tup ds => ax ds
  | .ptr _ => false
  | .obj _ _ ds => ax ds
  | _ => true
def ax : List D → Bool
  | [] => true
  | d :: ds => bG d && ax ds
end
def kA : D → Bool
  | .non => true | .bl _ => true | .int _ => true | .str _ => true | _ => false
theorem bc.seqT {K : PySem.W.Frag} {H H' : Hp} {a : Addr} {xs : List V} (e : bc H H') (h : SqT K H a xs) : SqT K H' a xs := by
  rcases h with (h | ⟨o, h⟩) | h
  · exact .inl (.inl (e _ _ h))
  · exact .inl (.inr ⟨o, e _ _ h⟩)
  · exact .inr h
section
variable {K : PySem.W.Frag} {ca : Nat → Addr} {θ θ1 : List Addr} {F F1 : Hp}
mutual
theorem Rep.mono (hF : bc F F1) (hθ : ∃ r, θ1 = θ ++ r) : ∀ {d : D} {v : V}, Rep K ca θ F d v → Rep K ca θ1 F1 d v
  | .non, _, h => h
  | .bl _, _, h => h
  | .int _, _, h => h
  | .str _, _, h => h
  | .lst ds, _, h => by
    unfold Rep at h ⊢
    obtain ⟨a, xs, e, hs, hr⟩ := h
    exact ⟨a, xs, e, hF.seq hs, au.mono hF hθ hr⟩
  | .tup ds, _, h => by
    unfold Rep at h ⊢
    obtain ⟨a, xs, e, hs, hr⟩ := h
    exact ⟨a, xs, e, bc.seqT hF hs, au.mono hF hθ hr⟩
  | .ptr k, _, h => by
    unfold Rep at h ⊢
    obtain ⟨a, e, hk⟩ := h
    obtain ⟨r, rfl⟩ := hθ
    refine ⟨a, e, ?_⟩
    rw [List.getElem?_append_left (List.getElem?_eq_some_iff.mp hk).1]
    exact hk
  | .obj c ns ds, _, h => by
    unfold Rep at h ⊢
    obtain ⟨a, dx, xs, e, ha, hl, hr⟩ := h
    exact ⟨a, dx, xs, e, hF _ _ ha, hl, au.mono hF hθ hr⟩
  | .exn c, _, h => by
    unfold Rep at h ⊢
    obtain ⟨a, e, ha⟩ := h
    exact ⟨a, e, hF _ _ ha⟩
theorem au.mono (hF : bc F F1) (hθ : ∃ r, θ1 = θ ++ r) : ∀ {ds : List D} {xs : List V}, au K ca θ F ds xs → au K ca θ1 F1 ds xs
  | [], _, h => h
  | d :: ds, _, h => by
    unfold au at h ⊢
    obtain ⟨v, r, e, h1, h2⟩ := h
    exact ⟨v, r, e, Rep.mono hF hθ h1, au.mono hF hθ h2⟩
end
mutual
theorem Rep.pure : ∀ {d : D} {v : V}, bG d = true → Rep K ca θ F d v → Rep K ca θ1 F d v
  | .non, _, _, h => h
  | .bl _, _, _, h => h
  | .int _, _, _, h => h
  | .str _, _, _, h => h
  | .lst ds, _, p, h => by
    unfold Rep at h ⊢
    obtain ⟨a, xs, e, hs, hr⟩ := h
    exact ⟨a, xs, e, hs, au.pure (by simpa [bG] using p) hr⟩
  | .tup ds, _, p, h => by
    unfold Rep at h ⊢
    obtain ⟨a, xs, e, hs, hr⟩ := h
    exact ⟨a, xs, e, hs, au.pure (by simpa [bG] using p) hr⟩
  | .ptr k, _, p, h => by simp [bG] at p
  | .obj c ns ds, _, p, h => by
    unfold Rep at h ⊢
    obtain ⟨a, dx, xs, e, ha, hl, hr⟩ := h
    exact ⟨a, dx, xs, e, ha, hl, au.pure (by simpa [bG] using p) hr⟩
  | .exn c, _, _, h => by
    unfold Rep at h ⊢
    exact h
theorem au.pure : ∀ {ds : List D} {xs : List V}, ax ds = true → au K ca θ F ds xs → au K ca θ1 F ds xs
  | [], _, _, h => h
  | d :: ds, _, p, h => by
    unfold au at h ⊢
    obtain ⟨v, r, e, h1, h2⟩ := h
    simp only [ax, Bool.and_eq_true] at p
    exact ⟨v, r, e, Rep.pure p.1 h1, au.pure p.2 h2⟩
end
theorem Rep.scal {d : D} {v : V} (p : kA d = true) (h : Rep K ca θ F d v) : Rep K ca θ1 F1 d v := by
  cases d <;> first | exact h | (simp [kA] at p)
theorem au.length : ∀ {ds : List D} {xs : List V}, au K ca θ F ds xs → xs.length = ds.length
  | [], _, h => by unfold au at h; rw [h]; rfl
  | d :: ds, _, h => by
    unfold au at h
    obtain ⟨v, r, rfl, _, h2⟩ := h
    rw [List.length_cons, List.length_cons, au.length h2]
theorem au.get : ∀ {ds : List D} {xs : List V} {i : Nat} {d : D}, au K ca θ F ds xs → ds[i]? = some d → ∃ v, xs[i]? = some v ∧ Rep K ca θ F d v
  | [], _, _, _, _, e => by simp at e
  | d :: ds, _, 0, _, h, e => by
    unfold au at h
    obtain ⟨v, r, rfl, h1, _⟩ := h
    simp at e
    subst e
    exact ⟨v, rfl, h1⟩
  | d :: ds, _, i + 1, x, h, e => by
    unfold au at h
    obtain ⟨v, r, rfl, _, h2⟩ := h
    obtain ⟨u, e1, e2⟩ := au.get (i := i) (d := x) h2 (by simpa using e)
    exact ⟨u, by simpa using e1, e2⟩
theorem au.append : ∀ {ds es : List D} {xs ys : List V}, au K ca θ F ds xs → au K ca θ F es ys → au K ca θ F (ds ++ es) (xs ++ ys)
  | [], _, _, _, h, k => by unfold au at h; rw [h]; exact k
  | d :: ds, _, _, _, h, k => by
    unfold au at h
    obtain ⟨v, r, rfl, h1, h2⟩ := h
    show au K ca θ F (d :: (ds ++ _)) (v :: (r ++ _))
    unfold au
    exact ⟨v, _, rfl, h1, au.append h2 k⟩
theorem au.one {d : D} {v : V} (h : Rep K ca θ F d v) : au K ca θ F [d] [v] := by
  unfold au
  exact ⟨v, [], rfl, h, by unfold au; rfl⟩
theorem au.nil : au K ca θ F [] [] := by unfold au; rfl
theorem au.cons {d : D} {v : V} {ds : List D} {xs : List V} (h : Rep K ca θ F d v) (k : au K ca θ F ds xs) : au K ca θ F (d :: ds) (v :: xs) := by
  unfold au
  exact ⟨v, xs, rfl, h, k⟩
theorem au.take : ∀ {ds : List D} {xs : List V} (n : Nat), au K ca θ F ds xs → au K ca θ F (ds.take n) (xs.take n)
  | _, _, 0, _ => by simp; exact au.nil
  | [], _, n + 1, h => by unfold au at h; rw [h]; exact au.nil
  | d :: ds, _, n + 1, h => by
    unfold au at h
    obtain ⟨v, r, rfl, h1, h2⟩ := h
    exact au.cons h1 (au.take n h2)
theorem au.drop : ∀ {ds : List D} {xs : List V} (n : Nat), au K ca θ F ds xs → au K ca θ F (ds.drop n) (xs.drop n)
  | _, _, 0, h => h
  | [], _, n + 1, h => by unfold au at h; rw [h]; exact au.nil
  | d :: ds, _, n + 1, h => by
    unfold au at h
    obtain ⟨v, r, rfl, h1, h2⟩ := h
    exact au.drop n h2
theorem au.set {d : D} {v : V} (h : Rep K ca θ F d v) : ∀ {ds : List D} {xs : List V} (i : Nat), au K ca θ F ds xs → au K ca θ F (ds.set i d) (xs.set i v)
  | [], _, _, k => by unfold au at k; rw [k]; exact au.nil
  | _ :: _, _, 0, k => by
    unfold au at k
    obtain ⟨v, r, rfl, h1, h2⟩ := k
    exact au.cons h h2
  | _ :: _, _, i + 1, k => by
    unfold au at k
    obtain ⟨v, r, rfl, h1, h2⟩ := k
    exact au.cons h1 (au.set h i h2)
theorem au.reverse : ∀ {ds : List D} {xs : List V}, au K ca θ F ds xs → au K ca θ F ds.reverse xs.reverse
  | [], _, h => by unfold au at h; rw [h]; exact au.nil
  | d :: ds, _, h => by
    unfold au at h
    obtain ⟨v, r, rfl, h1, h2⟩ := h
    rw [List.reverse_cons, List.reverse_cons]
    exact au.append (au.reverse h2) (au.one h1)
end
structure Stp (H F : Hp) (θ : List Addr) (H1 F1 : Hp) (θ1 : List Addr) : Prop where
  ff : bc F F1
  th : ∃ r, θ1 = θ ++ r ∧ ∀ a ∈ r, H a = none
  kp : ∀ b o, H b = some o → b ∉ θ → H1 b = some o
  al : ∀ b o, H b = some o → ∃ o', H1 b = some o'
  nf : ∀ b o, F1 b = some o → F b = some o ∨ H b = none ∨ b ∈ θ
theorem Stp.refl {H F : Hp} {θ : List Addr} : Stp H F θ H F θ := ⟨bc.refl _, ⟨[], by simp, by simp⟩, fun _ _ h _ => h, fun _ o h => ⟨o, h⟩, fun _ _ h => .inl h⟩
theorem Stp.pre {H F H1 F1 : Hp} {θ θ1 : List Addr} (x : Stp H F θ H1 F1 θ1) : ∃ r, θ1 = θ ++ r := let ⟨r, e, _⟩ := x.th; ⟨r, e⟩
theorem Stp.trans {H F H1 F1 H2 F2 : Hp} {θ θ1 θ2 : List Addr} (x : Stp H F θ H1 F1 θ1) (y : Stp H1 F1 θ1 H2 F2 θ2) : Stp H F θ H2 F2 θ2 := by
  obtain ⟨r, rfl, hr⟩ := x.th
  obtain ⟨r2, rfl, hr2⟩ := y.th
  refine ⟨x.ff.trans y.ff, ⟨r ++ r2, by rw [List.append_assoc], fun a ha => ?_⟩, fun b o h hb => ?_, fun b o h => ?_, fun b o h => ?_⟩
  · rcases List.mem_append.mp ha with z | z
    · exact hr a z
    · cases e : H a with
      | none => rfl
      | some o =>
        obtain ⟨o', e'⟩ := x.al a o e
        rw [hr2 a z] at e'
        cases e'
  · refine y.kp b o (x.kp b o h hb) fun hm => ?_
    rcases List.mem_append.mp hm with z | z
    · exact hb z
    · rw [hr b z] at h
      cases h
  · obtain ⟨o', e'⟩ := x.al b o h
    exact y.al b o' e'
  · rcases y.nf b o h with z | z | z
    · exact x.nf b o z
    · refine .inr (.inl ?_)
      cases e : H b with
      | none => rfl
      | some o' =>
        obtain ⟨o2, e2⟩ := x.al b o' e
        rw [z] at e2
        cases e2
    · rcases List.mem_append.mp z with q | q
      · exact .inr (.inr q)
      · exact .inr (.inl (hr b q))
def ir (K : PySem.W.Frag) (ca : Nat → Addr) (H F : Hp) (θ : List Addr) (a : Addr) : Cell → Prop
  | .dead => ∃ o, H a = some o
  | .lst ds => F a = none ∧ ∃ xs, H a = some (.lst xs) ∧ au K ca θ F ds xs
  | .ins c ns ds => F a = none ∧ ∃ dx xs, H a = some (.ins (ca c) dx (ns.zip xs)) ∧ ns.length = xs.length ∧ au K ca θ F ds xs
theorem ir.there {K : PySem.W.Frag} {ca : Nat → Addr} {H F : Hp} {θ : List Addr} {a : Addr} {c : Cell} (h : ir K ca H F θ a c) : ∃ o, H a = some o := by
  cases c with
  | dead => exact h
  | lst ds => obtain ⟨_, xs, e, _⟩ := h; exact ⟨_, e⟩
  | ins c ns ds => obtain ⟨_, dx, xs, e, _⟩ := h; exact ⟨_, e⟩
structure Now (K : PySem.W.Frag) (ca : Nat → Addr) (H F : Hp) (θ : List Addr) (O : aw) : Prop where
  fh : bc F H
  nd : θ.Nodup
  ln : θ.length = O.length
  ce : ∀ (k : Nat) a c, θ[k]? = some a → O[k]? = some c → ir K ca H F θ a c
theorem Now.there {K : PySem.W.Frag} {ca : Nat → Addr} {H F : Hp} {θ : List Addr} {O : aw} (n : Now K ca H F θ O) {a : Addr} (h : a ∈ θ) : ∃ o, H a = some o := by
  obtain ⟨k, hk, e⟩ := List.getElem_of_mem h
  have h1 : θ[k]? = some a := by rw [List.getElem?_eq_getElem hk, e]
  have h2 : ∃ c, O[k]? = some c := ⟨O[k]'(by rw [← n.ln]; exact hk), List.getElem?_eq_getElem _⟩
  obtain ⟨c, h2⟩ := h2
  exact (n.ce k a c h1 h2).there
theorem Now.nil {K : PySem.W.Frag} {ca : Nat → Addr} {H F : Hp} (h : bc F H) : Now K ca H F [] [] := ⟨h, List.nodup_nil, rfl, fun k a c e _ => by simp at e⟩
structure BS (K : PySem.W.Frag) (ca : Nat → Addr) (σ : St) (H F : Hp) (θ : List Addr) (s : S) : Prop where
  now : Now K ca H F θ s.o
  len : σ.length = s.r.length
  sl : ∀ (i : Nat) d, s.r[i]? = some (some d) → ∃ v, σ[i]? = some (some v) ∧ Rep K ca θ F d v
theorem BS.newF {K : PySem.W.Frag} {ca : Nat → Addr} {σ : St} {H F : Hp} {θ : List Addr} {s : S} (b : BS K ca σ H F θ s) {p : Addr} (hp : H p = none) (o : HO) :
    Stp H F θ (upd H p o) (upd F p o) θ ∧ BS K ca σ (upd H p o) (upd F p o) θ s ∧ bc F (upd F p o) ∧ upd F p o p = some o := by
  have nm : ∀ a u, H a = some u → a ≠ p := fun a u e z => by rw [z, hp] at e; cases e
  have fp : F p = none := by
    cases e : F p with
    | none => rfl
    | some u => rw [b.now.fh p u e] at hp; cases hp
  have sF : bc F (upd F p o) := fun a u e => by rw [aG (nm a u (b.now.fh a u e))]; exact e
  have sH : bc H (upd H p o) := fun a u e => by rw [aG (nm a u e)]; exact e
  refine ⟨⟨sF, ⟨[], by simp, by simp⟩, fun a u e _ => sH a u e, fun a u e => ⟨u, sH a u e⟩, fun a u e => ?_⟩, ⟨⟨fun a u e => ?_, b.now.nd, b.now.ln, fun k a c e1 e2 => ?_⟩, b.len, fun i d e => ?_⟩, sF, bP⟩
  · by_cases h : a = p
    · subst h; exact .inr (.inl hp)
    · rw [aG h] at e; exact .inl e
  · by_cases h : a = p
    · subst h; rw [bP] at e ⊢; exact e
    · rw [aG h] at e ⊢; exact b.now.fh a u e
  · have q := b.now.ce k a c e1 e2
    obtain ⟨u, hu⟩ := q.there
    have ne := nm a u hu
    cases c with
    | dead => exact ⟨u, sH a u hu⟩
    | lst ds =>
      obtain ⟨q1, xs, q2, q3⟩ := q
      exact ⟨by rw [aG ne]; exact q1, xs, sH _ _ q2, q3.mono sF ⟨[], by simp⟩⟩
    | ins c ns ds =>
      obtain ⟨q1, dx, xs, q2, q3, q4⟩ := q
      exact ⟨by rw [aG ne]; exact q1, dx, xs, sH _ _ q2, q3, q4.mono sF ⟨[], by simp⟩⟩
  · obtain ⟨v, h1, h2⟩ := b.sl i d e
    exact ⟨v, h1, h2.mono sF ⟨[], by simp⟩⟩
theorem BS.newC {K : PySem.W.Frag} {ca : Nat → Addr} {σ : St} {H F : Hp} {θ : List Addr} {s : S} (b : BS K ca σ H F θ s) {p : Addr} (hp : H p = none) {ds : List D} {xs : List V} (hr : au K ca θ F ds xs) :
    Stp H F θ (upd H p (.lst xs)) F (θ ++ [p]) ∧ BS K ca σ (upd H p (.lst xs)) F (θ ++ [p]) ⟨s.r, s.o ++ [.lst ds]⟩ ∧ Rep K ca (θ ++ [p]) F (.ptr s.o.length) (.ref p) := by
  have nm : ∀ a u, H a = some u → a ≠ p := fun a u e z => by rw [z, hp] at e; cases e
  have fp : F p = none := by
    cases e : F p with
    | none => rfl
    | some u => rw [b.now.fh p u e] at hp; cases hp
  have sH : bc H (upd H p (.lst xs)) := fun a u e => by rw [aG (nm a u e)]; exact e
  have pt : p ∉ θ := fun h => by obtain ⟨u, hu⟩ := b.now.there h; rw [hp] at hu; cases hu
  refine ⟨⟨bc.refl _, ⟨[p], rfl, by simpa using hp⟩, fun a u e _ => sH a u e, fun a u e => ⟨u, sH a u e⟩, fun a u e => .inl e⟩, ⟨⟨b.now.fh.trans sH, ?_, ?_, fun k a c e1 e2 => ?_⟩, b.len, fun i d e => ?_⟩, ?_⟩
  · refine List.nodup_append.mpr ⟨b.now.nd, by simp, fun a ha x hx => ?_⟩
    rw [List.mem_singleton.mp hx]
    rintro rfl
    exact pt ha
  · simp [b.now.ln]
  · by_cases hk : k < θ.length
    · rw [List.getElem?_append_left hk] at e1
      rw [List.getElem?_append_left (by rw [← b.now.ln]; exact hk)] at e2
      have q := b.now.ce k a c e1 e2
      obtain ⟨u, hu⟩ := q.there
      cases c with
      | dead => exact ⟨u, sH a u hu⟩
      | lst ds =>
        obtain ⟨q1, ys, q2, q3⟩ := q
        exact ⟨q1, ys, sH _ _ q2, q3.mono (bc.refl _) ⟨[p], rfl⟩⟩
      | ins c ns ds =>
        obtain ⟨q1, dx, ys, q2, q3, q4⟩ := q
        exact ⟨q1, dx, ys, sH _ _ q2, q3, q4.mono (bc.refl _) ⟨[p], rfl⟩⟩
    · have hk1 : k < (θ ++ [p]).length := (List.getElem?_eq_some_iff.mp e1).1
      have hk2 : k = θ.length := by simp at hk1; omega
      subst hk2
      rw [List.getElem?_append_right (Nat.le_refl _)] at e1
      rw [List.getElem?_append_right (by rw [b.now.ln]; exact Nat.le_refl _), b.now.ln] at e2
      simp at e1 e2
      subst e1; subst e2
      exact ⟨fp, xs, bP, hr.mono (bc.refl _) ⟨[p], rfl⟩⟩
  · obtain ⟨v, h1, h2⟩ := b.sl i d e
    exact ⟨v, h1, h2.mono (bc.refl _) ⟨[p], rfl⟩⟩
  · unfold Rep
    exact ⟨p, rfl, by rw [← b.now.ln]; simp⟩
theorem BS.set {K : PySem.W.Frag} {ca : Nat → Addr} {σ : St} {H F : Hp} {θ : List Addr} {s : S} (b : BS K ca σ H F θ s) {d : D} {v : V} (h : Rep K ca θ F d v) (i : Nat) : BS K ca (σ.set i (some v)) H F θ ⟨s.r.set i (some d), s.o⟩ := by
  refine ⟨b.now, by simp [b.len], fun j e hj => ?_⟩
  by_cases hji : i = j
  · subst hji
    have hlt : i < s.r.length := by
      have := (List.getElem?_eq_some_iff.mp hj).1
      simpa using this
    rw [List.getElem?_set_self hlt] at hj
    cases hj
    exact ⟨v, List.getElem?_set_self (by rw [b.len]; exact hlt), h⟩
  · rw [List.getElem?_set_ne hji] at hj
    obtain ⟨u, h1, h2⟩ := b.sl j e hj
    exact ⟨u, by rw [List.getElem?_set_ne hji]; exact h1, h2⟩
abbrev EM := S → Res (D × S)
abbrev AM := S → Res (List D × S)
inductive Out where
  | next (s : S) | ret (d : D) (s : S) | brk (s : S) | cnt (s : S) | exc (c : Nat) (a : D) (o : S) | bad
abbrev SM := S → Out
def PoR {α : Type} (C : Ct) (H F : Hp) (θ : List Addr) (x : Res α) (k : α → Hp → Hp → List Addr → Prop) : Prop := match x with
  | .ok a => ∀ H1 F1 θ1, Stp H F θ H1 F1 θ1 → k a H1 F1 θ1
  | .exc c a o => ∀ H1 F1 θ1, Stp H F θ H1 F1 θ1 → Now C.K C.ca H1 F1 θ1 o.o → C.W c a o H1 F1 θ1
  | .bad => False
abbrev PoE (C : Ct) (σ : St) (H F : Hp) (θ : List Addr) (x : Res (D × S)) (Q : VK) : Prop :=
  PoR C H F θ x fun y H1 F1 θ1 => BS C.K C.ca σ H1 F1 θ1 y.2 → ∀ v, Rep C.K C.ca θ1 F1 y.1 v → Q v H1
abbrev PoA (C : Ct) (σ : St) (H F : Hp) (θ : List Addr) (x : Res (List D × S)) (Q : List V → Hp → Prop) : Prop :=
  PoR C H F θ x fun y H1 F1 θ1 => BS C.K C.ca σ H1 F1 θ1 y.2 → ∀ v, au C.K C.ca θ1 F1 y.1 v → Q v H1
abbrev PoT (C : Ct) (σ : St) (H F : Hp) (θ : List Addr) (x : Res (Bool × S)) (Q : Bool → Hp → Prop) : Prop :=
  PoR C H F θ x fun y H1 F1 θ1 => BS C.K C.ca σ H1 F1 θ1 y.2 → Q y.1 H1
abbrev PoG (C : Ct) (H F : Hp) (θ : List Addr) (x : Res S) (Q : St → Hp → Prop) : Prop :=
  PoR C H F θ x fun y H1 F1 θ1 => ∀ σ1, BS C.K C.ca σ1 H1 F1 θ1 y → Q σ1 H1
def PoS (C : Ct) (H F : Hp) (θ : List Addr) (x : Out) (Q : Ends) : Prop := match x with
  | .next s1 => ∀ σ1 H1 F1 θ1, Stp H F θ H1 F1 θ1 → BS C.K C.ca σ1 H1 F1 θ1 s1 → Q.nx σ1 H1
  | .ret d s1 => ∀ v σ1 H1 F1 θ1, Stp H F θ H1 F1 θ1 → BS C.K C.ca σ1 H1 F1 θ1 s1 → Rep C.K C.ca θ1 F1 d v → Q.rt v H1
  | .brk s1 => ∀ σ1 H1 F1 θ1, Stp H F θ H1 F1 θ1 → BS C.K C.ca σ1 H1 F1 θ1 s1 → Q.bk σ1 H1
  | .cnt s1 => ∀ σ1 H1 F1 θ1, Stp H F θ H1 F1 θ1 → BS C.K C.ca σ1 H1 F1 θ1 s1 → Q.ct σ1 H1
  | .exc c a o => ∀ H1 F1 θ1, Stp H F θ H1 F1 θ1 → Now C.K C.ca H1 F1 θ1 o.o → C.W c a o H1 F1 θ1
  | .bad => False
theorem PoR.after {α : Type} {C : Ct} {H F H1 F1 : Hp} {θ θ1 : List Addr} {x : Res α} {k : α → Hp → Hp → List Addr → Prop} (st : Stp H F θ H1 F1 θ1) (p : PoR C H F θ x k) : PoR C H1 F1 θ1 x k := by
  unfold PoR at p ⊢
  cases x with
  | ok a => exact fun H2 F2 θ2 s2 => p H2 F2 θ2 (st.trans s2)
  | exc c a o => exact fun H2 F2 θ2 s2 n => p H2 F2 θ2 (st.trans s2) n
  | bad => exact p
theorem PoR.bind {α β : Type} {C : Ct} {H F : Hp} {θ : List Addr} {x : Res α} {f : α → Res β} {k : α → Hp → Hp → List Addr → Prop} {j : β → Hp → Hp → List Addr → Prop}
    (p : PoR C H F θ (x.bind f) j) (h : ∀ a H1 F1 θ1, x = .ok a → Stp H F θ H1 F1 θ1 → PoR C H1 F1 θ1 (f a) j → k a H1 F1 θ1) : PoR C H F θ x k := by
  cases x with
  | ok a => exact fun H1 F1 θ1 st => h a H1 F1 θ1 rfl st (PoR.after st p)
  | exc c a o => exact p
  | bad => exact p
theorem PoR.imp {α : Type} {C : Ct} {H F : Hp} {θ : List Addr} {x : Res α} {k j : α → Hp → Hp → List Addr → Prop} (p : PoR C H F θ x j) (h : ∀ a H1 F1 θ1, x = .ok a → Stp H F θ H1 F1 θ1 → j a H1 F1 θ1 → k a H1 F1 θ1) : PoR C H F θ x k := by
  cases x with
  | ok a => exact fun H1 F1 θ1 st => h a H1 F1 θ1 rfl st (p H1 F1 θ1 st)
  | exc c a o => exact p
  | bad => exact p
theorem PoS.after {C : Ct} {H F H1 F1 : Hp} {θ θ1 : List Addr} {x : Out} {Q : Ends} (st : Stp H F θ H1 F1 θ1) (p : PoS C H F θ x Q) : PoS C H1 F1 θ1 x Q := by
  unfold PoS at p ⊢
  cases x with
  | next s => exact fun v H2 F2 θ2 s2 b => p v H2 F2 θ2 (st.trans s2) b
  | ret d s => exact fun v σ2 H2 F2 θ2 s2 b r => p v σ2 H2 F2 θ2 (st.trans s2) b r
  | brk s => exact fun v H2 F2 θ2 s2 b => p v H2 F2 θ2 (st.trans s2) b
  | cnt s => exact fun v H2 F2 θ2 s2 b => p v H2 F2 θ2 (st.trans s2) b
  | exc c a o => exact fun H2 F2 θ2 s2 n => p H2 F2 θ2 (st.trans s2) n
  | bad => exact p
def Res.out {α : Type} (x : Res α) (f : α → Out) : Out := match x with
  | .ok a => f a
  | .exc c a o => .exc c a o
  | .bad => .bad
@[simp] theorem lq {α : Type} (a : α) (f : α → Out) : (Res.ok a).out f = f a := rfl
@[simp] theorem FF {α : Type} (c : Nat) (a : D) (o : S) (f : α → Out) : (Res.exc c a o : Res α).out f = .exc c a o := rfl
@[simp] theorem FJ {α : Type} (f : α → Out) : (Res.bad : Res α).out f = .bad := rfl
theorem PoS.out {α : Type} {C : Ct} {H F : Hp} {θ : List Addr} {x : Res α} {f : α → Out} {k : α → Hp → Hp → List Addr → Prop} {Q : Ends}
    (p : PoS C H F θ (x.out f) Q) (h : ∀ a H1 F1 θ1, x = .ok a → Stp H F θ H1 F1 θ1 → PoS C H1 F1 θ1 (f a) Q → k a H1 F1 θ1) : PoR C H F θ x k := by
  cases x with
  | ok a => exact fun H1 F1 θ1 st => h a H1 F1 θ1 rfl st (PoS.after st p)
  | exc c a o => exact p
  | bad => exact p
def RdE (C : Ct) (t : TE) (m : EM) : Prop := ∀ σ H F θ s Q, BS C.K C.ca σ H F θ s → PoE C σ H F θ (m s) Q → t σ H Q
def RdA (C : Ct) (t : TA) (m : AM) : Prop := ∀ σ H F θ s Q, BS C.K C.ca σ H F θ s → PoA C σ H F θ (m s) Q → t σ H Q
abbrev TM := S → Res (Bool × S)
def RdT (C : Ct) (t : TT) (m : TM) : Prop := ∀ σ H F θ s Q, BS C.K C.ca σ H F θ s → PoT C σ H F θ (m s) Q → t σ H Q
abbrev GM := D → S → Res S
def RdG (C : Ct) (t : TG) (m : GM) : Prop := ∀ σ H F θ s d v Q, BS C.K C.ca σ H F θ s → Rep C.K C.ca θ F d v → PoG C H F θ (m d s) Q → t v σ H Q
def RdS (C : Ct) (t : TS) (m : SM) : Prop := ∀ σ H F θ s Q, BS C.K C.ca σ H F θ s → PoS C H F θ (m s) Q → t Q σ H
end M
set_option maxRecDepth 100000
set_option maxHeartbeats 4000000
namespace M
open PySem L2
section
variable {C : Ct}
@[simp] theorem fE {K ca θ F v} : Rep K ca θ F .non v ↔ v = .non := by unfold Rep; exact Iff.rfl
@[simp] theorem bO {K ca θ F v b} : Rep K ca θ F (.bl b) v ↔ v = .bl b := by unfold Rep; exact Iff.rfl
@[simp] theorem aW {K ca θ F v i} : Rep K ca θ F (.int i) v ↔ v = .int i := by unfold Rep; exact Iff.rfl
@[simp] theorem cf {K ca θ F v x} : Rep K ca θ F (.str x) v ↔ v = .str x := by unfold Rep; exact Iff.rfl
def af (i : Nat) : EM := fun s => match s.r[i]? with
  | some (some d) => .ok (d, s)
  | _ => .bad
theorem ag (i : Nat) : RdE C (uw i) (af i) := by
  intro σ H F θ s Q b p
  unfold af at p
  split at p
  · rename_i d e
    obtain ⟨v, h1, h2⟩ := b.sl i d e
    exact ⟨v, h1, p H F θ .refl b v h2⟩
  · exact p.elim
def ao (d : D) : EM := fun s => .ok (d, s)
theorem aA (i : Int) : RdE C (tC (.int i)) (ao (.int i)) := fun σ H F θ s Q b p => p H F θ .refl b (.int i) (aW.mpr rfl)
theorem pR (i : Bool) : RdE C (tC (.bl i)) (ao (.bl i)) := fun σ H F θ s Q b p => p H F θ .refl b (.bl i) (bO.mpr rfl)
theorem kY (i : Str) : RdE C (tC (.str i)) (ao (.str i)) := fun σ H F θ s Q b p => p H F θ .refl b (.str i) (cf.mpr rfl)
abbrev Op2 := aw → D → D → Res D
abbrev Op1 := aw → D → Res D
def fC (C : Ct) (r : R2) (f : Op2) : Prop := ∀ σ H F θ s x y v w Q, BS C.K C.ca σ H F θ s → Rep C.K C.ca θ F x v → Rep C.K C.ca θ F y w →
  PoE C σ H F θ ((f s.o x y).bind fun d => .ok (d, s)) Q → r v w H Q
def ak (f : Op2) (ma mb : EM) : EM := fun s => (ma s).bind fun x => (mb x.2).bind fun y => (f y.2.o x.1 y.1).bind fun d => .ok (d, y.2)
theorem ar {r : R2} {f : Op2} {ta tb : TE} {ma mb : EM} (ho : fC C r f) (ha : RdE C ta ma) (hb : RdE C tb mb) : RdE C (tOp r ta tb) (ak f ma mb) := by
  intro σ H F θ s Q b p
  refine ha σ H F θ s _ b (PoR.bind p ?_)
  rintro ⟨x, s1⟩ H1 F1 θ1 _ st1 p1 b1 v r1
  refine hb σ H1 F1 θ1 s1 _ b1 (PoR.bind p1 ?_)
  rintro ⟨y, s2⟩ H2 F2 θ2 _ st2 p2 b2 w r2
  exact ho σ H2 F2 θ2 s2 x y v w Q b2 (r1.mono st2.ff st2.pre) r2 p2
def CD (C : Ct) (r : V → Hp → VK → Prop) (f : Op1) : Prop := ∀ σ H F θ s x v Q, BS C.K C.ca σ H F θ s → Rep C.K C.ca θ F x v →
  PoE C σ H F θ ((f s.o x).bind fun d => .ok (d, s)) Q → r v H Q
def unM (f : Op1) (ma : EM) : EM := fun s => (ma s).bind fun x => (f x.2.o x.1).bind fun d => .ok (d, x.2)
theorem xp {r : V → Hp → VK → Prop} {f : Op1} {ta : TE} {ma : EM} (ho : CD C r f) (ha : RdE C ta ma) : RdE C (tUn r ta) (unM f ma) := by
  intro σ H F θ s Q b p
  refine ha σ H F θ s _ b (PoR.bind p ?_)
  rintro ⟨x, s1⟩ H1 F1 θ1 _ st1 p1 b1 v r1
  exact ho σ H1 F1 θ1 s1 x v Q b1 r1 p1
def av : AM := fun s => .ok ([], s)
def ai (m : EM) (r : AM) : AM := fun s => (m s).bind fun x => (r x.2).bind fun y => .ok (x.1 :: y.1, y.2)
theorem aC : RdA C kL av := fun σ H F θ s Q b p => p H F θ .refl b [] au.nil
theorem aq {te : TE} {ta : TA} {m : EM} {r : AM} (he : RdE C te m) (ha : RdA C ta r) : RdA C (gJ te ta) (ai m r) := by
  intro σ H F θ s Q b p
  refine he σ H F θ s _ b (PoR.bind p ?_)
  rintro ⟨x, s1⟩ H1 F1 θ1 _ st1 p1 b1 v r1
  refine ha σ H1 F1 θ1 s1 _ b1 (PoR.bind p1 ?_)
  rintro ⟨y, s2⟩ H2 F2 θ2 _ st2 p2 b2 w r2
  exact p2 H2 F2 θ2 .refl b2 (v :: w) (au.cons (r1.mono st2.ff st2.pre) r2)
abbrev OpN := aw → List D → Res D
def iW (C : Ct) (r : List V → Hp → VK → Prop) (f : OpN) : Prop := ∀ σ H F θ s xs vs Q, BS C.K C.ca σ H F θ s → au C.K C.ca θ F xs vs →
  PoE C σ H F θ ((f s.o xs).bind fun d => .ok (d, s)) Q → r vs H Q
def br (f : OpN) (ma : AM) : EM := fun s => (ma s).bind fun x => (f x.2.o x.1).bind fun d => .ok (d, x.2)
theorem bb {r : List V → Hp → VK → Prop} {f : OpN} {ta : TA} {ma : AM} (hc : iW C r f) (ha : RdA C ta ma) : RdE C (tCB r ta) (br f ma) := by
  intro σ H F θ s Q b p
  refine ha σ H F θ s _ b (PoR.bind p ?_)
  rintro ⟨x, s1⟩ H1 F1 θ1 _ st1 p1 b1 v r1
  exact hc σ H1 F1 θ1 s1 x v Q b1 r1 p1
def il (ma : AM) : EM := fun s => (ma s).bind fun x => if x.1.length ≤ 16777216 then .ok (.tup x.1, x.2) else .bad
theorem kn {ta : TA} {ma : AM} (ha : RdA C ta ma) : RdE C (Ak ta) (il ma) := by
  intro σ H F θ s Q b p
  refine ha σ H F θ s _ b (PoR.bind p ?_)
  rintro ⟨x, s1⟩ H1 F1 θ1 _ st1 p1 b1 v r1
  dsimp only at p1
  split at p1
  · rename_i hl
    refine ⟨by rw [r1.length]; exact hl, fun q hq => ?_⟩
    obtain ⟨st, b2, sF, e⟩ := b1.newF hq (.tup v)
    refine p1 _ _ _ st b2 _ ?_
    unfold Rep
    exact ⟨q, v, rfl, SqT.of e, r1.mono sF ⟨[], by simp⟩⟩
  · exact p1.elim
def ij (ma : AM) : EM := fun s => (ma s).bind fun x => if x.1.length ≤ 16777216 then .ok (.lst x.1, x.2) else .bad
theorem kU {ta : TA} {ma : AM} (ha : RdA C ta ma) : RdE C (zi ta) (ij ma) := by
  intro σ H F θ s Q b p
  refine ha σ H F θ s _ b (PoR.bind p ?_)
  rintro ⟨x, s1⟩ H1 F1 θ1 _ st1 p1 b1 v r1
  dsimp only at p1
  split at p1
  · rename_i hl
    refine ⟨by rw [r1.length]; exact hl, fun q hq => ?_⟩
    obtain ⟨st, b2, sF, e⟩ := b1.newF hq (.lst v)
    refine p1 _ _ _ st b2 _ ?_
    unfold Rep
    exact ⟨q, v, rfl, SqL.of e, r1.mono sF ⟨[], by simp⟩⟩
  · exact p1.elim
def gb (ma : AM) : EM := fun s => (ma s).bind fun x => if x.1.length ≤ 16777216 then .ok (.ptr x.2.o.length, ⟨x.2.r, x.2.o ++ [.lst x.1]⟩) else .bad
theorem iH {ta : TA} {ma : AM} (ha : RdA C ta ma) : RdE C (zi ta) (gb ma) := by
  intro σ H F θ s Q b p
  refine ha σ H F θ s _ b (PoR.bind p ?_)
  rintro ⟨x, s1⟩ H1 F1 θ1 _ st1 p1 b1 v r1
  dsimp only at p1
  split at p1
  · rename_i hl
    refine ⟨by rw [r1.length]; exact hl, fun q hq => ?_⟩
    obtain ⟨st, b2, rp⟩ := b1.newC hq r1
    exact p1 _ _ _ st b2 _ rp
  · exact p1.elim
def bq (m : EM) : TM := fun s => (m s).bind fun x => match x.1 with
  | .bl b => .ok (b, x.2)
  | _ => .bad
theorem cA {t : TE} {m : EM} (h : RdE C t m) : RdT C (AV t) (bq m) := by
  intro σ H F θ s Q b p
  refine h σ H F θ s _ b (PoR.bind p ?_)
  rintro ⟨x, s1⟩ H1 F1 θ1 _ st1 p1 b1 v r1
  cases x <;> first | exact False.elim p1 | skip
  rename_i k _
  exact ⟨k, bO.mp r1, p1 _ _ _ .refl b1⟩
theorem nQ {t : TE} {m : EM} (h : RdE C t m) : RdT C (tB t) (bq m) := cA h
def oW (a b : TM) : TM := fun s => (a s).bind fun x => if x.1 then b x.2 else .ok (false, x.2)
def orT (a b : TM) : TM := fun s => (a s).bind fun x => if x.1 then .ok (true, x.2) else b x.2
def o6 (a : TM) : TM := fun s => (a s).bind fun x => .ok (!x.1, x.2)
theorem DF {t u : TT} {a b : TM} (ha : RdT C t a) (hb : RdT C u b) : RdT C (CY t u) (oW a b) := by
  intro σ H F θ s Q bs p
  refine ha σ H F θ s _ bs (PoR.bind p ?_)
  rintro ⟨x, s1⟩ H1 F1 θ1 _ st1 p1 b1
  cases x with
  | true => exact qJ (hb σ H1 F1 θ1 s1 Q b1 p1)
  | false => exact qB (p1 _ _ _ .refl b1)
theorem p8 {t u : TT} {a b : TM} (ha : RdT C t a) (hb : RdT C u b) : RdT C (tOr t u) (orT a b) := by
  intro σ H F θ s Q bs p
  refine ha σ H F θ s _ bs (PoR.bind p ?_)
  rintro ⟨x, s1⟩ H1 F1 θ1 _ st1 p1 b1
  cases x with
  | true => exact qJ (p1 _ _ _ .refl b1)
  | false => exact qB (hb σ H1 F1 θ1 s1 Q b1 p1)
theorem px {t : TT} {a : TM} (ha : RdT C t a) : RdT C (DI t) (o6 a) := by
  intro σ H F θ s Q bs p
  refine ha σ H F θ s _ bs (PoR.bind p ?_)
  rintro ⟨x, s1⟩ H1 F1 θ1 _ st1 p1 b1
  exact p1 _ _ _ .refl b1
def nt (a b : EM) : EM := fun s => (a s).bind fun x => match x.1 with
  | .bl true => b x.2
  | .bl false => .ok (.bl false, x.2)
  | _ => .bad
def orV (a b : EM) : EM := fun s => (a s).bind fun x => match x.1 with
  | .bl true => .ok (.bl true, x.2)
  | .bl false => b x.2
  | _ => .bad
def qz (a : EM) : EM := fun s => (a s).bind fun x => match x.1 with
  | .bl k => .ok (.bl (!k), x.2)
  | _ => .bad
theorem lF {t u : TE} {a b : EM} (ha : RdE C t a) (hb : RdE C u b) : RdE C (AF t u) (nt a b) := by
  intro σ H F θ s Q bs p
  refine ha σ H F θ s _ bs (PoR.bind p ?_)
  rintro ⟨x, s1⟩ H1 F1 θ1 _ st1 p1 b1 v r1
  cases x <;> first | exact False.elim p1 | skip
  rename_i k _
  refine ⟨k, bO.mp r1, ?_⟩
  cases k with
  | true => exact qJ (hb σ H1 F1 θ1 s1 Q b1 p1)
  | false => exact qB (p1 _ _ _ .refl b1 _ (bO.mpr rfl))
theorem qr {t : TE} {a : EM} (ha : RdE C t a) : RdE C (AL t) (qz a) := by
  intro σ H F θ s Q bs p
  refine ha σ H F θ s _ bs (PoR.bind p ?_)
  rintro ⟨x, s1⟩ H1 F1 θ1 _ st1 p1 b1 v r1
  cases x <;> first | exact False.elim p1 | skip
  rename_i k _
  exact ⟨k, bO.mp r1, p1 _ _ _ .refl b1 _ (bO.mpr rfl)⟩
def ifM (c : TM) (a b : EM) : EM := fun s => (c s).bind fun x => if x.1 then a x.2 else b x.2
def Out.then (x : Out) (f : S → Out) : Out := match x with
  | .next s => f s
  | o => o
@[simp] theorem ER (s : S) (f : S → Out) : (Out.next s).then f = f s := rfl
@[simp] theorem E6 (d : D) (s : S) (f : S → Out) : (Out.ret d s).then f = .ret d s := rfl
@[simp] theorem EU (s : S) (f : S → Out) : (Out.brk s).then f = .brk s := rfl
@[simp] theorem Fi (s : S) (f : S → Out) : (Out.cnt s).then f = .cnt s := rfl
@[simp] theorem Fc (c : Nat) (a : D) (o : S) (f : S → Out) : (Out.exc c a o).then f = .exc c a o := rfl
@[simp] theorem Fn (f : S → Out) : Out.bad.then f = .bad := rfl
def aT (a b : SM) : SM := fun s => (a s).then b
def cm : SM := fun s => .next s
theorem cv : RdS C Ay cm := fun σ H F θ s Q b p => p σ H F θ .refl b
theorem aM {t u : TS} {a b : SM} (ha : RdS C t a) (hb : RdS C u b) : RdS C (DB t u) (aT a b) := by
  intro σ H F θ s Q bs p
  refine ha σ H F θ s _ bs ?_
  unfold aT at p
  cases e : a s with
  | next s1 =>
    rw [e] at p
    intro σ1 H1 F1 θ1 st1 b1
    exact hb σ1 H1 F1 θ1 s1 Q b1 (PoS.after st1 p)
  | ret d s1 => rw [e] at p; exact p
  | brk s1 => rw [e] at p; exact p
  | cnt s1 => rw [e] at p; exact p
  | exc c a o => rw [e] at p; exact p
  | bad => rw [e] at p; exact p
def bE (m : EM) : SM := fun s => (m s).out fun x => .next x.2
theorem bR {t : TE} {m : EM} (h : RdE C t m) : RdS C (AD t) (bE m) := by
  intro σ H F θ s Q b p
  refine h σ H F θ s _ b (PoS.out p ?_)
  rintro ⟨x, s1⟩ H1 F1 θ1 _ st1 p1 b1 v r1
  exact p1 σ H1 F1 θ1 .refl b1
def dX (m : EM) : SM := fun s => (m s).out fun x => .ret x.1 x.2
theorem cL {t : TE} {m : EM} (h : RdE C t m) : RdS C (DY t) (dX m) := by
  intro σ H F θ s Q b p
  refine h σ H F θ s _ b (PoS.out p ?_)
  rintro ⟨x, s1⟩ H1 F1 θ1 _ st1 p1 b1 v r1
  exact p1 v σ H1 F1 θ1 .refl b1 r1
def EZ : SM := fun s => .ret .non s
def ifS (c : TM) (a b : SM) : SM := fun s => (c s).out fun x => if x.1 then a x.2 else b x.2
theorem dP {t : TT} {u w : TS} {c : TM} {a b : SM} (hc : RdT C t c) (ha : RdS C u a) (hb : RdS C w b) : RdS C (CQ t u w) (ifS c a b) := by
  intro σ H F θ s Q bs p
  refine hc σ H F θ s _ bs (PoS.out p ?_)
  rintro ⟨x, s1⟩ H1 F1 θ1 _ st1 p1 b1
  cases x with
  | true => exact qJ (ha σ H1 F1 θ1 s1 Q b1 p1)
  | false => exact qB (hb σ H1 F1 θ1 s1 Q b1 p1)
def kN : SM := fun _ => .bad
theorem iC : RdS C xI kN := fun σ H F θ s Q b p => p
def aL (i : Nat) : GM := fun d s => .ok ⟨s.r.set i (some d), s.o⟩
theorem ba (i : Nat) : RdG C (sE i) (aL i) := fun σ H F θ s d v Q b r p => p H F θ .refl _ (b.set r i)
def xk (C : Ct) (t : TGs) (m : List D → S → Res S) : Prop := ∀ σ H F θ s ds vs Q, BS C.K C.ca σ H F θ s → au C.K C.ca θ F ds vs → PoG C H F θ (m ds s) Q → t vs σ H Q
def dA : List D → S → Res S := fun ds s => match ds with
  | [] => .ok s
  | _ => .bad
def aS (g : GM) (r : List D → S → Res S) : List D → S → Res S := fun ds s => match ds with
  | d :: ds => (g d s).bind fun s1 => r ds s1
  | [] => .bad
theorem i8 : xk C Dz dA := by
  intro σ H F θ s ds vs Q b r p
  cases ds with
  | nil => exact ⟨by unfold au at r; exact r, p H F θ .refl σ b⟩
  | cons d ds => exact False.elim p
theorem cG {t : TG} {u : TGs} {g : GM} {m : List D → S → Res S} (hg : RdG C t g) (hr : xk C u m) : xk C (AR t u) (aS g m) := by
  intro σ H F θ s ds vs Q b r p
  cases ds with
  | nil => exact False.elim p
  | cons d ds =>
    unfold au at r
    obtain ⟨v, w, rfl, r1, r2⟩ := r
    refine ⟨v, w, rfl, hg σ H F θ s d v _ b r1 (PoR.bind p ?_)⟩
    intro s1 H1 F1 θ1 _ st1 p1 σ1 b1
    exact hr σ1 H1 F1 θ1 s1 ds w Q b1 (r2.mono st1.ff st1.pre) p1
def dv (m : List D → S → Res S) (n : Nat) : GM := fun d s => match d with
  | .tup ds => if ds.length = n then m ds s else .bad
  | _ => .bad
theorem ja {n : Nat} {t : TGs} {m : List D → S → Res S} (h : xk C t m) : RdG C (CS C.K n t) (dv m n) := by
  intro σ H F θ s d v Q b r p
  cases d <;> first | exact False.elim p | skip
  rename_i ds
  unfold Rep at r
  obtain ⟨a, xs, rfl, hs, hr⟩ := r
  unfold dv at p
  dsimp only at p
  split at p
  · rename_i hl
    exact ⟨a, xs, rfl, bc.seqT b.now.fh hs, by rw [hr.length]; exact hl, h σ H F θ s ds xs Q b hr p⟩
  · exact False.elim p
def uE (m : EM) (g : GM) : SM := fun s => ((m s).bind fun x => g x.1 x.2).out fun s => .next s
theorem Dy {t : TE} {m : EM} {g : TG} {gm : GM} (h : RdE C t m) (hg : RdG C g gm) : RdS C (yX t g) (uE m gm) := by
  intro σ H F θ s Q b p
  have p' : PoG C H F θ ((m s).bind fun x => gm x.1 x.2) Q.nx := PoS.out p fun s1 H1 F1 θ1 _ st1 p1 σ1 b1 => p1 σ1 H1 F1 θ1 .refl b1
  refine h σ H F θ s _ b (PoR.bind p' ?_)
  rintro ⟨x, s1⟩ H1 F1 θ1 _ st1 p1 b1 v r1
  exact hg σ H1 F1 θ1 s1 x v Q.nx b1 r1 p1
abbrev setM (i : Nat) (m : EM) : SM := uE m (aL i)
theorem bx {t : TE} {m : EM} {i : Nat} (h : RdE C t m) : RdS C (yX t (sE i)) (setM i m) := Dy h (ba i)
def Dj (i : Nat) (f : Op2) (m : EM) : SM := setM i (ak f (af i) m)
end
end M
set_option maxRecDepth 100000
set_option maxHeartbeats 4000000
namespace M
open PySem PySem.Spec PyProof.Rows L2
section
variable {C : Ct}
structure qT (C : Ct) (J : It) (ds : List D) (ok : aw → Prop) (H F : Hp) (θ : List Addr) : Prop where
  go : ∀ (i : Nat) H2 F2 θ2 O2, i < ds.length → Stp H F θ H2 F2 θ2 → Now C.K C.ca H2 F2 θ2 O2 → ok O2 → J.go i H2
  yl : ∀ (i : Nat) d σ H2 F2 θ2 s2 x H3, ds[i]? = some d → Stp H F θ H2 F2 θ2 → BS C.K C.ca σ H2 F2 θ2 s2 → ok s2.o → J.yld i H2 x H3 → ∃ F3, Stp H2 F2 θ2 H3 F3 θ2 ∧ BS C.K C.ca σ H3 F3 θ2 s2 ∧ Rep C.K C.ca θ2 F3 d x
  st : ∀ (i : Nat) H2 F2 θ2 O2, ds.length ≤ i → Stp H F θ H2 F2 θ2 → Now C.K C.ca H2 F2 θ2 O2 → ok O2 → J.stop i H2
def okC (ds : List D) : Option Nat → aw → Prop
  | none, _ => True
  | some k, O => O[k]? = some (.lst ds)
abbrev IM := S → Res ((List D × Option Nat) × S)
def RdI (C : Ct) (wi : TI) (im : IM) : Prop := ∀ σ H F θ s R, BS C.K C.ca σ H F θ s →
  PoR C H F θ (im s) (fun y H1 F1 θ1 => BS C.K C.ca σ H1 F1 θ1 y.2 → ∀ J, qT C J y.1.1 (okC y.1.1 y.1.2) H1 F1 θ1 → R J H1) → wi σ H R
open Classical in
noncomputable def gI (ok : aw → Prop) (g : GM) (body : SM) : List D → S → Out
  | [], s => if ok s.o then .next s else .bad
  | d :: ds, s => if ok s.o then (g d s).out fun s1 => match body s1 with
      | .next s2 => gI ok g body ds s2
      | .cnt s2 => gI ok g body ds s2
      | .brk s2 => .next s2
      | o => o
    else .bad
noncomputable def kb (im : IM) (g : GM) (body : SM) : SM := fun s => (im s).out fun y => gI (okC y.1.1 y.1.2) g body y.1.1 y.2
theorem jy {wi : TI} {g : TG} {tb : TS} {im : IM} {gm : GM} {bm : SM} (hi : RdI C wi im) (hg : RdG C g gm) (hb : RdS C tb bm) : RdS C (D0 wi g tb) (kb im gm bm) := by
  intro σ H F θ s Q b p
  refine hi σ H F θ s _ b (PoS.out p ?_)
  rintro ⟨⟨ds, k⟩, s1⟩ H1 F1 θ1 _ st1 p1 b1 J it
  dsimp only at p1 it b1
  refine ⟨fun i m σ' H' => m = ds.length - i ∧ i ≤ ds.length ∧ ∃ F' θ' s', Stp H1 F1 θ1 H' F' θ' ∧ BS C.K C.ca σ' H' F' θ' s' ∧ PoS C H' F' θ' (gI (okC ds k) gm bm (ds.drop i) s') Q, ⟨ds.length, by simp, Nat.zero_le _, F1, θ1, s1, .refl, b1, by simpa using p1⟩, ?_⟩
  rintro i m σ' H' ⟨rfl, hil, F', θ', s', st, bs, po⟩
  by_cases lt : i < ds.length
  · right
    rw [List.drop_eq_getElem_cons lt, gI] at po
    split at po
    · rename_i hok
      refine ⟨it.go i H' F' θ' s'.o lt st bs.now hok, fun σ2 H2 => i + 1 ≤ ds.length ∧ ∃ F2 θ2 s2, Stp H1 F1 θ1 H2 F2 θ2 ∧ BS C.K C.ca σ2 H2 F2 θ2 s2 ∧ PoS C H2 F2 θ2 (gI (okC ds k) gm bm (ds.drop (i + 1)) s2) Q, fun σ2 H2 n => ⟨ds.length - (i + 1), by omega, rfl, n⟩, ?_⟩
      intro x H3 hy
      obtain ⟨F3, st3, b3, rp⟩ := it.yl i ds[i] σ' H' F' θ' s' x H3 (List.getElem?_eq_getElem lt) st bs hok hy
      refine hg σ' H3 F3 θ' s' ds[i] x _ b3 rp (PoS.out (PoS.after st3 po) ?_)
      intro s4 H4 F4 θ4 _ st4 p4 σ4 b4
      refine hb σ4 H4 F4 θ4 s4 _ b4 ?_
      have fin : ∀ s5, PoS C H4 F4 θ4 (gI (okC ds k) gm bm (ds.drop (i + 1)) s5) Q → ∀ σ5 H5 F5 θ5, Stp H4 F4 θ4 H5 F5 θ5 → BS C.K C.ca σ5 H5 F5 θ5 s5 → i + 1 ≤ ds.length ∧ ∃ F2 θ2 s2, Stp H1 F1 θ1 H5 F2 θ2 ∧ BS C.K C.ca σ5 H5 F2 θ2 s2 ∧ PoS C H5 F2 θ2 (gI (okC ds k) gm bm (ds.drop (i + 1)) s2) Q :=
        fun s5 p5 σ5 H5 F5 θ5 st5 b5 => ⟨lt, F5, θ5, s5, st.trans (st3.trans (st4.trans st5)), b5, PoS.after st5 p5⟩
      cases e : bm s4 with
      | next s5 => rw [e] at p4; exact fin s5 p4
      | cnt s5 => rw [e] at p4; exact fin s5 p4
      | brk s5 => rw [e] at p4; exact p4
      | ret d s5 => rw [e] at p4; exact p4
      | exc c a o => rw [e] at p4; exact p4
      | bad => rw [e] at p4; exact p4
    · exact False.elim po
  · left
    rw [List.drop_eq_nil_of_le (by omega), gI] at po
    split at po
    · rename_i hok
      exact ⟨it.st i H' F' θ' s'.o (by omega) st bs.now hok, po σ' H' F' θ' .refl bs⟩
    · exact False.elim po
def itemsOf (O : aw) : D → Res (List D × Option Nat)
  | .lst ds => .ok (ds, none)
  | .ptr k => match O[k]? with
    | some (.lst ds) => .ok (ds, some k)
    | _ => .bad
  | _ => .bad
def listI (m : EM) : IM := fun s => (m s).bind fun x => (itemsOf x.2.o x.1).bind fun y => .ok (y, x.2)
theorem DK {a : Addr} {xs : List V} {ds : List D} {H F : Hp} {θ : List Addr} (hs : SqL C.K F a xs) (hr : au C.K C.ca θ F ds xs) (inj : ∀ {σ H2 F2 θ2 s2}, Stp H F θ H2 F2 θ2 → BS C.K C.ca σ H2 F2 θ2 s2 → SqL C.K H2 a xs) :
    qT C (Itl C.K a) ds (okC ds none) H F θ where
  go := fun i H2 F2 θ2 O2 hi st n _ => by
    obtain ⟨x, hx⟩ : ∃ x, xs[i]? = some x := ⟨xs[i]'(by rw [hr.length]; exact hi), List.getElem?_eq_getElem _⟩
    exact ⟨xs, x, n.fh.seq (st.ff.seq hs), hx⟩
  yl := fun i d σ H2 F2 θ2 s2 x H3 hd st b _ hy => by
    obtain ⟨rfl, hx⟩ := hy
    refine ⟨F2, .refl, b, ?_⟩
    obtain ⟨v, h1, h2⟩ := hr.get hd
    have := hx xs (b.now.fh.seq (st.ff.seq hs))
    rw [h1] at this
    cases this
    exact h2.mono st.ff st.pre
  st := fun i H2 F2 θ2 O2 hi st n _ => ⟨xs, n.fh.seq (st.ff.seq hs), by rw [hr.length]; exact hi⟩
theorem eI {tl : TE} {m : EM} (h : RdE C tl m) : RdI C (AO C.K tl) (listI m) := by
  intro σ H F θ s R b p
  refine h σ H F θ s _ b (PoR.bind p ?_)
  rintro ⟨x, s1⟩ H1 F1 θ1 _ st1 p1 b1 v r1
  dsimp only at p1 b1 r1
  cases x <;> first | exact False.elim p1 | skip
  · rename_i ds _
    unfold Rep at r1
    obtain ⟨a, xs, rfl, hs, hr⟩ := r1
    exact ⟨a, rfl, ⟨xs, b1.now.fh.seq hs⟩, p1 _ _ _ .refl b1 _ (DK hs hr fun st b => b.now.fh.seq (st.ff.seq hs))⟩
  · rename_i k _
    unfold Rep at r1
    obtain ⟨a, rfl, hk⟩ := r1
    unfold itemsOf at p1
    dsimp only at p1
    split at p1
    · rename_i ds ek
      obtain ⟨q1, xs, q2, q3⟩ : ir C.K C.ca H1 F1 θ1 a (.lst ds) := b1.now.ce k a _ hk ek
      refine ⟨a, rfl, ⟨xs, SqL.of q2⟩, p1 _ _ _ .refl b1 _ ?_⟩
      have cell : ∀ {H2 F2 : Hp} {θ2 : List Addr} {O2 : aw}, Stp H1 F1 θ1 H2 F2 θ2 → Now C.K C.ca H2 F2 θ2 O2 → O2[k]? = some (.lst ds) → ∃ ys, SqL C.K H2 a ys ∧ au C.K C.ca θ2 F2 ds ys := fun {H2 F2 θ2 O2} st n e => by
        have hk2 : θ2[k]? = some a := by
          obtain ⟨r, rfl, _⟩ := st.th
          rw [List.getElem?_append_left (List.getElem?_eq_some_iff.mp hk).1]
          exact hk
        obtain ⟨_, ys, w2, w3⟩ : ir C.K C.ca H2 F2 θ2 a (.lst ds) := n.ce k a _ hk2 e
        exact ⟨ys, SqL.of w2, w3⟩
      refine ⟨fun i H2 F2 θ2 O2 hi st n e => ?_, fun i d σ H2 F2 θ2 s2 x H3 hd st b e hy => ?_, fun i H2 F2 θ2 O2 hi st n e => ?_⟩
      · obtain ⟨ys, w1, w2⟩ := cell st n e
        exact ⟨ys, ys[i]'(by rw [w2.length]; exact hi), w1, List.getElem?_eq_getElem _⟩
      · obtain ⟨rfl, hx⟩ := hy
        obtain ⟨ys, w1, w2⟩ := cell st b.now e
        obtain ⟨v, h1, h2⟩ := w2.get hd
        have := hx ys w1
        rw [h1] at this
        cases this
        exact ⟨F2, .refl, b, h2⟩
      · obtain ⟨ys, w1, w2⟩ := cell st n e
        exact ⟨ys, w1, by rw [w2.length]; exact hi⟩
    · exact False.elim p1
def fM (lo hi : Int) : List D := (List.range (hi - lo).toNat).map fun i => .int (lo + (i : Nat))
theorem iz (lo hi : Int) : (fM lo hi).length = (hi - lo).toNat := by unfold fM; simp
theorem zK {lo hi : Int} {H F : Hp} {θ : List Addr} : qT C (Itr lo (hi - lo).toNat) (fM lo hi) (okC (fM lo hi) none) H F θ where
  go := fun i H2 F2 θ2 O2 h st n _ => by rw [iz] at h; exact h
  yl := fun i d σ H2 F2 θ2 s2 x H3 hd st b _ hy => by
    obtain ⟨rfl, rfl⟩ := hy
    refine ⟨F2, .refl, b, ?_⟩
    unfold fM at hd
    rw [List.getElem?_map] at hd
    cases e : (List.range (hi - lo).toNat)[i]? with
    | none => rw [e] at hd; cases hd
    | some j =>
      rw [e] at hd
      cases hd
      obtain ⟨_, rfl⟩ : ∃ h, j = i := ⟨trivial, by have := (List.getElem?_eq_some_iff.mp e).2; simpa using this.symm⟩
      exact aW.mpr rfl
  st := fun i H2 F2 θ2 O2 h st n _ => by rw [iz] at h; exact h
def nq (ma : AM) : IM := fun s => (ma s).bind fun x => match x.1 with
  | [.int j] => if -(2 ^ 62) ≤ j ∧ j < 2 ^ 62 then .ok ((fM 0 j, none), x.2) else .bad
  | _ => .bad
theorem pL {K ca θ F i vs} (h : au K ca θ F [.int i] vs) : vs = [.int i] := by
  unfold au at h
  obtain ⟨v, r, rfl, h1, h2⟩ := h
  unfold au at h2
  rw [h2, aW.mp h1]
theorem wO {K ca θ F i j vs} (h : au K ca θ F [.int i, .int j] vs) : vs = [.int i, .int j] := by
  unfold au at h
  obtain ⟨v, r, rfl, h1, h2⟩ := h
  rw [pL h2, aW.mp h1]
theorem qm {ta : TA} {m : AM} (h : RdA C ta m) : RdI C (AK ta) (nq m) := by
  intro σ H F θ s R b p
  refine h σ H F θ s _ b (PoR.bind p ?_)
  rintro ⟨x, s1⟩ H1 F1 θ1 _ st1 p1 b1 v r1
  dsimp only at p1 b1 r1
  split at p1
  · rename_i j _
    split at p1
    · rename_i hj
      refine ⟨j, pL r1, hj.1, hj.2, ?_⟩
      have := p1 _ _ _ .refl b1 _ (zK (lo := 0) (hi := j))
      rw [Int.sub_zero] at this
      exact this
    · exact False.elim p1
  · exact False.elim p1
abbrev FM := List D → aw → Res (D × aw)
def spM (K : PySem.W.Frag) (ca : Nat → Addr) (n : Nat) (f : FM) : Sp := fun vs H Q E => ∃ F θ ds O, Now K ca H F θ O ∧ au K ca θ F ds vs ∧ ds.length = n ∧ match f ds O with
  | .ok (d, O1) => ∀ v H1 F1 θ1, Stp H F θ H1 F1 θ1 → Now K ca H1 F1 θ1 O1 → Rep K ca θ1 F1 d v → Q v H1
  | .exc c _ s1 => ∀ H1 F1 θ1, Stp H F θ H1 F1 θ1 → Now K ca H1 F1 θ1 s1.o → E (.ref (ca c)) none H1
  | .bad => False
def runM (n : Nat) (m : SM) : FM := fun ds O => match m ⟨ds.map some ++ List.replicate (n - ds.length) none, O⟩ with
  | .next s => .ok (.non, s.o)
  | .ret d s => .ok (d, s.o)
  | _ => .bad
def j2 (n : Nat) (m : SM) : FM := fun ds O => match m ⟨ds.map some ++ List.replicate (n - ds.length) none, O⟩ with
  | .next s => .ok (.non, s.o)
  | .ret d s => .ok (d, s.o)
  | .exc c a o => .exc c a o
  | _ => .bad
theorem uj {K : PySem.W.Frag} {ca : Nat → Addr} {N : List Str} {H F : Hp} {θ : List Addr} {O : aw} {ds : List D} {vs : List V} (n : Now K ca H F θ O) (r : au K ca θ F ds vs) :
    BS K ca (L2.start N vs) H F θ ⟨ds.map some ++ List.replicate (N.length - ds.length) none, O⟩ := by
  refine ⟨n, by unfold L2.start; simp [r.length], fun i d e => ?_⟩
  dsimp only at e
  have hi : i < ds.length := by
    by_cases hi : i < ds.length
    · exact hi
    · rw [List.getElem?_append_right (by simpa using hi), List.getElem?_replicate] at e
      split at e <;> cases e
  rw [List.getElem?_append_left (by simpa using hi), List.getElem?_map] at e
  cases e1 : ds[i]? with
  | none => rw [e1] at e; cases e
  | some d' =>
    rw [e1] at e
    cases e
    obtain ⟨v, h1, h2⟩ := r.get e1
    refine ⟨v, ?_, h2⟩
    unfold L2.start
    rw [List.getElem?_append_left (by simpa [r.length] using hi), List.getElem?_map, h1]
    rfl
def W0 : Wsh := fun _ _ _ _ _ _ => False
theorem cB {P : Program} {w : World} {K : PySem.W.Frag} {mg : Str → Option Value} {base : Heap} {ca : Nat → Addr} {x qual : Str} {st : Stmt} {f : Addr} {fd : FuncData} {N ps : List Str} {k n : Nat} {m : SM}
    (F : Fun K x qual st f fd) (S : bf N ps (aD st)) (hn : N.length = n)
    (hm : ∀ (cdv : Value) (A : Around) (outer : List Env) (s : Shared) (H : Hp) (E : XK), cC k (A.deeper (envOfC qual (aD st) s.heap.objs.size f cdv)) →
      ∃ t, PSs (jC (CXE P w) P w K mg base N qual (aD st) f cdv A outer s H E).nox (aZ st) t ∧ RdS ⟨K, ca, W0⟩ t m) :
    dR P w K mg base (CXE P w) (k + 1) f fd ps (spM K ca ps.length (runM n m)) := by
  refine F.okE S (fun vs H Q E h => ?_) (fun cdv A outer s H vs Q E hr h => ?_)
  · obtain ⟨F, θ, ds, O, _, r, hl, _⟩ := h
    rw [r.length, hl]
  · obtain ⟨F, θ, ds, O, now, r, hl, q⟩ := h
    obtain ⟨t, ht, rd⟩ := hm cdv A outer s H E hr
    refine ⟨t, ht.nox, rd _ H F θ _ _ (uj now r) ?_⟩
    subst hn
    unfold runM at q
    cases e : m ⟨ds.map some ++ List.replicate (N.length - ds.length) none, O⟩ with
    | next s1 => rw [e] at q; exact fun σ1 H1 F1 θ1 st b => q .non H1 F1 θ1 st b.now (fE.mpr rfl)
    | ret d s1 => rw [e] at q; exact fun v σ1 H1 F1 θ1 st b rv => q v H1 F1 θ1 st b.now rv
    | exc c a o => rw [e] at q; exact False.elim q
    | brk s1 => rw [e] at q; exact False.elim q
    | cnt s1 => rw [e] at q; exact False.elim q
    | bad => rw [e] at q; exact False.elim q
def WE (ca : Nat → Addr) (E : XK) : Wsh := fun c _ _ H1 _ _ => E (.ref (ca c)) none H1
theorem qh {P : Program} {w : World} {K : PySem.W.Frag} {mg : Str → Option Value} {base : Heap} {ca : Nat → Addr} {x qual : Str} {st : Stmt} {f : Addr} {fd : FuncData} {N ps : List Str} {k n : Nat} {m : SM} (F : Fun K x qual st f fd) (S : bf N ps (aD st)) (hn : N.length = n)
    (hm : ∀ (cdv : Value) (A : Around) (outer : List Env) (s : Shared) (H : Hp) (E : XK), cC k (A.deeper (envOfC qual (aD st) s.heap.objs.size f cdv)) → ∃ t, PSs (jC (CXE P w) P w K mg base N qual (aD st) f cdv A outer s H E) (aZ st) t ∧ RdS ⟨K, ca, WE ca E⟩ t m) :
    dR P w K mg base (CXE P w) (k + 1) f fd ps (spM K ca ps.length (j2 n m)) := by
  refine F.okE S (fun vs H Q E h => ?_) (fun cdv A outer s H vs Q E hr h => ?_)
  · obtain ⟨F, θ, ds, O, _, r, hl, _⟩ := h
    rw [r.length, hl]
  · obtain ⟨F, θ, ds, O, now, r, hl, q⟩ := h
    obtain ⟨t, ht, rd⟩ := hm cdv A outer s H E hr
    refine ⟨t, ht, rd _ H F θ _ _ (uj now r) ?_⟩
    subst hn
    unfold j2 at q
    cases e : m ⟨ds.map some ++ List.replicate (N.length - ds.length) none, O⟩ with
    | next s1 => rw [e] at q; exact fun σ1 H1 F1 θ1 st b => q .non H1 F1 θ1 st b.now (fE.mpr rfl)
    | ret d s1 => rw [e] at q; exact fun v σ1 H1 F1 θ1 st b rv => q v H1 F1 θ1 st b.now rv
    | exc c a o => rw [e] at q; exact fun H1 F1 θ1 st n => q H1 F1 θ1 st n
    | brk s1 => rw [e] at q; exact False.elim q
    | cnt s1 => rw [e] at q; exact False.elim q
    | bad => rw [e] at q; exact False.elim q
theorem BS.called {K : PySem.W.Frag} {ca : Nat → Addr} {σ : L2.St} {H F H1 F1 : Hp} {θ θ1 : List Addr} {s : S} {O1 : aw} (b : BS K ca σ H F θ s) (st : Stp H F [] H1 F1 θ1) (n : Now K ca H1 F1 θ1 O1) :
    Stp H F θ H1 F1 θ ∧ BS K ca σ H1 F1 θ s := by
  have kp : ∀ b o, H b = some o → H1 b = some o := fun b o h => st.kp b o h (by simp)
  have nf : ∀ b o, F1 b = some o → F b = some o ∨ H b = none := fun b o h => by
    rcases st.nf b o h with z | z | z
    · exact .inl z
    · exact .inr z
    · simp at z
  refine ⟨⟨st.ff, ⟨[], by simp, by simp⟩, fun b o h _ => kp b o h, st.al, fun b o h => (nf b o h).elim .inl fun z => .inr (.inl z)⟩, ⟨⟨n.fh, b.now.nd, b.now.ln, fun k a c e1 e2 => ?_⟩, b.len, fun i d e => ?_⟩⟩
  · have q := b.now.ce k a c e1 e2
    obtain ⟨u, hu⟩ := q.there
    have fn : F a = none → F1 a = none := fun h => by
      cases e : F1 a with
      | none => rfl
      | some o =>
        rcases nf a o e with z | z
        · rw [h] at z; cases z
        · rw [hu] at z; cases z
    cases c with
    | dead => exact ⟨u, kp a u hu⟩
    | lst ds =>
      obtain ⟨q1, xs, q2, q3⟩ := q
      exact ⟨fn q1, xs, kp _ _ q2, q3.mono st.ff ⟨[], by simp⟩⟩
    | ins c ns ds =>
      obtain ⟨q1, dx, xs, q2, q3, q4⟩ := q
      exact ⟨fn q1, dx, xs, kp _ _ q2, q3, q4.mono st.ff ⟨[], by simp⟩⟩
  · obtain ⟨v, h1, h2⟩ := b.sl i d e
    exact ⟨v, h1, h2.mono st.ff ⟨[], by simp⟩⟩
def bt (n : Nat) (f : FM) (ma : AM) : EM := fun s => (ma s).bind fun x => if ax x.1 = true ∧ x.1.length = n then (match f x.1 [] with
  | .ok (d, _) => if bG d = true then .ok (d, x.2) else .bad
  | _ => .bad) else .bad
theorem bJ {n : Nat} {f : FM} {ta : TA} {ma : AM} {E : XK} (ha : RdA C ta ma) : RdE C (xm (spM C.K C.ca n f) [] E ta) (bt n f ma) := by
  intro σ H F θ s Q b p
  refine ha σ H F θ s _ b (PoR.bind p ?_)
  rintro ⟨x, s1⟩ H1 F1 θ1 _ st1 p1 b1 v r1
  dsimp only at p1 b1 r1 ⊢
  split at p1
  · rename_i hp
    rw [List.append_nil]
    refine ⟨F1, [], x, [], Now.nil b1.now.fh, r1.pure hp.1, hp.2, ?_⟩
    split at p1
    · rename_i d O1 e
      rw [e]
      intro v H2 F2 θ2 st2 n2 rv
      split at p1
      · rename_i pd
        obtain ⟨st3, b3⟩ := b1.called st2 n2
        exact p1 H2 F2 θ1 st3 b3 v (rv.pure pd)
      · exact False.elim p1
    · exact False.elim p1
  · exact False.elim p1
end
end M
set_option maxRecDepth 100000
set_option maxHeartbeats 4000000
namespace M
open PySem PySem.Spec PyProof.Rows L2
section
variable {C : Ct}
theorem cV {σ : L2.St} {H F : Hp} {θ : List Addr} {s : S} {d : D} {Q : VK} (p : PoE C σ H F θ ((Res.ok d).bind fun d => .ok (d, s)) Q) (b : BS C.K C.ca σ H F θ s) {v : V} (r : Rep C.K C.ca θ F d v) : Q v H := p H F θ .refl b v r
theorem pA {σ : L2.St} {H F : Hp} {θ : List Addr} {s : S} {ds : List D} {Q : VK} (p : PoE C σ H F θ ((Res.ok (D.lst ds)).bind fun d => .ok (d, s)) Q) (b : BS C.K C.ca σ H F θ s) {xs : List V} (r : au C.K C.ca θ F ds xs) :
    ∀ q, H q = none → Q (.ref q) (upd H q (.lst xs)) := fun q hq => by
  obtain ⟨st, b2, sF, e⟩ := b.newF hq (.lst xs)
  refine p _ _ _ st b2 _ ?_
  unfold Rep
  exact ⟨q, xs, rfl, SqL.of e, r.mono sF ⟨[], by simp⟩⟩
def lsD (O : aw) : D → Option (List D)
  | .lst ds => some ds
  | .ptr k => match O[k]? with
    | some (.lst ds) => some ds
    | _ => none
  | _ => none
@[simp] theorem nX {O : aw} {ds : List D} : lsD O (.lst ds) = some ds := rfl
theorem gL {σ : L2.St} {H F : Hp} {θ : List Addr} {s : S} {d : D} {ds : List D} {v : V} (b : BS C.K C.ca σ H F θ s) (r : Rep C.K C.ca θ F d v) (e : lsD s.o d = some ds) : ∃ a xs, v = .ref a ∧ SqL C.K H a xs ∧ au C.K C.ca θ F ds xs := by
  cases d <;> first | (simp [lsD] at e; done) | skip
  · cases e
    unfold Rep at r
    obtain ⟨a, xs, rfl, hs, hr⟩ := r
    exact ⟨a, xs, rfl, b.now.fh.seq hs, hr⟩
  · rename_i k
    unfold Rep at r
    obtain ⟨a, rfl, hk⟩ := r
    unfold lsD at e
    dsimp only at e
    split at e
    · rename_i ds' ek
      cases e
      obtain ⟨_, xs, h1, h2⟩ : ir C.K C.ca H F θ a (.lst ds) := b.now.ce k a _ hk ek
      exact ⟨a, xs, rfl, SqL.of h1, h2⟩
    · cases e
theorem sR {σ : L2.St} {H F : Hp} {θ : List Addr} {s : S} {ds : List D} {v : V} (b : BS C.K C.ca σ H F θ s) (r : Rep C.K C.ca θ F (.tup ds) v) : ∃ a xs, v = .ref a ∧ SqT C.K H a xs ∧ au C.K C.ca θ F ds xs := by
  unfold Rep at r
  obtain ⟨a, xs, rfl, hs, hr⟩ := r
  exact ⟨a, xs, rfl, bc.seqT b.now.fh hs, hr⟩
def intD (g : Int → Int → Res D) : Op2 := fun _ x y => match x, y with
  | .int i, .int j => g i j
  | _, _ => .bad
theorem pj {g : Int → Int → V} {f : Int → Int → D} (h : ∀ K ca θ F i j, Rep K ca θ F (f i j) (g i j)) : fC C (rI0 g) (intD fun i j => .ok (f i j)) := by
  intro σ H F θ s x y v w Q b rx ry p
  unfold intD at p
  split at p
  · rename_i i j
    exact ⟨i, j, aW.mp rx, aW.mp ry, cV p b (h ..)⟩
  · exact False.elim p
open Classical in
noncomputable def qP (c : Int → Int → Prop) (f : Int → Int → D) : Op2 := intD fun i j => if c i j then .ok (f i j) else .bad
theorem sq {c : Int → Int → Prop} {g : Int → Int → V} {f : Int → Int → D} (h : ∀ K ca θ F i j, Rep K ca θ F (f i j) (g i j)) : fC C (rI c g) (qP c f) := by
  intro σ H F θ s x y v w Q b rx ry p
  unfold qP intD at p
  split at p
  · rename_i i j
    dsimp only at p
    split at p
    · rename_i hc
      exact ⟨i, j, aW.mp rx, aW.mp ry, hc, cV p b (h ..)⟩
    · exact False.elim p
  · exact False.elim p
def m5 : Op2 := intD fun i j => .ok (.int (i - j))
noncomputable def iR : Op2 := qP IntMulOk fun i j => .int (i * j)
noncomputable def bK : Op2 := qP (fun i j => j ≠ 0) fun i j => .int (i.fdiv j)
noncomputable def aY : Op2 := qP (fun _ j => j ≠ 0) fun i j => .int (i.fmod j)
noncomputable def iX : Op2 := qP za fun i j => .int (i ^ j.toNat)
def ltD : Op2 := intD fun i j => .ok (.bl (decide (i < j)))
def leD : Op2 := intD fun i j => .ok (.bl (decide (i ≤ j)))
def gtD : Op2 := intD fun i j => .ok (.bl (decide (j < i)))
def geD : Op2 := intD fun i j => .ok (.bl (decide (j ≤ i)))
def kM : Op1 := fun _ x => match x with
  | .int i => .ok (.int (-i))
  | _ => .bad
section
variable {X : Cx}
theorem kx : OpR X (binaryOp .Mult) (rI IntMulOk fun i j => .int (i * j)) := opI fun _ _ _ _ _ _ _ hc q => mul_int q hc
theorem dy (hd : X.A.depth + 100 < recursionLimit) (ht : X.prog.given.tree = none) (hs : ∃ env l, X.stack = env :: l ∧ env.scope.isGenerator = false ∧ env.scope.isCoroutine = false ∧ env.builtins = builtinsNs ∧ env.globals = mainGlobals) :
    OpR X (binaryOp .FloorDiv) (rI (fun i j => j ≠ 0) fun i j => .int (i.fdiv j)) := by
  intro pins s σ H x y v u Q I rx ry h
  obtain ⟨i, j, rfl, rfl, hc, q⟩ := h
  obtain ⟨t, rfl⟩ := rx
  obtain ⟨t', rfl⟩ := ry
  obtain ⟨env, l, e, h1, h2, h3, h4⟩ := hs
  exact floordiv_int hc ⟨.int _, H, I.tok _, ⟨_, rfl⟩, q⟩ (.inr (PylongRoom.of I.nolimit hd (SeerAt.of I.noseer ht (I.ok.frames.trans (by rw [e])) h1 h2 h3 h4)))
def w4 (K : PySem.W.Frag) : R2 := fun x y H Q => rI0 (fun i j => .int (i + j)) x y H Q ∨ (∃ i j, x = .str i ∧ y = .str j ∧ i.length + j.length ≤ sizeLine ∧ Q (.str (i ++ j)) H) ∨ AB K x y H Q
theorem ck : OpR X (binaryOp .Add) (w4 X.K) := Dw.or (wo.or AY)
end
def EV : Op2 := intD fun i j => .ok (.int (i + j))
def aX : Op2 := fun O x y => match x, y with
  | .int i, .int j => .ok (.int (i + j))
  | .str a, .str b => if a.length + b.length ≤ 16777216 then .ok (.str (a ++ b)) else .bad
  | x, y => match lsD O x, lsD O y with
    | some a, some b => if a.length + b.length ≤ 16777216 then .ok (.lst (a ++ b)) else .bad
    | _, _ => .bad
theorem bU : fC C (w4 C.K) aX := by
  intro σ H F θ s x y v w Q b rx ry p
  have lists : ∀ {a c : List D}, lsD s.o x = some a → lsD s.o y = some c → PoE C σ H F θ ((if a.length + c.length ≤ 16777216 then Res.ok (D.lst (a ++ c)) else .bad).bind fun d => .ok (d, s)) Q → w4 C.K v w H Q := fun {a c} e1 e2 p => by
    split at p
    · rename_i hl
      obtain ⟨l1, xs, rfl, s1, r1⟩ := gL b rx e1
      obtain ⟨l2, ys, rfl, s2, r2⟩ := gL b ry e2
      exact .inr (.inr ⟨l1, l2, xs, ys, rfl, rfl, s1, s2, by rw [r1.length, r2.length]; exact hl, pA p b (r1.append r2)⟩)
    · exact False.elim p
  unfold aX at p
  split at p
  · rename_i i j
    exact .inl ⟨i, j, aW.mp rx, aW.mp ry, cV p b (aW.mpr rfl)⟩
  · rename_i i j
    split at p
    · rename_i hl
      exact .inr (.inl ⟨i, j, cf.mp rx, cf.mp ry, hl, cV p b (cf.mpr rfl)⟩)
    · exact False.elim p
  · split at p
    · rename_i a c e1 e2
      exact lists e1 e2 p
    · exact False.elim p
theorem ua : fC C (rI0 fun i j => .int (i - j)) m5 := pj fun _ _ _ _ _ _ => aW.mpr rfl
theorem jt : fC C (rI IntMulOk fun i j => .int (i * j)) iR := sq fun _ _ _ _ _ _ => aW.mpr rfl
theorem cJ : fC C (rI (fun i j => j ≠ 0) fun i j => .int (i.fdiv j)) bK := sq fun _ _ _ _ _ _ => aW.mpr rfl
theorem bT : fC C (rI (fun _ j => j ≠ 0) fun i j => .int (i.fmod j)) aY := sq fun _ _ _ _ _ _ => aW.mpr rfl
theorem nA : fC C (rI za fun i j => .int (i ^ j.toNat)) iX := sq fun _ _ _ _ _ _ => aW.mpr rfl
theorem nY : fC C (rI0 fun i j => .bl (decide (i < j))) ltD := pj fun _ _ _ _ _ _ => bO.mpr rfl
theorem pQ : fC C (rI0 fun i j => .bl (decide (j < i))) gtD := pj fun _ _ _ _ _ _ => bO.mpr rfl
theorem EE : fC C (rI0 fun i j => .bl (decide (j ≤ i))) geD := pj fun _ _ _ _ _ _ => bO.mpr rfl
theorem sZ : CD C (rU fun i => .int (-i)) kM := by
  intro σ H F θ s x v Q b rx p
  unfold kM at p
  split at p
  · rename_i i
    exact ⟨i, aW.mp rx, cV p b (aW.mpr rfl)⟩
  · exact False.elim p
mutual
def toPy : D → Option PyData
  | .non => some .none
  | .bl b => some (.bool b)
  | .int i => some (.int i)
  | .str x => some (.str x)
  | .lst ds => (hZ ds).map .list
  | .tup ds => (hZ ds).map .tuple
  | .ptr _ => none
  | .obj _ _ _ => none
  | .exn _ => none
def hZ : List D → Option (List PyData)
  | [] => some []
  | d :: ds => match toPy d, hZ ds with
    | some a, some b => some (a :: b)
    | _, _ => none
end
mutual
def res (O : aw) : D → D
  | .lst ds => .lst (bI O ds)
  | .tup ds => .tup (bI O ds)
  | .ptr k => match O[k]? with
    | some (.lst ds) => .lst ds
    | _ => .ptr k
  | .non => .non
  | .bl b => .bl b
  | .int i => .int i
  | .str x => .str x
  | .obj c ns ds => .obj c ns ds
  | .exn c => .exn c
def bI (O : aw) : List D → List D
  | [] => []
  | d :: ds => res O d :: bI O ds
end
section
variable {K : PySem.W.Frag} {ca : Nat → Addr} {H F G : Hp} {θ : List Addr} {O : aw}
mutual
theorem qW (n : Now K ca H F θ O) (hF : bc F G) (hG : bc G H) : ∀ {d : D} {v : V}, Rep K ca θ G d v → Rep K ca θ H (res O d) v
  | .non, _, h => by unfold res; exact h
  | .bl _, _, h => by unfold res; exact h
  | .int _, _, h => by unfold res; exact h
  | .str _, _, h => by unfold res; exact h
  | .lst ds, _, h => by
    unfold res
    unfold Rep at h ⊢
    obtain ⟨a, xs, e, hs, hr⟩ := h
    exact ⟨a, xs, e, hG.seq hs, ka n hF hG hr⟩
  | .tup ds, _, h => by
    unfold res
    unfold Rep at h ⊢
    obtain ⟨a, xs, e, hs, hr⟩ := h
    exact ⟨a, xs, e, bc.seqT hG hs, ka n hF hG hr⟩
  | .ptr k, v, h => by
    unfold res
    split
    · rename_i ds e
      unfold Rep at h ⊢
      obtain ⟨a, ev, hk⟩ := h
      obtain ⟨_, xs, h1, h2⟩ : ir K ca H F θ a (.lst ds) := n.ce k a _ hk e
      exact ⟨a, xs, ev, SqL.of h1, h2.mono n.fh ⟨[], by simp⟩⟩
    · exact h.mono hG ⟨[], by simp⟩
  | .obj c ns ds, _, h => by unfold res; exact h.mono hG ⟨[], by simp⟩
  | .exn c, _, h => by unfold res; exact h.mono hG ⟨[], by simp⟩
theorem ka (n : Now K ca H F θ O) (hF : bc F G) (hG : bc G H) : ∀ {ds : List D} {xs : List V}, au K ca θ G ds xs → au K ca θ H (bI O ds) xs
  | [], _, h => by unfold bI; exact h
  | d :: ds, _, h => by
    unfold bI
    unfold au at h ⊢
    obtain ⟨v, r, e, h1, h2⟩ := h
    exact ⟨v, r, e, qW n hF hG h1, ka n hF hG h2⟩
end
mutual
theorem qS : ∀ {d : D} {v : V} {p : PyData}, Rep K ca θ H d v → toPy d = some p → RdV K H p v
  | .non, _, _, h, e => by unfold toPy at e; cases e; unfold RdV; exact fE.mp h
  | .bl b, _, _, h, e => by unfold toPy at e; cases e; unfold RdV; exact bO.mp h
  | .int b, _, _, h, e => by unfold toPy at e; cases e; unfold RdV; exact aW.mp h
  | .str b, _, _, h, e => by unfold toPy at e; cases e; unfold RdV; exact cf.mp h
  | .lst ds, _, _, h, e => by
    unfold toPy at e
    cases e1 : hZ ds with
    | none => rw [e1] at e; cases e
    | some ps =>
      rw [e1] at e
      cases e
      unfold Rep at h
      obtain ⟨a, xs, ev, hs, hr⟩ := h
      unfold RdV
      exact ⟨a, xs, ev, hs, oQ hr e1⟩
  | .tup ds, _, _, h, e => by
    unfold toPy at e
    cases e1 : hZ ds with
    | none => rw [e1] at e; cases e
    | some ps =>
      rw [e1] at e
      cases e
      unfold Rep at h
      obtain ⟨a, xs, ev, hs, hr⟩ := h
      unfold RdV
      exact ⟨a, xs, ev, hs, oQ hr e1⟩
  | .ptr _, _, _, _, e => by unfold toPy at e; cases e
  | .obj _ _ _, _, _, _, e => by unfold toPy at e; cases e
  | .exn _, _, _, _, e => by unfold toPy at e; cases e
theorem oQ : ∀ {ds : List D} {xs : List V} {ps : List PyData}, au K ca θ H ds xs → hZ ds = some ps → lK K H ps xs
  | [], _, _, h, e => by unfold hZ at e; cases e; unfold lK; unfold au at h; exact h
  | d :: ds, _, _, h, e => by
    unfold hZ at e
    cases e1 : toPy d with
    | none => rw [e1] at e; cases e
    | some p =>
      cases e2 : hZ ds with
      | none => rw [e1, e2] at e; cases e
      | some ps =>
        rw [e1, e2] at e
        cases e
        unfold au at h
        obtain ⟨v, r, ev, h1, h2⟩ := h
        unfold lK
        exact ⟨v, r, ev, qS h1 e1, oQ h2 e2⟩
end
end
def gj (O : aw) (x y : D) : Option Bool := match toPy (res O (res O x)), toPy (res O (res O y)) with
  | some a, some b => if SeqAt.shaped a = true ∧ SeqAt.shaped b = true then some (PyData.eqv a b) else none
  | _, _ => none
def eqB (O : aw) (x y : D) : Option Bool := match x, y with
  | .int i, .int j => some (decide (i = j))
  | .str i, .str j => some (decide (i = j))
  | .bl i, .bl j => some (decide (i = j))
  | .non, .non => some true
  | x, y => gj O x y
def eqD : Op2 := fun O x y => match eqB O x y with
  | some b => .ok (.bl b)
  | none => .bad
def neD : Op2 := fun O x y => match eqB O x y with
  | some b => .ok (.bl (!b))
  | none => .bad
section
variable {X : Cx}
def DO (K : PySem.W.Frag) : R2 := fun x y H Q => rEq x y H Q ∨ Di K x y H Q
def DX (K : PySem.W.Frag) : R2 := fun x y H Q => rNe x y H Q ∨ DS K x y H Q
theorem kK (hu : X.A.units + 64 < cLine) : OpR X (compareOp .Eq) (DO X.K) := Ew.or (CT hu)
theorem Fl (hu : X.A.units + 64 < cLine) : OpR X (compareOp .NotEq) (DX X.K) := Ez.or (C3 hu)
end
theorem rB {σ : L2.St} {H F : Hp} {θ : List Addr} {s : S} {x y : D} {v w : V} {k : Bool} (b : BS C.K C.ca σ H F θ s) (rx : Rep C.K C.ca θ F x v) (ry : Rep C.K C.ca θ F y w) (e : gj s.o x y = some k) :
    ∃ d e, RdV C.K H d v ∧ RdV C.K H e w ∧ SeqAt.shaped d = true ∧ SeqAt.shaped e = true ∧ PyData.eqv d e = k := by
  unfold gj at e
  split at e
  · rename_i a c e1 e2
    split at e
    · rename_i hs
      cases e
      have rr : ∀ {d : D} {u : V}, Rep C.K C.ca θ F d u → Rep C.K C.ca θ H (res s.o (res s.o d)) u := fun h => qW b.now b.now.fh (bc.refl _) (qW b.now (bc.refl _) b.now.fh h)
      exact ⟨a, c, qS (rr rx) e1, qS (rr ry) e2, hs.1, hs.2, rfl⟩
    · cases e
  · cases e
theorem jo : fC C (DO C.K) eqD := by
  intro σ H F θ s x y v w Q b rx ry p
  unfold eqD at p
  split at p
  · rename_i k e
    have q := fun H' (h : H' = H) => h ▸ cV p b (v := .bl k) (bO.mpr rfl)
    have q := q H rfl
    unfold eqB at e
    split at e
    · rename_i i j
      cases e
      cases aW.mp rx; cases aW.mp ry
      exact .inl ⟨rfl, by rw [n9, Bool.beq_eq_decide_eq]; exact q⟩
    · cases e
      cases cf.mp rx; cases cf.mp ry
      exact .inl ⟨rfl, by rw [n6, Bool.beq_eq_decide_eq]; exact q⟩
    · cases e
      cases bO.mp rx; cases bO.mp ry
      exact .inl ⟨rfl, by rw [pJ, Bool.beq_eq_decide_eq]; exact q⟩
    · cases e
      cases fE.mp rx; cases fE.mp ry
      exact .inl ⟨rfl, by simpa using q⟩
    · obtain ⟨d, e', h1, h2, h3, h4, h5⟩ := rB b rx ry e
      exact .inr ⟨d, e', h1, h2, h3, h4, by rw [h5]; exact q⟩
  · exact False.elim p
theorem ED : fC C (DX C.K) neD := by
  intro σ H F θ s x y v w Q b rx ry p
  unfold neD at p
  split at p
  · rename_i k e
    have q := cV p b (v := .bl (!k)) (bO.mpr rfl)
    unfold eqB at e
    split at e
    · rename_i i j
      cases e
      cases aW.mp rx; cases aW.mp ry
      exact .inl ⟨rfl, by rw [n9, Bool.beq_eq_decide_eq]; exact q⟩
    · cases e
      cases cf.mp rx; cases cf.mp ry
      exact .inl ⟨rfl, by rw [n6, Bool.beq_eq_decide_eq]; exact q⟩
    · cases e
      cases bO.mp rx; cases bO.mp ry
      exact .inl ⟨rfl, by rw [pJ, Bool.beq_eq_decide_eq]; exact q⟩
    · cases e
      cases fE.mp rx; cases fE.mp ry
      exact .inl ⟨rfl, by simpa using q⟩
    · obtain ⟨d, e', h1, h2, h3, h4, h5⟩ := rB b rx ry e
      exact .inr ⟨d, e', h1, h2, h3, h4, by rw [h5]; exact q⟩
  · exact False.elim p
def ixD : Op2 := fun O x y => match y with
  | .int i => match x with
    | .tup ds => match atI ds i with
      | some d => .ok d
      | none => .bad
    | .str z => if z.length ≤ 16777216 then (match atI z.cps.toList i with
      | some c => .ok (.str ⟨#[c]⟩)
      | none => .bad) else .bad
    | x => match lsD O x with
      | some ds => match atI ds i with
        | some d => .ok d
        | none => .bad
      | none => .bad
  | _ => .bad
theorem vz {K ca θ F} {ds : List D} {xs : List V} {i : Int} {d : D} (r : au K ca θ F ds xs) (e : atI ds i = some d) : ∃ v, atI xs i = some v ∧ Rep K ca θ F d v := by
  unfold atI at e ⊢
  rw [r.length]
  cases q : ixN ds.length i with
  | none => rw [q] at e; cases e
  | some j =>
    rw [q] at e
    exact r.get e
theorem g8 : fC C (rIx C.K) ixD := by
  intro σ H F θ s x y v w Q b rx ry p
  unfold ixD at p
  split at p
  · rename_i i
    split at p
    · rename_i ds
      obtain ⟨a, xs, rfl, hs, hr⟩ := sR b rx
      split at p
      · rename_i d e
        obtain ⟨u, e1, r1⟩ := vz hr e
        exact .inr (.inl ⟨a, xs, i, u, rfl, aW.mp ry, hs, e1, cV p b r1⟩)
      · exact False.elim p
    · rename_i z
      split at p
      · rename_i hz
        split at p
        · rename_i c e
          exact .inr (.inr ⟨z, i, c, cf.mp rx, aW.mp ry, hz, e, cV p b (cf.mpr rfl)⟩)
        · exact False.elim p
      · exact False.elim p
    · split at p
      · rename_i ds e0
        obtain ⟨a, xs, rfl, hs, hr⟩ := gL b rx e0
        split at p
        · rename_i d e
          obtain ⟨u, e1, r1⟩ := vz hr e
          exact .inl ⟨a, xs, i, u, rfl, aW.mp ry, hs, e1, cV p b r1⟩
        · exact False.elim p
      · exact False.elim p
  · exact False.elim p
abbrev OM := S → Res (Option Int × S)
def RdO (C : Ct) (t : TO) (m : OM) : Prop := ∀ σ H F θ s Q, BS C.K C.ca σ H F θ s → PoR C H F θ (m s) (fun y H1 F1 θ1 => BS C.K C.ca σ H1 F1 θ1 y.2 → Q y.1 H1) → t σ H Q
def bh : OM := fun s => .ok (none, s)
def part (m : EM) : OM := fun s => (m s).bind fun x => match x.1 with
  | .int i => .ok (some i, x.2)
  | _ => .bad
theorem cU : RdO C vY bh := fun σ H F θ s Q b p => p H F θ .refl b
theorem dz {t : TE} {m : EM} (h : RdE C t m) : RdO C (AA t) (part m) := by
  intro σ H F θ s Q b p
  refine h σ H F θ s _ b (PoR.bind p ?_)
  rintro ⟨x, s1⟩ H1 F1 θ1 _ st1 p1 b1 v r1
  cases x <;> first | exact False.elim p1 | skip
  rename_i i _
  exact ⟨i, aW.mp r1, p1 _ _ _ .refl b1⟩
def cutD (ds : List D) (lo hi : Option Int) : List D := (ds.drop (HT.sIx ds.length 0 lo)).take (HT.sIx ds.length ds.length hi - HT.sIx ds.length 0 lo)
theorem B9 {K ca θ F} {ds : List D} {xs : List V} {lo hi : Option Int} (r : au K ca θ F ds xs) : au K ca θ F (cutD ds lo hi) (qx xs lo hi) := by
  unfold cutD qx
  rw [r.length]
  exact (r.drop _).take _
def slM (me : EM) (ml mh : OM) : EM := fun s => (me s).bind fun x => (ml x.2).bind fun l => (mh l.2).bind fun h => match lsD h.2.o x.1 with
  | some ds => .ok (.lst (cutD ds l.1 h.1), h.2)
  | none => .bad
theorem iU {te : TE} {tl th : TO} {me : EM} {ml mh : OM} (he : RdE C te me) (hl : RdO C tl ml) (hh : RdO C th mh) : RdE C (tSl (DD C.K) te tl th) (slM me ml mh) := by
  intro σ H F θ s Q b p
  refine he σ H F θ s _ b (PoR.bind p ?_)
  rintro ⟨x, s1⟩ H1 F1 θ1 _ st1 p1 b1 v r1
  refine hl σ H1 F1 θ1 s1 _ b1 (PoR.bind p1 ?_)
  rintro ⟨l, s2⟩ H2 F2 θ2 _ st2 p2 b2
  refine hh σ H2 F2 θ2 s2 _ b2 (PoR.bind p2 ?_)
  rintro ⟨h, s3⟩ H3 F3 θ3 _ st3 p3 b3
  dsimp only at p3 ⊢
  split at p3
  · rename_i ds e
    obtain ⟨a, xs, rfl, hs, hr⟩ := gL b3 ((r1.mono st2.ff st2.pre).mono st3.ff st3.pre) e
    exact ⟨a, xs, rfl, hs, pA (ds := cutD ds l h) p3 b3 (B9 hr)⟩
  · exact False.elim p3
def dg : OpN := fun O xs => match xs with
  | [.str z] => if z.length ≤ 16777216 then .ok (.int z.length) else .bad
  | [.tup ds] => .ok (.int ds.length)
  | [x] => match lsD O x with
    | some ds => .ok (.int ds.length)
    | none => .bad
  | _ => .bad
theorem jK {K ca θ F} {x : D} {vs : List V} (h : au K ca θ F [x] vs) : ∃ v, vs = [v] ∧ Rep K ca θ F x v := by
  unfold au at h
  obtain ⟨v, r, rfl, h1, h2⟩ := h
  unfold au at h2
  rw [h2]
  exact ⟨v, rfl, h1⟩
theorem Ep {K ca θ F} {x y : D} {vs : List V} (h : au K ca θ F [x, y] vs) : ∃ v w, vs = [v, w] ∧ Rep K ca θ F x v ∧ Rep K ca θ F y w := by
  unfold au at h
  obtain ⟨v, r, rfl, h1, h2⟩ := h
  obtain ⟨w, rfl, h3⟩ := jK h2
  exact ⟨v, w, rfl, h1, h3⟩
theorem gZ : iW C (fun xs H Q => ∃ x n, xs = [x] ∧ Cq C.K x H n ∧ Q (.int n) H) dg := by
  intro σ H F θ s xs vs Q b r p
  unfold dg at p
  split at p
  · rename_i z
    obtain ⟨v, rfl, r1⟩ := jK r
    cases cf.mp r1
    split at p
    · rename_i hz
      exact ⟨.str z, z.length, rfl, ⟨hz, rfl⟩, cV p b (aW.mpr rfl)⟩
    · exact False.elim p
  · rename_i ds
    obtain ⟨v, rfl, r1⟩ := jK r
    obtain ⟨a, xs, rfl, hs, hr⟩ := sR b r1
    exact ⟨.ref a, ds.length, rfl, .inr ⟨xs, hs, by rw [hr.length]⟩, cV p b (aW.mpr rfl)⟩
  · rename_i x _ _
    obtain ⟨v, rfl, r1⟩ := jK r
    split at p
    · rename_i ds e
      obtain ⟨a, xs, rfl, hs, hr⟩ := gL b r1 e
      exact ⟨.ref a, ds.length, rfl, .inl ⟨xs, hs, by rw [hr.length]⟩, cV p b (aW.mpr rfl)⟩
    · exact False.elim p
  · exact False.elim p
def de : OpN := fun O xs => match xs with
  | [.tup ds] => .ok (.lst ds)
  | [x] => match lsD O x with
    | some ds => .ok (.lst ds)
    | none => .bad
  | _ => .bad
theorem et : iW C (fun xs H Q => ∃ p ys, xs = [.ref p] ∧ (SqL C.K H p ys ∨ SqT C.K H p ys) ∧ ∀ l, H l = none → Q (.ref l) (upd H l (.lst ys))) de := by
  intro σ H F θ s xs vs Q b r p
  unfold de at p
  split at p
  · rename_i ds
    obtain ⟨v, rfl, r1⟩ := jK r
    obtain ⟨a, xs, rfl, hs, hr⟩ := sR b r1
    exact ⟨a, xs, rfl, .inr hs, pA p b hr⟩
  · obtain ⟨v, rfl, r1⟩ := jK r
    split at p
    · rename_i ds e
      obtain ⟨a, xs, rfl, hs, hr⟩ := gL b r1 e
      exact ⟨a, xs, rfl, .inl hs, pA p b hr⟩
    · exact False.elim p
  · exact False.elim p
def Fd : OpN := fun _ xs => match xs with
  | [.int i] => .ok (.int (if i < 0 then -i else i))
  | _ => .bad
def intOf : OpN := fun _ xs => match xs with
  | [.int i] => .ok (.int i)
  | [.bl k] => .ok (.int (if k then 1 else 0))
  | _ => .bad
def tyD (O : aw) : D → Option String
  | .non => some "NoneType"
  | .bl _ => some "bool"
  | .int _ => some "int"
  | .str _ => some "str"
  | .lst _ => some "list"
  | .tup _ => some "tuple"
  | .ptr k => match O[k]? with
    | some (.lst _) => some "list"
    | _ => none
  | .obj _ _ _ => none
  | .exn _ => none
def dO (t c : String) : Bool := t == c || (t == "bool" && c == "int")
def jB (c : String) : Op1 := fun O x => match tyD O x with
  | some t => .ok (.bl (dO t c))
  | none => .bad
def qK (c : String) : Prop := ∀ K : PySem.W.Frag, ∀ t ∈ ["NoneType", "bool", "int", "str", "list", "tuple"], PySem.W.kitOne K (.type t) (.type c) = some (dO t c)
theorem ty_int : qK "int" := by
  intro K t ht
  simp only [List.mem_cons, List.mem_nil_iff, or_false] at ht
  rcases ht with rfl | rfl | rfl | rfl | rfl | rfl <;> rfl
theorem ty_bool : qK "bool" := by
  intro K t ht
  simp only [List.mem_cons, List.mem_nil_iff, or_false] at ht
  rcases ht with rfl | rfl | rfl | rfl | rfl | rfl <;> rfl
theorem yq {c : String} {te : TE} {m : EM} (hc : qK c) (h : RdE C te m) : RdE C (tCB (zE C.K) (gJ te (gJ (tC (.ty c)) kL))) (unM (jB c) m) := by
  intro σ H F θ s Q b p
  refine h σ H F θ s _ b (PoR.bind p ?_)
  rintro ⟨x, s1⟩ H1 F1 θ1 _ st1 p1 b1 v r1
  dsimp only at p1 b1 r1
  show zE C.K [v, .ty c] H1 Q
  unfold jB at p1
  split at p1
  · rename_i t e
    have q := cV p1 b1 (v := .bl (dO t c)) (bO.mpr rfl)
    refine ⟨v, c, t, dO t c, rfl, ?_, ?_, q⟩
    · cases x <;> first | (unfold tyD at e; cases e; done) | skip
      · unfold tyD at e; cases e; rw [fE.mp r1]; rfl
      · unfold tyD at e; cases e; rw [bO.mp r1]; rfl
      · unfold tyD at e; cases e; rw [aW.mp r1]; rfl
      · unfold tyD at e; cases e; rw [cf.mp r1]; rfl
      · unfold tyD at e; cases e
        unfold Rep at r1
        obtain ⟨a, xs, rfl, hs, hr⟩ := r1
        exact .inl ⟨rfl, xs, b1.now.fh.seq hs⟩
      · unfold tyD at e; cases e
        unfold Rep at r1
        obtain ⟨a, xs, rfl, hs, hr⟩ := r1
        exact .inr ⟨rfl, xs, bc.seqT b1.now.fh hs⟩
      · rename_i k _
        unfold tyD at e
        dsimp only at e
        split at e
        · rename_i ds ek
          cases e
          obtain ⟨a, xs, rfl, hs, hr⟩ := gL b1 r1 (ds := ds) (by unfold lsD; simp only [ek])
          exact .inl ⟨rfl, xs, hs⟩
        · cases e
    · refine hc C.K t ?_
      cases x <;> unfold tyD at e <;> dsimp only at e <;> first | (cases e; simp; done) | (cases e; done) | skip
      split at e
      · cases e; simp
      · cases e
  · exact False.elim p1
theorem lV {α : Type} {l : List α} (h : l.Nodup) {i j : Nat} {x : α} (a : l[i]? = some x) (b : l[j]? = some x) : i = j := by
  obtain ⟨h1, e1⟩ := List.getElem?_eq_some_iff.mp a
  obtain ⟨h2, e2⟩ := List.getElem?_eq_some_iff.mp b
  exact (List.getElem_inj h).mp (e1.trans e2.symm)
theorem BS.setC {K : PySem.W.Frag} {ca : Nat → Addr} {σ : L2.St} {H F : Hp} {θ : List Addr} {s : S} (b : BS K ca σ H F θ s) {k : Nat} {a : Addr} {c : Cell} (hk : θ[k]? = some a) (hc : s.o[k]? = some c) (hF : F a = none) {ds : List D} {xs : List V} (hr : au K ca θ F ds xs) :
    Stp H F θ (upd H a (.lst xs)) F θ ∧ BS K ca σ (upd H a (.lst xs)) F θ ⟨s.r, s.o.set k (.lst ds)⟩ := by
  have hm : a ∈ θ := List.mem_of_getElem? hk
  refine ⟨⟨bc.refl _, ⟨[], by simp, by simp⟩, fun e o he hb => ?_, fun e o he => ?_, fun e o he => .inl he⟩, ⟨⟨fun e o he => ?_, b.now.nd, by simpa using b.now.ln, fun j a' c' e1 e2 => ?_⟩, b.len, b.sl⟩⟩
  · have ne : e ≠ a := fun z => hb (by rw [z]; exact hm)
    rw [aG ne]; exact he
  · by_cases z : e = a
    · subst z; exact ⟨_, bP⟩
    · exact ⟨o, by rw [aG z]; exact he⟩
  · have ne : e ≠ a := fun z => by rw [z, hF] at he; cases he
    rw [aG ne]
    exact b.now.fh _ _ he
  · by_cases hj : k = j
    · subst hj
      rw [hk] at e1; cases e1
      have : k < s.o.length := (List.getElem?_eq_some_iff.mp hc).1
      rw [List.getElem?_set_self this] at e2
      cases e2
      exact ⟨hF, xs, bP, hr⟩
    · rw [List.getElem?_set_ne hj] at e2
      have q := b.now.ce j a' c' e1 e2
      have ne : a' ≠ a := fun z => by
        subst z
        exact hj (lV b.now.nd hk e1)
      cases c' with
      | dead => obtain ⟨o, ho⟩ := q; exact ⟨o, by rw [aG ne]; exact ho⟩
      | lst ds => obtain ⟨q1, ys, q2, q3⟩ := q; exact ⟨q1, ys, by rw [aG ne]; exact q2, q3⟩
      | ins c ns ds => obtain ⟨q1, dx, ys, q2, q3⟩ := q; exact ⟨q1, dx, ys, by rw [aG ne]; exact q2, q3⟩
theorem lu {σ : L2.St} {H F : Hp} {θ : List Addr} {s : S} {k : Nat} {ds : List D} {v : V} (b : BS C.K C.ca σ H F θ s) (r : Rep C.K C.ca θ F (.ptr k) v) (e : s.o[k]? = some (.lst ds)) :
    ∃ a xs, v = .ref a ∧ θ[k]? = some a ∧ F a = none ∧ H a = some (.lst xs) ∧ au C.K C.ca θ F ds xs := by
  unfold Rep at r
  obtain ⟨a, rfl, hk⟩ := r
  obtain ⟨h0, xs, h1, h2⟩ : ir C.K C.ca H F θ a (.lst ds) := b.now.ce k a _ hk e
  exact ⟨a, xs, rfl, hk, h0, h1, h2⟩
def ik (O : aw) : D → Option (Nat × List D)
  | .ptr k => match O[k]? with
    | some (.lst ds) => some (k, ds)
    | _ => none
  | _ => none
theorem m7 {O : aw} {d : D} {k : Nat} {ds : List D} (h : ik O d = some (k, ds)) : d = .ptr k ∧ O[k]? = some (.lst ds) := by
  cases d <;> first | (simp [ik] at h; done) | skip
  rename_i j
  unfold ik at h
  dsimp only at h
  split at h
  · rename_i es e
    cases h
    exact ⟨rfl, e⟩
  · cases h
def eE (mo me : EM) : EM := fun s => (mo s).bind fun x => match ik x.2.o x.1 with
  | some _ => (me x.2).bind fun y => match ik y.2.o x.1 with
    | some (k, ds) => if ds.length < 16777216 then .ok (.non, ⟨y.2.r, y.2.o.set k (.lst (ds ++ [y.1]))⟩) else .bad
    | none => .bad
  | none => .bad
theorem gU {to te : TE} {mo me : EM} (ho : RdE C to mo) (he : RdE C te me) : RdE C (tBM C.K "list" vC to (gJ te kL)) (eE mo me) := by
  intro σ H F θ s Q b p
  refine ho σ H F θ s _ b (PoR.bind p ?_)
  rintro ⟨x, s1⟩ H1 F1 θ1 _ st1 p1 b1 v r1
  dsimp only at p1 b1 r1
  split at p1
  · rename_i kd e
    obtain ⟨rfl, e'⟩ := m7 (k := kd.1) (ds := kd.2) e
    obtain ⟨a, xs, rfl, hk, _, h1, _⟩ := lu b1 r1 e'
    refine ⟨.inl ⟨rfl, xs, SqL.of h1⟩, he σ H1 F1 θ1 s1 _ b1 (PoR.bind p1 ?_)⟩
    rintro ⟨y, s2⟩ H2 F2 θ2 _ st2 p2 b2 w r2
    dsimp only at p2 b2 r2
    split at p2
    · rename_i k ds e2
      obtain ⟨ek, e2⟩ := m7 e2
      cases ek
      obtain ⟨a', ys, ea, hk2, hF, h2, hr⟩ := lu b2 (r1.mono st2.ff st2.pre) e2
      cases ea
      split at p2
      · rename_i hl
        obtain ⟨st3, b3⟩ := b2.setC hk2 e2 hF (hr.append (au.one r2))
        exact ⟨a, ys, w, rfl, rfl, h2, by rw [hr.length]; exact hl, p2 _ _ _ st3 b3 _ (fE.mpr rfl)⟩
      · exact False.elim p2
    · exact False.elim p2
  · exact False.elim p1
def jq (f : List D → Option (List D × D)) (mo : EM) : EM := fun s => (mo s).bind fun x => match ik x.2.o x.1 with
  | some (k, ds) => match f ds with
    | some (es, r) => .ok (r, ⟨x.2.r, x.2.o.set k (.lst es)⟩)
    | none => .bad
  | none => .bad
theorem B2 {f : List D → Option (List D × D)} {r : V → List V → Hp → VK → Prop} {to : TE} {mo : EM} (ho : RdE C to mo)
    (hr : ∀ K ca θ F ds xs es d, au K ca θ F ds xs → f ds = some (es, d) → ∃ ys v, au K ca θ F es ys ∧ Rep K ca θ F d v ∧ ∀ a (H : Hp) (Q : VK), H a = some (.lst xs) → Q v (upd H a (.lst ys)) → r (.ref a) [] H Q) :
    RdE C (Ai C.K "list" r to) (jq f mo) := by
  intro σ H F θ s Q b p
  refine ho σ H F θ s _ b (PoR.bind p ?_)
  rintro ⟨x, s1⟩ H1 F1 θ1 _ st1 p1 b1 v r1
  dsimp only at p1 b1 r1
  split at p1
  · rename_i k ds e
    obtain ⟨rfl, e'⟩ := m7 e
    obtain ⟨a, xs, rfl, hk, hF, h1, h2⟩ := lu b1 r1 e'
    split at p1
    · rename_i es d ef
      obtain ⟨ys, u, q1, q2, q3⟩ := hr _ _ _ _ _ _ _ _ h2 ef
      obtain ⟨st3, b3⟩ := b1.setC hk e' hF q1
      exact ⟨.inl ⟨rfl, xs, SqL.of h1⟩, q3 a H1 Q h1 (p1 _ _ _ st3 b3 _ q2)⟩
    · exact False.elim p1
  · exact False.elim p1
def oV : List D → Option (List D × D) := fun ds => some (ds.reverse, .non)
theorem pN {to : TE} {mo : EM} (ho : RdE C to mo) : RdE C (Ai C.K "list" uf to) (jq oV mo) := B2 ho fun K ca θ F ds xs es d r e => by
  cases e
  exact ⟨xs.reverse, .non, r.reverse, fE.mpr rfl, fun a H Q h q => ⟨a, xs, rfl, rfl, h, q⟩⟩
theorem BS.frz {K : PySem.W.Frag} {ca : Nat → Addr} {σ : L2.St} {H F : Hp} {θ : List Addr} {s : S} (b : BS K ca σ H F θ s) {k : Nat} {a : Addr} {ds : List D} {xs : List V} (hk : θ[k]? = some a) (hc : s.o[k]? = some (.lst ds)) (hF : F a = none) (hH : H a = some (.lst xs)) (hr : au K ca θ F ds xs) :
    Stp H F θ H (upd F a (.lst xs)) θ ∧ BS K ca σ H (upd F a (.lst xs)) θ ⟨s.r, s.o.set k .dead⟩ ∧ Rep K ca θ (upd F a (.lst xs)) (.lst ds) (.ref a) := by
  have hm : a ∈ θ := List.mem_of_getElem? hk
  have sF : bc F (upd F a (.lst xs)) := fun e o he => by
    rw [aG (fun z => by rw [z, hF] at he; cases he)]; exact he
  refine ⟨⟨sF, ⟨[], by simp, by simp⟩, fun e o he _ => he, fun e o he => ⟨o, he⟩, fun e o he => ?_⟩, ⟨⟨fun e o he => ?_, b.now.nd, by simpa using b.now.ln, fun j a' c' e1 e2 => ?_⟩, b.len, fun i d e => ?_⟩, ?_⟩
  · by_cases z : e = a
    · exact .inr (.inr (by rw [z]; exact hm))
    · rw [aG z] at he; exact .inl he
  · by_cases z : e = a
    · subst z; rw [bP] at he; rw [hH]; exact he
    · rw [aG z] at he; exact b.now.fh _ _ he
  · by_cases hj : k = j
    · subst hj
      rw [hk] at e1; cases e1
      have : k < s.o.length := (List.getElem?_eq_some_iff.mp hc).1
      rw [List.getElem?_set_self this] at e2
      cases e2
      exact ⟨_, hH⟩
    · rw [List.getElem?_set_ne hj] at e2
      have q := b.now.ce j a' c' e1 e2
      have ne : a' ≠ a := fun z => by
        subst z
        exact hj (lV b.now.nd hk e1)
      cases c' with
      | dead => exact q
      | lst ds => obtain ⟨q1, ys, q2, q3⟩ := q; exact ⟨by rw [aG ne]; exact q1, ys, q2, q3.mono sF ⟨[], by simp⟩⟩
      | ins c ns ds => obtain ⟨q1, dx, ys, q2, q3, q4⟩ := q; exact ⟨by rw [aG ne]; exact q1, dx, ys, q2, q3, q4.mono sF ⟨[], by simp⟩⟩
  · obtain ⟨v, h1, h2⟩ := b.sl i d e
    exact ⟨v, h1, h2.mono sF ⟨[], by simp⟩⟩
  · unfold Rep
    exact ⟨a, xs, rfl, SqL.of bP, hr.mono sF ⟨[], by simp⟩⟩
def gE (m : EM) : EM := fun s => (m s).bind fun x => match ik x.2.o x.1 with
  | some (k, ds) => .ok (.lst ds, ⟨x.2.r, x.2.o.set k .dead⟩)
  | none => .bad
theorem kc {t : TE} {m : EM} (h : RdE C t m) : RdE C t (gE m) := by
  intro σ H F θ s Q b p
  refine h σ H F θ s _ b (PoR.bind p ?_)
  rintro ⟨x, s1⟩ H1 F1 θ1 _ st1 p1 b1 v r1
  dsimp only at p1 b1 r1
  split at p1
  · rename_i k ds e
    obtain ⟨rfl, e'⟩ := m7 e
    obtain ⟨a, xs, rfl, hk, hF, h1, h2⟩ := lu b1 r1 e'
    obtain ⟨st2, b2, r2⟩ := b1.frz hk e' hF h1 h2
    exact p1 _ _ _ st2 b2 _ r2
  · exact False.elim p1
def yT (i : Nat) : EM := fun s => (af i s).bind fun x => match ik x.2.o x.1 with
  | some (k, ds) => .ok (.lst ds, ⟨x.2.r.set i (some (.lst ds)), x.2.o.set k .dead⟩)
  | none => .bad
theorem BE (i : Nat) : RdE C (uw i) (yT i) := by
  intro σ H F θ s Q b p
  unfold yT af at p
  split at p
  · rename_i d e
    obtain ⟨v, hv, r1⟩ := b.sl i d e
    refine ⟨v, hv, ?_⟩
    rw [aa] at p
    dsimp only at p
    split at p
    · rename_i k ds ek
      obtain ⟨rfl, ek'⟩ := m7 ek
      obtain ⟨a, xs, rfl, hk, hF, h1, h2⟩ := lu b r1 ek'
      obtain ⟨st2, b2, r2⟩ := b.frz hk ek' hF h1 h2
      have b3 := b2.set r2 i
      rw [show σ.set i (some (.ref a)) = σ from List.ext_getElem? fun j => by
        by_cases hj : i = j
        · subst hj
          rw [List.getElem?_set_self (List.getElem?_eq_some_iff.mp hv).1, hv]
        · rw [List.getElem?_set_ne hj]] at b3
      exact p _ _ _ st2 b3 _ r2
    · exact False.elim p
  · exact False.elim p
def lH (m : Nat) (caps : List Nat) (r : List (Option D)) : List (Option D) := List.replicate m none ++ caps.map fun i => (r[i]?).getD none
theorem CA {K : PySem.W.Frag} {ca : Nat → Addr} {σ : L2.St} {H F : Hp} {θ : List Addr} {s : S} (b : BS K ca σ H F θ s) (m : Nat) (caps : List Nat) : BS K ca (jQ m caps σ) H F θ ⟨lH m caps s.r, s.o⟩ := by
  refine ⟨b.now, by unfold jQ lH; simp, fun i d e => ?_⟩
  unfold lH at e
  dsimp only at e
  by_cases hi : i < m
  · rw [List.getElem?_append_left (by simpa using hi), List.getElem?_replicate] at e
    split at e <;> cases e
  · rw [List.getElem?_append_right (by simpa using hi)] at e
    simp only [List.length_replicate, List.getElem?_map] at e
    cases q : caps[i - m]? with
    | none => rw [q] at e; cases e
    | some j =>
      rw [q] at e
      simp only [Option.map_some, Option.some.injEq] at e
      have e' : s.r[j]? = some (some d) := by
        cases z : s.r[j]? with
        | none => rw [z] at e; simp at e
        | some od => rw [z] at e; simp at e; rw [e]
      obtain ⟨v, h1, h2⟩ := b.sl j d e'
      refine ⟨v, ?_, h2⟩
      unfold jQ
      rw [List.getElem?_append_right (by simpa using hi)]
      simp only [List.length_replicate, List.getElem?_map, q, Option.map_some, h1, Option.getD_some]
def d4 : TM := fun s => .ok (true, s)
theorem ft : RdT C AH d4 := fun σ H F θ s Q b p => p H F θ .refl b
open Classical in
noncomputable def gk (ok : aw → Prop) (g : GM) (c : TM) (e : EM) : List D → List D → S → Res (List D × S)
  | [], acc, s => if ok s.o then .ok (acc, s) else .bad
  | d :: ds, acc, s => if ok s.o ∧ acc.length < 16777216 then (g d s).bind fun s1 => (c s1).bind fun x => if x.1 then (e x.2).bind fun y => gk ok g c e ds (acc ++ [y.1]) y.2 else gk ok g c e ds acc x.2 else .bad
noncomputable def iB (m : Nat) (caps : List Nat) (im : IM) (g : GM) (c : TM) (e : EM) : S → Res (List D × S) := fun s => (im s).bind fun y =>
  (gk (okC y.1.1 y.1.2) g c e y.1.1 [] ⟨lH m caps y.2.r, y.2.o⟩).bind fun z => .ok (z.1, ⟨y.2.r, z.2.o⟩)
theorem sM {m : Nat} {caps : List Nat} {wi : TI} {g : TG} {tc : TT} {te : TE} {im : IM} {gm : GM} {c : TM} {e : EM} (hi : RdI C wi im) (hg : RdG C g gm) (hc : RdT C tc c) (he : RdE C te e)
    {σ : L2.St} {H F : Hp} {θ : List Addr} {s : S} {Q : VK} (b : BS C.K C.ca σ H F θ s)
    (p : PoR C H F θ (iB m caps im gm c e s) fun y H1 F1 θ1 => BS C.K C.ca σ H1 F1 θ1 y.2 → ∀ q xs, H q = none → H1 q = some (.lst xs) → F1 q = none → q ∉ θ1 → au C.K C.ca θ1 F1 y.1 xs → Q (.ref q) H1) : sv m caps wi g tc te σ H Q := by
  refine hi σ H F θ s _ b (PoR.bind p ?_)
  rintro ⟨⟨ds, k⟩, s1⟩ H1 F1 θ1 _ st1 p1 b1 J it q hq
  dsimp only at p1 b1 it
  have st2 : Stp H1 F1 θ1 (upd H1 q (.lst [])) F1 θ1 := by
    have nm : ∀ a u, H1 a = some u → a ≠ q := fun a u e z => by rw [z, hq] at e; cases e
    exact ⟨bc.refl _, ⟨[], by simp, by simp⟩, fun a u h _ => by rw [aG (nm a u h)]; exact h, fun a u h => ⟨u, by rw [aG (nm a u h)]; exact h⟩, fun a u h => .inl h⟩
  have qθ : q ∉ θ1 := fun h => by obtain ⟨u, hu⟩ := b1.now.there h; rw [hq] at hu; cases hu
  have qF : F1 q = none := by
    cases e : F1 q with
    | none => rfl
    | some u => rw [b1.now.fh q u e] at hq; cases hq
  have hqH : H q = none := by
    cases e : H q with
    | none => rfl
    | some u => obtain ⟨u', e'⟩ := st1.al q u e; rw [hq] at e'; cases e'
  have keep : ∀ {H2 F2 H3 F3 : Hp} {θ2 θ3 : List Addr} {o : HO}, Stp H2 F2 θ2 H3 F3 θ3 → H2 q = some o → F2 q = none → q ∉ θ2 → H3 q = some o ∧ F3 q = none ∧ q ∉ θ3 := fun {H2 F2 H3 F3 θ2 θ3 o} st h1 h2 h3 => by
    refine ⟨st.kp q o h1 h3, ?_, ?_⟩
    · cases e : F3 q with
      | none => rfl
      | some u =>
        rcases st.nf q u e with z | z | z
        · rw [h2] at z; cases z
        · rw [h1] at z; cases z
        · exact absurd z h3
    · obtain ⟨r, rfl, hr⟩ := st.th
      intro hm
      rcases List.mem_append.mp hm with z | z
      · exact h3 z
      · rw [hr q z] at h1; cases h1
  have bs2 : ∀ {σ' : L2.St} {H2 F2 : Hp} {θ2 : List Addr} {s2 : S} (o : HO), BS C.K C.ca σ' H2 F2 θ2 s2 → F2 q = none → q ∉ θ2 → BS C.K C.ca σ' (upd H2 q o) F2 θ2 s2 := fun {σ' H2 F2 θ2 s2} o b h1 h2 => by
    have ne : ∀ a, a ∈ θ2 → a ≠ q := fun a h z => h2 (z ▸ h)
    refine ⟨⟨fun a u h => ?_, b.now.nd, b.now.ln, fun j a c e1 e2 => ?_⟩, b.len, b.sl⟩
    · have : a ≠ q := fun z => by rw [z, h1] at h; cases h
      rw [aG this]; exact b.now.fh a u h
    · have hm := ne a (List.mem_of_getElem? e1)
      have w := b.now.ce j a c e1 e2
      cases c with
      | dead => obtain ⟨u, hu⟩ := w; exact ⟨u, by rw [aG hm]; exact hu⟩
      | lst ds => obtain ⟨q1, ys, q2, q3⟩ := w; exact ⟨q1, ys, by rw [aG hm]; exact q2, q3⟩
      | ins c ns ds => obtain ⟨q1, dx, ys, q2, q3, q4⟩ := w; exact ⟨q1, dx, ys, by rw [aG hm]; exact q2, q3, q4⟩
  have stq : ∀ {H2 F2 : Hp} {θ2 : List Addr} (o : HO), Stp H1 F1 θ1 H2 F2 θ2 → Stp H1 F1 θ1 (upd H2 q o) F2 θ2 := fun {H2 F2 θ2} o st => by
    have nm : ∀ a u, H1 a = some u → a ≠ q := fun a u e z => by rw [z, hq] at e; cases e
    exact ⟨st.ff, st.th, fun a u h1 h2 => by rw [aG (nm a u h1)]; exact st.kp a u h1 h2, fun a u h1 => by rw [aG (nm a u h1)]; exact st.al a u h1, st.nf⟩
  refine ⟨fun i n acc σ' H' => n = ds.length - i ∧ i ≤ ds.length ∧ ∃ F' θ' s' as, Stp H1 F1 θ1 H' F' θ' ∧ H' q = some (.lst acc) ∧ F' q = none ∧ q ∉ θ' ∧ BS C.K C.ca σ' H' F' θ' s' ∧ au C.K C.ca θ' F' as acc ∧
      PoR C H1 F1 θ1 ((gk (okC ds k) gm c e (ds.drop i) as s').bind fun z => .ok (z.1, (⟨s1.r, z.2.o⟩ : S))) (fun y H1 F1 θ1 => BS C.K C.ca σ H1 F1 θ1 y.2 → ∀ q xs, H q = none → H1 q = some (.lst xs) → F1 q = none → q ∉ θ1 → au C.K C.ca θ1 F1 y.1 xs → Q (.ref q) H1),
    ⟨ds.length, by simp, Nat.zero_le _, F1, θ1, ⟨lH m caps s1.r, s1.o⟩, [], st2, bP, qF, qθ, bs2 _ (CA b1 m caps) qF qθ, au.nil, by simpa using p1⟩, ?_⟩
  rintro i n acc σ' H' ⟨rfl, hil, F', θ', s', as, st, hq', qF', qθ', bs, hacc, po⟩
  by_cases lt : i < ds.length
  · right
    rw [List.drop_eq_getElem_cons lt, gk] at po
    split at po
    · rename_i hok
      refine ⟨it.go i H' F' θ' s'.o lt st bs.now hok.1, ?_⟩
      intro x H3 hy
      obtain ⟨F3, st3, b3, rp⟩ := it.yl i ds[i] σ' H' F' θ' s' x H3 (List.getElem?_eq_getElem lt) st bs hok.1 hy
      obtain ⟨k1, k2, k3⟩ := keep st3 hq' qF' qθ'
      have st13 := st.trans st3
      have po3 := PoR.after st13 po
      have w1 : PoG C H3 F3 θ' (gm ds[i] s') (fun σ4 H4 => tc σ4 H4 fun b H4 => if b = true then
          te σ4 H4 fun y H5 => H5 q = some (.lst acc) ∧ acc.length < sizeLine ∧ ∃ k', k' < ds.length - i ∧ (k' = ds.length - (i + 1) ∧ i + 1 ≤ ds.length ∧ ∃ F' θ' s' as, Stp H1 F1 θ1 (upd H5 q (.lst (acc ++ [y]))) F' θ' ∧ (upd H5 q (.lst (acc ++ [y]))) q = some (.lst (acc ++ [y])) ∧ F' q = none ∧ q ∉ θ' ∧ BS C.K C.ca σ4 (upd H5 q (.lst (acc ++ [y]))) F' θ' s' ∧ au C.K C.ca θ' F' as (acc ++ [y]) ∧
            PoR C H1 F1 θ1 ((gk (okC ds k) gm c e (ds.drop (i + 1)) as s').bind fun z => .ok (z.1, (⟨s1.r, z.2.o⟩ : S))) (fun y H1 F1 θ1 => BS C.K C.ca σ H1 F1 θ1 y.2 → ∀ q xs, H q = none → H1 q = some (.lst xs) → F1 q = none → q ∉ θ1 → au C.K C.ca θ1 F1 y.1 xs → Q (.ref q) H1))
          else ∃ k', k' < ds.length - i ∧ (k' = ds.length - (i + 1) ∧ i + 1 ≤ ds.length ∧ ∃ F' θ' s' as, Stp H1 F1 θ1 H4 F' θ' ∧ H4 q = some (.lst acc) ∧ F' q = none ∧ q ∉ θ' ∧ BS C.K C.ca σ4 H4 F' θ' s' ∧ au C.K C.ca θ' F' as acc ∧
            PoR C H1 F1 θ1 ((gk (okC ds k) gm c e (ds.drop (i + 1)) as s').bind fun z => .ok (z.1, (⟨s1.r, z.2.o⟩ : S))) (fun y H1 F1 θ1 => BS C.K C.ca σ H1 F1 θ1 y.2 → ∀ q xs, H q = none → H1 q = some (.lst xs) → F1 q = none → q ∉ θ1 → au C.K C.ca θ1 F1 y.1 xs → Q (.ref q) H1))) := by
        cases e1 : gm ds[i] s' with
        | bad => rw [e1] at po3; exact po3
        | exc a1 a2 a3 => rw [e1] at po3; exact po3
        | ok s4 =>
          rw [e1] at po
          intro H4 F4 θ4 st4 σ4 b4
          obtain ⟨l1, l2, l3⟩ := keep st4 k1 k2 k3
          refine hc σ4 H4 F4 θ4 s4 _ b4 ?_
          cases e2 : c s4 with
          | bad => rw [aa, e2] at po; exact po
          | exc a1 a2 a3 => rw [aa, e2] at po; exact PoR.after (st13.trans st4) po
          | ok x5 =>
            obtain ⟨kk, s5⟩ := x5
            rw [aa, e2, aa] at po
            intro H5 F5 θ5 st5 b5
            obtain ⟨m1, m2, m3⟩ := keep st5 l1 l2 l3
            have hacc5 := ((hacc.mono st3.ff st3.pre).mono st4.ff st4.pre).mono st5.ff st5.pre
            cases kk with
            | false =>
              exact qB ⟨ds.length - (i + 1), by omega, rfl, by omega, F5, θ5, s5, as, st13.trans (st4.trans st5), m1, m2, m3, b5, hacc5, by simpa using po⟩
            | true =>
              refine qJ (he σ4 H5 F5 θ5 s5 _ b5 ?_)
              dsimp only [if_true] at po
              cases e3 : e s5 with
              | bad => rw [e3] at po; exact po
              | exc a1 a2 a3 => rw [e3] at po; exact PoR.after (st13.trans (st4.trans st5)) po
              | ok x6 =>
                obtain ⟨y, s6⟩ := x6
                rw [e3, aa] at po
                intro H6 F6 θ6 st6 b6 w r6
                obtain ⟨n1, n2, n3⟩ := keep st6 m1 m2 m3
                exact ⟨n1, by rw [hacc.length]; exact hok.2, ds.length - (i + 1), by omega, rfl, by omega, F6, θ6, s6, as ++ [y], stq _ (st13.trans (st4.trans (st5.trans st6))), bP, n2, n3, bs2 _ b6 n2 n3, (hacc5.mono st6.ff st6.pre).append (au.one r6), po⟩
      exact hg σ' H3 F3 θ' s' ds[i] x _ b3 rp w1
    · exact False.elim po
  · left
    rw [List.drop_eq_nil_of_le (by omega), gk] at po
    split at po
    · rename_i hok
      refine ⟨it.st i H' F' θ' s'.o (by omega) st bs.now hok, hq', ?_⟩
      refine po H' F' θ' st ⟨bs.now, b1.len, fun j d e => ?_⟩ q acc hqH hq' qF' qθ' hacc
      obtain ⟨v, h1, h2⟩ := b1.sl j d e
      exact ⟨v, h1, h2.mono st.ff st.pre⟩
    · exact False.elim po
noncomputable def dc (m : Nat) (caps : List Nat) (im : IM) (g : GM) (c : TM) (e : EM) : EM := fun s => (iB m caps im g c e s).bind fun y => .ok (.lst y.1, y.2)
theorem fJ {m : Nat} {caps : List Nat} {wi : TI} {g : TG} {tc : TT} {te : TE} {im : IM} {gm : GM} {c : TM} {e : EM} (hi : RdI C wi im) (hg : RdG C g gm) (hc : RdT C tc c) (he : RdE C te e) : RdE C (sv m caps wi g tc te) (dc m caps im gm c e) := by
  intro σ H F θ s Q b p
  refine sM hi hg hc he b ?_
  unfold dc at p
  cases e1 : iB m caps im gm c e s with
  | bad => rw [e1] at p; exact p
  | exc a1 a2 a3 => rw [e1] at p; exact p
  | ok y =>
    rw [e1, aa] at p
    intro H1 F1 θ1 st1 b1 q xs h0 h1 h2 h3 hr
    have sF : bc F1 (upd F1 q (.lst xs)) := fun a u h => by
      rw [aG (fun z => by rw [z, h2] at h; cases h)]; exact h
    refine p H1 (upd F1 q (.lst xs)) θ1 ⟨st1.ff.trans sF, st1.th, st1.kp, st1.al, fun a u h => ?_⟩ ⟨⟨fun a u h => ?_, b1.now.nd, b1.now.ln, fun j a c e2 e3 => ?_⟩, b1.len, fun i d e2 => ?_⟩ (.ref q) ?_
    · by_cases z : a = q
      · subst z; exact .inr (.inl h0)
      · rw [aG z] at h; exact st1.nf a u h
    · by_cases z : a = q
      · subst z; rw [bP] at h; rw [h1]; exact h
      · rw [aG z] at h; exact b1.now.fh a u h
    · have ne : a ≠ q := fun z => h3 (z ▸ List.mem_of_getElem? e2)
      have w := b1.now.ce j a c e2 e3
      cases c with
      | dead => exact w
      | lst ds => obtain ⟨q1, ys, q2, q3⟩ := w; exact ⟨by rw [aG ne]; exact q1, ys, q2, q3.mono sF ⟨[], by simp⟩⟩
      | ins c ns ds => obtain ⟨q1, dx, ys, q2, q3, q4⟩ := w; exact ⟨by rw [aG ne]; exact q1, dx, ys, q2, q3, q4.mono sF ⟨[], by simp⟩⟩
    · obtain ⟨v, w1, w2⟩ := b1.sl i d e2
      exact ⟨v, w1, w2.mono sF ⟨[], by simp⟩⟩
    · unfold Rep
      exact ⟨q, xs, rfl, SqL.of bP, hr.mono sF ⟨[], by simp⟩⟩
noncomputable def p9 (m : Nat) (caps : List Nat) (im : IM) (g : GM) (c : TM) (e : EM) : EM := fun s => (iB m caps im g c e s).bind fun y => .ok (.ptr y.2.o.length, ⟨y.2.r, y.2.o ++ [.lst y.1]⟩)
theorem zk {m : Nat} {caps : List Nat} {wi : TI} {g : TG} {tc : TT} {te : TE} {im : IM} {gm : GM} {c : TM} {e : EM} (hi : RdI C wi im) (hg : RdG C g gm) (hc : RdT C tc c) (he : RdE C te e) : RdE C (sv m caps wi g tc te) (p9 m caps im gm c e) := by
  intro σ H F θ s Q b p
  refine sM hi hg hc he b ?_
  unfold p9 at p
  cases e1 : iB m caps im gm c e s with
  | bad => rw [e1] at p; exact p
  | exc a1 a2 a3 => rw [e1] at p; exact p
  | ok y =>
    rw [e1, aa] at p
    intro H1 F1 θ1 st1 b1 q xs h0 h1 h2 h3 hr
    obtain ⟨r, er, hr0⟩ := st1.th
    refine p H1 F1 (θ1 ++ [q]) ⟨st1.ff, ⟨r ++ [q], by rw [er, List.append_assoc], fun a ha => ?_⟩, st1.kp, st1.al, st1.nf⟩ ⟨⟨b1.now.fh, ?_, by simp [b1.now.ln], fun k a c e2 e3 => ?_⟩, b1.len, fun i d e2 => ?_⟩ (.ref q) ?_
    · rcases List.mem_append.mp ha with z | z
      · exact hr0 a z
      · rw [List.mem_singleton.mp z]; exact h0
    · refine List.nodup_append.mpr ⟨b1.now.nd, by simp, fun a ha x hx => ?_⟩
      rw [List.mem_singleton.mp hx]
      rintro rfl
      exact h3 ha
    · by_cases hk : k < θ1.length
      · rw [List.getElem?_append_left hk] at e2
        dsimp only at e3
        rw [List.getElem?_append_left (by rw [← b1.now.ln]; exact hk)] at e3
        have w := b1.now.ce k a c e2 e3
        cases c with
        | dead => exact w
        | lst ds => obtain ⟨q1, ys, q2, q3⟩ := w; exact ⟨q1, ys, q2, q3.mono (bc.refl _) ⟨[q], rfl⟩⟩
        | ins c ns ds => obtain ⟨q1, dx, ys, q2, q3, q4⟩ := w; exact ⟨q1, dx, ys, q2, q3, q4.mono (bc.refl _) ⟨[q], rfl⟩⟩
      · have hk1 : k < (θ1 ++ [q]).length := (List.getElem?_eq_some_iff.mp e2).1
        have hk2 : k = θ1.length := by simp at hk1; omega
        subst hk2
        rw [List.getElem?_append_right (Nat.le_refl _)] at e2
        dsimp only at e3
        rw [List.getElem?_append_right (by rw [b1.now.ln]; exact Nat.le_refl _), b1.now.ln] at e3
        simp at e2 e3
        subst e2; subst e3
        exact ⟨h2, xs, h1, hr.mono (bc.refl _) ⟨[q], rfl⟩⟩
    · obtain ⟨v, w1, w2⟩ := b1.sl i d e2
      exact ⟨v, w1, w2.mono (bc.refl _) ⟨[q], rfl⟩⟩
    · unfold Rep
      exact ⟨q, rfl, by rw [← b1.now.ln]; simp⟩
end
end M
set_option maxRecDepth 100000
set_option maxHeartbeats 4000000
namespace M
open PySem PySem.Spec PyProof.Rows L2
section
variable {C : Ct}
def nS (O : aw) : D → Option (List D)
  | .tup ds => some ds
  | x => lsD O x
def AJ (m : EM) : EM := fun s => (m s).bind fun x => match nS x.2.o x.1 with
  | some ds => .ok (.ptr x.2.o.length, ⟨x.2.r, x.2.o ++ [.lst ds]⟩)
  | none => .bad
mutual
def shD (n : Nat) : D → D
  | .lst ds => .lst (eu n ds)
  | .tup ds => .tup (eu n ds)
  | .ptr k => .ptr (n + k)
  | .obj c ns ds => .obj c ns (eu n ds)
  | .exn c => .exn c
  | .non => .non
  | .bl b => .bl b
  | .int i => .int i
  | .str x => .str x
def eu (n : Nat) : List D → List D
  | [] => []
  | d :: ds => shD n d :: eu n ds
end
def shC (n : Nat) : Cell → Cell
  | .dead => .dead
  | .lst ds => .lst (eu n ds)
  | .ins c ns ds => .ins c ns (eu n ds)
section
variable {K : PySem.W.Frag} {ca : Nat → Addr} {F : Hp} {θ θ1 : List Addr}
mutual
theorem uI : ∀ {d : D} {v : V}, Rep K ca θ1 F d v → Rep K ca (θ ++ θ1) F (shD θ.length d) v
  | .non, _, h => by unfold shD; exact h
  | .bl _, _, h => by unfold shD; exact h
  | .int _, _, h => by unfold shD; exact h
  | .str _, _, h => by unfold shD; exact h
  | .lst ds, _, h => by
    unfold shD
    unfold Rep at h ⊢
    obtain ⟨a, xs, e, hs, hr⟩ := h
    exact ⟨a, xs, e, hs, jY hr⟩
  | .tup ds, _, h => by
    unfold shD
    unfold Rep at h ⊢
    obtain ⟨a, xs, e, hs, hr⟩ := h
    exact ⟨a, xs, e, hs, jY hr⟩
  | .ptr k, _, h => by
    unfold shD
    unfold Rep at h ⊢
    obtain ⟨a, e, hk⟩ := h
    exact ⟨a, e, by rw [List.getElem?_append_right (Nat.le_add_right _ _), Nat.add_sub_cancel_left]; exact hk⟩
  | .obj c ns ds, _, h => by
    unfold shD
    unfold Rep at h ⊢
    obtain ⟨a, dx, xs, e, ha, hl, hr⟩ := h
    exact ⟨a, dx, xs, e, ha, hl, jY hr⟩
  | .exn c, _, h => by
    unfold shD
    unfold Rep at h ⊢
    exact h
theorem jY : ∀ {ds : List D} {xs : List V}, au K ca θ1 F ds xs → au K ca (θ ++ θ1) F (eu θ.length ds) xs
  | [], _, h => by unfold eu; exact h
  | d :: ds, _, h => by
    unfold eu
    unfold au at h ⊢
    obtain ⟨v, r, e, h1, h2⟩ := h
    exact ⟨v, r, e, uI h1, jY h2⟩
end
end
theorem BS.calledO {K : PySem.W.Frag} {ca : Nat → Addr} {σ : L2.St} {H F H1 F1 : Hp} {θ θ1 : List Addr} {s : S} {O1 : aw} (b : BS K ca σ H F θ s) (st : Stp H F [] H1 F1 θ1) (n : Now K ca H1 F1 θ1 O1) :
    Stp H F θ H1 F1 (θ ++ θ1) ∧ BS K ca σ H1 F1 (θ ++ θ1) ⟨s.r, s.o ++ O1.map (shC s.o.length)⟩ := by
  obtain ⟨st0, b0⟩ := b.called st n
  obtain ⟨r, er, hr⟩ := st.th
  rw [List.nil_append] at er
  subst er
  refine ⟨⟨st0.ff, ⟨θ1, rfl, hr⟩, st0.kp, st0.al, st0.nf⟩, ⟨⟨n.fh, List.nodup_append.mpr ⟨b.now.nd, n.nd, fun a ha x hx => ?_⟩, by simp [b.now.ln, n.ln], fun k a c e1 e2 => ?_⟩, b.len, fun i d e => ?_⟩⟩
  · rintro rfl
    obtain ⟨u, hu⟩ := b.now.there ha
    rw [hr a hx] at hu
    cases hu
  · by_cases hk : k < θ.length
    · rw [List.getElem?_append_left hk] at e1
      dsimp only at e2
      rw [List.getElem?_append_left (by rw [← b.now.ln]; exact hk)] at e2
      have w := b0.now.ce k a c e1 e2
      cases c with
      | dead => exact w
      | lst ds => obtain ⟨q1, ys, q2, q3⟩ := w; exact ⟨q1, ys, q2, q3.mono (bc.refl _) ⟨θ1, rfl⟩⟩
      | ins c ns ds => obtain ⟨q1, dx, ys, q2, q3, q4⟩ := w; exact ⟨q1, dx, ys, q2, q3, q4.mono (bc.refl _) ⟨θ1, rfl⟩⟩
    · rw [List.getElem?_append_right (by omega)] at e1
      dsimp only at e2
      rw [List.getElem?_append_right (by rw [← b.now.ln]; omega), List.getElem?_map, ← b.now.ln] at e2
      cases e3 : O1[k - θ.length]? with
      | none => rw [e3] at e2; cases e2
      | some c' =>
        rw [e3] at e2
        cases e2
        have w := n.ce _ a c' e1 e3
        cases c' with
        | dead => exact w
        | lst ds => obtain ⟨q1, ys, q2, q3⟩ := w; exact ⟨q1, ys, q2, jY q3⟩
        | ins c ns ds => obtain ⟨q1, dx, ys, q2, q3, q4⟩ := w; exact ⟨q1, dx, ys, q2, q3, jY q4⟩
  · obtain ⟨v, h1, h2⟩ := b0.sl i d e
    exact ⟨v, h1, h2.mono (bc.refl _) ⟨θ1, rfl⟩⟩
def wG (n : Nat) (f : FM) (ma : AM) : EM := fun s => (ma s).bind fun x => if ax x.1 = true ∧ x.1.length = n then (match f x.1 [] with
  | .ok (d, O1) => .ok (shD x.2.o.length d, ⟨x.2.r, x.2.o ++ O1.map (shC x.2.o.length)⟩)
  | _ => .bad) else .bad
def nW (n : Nat) (f : FM) (ma : AM) : EM := fun s => (ma s).bind fun x => if ax (bI x.2.o (bI x.2.o x.1)) = true ∧ x.1.length = n then (match f (bI x.2.o (bI x.2.o x.1)) [] with
  | .ok (d, _) => if kA d = true then .ok (d, x.2) else .bad
  | _ => .bad) else .bad
theorem kI (O : aw) : ∀ ds : List D, (bI O ds).length = ds.length
  | [] => by unfold bI; rfl
  | d :: ds => by unfold bI; rw [List.length_cons, List.length_cons, kI O ds]
theorem ue {n : Nat} {f : FM} {ta : TA} {ma : AM} {E : XK} (ha : RdA C ta ma) : RdE C (xm (spM C.K C.ca n f) [] E ta) (nW n f ma) := by
  intro σ H F θ s Q b p
  refine ha σ H F θ s _ b (PoR.bind p ?_)
  rintro ⟨x, s1⟩ H1 F1 θ1 _ st1 p1 b1 v r1
  dsimp only at p1 b1 r1 ⊢
  split at p1
  · rename_i hp
    rw [List.append_nil]
    have rr : au C.K C.ca θ1 H1 (bI s1.o (bI s1.o x)) v := ka b1.now b1.now.fh (bc.refl _) (ka b1.now (bc.refl _) b1.now.fh r1)
    refine ⟨H1, [], bI s1.o (bI s1.o x), [], Now.nil (bc.refl _), rr.pure hp.1, by rw [kI, kI]; exact hp.2, ?_⟩
    split at p1
    · rename_i d O1 e
      rw [e]
      intro v H2 F2 θ2 st2 n2 rv
      split at p1
      · rename_i sd
        have kp : ∀ a o, H1 a = some o → H2 a = some o := fun a o h => st2.kp a o h (by simp)
        refine p1 H2 F1 θ1 ⟨bc.refl _, ⟨[], by simp, by simp⟩, fun a o h _ => kp a o h, st2.al, fun a o h => .inl h⟩ ⟨⟨fun a o h => kp a o (b1.now.fh a o h), b1.now.nd, b1.now.ln, fun k a c e1 e2 => ?_⟩, b1.len, b1.sl⟩ v (rv.scal sd)
        have w := b1.now.ce k a c e1 e2
        cases c with
        | dead => obtain ⟨o, ho⟩ := w; exact ⟨o, kp a o ho⟩
        | lst ds => obtain ⟨q1, ys, q2, q3⟩ := w; exact ⟨q1, ys, kp _ _ q2, q3⟩
        | ins c ns ds => obtain ⟨q1, dx, ys, q2, q3, q4⟩ := w; exact ⟨q1, dx, ys, kp _ _ q2, q3, q4⟩
      · exact False.elim p1
    · exact False.elim p1
  · exact False.elim p1
end
end M
set_option maxRecDepth 100000
set_option maxHeartbeats 4000000
namespace M
open PySem PySem.Spec PyProof.Rows L2
def cY (P : Program) (w : World) (K : PySem.W.Frag) (mg : Str → Option Value) (base : Heap) (ca : Nat → Addr) (lv : Nat) (x : Str) (ps : List Str) (f : FM) (a : Addr) (fd : FuncData) : Prop :=
  dR P w K mg base (CXE P w) lv a fd ps (spM K ca ps.length f) ∧ mg x = some (.ref a) ∧ PySem.W.keepIn K (.ref a) = true ∧ Binds K fd ps []
def dw (P : Program) (w : World) (K : PySem.W.Frag) (mg : Str → Option Value) (base : Heap) (ca : Nat → Addr) (lv : Nat) (x : Str) (ps : List Str) (f : FM) : Prop := ∃ a fd, cY P w K mg base ca lv x ps f a fd
theorem cY.in {P : Program} {w : World} {K : PySem.W.Frag} {mg : Str → Option Value} {base : Heap} {ca : Nat → Addr} {lv : Nat} {x : Str} {ps : List Str} {f : FM} {a : Addr} {fd : FuncData} (h : cY P w K mg base ca lv x ps f a fd) : dw P w K mg base ca lv x ps f := ⟨a, fd, h⟩
theorem rH {K : PySem.W.Frag} {ca : Nat → Addr} {θ : List Addr} {F : Hp} : ∀ ns : List Int, au K ca θ F (ns.map D.int) (ns.map V.int)
  | [] => au.nil
  | _ :: ns => au.cons (aW.mpr rfl) (rH ns)
theorem DA {K : PySem.W.Frag} {ca : Nat → Addr} {H : Hp} {a : Addr} {ns : List Int} {f : FM} {E : XK} (hS : SqL K H a (ns.map V.int)) (h : ∃ O, f [.lst (ns.map D.int)] [] = .ok (.bl true, O)) : spM K ca 1 f [.ref a] H (fun v _ => v = .bl true) E := by
  obtain ⟨O, h⟩ := h
  refine ⟨H, [], [.lst (ns.map D.int)], [], Now.nil (bc.refl _), au.one ?_, rfl, ?_⟩
  · unfold Rep
    exact ⟨a, ns.map V.int, rfl, hS, rH ns⟩
  · rw [h]
    intro v H1 F1 θ1 _ _ r
    exact bO.mp r
theorem cI {k : Nat} {A : Around} (hr : cC k A) (hk : 32 ≤ k) : A.depth + 100 < recursionLimit := by
  have := hr.dp
  omega
end M
set_option maxRecDepth 100000
set_option maxHeartbeats 4000000
namespace M
open PySem PySem.Spec PyProof.Rows L2
section
variable {C : Ct}
def mn (as bs : List D) : List D := List.zipWith (fun a b => .tup [a, b]) as bs
def wA (m : AM) : IM := fun s => (m s).bind fun x => match x.1 with
  | [.lst as, .lst bs] => .ok ((mn as bs, none), x.2)
  | _ => .bad
theorem sT {as bs : List D} {i : Nat} {d : D} (h : (mn as bs)[i]? = some d) : ∃ x y, as[i]? = some x ∧ bs[i]? = some y ∧ d = .tup [x, y] := by
  unfold mn at h
  rw [List.getElem?_zipWith] at h
  cases h1 : as[i]? with
  | none => rw [h1] at h; cases h
  | some x =>
    cases h2 : bs[i]? with
    | none => rw [h1, h2] at h; cases h
    | some y =>
      rw [h1, h2] at h
      cases h
      exact ⟨x, y, rfl, rfl, rfl⟩
theorem C7 {a b : Addr} {xs ys : List V} {as bs : List D} {H F : Hp} {θ : List Addr} (h1 : SqL C.K F a xs) (h2 : SqL C.K F b ys) (r1 : au C.K C.ca θ F as xs) (r2 : au C.K C.ca θ F bs ys) :
    qT C (Itz C.K a b) (mn as bs) (okC (mn as bs) none) H F θ where
  go := fun i H2 F2 θ2 O2 hi st n _ => by
    obtain ⟨x, y, e1, e2, _⟩ := sT (List.getElem?_eq_getElem hi)
    obtain ⟨v, q1, _⟩ := r1.get e1
    obtain ⟨w, q2, _⟩ := r2.get e2
    exact ⟨xs, ys, v, w, n.fh.seq (st.ff.seq h1), n.fh.seq (st.ff.seq h2), q1, q2⟩
  yl := fun i d σ H2 F2 θ2 s2 x H3 hd st b _ hy => by
    obtain ⟨T, v, w, hT, rfl, rfl, hv, hw⟩ := hy
    obtain ⟨x, y, e1, e2, rfl⟩ := sT hd
    obtain ⟨v', q1, k1⟩ := r1.get e1
    obtain ⟨w', q2, k2⟩ := r2.get e2
    have := hv xs (b.now.fh.seq (st.ff.seq h1))
    rw [q1] at this
    cases this
    have := hw ys (b.now.fh.seq (st.ff.seq h2))
    rw [q2] at this
    cases this
    obtain ⟨st3, b3, sF, e3⟩ := b.newF hT (.tup [v, w])
    refine ⟨_, st3, b3, ?_⟩
    unfold Rep
    exact ⟨T, [v, w], rfl, SqT.of e3, au.cons ((k1.mono st.ff st.pre).mono st3.ff st3.pre) (au.one ((k2.mono st.ff st.pre).mono st3.ff st3.pre))⟩
  st := fun i H2 F2 θ2 O2 hi st n _ => by
    refine ⟨xs, ys, n.fh.seq (st.ff.seq h1), n.fh.seq (st.ff.seq h2), ?_⟩
    unfold mn at hi
    rw [List.length_zipWith] at hi
    rw [r1.length, r2.length]
    omega
theorem Cv {ta : TA} {m : AM} (h : RdA C ta m) : RdI C (Dt C.K ta) (wA m) := by
  intro σ H F θ s R b p
  refine h σ H F θ s _ b (PoR.bind p ?_)
  rintro ⟨x, s1⟩ H1 F1 θ1 _ st1 p1 b1 v r1
  dsimp only at p1 b1 r1
  split at p1
  · rename_i as bs
    obtain ⟨v1, v2, rfl, k1, k2⟩ := Ep r1
    unfold Rep at k1 k2
    obtain ⟨a, xs, rfl, hs, hr⟩ := k1
    obtain ⟨b', ys, rfl, hs', hr'⟩ := k2
    exact ⟨a, b', rfl, ⟨xs, b1.now.fh.seq hs⟩, ⟨ys, b1.now.fh.seq hs'⟩, p1 _ _ _ .refl b1 _ (C7 hs hs' hr hr')⟩
  · exact False.elim p1
def d9 (ds : List D) : List D := ds.mapIdx fun i d => .tup [.int (i : Nat), d]
def fg (m : AM) : IM := fun s => (m s).bind fun x => match x.1 with
  | [.lst as] => .ok ((d9 as, none), x.2)
  | _ => .bad
theorem rk {as : List D} {i : Nat} {d : D} (h : (d9 as)[i]? = some d) : ∃ x, as[i]? = some x ∧ d = .tup [.int (i : Nat), x] := by
  unfold d9 at h
  rw [List.getElem?_mapIdx] at h
  cases h1 : as[i]? with
  | none => rw [h1] at h; cases h
  | some x =>
    rw [h1] at h
    cases h
    exact ⟨x, rfl, rfl⟩
theorem A1 {a : Addr} {xs : List V} {as : List D} {H F : Hp} {θ : List Addr} (h1 : SqL C.K F a xs) (r1 : au C.K C.ca θ F as xs) : qT C (Ite C.K a) (d9 as) (okC (d9 as) none) H F θ where
  go := fun i H2 F2 θ2 O2 hi st n _ => by
    obtain ⟨x, e1, _⟩ := rk (List.getElem?_eq_getElem hi)
    obtain ⟨v, q1, _⟩ := r1.get e1
    exact ⟨xs, v, n.fh.seq (st.ff.seq h1), q1⟩
  yl := fun i d σ H2 F2 θ2 s2 x H3 hd st b _ hy => by
    obtain ⟨T, v, hT, rfl, rfl, hv⟩ := hy
    obtain ⟨x, e1, rfl⟩ := rk hd
    obtain ⟨v', q1, k1⟩ := r1.get e1
    have := hv xs (b.now.fh.seq (st.ff.seq h1))
    rw [q1] at this
    cases this
    obtain ⟨st3, b3, sF, e3⟩ := b.newF hT (.tup [.int (i : Nat), v])
    refine ⟨_, st3, b3, ?_⟩
    unfold Rep
    exact ⟨T, [.int (i : Nat), v], rfl, SqT.of e3, au.cons (aW.mpr rfl) (au.one ((k1.mono st.ff st.pre).mono st3.ff st3.pre))⟩
  st := fun i H2 F2 θ2 O2 hi st n _ => by
    refine ⟨xs, n.fh.seq (st.ff.seq h1), ?_⟩
    unfold d9 at hi
    rw [List.length_mapIdx] at hi
    rw [r1.length]
    exact hi
theorem j6 {ta : TA} {m : AM} (h : RdA C ta m) : RdI C (AG C.K ta) (fg m) := by
  intro σ H F θ s R b p
  refine h σ H F θ s _ b (PoR.bind p ?_)
  rintro ⟨x, s1⟩ H1 F1 θ1 _ st1 p1 b1 v r1
  dsimp only at p1 b1 r1
  split at p1
  · rename_i as
    obtain ⟨v1, rfl, k1⟩ := jK r1
    unfold Rep at k1
    obtain ⟨a, xs, rfl, hs, hr⟩ := k1
    exact ⟨a, rfl, ⟨xs, b1.now.fh.seq hs⟩, p1 _ _ _ .refl b1 _ (A1 hs hr)⟩
  · exact False.elim p1
def j3 (x : Str) : List D := x.cps.toList.map fun c => .str ⟨#[c]⟩
def xq (m : EM) : IM := fun s => (m s).bind fun x => match x.1 with
  | .str z => .ok ((j3 z, none), x.2)
  | _ => .bad
theorem Dn {z : Str} {H F : Hp} {θ : List Addr} : qT C (Its z) (j3 z) (okC (j3 z) none) H F θ where
  go := fun i H2 F2 θ2 O2 hi st n _ => by
    unfold j3 at hi
    show i < z.cps.size
    simpa using hi
  yl := fun i d σ H2 F2 θ2 s2 x H3 hd st b _ hy => by
    obtain ⟨rfl, c, hc, rfl⟩ := hy
    refine ⟨F2, .refl, b, ?_⟩
    unfold j3 at hd
    rw [List.getElem?_map, Array.getElem?_toList, hc] at hd
    cases hd
    exact cf.mpr rfl
  st := fun i H2 F2 θ2 O2 hi st n _ => by
    unfold j3 at hi
    show z.cps.size ≤ i
    simpa using hi
theorem A0 {te : TE} {m : EM} (h : RdE C te m) : RdI C (DL te) (xq m) := by
  intro σ H F θ s R b p
  refine h σ H F θ s _ b (PoR.bind p ?_)
  rintro ⟨x, s1⟩ H1 F1 θ1 _ st1 p1 b1 v r1
  dsimp only at p1 b1 r1
  cases x <;> first | exact False.elim p1 | skip
  rename_i z _
  exact ⟨z, cf.mp r1, p1 _ _ _ .refl b1 _ Dn⟩
def fb : List D → Option (List Int)
  | [] => some []
  | .int i :: r => (fb r).map (i :: ·)
  | _ => none
def g7 : List D → Option (List Bool)
  | [] => some []
  | .bl i :: r => (g7 r).map (i :: ·)
  | _ => none
theorem qa {K : PySem.W.Frag} {ca : Nat → Addr} {θ : List Addr} {F : Hp} : ∀ {ds : List D} {ns : List Int} {xs : List V}, fb ds = some ns → au K ca θ F ds xs → xs = ns.map V.int
  | [], ns, xs, e, r => by cases e; unfold au at r; rw [r]; rfl
  | d :: ds, ns, xs, e, r => by
    cases d <;> first | (cases e; done) | skip
    rename_i i
    unfold fb at e
    cases e2 : fb ds with
    | none => rw [e2] at e; cases e
    | some ms =>
      rw [e2] at e
      cases e
      unfold au at r
      obtain ⟨v, w, rfl, h1, h2⟩ := r
      rw [qa e2 h2, aW.mp h1]; rfl
theorem oF {K : PySem.W.Frag} {ca : Nat → Addr} {θ : List Addr} {F : Hp} : ∀ {ds : List D} {ns : List Bool} {xs : List V}, g7 ds = some ns → au K ca θ F ds xs → xs = ns.map V.bl
  | [], ns, xs, e, r => by cases e; unfold au at r; rw [r]; rfl
  | d :: ds, ns, xs, e, r => by
    cases d <;> first | (cases e; done) | skip
    rename_i i
    unfold g7 at e
    cases e2 : g7 ds with
    | none => rw [e2] at e; cases e
    | some ms =>
      rw [e2] at e
      cases e
      unfold au at r
      obtain ⟨v, w, rfl, h1, h2⟩ := r
      rw [oF e2 h2, bO.mp h1]; rfl
def ofInts (f : List Int → D) : OpN := fun O xs => match xs with
  | [x] => match lsD O x with
    | some ds => match fb ds with
      | some ns => .ok (f ns)
      | none => .bad
    | none => .bad
  | _ => .bad
def n5 (f : List Bool → D) : OpN := fun O xs => match xs with
  | [x] => match lsD O x with
    | some ds => match g7 ds with
      | some ns => .ok (f ns)
      | none => .bad
    | none => .bad
  | _ => .bad
def wq : OpN := ofInts fun ns => .int ns.sum
def wW : OpN := n5 fun bs => .bl (bs.all id)
def wH : OpN := n5 fun bs => .bl (bs.any id)
theorem xG {f : List Int → D} {g : List Int → V} (h : ∀ K ca θ F ns, Rep K ca θ F (f ns) (g ns)) : iW C (fun xs H Q => ∃ (p : Addr) (ns : List Int), xs = [.ref p] ∧ SqL C.K H p (ns.map V.int) ∧ Q (g ns) H) (ofInts f) := by
  intro σ H F θ s xs vs Q b r p
  unfold ofInts at p
  split at p
  · obtain ⟨v, rfl, r1⟩ := jK r
    split at p
    · rename_i ds e
      obtain ⟨a, ys, rfl, hs, hr⟩ := gL b r1 e
      split at p
      · rename_i ns e2
        have := qa e2 hr
        subst this
        exact ⟨a, ns, rfl, hs, cV p b (h ..)⟩
      · exact False.elim p
    · exact False.elim p
  · exact False.elim p
theorem ph {f : List Bool → D} {g : List Bool → V} (h : ∀ K ca θ F ns, Rep K ca θ F (f ns) (g ns)) : iW C (fun xs H Q => ∃ (p : Addr) (ns : List Bool), xs = [.ref p] ∧ SqL C.K H p (ns.map V.bl) ∧ Q (g ns) H) (n5 f) := by
  intro σ H F θ s xs vs Q b r p
  unfold n5 at p
  split at p
  · obtain ⟨v, rfl, r1⟩ := jK r
    split at p
    · rename_i ds e
      obtain ⟨a, ys, rfl, hs, hr⟩ := gL b r1 e
      split at p
      · rename_i ns e2
        have := oF e2 hr
        subst this
        exact ⟨a, ns, rfl, hs, cV p b (h ..)⟩
      · exact False.elim p
    · exact False.elim p
  · exact False.elim p
theorem xJ : iW C (fun xs H Q => ∃ (p : Addr) (ns : List Int), xs = [.ref p] ∧ SqL C.K H p (ns.map V.int) ∧ Q (.int ns.sum) H) wq := xG fun _ _ _ _ _ => aW.mpr rfl
theorem xE : iW C (fun xs H Q => ∃ (p : Addr) (bs : List Bool), xs = [.ref p] ∧ SqL C.K H p (bs.map V.bl) ∧ Q (.bl (bs.all id)) H) wW := ph fun _ _ _ _ _ => bO.mpr rfl
theorem CB : iW C (fun xs H Q => ∃ (p : Addr) (bs : List Bool), xs = [.ref p] ∧ SqL C.K H p (bs.map V.bl) ∧ Q (.bl (bs.any id)) H) wH := ph fun _ _ _ _ _ => bO.mpr rfl
def Dg : D → Bool
  | .non => true
  | _ => false
def isD : Op2 := fun _ x y => match x, y with
  | .bl a, .bl b => .ok (.bl (a == b))
  | x, .non => .ok (.bl (Dg x))
  | _, _ => .bad
def pE : Op2 := fun _ x y => match y with
  | .non => .ok (.bl (!Dg x))
  | _ => .bad
theorem xM {X : Cx} : OpR X (compareOp .LtE) (fun x y H Q => ∃ i j, x = .str i ∧ y = .str j ∧ Q (.bl (!decide (j.cps.toList < i.cps.toList))) H) := by
  intro pins s σ H x y v u Q I rx ry h
  obtain ⟨i, j, rfl, rfl, q⟩ := h
  obtain ⟨t, rfl⟩ := rx
  obtain ⟨t', rfl⟩ := ry
  exact PySem.P.le_str (bM I q rfl)
def mw : Op2 := fun _ x y => match x, y with
  | .str i, .str j => .ok (.bl (!decide (j.cps.toList < i.cps.toList)))
  | _, _ => .bad
theorem yu : fC C (fun x y H Q => ∃ i j, x = .str i ∧ y = .str j ∧ Q (.bl (!decide (j.cps.toList < i.cps.toList))) H) mw := by
  intro σ H F θ s x y v w Q b rx ry p
  unfold mw at p
  split at p
  · rename_i i j
    exact ⟨i, j, cf.mp rx, cf.mp ry, cV p b (bO.mpr rfl)⟩
  · exact False.elim p
def nj (f g : Op2) (a b c : EM) : EM := fun s => (a s).bind fun x => (b x.2).bind fun y => (f y.2.o x.1 y.1).bind fun z => match z with
  | .bl true => (c y.2).bind fun w => (g w.2.o y.1 w.1).bind fun d => .ok (d, w.2)
  | .bl false => .ok (.bl false, y.2)
  | _ => .bad
theorem zu {r r' : R2} {f g : Op2} {ta tb tc : TE} {ma mb mc : EM} (hf : fC C r f) (hg : fC C r' g) (ha : RdE C ta ma) (hb : RdE C tb mb) (hc : RdE C tc mc) : RdE C (yA r r' ta tb tc) (nj f g ma mb mc) := by
  intro σ H F θ s Q b p
  refine ha σ H F θ s _ b (PoR.bind p ?_)
  rintro ⟨x, s1⟩ H1 F1 θ1 _ st1 p1 b1 v r1
  refine hb σ H1 F1 θ1 s1 _ b1 (PoR.bind p1 ?_)
  rintro ⟨y, s2⟩ H2 F2 θ2 _ st2 p2 b2 w r2
  dsimp only at p2
  refine hf σ H2 F2 θ2 s2 x y v w _ b2 (r1.mono st2.ff st2.pre) r2 ?_
  cases e : f s2.o x y with
  | bad => rw [e] at p2; exact p2
  | exc a1 a2 a3 => rw [e] at p2; exact p2
  | ok z =>
    rw [e, aa] at p2
    rw [aa]
    intro H3 F3 θ3 st3 b3 u r3
    cases z <;> first | exact False.elim p2 | skip
    rename_i k
    refine ⟨k, bO.mp r3, ?_⟩
    cases k with
    | false => exact qB (PoR.after st3 p2 _ _ _ .refl b3 _ (bO.mpr rfl))
    | true =>
      refine qJ (hc σ H3 F3 θ3 s2 _ b3 (PoR.bind (PoR.after st3 p2) ?_))
      rintro ⟨q, s4⟩ H4 F4 θ4 _ st4 p4 b4 w' r4
      exact hg σ H4 F4 θ4 s4 y q w w' Q b4 ((r2.mono st3.ff st3.pre).mono st4.ff st4.pre) r4 p4
theorem au.erase {K : PySem.W.Frag} {ca : Nat → Addr} {θ : List Addr} {F : Hp} : ∀ {ds : List D} {xs : List V} (i : Nat), au K ca θ F ds xs → au K ca θ F (ds.eraseIdx i) (xs.eraseIdx i)
  | [], _, _, k => by unfold au at k; rw [k]; exact au.nil
  | _ :: _, _, 0, k => by
    unfold au at k
    obtain ⟨v, r, rfl, h1, h2⟩ := k
    exact h2
  | _ :: _, _, i + 1, k => by
    unfold au at k
    obtain ⟨v, r, rfl, h1, h2⟩ := k
    exact au.cons h1 (au.erase i h2)
def wN (n : Nat) (f : FM) (ma : AM) : EM := fun s => (ma s).bind fun x => if x.1.length = n then (match f x.1 x.2.o with
  | .ok (d, O1) => .ok (d, ⟨x.2.r, O1⟩)
  | _ => .bad) else .bad
def CL (k : Int) (ds : List D) : List D := (List.replicate k.toNat ds).flatten
def E3 (fin : S → List D → Res (D × S)) (ma : AM) (mk : EM) : EM := fun s => (ma s).bind fun x => if x.1.length ≤ 16777216 then (mk x.2).bind fun y => match y.1 with
    | .int k => if (-(2 ^ 63) ≤ k ∧ k < 2 ^ 63) ∧ x.1.length * k.toNat ≤ 16777216 then fin y.2 (CL k x.1) else .bad
    | _ => .bad
  else .bad
def Fj : S → List D → Res (D × S) := fun s ds => .ok (.lst ds, s)
def EX : S → List D → Res (D × S) := fun s ds => .ok (.ptr s.o.length, ⟨s.r, s.o ++ [.lst ds]⟩)
def Fh (m : EM) : TM := fun s => (m s).bind fun x => match lsD x.2.o x.1 with
  | some ds => .ok (!ds.isEmpty, x.2)
  | none => .bad
end
end M
set_option maxRecDepth 100000
set_option maxHeartbeats 4000000
namespace M
open PySem PySem.Spec PyProof.Rows L2
section
variable {C : Ct}
end
end M
set_option maxRecDepth 100000
set_option maxHeartbeats 4000000
namespace M
open PySem PySem.Spec PyProof.Rows L2
section
variable {C : Ct}
end
end M
set_option maxRecDepth 100000
set_option maxHeartbeats 4000000
namespace M
open PySem PySem.Spec PyProof.Rows L2
section
variable {C : Ct}
def slS (me : EM) (ml mh : OM) : EM := fun s => (me s).bind fun x => (ml x.2).bind fun l => (mh l.2).bind fun h => match x.1 with
  | .str z => if z.length ≤ 16777216 then .ok (.str (iA z l.1 h.1), h.2) else .bad
  | _ => .bad
theorem uC {te : TE} {tl th : TO} {me : EM} {ml mh : OM} (he : RdE C te me) (hl : RdO C tl ml) (hh : RdO C th mh) : RdE C (tSl AS te tl th) (slS me ml mh) := by
  intro σ H F θ s Q b p
  refine he σ H F θ s _ b (PoR.bind p ?_)
  rintro ⟨x, s1⟩ H1 F1 θ1 _ st1 p1 b1 v r1
  refine hl σ H1 F1 θ1 s1 _ b1 (PoR.bind p1 ?_)
  rintro ⟨l, s2⟩ H2 F2 θ2 _ st2 p2 b2
  refine hh σ H2 F2 θ2 s2 _ b2 (PoR.bind p2 ?_)
  rintro ⟨h, s3⟩ H3 F3 θ3 _ st3 p3 b3
  dsimp only at p3 ⊢
  split at p3
  · rename_i z _
    split at p3
    · rename_i hz
      exact ⟨z, cf.mp r1, by rw [sizeLine_eq]; exact hz, p3 _ _ _ .refl b3 _ (cf.mpr rfl)⟩
    · exact False.elim p3
  · exact False.elim p3
theorem uu (me : EM) (ml mh : OM) (s : S) : slS me ml mh s = (me s).bind fun x => (ml x.2).bind fun l => (mh l.2).bind fun h => match x.1 with
  | .str z => if z.length ≤ 16777216 then .ok (.str (iA z l.1 h.1), h.2) else .bad
  | _ => .bad := rfl
end
end M
set_option maxRecDepth 100000
set_option maxHeartbeats 4000000
namespace M
open PySem PySem.Spec PyProof.Rows L2
section
variable {C : Ct}
def jw : List D → Option (List Str)
  | [] => some []
  | .str z :: r => match jw r with
    | some zs => some (z :: zs)
    | none => none
  | _ => none
theorem rl : ∀ {ds : List D} {zs : List Str}, jw ds = some zs → ds = zs.map D.str
  | [], zs, h => by cases h; rfl
  | d :: ds, zs, h => by
    cases d <;> first | (simp [jw] at h; done) | skip
    rename_i z
    unfold jw at h
    cases e : jw ds with
    | none => rw [e] at h; cases h
    | some ys =>
      rw [e] at h
      cases h
      rw [rl e]; rfl
theorem mz : ∀ zs : List Str, jw (zs.map D.str) = some zs
  | [] => rfl
  | z :: zs => by rw [List.map_cons]; unfold jw; rw [mz zs]
def inB (O : aw) (x y : D) : Option Bool := match x with
  | .str a => match lsD O y with
    | some ds => match jw ds with
      | some zs => some (zs.any (· == a))
      | none => none
    | none => none
  | .int a => match lsD O y with
    | some ds => match fb ds with
      | some zs => some (zs.any (· == a))
      | none => none
    | none => none
  | _ => none
def inD : Op2 := fun O x y => match inB O x y with
  | some b => .ok (.bl b)
  | none => .bad
def m9 : Op2 := fun O x y => match inB O x y with
  | some b => .ok (.bl (!b))
  | none => .bad
theorem rj {K : PySem.W.Frag} {ca : Nat → Addr} {θ : List Addr} {F : Hp} : ∀ {zs : List Str} {xs : List V}, au K ca θ F (zs.map D.str) xs → xs = zs.map V.str
  | [], xs, h => by unfold au at h; exact h
  | z :: zs, xs, h => by
    rw [List.map_cons] at h
    unfold au at h
    obtain ⟨v, r, rfl, h1, h2⟩ := h
    rw [cf.mp h1, rj h2]; rfl
theorem pK {K : PySem.W.Frag} {ca : Nat → Addr} {θ : List Addr} {F : Hp} : ∀ {zs : List Int} {xs : List V}, au K ca θ F (zs.map D.int) xs → xs = zs.map V.int
  | [], xs, h => by unfold au at h; exact h
  | z :: zs, xs, h => by
    rw [List.map_cons] at h
    unfold au at h
    obtain ⟨v, r, rfl, h1, h2⟩ := h
    rw [aW.mp h1, pK h2]; rfl
theorem pC : ∀ {ds : List D} {zs : List Int}, fb ds = some zs → ds = zs.map D.int
  | [], zs, h => by unfold fb at h; cases h; rfl
  | d :: ds, zs, h => by
    cases d <;> first | (simp [fb] at h; done) | skip
    rename_i z
    unfold fb at h
    cases e : fb ds with
    | none => rw [e] at h; cases h
    | some ys =>
      rw [e] at h
      cases h
      rw [pC e]; rfl
theorem vO {σ : L2.St} {H F : Hp} {θ : List Addr} {s : S} {x y : D} {v w : V} {q : Bool} (b : BS C.K C.ca σ H F θ s) (rx : Rep C.K C.ca θ F x v) (ry : Rep C.K C.ca θ F y w) (e : inB s.o x y = some q) :
    ∃ p xs, w = .ref p ∧ SqL C.K H p xs ∧ jj v = true ∧ xs.all jj = true ∧ inV v xs = q := by
  unfold inB at e
  split at e
  · rename_i a
    split at e
    · rename_i ds e1
      split at e
      · rename_i zs e2
        cases e
        obtain ⟨p, xs, rfl, hs, hr⟩ := gL b ry e1
        rw [rl e2] at hr
        have hx := rj hr
        subst hx
        rw [cf.mp rx]
        refine ⟨p, _, rfl, hs, rfl, ?_, ?_⟩
        · rw [List.all_map, List.all_eq_true]; intro z _; rfl
        · unfold inV; rw [List.any_map]; rfl
      · cases e
    · cases e
  · rename_i a
    split at e
    · rename_i ds e1
      split at e
      · rename_i zs e2
        cases e
        obtain ⟨p, xs, rfl, hs, hr⟩ := gL b ry e1
        rw [pC e2] at hr
        have hx := pK hr
        subst hx
        rw [aW.mp rx]
        refine ⟨p, _, rfl, hs, rfl, ?_, ?_⟩
        · rw [List.all_map, List.all_eq_true]; intro z _; rfl
        · unfold inV; rw [List.any_map]; rfl
      · cases e
    · cases e
  · cases e
theorem As : fC C (rIn C.K false) inD := by
  intro σ H F θ s x y v w Q b rx ry p
  unfold inD at p
  split at p
  · rename_i q e
    obtain ⟨a, xs, rfl, h1, h2, h3, h4⟩ := vO b rx ry e
    exact ⟨a, xs, rfl, .inl h1, h2, h3, cV p b (bO.mpr (by rw [if_neg (by decide), h4]))⟩
  · exact False.elim p
theorem z3 : fC C (rIn C.K true) m9 := by
  intro σ H F θ s x y v w Q b rx ry p
  unfold m9 at p
  split at p
  · rename_i q e
    obtain ⟨a, xs, rfl, h1, h2, h3, h4⟩ := vO b rx ry e
    exact ⟨a, xs, rfl, .inl h1, h2, h3, cV p b (bO.mpr (by rw [if_pos rfl, h4]))⟩
  · exact False.elim p
def lJ (f : Str) : List Str → List D → Option D
  | n :: ns, d :: ds => if n = f then some d else lJ f ns ds
  | _, _ => none
theorem tM {K : PySem.W.Frag} {ca : Nat → Addr} {θ : List Addr} {F : Hp} {f : Str} : ∀ {ns : List Str} {ds : List D} {xs : List V} {d : D}, au K ca θ F ds xs → lJ f ns ds = some d → ∃ v, (ns.zip xs).lookup f = some v ∧ Rep K ca θ F d v
  | [], _, _, _, _, e => by simp [lJ] at e
  | _ :: _, [], _, _, _, e => by simp [lJ] at e
  | n :: ns, d :: ds, xs, d', h, e => by
    unfold au at h
    obtain ⟨v, r, rfl, h1, h2⟩ := h
    unfold lJ at e
    rw [List.zip_cons_cons, List.lookup_cons]
    by_cases hn : n = f
    · rw [if_pos hn] at e
      cases e
      subst hn
      exact ⟨v, by simp, h1⟩
    · rw [if_neg hn] at e
      obtain ⟨u, e1, e2⟩ := tM h2 e
      refine ⟨u, ?_, e2⟩
      rw [show (f == n) = false by simpa using fun z => hn z.symm]
      exact e1
def kS (c : Nat) (f : Str) (me : EM) : EM := fun s => (me s).bind fun x => match x.1 with
  | .obj c' ns ds => if c' = c then (match lJ f ns ds with
    | some d => .ok (d, x.2)
    | none => .bad) else .bad
  | _ => .bad
theorem tZ {c : Nat} {f : Str} {ta : TE} {me : EM} (hc : Cls C.K (C.ca c)) (hn : dU C.K (C.ca c) f) (h : RdE C ta me) : RdE C (CI C.K ta f) (kS c f me) := by
  intro σ H F θ s Q b p
  refine h σ H F θ s _ b (PoR.bind p ?_)
  rintro ⟨x, s1⟩ H1 F1 θ1 _ st1 p1 b1 v r1
  dsimp only at p1 b1 r1
  split at p1
  · rename_i c' ns ds _
    split at p1
    · rename_i hcc
      subst hcc
      split at p1
      · rename_i d e
        unfold Rep at r1
        obtain ⟨a, dx, xs, rfl, ha, hl, hr⟩ := r1
        obtain ⟨u, e1, e2⟩ := tM hr e
        exact ⟨a, _, dx, _, u, rfl, b1.now.fh _ _ ha, hc, hn, e1, p1 _ _ _ .refl b1 _ e2⟩
      · exact False.elim p1
    · exact False.elim p1
  · exact False.elim p1
theorem vR (c : Nat) (f : Str) (me : EM) (s : S) : kS c f me s = (me s).bind fun x => match x.1 with
  | .obj c' ns ds => if c' = c then (match lJ f ns ds with
    | some d => .ok (d, x.2)
    | none => .bad) else .bad
  | _ => .bad := rfl
theorem lookup_none {f : Str} : ∀ {ns : List Str} {xs : List V}, f ∉ ns → (ns.zip xs).lookup f = none
  | [], _, _ => rfl
  | _ :: _, [], _ => rfl
  | n :: ns, x :: xs, h => by
    rw [List.zip_cons_cons, List.lookup_cons, show (f == n) = false by simpa using fun z => h (by simp [z])]
    exact lookup_none fun z => h (by simp [z])
theorem tY {f : Str} {y : V} : ∀ {ns : List Str} {xs : List V}, ns.length = xs.length → f ∉ ns → gD f y (ns.zip xs) = (ns ++ [f]).zip (xs ++ [y])
  | [], [], _, _ => rfl
  | n :: ns, x :: xs, hl, h => by
    rw [List.zip_cons_cons]
    unfold gD
    rw [if_neg (fun z => h (by simp [z])), tY (by simpa using hl) fun z => h (by simp [z])]
    rfl
theorem BS.setI {K : PySem.W.Frag} {ca : Nat → Addr} {σ : L2.St} {H F : Hp} {θ : List Addr} {s : S} (b : BS K ca σ H F θ s) {k : Nat} {a dx : Addr} {c : Cell} {cl : Nat} {ns : List Str} (hk : θ[k]? = some a) (hc : s.o[k]? = some c) (hF : F a = none) {ds : List D} {xs : List V} (hl : ns.length = xs.length) (hr : au K ca θ F ds xs) :
    Stp H F θ (upd H a (.ins (ca cl) dx (ns.zip xs))) F θ ∧ BS K ca σ (upd H a (.ins (ca cl) dx (ns.zip xs))) F θ ⟨s.r, s.o.set k (.ins cl ns ds)⟩ := by
  have hm : a ∈ θ := List.mem_of_getElem? hk
  refine ⟨⟨bc.refl _, ⟨[], by simp, by simp⟩, fun e o he hb => ?_, fun e o he => ?_, fun e o he => .inl he⟩, ⟨⟨fun e o he => ?_, b.now.nd, by simpa using b.now.ln, fun j a' c' e1 e2 => ?_⟩, b.len, b.sl⟩⟩
  · have ne : e ≠ a := fun z => hb (by rw [z]; exact hm)
    rw [aG ne]; exact he
  · by_cases z : e = a
    · subst z; exact ⟨_, bP⟩
    · exact ⟨o, by rw [aG z]; exact he⟩
  · have ne : e ≠ a := fun z => by rw [z, hF] at he; cases he
    rw [aG ne]
    exact b.now.fh _ _ he
  · by_cases hj : k = j
    · subst hj
      rw [hk] at e1; cases e1
      have : k < s.o.length := (List.getElem?_eq_some_iff.mp hc).1
      rw [List.getElem?_set_self this] at e2
      cases e2
      exact ⟨hF, dx, xs, bP, hl, hr⟩
    · rw [List.getElem?_set_ne hj] at e2
      have q := b.now.ce j a' c' e1 e2
      have ne : a' ≠ a := fun z => by
        subst z
        exact hj (lV b.now.nd hk e1)
      cases c' with
      | dead => obtain ⟨o, ho⟩ := q; exact ⟨o, by rw [aG ne]; exact ho⟩
      | lst ds => obtain ⟨q1, ys, q2, q3⟩ := q; exact ⟨q1, ys, by rw [aG ne]; exact q2, q3⟩
      | ins c ns ds => obtain ⟨q1, dx, ys, q2, q3⟩ := q; exact ⟨q1, dx, ys, by rw [aG ne]; exact q2, q3⟩
def lY (c : Nat) (f : Str) (mo mv : EM) : SM := fun s => (mv s).out fun y => (mo y.2).out fun x => match x.1 with
  | .ptr k => match x.2.o[k]? with
    | some (.ins c' ns ds) => if c' = c ∧ f ∉ ns ∧ ns.length < 1000 then .next ⟨x.2.r, x.2.o.set k (.ins c (ns ++ [f]) (ds ++ [y.1]))⟩ else .bad
    | _ => .bad
  | _ => .bad
theorem zq (c : Nat) (f : Str) (mo mv : EM) (s : S) : lY c f mo mv s = (mv s).out fun y => (mo y.2).out fun x => match x.1 with
  | .ptr k => match x.2.o[k]? with
    | some (.ins c' ns ds) => if c' = c ∧ f ∉ ns ∧ ns.length < 1000 then .next ⟨x.2.r, x.2.o.set k (.ins c (ns ++ [f]) (ds ++ [y.1]))⟩ else .bad
    | _ => .bad
  | _ => .bad := rfl
end
end M
set_option maxRecDepth 100000
set_option maxHeartbeats 4000000
namespace M
open PySem PySem.Spec PyProof.Rows L2
section
variable {C : Ct}
theorem qU {c : Nat} {f : Str} {ta tv : TE} {mo mv : EM} (hc : Cls C.K (C.ca c)) (hn : dU C.K (C.ca c) f) (ho : RdE C ta mo) (hv : RdE C tv mv) : RdS C (CV C.K ta tv f) (lY c f mo mv) := by
  intro σ H F θ s Q b p
  unfold lY at p
  refine hv σ H F θ s _ b (PoS.out p ?_)
  rintro ⟨y, s1⟩ H1 F1 θ1 _ st1 p1 b1 v r1
  dsimp only at p1 b1 r1
  refine ho σ H1 F1 θ1 s1 _ b1 (PoS.out p1 ?_)
  rintro ⟨x, s2⟩ H2 F2 θ2 _ st2 p2 b2 w r2
  dsimp only at p2 b2 r2
  split at p2
  · rename_i k _
    split at p2
    · rename_i c' ns ds e
      split at p2
      · rename_i hh
        obtain ⟨rfl, hf, hl⟩ := hh
        unfold Rep at r2
        obtain ⟨a, rfl, hk⟩ := r2
        obtain ⟨h0, dx, xs, h1, h2, h3⟩ : ir C.K C.ca H2 F2 θ2 a (.ins c' ns ds) := b2.now.ce k a _ hk e
        have hlen : (ns ++ [f]).length = (xs ++ [v]).length := by simp [h2]
        obtain ⟨st3, b3⟩ := b2.setI (dx := dx) (cl := c') (ns := ns ++ [f]) hk e h0 hlen (h3.append (au.one (r1.mono st2.ff st2.pre)))
        refine ⟨a, _, dx, _, rfl, h1, hc, hn, ?_, ?_⟩
        · rw [List.length_zip]; omega
        · rw [tY h2 hf]
          exact p2 σ _ _ _ st3 b3
      · exact False.elim p2
    · exact False.elim p2
  · exact False.elim p2
def su (c n : Nat) (f : FM) (ma : AM) : EM := fun s => (ma s).bind fun x => if ax x.1 = true ∧ x.1.length = n then (match f (.ptr 0 :: x.1) [.ins c [] []] with
  | .ok (.non, .ins c' ns ds :: _) => if c' = c ∧ ax ds = true then .ok (.obj c ns ds, x.2) else .bad
  | _ => .bad) else .bad
theorem Now.dies {K : PySem.W.Frag} {ca : Nat → Addr} {H F : Hp} {O : aw} {c : Nat} {ns : List Str} {ds : List D} {x : Addr} {r : List Addr} (n : Now K ca H F (x :: r) (.ins c ns ds :: O)) :
    ∃ dx xs, H x = some (.ins (ca c) dx (ns.zip xs)) ∧ ns.length = xs.length ∧ au K ca (x :: r) F ds xs ∧ F x = none ∧ bc F (upd F x (.ins (ca c) dx (ns.zip xs))) ∧ Now K ca H (upd F x (.ins (ca c) dx (ns.zip xs))) (x :: r) (.dead :: O) := by
  obtain ⟨h0, dx, xs, h1, h2, h3⟩ : ir K ca H F (x :: r) x (.ins c ns ds) := n.ce 0 x _ rfl rfl
  have sF : bc F (upd F x (.ins (ca c) dx (ns.zip xs))) := fun e o he => by
    rw [aG (fun z => by rw [z, h0] at he; cases he)]; exact he
  refine ⟨dx, xs, h1, h2, h3, h0, sF, ⟨fun e o he => ?_, n.nd, n.ln, fun j a' c' e1 e2 => ?_⟩⟩
  · by_cases z : e = x
    · subst z; rw [bP] at he; rw [h1]; exact he
    · rw [aG z] at he; exact n.fh _ _ he
  · cases j with
    | zero =>
      cases e1
      cases e2
      exact ⟨_, h1⟩
    | succ j =>
      have q := n.ce (j + 1) a' c' e1 e2
      have ne : a' ≠ x := fun z => by
        subst z
        have := lV n.nd (show (a' :: r)[0]? = some a' from rfl) e1
        omega
      cases c' with
      | dead => exact q
      | lst ds => obtain ⟨q1, ys, q2, q3⟩ := q; exact ⟨by rw [aG ne]; exact q1, ys, q2, q3.mono sF ⟨[], by simp⟩⟩
      | ins c ns ds => obtain ⟨q1, dx, ys, q2, q3, q4⟩ := q; exact ⟨by rw [aG ne]; exact q1, dx, ys, q2, q3, q4.mono sF ⟨[], by simp⟩⟩
theorem Bw {c n : Nat} {f : FM} {ta : TA} {ma : AM} {E : XK} (ha : RdA C ta ma) : RdE C (AQ (C.ca c) (spM C.K C.ca (n + 1) f) [] E ta) (su c n f ma) := by
  intro σ H F θ s Q b p
  refine ha σ H F θ s _ b (PoR.bind p ?_)
  rintro ⟨x, s1⟩ H1 F1 θ1 _ st1 p1 b1 v r1
  dsimp only at p1 b1 r1 ⊢
  split at p1
  · rename_i hp
    split at p1
    · rename_i c' ns ds O1 e
      split at p1
      · rename_i hh
        obtain ⟨rfl, hpd⟩ := hh
        intro y dx hy hdx hne
        have nx : ∀ a u, H1 a = some u → a ≠ y := fun a u e z => by rw [z, hy] at e; cases e
        have nd : ∀ a u, H1 a = some u → a ≠ dx := fun a u e z => by rw [z, hdx] at e; cases e
        have Fy : F1 y = none := by
          cases eF : F1 y with
          | none => rfl
          | some u => rw [b1.now.fh y u eF] at hy; cases hy
        have up : ∀ a u, H1 a = some u → upd (upd H1 dx (.own y)) y (.ins (C.ca c') dx []) a = some u := fun a u e => by
          rw [aG (nx a u e), aG (nd a u e)]; exact e
        have dn : ∀ a, upd (upd H1 dx (.own y)) y (.ins (C.ca c') dx []) a = none → H1 a = none := fun a z => by
          cases e : H1 a with
          | none => rfl
          | some u => rw [up a u e] at z; cases z
        rw [List.append_nil]
        refine ⟨F1, [y], .ptr 0 :: x, [.ins c' [] []], ⟨fun a u e => up a u (b1.now.fh a u e), by simp, rfl, fun k a cc e1 e2 => ?_⟩, au.cons (by unfold Rep; exact ⟨y, rfl, rfl⟩) (r1.pure hp.1), by simp [hp.2], ?_⟩
        · cases k with
          | zero =>
            cases e1
            cases e2
            exact ⟨Fy, dx, [], bP, rfl, au.nil⟩
          | succ k => simp at e1
        · rw [e]
          intro w H2 F2 θ2 st2 n2 rw_
          refine ⟨fE.mp rw_, ?_⟩
          obtain ⟨r, rfl, hr⟩ := st2.th
          obtain ⟨dx', xs, g1, g2, g3, g4, sF, n3⟩ := Now.dies n2
          have st3 : Stp H1 F1 [] H2 (upd F2 y (.ins (C.ca c') dx' (ns.zip xs))) (y :: r) := by
            refine ⟨st2.ff.trans sF, ⟨y :: r, rfl, fun a ha => ?_⟩, fun a o h _ => ?_, fun a o h => st2.al a o (up a o h), fun a o h => ?_⟩
            · rcases List.mem_cons.mp ha with rfl | z
              · exact hy
              · exact dn a (hr a z)
            · exact st2.kp a o (up a o h) (by simpa using nx a o h)
            · by_cases z : a = y
              · subst z; exact .inr (.inl hy)
              · rw [aG z] at h
                rcases st2.nf a o h with q | q | q
                · exact .inl q
                · exact .inr (.inl (dn a q))
                · exact absurd (by simpa using q) z
          obtain ⟨st4, b4⟩ := b1.called st3 n3
          refine p1 H2 _ θ1 st4 b4 (.ref y) ?_
          unfold Rep
          exact ⟨y, dx', xs, rfl, bP, g2, au.mono (θ := θ1) sF ⟨[], by simp⟩ (au.pure hpd g3)⟩
      · exact False.elim p1
    · exact False.elim p1
  · exact False.elim p1
theorem Ae {c n : Nat} {f : FM} {ma : AM} {s s' : S} {args ds : List D} {ns : List Str} {O : aw} (h : ma s = .ok (args, s')) (hp : ax args = true) (hl : args.length = n) (hf : f (.ptr 0 :: args) [.ins c [] []] = .ok (.non, .ins c ns ds :: O)) (hd : ax ds = true) : su c n f ma s = .ok (.obj c ns ds, s') := by
  unfold su
  rw [h, aa]
  dsimp only
  rw [if_pos ⟨hp, hl⟩, hf]
  dsimp only
  rw [if_pos ⟨rfl, hd⟩]
def methP (c : Nat) (m : Str) (n : Nat) (f : FM) (mo : EM) (ma : AM) : EM := fun s => (mo s).bind fun x => match x.1 with
  | .obj c' ns ds => if c' = c ∧ m ∉ ns ∧ ax ds = true then (ma x.2).bind fun y => if ax y.1 = true ∧ y.1.length = n then (match f (x.1 :: y.1) [] with
    | .ok (d, _) => if bG d = true then .ok (d, y.2) else .bad
    | _ => .bad) else .bad else .bad
  | _ => .bad
theorem lX {c n : Nat} {m : Str} {f : FM} {to : TE} {ta : TA} {mo : EM} {ma : AM} {E : XK} (ho : RdE C to mo) (ha : RdA C ta ma) : RdE C (sr (C.ca c) m (spM C.K C.ca (n + 1) f) [] E to ta) (methP c m n f mo ma) := by
  intro σ H F θ s Q b p
  refine ho σ H F θ s _ b (PoR.bind p ?_)
  rintro ⟨x, s1⟩ H1 F1 θ1 _ st1 p1 b1 v r1
  dsimp only at p1 b1 r1 ⊢
  split at p1
  · rename_i c' ns ds _
    split at p1
    · rename_i hh
      obtain ⟨rfl, hm, hpd⟩ := hh
      obtain ⟨a, dx, xs, rfl, h1, h2, h3⟩ : ∃ a dx xs, v = .ref a ∧ F1 a = some (.ins (C.ca c') dx (ns.zip xs)) ∧ ns.length = xs.length ∧ au C.K C.ca θ1 F1 ds xs := by unfold Rep at r1; exact r1
      refine ⟨a, dx, _, rfl, b1.now.fh _ _ h1, lookup_none hm, ha σ H1 F1 θ1 s1 _ b1 (PoR.bind p1 ?_)⟩
      rintro ⟨y, s2⟩ H2 F2 θ2 _ st2 p2 b2 w r2
      dsimp only at p2 b2 r2 ⊢
      split at p2
      · rename_i hp
        rw [List.append_nil]
        refine ⟨F2, [], .obj c' ns ds :: y, [], Now.nil b2.now.fh, au.cons ((r1.mono st2.ff st2.pre).pure (by unfold bG; exact hpd)) (r2.pure hp.1), by simp [hp.2], ?_⟩
        split at p2
        · rename_i d O1 e
          rw [e]
          intro v H3 F3 θ3 st3 n3 rv
          obtain ⟨st4, b4⟩ := b2.called st3 n3
          split at p2
          · rename_i hd
            exact p2 H3 F3 _ st4 b4 v (rv.pure hd)
          · exact False.elim p2
        · exact False.elim p2
      · exact False.elim p2
    · exact False.elim p1
  · exact False.elim p1
theorem o9 {c n : Nat} {m : Str} {f : FM} {mo : EM} {ma : AM} {s s1 s2 : S} {ns : List Str} {ds args : List D} {d : D} {O : aw} (ho : mo s = .ok (.obj c ns ds, s1)) (hm : m ∉ ns) (hd : ax ds = true) (ha : ma s1 = .ok (args, s2)) (hp : ax args = true) (hl : args.length = n) (hf : f (.obj c ns ds :: args) [] = .ok (d, O)) (hr : bG d = true) :
    methP c m n f mo ma s = .ok (d, s2) := by
  unfold methP
  rw [ho, aa]
  dsimp only
  rw [if_pos ⟨rfl, hm, hd⟩, ha, aa]
  dsimp only
  rw [if_pos ⟨hp, hl⟩, hf]
  dsimp only
  rw [if_pos hr]
def mG (c : Nat) (m : Str) (n : Nat) (f : FM) (mo : EM) (ma : AM) : EM := fun s => (mo s).bind fun x => match x.1 with
  | .obj c' ns ds => if c' = c ∧ m ∉ ns ∧ ax ds = true then (ma x.2).bind fun y => if ax y.1 = true ∧ y.1.length = n then (match f (x.1 :: y.1) [] with
    | .ok (d, O1) => .ok (shD y.2.o.length d, ⟨y.2.r, y.2.o ++ O1.map (shC y.2.o.length)⟩)
    | _ => .bad) else .bad else .bad
  | _ => .bad
theorem tX {c n : Nat} {m : Str} {f : FM} {to : TE} {ta : TA} {mo : EM} {ma : AM} {E : XK} (ho : RdE C to mo) (ha : RdA C ta ma) : RdE C (sr (C.ca c) m (spM C.K C.ca (n + 1) f) [] E to ta) (mG c m n f mo ma) := by
  intro σ H F θ s Q b p
  refine ho σ H F θ s _ b (PoR.bind p ?_)
  rintro ⟨x, s1⟩ H1 F1 θ1 _ st1 p1 b1 v r1
  dsimp only at p1 b1 r1 ⊢
  split at p1
  · rename_i c' ns ds _
    split at p1
    · rename_i hh
      obtain ⟨rfl, hm, hpd⟩ := hh
      obtain ⟨a, dx, xs, rfl, h1, h2, h3⟩ : ∃ a dx xs, v = .ref a ∧ F1 a = some (.ins (C.ca c') dx (ns.zip xs)) ∧ ns.length = xs.length ∧ au C.K C.ca θ1 F1 ds xs := by unfold Rep at r1; exact r1
      refine ⟨a, dx, _, rfl, b1.now.fh _ _ h1, lookup_none hm, ha σ H1 F1 θ1 s1 _ b1 (PoR.bind p1 ?_)⟩
      rintro ⟨y, s2⟩ H2 F2 θ2 _ st2 p2 b2 w r2
      dsimp only at p2 b2 r2 ⊢
      split at p2
      · rename_i hp
        rw [List.append_nil]
        refine ⟨F2, [], .obj c' ns ds :: y, [], Now.nil b2.now.fh, au.cons ((r1.mono st2.ff st2.pre).pure (by unfold bG; exact hpd)) (r2.pure hp.1), by simp [hp.2], ?_⟩
        split at p2
        · rename_i d O1 e
          rw [e]
          intro v H3 F3 θ3 st3 n3 rv
          obtain ⟨st4, b4⟩ := b2.calledO st3 n3
          refine p2 H3 F3 _ st4 b4 v ?_
          rw [← b2.now.ln]
          exact uI rv
        · exact False.elim p2
      · exact False.elim p2
    · exact False.elim p1
  · exact False.elim p1
theorem Aj {c n : Nat} {m : Str} {f : FM} {mo : EM} {ma : AM} {s s1 s2 : S} {ns : List Str} {ds args : List D} {d : D} {O : aw} (ho : mo s = .ok (.obj c ns ds, s1)) (hm : m ∉ ns) (hd : ax ds = true) (ha : ma s1 = .ok (args, s2)) (hp : ax args = true) (hl : args.length = n) (hf : f (.obj c ns ds :: args) [] = .ok (d, O)) :
    mG c m n f mo ma s = .ok (shD s2.o.length d, ⟨s2.r, s2.o ++ O.map (shC s2.o.length)⟩) := by
  unfold mG
  rw [ho, aa]
  dsimp only
  rw [if_pos ⟨rfl, hm, hd⟩, ha, aa]
  dsimp only
  rw [if_pos ⟨hp, hl⟩, hf]
def MethAt (P : Program) (w : World) (K : PySem.W.Frag) (mg : Str → Option Value) (base : Heap) (ca : Nat → Addr) (lv : Nat) (C : Addr) (x : Str) (ps : List Str) (f : FM) : Prop :=
  ∃ a fd, dR P w K mg base (CXE P w) lv a fd ps (spM K ca ps.length f) ∧ Meth K C x a ∧ Binds K fd ps []
def xY (P : Program) (w : World) (K : PySem.W.Frag) (mg : Str → Option Value) (base : Heap) (ca : Nat → Addr) (lv : Nat) (C : Addr) (x : Str) (ps : List Str) (f : FM) : Prop :=
  ∃ a fd, dR P w K mg base (CXE P w) lv a fd ps (spM K ca ps.length f) ∧ Mk K C a ∧ mg x = some (.ref C) ∧ Binds K fd ps []
end
end M
set_option maxRecDepth 100000
set_option maxHeartbeats 4000000
namespace M
open PySem PySem.Spec PyProof.Rows L2
section
variable {K : PySem.W.Frag} {ca : Nat → Addr} {θ : List Addr} {F G : Hp}
end
open Classical in
noncomputable def Gm (F H : Hp) (θ : List Addr) : Hp := fun a => if a ∈ θ then (match H a with
  | some (.lst xs) => some (.lst xs)
  | _ => F a) else F a
section
variable {C : Ct}
def jN (i : Nat) : EM := fun s => (af i s).bind fun x => match ik x.2.o x.1 with
  | some (k, ds) => .ok (.lst ds, ⟨x.2.r.set i (some (.lst ds)), x.2.o.set k .dead⟩)
  | none => .ok x
theorem zO (i : Nat) : RdE C (uw i) (jN i) := by
  intro σ H F θ s Q b p
  cases e : af i s with
  | bad => unfold jN at p; rw [e] at p; exact False.elim p
  | exc c a o => unfold jN at p; rw [e] at p; exact ag i σ H F θ s Q b (by rw [e]; exact p)
  | ok x =>
    cases hc : ik x.2.o x.1 with
    | some kd =>
      refine BE i σ H F θ s Q b ?_
      unfold yT
      unfold jN at p
      rw [e, aa] at p ⊢
      rw [hc] at p ⊢
      exact p
    | none =>
      refine ag i σ H F θ s Q b ?_
      unfold jN at p
      rw [e, aa, hc] at p
      rw [e]; exact p
theorem Ag (i : Nat) (s : S) : jN i s = (af i s).bind fun x => match ik x.2.o x.1 with
  | some (k, ds) => .ok (.lst ds, ⟨x.2.r.set i (some (.lst ds)), x.2.o.set k .dead⟩)
  | none => .ok x := rfl
end
def clsAt (K : PySem.W.Frag) (x : Str) : Addr := match PySem.W.nsIn K mainGlobals x with
  | some (some (.ref C)) => C
  | _ => 0
section
variable {C : Ct}
def Gk : OpN := fun _ xs => match xs with
  | [.int i, .int j] => .ok (.int (if j > i then j else i))
  | _ => .bad
def pI : OpN := fun _ xs => match xs with
  | [.int i, .int j] => .ok (.int (if j < i then j else i))
  | _ => .bad
theorem A2 : iW C (fun xs H Q => ∃ i j, xs = [.int i, .int j] ∧ Q (.int (if j < i then j else i)) H) pI := by
  intro σ H F θ s xs vs Q b r p
  unfold pI at p
  split at p
  · rename_i i j
    exact ⟨i, j, wO r, cV p b (aW.mpr rfl)⟩
  · exact False.elim p
end
end M
set_option maxRecDepth 100000
set_option maxHeartbeats 4000000
namespace M
open PySem PySem.Spec PyProof.Rows L2
def Wok (C : Ct) (Es : L2.St → XK) : Prop := ∀ σ c a s1 H1 F1 θ1, C.W c a s1 H1 F1 θ1 → BS C.K C.ca σ H1 F1 θ1 s1 → Es σ (.ref (C.ca c)) none H1
theorem sx {K : PySem.W.Frag} {ca : Nat → Addr} {E : XK} : Wok ⟨K, ca, WE ca E⟩ fun _ => E := fun _ _ _ _ _ _ _ h _ => h
section
variable {C : Ct} {Es : L2.St → XK}
def Gj (n : Nat) (f : FM) (ma : AM) : EM := fun s => (ma s).bind fun x => if ax x.1 = true ∧ x.1.length = n then (match f x.1 [] with
  | .ok (d, _) => if bG d = true then .ok (d, x.2) else .bad
  | .exc c a _ => .exc c a x.2
  | .bad => .bad) else .bad
def fc (c : Nat) (m : Str) (n : Nat) (f : FM) (mo : EM) (ma : AM) : EM := fun s => (mo s).bind fun x => match x.1 with
  | .obj c' ns ds => if c' = c ∧ m ∉ ns ∧ ax ds = true then (ma x.2).bind fun y => if ax y.1 = true ∧ y.1.length = n then (match f (x.1 :: y.1) [] with
    | .ok (d, O1) => .ok (shD y.2.o.length d, ⟨y.2.r, y.2.o ++ O1.map (shC y.2.o.length)⟩)
    | .exc c a _ => .exc c a y.2
    | .bad => .bad) else .bad else .bad
  | _ => .bad
theorem lR {c n : Nat} {m : Str} {f : FM} {to : TE} {ta : TA} {mo : EM} {ma : AM} (hW : Wok C Es) (ho : RdE C to mo) (ha : RdA C ta ma) : RdE C (xy (C.ca c) m (spM C.K C.ca (n + 1) f) [] Es to ta) (fc c m n f mo ma) := by
  intro σ H F θ s Q b p
  refine ho σ H F θ s _ b (PoR.bind p ?_)
  rintro ⟨x, s1⟩ H1 F1 θ1 _ st1 p1 b1 v r1
  dsimp only at p1 b1 r1 ⊢
  split at p1
  · rename_i c' ns ds _
    split at p1
    · rename_i hh
      obtain ⟨rfl, hm, hpd⟩ := hh
      obtain ⟨a, dx, xs, rfl, h1, h2, h3⟩ : ∃ a dx xs, v = .ref a ∧ F1 a = some (.ins (C.ca c') dx (ns.zip xs)) ∧ ns.length = xs.length ∧ au C.K C.ca θ1 F1 ds xs := by unfold Rep at r1; exact r1
      refine ⟨a, dx, _, rfl, b1.now.fh _ _ h1, lookup_none hm, ha σ H1 F1 θ1 s1 _ b1 (PoR.bind p1 ?_)⟩
      rintro ⟨y, s2⟩ H2 F2 θ2 _ st2 p2 b2 w r2
      dsimp only at p2 b2 r2 ⊢
      split at p2
      · rename_i hp
        rw [List.append_nil]
        refine ⟨F2, [], .obj c' ns ds :: y, [], Now.nil b2.now.fh, au.cons ((r1.mono st2.ff st2.pre).pure (by unfold bG; exact hpd)) (r2.pure hp.1), by simp [hp.2], ?_⟩
        split at p2
        · rename_i d O1 e
          try rw [e]
          intro v H3 F3 θ3 st3 n3 rv
          obtain ⟨st4, b4⟩ := b2.calledO st3 n3
          refine p2 H3 F3 _ st4 b4 v ?_
          rw [← b2.now.ln]
          exact uI rv
        · rename_i ce ae se e
          try rw [e]
          intro H3 F3 θ3 st3 n3
          obtain ⟨st4, b4⟩ := b2.called st3 n3
          exact hW σ ce ae s2 H3 F3 θ2 (p2 H3 F3 θ2 st4 b4.now) b4
        · exact False.elim p2
      · exact False.elim p2
    · exact False.elim p1
  · exact False.elim p1
def nI (c : Nat) (ma : AM) : SM := fun s => (ma s).out fun x => if x.1.length ≤ 16777216 then .exc c .non x.2 else .bad
theorem uz {c : Nat} {E : XK} {ta : TA} {ma : AM} (hW : Wok C fun _ => E) (ha : RdA C ta ma) : RdS C (yj (C.ca c) E ta) (nI c ma) := by
  intro σ H F θ s Q b p
  refine ha σ H F θ s _ b (PoS.out p ?_)
  rintro ⟨x, s1⟩ H1 F1 θ1 _ st1 p1 b1 v r1
  dsimp only at p1 b1 r1
  split at p1
  · rename_i hl
    exact ⟨by rw [r1.length]; exact hl, hW σ c _ s1 H1 F1 θ1 (p1 H1 F1 θ1 .refl b1.now) b1⟩
  · exact False.elim p1
def sX (mb : SM) (hs : Nat → SM) : SM := fun s => match mb s with
  | .exc c _ s1 => hs c s1
  | o => o
theorem CK {tb : (L2.St → XK) → TS} {th : Addr → TS} {mb : SM} {hs : Nat → SM} (hb : ∀ (W : Wsh) (Es : L2.St → XK), Wok ⟨C.K, C.ca, W⟩ Es → RdS ⟨C.K, C.ca, W⟩ (tb Es) mb) (hh : ∀ c, RdS C (th (C.ca c)) (hs c)) : RdS C (Dv tb th) (sX mb hs) := by
  intro σ H F θ s Q b p
  refine hb (fun c _ s1 H1 F1 θ1 => ∀ σ', BS C.K C.ca σ' H1 F1 θ1 s1 → th (C.ca c) Q σ' H1) _ (fun σ' c a s1 H1 F1 θ1 h b1 => ⟨C.ca c, rfl, rfl, h σ' b1⟩) σ H F θ s Q b ?_
  unfold sX at p
  cases e : mb s with
  | next s1 => rw [e] at p; exact p
  | ret d s1 => rw [e] at p; exact p
  | brk s1 => rw [e] at p; exact p
  | cnt s1 => rw [e] at p; exact p
  | bad => rw [e] at p; exact p
  | exc c a s1 =>
    rw [e] at p
    intro H1 F1 θ1 st n σ' b1
    exact hh c σ' H1 F1 θ1 s1 Q b1 (PoS.after st p)
def exM (sub : Nat → Option Bool) (mb mr : Nat → SM) : Nat → SM := fun c => match sub c with
  | some true => mb c
  | some false => mr c
  | none => kN
def DQ : Nat → SM := fun _ => kN
theorem BM {th : Addr → TS} (c : Nat) : RdS C (th (C.ca c)) (DQ c) := fun σ H F θ s Q b p => False.elim p
theorem Ef {sub : Nat → Option Bool} {Dc : Addr} {tb th : Addr → TS} {mb mr : Nat → SM} (hs : ∀ c b, sub c = some b → PySem.W.exmOne C.K (.ref (C.ca c)) (.ref Dc) = some b) (hb : ∀ c, RdS C (tb (C.ca c)) (mb c)) (hr : ∀ c, RdS C (th (C.ca c)) (mr c)) (c : Nat) :
    RdS C (tEx (fun A => PySem.W.exmOne C.K (.ref A) (.ref Dc)) tb th (C.ca c)) (exM sub mb mr c) := by
  intro σ H F θ s Q b p
  unfold exM at p
  unfold tEx
  cases e : sub c with
  | none => rw [e] at p; exact False.elim p
  | some q =>
    dsimp only
    rw [hs c _ e]
    rw [e] at p
    cases q with
    | true => exact hb c σ H F θ s Q b p
    | false => exact hr c σ H F θ s Q b p
theorem BS.unset {K : PySem.W.Frag} {ca : Nat → Addr} {σ : L2.St} {H F : Hp} {θ : List Addr} {s : S} (b : BS K ca σ H F θ s) (i : Nat) : BS K ca (σ.set i none) H F θ ⟨s.r.set i none, s.o⟩ := by
  refine ⟨b.now, by simp [b.len], fun j e hj => ?_⟩
  by_cases hji : i = j
  · subst hji
    have hlt : i < s.r.length := by
      have := (List.getElem?_eq_some_iff.mp hj).1
      simpa using this
    rw [List.getElem?_set_self hlt] at hj
    cases hj
  · rw [List.getElem?_set_ne hji] at hj
    obtain ⟨u, h1, h2⟩ := b.sl j e hj
    exact ⟨u, by rw [List.getElem?_set_ne hji]; exact h1, h2⟩
def asM (i : Nat) (mb : SM) : Nat → SM := fun c s => match mb ⟨s.r.set i (some (.exn c)), s.o⟩ with
  | .next s1 => .next ⟨s1.r.set i none, s1.o⟩
  | .brk s1 => .brk ⟨s1.r.set i none, s1.o⟩
  | .cnt s1 => .cnt ⟨s1.r.set i none, s1.o⟩
  | .ret d s1 => .ret d s1
  | _ => .bad
theorem Eu {i : Nat} {tb : TS} {mb : SM} (hb : RdS C tb mb) (c : Nat) : RdS C (tAs i tb (C.ca c)) (asM i mb c) := by
  intro σ H F θ s Q b p x hx
  obtain ⟨st, b1, sF, fx⟩ := b.newF hx (exO x (C.ca c))
  have b2 := b1.set (d := .exn c) (v := .ref x) (by unfold Rep; exact ⟨x, rfl, fx⟩) i
  refine hb _ _ _ θ _ _ b2 ?_
  unfold asM at p
  cases e : mb ⟨s.r.set i (some (.exn c)), s.o⟩ with
  | next s1 => rw [e] at p; exact fun σ1 H1 F1 θ1 st1 b3 => p _ H1 F1 θ1 (st.trans st1) (b3.unset i)
  | brk s1 => rw [e] at p; exact fun σ1 H1 F1 θ1 st1 b3 => p _ H1 F1 θ1 (st.trans st1) (b3.unset i)
  | cnt s1 => rw [e] at p; exact fun σ1 H1 F1 θ1 st1 b3 => p _ H1 F1 θ1 (st.trans st1) (b3.unset i)
  | ret d s1 => rw [e] at p; exact fun v σ1 H1 F1 θ1 st1 b3 rv => p v σ1 H1 F1 θ1 (st.trans st1) b3 rv
  | exc c' a s1 => rw [e] at p; exact False.elim p
  | bad => rw [e] at p; exact False.elim p
def j5 (sub : Nat → Option Bool) : Op1 := fun _ x => match x with
  | .exn c => match sub c with
    | some b => .ok (.bl b)
    | none => .bad
  | _ => .bad
theorem qQ {sub : Nat → Option Bool} {te tc : TE} {m : EM} (h : RdE C te m) (P : Nat → Bool → Prop) (hs : ∀ c b, sub c = some b → P c b)
    (hc : ∀ (σ : L2.St) (H F : Hp) (θ : List Addr) (s : S) (Q : VK) (c : Nat) (b : Bool) (a : Addr), BS C.K C.ca σ H F θ s → F a = some (exO a (C.ca c)) → P c b → PoE C σ H F θ (.ok (.bl b, s)) Q → tc σ H fun y H2 => qC C.K [.ref a, y] H2 Q) :
    RdE C (tCB (qC C.K) (gJ te (gJ tc kL))) (unM (j5 sub) m) := by
  intro σ H F θ s Q b p
  unfold unM at p
  refine h σ H F θ s _ b (PoR.bind p ?_)
  rintro ⟨x, s1⟩ H1 F1 θ1 _ st1 p1 b1 v r1
  dsimp only at p1 b1 r1
  unfold j5 at p1
  split at p1
  · rename_i c _
    split at p1
    · rename_i q e
      rw [aa] at p1
      obtain ⟨a, rfl, hF⟩ : ∃ a, v = .ref a ∧ F1 a = some (exO a (C.ca c)) := by unfold Rep at r1; exact r1
      exact hc σ H1 F1 θ1 s1 Q c q a b1 hF (hs c q e) p1
    · exact False.elim p1
  · exact False.elim p1
theorem CC {sub : Nat → Option Bool} {Dc : Addr} {te : TE} {m : EM} (hs : ∀ c b, sub c = some b → ExK C.K (C.ca c) ∧ PySem.W.kitOne C.K (.ref (C.ca c)) (.ref Dc) = some b) (h : RdE C te m) : RdE C (tCB (qC C.K) (gJ te (gJ (tC (.ref Dc)) kL))) (unM (j5 sub) m) :=
  qQ h (fun c b => ExK C.K (C.ca c) ∧ PySem.W.kitOne C.K (.ref (C.ca c)) (.ref Dc) = some b) hs fun σ H F θ s Q c b a bs hF hP p => ⟨a, C.ca c, b, bs.now.fh _ _ hF, hP.1, p H F θ .refl bs (.bl b) (bO.mpr rfl), .inl ⟨Dc, rfl, hP.2⟩⟩
theorem zd {sub : Nat → Option Bool} {T : String} {te : TE} {m : EM} (hs : ∀ c b, sub c = some b → ExK C.K (C.ca c) ∧ PySem.W.kitOne C.K (.ref (C.ca c)) (.type T) = some b) (h : RdE C te m) : RdE C (tCB (qC C.K) (gJ te (gJ (tC (.ty T)) kL))) (unM (j5 sub) m) :=
  qQ h (fun c b => ExK C.K (C.ca c) ∧ PySem.W.kitOne C.K (.ref (C.ca c)) (.type T) = some b) hs fun σ H F θ s Q c b a bs hF hP p => ⟨a, C.ca c, b, bs.now.fh _ _ hF, hP.1, p H F θ .refl bs (.bl b) (bO.mpr rfl), .inr (.inl ⟨T, rfl, hP.2⟩)⟩
def wz : List Addr → TA
  | [] => kL
  | D :: Ds => gJ (tC (.ref D)) (wz Ds)
theorem vt : ∀ (Ds : List Addr) (σ : L2.St) (H : Hp) (Q : List V → Hp → Prop), Q (Ds.map V.ref) H → wz Ds σ H Q
  | [], _, _, _, q => q
  | _ :: Ds, σ, H, Q, q => vt Ds σ H _ q
theorem vT {sub : Nat → Option Bool} {Ds : List Addr} {te : TE} {m : EM} (hl : Ds.length ≤ 1000) (hs : ∀ c b, sub c = some b → ExK C.K (C.ca c) ∧ PySem.W.kitAny C.K (.ref (C.ca c)) (Ds.map Value.ref) = some b) (h : RdE C te m) :
    RdE C (tCB (qC C.K) (gJ te (gJ (Ak (wz Ds)) kL))) (unM (j5 sub) m) :=
  qQ h (fun c b => ExK C.K (C.ca c) ∧ PySem.W.kitAny C.K (.ref (C.ca c)) (Ds.map Value.ref) = some b) hs fun σ H F θ s Q c b a bs hF hP p => vt Ds σ H _ ⟨by rw [List.length_map]; exact Nat.le_trans hl (by decide), fun l hlf => by
    obtain ⟨st, b1, sF, _⟩ := bs.newF hlf (.tup (Ds.map V.ref))
    exact ⟨a, C.ca c, b, b1.now.fh _ _ (sF _ _ hF), hP.1, p _ _ θ st b1 (.bl b) (bO.mpr rfl), .inr (.inr ⟨l, Ds, rfl, bP, hP.2⟩)⟩⟩
end
theorem bV {P : Program} {w : World} {X : Cx} : Passes (CXE P w) X E0 := fun _ _ _ _ _ _ _ ⟨_, _, _, _, _, _, _, _, _, z⟩ => z.elim
end M
set_option maxRecDepth 100000
set_option maxHeartbeats 4000000
namespace M
open PySem PySem.Spec PyProof.Rows L2
section
variable {C : Ct}
end
end M
set_option maxRecDepth 100000
set_option maxHeartbeats 4000000
namespace M
open PySem PySem.Spec PyProof.Rows L2
section
variable {C : Ct}
end
end M
set_option maxRecDepth 100000
set_option maxHeartbeats 4000000
namespace M
open PySem PySem.Spec PyProof.Rows L2
section
variable {C : Ct}
end
end M
set_option maxRecDepth 100000
set_option maxHeartbeats 4000000
namespace M
open PySem PySem.Spec PyProof.Rows L2
section
variable {C : Ct}
end
end M
set_option maxRecDepth 100000
set_option maxHeartbeats 1000000
namespace M
open PySem PySem.Spec PyProof.Rows L2
section
variable {C : Ct}
end
end M
set_option maxRecDepth 100000
set_option maxHeartbeats 4000000
namespace M
open PySem PySem.Spec PyProof.Rows L2
section
variable {C : Ct}
end
end M
set_option maxRecDepth 100000
set_option maxHeartbeats 4000000
namespace M
open PySem PySem.Spec PyProof.Rows L2
section
variable {C : Ct}
end
end M
set_option maxRecDepth 100000
set_option maxHeartbeats 1000000
namespace M
open PySem PySem.Spec PyProof.Rows L2
section
variable {C : Ct}
end
end M
set_option maxRecDepth 100000
set_option maxHeartbeats 4000000
namespace M
open PySem PySem.Spec PyProof.Rows L2
@[simp] theorem Fp (ds : List D) (O : aw) : okC ds none O = True := rfl
@[simp] theorem Fe (ds : List D) (k : Nat) (O : aw) : okC ds (some k) O = (O[k]? = some (.lst ds)) := rfl
def Sz (n : Nat) (i : Int) : Prop := i.natAbs < 2 ^ n
theorem Sz.mono {m n : Nat} {i : Int} (h : Sz m i) (hmn : m ≤ n) : Sz n i := Nat.lt_of_lt_of_le h (Nat.pow_le_pow_right (by decide) hmn)
theorem eg {i j : Int} (h : i.natAbs < 2 ^ 64 ∨ j.natAbs < 2 ^ 64) : IntMulOk i j := by
  rcases h with h | h
  · exact .of_left (intBits_le_64 (by omega) (by omega))
  · exact .of_right (intBits_le_64 (by omega) (by omega))
theorem Sz.mul {m n : Nat} {i j : Int} (h : Sz m i) (h' : Sz n j) : Sz (m + n) (i * j) := by
  unfold Sz at *
  rw [Int.natAbs_mul, Nat.pow_add]
  exact Nat.mul_lt_mul'' h h'
theorem Sz.add {m n : Nat} {i j : Int} (h : Sz m i) (h' : Sz n j) : Sz (max m n + 1) (i + j) := by
  unfold Sz at *
  have h1 := Nat.lt_of_lt_of_le h (Nat.pow_le_pow_right (by decide) (Nat.le_max_left m n))
  have h2 := Nat.lt_of_lt_of_le h' (Nat.pow_le_pow_right (by decide) (Nat.le_max_right m n))
  have h3 : (i + j).natAbs ≤ i.natAbs + j.natAbs := Int.natAbs_add_le i j
  rw [Nat.pow_succ]
  omega
theorem yW {i j : Int} (h : 0 < j) : i.fdiv j = i / j := Int.fdiv_eq_ediv_of_nonneg i (Int.le_of_lt h)
theorem zJ {i j : Int} (h : 0 < j) : i.fmod j = i % j := Int.fmod_eq_emod_of_nonneg i (Int.le_of_lt h)
section
variable {O : aw}
@[simp] theorem oY (i j : Int) : m5 O (.int i) (.int j) = .ok (.int (i - j)) := rfl
@[simp] theorem gS (i j : Int) : aX O (.int i) (.int j) = .ok (.int (i + j)) := rfl
@[simp] theorem zX (i j : Int) : EV O (.int i) (.int j) = .ok (.int (i + j)) := rfl
@[simp] theorem n8 (i j : Int) : ltD O (.int i) (.int j) = .ok (.bl (decide (i < j))) := rfl
@[simp] theorem BG (i j : Int) : leD O (.int i) (.int j) = .ok (.bl (decide (i ≤ j))) := rfl
@[simp] theorem vX (i j : Int) : gtD O (.int i) (.int j) = .ok (.bl (decide (j < i))) := rfl
@[simp] theorem Bt (i j : Int) : geD O (.int i) (.int j) = .ok (.bl (decide (j ≤ i))) := rfl
@[simp] theorem lZ (i : Int) : kM O (.int i) = .ok (.int (-i)) := rfl
@[simp] theorem vU (i j : Int) : eqD O (.int i) (.int j) = .ok (.bl (decide (i = j))) := rfl
@[simp] theorem nM (i j : Int) : neD O (.int i) (.int j) = .ok (.bl (!decide (i = j))) := rfl
@[simp] theorem vS (i j : Str) : eqD O (.str i) (.str j) = .ok (.bl (decide (i = j))) := rfl
@[simp] theorem Bg (i j : Str) : neD O (.str i) (.str j) = .ok (.bl (!decide (i = j))) := rfl
@[simp] theorem DM (i j : Bool) : eqD O (.bl i) (.bl j) = .ok (.bl (decide (i = j))) := rfl
@[simp] theorem CM (i j : Bool) : neD O (.bl i) (.bl j) = .ok (.bl (!decide (i = j))) := rfl
theorem fX {i j : Int} (h : IntMulOk i j) : iR O (.int i) (.int j) = .ok (.int (i * j)) := if_pos h
theorem xS {i j : Int} (h : j ≠ 0) : bK O (.int i) (.int j) = .ok (.int (i.fdiv j)) := if_pos h
theorem cj {i : Int} {j : Int} (h : 0 < j) (h2 : j < 1073741824) : bK O (.int i) (.int j) = .ok (.int (i / j)) := by
  rw [xS (by omega), yW h]
theorem cF {i j : Int} (h : 0 < j) : aY O (.int i) (.int j) = .ok (.int (i % j)) := by
  rw [← zJ h]; exact if_pos (by omega)
theorem jh {i j : Int} (h : 0 ≤ j) (h2 : j ≤ 1000000) (h3 : i.natAbs < 2 ^ 64) : iX O (.int i) (.int j) = .ok (.int (i ^ j.toNat)) := if_pos ⟨h, h2, h3⟩
@[simp] theorem zI (i : Int) : Fd O [.int i] = .ok (.int (i.natAbs : Int)) := by
  show Res.ok (D.int (if i < 0 then -i else i)) = _
  congr 2
  split <;> omega
@[simp] theorem oR (ds : List D) : dg O [.lst ds] = .ok (.int ds.length) := rfl
@[simp] theorem zY (ds : List D) : dg O [.tup ds] = .ok (.int ds.length) := rfl
theorem z4 {x : Str} (h : x.length ≤ 16777216) : dg O [.str x] = .ok (.int x.length) := if_pos h
@[simp] theorem gY (ds : List D) : de O [.lst ds] = .ok (.lst ds) := rfl
@[simp] theorem xH (ds : List D) : de O [.tup ds] = .ok (.lst ds) := rfl
@[simp] theorem yE (i : Int) : intOf O [.int i] = .ok (.int i) := rfl
@[simp] theorem zm (b : Bool) : intOf O [.bl b] = .ok (.int (if b then 1 else 0)) := rfl
@[simp] theorem Bi (c : String) (i : Int) : jB c O (.int i) = .ok (.bl (dO "int" c)) := rfl
@[simp] theorem DJ (c : String) (i : Bool) : jB c O (.bl i) = .ok (.bl (dO "bool" c)) := rfl
@[simp] theorem Ba (c : String) (i : Str) : jB c O (.str i) = .ok (.bl (dO "str" c)) := rfl
@[simp] theorem B5 (c : String) (i : List D) : jB c O (.lst i) = .ok (.bl (dO "list" c)) := rfl
@[simp] theorem Bj (c : String) (i : List D) : jB c O (.tup i) = .ok (.bl (dO "tuple" c)) := rfl
@[simp] theorem Ca (c : String) : jB c O .non = .ok (.bl (dO "NoneType" c)) := rfl
@[simp] theorem FX : dO "int" "int" = true := by decide
@[simp] theorem Ga : dO "int" "bool" = false := by decide
@[simp] theorem FQ : dO "bool" "bool" = true := by decide
@[simp] theorem FZ : dO "bool" "int" = true := by decide
@[simp] theorem Gg : dO "list" "list" = true := by decide
@[simp] theorem sub_tt : dO "tuple" "tuple" = true := by decide
@[simp] theorem sub_lt : dO "list" "tuple" = false := by decide
@[simp] theorem FW : dO "tuple" "list" = false := by decide
@[simp] theorem FT : dO "str" "int" = false := by decide
@[simp] theorem Gb : dO "NoneType" "int" = false := by decide
theorem iN {ds : List D} {i : Int} {d : D} (h : atI ds i = some d) : ixD O (.lst ds) (.int i) = .ok d := by
  show (match lsD O (D.lst ds) with
      | some ds => match atI ds i with
        | some d => Res.ok d
        | none => .bad
      | none => .bad) = _
  rw [nX]
  dsimp only
  rw [h]
theorem qE {ds : List D} {i : Int} {d : D} (h : atI ds i = some d) : ixD O (.tup ds) (.int i) = .ok d := by
  show (match atI ds i with
        | some d => Res.ok d
        | none => .bad) = _
  rw [h]
theorem kZ {α : Type} {l : List α} {i : Int} (h0 : 0 ≤ i) (h1 : i < l.length) : atI l i = some (l[i.toNat]'(by omega)) := by
  unfold atI ixN
  rw [if_pos h0, if_pos h1]
  show l[i.toNat]? = _
  exact List.getElem?_eq_getElem _
theorem jU : ∀ ns : List Int, hZ (ns.map D.int) = some (ns.map PyData.int)
  | [] => by simp [hZ]
  | n :: ns => by simp [hZ, toPy, jU ns]
theorem kE : ∀ ns : List Int, bI O (ns.map D.int) = ns.map D.int
  | [] => by simp [bI]
  | n :: ns => by simp [bI, res, kE ns]
theorem jm : ∀ ns : List Int, PyData.canLayAll0 (ns.map PyData.int) = true
  | [] => by simp [PyData.canLayAll0]
  | n :: ns => by simp [PyData.canLayAll0, PyData.canLay0, jm ns]
theorem jO : ∀ ns : List Int, PyData.depthAll (ns.map PyData.int) = 0
  | [] => by simp [PyData.depthAll]
  | n :: ns => by simp [PyData.depthAll, PyData.depth, jO ns]
theorem shaped_ints (ns : List Int) : SeqAt.shaped (.list (ns.map PyData.int)) = true := by
  simp [SeqAt.shaped, PyData.canLay0, jm, PyData.depth, jO]
theorem mq : ∀ ns ms : List Int, PyData.eqvAll (ns.map PyData.int) (ms.map PyData.int) = decide (ns = ms)
  | [], [] => by simp [PyData.eqvAll]
  | [], _ :: _ => by simp [PyData.eqvAll]
  | _ :: _, [] => by simp [PyData.eqvAll]
  | a :: r, b :: t => by
    simp only [List.map_cons, PyData.eqvAll, PyData.eqv, mq r t]
    by_cases h : a = b <;> by_cases h' : r = t <;> simp [h, h']
theorem tR (ns ms : List Int) : eqB O (.lst (ns.map D.int)) (.lst (ms.map D.int)) = some (decide (ns = ms)) := by
  show gj O _ _ = _
  unfold gj
  simp only [res, kE, toPy, jU, Option.map_some]
  rw [if_pos ⟨shaped_ints ns, shaped_ints ms⟩]
  simp only [PyData.eqv, mq]
@[simp] theorem sJ (ns ms : List Int) : eqD O (.lst (ns.map D.int)) (.lst (ms.map D.int)) = .ok (.bl (decide (ns = ms))) := by unfold eqD; rw [tR]
@[simp] theorem zb (ns ms : List Int) : neD O (.lst (ns.map D.int)) (.lst (ms.map D.int)) = .ok (.bl (!decide (ns = ms))) := by unfold neD; rw [tR]
theorem m8 : ∀ ns : List Int, ax (ns.map D.int) = true
  | [] => by simp [ax]
  | n :: ns => by simp [ax, bG, m8 ns]
@[simp] theorem Eh (ns : List Int) : bG (.lst (ns.map D.int)) = true := by simp [bG, m8]
end
end M
set_option maxRecDepth 100000
set_option maxHeartbeats 4000000
namespace M
open PySem PySem.Spec PyProof.Rows L2
theorem cH {n : Nat} {m : SM} {ds : List D} {O : aw} {d : D} {s : S} (h : m ⟨ds.map some ++ List.replicate (n - ds.length) none, O⟩ = .ret d s) : runM n m ds O = .ok (d, s.o) := by
  unfold runM; rw [h]
def cP (ns : List Int) : Nat := ns.foldl (fun c n => Nat.gcd c n.natAbs) 0
theorem mO : ∀ (ns : List Int) (c : Nat), ns.foldl (fun c n => Nat.gcd c n.natAbs) c ∣ c ∧ ∀ n ∈ ns, ns.foldl (fun c n => Nat.gcd c n.natAbs) c ∣ n.natAbs
  | [], c => ⟨Nat.dvd_refl _, by simp⟩
  | m :: ns, c => by
    obtain ⟨h1, h2⟩ := mO ns (Nat.gcd c m.natAbs)
    rw [List.foldl_cons]
    refine ⟨Nat.dvd_trans h1 (Nat.gcd_dvd_left _ _), fun n hn => ?_⟩
    rcases List.mem_cons.mp hn with rfl | hn
    · exact Nat.dvd_trans h1 (Nat.gcd_dvd_right _ _)
    · exact h2 n hn
theorem tK {ns : List Int} {n : Int} (h : n ∈ ns) : ((cP ns : Nat) : Int) ∣ n := Int.natAbs_dvd_natAbs.mp (by rw [Int.natAbs_natCast]; exact (mO ns 0).2 n h)
theorem mR (g : Nat) (hg : 0 < g) : ∀ (ns : List Int) (c : Nat), g ∣ c → (∀ n ∈ ns, (g : Int) ∣ n) →
    (ns.map (· / (g : Int))).foldl (fun c n => Nat.gcd c n.natAbs) (c / g) = ns.foldl (fun c n => Nat.gcd c n.natAbs) c / g
  | [], c, _, _ => rfl
  | m :: ns, c, hc, h => by
    have hm : g ∣ m.natAbs := by
      have := Int.natAbs_dvd_natAbs.mpr (h m List.mem_cons_self)
      rwa [Int.natAbs_natCast] at this
    have e : (m / (g : Int)).natAbs = m.natAbs / g := by
      obtain ⟨k, rfl⟩ := h m List.mem_cons_self
      rw [Int.mul_ediv_cancel_left _ (by omega : (g : Int) ≠ 0), Int.natAbs_mul, Int.natAbs_natCast, Nat.mul_div_cancel_left _ hg]
    rw [List.map_cons, List.foldl_cons, List.foldl_cons, e, Nat.gcd_div hc hm]
    exact mR g hg ns _ (Nat.dvd_gcd hc hm) fun n hn => h n (List.mem_cons_of_mem _ hn)
theorem zL {ns : List Int} (h : 0 < cP ns) : cP (ns.map (· / (cP ns : Int))) = 1 := by
  have := mR (cP ns) h ns 0 (Nat.dvd_zero _) fun n hn => tK hn
  rw [Nat.zero_div] at this
  rw [show cP (ns.map (· / (cP ns : Int))) = (ns.map (· / (cP ns : Int))).foldl (fun c n => Nat.gcd c n.natAbs) 0 from rfl, this]
  exact Nat.div_self h
end M
set_option maxRecDepth 100000
set_option maxHeartbeats 4000000
namespace M
open PySem PySem.Spec PyProof.Rows L2
section
variable {s s1 : S} {d : D}
@[simp] theorem ah {i : Nat} (h : s.r[i]? = some (some d)) : af i s = .ok (d, s) := by unfold af; rw [h]
@[simp] theorem aK (d : D) (s : S) : ao d s = .ok (d, s) := rfl
@[simp] theorem aN (f : Op2) (a b : EM) (s : S) : ak f a b s = (a s).bind fun x => (b x.2).bind fun y => (f y.2.o x.1 y.1).bind fun d => .ok (d, y.2) := rfl
@[simp] theorem xC (f : Op1) (a : EM) (s : S) : unM f a s = (a s).bind fun x => (f x.2.o x.1).bind fun d => .ok (d, x.2) := rfl
@[simp] theorem aR (s : S) : av s = .ok ([], s) := rfl
@[simp] theorem aE (m : EM) (r : AM) (s : S) : ai m r s = (m s).bind fun x => (r x.2).bind fun y => .ok (x.1 :: y.1, y.2) := rfl
@[simp] theorem eh (f : OpN) (m : AM) (s : S) : br f m s = (m s).bind fun x => (f x.2.o x.1).bind fun d => .ok (d, x.2) := rfl
@[simp] theorem jW (m : AM) (s : S) : il m s = (m s).bind fun x => if x.1.length ≤ 16777216 then .ok (.tup x.1, x.2) else .bad := rfl
@[simp] theorem vF (m : AM) (s : S) : ij m s = (m s).bind fun x => if x.1.length ≤ 16777216 then .ok (.lst x.1, x.2) else .bad := rfl
@[simp] theorem Bs (m : AM) (s : S) : gb m s = (m s).bind fun x => if x.1.length ≤ 16777216 then .ok (.ptr x.2.o.length, ⟨x.2.r, x.2.o ++ [.lst x.1]⟩) else .bad := rfl
@[simp] theorem eO (m : EM) (s : S) : bq m s = (m s).bind fun x => match x.1 with
  | .bl b => .ok (b, x.2)
  | _ => .bad := rfl
@[simp] theorem vK (a b : TM) (s : S) : oW a b s = (a s).bind fun x => if x.1 then b x.2 else .ok (false, x.2) := rfl
@[simp] theorem nD (a b : TM) (s : S) : orT a b s = (a s).bind fun x => if x.1 then .ok (true, x.2) else b x.2 := rfl
@[simp] theorem qA (a : TM) (s : S) : o6 a s = (a s).bind fun x => .ok (!x.1, x.2) := rfl
@[simp] theorem BU (a b : EM) (s : S) : nt a b s = (a s).bind fun x => match x.1 with
  | .bl true => b x.2
  | .bl false => .ok (.bl false, x.2)
  | _ => .bad := rfl
@[simp] theorem Gi (a b : EM) (s : S) : orV a b s = (a s).bind fun x => match x.1 with
  | .bl true => .ok (.bl true, x.2)
  | .bl false => b x.2
  | _ => .bad := rfl
@[simp] theorem A8 (a : EM) (s : S) : qz a s = (a s).bind fun x => match x.1 with
  | .bl k => .ok (.bl (!k), x.2)
  | _ => .bad := rfl
@[simp] theorem FL (a b : SM) (s : S) : aT a b s = (a s).then b := rfl
@[simp] theorem jd (s : S) : cm s = .next s := rfl
@[simp] theorem EY (m : EM) (s : S) : bE m s = (m s).out fun x => .next x.2 := rfl
@[simp] theorem Fx (m : EM) (s : S) : dX m s = (m s).out fun x => .ret x.1 x.2 := rfl
@[simp] theorem FO (s : S) : EZ s = .ret .non s := rfl
@[simp] theorem FY (c : TM) (a b : SM) (s : S) : ifS c a b s = (c s).out fun x => if x.1 then a x.2 else b x.2 := rfl
@[simp] theorem C9 (c : TM) (a b : EM) (s : S) : ifM c a b s = (c s).bind fun x => if x.1 then a x.2 else b x.2 := rfl
@[simp] theorem E4 (i : Nat) (d : D) (s : S) : aL i d s = .ok ⟨s.r.set i (some d), s.o⟩ := rfl
@[simp] theorem Bo (m : EM) (g : GM) (s : S) : uE m g s = ((m s).bind fun x => g x.1 x.2).out fun s => .next s := rfl
@[simp] theorem Bf (i : Nat) (f : Op2) (m : EM) (s : S) : Dj i f m s = uE (ak f (af i) m) (aL i) s := rfl
@[simp] theorem Ao (s : S) : d4 s = .ok (true, s) := rfl
@[simp] theorem ky (s : S) : bh s = .ok (none, s) := rfl
@[simp] theorem lE (m : EM) (s : S) : part m s = (m s).bind fun x => match x.1 with
  | .int i => .ok (some i, x.2)
  | _ => .bad := rfl
@[simp] theorem xX (me : EM) (ml mh : OM) (s : S) : slM me ml mh s = (me s).bind fun x => (ml x.2).bind fun l => (mh l.2).bind fun h => match lsD h.2.o x.1 with
  | some ds => .ok (.lst (cutD ds l.1 h.1), h.2)
  | none => .bad := rfl
@[simp] theorem d7 (m : EM) (s : S) : listI m s = (m s).bind fun x => (itemsOf x.2.o x.1).bind fun y => .ok (y, x.2) := rfl
@[simp] theorem D9 (O : aw) (ds : List D) : itemsOf O (.lst ds) = .ok (ds, none) := rfl
theorem Bz (im : IM) (g : GM) (body : SM) (s : S) : kb im g body s = (im s).out fun y => gI (okC y.1.1 y.1.2) g body y.1.1 y.2 := rfl
theorem pb (m : Nat) (caps : List Nat) (im : IM) (g : GM) (c : TM) (e : EM) (s : S) : iB m caps im g c e s = (im s).bind fun y =>
  (gk (okC y.1.1 y.1.2) g c e y.1.1 [] ⟨lH m caps y.2.r, y.2.o⟩).bind fun z => .ok (z.1, ⟨y.2.r, z.2.o⟩) := rfl
theorem mf (m : Nat) (caps : List Nat) (im : IM) (g : GM) (c : TM) (e : EM) (s : S) : dc m caps im g c e s = (iB m caps im g c e s).bind fun y => .ok (.lst y.1, y.2) := rfl
theorem zt (m : Nat) (caps : List Nat) (im : IM) (g : GM) (c : TM) (e : EM) (s : S) : p9 m caps im g c e s = (iB m caps im g c e s).bind fun y => .ok (.ptr y.2.o.length, ⟨y.2.r, y.2.o ++ [.lst y.1]⟩) := rfl
@[simp] theorem zo (n : Nat) (f : FM) (m : AM) (s : S) : bt n f m s = (m s).bind fun x => if ax x.1 = true ∧ x.1.length = n then (match f x.1 [] with
  | .ok (d, _) => if bG d = true then .ok (d, x.2) else .bad
  | _ => .bad) else .bad := rfl
@[simp] theorem Ad (n : Nat) (f : FM) (m : AM) (s : S) : wG n f m s = (m s).bind fun x => if ax x.1 = true ∧ x.1.length = n then (match f x.1 [] with
  | .ok (d, O1) => .ok (shD x.2.o.length d, ⟨x.2.r, x.2.o ++ O1.map (shC x.2.o.length)⟩)
  | _ => .bad) else .bad := rfl
@[simp] theorem Fb (n : Nat) (f : FM) (m : AM) (s : S) : nW n f m s = (m s).bind fun x => if ax (bI x.2.o (bI x.2.o x.1)) = true ∧ x.1.length = n then (match f (bI x.2.o (bI x.2.o x.1)) [] with
  | .ok (d, _) => if kA d = true then .ok (d, x.2) else .bad
  | _ => .bad) else .bad := rfl
@[simp] theorem Am (m : EM) (s : S) : AJ m s = (m s).bind fun x => match nS x.2.o x.1 with
  | some ds => .ok (.ptr x.2.o.length, ⟨x.2.r, x.2.o ++ [.lst ds]⟩)
  | none => .bad := rfl
@[simp] theorem BQ (m : EM) (s : S) : gE m s = (m s).bind fun x => match ik x.2.o x.1 with
  | some (k, ds) => .ok (.lst ds, ⟨x.2.r, x.2.o.set k .dead⟩)
  | none => .bad := rfl
@[simp] theorem A3 (mo me : EM) (s : S) : eE mo me s = (mo s).bind fun x => match ik x.2.o x.1 with
  | some _ => (me x.2).bind fun y => match ik y.2.o x.1 with
    | some (k, ds) => if ds.length < 16777216 then .ok (.non, ⟨y.2.r, y.2.o.set k (.lst (ds ++ [y.1]))⟩) else .bad
    | none => .bad
  | none => .bad := rfl
@[simp] theorem jf {O : aw} {k : Nat} {ds : List D} (h : O[k]? = some (.lst ds)) : lsD O (.ptr k) = some ds := by unfold lsD; simp only [h]
@[simp] theorem jb {O : aw} {k : Nat} {ds : List D} (h : O[k]? = some (.lst ds)) : ik O (.ptr k) = some (k, ds) := by unfold ik; simp only [h]
@[simp] theorem EO (O : aw) (ds : List D) : nS O (.lst ds) = some ds := rfl
@[simp] theorem EL (O : aw) (ds : List D) : nS O (.tup ds) = some ds := rfl
@[simp] theorem EK {O : aw} {k : Nat} {ds : List D} (h : O[k]? = some (.lst ds)) : nS O (.ptr k) = some ds := by show lsD O (.ptr k) = _; exact jf h
@[simp] theorem u2 {O : aw} {k : Nat} {ds : List D} (h : O[k]? = some (.lst ds)) : itemsOf O (.ptr k) = .ok (ds, some k) := by unfold itemsOf; simp only [h]
@[simp] theorem fB (n k : Nat) : shD n (.ptr k) = .ptr (n + k) := by unfold shD; rfl
@[simp] theorem fj : ax [] = true := by unfold ax; rfl
@[simp] theorem dI (d : D) (ds : List D) : ax (d :: ds) = (bG d && ax ds) := by conv => lhs; unfold ax
@[simp] theorem fV (i : Int) : bG (.int i) = true := by unfold bG; rfl
@[simp] theorem gM (i : Bool) : bG (.bl i) = true := by unfold bG; rfl
@[simp] theorem fT (i : Str) : bG (.str i) = true := by unfold bG; rfl
@[simp] theorem fS : bG .non = true := by unfold bG; rfl
@[simp] theorem fU (ds : List D) : bG (.lst ds) = ax ds := by conv => lhs; unfold bG
@[simp] theorem fW (ds : List D) : bG (.tup ds) = ax ds := by conv => lhs; unfold bG
@[simp] theorem dM (ns : List Int) : ax (ns.map D.int) = true := m8 ns
@[simp] theorem FA (O : aw) (i : Int) : res O (.int i) = .int i := by unfold res; rfl
@[simp] theorem FU (O : aw) (i : Bool) : res O (.bl i) = .bl i := by unfold res; rfl
@[simp] theorem FI (O : aw) (i : Str) : res O (.str i) = .str i := by unfold res; rfl
@[simp] theorem FP (O : aw) : res O .non = .non := by unfold res; rfl
@[simp] theorem vP (O : aw) (ds : List D) : res O (.lst ds) = .lst (bI O ds) := by conv => lhs; unfold res
@[simp] theorem BC (O : aw) (ds : List D) : res O (.tup ds) = .tup (bI O ds) := by conv => lhs; unfold res
@[simp] theorem Bm {O : aw} {k : Nat} {ds : List D} (h : O[k]? = some (.lst ds)) : res O (.ptr k) = .lst ds := by conv => lhs; unfold res; simp only [h]
@[simp] theorem zA (O : aw) : bI O [] = [] := by unfold bI; rfl
@[simp] theorem xK (O : aw) (d : D) (ds : List D) : bI O (d :: ds) = res O d :: bI O ds := by conv => lhs; unfold bI
@[simp] theorem wg (O : aw) (ns : List Int) : bI O (ns.map D.int) = ns.map D.int := kE ns
@[simp] theorem Ff (b : Bool) : kA (.bl b) = true := rfl
@[simp] theorem EN (b : Int) : kA (.int b) = true := rfl
@[simp] theorem ES (b : Str) : kA (.str b) = true := rfl
@[simp] theorem BH {O : aw} {k : Nat} {ds : List D} (h : O[k]? = some (.lst ds)) (c : String) : jB c O (.ptr k) = .ok (.bl (dO "list" c)) := by
  unfold jB tyD; simp only [h]
@[simp] theorem dq (n : Nat) : ∀ ns : List Int, eu n (ns.map D.int) = ns.map D.int
  | [] => by simp [eu]
  | m :: ns => by simp [eu, shD, dq n ns]
@[simp] theorem fD (n : Nat) (ds : List D) : shC n (.lst ds) = .lst (eu n ds) := rfl
theorem vZ {n : Nat} {m : SM} {ds : List D} {O : aw} {d : D} (h : ∃ s, m ⟨ds.map some ++ List.replicate (n - ds.length) none, O⟩ = .ret d s) : ∃ O1, runM n m ds O = .ok (d, O1) := by
  obtain ⟨s, h⟩ := h
  exact ⟨s.o, cH h⟩
end
mutual
theorem zU {O : aw} : ∀ {d : D}, bG d = true → res O d = d
  | .non, _ => by unfold res; rfl
  | .bl _, _ => by unfold res; rfl
  | .int _, _ => by unfold res; rfl
  | .str _, _ => by unfold res; rfl
  | .lst ds, h => by rw [vP, kv (by simpa using h)]
  | .tup ds, h => by rw [BC, kv (by simpa using h)]
  | .ptr _, h => by unfold bG at h; cases h
  | .obj c ns ds, h => by unfold res; rfl
  | .exn c, h => by unfold res; rfl
theorem kv {O : aw} : ∀ {ds : List D}, ax ds = true → bI O ds = ds
  | [], _ => zA O
  | d :: ds, h => by
    rw [dI, Bool.and_eq_true] at h
    rw [xK, zU h.1, kv h.2]
end
theorem v3 {O : aw} {k : Nat} {ds : List D} (h : O[k]? = some (.lst ds)) (hp : ax ds = true) (es : List D) : eqB O (.ptr k) (.lst es) = eqB O (.lst ds) (.lst es) := by
  show gj O _ _ = gj O _ _
  unfold gj
  simp only [Bm h, vP, kv hp]
@[simp] theorem Ft {O : aw} {k : Nat} {ds : List D} (h : O[k]? = some (.lst ds)) (hp : ax ds = true) (es : List D) : eqD O (.ptr k) (.lst es) = eqD O (.lst ds) (.lst es) := by unfold eqD; rw [v3 h hp]
@[simp] theorem Fz {O : aw} {k : Nat} {ds : List D} (h : O[k]? = some (.lst ds)) (hp : ax ds = true) (es : List D) : neD O (.ptr k) (.lst es) = neD O (.lst ds) (.lst es) := by unfold neD; rw [v3 h hp]
end M
set_option maxRecDepth 100000
set_option maxHeartbeats 4000000
namespace M
open PySem PySem.Spec PyProof.Rows L2
theorem eX {ok : aw → Prop} {g : GM} {body : SM} (P : List D → S → Prop) (hok : ∀ pre s, P pre s → ok s.o) : ∀ (ds pre : List D),
    (∀ pre' d rest, pre ++ ds = pre' ++ d :: rest → ∀ s, P pre' s → ∃ s1 s2, g d s = .ok s1 ∧ (body s1 = .next s2 ∨ body s1 = .cnt s2) ∧ P (pre' ++ [d]) s2) → ∀ s, P pre s → ∃ s', gI ok g body ds s = .next s' ∧ P (pre ++ ds) s'
  | [], pre, _, s, h => ⟨s, by rw [gI, if_pos (hok _ _ h)], by simpa using h⟩
  | d :: ds, pre, step, s, h => by
    obtain ⟨s1, s2, e1, e2, h2⟩ := step pre d ds rfl s h
    obtain ⟨s', e3, h3⟩ := eX P hok ds (pre ++ [d]) (fun pre' d' rest e => step pre' d' rest (by simpa using e)) s2 h2
    refine ⟨s', ?_, by simpa using h3⟩
    rw [gI, if_pos (hok _ _ h), e1, lq]
    rcases e2 with e2 | e2 <;> (rw [e2]; exact e3)
theorem iM {im : IM} {g : GM} {body : SM} {s s1 : S} {ds : List D} {k : Option Nat} (h : im s = .ok ((ds, k), s1)) : kb im g body s = gI (okC ds k) g body ds s1 := by rw [Bz, h, lq]
theorem oK {m : AM} {s s1 : S} {n : Nat} (h : m s = .ok ([.int (n : Int)], s1)) (hn : n ≤ 1000000) : nq m s = .ok ((fM 0 (n : Int), none), s1) := by
  show (m s).bind _ = _
  rw [h, aa]
  dsimp only
  rw [if_pos (by constructor <;> omega)]
section
variable {O : aw}
@[simp] theorem E9 (d : D) (ds : List D) : ixD O (.tup (d :: ds)) (.int 0) = .ok d := qE (by rw [kZ (by decide) (by simp)]; rfl)
@[simp] theorem E7 (d e : D) (ds : List D) : ixD O (.tup (d :: e :: ds)) (.int 1) = .ok e := qE (by rw [kZ (by decide) (by simp; omega)]; rfl)
@[simp] theorem E2 (d : D) (ds : List D) : ixD O (.lst (d :: ds)) (.int 0) = .ok d := iN (by rw [kZ (by decide) (by simp)]; rfl)
@[simp] theorem Fs (d e : D) (ds : List D) : ixD O (.lst (d :: e :: ds)) (.int 1) = .ok e := iN (by rw [kZ (by decide) (by simp; omega)]; rfl)
theorem mY (ns : List Int) : SeqAt.shaped (.tuple (ns.map PyData.int)) = true := by
  simp [SeqAt.shaped, PyData.canLay0, jm, PyData.depth, jO]
theorem rq (ns ms : List Int) : eqB O (.tup (ns.map D.int)) (.tup (ms.map D.int)) = some (decide (ns = ms)) := by
  show gj O _ _ = _
  unfold gj
  simp only [res, kE, toPy, jU, Option.map_some]
  rw [if_pos ⟨mY ns, mY ms⟩]
  simp only [PyData.eqv, mq]
@[simp] theorem FV (a b c d : Int) : eqD O (.tup [.int a, .int b]) (.tup [.int c, .int d]) = .ok (.bl (decide (a = c ∧ b = d))) := by
  have := rq (O := O) [a, b] [c, d]
  unfold eqD
  rw [show eqB O (.tup [.int a, .int b]) (.tup [.int c, .int d]) = _ from this]
  simp
@[simp] theorem Gf (a b c d : Int) : neD O (.tup [.int a, .int b]) (.tup [.int c, .int d]) = .ok (.bl (!decide (a = c ∧ b = d))) := by
  have := rq (O := O) [a, b] [c, d]
  unfold neD
  rw [show eqB O (.tup [.int a, .int b]) (.tup [.int c, .int d]) = _ from this]
  simp
end
theorem Sz.sub {m n : Nat} {i j : Int} (h : Sz m i) (h' : Sz n j) : Sz (max m n + 1) (i - j) := by
  rw [Int.sub_eq_add_neg]
  refine Sz.add h ?_
  unfold Sz at *
  rw [Int.natAbs_neg]; exact h'
theorem Sz.neg {m : Nat} {i : Int} (h : Sz m i) : Sz m (-i) := by
  unfold Sz at *
  rw [Int.natAbs_neg]; exact h
end M
set_option maxRecDepth 100000
set_option maxHeartbeats 4000000
namespace M
def aP : Nat → (Nat → Int) → Int
  | 0, _ => 0
  | n + 1, f => aP n f + f n
theorem bA {n : Nat} {f g : Nat → Int} (h : ∀ i, i < n → f i = g i) : aP n f = aP n g := by
  induction n with
  | zero => rfl
  | succ n ih => rw [aP, aP, ih fun i hi => h i (by omega), h n (by omega)]
theorem dS {n : Nat} {f : Nat → Int} (h : ∀ i, i < n → f i = 0) : aP n f = 0 := by
  induction n with
  | zero => rfl
  | succ n ih => rw [aP, ih fun i hi => h i (by omega), h n (by omega)]; rfl
theorem lN (n : Nat) (f g : Nat → Int) : aP n (fun i => f i + g i) = aP n f + aP n g := by
  induction n with
  | zero => rfl
  | succ n ih => simp only [aP, ih]; omega
theorem cS (n : Nat) (c : Int) (f : Nat → Int) : aP n (fun i => c * f i) = c * aP n f := by
  induction n with
  | zero => simp [aP]
  | succ n ih => simp only [aP, ih, Int.mul_add]
theorem iD {n k : Nat} (hk : k < n) {f : Nat → Int} (h : ∀ i, i < n → i ≠ k → f i = 0) : aP n f = f k := by
  induction n with
  | zero => omega
  | succ n ih =>
    rw [aP]
    by_cases e : k = n
    · subst e
      rw [dS fun i hi => h i (by omega) (by omega)]
      omega
    · rw [ih (by omega) fun i hi => h i (by omega), h n (by omega) (by omega)]
      omega
def nth (r : List Int) (i : Nat) : Int := r.getD i 0
def cq (n : Nat) (r : List Int) (x : Nat → Int) : Int := aP n fun i => nth r i * x i
def cZ (n : Nat) (R : List (List Int)) (x : Nat → Int) : Prop := ∀ r ∈ R, cq n r x = 0
def low (ns : List Int) : List Int := if cP ns = 0 then ns else ns.map (· / (cP ns : Int))
theorem low_length (ns : List Int) : (low ns).length = ns.length := by unfold low; split <;> simp
theorem i6 {f : Int → Int} (h0 : f 0 = 0) (r : List Int) (i : Nat) : nth (r.map f) i = f (nth r i) := by
  unfold nth
  rw [List.getD_eq_getElem?_getD, List.getD_eq_getElem?_getD, List.getElem?_map]
  cases r[i]? with
  | none => exact h0.symm
  | some a => rfl
theorem qb {r : List Int} {i : Nat} (h : i < r.length) : nth r i ∈ r := by
  unfold nth
  rw [List.getD_eq_getElem?_getD, List.getElem?_eq_getElem h]
  exact List.getElem_mem h
theorem i5 {r : List Int} {i : Nat} (h : r.length ≤ i) : nth r i = 0 := by
  unfold nth
  rw [List.getD_eq_getElem?_getD, List.getElem?_eq_none h]
  rfl
theorem nh (r : List Int) (i : Nat) : ((cP r : Nat) : Int) ∣ nth r i := by
  by_cases h : i < r.length
  · exact tK (qb h)
  · rw [i5 (by omega)]; exact Int.dvd_zero _
def pf (r : List Int) : Int := if cP r = 0 then 1 else (cP r : Int)
theorem kD (r : List Int) : 0 < pf r := by unfold pf; split <;> omega
theorem kT (r : List Int) (i : Nat) : nth r i = pf r * nth (low r) i := by
  unfold low pf
  split
  · omega
  · rw [i6 (by simp), Int.mul_ediv_cancel' (nh r i)]
theorem ud {r : List Int} (h : cP r = 0) (i : Nat) : nth r i = 0 := by
  have := nh r i
  rw [h] at this
  simpa using this
theorem vJ {r : List Int} {i : Nat} (h : nth r i ≠ 0) : cP (low r) = 1 := by
  have h0 : cP r ≠ 0 := fun e => h (ud e i)
  unfold low
  rw [if_neg h0]
  exact zL (Nat.pos_of_ne_zero h0)
def kP (one : List Int) (v : Int) (other : List Int) (w : Int) : List Int := List.zipWith (fun a b => a * w - b * v) one other
def dD (one : List Int) (v : Int) (other : List Int) (w : Int) : List Int := low (kP one v other w)
theorem kF {one other : List Int} (h : one.length = other.length) (v w : Int) : (kP one v other w).length = one.length := by
  unfold kP; rw [List.length_zipWith, ← h, Nat.min_self]
theorem uv {one other : List Int} (h : one.length = other.length) (v w : Int) (i : Nat) : nth (kP one v other w) i = nth one i * w - nth other i * v := by
  by_cases hi : i < one.length
  · unfold kP nth
    simp only [List.getD_eq_getElem?_getD, List.getElem?_zipWith, List.getElem?_eq_getElem hi, List.getElem?_eq_getElem (h ▸ hi : i < other.length)]
    rfl
  · rw [i5 (by rw [kF h]; omega), i5 (r := one) (by omega), i5 (r := other) (by omega)]
    simp
theorem jn {one other : List Int} (h : one.length = other.length) (v w : Int) : (dD one v other w).length = one.length := by
  unfold dD; rw [low_length, kF h]
theorem mE {one other : List Int} (h : one.length = other.length) (v w : Int) : ∃ g : Int, 0 < g ∧ ∀ i, g * nth (dD one v other w) i = nth one i * w - nth other i * v := by
  refine ⟨pf (kP one v other w), kD _, fun i => ?_⟩
  unfold dD
  rw [← kT, uv h]
theorem uD {n : Nat} {a b c : List Int} {g u v : Int} (h : ∀ i, g * nth c i = u * nth a i + v * nth b i) (x : Nat → Int) : g * cq n c x = u * cq n a x + v * cq n b x := by
  unfold cq
  rw [← cS, ← cS, ← cS, ← lN]
  refine bA fun i _ => ?_
  have := h i
  grind
theorem mI {n : Nat} {a c : List Int} {g : Int} (h : ∀ i, nth a i = g * nth c i) (x : Nat → Int) : cq n a x = g * cq n c x := by
  unfold cq
  rw [← cS]
  refine bA fun i _ => ?_
  rw [h i, Int.mul_assoc]
theorem oX {n : Nat} {one other : List Int} (h : one.length = other.length) (v w : Int) (x : Nat → Int) : ∃ g : Int, 0 < g ∧ g * cq n (dD one v other w) x = w * cq n one x - v * cq n other x := by
  obtain ⟨g, hg, e⟩ := mE h v w
  refine ⟨g, hg, ?_⟩
  have := uD (n := n) (c := dD one v other w) (a := one) (b := other) (g := g) (u := w) (v := -v) (fun i => by rw [e i]; grind) x
  rw [this]; grind
theorem oJ (n : Nat) (r : List Int) (x : Nat → Int) : cq n (low r) x = 0 ↔ cq n r x = 0 := by
  rw [mI (fun i => kT r i) x]
  have := kD r
  constructor
  · intro h; rw [h]; simp
  · intro h
    rcases Int.mul_eq_zero.mp h with z | z
    · omega
    · exact z
end M
set_option maxRecDepth 100000
set_option maxHeartbeats 4000000
namespace M
def iK : List Int → Option Nat
  | [] => none
  | a :: r => if a ≠ 0 then some 0 else (iK r).map (· + 1)
theorem j7 : ∀ {l : List Int}, iK l = none → ∀ a ∈ l, a = 0
  | [], _, _, h => by simp at h
  | b :: r, e, a, h => by
    unfold iK at e
    split at e
    · cases e
    · rename_i hb
      rcases List.mem_cons.mp h with rfl | h
      · simpa using hb
      · exact j7 (by simpa using e) a h
theorem gN : ∀ {l : List Int} {k : Nat}, iK l = some k → k < l.length ∧ nth l k ≠ 0 ∧ ∀ i, i < k → nth l i = 0
  | [], _, e => by cases e
  | b :: r, k, e => by
    unfold iK at e
    split at e
    · rename_i hb
      cases e
      exact ⟨by simp, hb, fun i hi => by omega⟩
    · rename_i hb
      cases e2 : iK r with
      | none => rw [e2] at e; cases e
      | some j =>
        rw [e2] at e
        cases e
        obtain ⟨h1, h2, h3⟩ := gN e2
        refine ⟨by simp; omega, by simpa [nth] using h2, fun i hi => ?_⟩
        cases i with
        | zero => simpa [nth] using hb
        | succ i => simpa [nth] using h3 i (Nat.lt_of_succ_lt_succ hi)
def gX (row : List Int) (at_ : Nat) : List Int := if nth row at_ > 0 then row else row.map (- ·)
def eA (lead : List Int) (at_ : Nat) (row : List Int) : List Int := if nth row at_ = 0 then row else dD row (nth row at_) lead (nth lead at_)
def cx (s : List (List Int) × List (List Int)) (at_ : Nat) : List (List Int) × List (List Int) :=
  match iK (s.1.map (nth · at_)) with
  | none => s
  | some k => ((s.1.eraseIdx k).map (eA (gX (s.1.getD k []) at_) at_), s.2.map (eA (gX (s.1.getD k []) at_) at_) ++ [gX (s.1.getD k []) at_])
def bg (rows : List (List Int)) (n : Nat) : List (List Int) := ((List.range n).foldl cx (rows.map low, [])).2
structure Good (n : Nat) (p : Nat × List Int) : Prop where
  len : p.2.length = n
  lt : p.1 < n
  pos : 0 < nth p.2 p.1
  zero : ∀ i, i < p.1 → nth p.2 i = 0
  one : cP p.2 = 1
structure Pl (n : Nat) (P : List (Nat × List Int)) : Prop where
  good : ∀ p ∈ P, Good n p
  pw : P.Pairwise fun p q => p.1 < q.1 ∧ nth p.2 q.1 = 0
def nH (r : List Int) : Prop := ∀ i, nth r i ≠ 0 → cP r = 1
theorem mH (r : List Int) : nH (low r) := fun i h => vJ (i := i) fun z => by
  have := kT r i
  rw [z] at this
  rcases Int.mul_eq_zero.mp this.symm with q | q
  · have := kD r; omega
  · exact h q
theorem zc (r : List Int) : cP (r.map (- ·)) = cP r := by
  unfold cP
  have : ∀ (l : List Int) (c : Nat), (l.map (- ·)).foldl (fun c n => Nat.gcd c n.natAbs) c = l.foldl (fun c n => Nat.gcd c n.natAbs) c := by
    intro l
    induction l with
    | nil => intro c; rfl
    | cons a l ih => intro c; simp only [List.map_cons, List.foldl_cons, Int.natAbs_neg]; exact ih _
  exact this r 0
theorem vc (row : List Int) (a : Nat) : (gX row a).length = row.length := by unfold gX; split <;> simp
theorem uc (row : List Int) (a : Nat) : ∃ g : Int, (g = 1 ∨ g = -1) ∧ ∀ i, nth (gX row a) i = g * nth row i := by
  unfold gX
  split
  · exact ⟨1, .inl rfl, fun i => by omega⟩
  · exact ⟨-1, .inr rfl, fun i => by rw [i6 (by simp)]; omega⟩
theorem yb {row : List Int} {a : Nat} (h : nH row) : nH (gX row a) := by
  unfold gX
  split
  · exact h
  · intro i hi
    rw [zc]
    refine h i fun z => hi ?_
    rw [i6 (by simp), z]; rfl
theorem Af {row : List Int} {a : Nat} (h : nth row a ≠ 0) : 0 < nth (gX row a) a := by
  unfold gX
  split
  · assumption
  · rw [i6 (by simp)]; omega
theorem Be (n : Nat) (row : List Int) (a : Nat) (x : Nat → Int) : cq n (gX row a) x = 0 ↔ cq n row x = 0 := by
  obtain ⟨g, hg, e⟩ := uc row a
  have := mI (n := n) (a := gX row a) (c := row) e x
  rw [this]
  rcases hg with rfl | rfl <;> omega
section
variable {lead row : List Int} {a : Nat}
theorem oE (h : row.length = lead.length) : (eA lead a row).length = row.length := by
  unfold eA; split
  · rfl
  · exact jn h _ _
theorem oP (hl : 0 < nth lead a) (h : row.length = lead.length) : ∃ g u : Int, 0 < g ∧ 0 < u ∧ ∃ v : Int, (nth row a = 0 → v = 0) ∧ ∀ i, g * nth (eA lead a row) i = u * nth row i - v * nth lead i := by
  unfold eA
  split
  · exact ⟨1, 1, by omega, by omega, 0, fun _ => rfl, fun i => by omega⟩
  · rename_i hz
    obtain ⟨g, hg, e⟩ := mE h (nth row a) (nth lead a)
    exact ⟨g, nth lead a, hg, hl, nth row a, fun z => absurd z hz, fun i => by rw [e i]; grind⟩
theorem vy (hl : 0 < nth lead a) (h : row.length = lead.length) : nth (eA lead a row) a = 0 := by
  unfold eA
  split
  · assumption
  · obtain ⟨g, hg, e⟩ := mE h (nth row a) (nth lead a)
    have := e a
    have : g * nth (dD row (nth row a) lead (nth lead a)) a = 0 := by rw [this]; grind
    rcases Int.mul_eq_zero.mp this with z | z
    · omega
    · exact z
theorem rF (h : nH row) : nH (eA lead a row) := by
  unfold eA
  split
  · exact h
  · exact mH _
theorem nk (hl : 0 < nth lead a) (h : row.length = lead.length) {i : Nat} (h1 : nth row i = 0) (h2 : nth lead i = 0) : nth (eA lead a row) i = 0 := by
  obtain ⟨g, u, hg, hu, v, _, e⟩ := oP hl h
  have := e i
  rw [h1, h2] at this
  have : g * nth (eA lead a row) i = 0 := by rw [this]; grind
  rcases Int.mul_eq_zero.mp this with z | z
  · omega
  · exact z
theorem zp (hl : 0 < nth lead a) (h : row.length = lead.length) {i : Nat} (h1 : 0 < nth row i) (h2 : nth lead i = 0) : 0 < nth (eA lead a row) i := by
  obtain ⟨g, u, hg, hu, v, _, e⟩ := oP hl h
  have e' := e i
  rw [h2] at e'
  have : 0 < g * nth (eA lead a row) i := by
    rw [e']
    have := Int.mul_pos hu h1
    omega
  by_cases hn : nth (eA lead a row) i ≤ 0
  · have := Int.mul_nonpos_of_nonneg_of_nonpos (show 0 ≤ g by omega) hn
    omega
  · omega
theorem nV (n : Nat) (hl : 0 < nth lead a) (h : row.length = lead.length) {x : Nat → Int} (hx : cq n lead x = 0) : cq n (eA lead a row) x = 0 ↔ cq n row x = 0 := by
  obtain ⟨g, u, hg, hu, v, _, e⟩ := oP hl h
  have := uD (n := n) (c := eA lead a row) (a := row) (b := lead) (g := g) (u := u) (v := -v) (fun i => by rw [e i]; grind) x
  rw [hx] at this
  constructor
  · intro z
    rw [z] at this
    have : u * cq n row x = 0 := by omega
    rcases Int.mul_eq_zero.mp this with q | q
    · omega
    · exact q
  · intro z
    rw [z] at this
    have : g * cq n (eA lead a row) x = 0 := by omega
    rcases Int.mul_eq_zero.mp this with q | q
    · omega
    · exact q
end
structure PSt (n a : Nat) (left : List (List Int)) (P : List (Nat × List Int)) : Prop where
  ll : ∀ r ∈ left, r.length = n
  lz : ∀ r ∈ left, ∀ i, i < a → nth r i = 0
  lw : ∀ r ∈ left, nH r
  pl : Pl n P
  pa : ∀ p ∈ P, p.1 < a
theorem uZ (left : List (List Int)) (a k : Nat) : nth (left.map (nth · a)) k = nth (left.getD k []) a := by
  unfold nth
  simp only [List.getD_eq_getElem?_getD, List.getElem?_map]
  cases left[k]? with
  | none => rfl
  | some r => rfl
theorem getD_mem {left : List (List Int)} {k : Nat} (h : k < left.length) : left.getD k [] ∈ left := by
  rw [List.getD_eq_getElem?_getD, List.getElem?_eq_getElem h]
  exact List.getElem_mem h
theorem lM : ∀ {l : List (List Int)} {k : Nat} (h : k < l.length), l.Perm (l[k] :: l.eraseIdx k)
  | [], k, h => by simp at h
  | a :: l, 0, h => by simp
  | a :: l, k + 1, h => by
    have := lM (l := l) (k := k) (by simpa using h)
    simp only [List.getElem_cons_succ, List.eraseIdx_cons_succ]
    exact (this.cons a).trans (List.Perm.swap _ _ _)
theorem Bu {n a : Nat} (ha : a < n) {left : List (List Int)} {P : List (Nat × List Int)} (h : PSt n a left P) :
    ∃ left' P', cx (left, P.map (·.2)) a = (left', P'.map (·.2)) ∧ PSt n (a + 1) left' P' ∧ left'.length + P'.length = left.length + P.length ∧ ∀ x, cZ n (P'.map (·.2) ++ left') x ↔ cZ n (P.map (·.2) ++ left) x := by
  unfold cx
  dsimp only
  split
  · rename_i e
    refine ⟨left, P, rfl, ⟨h.ll, fun r hr i hi => ?_, h.lw, h.pl, fun p hp => Nat.lt_succ_of_lt (h.pa p hp)⟩, rfl, fun x => Iff.rfl⟩
    by_cases hia : i = a
    · subst hia
      exact j7 e _ (List.mem_map.mpr ⟨r, hr, rfl⟩)
    · exact h.lz r hr i (by omega)
  · rename_i k e
    obtain ⟨k1, k2, _⟩ := gN e
    rw [List.length_map] at k1
    rw [uZ] at k2
    have hm : left.getD k [] ∈ left := getD_mem k1
    have hperm : left.Perm (left.getD k [] :: left.eraseIdx k) := by
      rw [List.getD_eq_getElem?_getD, List.getElem?_eq_getElem k1]
      exact lM k1
    generalize left.getD k [] = row at *
    generalize hld : gX row a = lead at *
    have ll : lead.length = n := by rw [← hld, vc]; exact h.ll row hm
    have lp : 0 < nth lead a := by rw [← hld]; exact Af k2
    have lz : ∀ i, i < a → nth lead i = 0 := fun i hi => by
      obtain ⟨g, _, e⟩ := uc row a
      rw [← hld, e, h.lz row hm i hi]; omega
    have lw : nH lead := by rw [← hld]; exact yb (h.lw row hm)
    have sub : ∀ r ∈ left.eraseIdx k, r ∈ left := fun r hr => List.mem_of_mem_eraseIdx hr
    refine ⟨(left.eraseIdx k).map (eA lead a), P.map (fun p => (p.1, eA lead a p.2)) ++ [(a, lead)], ?_, ⟨?_, ?_, ?_, ⟨?_, ?_⟩, ?_⟩, ?_, ?_⟩
    · simp [Function.comp_def]
    · intro r hr
      obtain ⟨q, hq, rfl⟩ := List.mem_map.mp hr
      rw [oE (by rw [ll, h.ll q (sub q hq)]), h.ll q (sub q hq)]
    · intro r hr i hi
      obtain ⟨q, hq, rfl⟩ := List.mem_map.mp hr
      have hql : q.length = lead.length := by rw [ll, h.ll q (sub q hq)]
      by_cases hia : i = a
      · subst hia; exact vy lp hql
      · exact nk lp hql (h.lz q (sub q hq) i (by omega)) (lz i (by omega))
    · intro r hr
      obtain ⟨q, hq, rfl⟩ := List.mem_map.mp hr
      exact rF (h.lw q (sub q hq))
    · intro p hp
      rcases List.mem_append.mp hp with hp | hp
      · obtain ⟨q, hq, rfl⟩ := List.mem_map.mp hp
        have g := h.pl.good q hq
        have hql : q.2.length = lead.length := by rw [ll, g.len]
        have pp := zp lp hql g.pos (lz q.1 (h.pa q hq))
        exact ⟨by rw [oE hql]; exact g.len, g.lt, pp, fun i hi => nk lp hql (g.zero i hi) (lz i (Nat.lt_trans hi (h.pa q hq))), rF (fun i _ => g.one) q.1 (by omega)⟩
      · rw [List.mem_singleton.mp hp]
        exact ⟨ll, ha, lp, lz, lw a (by omega)⟩
    · rw [List.pairwise_append]
      refine ⟨?_, by simp, fun p hp q hq => ?_⟩
      · rw [List.pairwise_map]
        refine List.Pairwise.imp_of_mem (fun {p q} hp hq hpq => ?_) h.pl.pw
        refine ⟨hpq.1, ?_⟩
        have g := h.pl.good p hp
        exact nk lp (by rw [ll, g.len]) hpq.2 (lz q.1 (h.pa q hq))
      · obtain ⟨p', hp', rfl⟩ := List.mem_map.mp hp
        rw [List.mem_singleton.mp hq]
        exact ⟨h.pa p' hp', vy lp (by rw [ll, (h.pl.good p' hp').len])⟩
    · intro p hp
      rcases List.mem_append.mp hp with hp | hp
      · obtain ⟨q, hq, rfl⟩ := List.mem_map.mp hp
        exact Nat.lt_succ_of_lt (h.pa q hq)
      · rw [List.mem_singleton.mp hp]; exact Nat.lt_succ_self a
    · have := hperm.length_eq
      simp only [List.length_map, List.length_append, List.length_cons, List.length_nil] at *
      omega
    · intro x
      have hlead : cq n lead x = 0 ↔ cq n row x = 0 := by rw [← hld]; exact Be n row a x
      constructor
      · intro hx r hr
        have h0 : cq n lead x = 0 := hx lead (by simp)
        rcases List.mem_append.mp hr with hr | hr
        · obtain ⟨p, hp, rfl⟩ := List.mem_map.mp hr
          exact (nV n lp (by rw [ll, (h.pl.good p hp).len]) h0).mp (hx _ (List.mem_append_left _ (List.mem_map.mpr ⟨(p.1, eA lead a p.2), by simp; exact .inl ⟨p.1, p.2, hp, rfl, rfl⟩, rfl⟩)))
        · rcases List.mem_cons.mp (hperm.mem_iff.mp hr) with rfl | hr
          · exact hlead.mp h0
          · exact (nV n lp (by rw [ll, h.ll r (sub r hr)]) h0).mp (hx _ (List.mem_append_right _ (List.mem_map.mpr ⟨r, hr, rfl⟩)))
      · intro hx r hr
        have h0 : cq n lead x = 0 := hlead.mpr (hx row (List.mem_append_right _ hm))
        rcases List.mem_append.mp hr with hr | hr
        · obtain ⟨q, hq, rfl⟩ := List.mem_map.mp hr
          rcases List.mem_append.mp hq with hq | hq
          · obtain ⟨p, hp, rfl⟩ := List.mem_map.mp hq
            exact (nV n lp (by rw [ll, (h.pl.good p hp).len]) h0).mpr (hx _ (List.mem_append_left _ (List.mem_map.mpr ⟨p, hp, rfl⟩)))
          · rw [List.mem_singleton.mp hq]; exact h0
        · obtain ⟨q, hq, rfl⟩ := List.mem_map.mp hr
          exact (nV n lp (by rw [ll, h.ll q (sub q hq)]) h0).mpr (hx _ (List.mem_append_right _ (sub q hq)))
theorem oS {n : Nat} {left : List (List Int)} (hl : ∀ r ∈ left, r.length = n) (hw : ∀ r ∈ left, nH r) : ∀ a, a ≤ n →
    ∃ left' P', (List.range a).foldl cx (left, []) = (left', P'.map (·.2)) ∧ PSt n a left' P' ∧ left'.length + P'.length = left.length ∧ ∀ x, cZ n (P'.map (·.2) ++ left') x ↔ cZ n left x
  | 0, _ => ⟨left, [], rfl, ⟨hl, fun _ _ i hi => by omega, hw, ⟨by simp, by simp⟩, by simp⟩, by simp, fun x => by simp⟩
  | a + 1, ha => by
    obtain ⟨l1, P1, e1, s1, c1, n1⟩ := oS hl hw a (by omega)
    obtain ⟨l2, P2, e2, s2, c2, n2⟩ := Bu (by omega) s1
    refine ⟨l2, P2, ?_, s2, by omega, fun x => (n2 x).trans (n1 x)⟩
    rw [List.range_succ, List.foldl_append, e1]
    exact e2
theorem yB {n : Nat} {r : List Int} (h : ∀ i, i < n → nth r i = 0) (x : Nat → Int) : cq n r x = 0 := dS fun i hi => by rw [h i hi]; omega
theorem gR {n : Nat} {rows : List (List Int)} (hl : ∀ r ∈ rows, r.length = n) : ∃ P, bg rows n = P.map (·.2) ∧ Pl n P ∧ P.length ≤ rows.length ∧ ∀ x, cZ n (bg rows n) x ↔ cZ n rows x := by
  obtain ⟨l, P, e, s, c, nu⟩ := oS (n := n) (left := rows.map low) (fun r hr => by
    obtain ⟨q, hq, rfl⟩ := List.mem_map.mp hr
    rw [low_length]; exact hl q hq) (fun r hr => by
    obtain ⟨q, hq, rfl⟩ := List.mem_map.mp hr
    exact mH q) n (Nat.le_refl n)
  have e' : bg rows n = P.map (·.2) := by unfold bg; rw [e]
  refine ⟨P, e', s.pl, by rw [List.length_map] at c; omega, fun x => ?_⟩
  rw [e']
  have n1 : cZ n (P.map (·.2) ++ l) x ↔ cZ n (P.map (·.2)) x := by
    constructor
    · exact fun h r hr => h r (List.mem_append_left _ hr)
    · intro h r hr
      rcases List.mem_append.mp hr with hr | hr
      · exact h r hr
      · exact yB (s.lz r hr) x
  have n2 : cZ n (rows.map low) x ↔ cZ n rows x := by
    constructor
    · exact fun h r hr => (oJ n r x).mp (h _ (List.mem_map.mpr ⟨r, hr, rfl⟩))
    · intro h r hr
      obtain ⟨q, hq, rfl⟩ := List.mem_map.mp hr
      exact (oJ n q x).mpr (h q hq)
  exact n1.symm.trans ((nu x).trans n2)
end M
set_option maxRecDepth 100000
set_option maxHeartbeats 4000000
namespace M
def bu (n : Nat) (f g : Nat → Int) : Int := aP n fun i => f i * g i
theorem bF (n : Nat) (f g : Nat → Int) : bu n f g = bu n g f := bA fun i _ => Int.mul_comm _ _
theorem eY (n : Nat) (r : List Int) (x : Nat → Int) : cq n r x = bu n (nth r) x := rfl
theorem tI {n : Nat} {a b c : Nat → Int} {g u v : Int} (h : ∀ i, i < n → g * c i = u * a i + v * b i) (x : Nat → Int) : g * bu n c x = u * bu n a x + v * bu n b x := by
  unfold bu
  rw [← cS, ← cS, ← cS, ← lN]
  refine bA fun i hi => ?_
  have := h i hi
  grind
theorem rJ {n : Nat} {a b : Nat → Int} {u v : Int} (x : Nat → Int) : bu n x (fun i => u * a i + v * b i) = u * bu n x a + v * bu n x b := by
  rw [bF n x a, bF n x b, bF, ← tI (g := 1) (c := fun i => u * a i + v * b i) (fun i _ => by omega) x]
  omega
theorem wL {n : Nat} {a b : Nat → Int} (h : ∀ i, i < n → a i = b i) (x : Nat → Int) : bu n a x = bu n b x := bA fun i hi => by rw [h i hi]
def g6 (T : List Int) (R : List (List Int)) (i : Nat) : Int := aP R.length fun j => nth T j * nth (R.getD j []) i
theorem kz (m n : Nat) (f : Nat → Nat → Int) : aP m (fun i => aP n fun j => f i j) = aP n fun j => aP m fun i => f i j := by
  induction m with
  | zero => rw [dS (n := n) (f := fun j => aP 0 fun i => f i j) fun _ _ => rfl]; rfl
  | succ m ih => simp only [aP]; rw [lN, ih]
theorem zR (n : Nat) (T : List Int) (R : List (List Int)) (x : Nat → Int) : bu n (g6 T R) x = aP R.length fun j => nth T j * cq n (R.getD j []) x := by
  unfold bu g6
  have : ∀ i, (aP R.length fun j => nth T j * nth (R.getD j []) i) * x i = aP R.length fun j => nth T j * (nth (R.getD j []) i * x i) := fun i => by
    rw [Int.mul_comm, ← cS]
    refine bA fun j _ => by grind
  rw [bA fun i _ => this i, kz]
  refine bA fun j _ => ?_
  unfold cq
  rw [← cS]
theorem sj {n : Nat} {T : List Int} {R : List (List Int)} {x : Nat → Int} (h : cZ n R x) : bu n (g6 T R) x = 0 := by
  rw [zR]
  refine dS fun j hj => ?_
  rw [h _ (getD_mem hj)]
  omega
def iF (n : Nat) (R : List (List Int)) (x : Nat → Int) : Prop := ∃ k : Int, k ≠ 0 ∧ ∃ T : List Int, T.length = R.length ∧ ∀ i, i < n → k * x i = g6 T R i
theorem iF.dot {n : Nat} {R : List (List Int)} {x y : Nat → Int} (h : iF n R x) (hy : cZ n R y) : bu n x y = 0 := by
  obtain ⟨k, hk, T, _, e⟩ := h
  have h1 : k * bu n x y = 1 * bu n (g6 T R) y + 0 * bu n x y := tI (g := k) (c := x) (a := g6 T R) (b := x) (u := 1) (v := 0) (fun i hi => by rw [e i hi]; omega) y
  rw [sj hy] at h1
  have : k * bu n x y = 0 := by omega
  rcases Int.mul_eq_zero.mp this with z | z
  · exact absurd z hk
  · exact z
theorem pU {T : List Int} {R : List (List Int)} (hT : T.length = R.length) (c : Int) (r : List Int) (i : Nat) : g6 (T ++ [c]) (R ++ [r]) i = g6 T R i + c * nth r i := by
  unfold g6
  rw [List.length_append, List.length_singleton, aP]
  congr 1
  · refine bA fun j hj => ?_
    simp only [nth, List.getD_eq_getElem?_getD]
    rw [List.getElem?_append_left (by omega), List.getElem?_append_left hj]
  · simp only [nth, List.getD_eq_getElem?_getD]
    rw [List.getElem?_append_right (by omega), List.getElem?_append_right (by omega), hT]
    simp
def jH (n a : Nat) : List Int := (List.replicate n 0).set a 1
theorem iL {n a : Nat} (ha : a < n) (i : Nat) : nth (jH n a) i = if i = a then 1 else 0 := by
  unfold jH nth
  rw [List.getD_eq_getElem?_getD, List.getElem?_set]
  by_cases h : a = i
  · subst h; simp [ha]
  · rw [if_neg h, if_neg (fun z => h z.symm)]
    rw [List.getElem?_replicate]
    split <;> rfl
def eW (n : Nat) : List (List Int) := (List.range n).map (jH n)
def aI (a b : List Int) : Int := (List.zipWith (· * ·) a b).sum
def fk (lists : List (List Int)) (row : List Int) : List (List Int) :=
  match iK (lists.map (aI row)) with
  | none => lists
  | some k => (lists.eraseIdx k).map fun one => dD one (aI row one) (lists.getD k []) (aI row (lists.getD k []))
def lg (rows : List (List Int)) (n : Nat) : List (List Int) := rows.foldl fk (eW n)
def aQ (rows : List (List Int)) (n : Nat) : List (List Int) := bg (lg rows n) n
theorem uB : ∀ (a b : List Int), aI a b = aP b.length fun i => nth a i * nth b i
  | _, [] => by unfold aI; simp [aP]
  | [], b :: r => by
    unfold aI
    rw [dS fun i _ => by unfold nth; simp]
    simp
  | a :: l, b :: r => by
    have ih := uB l r
    unfold aI at *
    rw [List.zipWith_cons_cons, List.sum_cons, ih, List.length_cons]
    have : ∀ (n : Nat) (f : Nat → Int), aP (n + 1) f = f 0 + aP n fun i => f (i + 1) := by
      intro n f
      induction n with
      | zero => simp [aP]
      | succ n ih2 => rw [aP, ih2, aP]; omega
    rw [this]
    congr 1
theorem iY {n : Nat} {a b : List Int} (hb : b.length = n) : aI a b = bu n (nth a) (nth b) := by rw [uB, hb]; rfl
structure SSt (n : Nat) (R lists : List (List Int)) : Prop where
  len : ∀ l ∈ lists, l.length = n
  nul : ∀ r ∈ R, ∀ l ∈ lists, bu n (nth r) (nth l) = 0
  spn : ∀ x, cZ n lists x → iF n R x
theorem Al (n : Nat) : SSt n [] (eW n) := by
  refine ⟨fun l hl => ?_, fun r hr => by simp at hr, fun x hx => ⟨1, by decide, [], rfl, fun i hi => ?_⟩⟩
  · obtain ⟨a, _, rfl⟩ := List.mem_map.mp hl
    unfold jH; simp
  · have := hx (jH n i) (List.mem_map.mpr ⟨i, List.mem_range.mpr hi, rfl⟩)
    unfold cq at this
    rw [iD hi (fun j _ hj => by rw [iL hi, if_neg hj]; omega), iL hi, if_pos rfl] at this
    rw [show g6 [] [] i = 0 from rfl]
    omega
theorem t8 {n : Nat} {R lists : List (List Int)} {row : List Int} (hr : row.length = n) (s : SSt n R lists) : SSt n (R ++ [row]) (fk lists row) := by
  unfold fk
  split
  · rename_i e
    have z : ∀ l ∈ lists, aI row l = 0 := fun l hl => j7 e _ (List.mem_map.mpr ⟨l, hl, rfl⟩)
    refine ⟨s.len, fun r hr' l hl => ?_, fun x hx => ?_⟩
    · rcases List.mem_append.mp hr' with q | q
      · exact s.nul r q l hl
      · rw [List.mem_singleton.mp q, ← iY (s.len l hl)]; exact z l hl
    · obtain ⟨k, hk, T, hT, e⟩ := s.spn x hx
      exact ⟨k, hk, T ++ [0], by simp [hT], fun i hi => by rw [pU hT, e i hi]; omega⟩
  · rename_i k e
    obtain ⟨k1, k2, _⟩ := gN e
    rw [List.length_map] at k1
    have hm := getD_mem k1
    have hperm : lists.Perm (lists.getD k [] :: lists.eraseIdx k) := by
      rw [List.getD_eq_getElem?_getD, List.getElem?_eq_getElem k1]
      exact lM k1
    have hv : nth (lists.map (aI row)) k = aI row (lists.getD k []) := by
      unfold nth
      simp only [List.getD_eq_getElem?_getD, List.getElem?_map, List.getElem?_eq_getElem k1]
      rfl
    rw [hv] at k2
    generalize lists.getD k [] = base at *
    have hbl := s.len base hm
    have sub : ∀ l ∈ lists.eraseIdx k, l ∈ lists := fun l hl => List.mem_of_mem_eraseIdx hl
    refine ⟨fun l hl => ?_, fun r hr' l hl => ?_, fun x hx => ?_⟩
    · obtain ⟨q, hq, rfl⟩ := List.mem_map.mp hl
      rw [jn (by rw [hbl, s.len q (sub q hq)]), s.len q (sub q hq)]
    · obtain ⟨q, hq, rfl⟩ := List.mem_map.mp hl
      have hql := s.len q (sub q hq)
      obtain ⟨g, hg, e⟩ := oX (n := n) (one := q) (other := base) (by rw [hbl, hql]) (aI row q) (aI row base) (nth r)
      rw [bF]
      simp only [eY] at e
      rw [bF n (nth q), bF n (nth base)] at e
      have z : g * bu n (nth (dD q (aI row q) base (aI row base))) (nth r) = 0 := by
        rcases List.mem_append.mp hr' with q' | q'
        · rw [e, s.nul r q' q (sub q hq), s.nul r q' base hm]; omega
        · rw [List.mem_singleton.mp q'] at e ⊢
          rw [e, ← iY hql, ← iY hbl]
          grind
      rcases Int.mul_eq_zero.mp z with z | z
      · omega
      · exact z
    · have hc : ∀ l ∈ lists, aI row base * cq n l x = aI row l * cq n base x := fun l hl => by
        rcases List.mem_cons.mp (hperm.mem_iff.mp hl) with rfl | hl'
        · rfl
        · obtain ⟨g, hg, e⟩ := oX (n := n) (one := l) (other := base) (by rw [hbl, s.len l hl]) (aI row l) (aI row base) x
          rw [hx _ (List.mem_map.mpr ⟨l, hl', rfl⟩)] at e
          omega
      have hx' : cZ n lists (fun i => aI row base * x i + (-(cq n base x)) * nth row i) := fun l hl => by
        rw [eY, rJ, ← eY, hc l hl, bF, ← iY (s.len l hl)]
        grind
      obtain ⟨k', hk', T, hT, e'⟩ := s.spn _ hx'
      refine ⟨k' * aI row base, Int.mul_ne_zero hk' k2, T ++ [k' * cq n base x], by simp [hT], fun i hi => ?_⟩
      rw [pU hT, ← e' i hi]
      grind
theorem pX {n : Nat} : ∀ {rows : List (List Int)}, (∀ r ∈ rows, r.length = n) → ∀ {R lists : List (List Int)}, SSt n R lists → SSt n (R ++ rows) (rows.foldl fk lists)
  | [], _, R, lists, s => by simpa using s
  | row :: rows, h, R, lists, s => by
    have := pX (rows := rows) (fun r hr => h r (List.mem_cons_of_mem _ hr)) (t8 (h row List.mem_cons_self) s)
    simpa using this
theorem kh {n : Nat} {rows : List (List Int)} (h : ∀ r ∈ rows, r.length = n) : SSt n rows (lg rows n) := by
  have := pX h (Al n)
  rw [List.nil_append] at this
  exact this
theorem jg {n : Nat} {rows : List (List Int)} (h : ∀ r ∈ rows, r.length = n) :
    ∃ P, aQ rows n = P.map (·.2) ∧ Pl n P ∧ (∀ r ∈ rows, ∀ l ∈ aQ rows n, bu n (nth l) (nth r) = 0) ∧ ∀ x, cZ n (aQ rows n) x → iF n rows x := by
  have s := kh h
  obtain ⟨P, e, pl, _, nu⟩ := gR (n := n) (rows := lg rows n) s.len
  refine ⟨P, e, pl, fun r hr l hl => ?_, fun x hx => s.spn x ((nu x).mp hx)⟩
  have : cZ n (lg rows n) (nth r) := fun l hl => by rw [eY, bF]; exact s.nul r hr l hl
  exact (nu _).mpr this l hl
theorem lT {n : Nat} {rows : List (List Int)} (h : ∀ r ∈ rows, r.length = n) (x : Nat → Int) : cZ n (aQ rows n) x ↔ iF n rows x := by
  obtain ⟨P, _, _, h1, h2⟩ := jg h
  refine ⟨h2 x, fun s l hl => ?_⟩
  rw [eY, bF]
  exact s.dot fun r hr => by rw [eY, bF]; exact h1 r hr l hl
end M
set_option maxRecDepth 100000
set_option maxHeartbeats 4000000
namespace M
def fv (P : List (Nat × List Int)) : Int := (P.map fun p => nth p.2 p.1).foldr (· * ·) 1
theorem pG : ∀ {P : List (Nat × List Int)}, (∀ p ∈ P, 0 < nth p.2 p.1) → 0 < fv P
  | [], _ => by decide
  | p :: P, h => Int.mul_pos (h p List.mem_cons_self) (pG fun q hq => h q (List.mem_cons_of_mem _ hq))
theorem mJ : ∀ {P : List (Nat × List Int)} {p : Nat × List Int}, p ∈ P → nth p.2 p.1 ∣ fv P
  | q :: P, p, h => by
    rcases List.mem_cons.mp h with rfl | h
    · exact Int.dvd_mul_right _ _
    · exact Int.dvd_trans (mJ h) (Int.dvd_mul_left _ _)
def mF (P : List (Nat × List Int)) (L : Int) (f i : Nat) : Int := (P.map fun p => if i = p.1 then nth p.2 f * (L / nth p.2 p.1) else 0).sum
def fY (P : List (Nat × List Int)) (f i : Nat) : Int := (if i = f then fv P else 0) - mF P (fv P) f i
theorem gO {L : Int} {f i : Nat} : ∀ {P : List (Nat × List Int)}, (∀ p ∈ P, p.1 ≠ i) → mF P L f i = 0
  | [], _ => rfl
  | p :: P, h => by
    unfold mF
    rw [List.map_cons, List.sum_cons, if_neg (fun z => h p List.mem_cons_self z.symm)]
    have := gO (L := L) (f := f) (i := i) (P := P) fun q hq => h q (List.mem_cons_of_mem _ hq)
    unfold mF at this
    omega
theorem oO {L : Int} {f : Nat} : ∀ {P : List (Nat × List Int)} {p : Nat × List Int}, P.Pairwise (fun p q => p.1 < q.1 ∧ nth p.2 q.1 = 0) → p ∈ P → mF P L f p.1 = nth p.2 f * (L / nth p.2 p.1)
  | q :: P, p, pw, h => by
    have h0 := List.pairwise_cons.mp pw
    rcases List.mem_cons.mp h with rfl | hp'
    · have := gO (L := L) (f := f) (i := p.1) (P := P) fun r hr => by have := (h0.1 r hr).1; omega
      unfold mF at *
      rw [List.map_cons, List.sum_cons, if_pos rfl, this]
      omega
    · have ih := oO (L := L) (f := f) h0.2 hp'
      have := (h0.1 p hp').1
      unfold mF at *
      rw [List.map_cons, List.sum_cons, if_neg (by omega), ih]
      omega
theorem Pl.other {n : Nat} {P : List (Nat × List Int)} (pl : Pl n P) : ∀ {p q : Nat × List Int}, p ∈ P → q ∈ P → p.1 ≠ q.1 → nth p.2 q.1 = 0 := by
  intro p q hp hq hne
  by_cases h : q.1 < p.1
  · exact (pl.good p hp).zero _ h
  · have : ∀ {P : List (Nat × List Int)}, P.Pairwise (fun p q => p.1 < q.1 ∧ nth p.2 q.1 = 0) → p ∈ P → q ∈ P → p.1 < q.1 → nth p.2 q.1 = 0 := by
      intro P pw hp hq hlt
      induction P with
      | nil => cases hp
      | cons r P ih =>
        have h0 := List.pairwise_cons.mp pw
        rcases List.mem_cons.mp hp with rfl | hp
        · rcases List.mem_cons.mp hq with rfl | hq
          · omega
          · exact (h0.1 q hq).2
        · rcases List.mem_cons.mp hq with rfl | hq
          · have := (h0.1 p (by assumption)).1; omega
          · exact ih h0.2 hp hq
    exact this pl.pw hp hq (by omega)
theorem zv {n f c : Nat} (hf : f < n) (hc : c < n) (hne : f ≠ c) {g : Nat → Int} (h : ∀ i, i < n → i ≠ f → i ≠ c → g i = 0) : aP n g = g f + g c := by
  have : aP n g = aP n (fun i => if i = f then g f else 0) + aP n (fun i => if i = c then g c else 0) := by
    rw [← lN]
    refine bA fun i hi => ?_
    by_cases h1 : i = f
    · subst h1; rw [if_pos rfl, if_neg hne]; omega
    · by_cases h2 : i = c
      · subst h2; rw [if_neg h1, if_pos rfl]; omega
      · rw [if_neg h1, if_neg h2, h i hi h1 h2]; rfl
  rw [this, iD hf (fun i _ hi => by rw [if_neg hi]), iD hc (fun i _ hi => by rw [if_neg hi]), if_pos rfl, if_pos rfl]
theorem rg {n : Nat} {P : List (Nat × List Int)} (pl : Pl n P) {f : Nat} (hf : f < n) (hfree : ∀ p ∈ P, p.1 ≠ f) {p : Nat × List Int} (hp : p ∈ P) {r : List Int} (hr : ∀ q ∈ P, q.1 ≠ p.1 → nth r q.1 = 0) :
    cq n r (fY P f) = nth r f * fv P - nth r p.1 * (nth p.2 f * (fv P / nth p.2 p.1)) := by
  unfold cq
  rw [zv hf (pl.good p hp).lt (fun z => hfree p hp z.symm) (fun i _ h1 h2 => ?_)]
  · have e1 : fY P f f = fv P := by
      unfold fY; rw [if_pos rfl, gO hfree]; omega
    have e2 : fY P f p.1 = -(nth p.2 f * (fv P / nth p.2 p.1)) := by
      unfold fY; rw [if_neg (hfree p hp), oO pl.pw hp]; omega
    rw [e1, e2]; grind
  · by_cases hq : ∃ q ∈ P, q.1 = i
    · obtain ⟨q, hq, rfl⟩ := hq
      rw [hr q hq h2]; omega
    · have : fY P f i = 0 := by
        unfold fY
        rw [if_neg h1, gO fun q hq' z => hq ⟨q, hq', z⟩]; rfl
      rw [this]; omega
theorem lL {n : Nat} {P : List (Nat × List Int)} (pl : Pl n P) {f : Nat} (hf : f < n) (hfree : ∀ p ∈ P, p.1 ≠ f) : cZ n (P.map (·.2)) (fY P f) := by
  intro r hr
  obtain ⟨p, hp, rfl⟩ := List.mem_map.mp hr
  rw [rg pl hf hfree hp fun q hq h => pl.other hp hq fun z => h z.symm]
  have hd := mJ hp
  have hpos := (pl.good p hp).pos
  obtain ⟨k, hk⟩ := hd
  have : fv P / nth p.2 p.1 = k := by rw [hk, Int.mul_ediv_cancel_left _ (by omega)]
  rw [this, hk]; grind
theorem wF {n : Nat} {P : List (Nat × List Int)} (pl : Pl n P) {f : Nat} (hfree : ∀ p ∈ P, p.1 ≠ f) {i : Nat} (hi : f < i) : fY P f i = 0 := by
  unfold fY
  rw [if_neg (by omega)]
  by_cases hq : ∃ q ∈ P, q.1 = i
  · obtain ⟨q, hq, rfl⟩ := hq
    rw [oO pl.pw hq, (pl.good q hq).zero f hi]; omega
  · rw [gO fun q hq' z => hq ⟨q, hq', z⟩]; rfl
theorem Pl.leads_pos {n : Nat} {P : List (Nat × List Int)} (pl : Pl n P) : 0 < fv P := pG fun p hp => (pl.good p hp).pos
theorem nK {n : Nat} {P Q : List (Nat × List Int)} (pl : Pl n P) (ql : Pl n Q) (h : ∀ x, cZ n (Q.map (·.2)) x → cZ n (P.map (·.2)) x) {p : Nat × List Int} (hp : p ∈ P) : ∃ q ∈ Q, q.1 = p.1 := by
  apply Classical.byContradiction
  intro hn
  have hfree : ∀ q ∈ Q, q.1 ≠ p.1 := fun q hq z => hn ⟨q, hq, z⟩
  have g := pl.good p hp
  have := h _ (lL ql g.lt hfree) p.2 (List.mem_map.mpr ⟨p, hp, rfl⟩)
  unfold cq at this
  rw [iD g.lt fun i _ hi => ?_] at this
  · have e : fY Q p.1 p.1 = fv Q := by unfold fY; rw [if_pos rfl, gO hfree]; omega
    rw [e] at this
    have h1 := ql.leads_pos
    have h2 := g.pos
    have := Int.mul_pos h2 h1
    omega
  · by_cases hlt : i < p.1
    · rw [g.zero i hlt]; omega
    · rw [wF ql hfree (by omega)]; omega
theorem rh : ∀ {l m : List Nat}, l.Pairwise (· < ·) → m.Pairwise (· < ·) → (∀ x, x ∈ l ↔ x ∈ m) → l = m
  | [], [], _, _, _ => rfl
  | [], b :: m, _, _, h => by have := (h b).mpr List.mem_cons_self; cases this
  | a :: l, [], _, _, h => by have := (h a).mp List.mem_cons_self; cases this
  | a :: l, b :: m, hl, hm, h => by
    have h1 := List.pairwise_cons.mp hl
    have h2 := List.pairwise_cons.mp hm
    have hab : a = b := by
      rcases List.mem_cons.mp ((h a).mp List.mem_cons_self) with e | e
      · exact e
      · rcases List.mem_cons.mp ((h b).mpr List.mem_cons_self) with e' | e'
        · exact e'.symm
        · have := h1.1 b e'; have := h2.1 a e; omega
    subst hab
    congr 1
    refine rh h1.2 h2.2 fun x => ⟨fun hx => ?_, fun hx => ?_⟩
    · rcases List.mem_cons.mp ((h x).mp (List.mem_cons_of_mem _ hx)) with e | e
      · have := h1.1 x hx; omega
      · exact e
    · rcases List.mem_cons.mp ((h x).mpr (List.mem_cons_of_mem _ hx)) with e | e
      · have := h2.1 x hx; omega
      · exact e
theorem uh (a : Int) (r : List Int) : cP (r.map (a * ·)) = a.natAbs * cP r := by
  unfold cP
  have : ∀ (l : List Int) (c : Nat), (l.map (a * ·)).foldl (fun c n => Nat.gcd c n.natAbs) (a.natAbs * c) = a.natAbs * l.foldl (fun c n => Nat.gcd c n.natAbs) c := by
    intro l
    induction l with
    | nil => intro c; rfl
    | cons b l ih => intro c; simp only [List.map_cons, List.foldl_cons, Int.natAbs_mul, Nat.gcd_mul_left]; exact ih _
  exact this r 0
theorem nF {r s : List Int} (hl : r.length = s.length) (h : ∀ i, i < r.length → nth r i = nth s i) : r = s := by
  refine List.ext_getElem hl fun i h1 h2 => ?_
  have := h i h1
  unfold nth at this
  simpa [List.getD_eq_getElem?_getD, h1, h2] using this
theorem vx {r s : List Int} (hl : r.length = s.length) (h1 : cP r = 1) (h2 : cP s = 1) {a b : Int} (ha : 0 < a) (hb : 0 < b) (h : ∀ i, i < r.length → a * nth r i = b * nth s i) : r = s := by
  have e : r.map (a * ·) = s.map (b * ·) := nF (by simp [hl]) fun i hi => by
    rw [i6 (by simp), i6 (by simp)]; exact h i (by simpa using hi)
  have e2 := uh a r
  rw [e, uh, h1, h2] at e2
  have hab : a = b := by omega
  subst hab
  exact nF hl fun i hi => Int.eq_of_mul_eq_mul_left (by omega) (h i hi)
theorem wZ {n : Nat} {P Q : List (Nat × List Int)} (pl : Pl n P) (ql : Pl n Q) (h : ∀ x, cZ n (P.map (·.2)) x ↔ cZ n (Q.map (·.2)) x) : P = Q := by
  have hf : P.map (·.1) = Q.map (·.1) := by
    refine rh (List.pairwise_map.mpr (pl.pw.imp fun h => h.1)) (List.pairwise_map.mpr (ql.pw.imp fun h => h.1)) fun x => ⟨fun hx => ?_, fun hx => ?_⟩
    · obtain ⟨p, hp, rfl⟩ := List.mem_map.mp hx
      obtain ⟨q, hq, e⟩ := nK pl ql (fun x => (h x).mpr) hp
      exact List.mem_map.mpr ⟨q, hq, e⟩
    · obtain ⟨p, hp, rfl⟩ := List.mem_map.mp hx
      obtain ⟨q, hq, e⟩ := nK ql pl (fun x => (h x).mp) hp
      exact List.mem_map.mpr ⟨q, hq, e⟩
  have key : ∀ p ∈ P, ∀ q ∈ Q, p.1 = q.1 → p.2 = q.2 := fun p hp q hq hpq => by
    have gp := pl.good p hp
    have gq := ql.good q hq
    refine vx (by rw [gp.len, gq.len]) gp.one gq.one (a := nth q.2 q.1) (b := nth p.2 p.1) gq.pos gp.pos fun i hi => ?_
    by_cases hpiv : ∃ p' ∈ P, p'.1 = i
    · obtain ⟨p', hp', rfl⟩ := hpiv
      by_cases hc : p'.1 = p.1
      · rw [hc, ← hpq]; grind
      · obtain ⟨q', hq', e⟩ := nK pl ql (fun x => (h x).mpr) hp'
        rw [pl.other hp hp' (fun z => hc z.symm), ← e, ql.other hq hq' (by omega)]; omega
    · have hfree : ∀ p ∈ P, p.1 ≠ i := fun p' hp' z => hpiv ⟨p', hp', z⟩
      have hi' : i < n := by rw [gp.len] at hi; exact hi
      have := (h _).mp (lL pl hi' hfree) q.2 (List.mem_map.mpr ⟨q, hq, rfl⟩)
      rw [rg pl hi' hfree hp (r := q.2) fun p' hp' hne => by
        obtain ⟨q', hq', e⟩ := nK pl ql (fun x => (h x).mpr) hp'
        rw [← e]; exact ql.other hq hq' (by omega)] at this
      obtain ⟨k, hk⟩ := mJ hp
      have hpos := gp.pos
      have e1 : fv P / nth p.2 p.1 = k := by rw [hk, Int.mul_ediv_cancel_left _ (by omega)]
      have hk0 : k ≠ 0 := fun z => by have := pl.leads_pos; rw [hk, z] at this; omega
      rw [e1, hk, hpq] at this
      have : k * (nth q.2 q.1 * nth p.2 i - nth p.2 p.1 * nth q.2 i) = 0 := by rw [hpq]; grind
      rcases Int.mul_eq_zero.mp this with z | z
      · exact absurd z hk0
      · omega
  have hlen : P.length = Q.length := by have := congrArg List.length hf; simpa using this
  refine List.ext_getElem hlen fun i h1 h2 => ?_
  have e1 : P[i].1 = Q[i].1 := by
    have : (P.map (·.1))[i]'(by simpa using h1) = (Q.map (·.1))[i]'(by simpa using h2) := by simp only [hf]
    simpa using this
  exact Prod.ext e1 (key _ (List.getElem_mem h1) _ (List.getElem_mem h2) e1)
theorem ro {n : Nat} {R S : List (List Int)} (hR : ∀ r ∈ R, r.length = n) (hS : ∀ r ∈ S, r.length = n) (h : ∀ x, cZ n R x ↔ cZ n S x) : bg R n = bg S n := by
  obtain ⟨P, e1, p1, _, n1⟩ := gR hR
  obtain ⟨Q, e2, p2, _, n2⟩ := gR hS
  have : P = Q := wZ p1 p2 fun x => by rw [← e1, ← e2]; exact (n1 x).trans ((h x).trans (n2 x).symm)
  rw [e1, e2, this]
theorem jT {n : Nat} {R : List (List Int)} (hR : ∀ r ∈ R, r.length = n) : ∀ r ∈ bg R n, r.length = n := by
  obtain ⟨P, e1, p1, _⟩ := gR hR
  rw [e1]
  intro r hr
  obtain ⟨p, hp, rfl⟩ := List.mem_map.mp hr
  exact (p1.good p hp).len
theorem oC {n : Nat} {R : List (List Int)} (hR : ∀ r ∈ R, r.length = n) : bg (bg R n) n = bg R n := by
  obtain ⟨P, e1, p1, _, n1⟩ := gR hR
  exact ro (jT hR) hR n1
theorem mB {n : Nat} {R : List (List Int)} (hR : ∀ r ∈ R, r.length = n) : ∀ r ∈ aQ R n, r.length = n := jT (kh hR).len
theorem ot {n : Nat} {R : List (List Int)} (hR : ∀ r ∈ R, r.length = n) : aQ (aQ R n) n = bg R n := by
  have hS := mB hR
  obtain ⟨P, _, _, h1, h2⟩ := jg hR
  obtain ⟨Q, _, _, h3, h4⟩ := jg hS
  have hSS := mB hS
  rw [← oC hR]
  have : aQ (aQ R n) n = bg (aQ (aQ R n) n) n := (oC (R := lg (aQ R n) n) (kh hS).len).symm
  rw [this]
  refine ro hSS (jT hR) fun x => ?_
  obtain ⟨_, _, _, _, n1⟩ := gR hR
  rw [n1, lT hS]
  constructor
  · intro s r hr
    rw [eY, bF]
    exact s.dot fun l hl => h1 r hr l hl
  · intro hx
    refine h4 x fun l hl => ?_
    have : cZ n (aQ R n) (nth l) := fun q hq => by rw [eY, bF]; exact h3 q hq l hl
    exact (h2 _ this).dot hx
end M
set_option maxRecDepth 100000
set_option maxHeartbeats 4000000
namespace M
def SzL (b : Nat) (r : List Int) : Prop := ∀ x ∈ r, Sz b x
def kj (b : Nat) (R : List (List Int)) : Prop := ∀ r ∈ R, SzL b r
theorem SzL.mono {b c : Nat} {r : List Int} (h : SzL b r) (hbc : b ≤ c) : SzL c r := fun x hx => (h x hx).mono hbc
theorem kj.mono {b c : Nat} {r : List (List Int)} (h : kj b r) (hbc : b ≤ c) : kj c r := fun x hx => (h x hx).mono hbc
theorem Sz.zero (b : Nat) : Sz b 0 := by unfold Sz; simp; exact Nat.two_pow_pos b
theorem SzL.nth {b : Nat} {r : List Int} (h : SzL b r) (i : Nat) : Sz b (M.nth r i) := by
  by_cases hi : i < r.length
  · exact h _ (qb hi)
  · rw [i5 (by omega)]; exact Sz.zero b
theorem SzL.low {b : Nat} {r : List Int} (h : SzL b r) : SzL b (M.low r) := by
  intro x hx
  unfold M.low at hx
  split at hx
  · exact h x hx
  · obtain ⟨y, hy, rfl⟩ := List.mem_map.mp hx
    exact Nat.lt_of_le_of_lt (Int.natAbs_ediv_le_natAbs y _) (h y hy)
theorem SzL.mix {b1 b2 bv bw : Nat} {one other : List Int} {v w : Int} (h1 : SzL b1 one) (h2 : SzL b2 other) (hv : Sz bv v) (hw : Sz bw w) : SzL (max (b1 + bw) (b2 + bv) + 1) (kP one v other w) := by
  intro x hx
  unfold kP at hx
  obtain ⟨i, hi, e⟩ := List.getElem_of_mem hx
  rw [List.getElem_zipWith] at e
  subst e
  exact Sz.sub (Sz.mul (h1 _ (List.getElem_mem _)) hw) (Sz.mul (h2 _ (List.getElem_mem _)) hv)
theorem SzL.off {b1 b2 bv bw : Nat} {one other : List Int} {v w : Int} (h1 : SzL b1 one) (h2 : SzL b2 other) (hv : Sz bv v) (hw : Sz bw w) : SzL (max (b1 + bw) (b2 + bv) + 1) (dD one v other w) := (SzL.mix h1 h2 hv hw).low
theorem SzL.sgn {b : Nat} {r : List Int} (h : SzL b r) (a : Nat) : SzL b (gX r a) := by
  unfold gX
  split
  · exact h
  · intro x hx
    obtain ⟨y, hy, rfl⟩ := List.mem_map.mp hx
    exact (h y hy).neg
theorem SzL.clr {b : Nat} {row lead : List Int} (h1 : SzL b row) (h2 : SzL b lead) (a : Nat) : SzL (2 * b + 1) (eA lead a row) := by
  unfold eA
  split
  · exact h1.mono (by omega)
  · exact (SzL.off h1 h2 (h1.nth a) (h2.nth a)).mono (by omega)
theorem nE {b a : Nat} {left done : List (List Int)} (h1 : kj b left) (h2 : kj b done) : kj (2 * b + 1) (cx (left, done) a).1 ∧ kj (2 * b + 1) (cx (left, done) a).2 := by
  unfold cx
  dsimp only
  split
  · exact ⟨h1.mono (by omega), h2.mono (by omega)⟩
  · rename_i k e
    have k1 := (gN e).1
    rw [List.length_map] at k1
    have hl : SzL b (gX (left.getD k []) a) := SzL.sgn (h1 _ (getD_mem k1)) a
    refine ⟨fun r hr => ?_, fun r hr => ?_⟩
    · obtain ⟨q, hq, rfl⟩ := List.mem_map.mp hr
      exact SzL.clr (h1 q (List.mem_of_mem_eraseIdx hq)) hl a
    · rcases List.mem_append.mp hr with hr | hr
      · obtain ⟨q, hq, rfl⟩ := List.mem_map.mp hr
        exact SzL.clr (h2 q hq) hl a
      · rw [List.mem_singleton.mp hr]; exact hl.mono (by omega)
def grow (b p : Nat) : Nat := 2 ^ p * (b + 1) - 1
theorem yx (b : Nat) : grow b 0 = b := by unfold grow; simp
theorem qZ (b p : Nat) : 2 * grow b p + 1 = grow b (p + 1) := by
  unfold grow
  have h : 0 < 2 ^ p * (b + 1) := Nat.mul_pos (Nat.two_pow_pos p) (Nat.succ_pos b)
  have e : 2 ^ (p + 1) * (b + 1) = 2 * (2 ^ p * (b + 1)) := by rw [Nat.pow_succ, Nat.mul_comm (2 ^ p) 2, Nat.mul_assoc]
  rw [e]
  omega
theorem mM {a : Nat} {left done : List (List Int)} : ((cx (left, done) a) = (left, done)) ∨ (cx (left, done) a).2.length = done.length + 1 := by
  unfold cx
  dsimp only
  split
  · exact .inl rfl
  · exact .inr (by simp)
structure PSz (n b a : Nat) (rows : List (List Int)) (left done : List (List Int)) : Prop where
  eq : (List.range a).foldl cx (rows.map low, []) = (left, done)
  ll : ∀ r ∈ left, r.length = n
  dl : ∀ r ∈ done, r.length = n
  cnt : left.length + done.length = rows.length
  ls : kj (grow b done.length) left
  ds : kj (grow b done.length) done
theorem PSz.start {n b : Nat} {rows : List (List Int)} (hl : ∀ r ∈ rows, r.length = n) (hs : kj b rows) : PSz n b 0 rows (rows.map low) [] := by
  refine ⟨rfl, fun r hr => ?_, by simp, by simp, fun r hr => ?_, fun r hr => by cases hr⟩
  · obtain ⟨q, hq, rfl⟩ := List.mem_map.mp hr
    rw [low_length]; exact hl q hq
  · obtain ⟨q, hq, rfl⟩ := List.mem_map.mp hr
    rw [List.length_nil, yx]
    exact (hs q hq).low
theorem PSz.step {n b a : Nat} {rows left done : List (List Int)} (h : PSz n b a rows left done) (hl : ∀ r ∈ rows, r.length = n) (ha : a < n) : PSz n b (a + 1) rows (cx (left, done) a).1 (cx (left, done) a).2 := by
  have eq' : (List.range (a + 1)).foldl cx (rows.map low, []) = cx (left, done) a := by
    rw [List.range_succ, List.foldl_append, h.eq]; rfl
  obtain ⟨l', P', e, s, c, _⟩ := oS (n := n) (left := rows.map low) (fun r hr => by
    obtain ⟨q, hq, rfl⟩ := List.mem_map.mp hr
    rw [low_length]; exact hl q hq) (fun r hr => by
    obtain ⟨q, hq, rfl⟩ := List.mem_map.mp hr
    exact mH q) (a + 1) (by omega)
  rw [eq'] at e
  refine ⟨eq', fun r hr => ?_, fun r hr => ?_, ?_, ?_, ?_⟩
  · rw [e] at hr; exact s.ll r hr
  · rw [e] at hr
    obtain ⟨p, hp, rfl⟩ := List.mem_map.mp hr
    exact (s.pl.good p hp).len
  · rw [e]; simp; simpa using c
  · rcases mM (a := a) (left := left) (done := done) with q | q
    · rw [q]; exact h.ls
    · rw [q, ← qZ]; exact (nE h.ls h.ds).1
  · rcases mM (a := a) (left := left) (done := done) with q | q
    · rw [q]; exact h.ds
    · rw [q, ← qZ]; exact (nE h.ls h.ds).2
theorem PSz.done {n b : Nat} {rows left done : List (List Int)} (h : PSz n b n rows left done) : bg rows n = done := by unfold bg; rw [h.eq]
end M
set_option maxRecDepth 100000
set_option maxHeartbeats 4000000
namespace M
open PySem PySem.Spec PyProof.Rows L2
section
variable {s s1 : S} {d : D}
@[simp] theorem FE (m : AM) (s : S) : wA m s = (m s).bind fun x => match x.1 with
  | [.lst as, .lst bs] => .ok ((mn as bs, none), x.2)
  | _ => .bad := rfl
@[simp] theorem jD (m : AM) (s : S) : fg m s = (m s).bind fun x => match x.1 with
  | [.lst as] => .ok ((d9 as, none), x.2)
  | _ => .bad := rfl
@[simp] theorem A9 (m : EM) (s : S) : xq m s = (m s).bind fun x => match x.1 with
  | .str z => .ok ((j3 z, none), x.2)
  | _ => .bad := rfl
@[simp] theorem xD (f g : Op2) (a b c : EM) (s : S) : nj f g a b c s = (a s).bind fun x => (b x.2).bind fun y => (f y.2.o x.1 y.1).bind fun z => match z with
  | .bl true => (c y.2).bind fun w => (g w.2.o y.1 w.1).bind fun d => .ok (d, w.2)
  | .bl false => .ok (.bl false, y.2)
  | _ => .bad := rfl
@[simp] theorem zg (n : Nat) (f : FM) (m : AM) (s : S) : wN n f m s = (m s).bind fun x => if x.1.length = n then (match f x.1 x.2.o with
  | .ok (d, O1) => .ok (d, ⟨x.2.r, O1⟩)
  | _ => .bad) else .bad := rfl
@[simp] theorem Fv (m : EM) (s : S) : Fh m s = (m s).bind fun x => match lsD x.2.o x.1 with
  | some ds => .ok (!ds.isEmpty, x.2)
  | none => .bad := rfl
@[simp] theorem FH (fin : S → List D → Res (D × S)) (ma : AM) (mk : EM) (s : S) : E3 fin ma mk s = (ma s).bind fun x => if x.1.length ≤ 16777216 then (mk x.2).bind fun y => match y.1 with
    | .int k => if (-(2 ^ 63) ≤ k ∧ k < 2 ^ 63) ∧ x.1.length * k.toNat ≤ 16777216 then fin y.2 (CL k x.1) else .bad
    | _ => .bad
  else .bad := rfl
@[simp] theorem Fw (s : S) (ds : List D) : Fj s ds = .ok (.lst ds, s) := rfl
@[simp] theorem FC (s : S) (ds : List D) : EX s ds = .ok (.ptr s.o.length, ⟨s.r, s.o ++ [.lst ds]⟩) := rfl
@[simp] theorem FD (O : aw) : isD O .non .non = .ok (.bl true) := rfl
@[simp] theorem Fu (O : aw) (i : Int) : isD O (.int i) .non = .ok (.bl false) := rfl
@[simp] theorem FK (O : aw) (i : List D) : isD O (.lst i) .non = .ok (.bl false) := rfl
@[simp] theorem FG (O : aw) (i : List D) : isD O (.tup i) .non = .ok (.bl false) := rfl
@[simp] theorem Ey (O : aw) : pE O .non .non = .ok (.bl false) := rfl
@[simp] theorem Er (O : aw) (i : Int) : pE O (.int i) .non = .ok (.bl true) := rfl
@[simp] theorem EC (O : aw) (i : List D) : pE O (.lst i) .non = .ok (.bl true) := rfl
@[simp] theorem EB (O : aw) (i : List D) : pE O (.tup i) .non = .ok (.bl true) := rfl
@[simp] theorem kl (g h : GM) (a b : D) (s : S) : dv (aS g (aS h dA)) 2 (.tup [a, b]) s = (g a s).bind fun s1 => h b s1 := by
  show (g a s).bind (fun s1 => (h b s1).bind fun s2 => .ok s2) = _
  congr 1
  funext s1
  cases h b s1 <;> rfl
@[simp] theorem uM (ns : List Int) : fb (ns.map D.int) = some ns := by
  induction ns with
  | nil => rfl
  | cons n ns ih => rw [List.map_cons, fb, ih]; rfl
@[simp] theorem oA (ns : List Bool) : g7 (ns.map D.bl) = some ns := by
  induction ns with
  | nil => rfl
  | cons n ns ih => rw [List.map_cons, g7, ih]; rfl
@[simp] theorem mX (O : aw) (ns : List Int) : wq O [.lst (ns.map D.int)] = .ok (.int ns.sum) := by
  show (match fb (ns.map D.int) with
      | some ns => Res.ok (D.int ns.sum)
      | none => .bad) = _
  rw [uM]
@[simp] theorem oU (O : aw) (ns : List Bool) : wW O [.lst (ns.map D.bl)] = .ok (.bl (ns.all id)) := by
  show (match g7 (ns.map D.bl) with
      | some ns => Res.ok (D.bl (ns.all id))
      | none => .bad) = _
  rw [oA]
@[simp] theorem uo (O : aw) (ns : List Bool) : wH O [.lst (ns.map D.bl)] = .ok (.bl (ns.any id)) := by
  show (match g7 (ns.map D.bl) with
      | some ns => Res.ok (D.bl (ns.any id))
      | none => .bad) = _
  rw [oA]
end
theorem kO {α : Type} {ok : aw → Prop} {g : GM} {c : TM} {e : EM} {O : aw} (hok : ok O) (item : α → D) (P : S → Prop) (hP : ∀ s, P s → s.o = O) (l : List α) (p : α → Bool) (out : α → D)
    (step : ∀ a ∈ l, ∀ s, P s → ∃ s1 s2, g (item a) s = .ok s1 ∧ c s1 = .ok (p a, s2) ∧ (p a = false → P s2) ∧ (p a = true → ∃ s3, e s2 = .ok (out a, s3) ∧ P s3)) :
    ∀ (acc : List D) (s : S), acc.length + l.length ≤ 16777216 → P s → ∃ s', gk ok g c e (l.map item) acc s = .ok (acc ++ (l.filter p).map out, s') ∧ P s' := by
  induction l with
  | nil =>
    intro acc s _ h
    exact ⟨s, by rw [List.map_nil, gk, if_pos (by rw [hP s h]; exact hok)]; simp, h⟩
  | cons a l ih =>
    intro acc s hl h
    rw [List.length_cons] at hl
    obtain ⟨s1, s2, e1, e2, h2, h3⟩ := step a List.mem_cons_self s h
    rw [List.map_cons, gk, if_pos ⟨by rw [hP s h]; exact hok, by omega⟩, e1, aa, e2, aa]
    cases hp : p a with
    | false =>
      obtain ⟨s', e3, h4⟩ := ih (fun b hb => step b (List.mem_cons_of_mem _ hb)) acc s2 (by omega) (h2 hp)
      refine ⟨s', ?_, h4⟩
      rw [List.filter_cons_of_neg (by simp [hp])]
      simpa using e3
    | true =>
      obtain ⟨s3, e3, h4⟩ := h3 hp
      obtain ⟨s', e5, h5⟩ := ih (fun b hb => step b (List.mem_cons_of_mem _ hb)) (acc ++ [out a]) s3 (by rw [List.length_append, List.length_singleton]; omega) h4
      refine ⟨s', ?_, h5⟩
      rw [List.filter_cons_of_pos hp]
      simp only [if_true, e3, aa, e5]
      simp
section
variable {α : Type} {caps : List Nat} {im : IM} {c : TM} {e : EM} {s : S} {k : Option Nat} {l : List α} {item out : α → D} {p : α → Bool}
theorem tE (him : im s = .ok ((l.map item, k), s)) (hok : okC (l.map item) k s.o) (hl : l.length ≤ 16777216)
    (hc : ∀ a ∈ l, c ⟨some (item a) :: caps.map (fun i => (s.r[i]?).getD none), s.o⟩ = .ok (p a, ⟨some (item a) :: caps.map (fun i => (s.r[i]?).getD none), s.o⟩))
    (he : ∀ a ∈ l, p a = true → e ⟨some (item a) :: caps.map (fun i => (s.r[i]?).getD none), s.o⟩ = .ok (out a, ⟨some (item a) :: caps.map (fun i => (s.r[i]?).getD none), s.o⟩)) :
    iB 1 caps im (aL 0) c e s = .ok ((l.filter p).map out, s) := by
  obtain ⟨s', e1, x, h1⟩ := kO (ok := okC (l.map item) k) (g := aL 0) (c := c) (e := e) (O := s.o) hok item (fun s2 => ∃ x, s2 = ⟨x :: caps.map (fun i => (s.r[i]?).getD none), s.o⟩) (by rintro _ ⟨_, rfl⟩; rfl) l p out (by
    rintro a ha _ ⟨x, rfl⟩
    exact ⟨_, _, rfl, hc a ha, fun _ => ⟨_, rfl⟩, fun hp => ⟨_, he a ha hp, _, rfl⟩⟩) [] ⟨lH 1 caps s.r, s.o⟩ (by simpa using hl) ⟨none, rfl⟩
  rw [pb, him, aa]
  dsimp only
  rw [e1, aa]
  subst h1
  rfl
theorem CH {f g : α → D} (him : im s = .ok ((l.map (fun a => D.tup [f a, g a]), k), s)) (hok : okC (l.map (fun a => D.tup [f a, g a])) k s.o) (hl : l.length ≤ 16777216)
    (hc : ∀ a ∈ l, c ⟨some (f a) :: some (g a) :: caps.map (fun i => (s.r[i]?).getD none), s.o⟩ = .ok (p a, ⟨some (f a) :: some (g a) :: caps.map (fun i => (s.r[i]?).getD none), s.o⟩))
    (he : ∀ a ∈ l, p a = true → e ⟨some (f a) :: some (g a) :: caps.map (fun i => (s.r[i]?).getD none), s.o⟩ = .ok (out a, ⟨some (f a) :: some (g a) :: caps.map (fun i => (s.r[i]?).getD none), s.o⟩)) :
    iB 2 caps im (dv (aS (aL 0) (aS (aL 1) dA)) 2) c e s = .ok ((l.filter p).map out, s) := by
  obtain ⟨s', e1, x, y, h1⟩ := kO (ok := okC (l.map (fun a => D.tup [f a, g a])) k) (g := dv (aS (aL 0) (aS (aL 1) dA)) 2) (c := c) (e := e) (O := s.o) hok (fun a => D.tup [f a, g a]) (fun s2 => ∃ x y, s2 = ⟨x :: y :: caps.map (fun i => (s.r[i]?).getD none), s.o⟩) (by rintro _ ⟨_, _, rfl⟩; rfl) l p out (by
    rintro a ha _ ⟨x, y, rfl⟩
    exact ⟨_, _, by simp, hc a ha, fun _ => ⟨_, _, rfl⟩, fun hp => ⟨_, he a ha hp, _, _, rfl⟩⟩) [] ⟨lH 2 caps s.r, s.o⟩ (by simpa using hl) ⟨none, none, rfl⟩
  rw [pb, him, aa]
  dsimp only
  rw [e1, aa]
  subst h1
  rfl
theorem jl (l : List α) : l.filter (fun _ => true) = l := by simp
theorem jx (him : im s = .ok ((l.map item, k), s)) (hok : okC (l.map item) k s.o) (hl : l.length ≤ 16777216)
    (he : ∀ a ∈ l, e ⟨some (item a) :: caps.map (fun i => (s.r[i]?).getD none), s.o⟩ = .ok (out a, ⟨some (item a) :: caps.map (fun i => (s.r[i]?).getD none), s.o⟩)) :
    dc 1 caps im (aL 0) d4 e s = .ok (.lst (l.map out), s) := by
  rw [mf, tE (p := fun _ => true) him hok hl (fun _ _ => rfl) (fun a ha _ => he a ha), aa, jl]
theorem B3 (him : im s = .ok ((l.map item, k), s)) (hok : okC (l.map item) k s.o) (hl : l.length ≤ 16777216)
    (hc : ∀ a ∈ l, c ⟨some (item a) :: caps.map (fun i => (s.r[i]?).getD none), s.o⟩ = .ok (p a, ⟨some (item a) :: caps.map (fun i => (s.r[i]?).getD none), s.o⟩))
    (he : ∀ a ∈ l, p a = true → e ⟨some (item a) :: caps.map (fun i => (s.r[i]?).getD none), s.o⟩ = .ok (out a, ⟨some (item a) :: caps.map (fun i => (s.r[i]?).getD none), s.o⟩)) :
    dc 1 caps im (aL 0) c e s = .ok (.lst ((l.filter p).map out), s) := by
  rw [mf, tE him hok hl hc he, aa]
theorem C6 {f g : α → D} (him : im s = .ok ((l.map (fun a => D.tup [f a, g a]), k), s)) (hok : okC (l.map (fun a => D.tup [f a, g a])) k s.o) (hl : l.length ≤ 16777216)
    (he : ∀ a ∈ l, e ⟨some (f a) :: some (g a) :: caps.map (fun i => (s.r[i]?).getD none), s.o⟩ = .ok (out a, ⟨some (f a) :: some (g a) :: caps.map (fun i => (s.r[i]?).getD none), s.o⟩)) :
    dc 2 caps im (dv (aS (aL 0) (aS (aL 1) dA)) 2) d4 e s = .ok (.lst (l.map out), s) := by
  rw [mf, CH (p := fun _ => true) him hok hl (fun _ _ => rfl) (fun a ha _ => he a ha), aa, jl]
theorem CZ (him : im s = .ok ((l.map item, k), s)) (hok : okC (l.map item) k s.o) (hl : l.length ≤ 16777216)
    (he : ∀ a ∈ l, e ⟨some (item a) :: caps.map (fun i => (s.r[i]?).getD none), s.o⟩ = .ok (out a, ⟨some (item a) :: caps.map (fun i => (s.r[i]?).getD none), s.o⟩)) :
    p9 1 caps im (aL 0) d4 e s = .ok (.ptr s.o.length, ⟨s.r, s.o ++ [.lst (l.map out)]⟩) := by
  rw [zt, tE (p := fun _ => true) him hok hl (fun _ _ => rfl) (fun a ha _ => he a ha), aa, jl]
end
abbrev vI (r : List Int) : D := .lst (r.map .int)
abbrev vII (R : List (List Int)) : D := .lst (R.map vI)
@[simp] theorem fe (R : List (List Int)) : ax (R.map vI) = true := by
  induction R with
  | nil => rfl
  | cons r R ih => simp [ih]
theorem ye (as bs : List Int) : mn (as.map D.int) (bs.map D.int) = (as.zip bs).map fun p => .tup [.int p.1, .int p.2] := by
  unfold mn
  rw [List.zipWith_map, List.zip_eq_zipWith, List.map_zipWith]
theorem wj {O : aw} {r : List Int} {i : Nat} (h : i < r.length) : ixD O (vI r) (.int (i : Int)) = .ok (.int (nth r i)) := by
  refine iN ?_
  rw [kZ (by omega) (by simpa using h)]
  simp [nth, List.getD_eq_getElem?_getD, h]
theorem qy (n : Nat) : fM 0 (n : Int) = (List.range n).map fun i => .int (i : Int) := by
  unfold fM
  simp
theorem j1 {n : Nat} (h : n ≤ 1000000) : n ≤ 16777216 := Nat.le_trans h (by decide)
theorem zip_map {f : Int → Int → Int} : ∀ (a b : List Int), (a.zip b).map (fun p => f p.1 p.2) = List.zipWith f a b
  | [], _ => by simp
  | _ :: _, [] => by simp
  | x :: a, y :: b => by simp [zip_map a b]
theorem BK (a b : List Int) : (a.zip b).map (fun p => p.1 * p.2) = List.zipWith (· * ·) a b := zip_map a b
theorem dG {m : EM} {i : Nat} {s s' : S} {d : D} (h : m s = .ok (d, s')) : setM i m s = .next ⟨s'.r.set i (some d), s'.o⟩ := by
  show ((m s).bind _).out _ = _
  rw [h]; rfl
theorem dh {m : EM} {s s' : S} {d : D} (h : m s = .ok (d, s')) : dX m s = .ret d s' := by
  show (m s).out _ = _
  rw [h]; rfl
theorem kr {c : TM} {a b : SM} {s s' : S} (h : c s = .ok (true, s')) : ifS c a b s = a s' := by
  show (c s).out _ = _
  rw [h]; rfl
theorem fZ {c : TM} {a b : SM} {s s' : S} (h : c s = .ok (false, s')) : ifS c a b s = b s' := by
  show (c s).out _ = _
  rw [h]; rfl
theorem aV {a b : SM} {s s' : S} (h : a s = .next s') : aT a b s = b s' := by
  show (a s).then b = _
  rw [h]; rfl
theorem yR {a b : SM} {s s' : S} {d : D} (h : a s = .ret d s') : aT a b s = .ret d s' := by
  show (a s).then b = _
  rw [h]; rfl
theorem b8 {n : Nat} {f : FM} {ma : AM} {s s' : S} {ds : List D} {d : D} {O : aw} (h : ma s = .ok (ds, s')) (hp : ax ds = true) (hl : ds.length = n) (hf : f ds [] = .ok (d, O)) (hd : bG d = true) : bt n f ma s = .ok (d, s') := by
  rw [zo, h, aa, if_pos ⟨hp, hl⟩]
  dsimp only
  rw [hf]
  dsimp only
  rw [if_pos hd]
theorem yV {n : Nat} {f : FM} {ma : AM} {s s' : S} {ds : List D} {d : D} {O : aw} (h : ma s = .ok (ds, s')) (hl : ds.length = n) (hf : f ds s'.o = .ok (d, O)) : wN n f ma s = .ok (d, ⟨s'.r, O⟩) := by
  rw [zg, h, aa, if_pos hl]
  dsimp only
  rw [hf]
theorem jX {mo me : EM} {s s1 s2 : S} {k : Nat} {ds0 ds : List D} {d : D} (h1 : mo s = .ok (.ptr k, s1)) (c1 : s1.o[k]? = some (.lst ds0)) (h2 : me s1 = .ok (d, s2)) (c2 : s2.o[k]? = some (.lst ds)) (hb : ds.length ≤ 1000000) :
    eE mo me s = .ok (.non, ⟨s2.r, s2.o.set k (.lst (ds ++ [d]))⟩) := by
  rw [A3, h1, aa]
  dsimp only
  rw [jb c1]
  dsimp only
  rw [h2, aa]
  dsimp only
  rw [jb c2]
  dsimp only
  rw [if_pos (by omega)]
theorem b7 {m : EM} {s s' : S} {d : D} (h : m s = .ok (d, s')) : bE m s = .next s' := by
  show (m s).out _ = _
  rw [h]; rfl
theorem n4 {m : EM} {s s' : S} {k : Nat} {ds : List D} (h : m s = .ok (.ptr k, s')) (c : s'.o[k]? = some (.lst ds)) : gE m s = .ok (.lst ds, ⟨s'.r, s'.o.set k .dead⟩) := by
  rw [BQ, h, aa]
  dsimp only
  rw [jb c]
theorem yo {m : EM} {s s' : S} {k : Nat} {ds : List D} (h : m s = .ok (.ptr k, s')) (c : s'.o[k]? = some (.lst ds)) : listI m s = .ok ((ds, some k), s') := by
  rw [d7, h, aa]
  dsimp only
  rw [u2 c, aa]
theorem we {O : aw} {k j : Nat} {c : Cell} (h : k ≠ j) : (O.set k c)[j]? = O[j]? := List.getElem?_set_ne h
theorem yC {O E : aw} {k : Nat} {c : Cell} (h : O[k]? = some c) : (O ++ E)[k]? = some c := by
  rw [List.getElem?_append_left (List.getElem?_eq_some_iff.mp h).1]; exact h
theorem DG {O : aw} {k : Nat} {c : Cell} (h : O[k]? = some c) : k < O.length := (List.getElem?_eq_some_iff.mp h).1
theorem jV (r : List Int) : ax [vI r] = true := by simp
theorem DU {b : Nat} : ∀ (l : List Int) (k : Nat), (∀ x ∈ l, x.natAbs < 2 ^ b) → l.length ≤ 2 ^ k → l.sum.natAbs ≤ l.length * 2 ^ b := by
  intro l k h _
  induction l with
  | nil => simp
  | cons a l ih =>
    rw [List.sum_cons, List.length_cons, Nat.succ_mul]
    have h1 := h a List.mem_cons_self
    have h2 := ih (fun x hx => h x (List.mem_cons_of_mem _ hx)) (by simp at *; omega)
    have := Int.natAbs_add_le a l.sum
    omega
theorem DH {b c : Nat} {row l : List Int} (hr : SzL c row) (hl : SzL b l) (hn : row.length ≤ 1000) : Sz (b + c + 10) (aI row l) := by
  unfold aI
  have h : ∀ x ∈ List.zipWith (· * ·) row l, x.natAbs < 2 ^ (c + b) := fun x hx => by
    obtain ⟨i, hi, e⟩ := List.getElem_of_mem hx
    rw [List.getElem_zipWith] at e
    subst e
    exact Sz.mul (hr _ (List.getElem_mem _)) (hl _ (List.getElem_mem _))
  have h2 := DU (List.zipWith (· * ·) row l) 10 h (by rw [List.length_zipWith]; simp; omega)
  unfold Sz
  have h3 : (List.zipWith (· * ·) row l).length ≤ 1000 := by rw [List.length_zipWith]; omega
  have h4 : (List.zipWith (· * ·) row l).length * 2 ^ (c + b) ≤ 1000 * 2 ^ (c + b) := Nat.mul_le_mul_right _ h3
  have h5 : 2 ^ (b + c + 10) = 1024 * 2 ^ (c + b) := by rw [Nat.pow_add, Nat.add_comm b c, Nat.mul_comm]
  have h6 : 0 < 2 ^ (c + b) := Nat.two_pow_pos _
  rw [h5]
  omega
theorem Ah {n : Nat} {f : FM} {ma : AM} {s s' : S} {ds : List D} {d : D} {O1 : aw} (h : ma s = .ok (ds, s')) (hp : ax ds = true) (hl : ds.length = n) (hf : f ds [] = .ok (d, O1)) : wG n f ma s = .ok (shD s'.o.length d, ⟨s'.r, s'.o ++ O1.map (shC s'.o.length)⟩) := by
  rw [Ad, h, aa, if_pos ⟨hp, hl⟩]
  dsimp only
  rw [hf]
theorem C1 {O : aw} {k : Nat} {ds : List D} {i : Int} {d : D} (h : O[k]? = some (.lst ds)) (hi : atI ds i = some d) : ixD O (.ptr k) (.int i) = .ok d := by
  show (match lsD O (D.ptr k) with
      | some ds => match atI ds i with
        | some d => Res.ok d
        | none => .bad
      | none => .bad) = _
  rw [jf h]
  dsimp only
  rw [hi]
theorem tW {α : Type} {l : List α} {i : Nat} (h : i < l.length) : atI l (i : Int) = some l[i] := by
  rw [kZ (by omega) (by omega)]
  simp
theorem sN {O : aw} {k : Nat} {ds : List D} (h : O[k]? = some (.lst ds)) : dg O [.ptr k] = .ok (.int ds.length) := by
  unfold dg
  simp only [jf h]
theorem jZ {m : EM} {s s' : S} {i j : Int} (h : m s = .ok (.int i, s')) : bq (ak gtD m (ao (.int j))) s = .ok (decide (j < i), s') := by
  rw [eO, aN, h, aa, aK, aa, vX, aa, aa]
theorem eq_test {m : EM} {s s' : S} {i j : Int} (h : m s = .ok (.int i, s')) : bq (ak eqD m (ao (.int j))) s = .ok (decide (i = j), s') := by
  rw [eO, aN, h, aa, aK, aa, vU, aa, aa]
theorem Br {a b : TM} {s : S} {p q : Bool} (ha : a s = .ok (p, s)) (hb : b s = .ok (q, s)) : oW a b s = .ok (p && q, s) := by
  rw [vK, ha, aa]
  cases p with
  | true => exact hb
  | false => rfl
theorem z7 {O : aw} {a b : List D} (h : a.length + b.length ≤ 1000000) : aX O (.lst a) (.lst b) = .ok (.lst (a ++ b)) := by
  show (if a.length + b.length ≤ 16777216 then Res.ok (D.lst (a ++ b)) else .bad) = _
  rw [if_pos (j1 h)]
end M
set_option maxRecDepth 100000
set_option maxHeartbeats 4000000
namespace M
def tk (c e : Nat) : Nat := 2 ^ e * (c + 12) - (c + 11)
theorem Ek (c e : Nat) : c + 12 ≤ 2 ^ e * (c + 12) := Nat.le_mul_of_pos_left _ (Nat.two_pow_pos e)
theorem B6 (c : Nat) : tk c 0 = 1 := by unfold tk; simp
theorem A4 (c e : Nat) : 2 * tk c e + c + 11 = tk c (e + 1) := by
  unfold tk
  have h := Ek c e
  have e2 : 2 ^ (e + 1) * (c + 12) = 2 * (2 ^ e * (c + 12)) := by rw [Nat.pow_succ, Nat.mul_comm (2 ^ e) 2, Nat.mul_assoc]
  rw [e2]
  omega
structure sS (n c : Nat) (R lists : List (List Int)) (e : Nat) : Prop where
  eq : R.foldl fk (eW n) = lists
  ll : ∀ l ∈ lists, l.length = n
  cnt : lists.length + e = n
  sz : kj (tk c e) lists
theorem A5 (n a : Nat) : SzL 1 (jH n a) := by
  intro x hx
  unfold jH at hx
  rcases List.mem_or_eq_of_mem_set hx with h | h
  · rw [List.eq_of_mem_replicate h]; exact Sz.zero 1
  · rw [h]; unfold Sz; decide
theorem sS.start (n c : Nat) : sS n c [] (eW n) 0 := by
  refine ⟨rfl, fun l hl => ?_, by unfold eW; simp, fun l hl => ?_⟩
  · obtain ⟨a, _, rfl⟩ := List.mem_map.mp hl
    unfold jH; simp
  · obtain ⟨a, _, rfl⟩ := List.mem_map.mp hl
    rw [B6]; exact A5 n a
theorem sS.step {n c e : Nat} {R lists : List (List Int)} {row : List Int} (h : sS n c R lists e) (hr : row.length = n) (hs : SzL c row) (hn : n ≤ 1000) : ∃ e', sS n c (R ++ [row]) (fk lists row) e' := by
  have eq' : (R ++ [row]).foldl fk (eW n) = fk lists row := by rw [List.foldl_append, h.eq]; rfl
  unfold fk at *
  split
  · rename_i e0
    rw [e0] at eq'
    exact ⟨e, eq', h.ll, h.cnt, h.sz⟩
  · rename_i k e0
    rw [e0] at eq'
    have k1 := (gN e0).1
    rw [List.length_map] at k1
    have hm := getD_mem k1
    refine ⟨e + 1, eq', fun l hl => ?_, ?_, fun l hl => ?_⟩
    · obtain ⟨q, hq, rfl⟩ := List.mem_map.mp hl
      have hq' := List.mem_of_mem_eraseIdx hq
      rw [jn (by rw [h.ll q hq', h.ll _ hm]), h.ll q hq']
    · rw [List.length_map, List.length_eraseIdx_of_lt k1]
      have := h.cnt
      omega
    · obtain ⟨q, hq, rfl⟩ := List.mem_map.mp hl
      have hq' := List.mem_of_mem_eraseIdx hq
      have hz : ∀ l ∈ lists, Sz (tk c e + c + 10) (aI row l) := fun l h' => DH hs (h.sz l h') (by rw [hr]; exact hn)
      exact (SzL.off (h.sz q hq') (h.sz _ hm) (hz q hq') (hz _ hm)).mono (by rw [← A4]; omega)
end M
set_option maxRecDepth 100000
set_option maxHeartbeats 4000000
namespace M
theorem hole : ∀ (n : Nat) (L : List Nat), L.length < n → ∃ f, f < n ∧ f ∉ L
  | 0, L, h => by omega
  | n + 1, L, h => by
    by_cases hn : n ∈ L
    · obtain ⟨f, h1, h2⟩ := hole n (L.erase n) (by
        rw [List.length_erase_of_mem hn]
        have := List.length_pos_of_mem hn
        omega)
      exact ⟨f, by omega, fun hf => h2 ((List.mem_erase_of_ne (by omega)).mpr hf)⟩
    · exact ⟨n, by omega, hn⟩
theorem zN {P : List (Nat × List Int)} {f : Nat} {n : Nat} (pl : Pl n P) (hfree : ∀ p ∈ P, p.1 ≠ f) : fY P f f ≠ 0 := by
  have h1 := pl.leads_pos
  have h2 := gO (L := fv P) (f := f) (i := f) hfree
  unfold fY
  simp
  omega
theorem vq {n : Nat} {A : List (List Int)} (hA : ∀ r ∈ A, r.length = n) (h : A.length < n) : ∃ t : Nat → Int, (∃ j, j < n ∧ t j ≠ 0) ∧ cZ n A t := by
  obtain ⟨P, eP, pl, hP, nul⟩ := gR hA
  obtain ⟨f, hf, hfr⟩ := hole n (P.map (·.1)) (by rw [List.length_map]; omega)
  have hfree : ∀ p ∈ P, p.1 ≠ f := fun p hp e => hfr (List.mem_map.mpr ⟨p, hp, e⟩)
  refine ⟨fY P f, ⟨f, hf, zN pl hfree⟩, (nul _).mp ?_⟩
  rw [eP]
  exact lL pl hf hfree
def Indep (n : Nat) (V : List (List Int)) : Prop := ∀ t : Nat → Int, (∀ i, i < n → aP V.length (fun j => t j * nth (V.getD j []) i) = 0) → ∀ j, j < V.length → t j = 0
theorem tU {n : Nat} {V W : List (List Int)} (hV : Indep n V) (h : ∀ v ∈ V, iF n W (nth v)) : V.length ≤ W.length := by
  refine Classical.byContradiction fun hlt => ?_
  have ch : ∀ j, ∃ k : Int, ∃ T : List Int, j < V.length → k ≠ 0 ∧ ∀ i, i < n → k * nth (V.getD j []) i = g6 T W i := fun j => by
    by_cases hj : j < V.length
    · obtain ⟨k, hk, T, _, e⟩ := h (V.getD j []) (getD_mem hj)
      exact ⟨k, T, fun _ => ⟨hk, e⟩⟩
    · exact ⟨1, [], fun z => absurd z hj⟩
  obtain ⟨kf, hkf⟩ := Classical.axiomOfChoice ch
  obtain ⟨Tf, hTf⟩ := Classical.axiomOfChoice hkf
  obtain ⟨t, ⟨j0, hj0, ht0⟩, hn⟩ := vq (n := V.length) (A := (List.range W.length).map fun m => (List.range V.length).map fun j => nth (Tf j) m) (fun r hr => by
    obtain ⟨m, _, rfl⟩ := List.mem_map.mp hr
    simp) (by simp; omega)
  have hnm : ∀ m, m < W.length → aP V.length (fun j => nth (Tf j) m * t j) = 0 := fun m hm => by
    have := hn _ (List.mem_map.mpr ⟨m, List.mem_range.mpr hm, rfl⟩)
    rw [← this]
    refine bA fun j hj => ?_
    congr 1
    unfold nth
    simp [List.getD_eq_getElem?_getD, List.getElem?_map, List.getElem?_range, hj]
  have hz := hV (fun j => t j * kf j) (fun i hi => ?_) j0 hj0
  · rcases Int.mul_eq_zero.mp hz with q | q
    · exact ht0 q
    · exact (hTf j0 hj0).1 q
  · have e1 : aP V.length (fun j => t j * kf j * nth (V.getD j []) i) = aP V.length (fun j => aP W.length fun m => t j * (nth (Tf j) m * nth (W.getD m []) i)) := bA fun j hj => by
      rw [Int.mul_assoc, (hTf j hj).2 i hi]
      unfold g6
      rw [cS]
    rw [e1, kz]
    refine dS fun m hm => ?_
    have e2 : aP V.length (fun j => t j * (nth (Tf j) m * nth (W.getD m []) i)) = nth (W.getD m []) i * aP V.length (fun j => nth (Tf j) m * t j) := by
      rw [← cS]
      refine bA fun j hj => ?_
      rw [← Int.mul_assoc, Int.mul_comm (nth (W.getD m []) i), Int.mul_comm (t j)]
    rw [e2, hnm m hm, Int.mul_zero]
theorem sP {n : Nat} {P : List (Nat × List Int)} (pl : Pl n P) : Indep n (P.map (·.2)) := fun t h j hj => by
  rw [List.length_map] at hj
  have hg : ∀ j (hj : j < P.length), (P.map (·.2)).getD j [] = P[j].2 := fun j hj => by simp [List.getD_eq_getElem?_getD, List.getElem?_eq_getElem hj]
  have hm : P[j] ∈ P := List.getElem_mem hj
  have g := pl.good _ hm
  have e := h P[j].1 g.lt
  rw [List.length_map, iD (k := j) hj fun m hm1 hne => ?_, hg j hj] at e
  · rcases Int.mul_eq_zero.mp e with q | q
    · exact q
    · have := g.pos
      omega
  · rw [hg m hm1]
    have hm2 : P[m] ∈ P := List.getElem_mem hm1
    have hne2 : P[m].1 ≠ P[j].1 := by
      have pw := List.pairwise_iff_getElem.mp pl.pw
      rcases Nat.lt_or_gt_of_ne hne with q | q
      · exact Nat.ne_of_lt (pw m j hm1 hj q).1
      · exact Nat.ne_of_gt (pw j m hj hm1 q).1
    rw [pl.other hm2 hm hne2, Int.mul_zero]
theorem lO {n j : Nat} (hj : j < n) : (eW n).getD j [] = jH n j := by
  unfold eW
  simp [List.getD_eq_getElem?_getD, List.getElem?_map, List.getElem?_range, hj]
theorem fH (n : Nat) : (eW n).length = n := by unfold eW; simp
theorem u4 (n : Nat) : Indep n (eW n) := fun t h j hj => by
  rw [fH] at hj
  have e := h j hj
  rw [fH, iD (k := j) hj fun m hm hne => ?_, lO hj, iL hj, if_pos rfl, Int.mul_one] at e
  · exact e
  · rw [lO hm, iL hm, if_neg (fun z => hne z.symm), Int.mul_zero]
theorem rW (n : Nat) (x : Nat → Int) : iF n (eW n) x := ⟨1, by decide, (List.range n).map x, by rw [fH]; simp, fun i hi => by
  unfold g6
  rw [fH, iD (k := i) hi fun m hm hne => ?_, lO hi, iL hi, if_pos rfl]
  · unfold nth
    simp [List.getD_eq_getElem?_getD, List.getElem?_map, List.getElem?_range, hi]
  · rw [lO hm, iL hm, if_neg (fun z => hne z.symm), Int.mul_zero]⟩
theorem sq_nonneg (a : Int) : 0 ≤ a * a := by
  rcases Int.le_total 0 a with h | h
  · exact Int.mul_nonneg h h
  · have := Int.mul_nonneg (show 0 ≤ -a by omega) (show 0 ≤ -a by omega)
    rwa [Int.neg_mul_neg] at this
theorem mU (z : Nat → Int) : ∀ n, 0 ≤ aP n fun i => z i * z i
  | 0 => Int.le_refl 0
  | n + 1 => by
    have := mU z n
    have := sq_nonneg (z n)
    show 0 ≤ aP n _ + z n * z n
    omega
theorem qG {z : Nat → Int} : ∀ {n : Nat}, (aP n fun i => z i * z i) = 0 → ∀ i, i < n → z i = 0
  | 0, _, i, hi => by omega
  | n + 1, h, i, hi => by
    have h1 := mU z n
    have h2 := sq_nonneg (z n)
    have h3 : (aP n fun i => z i * z i) + z n * z n = 0 := h
    rcases Nat.lt_or_ge i n with q | q
    · exact qG (n := n) (by omega) i q
    · have : i = n := by omega
      subst this
      have h4 : z i * z i = 0 := by omega
      rcases Int.mul_eq_zero.mp h4 with r | r <;> exact r
theorem count {n : Nat} {R : List (List Int)} (hR : ∀ r ∈ R, r.length = n) : (aQ R n).length + (bg R n).length = n := by
  obtain ⟨P, eP, pl, _, nul⟩ := gR hR
  have hS := mB hR
  obtain ⟨Q, eQ, ql, _, _⟩ := jg hR
  have perp : ∀ s ∈ aQ R n, ∀ p ∈ bg R n, bu n (nth s) (nth p) = 0 := fun s hs p hp => by
    obtain ⟨_, _, _, h3, _⟩ := jg hS
    rw [ot hR] at h3
    rw [bF]
    exact h3 s hs p hp
  have inS : ∀ z : Nat → Int, cZ n (bg R n) z → iF n (aQ R n) z := fun z hz => by
    refine (lT hS z).mp ?_
    rw [ot hR]
    exact hz
  have getS : ∀ (t : Nat → Int) (A B : List (List Int)) (i : Nat), aP (A ++ B).length (fun j => t j * nth ((A ++ B).getD j []) i) = aP A.length (fun j => t j * nth (A.getD j []) i) + aP B.length (fun j => t (A.length + j) * nth (B.getD j []) i) := fun t A B i => by
    have split : ∀ (a b : Nat) (f : Nat → Int), aP (a + b) f = aP a f + aP b fun j => f (a + j) := fun a b f => by
      induction b with
      | zero => show aP a f = aP a f + 0; omega
      | succ b ih =>
        show aP (a + b) f + f (a + b) = aP a f + (aP b (fun j => f (a + j)) + f (a + b))
        rw [ih]; omega
    rw [List.length_append, split]
    congr 1
    · exact bA fun j hj => by rw [List.getD_eq_getElem?_getD, List.getElem?_append_left hj, ← List.getD_eq_getElem?_getD]
    · exact bA fun j hj => by rw [List.getD_eq_getElem?_getD, List.getElem?_append_right (by omega), Nat.add_sub_cancel_left, ← List.getD_eq_getElem?_getD]
  have lo : n ≤ (aQ R n ++ bg R n).length := by
    have := tU (n := n) (V := eW n) (W := aQ R n ++ bg R n) (u4 n) fun v _ => by
      have hA : ∀ r ∈ aQ R n ++ bg R n, r.length = n := fun r hr => by
        rcases List.mem_append.mp hr with q | q
        · exact hS r q
        · exact jT hR r q
      refine (lT hA _).mp fun z hz => ?_
      obtain ⟨_, _, _, h3, _⟩ := jg hA
      have zP : cZ n (bg R n) (nth z) := fun p hp => by rw [eY, bF]; exact h3 p (by simp [hp]) z hz
      have zS : cZ n (aQ R n) (nth z) := fun p hp => by rw [eY, bF]; exact h3 p (by simp [hp]) z hz
      have zz := (inS (nth z) zP).dot zS
      have z0 := qG zz
      rw [eY]
      exact dS fun i hi => by rw [z0 i hi, Int.zero_mul]
    rwa [fH] at this
  have hi : (aQ R n ++ bg R n).length ≤ n := by
    have := tU (n := n) (V := aQ R n ++ bg R n) (W := eW n) (fun t h => ?_) fun v _ => rW n _
    · rwa [fH] at this
    · -- the part of the still ones is at right angles to itself
      have y0 : ∀ i, i < n → aP (aQ R n).length (fun j => t j * nth ((aQ R n).getD j []) i) = 0 := by
        refine qG (z := fun i => aP (aQ R n).length (fun j => t j * nth ((aQ R n).getD j []) i)) ?_
        have e1 : ∀ i, i < n → aP (aQ R n).length (fun j => t j * nth ((aQ R n).getD j []) i) = - aP (bg R n).length (fun j => t ((aQ R n).length + j) * nth ((bg R n).getD j []) i) := fun i hi => by
          have := h i hi
          rw [getS] at this
          omega
        have prod : ∀ (a b : Nat) (f g : Nat → Int), aP a f * aP b g = aP a fun j => aP b fun m => f j * g m := fun a b f g => by
          rw [Int.mul_comm, ← cS]
          refine bA fun j _ => ?_
          rw [Int.mul_comm, ← cS]
        have e2 : (aP n fun i => (aP (aQ R n).length fun j => t j * nth ((aQ R n).getD j []) i) * (aP (aQ R n).length fun j => t j * nth ((aQ R n).getD j []) i)) = aP n fun i => (-1) * ((aP (aQ R n).length fun j => t j * nth ((aQ R n).getD j []) i) * (aP (bg R n).length fun j => t ((aQ R n).length + j) * nth ((bg R n).getD j []) i)) := bA fun i hi => by
          conv => lhs; arg 2; rw [e1 i hi]
          rw [Int.mul_neg]
          omega
        rw [e2, cS]
        have e3 : (aP n fun i => (aP (aQ R n).length fun j => t j * nth ((aQ R n).getD j []) i) * (aP (bg R n).length fun j => t ((aQ R n).length + j) * nth ((bg R n).getD j []) i)) = aP n fun i => aP (aQ R n).length fun j => aP (bg R n).length fun m => (t j * t ((aQ R n).length + m)) * (nth ((aQ R n).getD j []) i * nth ((bg R n).getD m []) i) := bA fun i _ => by
          rw [prod]
          refine bA fun j _ => bA fun m _ => ?_
          rw [Int.mul_assoc, Int.mul_assoc, Int.mul_left_comm (nth ((aQ R n).getD j []) i)]
        rw [e3, kz]
        suffices q : aP (aQ R n).length (fun j => aP n fun i => aP (bg R n).length fun m => (t j * t ((aQ R n).length + m)) * (nth ((aQ R n).getD j []) i * nth ((bg R n).getD m []) i)) = 0 by rw [q]; rfl
        refine dS fun j hj => ?_
        rw [kz]
        refine dS fun m hm => ?_
        rw [cS]
        have := perp _ (getD_mem hj) _ (getD_mem hm)
        unfold bu at this
        rw [this, Int.mul_zero]
      have p0 : ∀ i, i < n → aP (bg R n).length (fun j => t ((aQ R n).length + j) * nth ((bg R n).getD j []) i) = 0 := fun i hi => by
        have := h i hi
        rw [getS, y0 i hi] at this
        omega
      have iS : Indep n (aQ R n) := by rw [eQ]; exact sP ql
      have iP : Indep n (bg R n) := by rw [eP]; exact sP pl
      intro j hj
      rw [List.length_append] at hj
      rcases Nat.lt_or_ge j (aQ R n).length with q | q
      · exact iS t y0 j q
      · have := iP (fun m => t ((aQ R n).length + m)) p0 (j - (aQ R n).length) (by omega)
        rwa [show (aQ R n).length + (j - (aQ R n).length) = j by omega] at this
  rw [List.length_append] at lo hi
  omega
end M
set_option maxRecDepth 100000
set_option maxHeartbeats 4000000
namespace M
structure Fit (n : Nat) (R : List (List Int)) (x : List Int) : Prop where
  len : x.length = n
  nn : ∀ i, 0 ≤ nth x i
  st : ∀ r ∈ R, bu n (nth r) (nth x) = 0
  nz : ∃ i, nth x i ≠ 0
def Sub (x y : List Int) : Prop := ∀ i, nth x i ≠ 0 → nth y i ≠ 0
structure df (n : Nat) (R : List (List Int)) (x : List Int) : Prop where
  fit : Fit n R x
  one : cP x = 1
  min : ∀ y, Fit n R y → Sub y x → Sub x y
theorem Sub.refl (x : List Int) : Sub x x := fun _ h => h
theorem Sub.trans {x y z : List Int} (a : Sub x y) (b : Sub y z) : Sub x z := fun i h => b i (a i h)
theorem Fit.lt {n : Nat} {R : List (List Int)} {x : List Int} (f : Fit n R x) {i : Nat} (h : nth x i ≠ 0) : i < n := by
  by_cases hi : i < n
  · exact hi
  · exact absurd (i5 (by rw [f.len]; omega)) h
theorem Fit.low {n : Nat} {R : List (List Int)} {x : List Int} (f : Fit n R x) : Fit n R (low x) ∧ cP (M.low x) = 1 ∧ Sub (M.low x) x ∧ Sub x (M.low x) := by
  have hp := kD x
  have hi : ∀ i, nth (M.low x) i ≠ 0 ↔ nth x i ≠ 0 := fun i => by
    rw [kT x i]
    constructor
    · exact fun h => Int.mul_ne_zero (by omega) h
    · intro h z; rw [z] at h; exact h (by omega)
  obtain ⟨j, hj⟩ := f.nz
  refine ⟨⟨by rw [low_length, f.len], fun i => ?_, fun r hr => ?_, ⟨j, (hi j).mpr hj⟩⟩, vJ hj, fun i => (hi i).mp, fun i => (hi i).mpr⟩
  · have := f.nn i
    rw [kT x i] at this
    by_cases h : 0 ≤ nth (M.low x) i
    · exact h
    · have := Int.mul_neg_of_pos_of_neg hp (by omega : nth (M.low x) i < 0); omega
  · have := f.st r hr
    rw [bF]
    rw [bF] at this
    exact (oJ n x (nth r)).mpr this
theorem uP {a b c d e f : Int} (hb : 0 < b) (hd : 0 < d) (hf : 0 < f) (h1 : a * d ≤ c * b) (h2 : c * f ≤ e * d) : a * f ≤ e * b := by
  have e1 : a * d * f ≤ c * b * f := Int.mul_le_mul_of_nonneg_right h1 (by omega)
  have e2 : c * f * b ≤ e * d * b := Int.mul_le_mul_of_nonneg_right h2 (by omega)
  have : (a * f) * d ≤ (e * b) * d := by
    have q1 : a * d * f = (a * f) * d := by grind
    have q2 : c * b * f = c * f * b := by grind
    have q3 : e * d * b = (e * b) * d := by grind
    omega
  exact Int.le_of_mul_le_mul_right this hd
theorem xU (a b : Nat → Int) (hb : ∀ i, 0 ≤ b i) : ∀ n, (∃ i, i < n ∧ b i ≠ 0) → ∃ m, m < n ∧ b m ≠ 0 ∧ ∀ i, i < n → b i ≠ 0 → a m * b i ≤ a i * b m
  | 0, h => by obtain ⟨i, hi, _⟩ := h; omega
  | n + 1, h => by
    by_cases hn : ∃ i, i < n ∧ b i ≠ 0
    · obtain ⟨m, hm, hz, hl⟩ := xU a b hb n hn
      by_cases hbn : b n = 0
      · refine ⟨m, by omega, hz, fun i hi hi0 => ?_⟩
        by_cases e : i = n
        · subst e; exact absurd hbn hi0
        · exact hl i (by omega) hi0
      · by_cases hc : a m * b n ≤ a n * b m
        · refine ⟨m, by omega, hz, fun i hi hi0 => ?_⟩
          by_cases e : i = n
          · subst e; exact hc
          · exact hl i (by omega) hi0
        · refine ⟨n, by omega, hbn, fun i hi hi0 => ?_⟩
          by_cases e : i = n
          · subst e; omega
          · have := hb n; have := hb m; have := hb i
            exact uP (by omega) (by omega : 0 < b m) (by omega) (by omega) (hl i (by omega) hi0)
    · obtain ⟨i, hi, hi0⟩ := h
      have e : i = n := by
        by_cases e : i = n
        · exact e
        · exact absurd ⟨i, by omega, hi0⟩ hn
      subst e
      refine ⟨i, by omega, hi0, fun j hj hj0 => ?_⟩
      by_cases e : j = i
      · subst e; omega
      · exact absurd ⟨j, by omega, hj0⟩ hn
theorem o7 {n : Nat} {R : List (List Int)} {x y : List Int} (fx : Fit n R x) (fy : Fit n R y) (hs : Sub y x) :
    ∃ z : List Int, z.length = n ∧ (∀ i, 0 ≤ nth z i) ∧ Sub z x ∧ ∃ c d : Int, 0 < c ∧ 0 < d ∧ (∀ i, nth z i = c * nth x i - d * nth y i) ∧ ∃ m, nth y m ≠ 0 ∧ nth z m = 0 := by
  obtain ⟨j, hj⟩ := fy.nz
  obtain ⟨m, hm, hz, hl⟩ := xU (nth x) (nth y) fy.nn n ⟨j, fy.lt hj, hj⟩
  have hlen : x.length = y.length := by rw [fx.len, fy.len]
  have hxm := fx.nn m
  have hym := fy.nn m
  have hxm0 := hs m hz
  have hnth : ∀ i, nth (kP x (nth x m) y (nth y m)) i = nth y m * nth x i - nth x m * nth y i := fun i => by rw [uv hlen]; grind
  refine ⟨kP x (nth x m) y (nth y m), by rw [kF hlen, fx.len], fun i => ?_, fun i hi => ?_, nth y m, nth x m, by omega, by omega, hnth, m, hz, by rw [hnth]; grind⟩
  · rw [hnth]
    by_cases hy : nth y i = 0
    · rw [hy]
      have := Int.mul_nonneg hym (fx.nn i)
      omega
    · have := hl i (fy.lt hy) hy
      have : nth y m * nth x i = nth x i * nth y m := Int.mul_comm _ _
      omega
  · rw [hnth] at hi
    intro z
    apply hi
    have : nth y i = 0 := by
      by_cases hy : nth y i = 0
      · exact hy
      · exact absurd z (hs i hy)
    rw [z, this]; omega
theorem qu {n : Nat} {x y z : List Int} {c d : Int} (h : ∀ i, nth z i = c * nth x i - d * nth y i) (r : Nat → Int) : bu n r (nth z) = c * bu n r (nth x) - d * bu n r (nth y) := by
  have := rJ (n := n) (a := nth x) (b := nth y) (u := c) (v := -d) r
  rw [bF, wL (b := fun i => c * nth x i + -d * nth y i) (fun i _ => by rw [h i]; grind), bF, this]
  grind
theorem qk {n : Nat} {R : List (List Int)} {x y z : List Int} (fx : Fit n R x) (fy : Fit n R y) (hl : z.length = n) (hn : ∀ i, 0 ≤ nth z i) {c d : Int} (h : ∀ i, nth z i = c * nth x i - d * nth y i) (hz : ∃ i, nth z i ≠ 0) : Fit n R z :=
  ⟨hl, hn, fun r hr => by rw [qu h, fx.st r hr, fy.st r hr]; omega, hz⟩
theorem df.prop {n : Nat} {R : List (List Int)} {x y : List Int} (l : df n R x) (fy : Fit n R y) (hs : Sub y x) : ∃ a b : Int, 0 < a ∧ 0 < b ∧ ∀ i, a * nth x i = b * nth y i := by
  obtain ⟨z, zl, zn, zs, c, d, hc, hd, h, m, hm, hzm⟩ := o7 l.fit fy hs
  by_cases hz : ∃ i, nth z i ≠ 0
  · have fz := qk l.fit fy zl zn h hz
    exact absurd hzm (l.min z fz zs m (hs m hm))
  · refine ⟨c, d, hc, hd, fun i => ?_⟩
    have : nth z i = 0 := by
      by_cases e : nth z i = 0
      · exact e
      · exact absurd ⟨i, e⟩ hz
    rw [h i] at this
    omega
theorem df.eq {n : Nat} {R : List (List Int)} {x y : List Int} (l : df n R x) (fy : Fit n R y) (h1 : cP y = 1) (hs : Sub y x) : x = y := by
  obtain ⟨a, b, ha, hb, h⟩ := l.prop fy hs
  exact vx (by rw [l.fit.len, fy.len]) l.one h1 ha hb fun i _ => h i
def cnt (x : List Int) : Nat := (x.filter (· ≠ 0)).length
theorem yr : ∀ {x y : List Int}, x.length = y.length → Sub x y → cnt x ≤ cnt y
  | [], [], _, _ => Nat.le_refl _
  | a :: x, b :: y, hl, hs => by
    have ih := yr (x := x) (y := y) (by simpa using hl) fun i h => hs (i + 1) h
    have h0 : a ≠ 0 → b ≠ 0 := hs 0
    unfold cnt at *
    by_cases ha : a = 0
    · rw [List.filter_cons_of_neg (by simpa using ha)]
      by_cases hb : b = 0
      · rw [List.filter_cons_of_neg (by simpa using hb)]; exact ih
      · rw [List.filter_cons_of_pos (by simpa using hb), List.length_cons]; omega
    · rw [List.filter_cons_of_pos (by simpa using ha), List.filter_cons_of_pos (by simpa using h0 ha), List.length_cons, List.length_cons]; omega
theorem nr : ∀ {x y : List Int} {m : Nat}, x.length = y.length → Sub x y → nth y m ≠ 0 → nth x m = 0 → cnt x < cnt y
  | [], [], m, _, _, h, _ => by simp [nth] at h
  | a :: x, b :: y, 0, hl, hs, h, h' => by
    have ih := yr (x := x) (y := y) (by simpa using hl) fun i h => hs (i + 1) h
    have ha : a = 0 := h'
    have hb : b ≠ 0 := h
    unfold cnt at *
    rw [List.filter_cons_of_neg (by simpa using ha), List.filter_cons_of_pos (by simpa using hb), List.length_cons]; omega
  | a :: x, b :: y, m + 1, hl, hs, h, h' => by
    have ih := nr (x := x) (y := y) (m := m) (by simpa using hl) (fun i h => hs (i + 1) h) h h'
    have h0 : a ≠ 0 → b ≠ 0 := hs 0
    unfold cnt at *
    by_cases ha : a = 0
    · rw [List.filter_cons_of_neg (by simpa using ha)]
      by_cases hb : b = 0
      · rw [List.filter_cons_of_neg (by simpa using hb)]; exact ih
      · rw [List.filter_cons_of_pos (by simpa using hb), List.length_cons]; omega
    · rw [List.filter_cons_of_pos (by simpa using ha), List.filter_cons_of_pos (by simpa using h0 ha), List.length_cons, List.length_cons]; omega
theorem qg {n : Nat} {R : List (List Int)} : ∀ (k : Nat) {x : List Int}, cnt x ≤ k → Fit n R x → ∃ l, df n R l ∧ Sub l x := by
  intro k
  induction k with
  | zero =>
    intro x hk f
    obtain ⟨i, hi⟩ := f.nz
    have : cnt (List.replicate n (0 : Int)) < cnt x := nr (m := i) (by rw [f.len]; simp) (fun j h => by
      exfalso; apply h
      unfold nth
      rw [List.getD_eq_getElem?_getD, List.getElem?_replicate]
      split <;> rfl) hi (by
      unfold nth
      rw [List.getD_eq_getElem?_getD, List.getElem?_replicate]
      split <;> rfl)
    omega
  | succ k ih =>
    intro x hk f
    by_cases h : ∃ y, Fit n R y ∧ Sub y x ∧ ¬ Sub x y
    · obtain ⟨y, fy, h1, h2⟩ := h
      have : ∃ m, nth x m ≠ 0 ∧ nth y m = 0 := by
        apply Classical.byContradiction
        intro hn
        exact h2 fun i hi => fun z => hn ⟨i, hi, z⟩
      obtain ⟨m, hm, hm0⟩ := this
      have := nr (by rw [fy.len, f.len]) h1 hm hm0
      obtain ⟨l, hl, hs⟩ := ih (x := y) (by omega) fy
      exact ⟨l, hl, hs.trans h1⟩
    · obtain ⟨q1, q2, q3, q4⟩ := f.low
      refine ⟨low x, ⟨q1, q2, fun y fy hs => ?_⟩, q3⟩
      apply Classical.byContradiction
      intro hn
      exact h ⟨y, fy, hs.trans q3, fun z => hn (q3.trans z)⟩
theorem pO {n : Nat} {R : List (List Int)} (r : List Int) : ∀ (k : Nat) {x : List Int}, cnt x ≤ k → Fit n R x → 0 < bu n (nth r) (nth x) → ∃ l, df n R l ∧ Sub l x ∧ 0 < bu n (nth r) (nth l) := by
  intro k
  induction k with
  | zero =>
    intro x hk f hv
    obtain ⟨l, hl, hs⟩ := qg 0 hk f
    obtain ⟨i, hi⟩ := f.nz
    have : cnt (List.replicate n (0 : Int)) < cnt x := nr (m := i) (by rw [f.len]; simp) (fun j h => by
      exfalso; apply h
      unfold nth
      rw [List.getD_eq_getElem?_getD, List.getElem?_replicate]
      split <;> rfl) hi (by
      unfold nth
      rw [List.getD_eq_getElem?_getD, List.getElem?_replicate]
      split <;> rfl)
    omega
  | succ k ih =>
    intro x hk f hv
    obtain ⟨l, hl, hs⟩ := qg (k + 1) hk f
    by_cases hp : 0 < bu n (nth r) (nth l)
    · exact ⟨l, hl, hs, hp⟩
    · obtain ⟨z, zl, zn, zs, c, d, hc, hd, h, m, hm, hzm⟩ := o7 f hl.fit hs
      have ev := qu (n := n) h (nth r)
      have h1 := Int.mul_pos hc hv
      have h2 := Int.mul_nonpos_of_nonneg_of_nonpos (show 0 ≤ d by omega) (show bu n (nth r) (nth l) ≤ 0 by omega)
      have hz : ∃ i, nth z i ≠ 0 := by
        apply Classical.byContradiction
        intro hn
        have : bu n (nth r) (nth z) = 0 := dS fun i _ => by
          have : nth z i = 0 := by
            by_cases e : nth z i = 0
            · exact e
            · exact absurd ⟨i, e⟩ hn
          rw [this]; omega
        omega
      have fz := qk f hl.fit zl zn h hz
      have := nr (by rw [zl, f.len]) zs (hs m hm) hzm
      obtain ⟨l', q1, q2, q3⟩ := ih (x := z) (by omega) fz (by omega)
      exact ⟨l', q1, q2.trans zs, q3⟩
theorem ip (n : Nat) (r x : List Int) : bu n (nth (r.map (- ·))) (nth x) = -bu n (nth r) (nth x) := by
  have := mI (n := n) (a := r.map (- ·)) (c := r) (g := -1) (fun i => by rw [i6 (by simp)]; omega) (nth x)
  rw [← eY, this, eY]; omega
theorem xg {n : Nat} {R : List (List Int)} (r : List Int) {x : List Int} (f : Fit n R x) (hv : bu n (nth r) (nth x) < 0) : ∃ l, df n R l ∧ Sub l x ∧ bu n (nth r) (nth l) < 0 := by
  obtain ⟨l, h1, h2, h3⟩ := pO (r.map (- ·)) _ (Nat.le_refl _) f (by rw [ip]; omega)
  rw [ip] at h3
  exact ⟨l, h1, h2, by omega⟩
theorem qY {n : Nat} {R : List (List Int)} (r : List Int) {x : List Int} (f : Fit n R x) (hv : bu n (nth r) (nth x) = 0) :
    (∃ l, df n R l ∧ Sub l x ∧ bu n (nth r) (nth l) = 0) ∨ ∃ h w, df n R h ∧ df n R w ∧ Sub h x ∧ Sub w x ∧ 0 < bu n (nth r) (nth h) ∧ bu n (nth r) (nth w) < 0 := by
  obtain ⟨l, hl, hs⟩ := qg _ (Nat.le_refl _) f
  by_cases h0 : bu n (nth r) (nth l) = 0
  · exact .inl ⟨l, hl, hs, h0⟩
  · obtain ⟨z, zl, zn, zs, c, d, hc, hd, h, m, hm, hzm⟩ := o7 f hl.fit hs
    have ev := qu (n := n) h (nth r)
    rw [hv] at ev
    have hne : bu n (nth r) (nth z) ≠ 0 := by
      rw [ev]
      have := Int.mul_ne_zero (show d ≠ 0 by omega) h0
      omega
    have hz : ∃ i, nth z i ≠ 0 := by
      apply Classical.byContradiction
      intro hn
      exact hne (dS fun i _ => by
        have : nth z i = 0 := by
          by_cases e : nth z i = 0
          · exact e
          · exact absurd ⟨i, e⟩ hn
        rw [this]; omega)
    have fz := qk f hl.fit zl zn h hz
    by_cases hp : 0 < bu n (nth r) (nth l)
    · have := Int.mul_pos hd hp
      obtain ⟨w, w1, w2, w3⟩ := xg r fz (by omega)
      exact .inr ⟨l, w, hl, w1, hs, w2.trans zs, hp, w3⟩
    · have := Int.mul_neg_of_pos_of_neg hd (show bu n (nth r) (nth l) < 0 by omega)
      obtain ⟨w, w1, w2, w3⟩ := pO r _ (Nat.le_refl _) fz (by omega)
      exact .inr ⟨w, l, w1, hl, w2.trans zs, hs, w3, by omega⟩
end M
set_option maxRecDepth 100000
set_option maxHeartbeats 4000000
namespace M
def subB (n : Nat) (l h w : List Int) : Bool := (List.range n).all fun i => decide (nth l i = 0) || decide (nth h i ≠ 0) || decide (nth w i ≠ 0)
def nbB (n : Nat) (L : List (List Int)) (h w : List Int) : Bool := (L.filter fun l => subB n l h w).length == 2
def je (n : Nat) (L : List (List Int)) (r : List Int) : List (List Int) :=
  (L.filter fun l => decide (aI r l = 0)) ++ (L.filter fun l => decide (0 < aI r l)).flatMap fun h => ((L.filter fun l => decide (aI r l < 0)).filter fun w => nbB n L h w).map fun w => dD w (aI r w) h (aI r h)
theorem tx {n : Nat} {l h w : List Int} (hl : l.length = n) : subB n l h w = true ↔ ∀ i, nth l i ≠ 0 → nth h i ≠ 0 ∨ nth w i ≠ 0 := by
  unfold subB
  rw [List.all_eq_true]
  constructor
  · intro H i hi
    have lt : i < n := by
      by_cases e : i < n
      · exact e
      · exact absurd (i5 (by omega)) hi
    have := H i (List.mem_range.mpr lt)
    simp only [Bool.or_eq_true, decide_eq_true_eq] at this
    rcases this with (z | z) | z
    · exact absurd z hi
    · exact .inl z
    · exact .inr z
  · intro H i _
    simp only [Bool.or_eq_true, decide_eq_true_eq]
    by_cases e : nth l i = 0
    · exact .inl (.inl e)
    · rcases H i e with z | z
      · exact .inl (.inr z)
      · exact .inr z
theorem wM {α : Type} {L : List α} (hd : L.Nodup) (hl : L.length = 2) {h w : α} (hh : h ∈ L) (hw : w ∈ L) (hne : h ≠ w) : ∀ l ∈ L, l = h ∨ l = w := by
  match L, hl with
  | [a, b], _ =>
    intro l hl
    simp only [List.mem_cons, List.not_mem_nil, or_false] at hh hw hl
    rcases hh with rfl | rfl <;> rcases hw with rfl | rfl <;> rcases hl with rfl | rfl <;> first | exact .inl rfl | exact .inr rfl | exact absurd rfl hne
theorem xt {α : Type} {L : List α} (hd : L.Nodup) {h w : α} (hh : h ∈ L) (hw : w ∈ L) (hne : h ≠ w) (ha : ∀ l ∈ L, l = h ∨ l = w) : L.length = 2 := by
  have h1 : L.length ≤ 2 := by
    match L, hd with
    | [], _ => simp
    | [_], _ => simp
    | [_, _], _ => simp
    | a :: b :: c :: r, hd =>
      exfalso
      have ha1 := ha a (by simp); have hb1 := ha b (by simp); have hc1 := ha c (by simp)
      simp only [List.nodup_cons, List.mem_cons, not_or] at hd
      rcases ha1 with e1 | e1 <;> rcases hb1 with e2 | e2 <;> rcases hc1 with e3 | e3 <;> simp_all
  match L, hh, hw, h1 with
  | [a], hh, hw, _ =>
    simp only [List.mem_singleton] at hh hw
    exact absurd (hh.trans hw.symm) hne
  | [a, b], _, _, _ => rfl
section
variable {n : Nat} {R L : List (List Int)} {r : List Int}
structure mD (n : Nat) (R L : List (List Int)) : Prop where
  all : ∀ x, x ∈ L ↔ df n R x
  nd : L.Nodup
theorem mD.dot (k : mD n R L) {l : List Int} (h : l ∈ L) (r : List Int) : aI r l = bu n (nth r) (nth l) := iY ((k.all l).mp h).fit.len
theorem pz (k : mD n R L) {h w : List Int} (hh : h ∈ L) (hw : w ∈ L) (hne : h ≠ w) : nbB n L h w = true ↔ ∀ l ∈ L, (∀ i, nth l i ≠ 0 → nth h i ≠ 0 ∨ nth w i ≠ 0) → l = h ∨ l = w := by
  have mem : ∀ l, l ∈ L.filter (fun l => subB n l h w) ↔ l ∈ L ∧ ∀ i, nth l i ≠ 0 → nth h i ≠ 0 ∨ nth w i ≠ 0 := fun l => by
    rw [List.mem_filter]
    constructor
    · exact fun ⟨a, b⟩ => ⟨a, (tx ((k.all l).mp a).fit.len).mp b⟩
    · exact fun ⟨a, b⟩ => ⟨a, (tx ((k.all l).mp a).fit.len).mpr b⟩
  have nd : (L.filter (fun l => subB n l h w)).Nodup := k.nd.filter _
  have m1 : h ∈ L.filter (fun l => subB n l h w) := (mem h).mpr ⟨hh, fun i hi => .inl hi⟩
  have m2 : w ∈ L.filter (fun l => subB n l h w) := (mem w).mpr ⟨hw, fun i hi => .inr hi⟩
  unfold nbB
  rw [beq_iff_eq]
  constructor
  · exact fun hl l h1 h2 => wM nd hl m1 m2 hne l ((mem l).mpr ⟨h1, h2⟩)
  · exact fun ha => xt nd m1 m2 hne fun l hl => let ⟨a, b⟩ := (mem l).mp hl; ha l a b
theorem jc (hr : r.length = n) {h w : List Int} (fh : Fit n R h) (fw : Fit n R w) (vh : 0 < aI r h) (vw : aI r w < 0) :
    Fit n (R ++ [r]) (dD w (aI r w) h (aI r h)) ∧ cP (dD w (aI r w) h (aI r h)) = 1 ∧ (∀ i, nth (dD w (aI r w) h (aI r h)) i ≠ 0 ↔ nth h i ≠ 0 ∨ nth w i ≠ 0) ∧
    ∃ g : Int, 0 < g ∧ ∀ i, g * nth (dD w (aI r w) h (aI r h)) i = nth w i * aI r h + nth h i * (-(aI r w)) := by
  have hlen : w.length = h.length := by rw [fw.len, fh.len]
  obtain ⟨g, hg, e⟩ := mE hlen (aI r w) (aI r h)
  have e' : ∀ i, g * nth (dD w (aI r w) h (aI r h)) i = nth w i * aI r h + nth h i * (-(aI r w)) := fun i => by rw [e i]; grind
  have nz : ∀ i, nth (dD w (aI r w) h (aI r h)) i ≠ 0 ↔ nth h i ≠ 0 ∨ nth w i ≠ 0 := fun i => by
    have h1 := Int.mul_nonneg (fw.nn i) (show 0 ≤ aI r h by omega)
    have h2 := Int.mul_nonneg (fh.nn i) (show 0 ≤ -(aI r w) by omega)
    constructor
    · intro hz
      apply Classical.byContradiction
      intro hn
      have q1 : nth h i = 0 := by
        by_cases q : nth h i = 0
        · exact q
        · exact absurd (.inl q) hn
      have q2 : nth w i = 0 := by
        by_cases q : nth w i = 0
        · exact q
        · exact absurd (.inr q) hn
      have := e' i
      rw [q1, q2] at this
      have : g * nth (dD w (aI r w) h (aI r h)) i = 0 := by rw [this]; omega
      rcases Int.mul_eq_zero.mp this with z | z
      · omega
      · exact hz z
    · intro hor z
      have := e' i
      rw [z] at this
      have hs : nth w i * aI r h + nth h i * (-(aI r w)) = 0 := by omega
      rcases hor with q | q
      · have := Int.mul_pos (show 0 < nth h i by have := fh.nn i; omega) (show 0 < -(aI r w) by omega); omega
      · have := Int.mul_pos (show 0 < nth w i by have := fw.nn i; omega) vh; omega
  have one : cP (dD w (aI r w) h (aI r h)) = 1 := by
    obtain ⟨i, hi⟩ := fh.nz
    have q : nth (dD w (aI r w) h (aI r h)) i ≠ 0 := (nz i).mpr (.inl hi)
    exact mH _ i q
  refine ⟨⟨by rw [jn hlen, fw.len], fun i => ?_, fun q hq => ?_, ?_⟩, one, nz, g, hg, e'⟩
  · have h1 := Int.mul_nonneg (fw.nn i) (show 0 ≤ aI r h by omega)
    have h2 := Int.mul_nonneg (fh.nn i) (show 0 ≤ -(aI r w) by omega)
    have := e' i
    by_cases z : 0 ≤ nth (dD w (aI r w) h (aI r h)) i
    · exact z
    · have := Int.mul_neg_of_pos_of_neg hg (show nth (dD w (aI r w) h (aI r h)) i < 0 by omega); omega
  · obtain ⟨g', hg', ed⟩ := oX (n := n) hlen (aI r w) (aI r h) (nth q)
    simp only [eY] at ed
    rw [bF]
    have z : g' * bu n (nth (dD w (aI r w) h (aI r h))) (nth q) = 0 := by
      rw [ed, bF n (nth w), bF n (nth h)]
      rcases List.mem_append.mp hq with hq | hq
      · rw [fw.st q hq, fh.st q hq]; omega
      · rw [List.mem_singleton.mp hq, ← iY fw.len, ← iY fh.len]; grind
    rcases Int.mul_eq_zero.mp z with z | z
    · omega
    · exact z
  · obtain ⟨i, hi⟩ := fh.nz
    exact ⟨i, (nz i).mpr (.inl hi)⟩
theorem Fit.less {R S : List (List Int)} {x : List Int} (f : Fit n (R ++ S) x) : Fit n R x := ⟨f.len, f.nn, fun r hr => f.st r (List.mem_append_left _ hr), f.nz⟩
theorem Fit.more (f : Fit n R x) (h : bu n (nth r) (nth x) = 0) : Fit n (R ++ [r]) x := ⟨f.len, f.nn, fun q hq => by
  rcases List.mem_append.mp hq with z | z
  · exact f.st q z
  · rw [List.mem_singleton.mp z]; exact h, f.nz⟩
theorem df.same {x y : List Int} (a : df n R x) (b : df n R y) (h : Sub y x) : x = y := a.eq b.fit b.one h
theorem oB (hr : r.length = n) {h l w x : List Int} (lh : df n R h) (ll : df n R l) (lw : df n R w) (lx : df n (R ++ [r]) x) (vh : 0 < aI r h) (vl : 0 < aI r l) (vw : aI r w < 0) (sh : Sub h x) (sl : Sub l x) (sw : Sub w x) : l = h := by
  obtain ⟨f1, g1, z1, a, ha, e1⟩ := jc hr lh.fit lw.fit vh vw
  obtain ⟨f2, g2, z2, b, hb, e2⟩ := jc hr ll.fit lw.fit vl vw
  have x1 := lx.eq f1 g1 fun i hi => ((z1 i).mp hi).elim (sh i) (sw i)
  have x2 := lx.eq f2 g2 fun i hi => ((z2 i).mp hi).elim (sl i) (sw i)
  rw [← x1] at e1
  rw [← x2] at e2
  have key : ∀ i, b * (nth h i * (-(aI r w))) + (b * aI r h - a * aI r l) * nth w i = a * (nth l i * (-(aI r w))) := fun i => by
    have q1 := e1 i
    have q2 := e2 i
    have : b * (a * nth x i) = a * (b * nth x i) := by grind
    rw [q1, q2] at this
    grind
  have hu : 0 < -(aI r w) := by omega
  by_cases hm : 0 ≤ b * aI r h - a * aI r l
  · refine (df.same ll lh fun i hi => ?_)
    intro z
    have q := key i
    rw [z] at q
    have h1 := Int.mul_pos hb (Int.mul_pos (show 0 < nth h i by have := lh.fit.nn i; omega) hu)
    have h2 := Int.mul_nonneg hm (lw.fit.nn i)
    have h3 : a * (0 * (-(aI r w))) = 0 := by simp
    omega
  · refine (df.same lh ll fun i hi => ?_).symm
    intro z
    have q := key i
    rw [z] at q
    have h1 := Int.mul_pos ha (Int.mul_pos (show 0 < nth l i by have := ll.fit.nn i; omega) hu)
    have h2 := Int.mul_nonpos_of_nonpos_of_nonneg (show b * aI r h - a * aI r l ≤ 0 by omega) (lw.fit.nn i)
    have h3 : b * (0 * (-(aI r w))) = 0 := by simp
    omega
theorem oM {l : List Int} (hl : l.length = n) : aI (r.map (- ·)) l = -(aI r l) := by rw [iY hl, iY hl, ip]
theorem df.neg {x : List Int} (l : df n (R ++ [r]) x) : df n (R ++ [r.map (- ·)]) x := by
  have tr : ∀ y, Fit n (R ++ [r]) y ↔ Fit n (R ++ [r.map (- ·)]) y := fun y => by
    constructor
    · refine fun f => Fit.more f.less ?_
      rw [ip, f.st r (by simp)]; rfl
    · refine fun f => Fit.more f.less ?_
      have := f.st (r.map (- ·)) (by simp)
      rw [ip] at this; omega
  exact ⟨(tr x).mp l.fit, l.one, fun y fy => l.min y ((tr y).mpr fy)⟩
theorem tF (hr : r.length = n) {h l w x : List Int} (lh : df n R h) (ll : df n R l) (lw : df n R w) (lx : df n (R ++ [r]) x) (vh : 0 < aI r h) (vl : aI r l < 0) (vw : aI r w < 0) (sh : Sub h x) (sl : Sub l x) (sw : Sub w x) : l = w :=
  oB (r := r.map (- ·)) (h := w) (l := l) (w := h) (by simpa using hr) lw ll lh lx.neg (by rw [oM lw.fit.len]; omega) (by rw [oM ll.fit.len]; omega) (by rw [oM lh.fit.len]; omega) sw sl sh
theorem uF {x : List Int} : x ∈ je n L r ↔ (x ∈ L ∧ aI r x = 0) ∨ ∃ h w, h ∈ L ∧ w ∈ L ∧ 0 < aI r h ∧ aI r w < 0 ∧ nbB n L h w = true ∧ x = dD w (aI r w) h (aI r h) := by
  unfold je
  rw [List.mem_append]
  constructor
  · rintro (h | h)
    · rw [List.mem_filter, decide_eq_true_eq] at h; exact .inl h
    · obtain ⟨h', q1, q2⟩ := List.mem_flatMap.mp h
      obtain ⟨w, q3, rfl⟩ := List.mem_map.mp q2
      rw [List.mem_filter, decide_eq_true_eq] at q1
      rw [List.mem_filter, List.mem_filter, decide_eq_true_eq] at q3
      exact .inr ⟨h', w, q1.1, q3.1.1, q1.2, q3.1.2, q3.2, rfl⟩
  · rintro (h | ⟨h', w, q1, q2, q3, q4, q5, rfl⟩)
    · exact .inl (by rw [List.mem_filter, decide_eq_true_eq]; exact h)
    · refine .inr (List.mem_flatMap.mpr ⟨h', by rw [List.mem_filter, decide_eq_true_eq]; exact ⟨q1, q3⟩, List.mem_map.mpr ⟨w, ?_, rfl⟩⟩)
      rw [List.mem_filter, List.mem_filter, decide_eq_true_eq]; exact ⟨⟨q2, q4⟩, q5⟩
theorem uH (hr : r.length = n) (k : mD n R L) (x : List Int) : x ∈ je n L r ↔ df n (R ++ [r]) x := by
  rw [uF]
  constructor
  · rintro (⟨hx, v⟩ | ⟨h, w, hh, hw, vh, vw, nb, rfl⟩)
    · have l := (k.all x).mp hx
      rw [k.dot hx] at v
      exact ⟨l.fit.more v, l.one, fun y fy => l.min y fy.less⟩
    · have lh := (k.all h).mp hh
      have lw := (k.all w).mp hw
      have hne : h ≠ w := fun e => by rw [e] at vh; omega
      obtain ⟨f1, g1, z1, _⟩ := jc hr lh.fit lw.fit vh vw
      refine ⟨f1, g1, fun y fy sy => ?_⟩
      have nb' := (pz k hh hw hne).mp nb
      rcases qY r fy.less (fy.st r (by simp)) with ⟨l, ll, sl, v⟩ | ⟨h', w', lh', lw', sh', sw', vh', vw'⟩
      · have hl := (k.all l).mpr ll
        have := nb' l hl fun i hi => (z1 i).mp (sy i (sl i hi))
        rw [← k.dot hl] at v
        rcases this with rfl | rfl <;> omega
      · have hh' := (k.all h').mpr lh'
        have hw' := (k.all w').mpr lw'
        rw [← k.dot hh'] at vh'
        rw [← k.dot hw'] at vw'
        have e1 : h' = h := by
          rcases nb' h' hh' fun i hi => (z1 i).mp (sy i (sh' i hi)) with e | e
          · exact e
          · rw [e] at vh'; omega
        have e2 : w' = w := by
          rcases nb' w' hw' fun i hi => (z1 i).mp (sy i (sw' i hi)) with e | e
          · rw [e] at vw'; omega
          · exact e
        subst e1 e2
        exact fun i hi => ((z1 i).mp hi).elim (sh' i) (sw' i)
  · intro lx
    by_cases hz : ∃ l, df n R l ∧ Sub l x ∧ bu n (nth r) (nth l) = 0
    · obtain ⟨l, ll, sl, v⟩ := hz
      have e := lx.eq (ll.fit.more v) ll.one sl
      subst e
      have hl := (k.all x).mpr ll
      exact .inl ⟨hl, by rw [k.dot hl]; exact v⟩
    · rcases qY r lx.fit.less (lx.fit.st r (by simp)) with h0 | ⟨h, w, lh, lw, sh, sw, vh, vw⟩
      · exact absurd h0 hz
      · have hh := (k.all h).mpr lh
        have hw := (k.all w).mpr lw
        rw [← k.dot hh] at vh
        rw [← k.dot hw] at vw
        have hne : h ≠ w := fun e => by rw [e] at vh; omega
        obtain ⟨f1, g1, z1, _⟩ := jc hr lh.fit lw.fit vh vw
        refine .inr ⟨h, w, hh, hw, vh, vw, (pz k hh hw hne).mpr fun l hl sl => ?_, lx.eq f1 g1 fun i hi => ((z1 i).mp hi).elim (sh i) (sw i)⟩
        have ll := (k.all l).mp hl
        have slx : Sub l x := fun i hi => (sl i hi).elim (sh i) (sw i)
        by_cases v0 : aI r l = 0
        · exact absurd ⟨l, ll, slx, by rw [← k.dot hl]; exact v0⟩ hz
        · by_cases vp : 0 < aI r l
          · exact .inl (oB hr lh ll lw lx vh vp vw sh slx sw)
          · exact .inr (tF hr lh ll lw lx vh (by omega) vw sh slx sw)
end
end M
set_option maxRecDepth 100000
set_option maxHeartbeats 4000000
namespace M
section
variable {n : Nat} {R L : List (List Int)} {r : List Int}
theorem vQ (hr : r.length = n) (k : mD n R L) {h w h' w' : List Int} (hh : h ∈ L) (hw : w ∈ L) (vh : 0 < aI r h) (vw : aI r w < 0) (nb : nbB n L h w = true)
    (hh' : h' ∈ L) (hw' : w' ∈ L) (vh' : 0 < aI r h') (vw' : aI r w' < 0) (e : dD w (aI r w) h (aI r h) = dD w' (aI r w') h' (aI r h')) : h = h' ∧ w = w' := by
  have hne : h ≠ w := fun e => by rw [e] at vh; omega
  obtain ⟨_, _, z1, _⟩ := jc hr ((k.all h).mp hh).fit ((k.all w).mp hw).fit vh vw
  obtain ⟨_, _, z2, _⟩ := jc hr ((k.all h').mp hh').fit ((k.all w').mp hw').fit vh' vw'
  rw [e] at z1
  have nb' := (pz k hh hw hne).mp nb
  constructor
  · rcases nb' h' hh' fun i hi => (z1 i).mp ((z2 i).mpr (.inl hi)) with q | q
    · exact q.symm
    · rw [q] at vh'; omega
  · rcases nb' w' hw' fun i hi => (z1 i).mp ((z2 i).mpr (.inr hi)) with q | q
    · rw [q] at vw'; omega
    · exact q.symm
theorem uV (hr : r.length = n) (k : mD n R L) : (je n L r).Nodup := by
  unfold je
  rw [List.nodup_append]
  refine ⟨k.nd.filter _, ?_, fun x hx y hy e => ?_⟩
  · unfold List.Nodup
    rw [List.pairwise_flatMap]
    constructor
    · intro h hh
      rw [List.mem_filter, decide_eq_true_eq] at hh
      rw [List.pairwise_map]
      refine List.Pairwise.imp_of_mem (fun {w w'} hw hw' hne => ?_) ((k.nd.filter _).filter _)
      rw [List.mem_filter, List.mem_filter, decide_eq_true_eq] at hw hw'
      exact fun e => hne (vQ hr k hh.1 hw.1.1 hh.2 hw.1.2 hw.2 hh.1 hw'.1.1 hh.2 hw'.1.2 e).2
    · refine List.Pairwise.imp_of_mem (fun {h h'} hh hh' hne x hx y hy => ?_) (k.nd.filter _)
      rw [List.mem_filter, decide_eq_true_eq] at hh hh'
      obtain ⟨w, hw, rfl⟩ := List.mem_map.mp hx
      obtain ⟨w', hw', rfl⟩ := List.mem_map.mp hy
      rw [List.mem_filter, List.mem_filter, decide_eq_true_eq] at hw hw'
      exact fun e => hne (vQ hr k hh.1 hw.1.1 hh.2 hw.1.2 hw.2 hh'.1 hw'.1.1 hh'.2 hw'.1.2 e).1
  · subst e
    rw [List.mem_filter, decide_eq_true_eq] at hx
    obtain ⟨h, hh, hy⟩ := List.mem_flatMap.mp hy
    obtain ⟨w, hw, e⟩ := List.mem_map.mp hy
    rw [List.mem_filter, decide_eq_true_eq] at hh
    rw [List.mem_filter, List.mem_filter, decide_eq_true_eq] at hw
    have hne : h ≠ w := fun e => by rw [e] at hh; omega
    obtain ⟨_, _, z1, _⟩ := jc hr ((k.all h).mp hh.1).fit ((k.all w).mp hw.1.1).fit hh.2 hw.1.2
    rw [e] at z1
    rcases (pz k hh.1 hw.1.1 hne).mp hw.2 x hx.1 fun i hi => (z1 i).mp hi with q | q
    · rw [q] at hx; omega
    · rw [q] at hx; omega
theorem mD.step (hr : r.length = n) (k : mD n R L) : mD n (R ++ [r]) (je n L r) := ⟨uH hr k, uV hr k⟩
end
end M
set_option maxRecDepth 100000
set_option maxHeartbeats 4000000
namespace M
section
variable {n : Nat} {R L : List (List Int)}
end
end M
set_option maxRecDepth 100000
set_option maxHeartbeats 1000000
namespace M
end M
set_option maxRecDepth 100000
set_option maxHeartbeats 1000000
namespace M
structure Tight (left y : List Int) (a : Nat) : Prop where
  pos : 0 < nth y a
  min : ∀ i, 0 < nth y i → nth left a * nth y i ≤ nth left i * nth y a
abbrev Sh : Type := (Int × Int) × List Int
def psS (i : Nat) (T : List Sh) : Int × Int := T.foldl (fun q s => (q.1 * s.1.2, s.1.2 * q.2 + s.1.1 * q.1 * nth s.2 i)) (1, 0)
structure Red (n : Nat) (left y : List Int) (bot : Int) (a : Nat) (g : Int) (l' : List Int) (b' : Int) : Prop where
  gp : 0 < g
  len : l'.length = n
  lv : ∀ i, g * nth l' i = nth left i * nth y a - nth y i * nth left a
  bv : g * b' = bot * nth y a
structure Shr (n : Nat) (R : List (List Int)) (fit : List Int) (c : Nat) (ps : List (List Int)) (T : List Sh) (left : List Int) (bot : Int) : Prop where
  len : left.length = n
  nn : ∀ i, 0 ≤ nth left i
  bp : 0 < bot
  st : ∀ r ∈ R, bu n (nth r) (nth left) = 0
  sub : Sub left fit
  cn : T.length + cnt left ≤ cnt fit
  good : ∀ s ∈ T, 0 < s.1.1 ∧ 0 < s.1.2 ∧ Int.gcd s.1.1 s.1.2 = 1 ∧ Sub s.2 fit
  sl : (T.map (·.2)).Sublist ps
  eq : ∀ i, bot * (psS i T).2 + (psS i T).1 * nth left i = (psS i T).1 * bot * nth fit i
  no : ∀ y ∈ ps, ¬ Sub y left
  sz : SzL (c + 8001 * T.length) left
  szb : Sz (c + 8001 * T.length) bot
  szt : ∀ s ∈ T, Sz (c + 8001 * T.length) s.1.1 ∧ Sz (c + 8001 * T.length) s.1.2
def mkS (C : Int) (i : Nat) (m : Int) (T : List Sh) : Int := T.foldl (fun m s => m + s.1.1 * (C / s.1.2) * nth s.2 i) m
end M
set_option maxRecDepth 100000
set_option maxHeartbeats 4000000
namespace M
open PySem PySem.Spec PyProof.Rows L2
theorem zC (ms : List Int) (lo hi : Nat) : ∃ ks : List Int, cutD (ms.map D.int) (some (lo : Int)) (some (hi : Int)) = ks.map D.int ∧ ks.length ≤ hi - lo := by
  refine ⟨(ms.drop (min lo ms.length)).take (min hi ms.length - min lo ms.length), ?_, ?_⟩
  · unfold cutD
    rw [HT.lD, HT.lD, List.length_map, List.map_take, List.map_drop]
  · rw [List.length_take, List.length_drop]
    omega
end M
set_option maxRecDepth 100000
set_option maxHeartbeats 4000000
namespace M
open PySem PySem.Spec PyProof.Rows L2
end M
set_option maxRecDepth 100000
set_option maxHeartbeats 4000000
namespace M
open PySem PySem.Spec PyProof.Rows L2
abbrev sg (z : Str) : List Nat := z.cps.toList
theorem pZ (z : Str) : (sg z).length = z.length := by unfold Str.length; simp
theorem lj {a b : Str} (h : sg a = sg b) : a = b := Str.ext' (Array.toList_inj.mp h)
theorem pk (a b : Str) : sg (a ++ b) = sg a ++ sg b := by
  show ((a ++ b : Str).cps).toList = _
  rw [Str.cps_append]; simp
theorem oN {z : Str} {lo hi : Option Int} {a b : Nat} (hab : a ≤ b) (hb : b ≤ z.length) (h : Builtin.Str.strSliceIndices lo hi 1 z.length = (List.range (b - a)).map (fun k => a + k)) : sg (iA z lo hi) = ((sg z).drop a).take (b - a) := by
  have key : (((List.range (b - a)).map (fun k => a + k)).filterMap (fun i => (sg z)[i]?)) = ((sg z).drop a).take (b - a) := StrLaws.picks (sg z) (b - a) a (by rw [pZ]; omega)
  unfold iA
  rw [h]
  split
  · rename_i hl
    have hl : b - a = z.length := by simpa using hl
    have ha : a = 0 := by omega
    subst ha
    rw [List.drop_zero, List.take_of_length_le (by rw [pZ]; omega)]
  · rw [← key]
    simp [sg]
theorem Au {n b : Nat} (h : b ≤ n) : Builtin.Str.strSliceIndices none (some (b : Int)) 1 n = (List.range (b - 0)).map (fun k => 0 + k) := by
  rw [← StrLaws.strSliceIndices_plain (Nat.zero_le b) h]
  unfold Builtin.Str.strSliceIndices
  simp
  rw [show max (0 : Int) (min 0 (n : Int)) = 0 by omega]
theorem EI {n a : Nat} (h : a ≤ n) : Builtin.Str.strSliceIndices (some (a : Int)) none 1 n = (List.range (n - a)).map (fun k => a + k) := by
  rw [← StrLaws.strSliceIndices_plain h (Nat.le_refl n)]
  unfold Builtin.Str.strSliceIndices
  simp
  rw [if_neg (show ¬ (n : Int) < 0 by omega), show max (0 : Int) (min (n : Int) (n : Int)) = (n : Int) by omega]
theorem B7 {z : Str} {b : Nat} (h : b ≤ z.length) : sg (iA z none (some (b : Int))) = (sg z).take b := by
  rw [oN (Nat.zero_le b) h (Au h), List.drop_zero, Nat.sub_zero]
theorem Bk {z : Str} {a : Nat} (h : a ≤ z.length) : sg (iA z (some (a : Int)) none) = (sg z).drop a := by
  rw [oN h (Nat.le_refl _) (EI h), List.take_of_length_le]
  rw [List.length_drop, pZ]; omega
theorem BD {z : Str} (h : 1 ≤ z.length) : sg (iA z none (some (-1))) = (sg z).take (z.length - 1) := by
  have e : Builtin.Str.strSliceIndices none (some (-1)) 1 z.length = Builtin.Str.strSliceIndices none (some ((z.length - 1 : Nat) : Int)) 1 z.length := by
    rw [StrLaws.sliceIdx_neg_hi none z.length (by decide) (by omega)]
    congr 2
    omega
  rw [oN (Nat.zero_le _) (by omega) (e.trans (Au (by omega))), List.drop_zero, Nat.sub_zero]
end M
set_option maxRecDepth 100000
set_option maxHeartbeats 4000000
namespace M
open PySem PySem.Spec PyProof.Rows L2
section
variable {s s1 s2 : S} {R R' : List (Option D)} {O O' : aw} {d x y : D} {xs ys : List D}
theorem cD {f : Op2} {ma mb : EM} (ha : ma s = .ok (x, s1)) (hb : mb s1 = .ok (y, s2)) (hf : f s2.o x y = .ok d) : ak f ma mb s = .ok (d, s2) := by
  rw [aN, ha, aa]; dsimp only; rw [hb, aa]; dsimp only; rw [hf, aa]
theorem v8 {f : Op1} {ma : EM} (ha : ma s = .ok (x, s1)) (hf : f s1.o x = .ok d) : unM f ma s = .ok (d, s1) := by
  rw [xC, ha, aa]; dsimp only; rw [hf, aa]
theorem nN {f : OpN} {ma : AM} (ha : ma s = .ok (xs, s1)) (hf : f s1.o xs = .ok d) : br f ma s = .ok (d, s1) := by
  rw [eh, ha, aa]; dsimp only; rw [hf, aa]
theorem bH {m : EM} {r : AM} (ha : m s = .ok (x, s1)) (hb : r s1 = .ok (ys, s2)) : ai m r s = .ok (x :: ys, s2) := by
  rw [aE, ha, aa]; dsimp only; rw [hb, aa]
theorem AE {ma : AM} (ha : ma s = .ok (xs, s1)) (hl : xs.length ≤ 16777216) : il ma s = .ok (.tup xs, s1) := by
  rw [jW, ha, aa]; dsimp only; rw [if_pos hl]
theorem pT {ma : AM} (ha : ma s = .ok (xs, s1)) (hl : xs.length ≤ 16777216) : ij ma s = .ok (.lst xs, s1) := by
  rw [vF, ha, aa]; dsimp only; rw [if_pos hl]
theorem yk {ma : AM} {n : Nat} (ha : ma s = .ok (xs, ⟨R, O⟩)) (hl : xs.length ≤ 16777216) (hn : O.length = n) (hO : O ++ [.lst xs] = O') : gb ma s = .ok (.ptr n, ⟨R, O'⟩) := by
  rw [Bs, ha, aa]; dsimp only; rw [if_pos hl, hn, hO]
theorem ji {m : EM} {b : Bool} (h : m s = .ok (.bl b, s1)) : bq m s = .ok (b, s1) := by
  rw [eO, h, aa]
theorem xn {m : TM} {b : Bool} (h : m s = .ok (b, s1)) : o6 m s = .ok (!b, s1) := by
  rw [qA, h, aa]
theorem tG {m : EM} {b : Bool} (h : m s = .ok (.bl b, s1)) : qz m s = .ok (.bl (!b), s1) := by
  rw [A8, h, aa]
theorem Cu {a b : TM} {p q : Bool} (h : a s = .ok (p, s1)) (h2 : b s1 = .ok (q, s1)) : orT a b s = .ok (p || q, s1) := by
  rw [nD, h, aa]; dsimp only; cases p
  · rw [if_neg (by decide), h2]; rfl
  · rfl
theorem EF {a b : TM} {p q : Bool} (h : a s = .ok (p, s1)) (h2 : b s1 = .ok (q, s1)) : oW a b s = .ok (p && q, s1) := by
  rw [vK, h, aa]; dsimp only; cases p
  · rfl
  · rw [if_pos rfl, h2]; rfl
theorem nP {a b : EM} {p : Bool} (h : a s = .ok (.bl p, s1)) (hp : p = true) (h2 : b s1 = .ok (x, s2)) : nt a b s = .ok (x, s2) := by
  subst hp; rw [BU, h, aa]; exact h2
theorem EH {c : TM} {a b : EM} {p : Bool} (h : c s = .ok (p, s1)) (ha : a s1 = .ok (x, s1)) (hb : b s1 = .ok (y, s1)) : ifM c a b s = .ok (if p = true then x else y, s1) := by
  rw [C9, h, aa]; dsimp only; cases p
  · exact hb
  · exact ha
theorem jP {m : EM} {i : Nat} (h : m s = .ok (d, ⟨R, O⟩)) (hR : R.set i (some d) = R') : setM i m s = .next ⟨R', O⟩ := by
  subst hR; exact dG h
theorem Av {mo me : EM} {k : Nat} {ds0 ds : List D} (h1 : mo s = .ok (.ptr k, s1)) (c1 : s1.o[k]? = some (.lst ds0)) (h2 : me s1 = .ok (d, ⟨R, O⟩)) (c2 : O[k]? = some (.lst ds)) (hb : ds.length ≤ 1000000) (hO : O.set k (.lst (ds ++ [d])) = O') : eE mo me s = .ok (.non, ⟨R, O'⟩) := by
  subst hO; exact jX (s2 := ⟨R, O⟩) h1 c1 h2 c2 hb
theorem v9 {m : EM} {k : Nat} {ds : List D} (h : m s = .ok (.ptr k, ⟨R, O⟩)) (c : O[k]? = some (.lst ds)) (hO : O.set k .dead = O') : gE m s = .ok (.lst ds, ⟨R, O'⟩) := by
  subst hO; exact n4 h c
theorem C5 {f : List D → Option (List D × D)} {mo : EM} {k : Nat} {ds es : List D} (h : mo s = .ok (.ptr k, ⟨R, O⟩)) (hc : O[k]? = some (.lst ds)) (hf : f ds = some (es, d)) (hO : O.set k (.lst es) = O') : jq f mo s = .ok (d, ⟨R, O'⟩) := by
  subst hO
  unfold jq
  rw [h, aa]
  dsimp only
  rw [jb hc]
  dsimp only
  rw [hf]
theorem B8 {m : EM} {n : Nat} {ds : List D} (h : m s = .ok (x, ⟨R, O⟩)) (hs : nS O x = some ds) (hn : O.length = n) (hO : O ++ [.lst ds] = O') : AJ m s = .ok (.ptr n, ⟨R, O'⟩) := by
  rw [Am, h, aa]; dsimp only; rw [hs]; dsimp only; rw [hn, hO]
theorem Em {c : Nat} {f : Str} {m : EM} {ns : List Str} {ds : List D} (h : m s = .ok (.obj c ns ds, s1)) (hd : lJ f ns ds = some d) : kS c f m s = .ok (d, s1) := by
  rw [vR, h, aa]
  dsimp only
  rw [if_pos rfl, hd]
theorem vL {c n : Nat} {m : Str} {f : FM} {mo : EM} {ma : AM} {ns : List Str} {ds args : List D} {O1 : aw} (ho : mo s = .ok (.obj c ns ds, s1)) (ha : ma s1 = .ok (args, ⟨R, O⟩)) (hf : f (.obj c ns ds :: args) [] = .ok (x, O1)) (hm : m ∉ ns) (hd : ax ds = true) (hp : ax args = true) (hl : args.length = n) (hx : shD O.length x = y) (hO : O ++ O1.map (shC O.length) = O') :
    mG c m n f mo ma s = .ok (y, ⟨R, O'⟩) := by
  subst hx; subst hO
  exact Aj ho hm hd ha hp hl hf
theorem vA {c n : Nat} {m : Str} {f : FM} {mo : EM} {ma : AM} {ns : List Str} {ds args : List D} {O1 : aw} (ho : mo s = .ok (.obj c ns ds, s1)) (ha : ma s1 = .ok (args, s2)) (hf : f (.obj c ns ds :: args) [] = .ok (x, O1)) (hm : m ∉ ns) (hd : ax ds = true) (hp : ax args = true) (hl : args.length = n) (hr : bG x = true) :
    methP c m n f mo ma s = .ok (x, s2) := o9 ho hm hd ha hp hl hf hr
theorem B4 {n : Nat} {f : FM} {ma : AM} {ds : List D} {O1 : aw} (h : ma s = .ok (ds, s1)) (hf : f ds [] = .ok (d, O1)) (hp : ax ds = true) (hl : ds.length = n) (hd : bG d = true) : bt n f ma s = .ok (d, s1) := b8 h hp hl hf hd
theorem BP {n : Nat} {f : FM} {ma : AM} {ds : List D} {O1 : aw} (h : ma s = .ok (ds, ⟨R, O⟩)) (hf : f ds [] = .ok (x, O1)) (hp : ax ds = true) (hl : ds.length = n) (hx : shD O.length x = y) (hO : O ++ O1.map (shC O.length) = O') : wG n f ma s = .ok (y, ⟨R, O'⟩) := by
  subst hx; subst hO; exact Ah h hp hl hf
theorem B1 {n : Nat} {f : FM} {ma : AM} {ds : List D} {O1 : aw} (h : ma s = .ok (ds, ⟨R, O⟩)) (hf : f ds O = .ok (d, O1)) (hl : ds.length = n) : wN n f ma s = .ok (d, ⟨R, O1⟩) := yV h hl hf
theorem Ed {c : TM} {A B : SM} {p : Bool} (h : c s = .ok (p, s1)) (hp : p = true) : ifS c A B s = A s1 := by subst hp; exact kr h
theorem El {c : TM} {A B : SM} {p : Bool} (h : c s = .ok (p, s1)) (hp : p = false) : ifS c A B s = B s1 := by subst hp; exact fZ h
theorem my (s : S) : bh s = .ok (none, s) := rfl
theorem nv {m : EM} {i : Int} (h : m s = .ok (.int i, s1)) : part m s = .ok (some i, s1) := by rw [lE, h, aa]
theorem wC {me : EM} {ml mh : OM} {lo hi : Option Int} {s3 : S} {ds es : List D} (h : me s = .ok (x, s1)) (hl : ml s1 = .ok (lo, s2)) (hh : mh s2 = .ok (hi, s3)) (hd : lsD s3.o x = some ds) (he : cutD ds lo hi = es) : slM me ml mh s = .ok (.lst es, s3) := by
  rw [xX, h, aa]; dsimp only; rw [hl, aa]; dsimp only; rw [hh, aa]; dsimp only; rw [hd]; dsimp only; rw [he]
theorem Ax {m : EM} {g : GM} (h : m s = .ok (d, s1)) (hg : g d s1 = .ok s2) : uE m g s = .next s2 := by
  rw [Bo, h, aa]; dsimp only; rw [hg, lq]
theorem Ec {i : Nat} {f : Op2} {m : EM} (h : ak f (af i) m s = .ok (d, ⟨R, O⟩)) (hR : R.set i (some d) = R') : Dj i f m s = .next ⟨R', O⟩ := by
  subst hR
  rw [Bf]; exact Ax h rfl
theorem Bb {i : Nat} (hR : R.set i (some d) = R') : aL i d ⟨R, O⟩ = .ok ⟨R', O⟩ := by subst hR; rfl
theorem BY {g h : GM} {a b : D} (h1 : g a s = .ok s1) (h2 : h b s1 = .ok s2) : dv (aS g (aS h dA)) 2 (.tup [a, b]) s = .ok s2 := by
  rw [kl, h1, aa, h2]
theorem Bd {g h k : GM} {a b c : D} {s3 : S} (h1 : g a s = .ok s1) (h2 : h b s1 = .ok s2) (h3 : k c s2 = .ok s3) : dv (aS g (aS h (aS k dA))) 3 (.tup [a, b, c]) s = .ok s3 := by
  show (g a s).bind (fun s1 => (h b s1).bind fun s2 => (k c s2).bind fun s3 => .ok s3) = _
  rw [h1, aa, h2, aa, h3, aa]
end
theorem yF {O : aw} : iX O (.int 10) (.int 30) = .ok (.int 1000000000000000000000000000000) := jh (by decide) (by decide) (by decide)
theorem rC {O : aw} : iX O (.int 10) (.int 25) = .ok (.int 10000000000000000000000000) := jh (by decide) (by decide) (by decide)
theorem xR {O : aw} : iX O (.int 10) (.int 20) = .ok (.int 100000000000000000000) := jh (by decide) (by decide) (by decide)
theorem zW {O : aw} : iX O (.int 2) (.int 31) = .ok (.int 2147483648) := jh (by decide) (by decide) (by decide)
section
variable {s s1 : S} {o : Out}
theorem cO {a b : SM} (h : a s = .next s1) (k : b s1 = o) : aT a b s = o := (aV h).trans k
theorem sC {c : TM} {A B : SM} {p : Bool} (h : c s = .ok (p, s1)) (hp : p = true) (k : A s1 = o) : ifS c A B s = o := (Ed h hp).trans k
theorem nZ {c : TM} {A B : SM} {p : Bool} (h : c s = .ok (p, s1)) (hp : p = false) (k : B s1 = o) : ifS c A B s = o := (El h hp).trans k
end
end M
set_option maxRecDepth 100000
set_option maxHeartbeats 4000000
namespace M
open PySem PySem.Spec PyProof.Rows L2
theorem tQ {n : Nat} {m : SM} {ds : List D} {O : aw} {d : D} {s : S} (h : m ⟨ds.map some ++ List.replicate (n - ds.length) none, O⟩ = .ret d s) : j2 n m ds O = .ok (d, s.o) := by unfold j2; rw [h]
theorem o5 {n : Nat} {m : SM} {ds : List D} {O : aw} {c : Nat} {a : D} {s : S} (h : m ⟨ds.map some ++ List.replicate (n - ds.length) none, O⟩ = .exc c a s) : j2 n m ds O = .exc c a s := by unfold j2; rw [h]
theorem BF {n : Nat} {m : SM} {ds : List D} {O : aw} {s : S} (h : m ⟨ds.map some ++ List.replicate (n - ds.length) none, O⟩ = .next s) : j2 n m ds O = .ok (.non, s.o) := by unfold j2; rw [h]
section
variable {s s1 s2 : S} {c : Nat} {a : D} {o : Out}
theorem AW {A B : SM} (h : A s = .exc c a s1) : aT A B s = .exc c a s1 := by
  show (A s).then B = _
  rw [h]; rfl
theorem x_raise {ma : AM} {xs : List D} (h : ma s = .ok (xs, s1)) (hl : xs.length ≤ 1000) : nI c ma s = .exc c .non s1 := by
  unfold nI
  rw [h, lq]
  dsimp only
  rw [if_pos (j1 (by omega))]
theorem qf {m : EM} (h : m s = .exc c a s1) : bE m s = .exc c a s1 := by unfold bE; rw [h]; rfl
theorem D1 {m : EM} (h : m s = .exc c a s1) : dX m s = .exc c a s1 := by unfold dX; rw [h]; rfl
theorem DC {mb : SM} {hs : Nat → SM} (h : mb s = .exc c a s1) (k : hs c s1 = o) : sX mb hs s = o := by unfold sX; rw [h]; exact k
theorem EA {sub : Nat → Option Bool} {mb mr : Nat → SM} (h : sub c = some true) (k : mb c s = o) : exM sub mb mr c s = o := by unfold exM; rw [h]; exact k
theorem EJ {i : Nat} {mb : SM} {R R1 : List (Option D)} {O O1 : aw} (h : mb ⟨R.set i (some (.exn c)), O⟩ = .next ⟨R1, O1⟩) : asM i mb c ⟨R, O⟩ = .next ⟨R1.set i none, O1⟩ := by unfold asM; dsimp only; rw [h]
theorem sA {sub : Nat → Option Bool} {m : EM} {b : Bool} (h : m s = .ok (.exn c, s1)) (hs : sub c = some b) : unM (j5 sub) m s = .ok (.bl b, s1) := by
  refine v8 h ?_
  unfold j5
  dsimp only
  rw [hs]
theorem yY {c n : Nat} {m : Str} {f : FM} {mo : EM} {ma : AM} {s s1 s2 : S} {ns : List Str} {ds args : List D} {d : D} {O : aw} (ho : mo s = .ok (.obj c ns ds, s1)) (hm : m ∉ ns) (hd : ax ds = true) (ha : ma s1 = .ok (args, s2)) (hp : ax args = true) (hl : args.length = n) (hf : f (.obj c ns ds :: args) [] = .ok (d, O)) :
    fc c m n f mo ma s = .ok (shD s2.o.length d, ⟨s2.r, s2.o ++ O.map (shC s2.o.length)⟩) := by
  unfold fc
  rw [ho, aa]
  dsimp only
  rw [if_pos ⟨rfl, hm, hd⟩, ha, aa]
  dsimp only
  rw [if_pos ⟨hp, hl⟩, hf]
theorem kC {c n : Nat} {m : Str} {f : FM} {mo : EM} {ma : AM} {s s1 s2 s3 : S} {ns : List Str} {ds args : List D} {k : Nat} {a : D} (ho : mo s = .ok (.obj c ns ds, s1)) (hm : m ∉ ns) (hd : ax ds = true) (ha : ma s1 = .ok (args, s2)) (hp : ax args = true) (hl : args.length = n) (hf : f (.obj c ns ds :: args) [] = .exc k a s3) :
    fc c m n f mo ma s = .exc k a s2 := by
  unfold fc
  rw [ho, aa]
  dsimp only
  rw [if_pos ⟨rfl, hm, hd⟩, ha, aa]
  dsimp only
  rw [if_pos ⟨hp, hl⟩, hf]
theorem vV {c n : Nat} {m : Str} {f : FM} {mo : EM} {ma : AM} {s s1 : S} {R : List (Option D)} {O O' : aw} {x y : D} {ns : List Str} {ds args : List D} {O1 : aw} (ho : mo s = .ok (.obj c ns ds, s1)) (ha : ma s1 = .ok (args, ⟨R, O⟩)) (hf : f (.obj c ns ds :: args) [] = .ok (x, O1)) (hm : m ∉ ns) (hd : ax ds = true) (hp : ax args = true) (hl : args.length = n) (hx : shD O.length x = y) (hO : O ++ O1.map (shC O.length) = O') :
    fc c m n f mo ma s = .ok (y, ⟨R, O'⟩) := by
  subst hx; subst hO
  exact yY ho hm hd ha hp hl hf
theorem yz {m : EM} (h : m s = .exc c a s1) : gE m s = .exc c a s1 := by unfold gE; rw [h]; rfl
theorem yU {m : EM} (h : m s = .exc c a s1) : listI m s = .exc c a s1 := by unfold listI; rw [h]; rfl
theorem Cg {n : Nat} {caps : List Nat} {im : IM} {g : GM} {t : TM} {e : EM} (h : im s = .exc c a s1) : dc n caps im g t e s = .exc c a s1 := by unfold dc iB; rw [h]; rfl
theorem Bn {m : EM} {r : AM} (h : m s = .exc c a s1) : ai m r s = .exc c a s1 := by unfold ai; rw [h]; rfl
theorem DW {f : OpN} {ma : AM} (h : ma s = .exc c a s1) : br f ma s = .exc c a s1 := by unfold br; rw [h]; rfl
end
end M
set_option maxRecDepth 100000
set_option maxHeartbeats 4000000
namespace M
open PySem PySem.Spec PyProof.Rows L2
def Sto (O : aw) (L : List (Nat × List Int)) : Prop := ∀ p ∈ L, O[p.1]? = some (.lst (p.2.map D.int))
theorem Sto.app {O : aw} {L : List (Nat × List Int)} (h : Sto O L) (E : aw) : Sto (O ++ E) L := fun p hp => yC (h p hp)
theorem Sto.set {O : aw} {L : List (Nat × List Int)} (h : Sto O L) {k : Nat} (hk : ∀ p ∈ L, p.1 ≠ k) (c : Cell) : Sto (O.set k c) L := fun p hp => by rw [we fun z => hk p hp z.symm]; exact h p hp
theorem Sto.lt {O : aw} {L : List (Nat × List Int)} (h : Sto O L) {p : Nat × List Int} (hp : p ∈ L) : p.1 < O.length := DG (h p hp)
end M
set_option maxRecDepth 100000
set_option maxHeartbeats 4000000
namespace M
open PySem PySem.Spec PyProof.Rows L2
section
variable {α β : Type} (f g : α → β)
end
end M
set_option maxRecDepth 100000
set_option maxHeartbeats 4000000
namespace Lk11
open PySem PySem.Spec PyProof.Rows L2 M
def top (i : Nat) : Stmt := PySem.Challenge.pw_modeyard_k11_what_is_no_way.main.body.getD i (.Pass ⟨0, 0, 0, 0⟩)
abbrev hU : Stmt := top 16
abbrev di : Stmt := top 18
abbrev iG : Stmt := top 23
abbrev fI : Stmt := top 24
abbrev fA : Stmt := top 25
abbrev eJ : Stmt := top 26
abbrev fL : Stmt := top 27
abbrev ej : Stmt := top 28
abbrev eT : Stmt := top 29
abbrev eG : Stmt := top 30
abbrev gz : Stmt := top 31
abbrev gx : Stmt := top 32
abbrev gC : Stmt := top 33
abbrev gw : Stmt := inClass (top 34) 0
abbrev g0 : Stmt := inClass (top 34) 5
abbrev gv : Stmt := inClass (top 34) 6
abbrev dC : Stmt := inClass (top 34) 7
abbrev eS : Stmt := inClass (top 34) 8
abbrev dY : Stmt := inClass (top 34) 9
abbrev ie : Stmt := top 36
abbrev g9 : Stmt := top 37
abbrev gB : Stmt := top 38
abbrev ia : Stmt := top 39
abbrev g5 : Stmt := top 42
abbrev eR : Stmt := top 43
abbrev jR : Stmt := top 44
def iQ : Nat → Option Bool := fun c => match c with
  | 1 => some true
  | _ => none
def aO : Nat → Option Bool := fun c => match c with
  | 1 => some false
  | _ => none
def fq : Nat → Option Bool := fun c => match c with
  | 1 => some false
  | _ => none
def lP : Nat → Option Bool := fun c => match c with
  | 1 => some true
  | _ => none
def iy : Nat → Option Bool := fun c => match c with
  | 1 => some true
  | _ => none
def caK (K : PySem.W.Frag) : Nat → Addr := fun n => match n with
  | 0 => clsAt K "Yard"
  | 1 => clsAt K "NoWay"
  | 2 => clsAt K "YardError"
  | 3 => clsAt K "NoAmount"
  | 4 => clsAt K "NoBalance"
  | 5 => clsAt K "NoFit"
  | 6 => clsAt K "NoGood"
  | 7 => clsAt K "NoName"
  | 8 => clsAt K "NoRow"
  | 9 => clsAt K "NoText"
  | 10 => clsAt K "NoRatio"
  | 11 => clsAt K "NoWeights"
  | 12 => clsAt K "NoWork"
  | 13 => clsAt K "TooMany"
  | _ => 0
noncomputable def jG : SM :=
 (dX (nt (unM (jB "int") (af 0)) (qz (unM (jB "bool") (af 0)))))
noncomputable def ic : FM := runM 1 jG
noncomputable def d8 : SM :=
 (dX (br wq (ai (dc 2 [] (wA (ai (af 0) (ai (af 1) av))) (dv (aS (aL 0) (aS (aL 1) dA)) 2) d4 (ak iR (af 0) (af 1))) av)))
noncomputable def dj : FM := runM 2 d8
noncomputable def jv : SM :=
 (aT (ifS (orT (bq (ak ltD (br dg (ai (af 0) av)) (ao (.int 1)))) (bq (ak gtD (br dg (ai (af 0) av)) (ao (.int 8)))))
 (dX (ao (.bl false)))
 cm)
 (dX (br wW (ai (dc 1 [] (xq (af 0)) (aL 0) d4 (nj mw mw (ao (.str ("a" : Str))) (af 0) (ao (.str ("z" : Str))))) av))))
noncomputable def iJ : FM := runM 1 jv
noncomputable def gQ : SM :=
 (aT (ifS (bq (ak gtD (br dg (ai (af 0) av)) (ao (.int 10))))
 kN
 cm)
 (ifS (bq (ak gtD (br dg (ai (af 1) av)) (ao (.int 10))))
 kN
 cm))
noncomputable def fu : FM := runM 2 gQ
noncomputable def eB : SM :=
 (aT (ifS (o6 (bq (bt 1 iJ (ai (af 0) av))))
 kN
 cm)
 (ifS (bq (ak inD (af 0) (af 1)))
 kN
 cm))
noncomputable def cX : FM := runM 2 eB
noncomputable def gF : SM :=
 (bE (bt 2 cX (ai (af 2) (ai (slM (af 0) bh (part (af 1))) av))))
noncomputable def gn : SM :=
 (kb (fg (ai (af 0) av)) (dv (aS (aL 1) (aS (aL 2) dA)) 2)
 gF)
noncomputable def eU : FM := runM 3 gn
noncomputable def gP : SM :=
 (aT (ifS (bq (ak m9 (af 0) (af 1)))
 kN
 cm)
 (ifS (bq (ak inD (af 0) (af 2)))
 kN
 cm))
noncomputable def fN : FM := runM 3 gP
noncomputable def fF : SM :=
 (ifS (orT (o6 (bq (bt 1 ic (ai (af 0) av)))) (bq (ak ltD (af 0) (ao (.int 1)))))
 kN
 cm)
noncomputable def en : FM := runM 1 fF
noncomputable def gH : SM :=
 (aT (bE (nW 3 fN (ai (af 3) (ai (af 1) (ai (af 2) av)))))
 (aT (bE (bt 1 en (ai (af 4) av)))
 (bE (eE (af 2) (af 3)))))
noncomputable def eV : SM :=
 (aT (setM 2 (gb av))
 (kb (listI (af 0)) (dv (aS (aL 3) (aS (aL 4) dA)) 2)
 gH))
noncomputable def cN : FM := runM 5 eV
noncomputable def gK : SM :=
 (aT (bE (nW 2 cX (ai (af 3) (ai (af 2) av))))
 (aT (bE (bt 2 cN (ai (af 4) (ai (af 1) av))))
 (aT (bE (bt 2 cN (ai (af 5) (ai (af 1) av))))
 (bE (eE (af 2) (af 3))))))
noncomputable def gi : SM :=
 (aT (setM 2 (gb av))
 (kb (listI (af 0)) (dv (aS (aL 3) (aS (aL 4) (aS (aL 5) dA))) 3)
 gK))
noncomputable def eK : FM := runM 6 gi
noncomputable def iu : SM :=
 (dX (il (ai (ak ixD (af 0) (ao (.int 0))) (ai (br de (ai (ak ixD (af 0) (ao (.int 1))) av)) (ai (br de (ai (ak ixD (af 0) (ao (.int 2))) av)) av)))))
noncomputable def gs : FM := runM 1 iu
noncomputable def gu : SM :=
 (dX (br wq (ai (dc 1 [0] (listI (af 1)) (aL 0) (bq (ak eqD (ak ixD (af 0) (ao (.int 0))) (af 1))) (ak ixD (af 0) (ao (.int 1)))) av)))
noncomputable def cM : FM := runM 2 gu
noncomputable def ix : SM :=
 (dX (dc 1 [0] (listI (af 1)) (aL 0) d4 (ak m5 (bt 2 cM (ai (af 0) (ai (ak ixD (af 1) (ao (.int 2))) av))) (bt 2 cM (ai (af 0) (ai (ak ixD (af 1) (ao (.int 1))) av))))))
noncomputable def gy : FM := runM 2 ix
noncomputable def iq : SM :=
 (aT (bE (bt 2 fu (ai (af 1) (ai (af 2) av))))
 (aT (bE (bt 1 eU (ai (af 1) av)))
 (aT (bE (bt 2 eK (ai (af 2) (ai (af 1) av))))
 (aT (lY 0 "held_goods" (af 0) (br de (ai (af 1) av)))
 (aT (lY 0 "held_works" (af 0) (dc 1 [] (listI (af 2)) (aL 0) d4 (bt 1 gs (ai (af 0) av))))
 (lY 0 "held_changes" (af 0) (dc 1 [1] (listI (af 2)) (aL 0) d4 (bt 2 gy (ai (af 0) (ai (af 1) av))))))))))
noncomputable def gA : FM := runM 3 iq
noncomputable def iO : SM :=
 (dX (dc 1 [1] (listI (kS 0 "held_changes" (af 0))) (aL 0) d4 (ak ixD (af 0) (af 1))))
noncomputable def hJ : FM := runM 2 iO
noncomputable def iv : SM :=
 (dX (dc 1 [0] (nq (ai (br dg (ai (kS 0 "held_goods" (af 0)) av)) av)) (aL 0) d4 (methP 0 "row" 1 hJ (af 1) (ai (af 0) av))))
noncomputable def fo : FM := runM 1 iv
noncomputable def cR : SM :=
 (aT (ifS (bq (ak neD (br dg (ai (af 1) av)) (br dg (ai (kS 0 "held_works" (af 0)) av))))
 (nI 1 (ai (ao (.str ("a way has a number for each work" : Str))) av))
 cm)
 (ifS (bq (br wH (ai (dc 1 [] (listI (af 1)) (aL 0) d4 (ak ltD (af 0) (ao (.int 0)))) av)))
 (nI 1 (ai (ao (.str ("no work goes less often than never" : Str))) av))
 cm))
noncomputable def cQ : FM := j2 2 cR
noncomputable def bW : SM :=
 (aT (bE (fc 0 "check_way" 1 cQ (af 0) (ai (af 1) av)))
 (dX (p9 1 [1] (listI (methP 0 "rows" 0 fo (af 0) av)) (aL 0) d4 (bt 2 dj (ai (af 0) (ai (af 1) av))))))
noncomputable def aU : FM := j2 2 bW
noncomputable def bX : SM :=
 (dX (br wW (ai (dc 1 [] (listI (gE (fc 0 "leaves" 1 aU (af 0) (ai (af 1) av)))) (aL 0) d4 (ak eqD (af 0) (ao (.int 0)))) av)))
noncomputable def bD : FM := j2 2 bX
noncomputable def gc : SM :=
 (aT (ifS (bq (ak ltD (af 1) (br dg (ai (af 0) av))))
 (dX (ak ixD (af 0) (af 1)))
 cm)
 (dX (ao (.int 0))))
noncomputable def b9 : FM := runM 2 gc
noncomputable def gd : SM :=
 (aT (ifS (bq (ak geD (af 0) (ak iX (ao (.int 2)) (ao (.int 31)))))
 (dX (ak bK (af 0) (ao (.int 1890))))
 cm)
 (aT (setM 2 (ak aY (ak aX (ak aX (ak iR (af 0) (ak aX (ao (.int 48271)) (ak iR (ao (.int 21350)) (af 1)))) (ao (.int 12345))) (af 1)) (ao (.int 2147483647))))
 (dX (ak aY (ak iR (af 2) (ao (.int 16807))) (ao (.int 2147483629))))))
noncomputable def ee : FM := runM 3 gd
noncomputable def gr : SM :=
 (setM 4 (ak aX (af 4) (ak ixD (af 2) (ak aY (ak aX (ak bK (af 0) (ao (.int 6))) (ak iR (af 5) (ak bK (af 0) (ao (.int 156))))) (ao (.int 26))))))
noncomputable def gh : SM :=
 (aT (setM 8 (ak ixD (af 2) (ak aY (ak aX (ak aX (ak bK (af 0) (ao (.int 6))) (ak iR (ao (.int 3)) (af 5))) (ao (.int 1))) (ao (.int 26)))))
 (aT (setM 9 (ak aX (ak aX (slS (af 4) bh (part (af 6))) (af 8)) (slS (af 4) (part (ak aX (af 6) (ao (.int 1)))) bh)))
 (aT (ifS (bq (ak eqD (ak aY (ak bK (af 0) (ao (.int 5))) (ao (.int 3))) (ao (.int 1))))
 (setM 9 (ak ixD (ij (ai (af 4) (ai (slS (af 4) bh (part (unM kM (ao (.int 1))))) (ai (ak aX (af 4) (af 8)) av)))) (br pI (ai (af 5) (ai (ao (.int 2)) av)))))
 cm)
 (bE (eE (af 7) (af 9))))))
noncomputable def iw : SM :=
 (aT (setM 2 (ao (.str ("abcdefghijklmnopqrstuvwxyz" : Str))))
 (aT (setM 3 (ak aX (ao (.int 2)) (ak aY (af 0) (ao (.int 6)))))
 (aT (setM 4 (ao (.str ("" : Str))))
 (aT (kb (nq (ai (af 3) av)) (aL 5)
 gr)
 (aT (setM 6 (ak aY (ak bK (af 0) (ao (.int 2))) (af 3)))
 (aT (setM 7 (gb av))
 (aT (kb (nq (ai (af 1) av)) (aL 5)
 gh)
 (dX (gE (af 7))))))))))
noncomputable def fm : FM := runM 10 iw
noncomputable def gW : SM :=
 (aT (setM 0 (bt 2 ee (ai (af 0) (ai (ak aY (af 6) (ao (.int 3))) av))))
 (aT (setM 8 (ak aX (ao (.int 1)) (ak aY (ak bK (af 0) (ao (.int 7))) (ao (.int 3)))))
 (aT (setM 9 (ak aX (ao (.int 1)) (ak aY (ak bK (af 0) (ao (.int 21))) (ao (.int 3)))))
 (aT (ifS (bq (ak eqD (ak aY (ak bK (af 0) (ao (.int 63))) (ao (.int 6))) (ao (.int 0))))
 (setM 8 (ak aX (ak iR (af 8) (af 3)) (ak aY (ak bK (af 0) (ao (.int 378))) (ao (.int 5)))))
 cm)
 (aT (ifS (bq (ak eqD (ak aY (ak bK (af 0) (ao (.int 63))) (ao (.int 6))) (ao (.int 1))))
 (setM 9 (ak aX (ak iR (af 9) (af 3)) (ak aY (ak bK (af 0) (ao (.int 378))) (ao (.int 5)))))
 cm)
 (aT (ifS (orT (bq (ak ltD (ak aY (af 0) (ao (.int 7))) (ao (.int 3)))) (bq (ak eqD (ak aY (af 0) (ao (.int 7))) (ao (.int 6)))))
 (bE (eE (af 4) (il (ai (af 7) (ai (af 8) av)))))
 cm)
 (ifS (orT (oW (bq (ak gtD (ak aY (af 0) (ao (.int 7))) (ao (.int 2)))) (bq (ak ltD (ak aY (af 0) (ao (.int 7))) (ao (.int 5))))) (bq (ak eqD (ak aY (af 0) (ao (.int 7))) (ao (.int 6)))))
 (bE (eE (af 5) (il (ai (af 7) (ai (af 9) av)))))
 cm)))))))
noncomputable def ib : SM :=
 (aT (setM 4 (gb av))
 (aT (setM 5 (gb av))
 (aT (kb (fg (ai (af 2) av)) (dv (aS (aL 6) (aS (aL 7) dA)) 2)
 gW)
 (aT (ifS (bq (ak eqD (ak aY (ak bK (af 0) (ao (.int 11))) (ao (.int 2))) (ao (.int 1))))
 (aT (bE (jq oV (af 4)))
 (bE (jq oV (af 5))))
 cm)
 (dX (il (ai (af 1) (ai (gE (af 4)) (ai (gE (af 5)) av)))))))))
noncomputable def iT : FM := runM 10 ib
noncomputable def i3 : SM :=
 (dX (dc 3 [] (listI (af 0)) (dv (aS (aL 0) (aS (aL 1) (aS (aL 2) dA))) 3) d4 (il (ai (af 0) (ai (br de (ai (af 1) av)) (ai (br de (ai (af 2) av)) av))))))
noncomputable def hX : FM := runM 1 i3
noncomputable def eL : SM :=
 (aT (setM 3 (br de (ai (af 1) av)))
 (aT (setM 4 (ao (.bl false)))
 (aT (sX (ifS (bq (af 2))
 (bE (gE (fc 0 "leaves" 1 aU (af 0) (ai (af 3) av))))
 (bE (fc 0 "balanced" 1 bD (af 0) (ai (af 3) av))))
 (exM iQ (asM 5 (aT (setM 6 (unM (j5 aO) (af 5)))
 (aT (setM 7 (unM (j5 fq) (af 5)))
 (setM 4 (nt (unM (j5 lP) (af 5)) (nt (unM (j5 iy) (af 5)) (nt (qz (af 6)) (qz (af 7)))))))))
 DQ))
 (dX (nt (af 4) (ak eqD (af 3) (af 1)))))))
noncomputable def d5 : FM := runM 8 eL
noncomputable def lC : SM :=
 (aT (bE (eE (af 3) (bt 4 iT (ai (ak aY (af 6) (ak iX (ao (.int 10)) (ao (.int 30)))) (ai (ak ixD (af 1) (af 5)) (ai (af 2) (ai (ak iX (ao (.int 10)) (ao (.int 20))) av)))))))
 (bE (eE (af 4) (ak aY (ak bK (bt 2 ee (ai (af 6) (ai (ao (.int 1)) av))) (ao (.int 3))) (ao (.int 4))))))
noncomputable def nO : SM :=
 (ifS (orT (o6 (bq (bt 3 d5 (ai (af 7) (ai (af 11) (ai (ao (.bl true)) av)))))) (o6 (bq (bt 3 d5 (ai (af 7) (ai (af 11) (ai (ao (.bl false)) av)))))))
 (dX (ao (.bl false)))
 cm)
noncomputable def xu : SM :=
 (aT (setM 1 (bt 2 fm (ai (ak aY (bt 2 b9 (ai (af 0) (ai (ao (.int 0)) av))) (ak iX (ao (.int 10)) (ao (.int 30)))) (ai (ao (.int 8)) av))))
 (aT (setM 2 (slM (af 1) bh (part (ak aY (bt 2 b9 (ai (af 0) (ai (ao (.int 1)) av))) (ao (.int 5))))))
 (aT (setM 3 (gb av))
 (aT (setM 4 (gb av))
 (aT (kb (fg (ai (slM (af 0) (part (ao (.int 3))) (part (ao (.int 9)))) av)) (dv (aS (aL 5) (aS (aL 6) dA)) 2)
 lC)
 (aT (setM 7 (su 0 2 gA (ai (br de (ai (af 2) av)) (ai (bt 1 hX (ai (jN 3) av)) av))))
 (aT (setM 8 (il (ai (gE (mG 0 "leaves" 1 aU (af 7) (ai (br de (ai (af 4) av)) av))) (ai (methP 0 "balanced" 1 bD (af 7) (ai (br de (ai (af 4) av)) av)) av))))
 (aT (setM 6 (bt 2 b9 (ai (af 0) (ai (ao (.int 2)) av))))
 (aT (setM 9 (ak aY (af 6) (ak aX (br dg (ai (af 4) av)) (ao (.int 1)))))
 (aT (setM 10 (gb (ai (ak aX (ak aX (slM (af 4) bh (part (af 9))) (ij (ai (ak aY (ak bK (af 6) (ao (.int 7))) (ao (.int 3))) av))) (slM (af 4) (part (af 9)) bh)) (ai (ak aX (ak aX (af 4) (af 4)) (ij (ai (ao (.int 0)) av))) av))))
 (aT (ifS (bq (ak gtD (br dg (ai (af 4) av)) (ao (.int 0))))
 (aT (setM 9 (ak aY (ak bK (af 6) (ao (.int 3))) (br dg (ai (af 4) av))))
 (aT (bE (eE (af 10) (ak aX (slM (af 4) bh (part (af 9))) (slM (af 4) (part (ak aX (af 9) (ao (.int 1)))) bh))))
 (aT (bE (eE (af 10) (ak aX (ak aX (slM (af 4) bh (part (af 9))) (ij (ai (ak m5 (unM kM (ao (.int 1))) (ak aY (ak bK (af 6) (ao (.int 7))) (ao (.int 5)))) av))) (slM (af 4) (part (ak aX (af 9) (ao (.int 1)))) bh))))
 (aT (bE (eE (af 10) (ak aX (ak aX (slM (af 4) bh (part (af 9))) (ij (ai (ak m5 (unM kM (ao (.int 1))) (ak aY (ak bK (af 6) (ao (.int 7))) (ak iX (ao (.int 10)) (ao (.int 25))))) av))) (slM (af 4) (part (ak aX (af 9) (ao (.int 1)))) bh))))
 (bE (eE (af 10) (ij av)))))))
 cm)
 (aT (kb (listI (af 10)) (aL 11)
 nO)
 (dX (ak eqD (il (ai (gE (mG 0 "leaves" 1 aU (af 7) (ai (br de (ai (af 4) av)) av))) (ai (methP 0 "balanced" 1 bD (af 7) (ai (br de (ai (af 4) av)) av)) av))) (af 8)))))))))))))))
noncomputable def sG : FM := runM 12 xu
end Lk11
set_option maxRecDepth 100000
set_option maxHeartbeats 4000000
namespace Lk11
open PySem PySem.Spec PyProof.Rows L2 M
section
variable {P : Program} {w : World} {K : PySem.W.Frag} {mg : Str → Option Value} {base : Heap} {ca : Nat → Addr}
theorem uR : bf ["value"] ["value"] (aD hU) := ⟨rfl, rfl, rfl, by decide +kernel, rfl, by decide +kernel, by decide +kernel⟩
theorem uO {a : Addr} {fd : FuncData} (F : Fun K "is_whole" "is_whole" hU a fd) (hm : mg "is_whole" = some (.ref a)) (hpt : P.given.tree = none) (n_isinstance : mg "isinstance" = none) (n_int : mg "int" = none) (n_bool : mg "bool" = none) : cY P w K mg base ca 35 "is_whole" ["value"] ic a fd := by
  refine ⟨cB F uR rfl fun cdv A outer s H E hr => ?_, hm, F.kp, F.binds fun _ _ _ _ _ _ us hl => match us, hl with | [_], _ => rfl⟩
  have hu := hr.units
  have hdp := cI hr (by decide)
  exact ⟨_, (aJ (cK (ni (bL uy rfl n_isinstance Boot.«isinstance» (aj (pv 0) (aj (qp (v := .ty "int") rfl n_int Boot.«int» rfl) ay))) (sL (tS (bL uy rfl n_isinstance Boot.«isinstance» (aj (pv 0) (aj (qp (v := .ty "bool") rfl n_bool Boot.«bool» rfl) ay)))))))),
   (cL (lF (yq ty_int (ag 0)) (qr (yq ty_bool (ag 0)))))⟩
theorem nB : bf ["numbers", "others"] ["numbers", "others"] (aD di) := ⟨rfl, rfl, rfl, by decide +kernel, rfl, by decide +kernel, by decide +kernel⟩
theorem m4 {a : Addr} {fd : FuncData} (F : Fun K "sum_of_products" "sum_of_products" di a fd) (hm : mg "sum_of_products" = some (.ref a)) (hpt : P.given.tree = none) (n_zip : mg "zip" = none) (n_sum : mg "sum" = none) : cY P w K mg base ca 35 "sum_of_products" ["numbers", "others"] dj a fd := by
  refine ⟨cB F nB rfl fun cdv A outer s H E hr => ?_, hm, F.kp, F.binds fun _ _ _ _ _ _ us hl => match us, hl with | [_, _], _ => rfl⟩
  have hu := hr.units
  have hdp := cI hr (by decide)
  exact ⟨_, (aJ (cK (bL (rA rfl) rfl n_sum Boot.«sum» (aj (eH (own := ["number", "other"]) (cap := []) (caps := []) rfl ⟨rfl, by decide +kernel, by decide +kernel, by decide +kernel, trivial, by decide +kernel⟩ (Df rfl n_zip (aj (pv 0) (aj (pv 1) ay))) (fun _ _ _ => (km rfl (cE (bB (i := 0) (show ((["number", "other"] : List Str) ++ ([] : List Str)).Nodup from by decide +kernel) rfl (Or.inl rfl)) (cE (bB (i := 1) (show ((["number", "other"] : List Str) ++ ([] : List Str)).Nodup from by decide +kernel) rfl (Or.inl rfl)) i4)))) (fun _ _ _ => fR) (fun _ _ _ => (aH kx (pv 0) (pv 1)))) ay)))),
   (cL (bb xJ (aq (fJ (m := 2) (caps := []) (Cv (aq (ag 0) (aq (ag 1) aC))) (ja (cG (ba 0) (cG (ba 1) i8))) ft (ar jt (ag 0) (ag 1))) aC)))⟩
theorem xh : bf ["text"] ["text"] (aD iG) := ⟨rfl, rfl, rfl, by decide +kernel, rfl, by decide +kernel, by decide +kernel⟩
theorem xr {a : Addr} {fd : FuncData} (F : Fun K "is_name" "is_name" iG a fd) (hm : mg "is_name" = some (.ref a)) (hpt : P.given.tree = none) (n_len : mg "len" = none) (n_all : mg "all" = none) (c_MOST_LETTERS : ∃ t, mg "MOST_LETTERS" = some (.int 8 t)) : cY P w K mg base ca 35 "is_name" ["text"] iJ a fd := by
  refine ⟨cB F xh rfl fun cdv A outer s H E hr => ?_, hm, F.kp, F.binds fun _ _ _ _ _ _ us hl => match us, hl with | [_], _ => rfl⟩
  have hu := hr.units
  have hdp := cI hr (by decide)
  exact ⟨_, (aF (dN (PW.pt (pw_or (bZ nR (bL eC rfl n_len Boot.«len» (aj (pv 0) ay)) aB (cy _)) (pw_or1 (bZ pS (bL eC rfl n_len Boot.«len» (aj (pv 0) ay)) (dF (v := .int 8) rfl c_MOST_LETTERS.choose_spec ⟨_, rfl⟩) (cy _)))))
 (aJ (cK pF))
 cu)
 (aJ (cK (bL (rm rfl) rfl n_all Boot.«all» (aj (eH (own := ["sign"]) (cap := []) (caps := []) rfl ⟨rfl, by decide +kernel, by decide +kernel, by decide +kernel, trivial, by decide +kernel⟩ (DV (pv 0)) (fun _ _ _ => (bB (i := 0) (show ((["sign"] : List Str) ++ ([] : List Str)).Nodup from by decide +kernel) rfl (Or.inl rfl))) (fun _ _ _ => fR) (fun _ _ _ => (zD xM xM lA (pv 0) lA))) ay))))),
   (aM (dP (p8 (cA (ar nY (bb gZ (aq (ag 0) aC)) (aA 1))) (cA (ar pQ (bb gZ (aq (ag 0) aC)) (aA 8))))
 (cL (pR false))
 cv)
 (cL (bb xE (aq (fJ (m := 1) (caps := []) (A0 (ag 0)) (ba 0) ft (zu yu yu (kY ("a" : Str)) (ag 0) (kY ("z" : Str)))) aC))))⟩
theorem r0 : bf ["goods", "works"] ["goods", "works"] (aD fI) := ⟨rfl, rfl, rfl, by decide +kernel, rfl, by decide +kernel, by decide +kernel⟩
theorem rN {a : Addr} {fd : FuncData} (F : Fun K "check_many" "check_many" fI a fd) (hm : mg "check_many" = some (.ref a)) (hpt : P.given.tree = none) (n_len : mg "len" = none) (c_MOST_GOODS : ∃ t, mg "MOST_GOODS" = some (.int 10 t)) (c_MOST_WORKS : ∃ t, mg "MOST_WORKS" = some (.int 10 t)) : cY P w K mg base ca 35 "check_many" ["goods", "works"] fu a fd := by
  refine ⟨cB F r0 rfl fun cdv A outer s H E hr => ?_, hm, F.kp, F.binds fun _ _ _ _ _ _ us hl => match us, hl with | [_, _], _ => rfl⟩
  have hu := hr.units
  have hdp := cI hr (by decide)
  exact ⟨_, (aF (dN (bZ pS (bL eC rfl n_len Boot.«len» (aj (pv 0) ay)) (dF (v := .int 10) rfl c_MOST_GOODS.choose_spec ⟨_, rfl⟩) (cy _))
 (aJ iE)
 cu)
 (aJ (dN (bZ pS (bL eC rfl n_len Boot.«len» (aj (pv 1) ay)) (dF (v := .int 10) rfl c_MOST_WORKS.choose_spec ⟨_, rfl⟩) (cy _))
 (aJ iE)
 cu))),
   (aM (dP (cA (ar pQ (bb gZ (aq (ag 0) aC)) (aA 10)))
 iC
 cv)
 (dP (cA (ar pQ (bb gZ (aq (ag 1) aC)) (aA 10)))
 iC
 cv))⟩
theorem rQ : bf ["text", "earlier"] ["text", "earlier"] (aD fA) := ⟨rfl, rfl, rfl, by decide +kernel, rfl, by decide +kernel, by decide +kernel⟩
theorem sf {a : Addr} {fd : FuncData} (F : Fun K "check_name" "check_name" fA a fd) (hm : mg "check_name" = some (.ref a)) (hpt : P.given.tree = none) (yH : dw P w K mg base ca 35 "is_name" ["text"] iJ) : cY P w K mg base ca 36 "check_name" ["text", "earlier"] cX a fd := by
  obtain ⟨ET, Eo, xW, jv, yy, yG⟩ := yH
  refine ⟨cB F rQ rfl fun cdv A outer s H E hr => ?_, hm, F.kp, F.binds fun _ _ _ _ _ _ us hl => match us, hl with | [_, _], _ => rfl⟩
  have hu := hr.units
  have hdp := cI hr (by decide)
  exact ⟨_, (aF (dN (pq (lB (bN xW (hr.mono (by decide)) rfl jv yy yG .nil bV (aj (pv 0) ay))))
 (aJ iE)
 cu)
 (aJ (dN (bZ ri (pv 0) (pv 1) (by with_unfolding_all rfl))
 (aJ iE)
 cu))),
   (aM (dP (px (nQ (bJ (n := 1) (f := iJ) (aq (ag 0) aC))))
 iC
 cv)
 (dP (cA (ar As (ag 0) (ag 1)))
 iC
 cv))⟩
theorem i9 : bf ["goods", "at", "good"] ["goods"] (aD eJ) := ⟨rfl, rfl, rfl, by decide +kernel, rfl, by decide +kernel, by decide +kernel⟩
theorem qe {a : Addr} {fd : FuncData} (F : Fun K "check_goods" "check_goods" eJ a fd) (hm : mg "check_goods" = some (.ref a)) (hpt : P.given.tree = none) (n_enumerate : mg "enumerate" = none) (kg : dw P w K mg base ca 36 "check_name" ["text", "earlier"] cX) : cY P w K mg base ca 37 "check_goods" ["goods"] eU a fd := by
  obtain ⟨t4, so, ki, eB, j9, j4⟩ := kg
  refine ⟨cB F i9 rfl fun cdv A outer s H E hr => ?_, hm, F.kp, F.binds fun _ _ _ _ _ _ us hl => match us, hl with | [_], _ => rfl⟩
  have hu := hr.units
  have hdp := cI hr (by decide)
  exact ⟨_, (aJ (ju PassesOwn.never rfl (qt rfl n_enumerate (aj (pv 0) ay)) (km rfl (cE (bB (i := 1) i9.nd rfl (Or.inl rfl)) (cE (bB (i := 2) i9.nd rfl (Or.inl rfl)) i4)))
 (aJ (bQ (bN ki (hr.mono (by decide)) rfl eB j9 j4 .nil bV (aj (pv 2) (aj (da fG (pv 0) ei (dE (pv 1))) ay))))))),
   (jy (j6 (aq (ag 0) aC)) (ja (cG (ba 1) (cG (ba 2) i8)))
 (bR (bJ (n := 2) (f := cX) (aq (ag 2) (aq (iU (ag 0) cU (dz (ag 1))) aC)))))⟩
theorem rS : bf ["good", "goods", "earlier"] ["good", "goods", "earlier"] (aD fL) := ⟨rfl, rfl, rfl, by decide +kernel, rfl, by decide +kernel, by decide +kernel⟩
theorem r8 {a : Addr} {fd : FuncData} (F : Fun K "check_good" "check_good" fL a fd) (hm : mg "check_good" = some (.ref a)) (hpt : P.given.tree = none) : cY P w K mg base ca 35 "check_good" ["good", "goods", "earlier"] fN a fd := by
  refine ⟨cB F rS rfl fun cdv A outer s H E hr => ?_, hm, F.kp, F.binds fun _ _ _ _ _ _ us hl => match us, hl with | [_, _, _], _ => rfl⟩
  have hu := hr.units
  have hdp := cI hr (by decide)
  exact ⟨_, (aF (dN (bZ uA (pv 0) (pv 1) (by with_unfolding_all rfl))
 (aJ iE)
 cu)
 (aJ (dN (bZ ri (pv 0) (pv 2) (by with_unfolding_all rfl))
 (aJ iE)
 cu))),
   (aM (dP (cA (ar z3 (ag 0) (ag 1)))
 iC
 cv)
 (dP (cA (ar As (ag 0) (ag 2)))
 iC
 cv))⟩
theorem pM : bf ["amount"] ["amount"] (aD ej) := ⟨rfl, rfl, rfl, by decide +kernel, rfl, by decide +kernel, by decide +kernel⟩
theorem pY {a : Addr} {fd : FuncData} (F : Fun K "check_amount" "check_amount" ej a fd) (hm : mg "check_amount" = some (.ref a)) (hpt : P.given.tree = none) (xo : dw P w K mg base ca 35 "is_whole" ["value"] ic) : cY P w K mg base ca 36 "check_amount" ["amount"] en a fd := by
  obtain ⟨Ee, D7, wX, jG, xi, wx⟩ := xo
  refine ⟨cB F pM rfl fun cdv A outer s H E hr => ?_, hm, F.kp, F.binds fun _ _ _ _ _ _ us hl => match us, hl with | [_], _ => rfl⟩
  have hu := hr.units
  have hdp := cI hr (by decide)
  exact ⟨_, (aJ (dN (PW.pt (pw_or (pq (lB (bN wX (hr.mono (by decide)) rfl jG xi wx .nil bV (aj (pv 0) ay)))) (pw_or1 (bZ nR (pv 0) aB (cy _)))))
 (aJ iE)
 cu)),
   (dP (p8 (px (nQ (bJ (n := 1) (f := ic) (aq (ag 0) aC)))) (cA (ar nY (ag 0) (aA 1))))
 iC
 cv)⟩
theorem h8 : bf ["parts", "goods", "earlier", "good", "amount"] ["parts", "goods"] (aD eT) := ⟨rfl, rfl, rfl, by decide +kernel, rfl, by decide +kernel, by decide +kernel⟩
theorem qo {a : Addr} {fd : FuncData} (F : Fun K "check_parts" "check_parts" eT a fd) (hm : mg "check_parts" = some (.ref a)) (hpt : P.given.tree = none) (um : dw P w K mg base ca 35 "check_good" ["good", "goods", "earlier"] fN) (qD : dw P w K mg base ca 36 "check_amount" ["amount"] en) : cY P w K mg base ca 37 "check_parts" ["parts", "goods"] cN a fd := by
  obtain ⟨Dd, Ck, tO, gP, ux, sU⟩ := um
  obtain ⟨BA, Aw, qO, fF, qN, qq⟩ := qD
  refine ⟨cB F h8 rfl fun cdv A outer s H E hr => ?_, hm, F.kp, F.binds fun _ _ _ _ _ _ us hl => match us, hl with | [_, _], _ => rfl⟩
  have hu := hr.units
  have hdp := cI hr (by decide)
  exact ⟨_, (aF (bC (i := 2) h8.nd rfl (Or.inl rfl) (fi ay))
 (aJ (ju PassesOwn.never rfl (eM (pv 0)) (km rfl (cE (bB (i := 3) h8.nd rfl (Or.inl rfl)) (cE (bB (i := 4) h8.nd rfl (Or.inl rfl)) i4)))
 (aF (bQ (bN tO (hr.mono (by decide)) rfl gP ux sU .nil bV (aj (pv 3) (aj (pv 1) (aj (pv 2) ay)))))
 (aF (bQ (bN qO (hr.mono (by decide)) rfl fF qN qq .nil bV (aj (pv 4) ay)))
 (aJ (bQ (iZ PySem.F.plainAttrs_list PySem.F.slot_list_append PySem.F.type_list_append du (pv 2) (aj (pv 3) ay))))))))),
   (aM (bx (iH aC))
 (jy (eI (ag 0)) (ja (cG (ba 3) (cG (ba 4) i8)))
 (aM (bR (ue (n := 3) (f := fN) (aq (ag 3) (aq (ag 1) (aq (ag 2) aC)))))
 (aM (bR (bJ (n := 1) (f := en) (aq (ag 4) aC)))
 (bR (gU (ag 2) (ag 3)))))))⟩
theorem fK : bf ["works", "goods", "earlier", "name", "uses", "makes"] ["works", "goods"] (aD eG) := ⟨rfl, rfl, rfl, by decide +kernel, rfl, by decide +kernel, by decide +kernel⟩
theorem qL {a : Addr} {fd : FuncData} (F : Fun K "check_works" "check_works" eG a fd) (hm : mg "check_works" = some (.ref a)) (hpt : P.given.tree = none) (kg : dw P w K mg base ca 36 "check_name" ["text", "earlier"] cX) (rY : dw P w K mg base ca 37 "check_parts" ["parts", "goods"] cN) : cY P w K mg base ca 38 "check_works" ["works", "goods"] eK a fd := by
  obtain ⟨t4, so, ki, eB, j9, j4⟩ := kg
  obtain ⟨Co, BZ, mQ, eV, mW, mS⟩ := rY
  refine ⟨cB F fK rfl fun cdv A outer s H E hr => ?_, hm, F.kp, F.binds fun _ _ _ _ _ _ us hl => match us, hl with | [_, _], _ => rfl⟩
  have hu := hr.units
  have hdp := cI hr (by decide)
  exact ⟨_, (aF (bC (i := 2) fK.nd rfl (Or.inl rfl) (fi ay))
 (aJ (ju PassesOwn.never rfl (eM (pv 0)) (km rfl (cE (bB (i := 3) fK.nd rfl (Or.inl rfl)) (cE (bB (i := 4) fK.nd rfl (Or.inl rfl)) (cE (bB (i := 5) fK.nd rfl (Or.inl rfl)) i4))))
 (aF (bQ (bN ki (hr.mono (by decide)) rfl eB j9 j4 .nil bV (aj (pv 3) (aj (pv 2) ay))))
 (aF (bQ (bN mQ (hr.mono (by decide)) rfl eV mW mS .nil bV (aj (pv 4) (aj (pv 1) ay))))
 (aF (bQ (bN mQ (hr.mono (by decide)) rfl eV mW mS .nil bV (aj (pv 5) (aj (pv 1) ay))))
 (aJ (bQ (iZ PySem.F.plainAttrs_list PySem.F.slot_list_append PySem.F.type_list_append du (pv 2) (aj (pv 3) ay)))))))))),
   (aM (bx (iH aC))
 (jy (eI (ag 0)) (ja (cG (ba 3) (cG (ba 4) (cG (ba 5) i8))))
 (aM (bR (ue (n := 2) (f := cX) (aq (ag 3) (aq (ag 2) aC))))
 (aM (bR (bJ (n := 2) (f := cN) (aq (ag 4) (aq (ag 1) aC))))
 (aM (bR (bJ (n := 2) (f := cN) (aq (ag 5) (aq (ag 1) aC))))
 (bR (gU (ag 2) (ag 3))))))))⟩
theorem tm : bf ["work"] ["work"] (aD gz) := ⟨rfl, rfl, rfl, by decide +kernel, rfl, by decide +kernel, by decide +kernel⟩
theorem tH {a : Addr} {fd : FuncData} (F : Fun K "copy_work" "copy_work" gz a fd) (hm : mg "copy_work" = some (.ref a)) (hpt : P.given.tree = none) (n_list : mg "list" = none) : cY P w K mg base ca 35 "copy_work" ["work"] gs a fd := by
  refine ⟨cB F tm rfl fun cdv A outer s H E hr => ?_, hm, F.kp, F.binds fun _ _ _ _ _ _ us hl => match us, hl with | [_], _ => rfl⟩
  have hu := hr.units
  have hdp := cI hr (by decide)
  exact ⟨_, (aJ (cK (iV (aj (ig fP (pv 0) aB (fun _ _ => rfl)) (aj (dW cz rfl n_list Boot.«list» (aj (ig fP (pv 0) aB (fun _ _ => rfl)) ay)) (aj (dW cz rfl n_list Boot.«list» (aj (ig fP (pv 0) aB (fun _ _ => rfl)) ay)) ay)))))),
   (cL (kn (aq (ar g8 (ag 0) (aA 0)) (aq (bb et (aq (ar g8 (ag 0) (aA 1)) aC)) (aq (bb et (aq (ar g8 (ag 0) (aA 2)) aC)) aC)))))⟩
theorem ti : bf ["good", "parts"] ["good", "parts"] (aD gx) := ⟨rfl, rfl, rfl, by decide +kernel, rfl, by decide +kernel, by decide +kernel⟩
theorem sV {a : Addr} {fd : FuncData} (F : Fun K "amount_of" "amount_of" gx a fd) (hm : mg "amount_of" = some (.ref a)) (hpt : P.given.tree = none) (n_sum : mg "sum" = none) : cY P w K mg base ca 35 "amount_of" ["good", "parts"] cM a fd := by
  refine ⟨cB F ti rfl fun cdv A outer s H E hr => ?_, hm, F.kp, F.binds fun _ _ _ _ _ _ us hl => match us, hl with | [_, _], _ => rfl⟩
  have hu := hr.units
  have hdp := cI hr (by decide)
  exact ⟨_, (aJ (cK (bL (rA rfl) rfl n_sum Boot.«sum» (aj (eH (own := ["part"]) (cap := ["good"]) (caps := [0]) rfl ⟨rfl, by decide +kernel, by decide +kernel, by decide +kernel, ⟨rfl, Or.inl rfl, rfl, trivial⟩, by decide +kernel⟩ (eM (pv 1)) (fun _ _ _ => (bB (i := 0) (show ((["part"] : List Str) ++ (["good"] : List Str)).Nodup from by decide +kernel) rfl (Or.inl rfl))) (fun _ _ _ => (By (bZ (kK hu) (ig fP (pv 0) aB (fun _ _ => rfl)) (pv 1) (cy _)))) (fun _ _ _ => (ig fP (pv 0) aB (fun _ _ => rfl)))) ay)))),
   (cL (bb xJ (aq (fJ (m := 1) (caps := [0]) (eI (ag 1)) (ba 0) (cA (ar jo (ar g8 (ag 0) (aA 0)) (ag 1))) (ar g8 (ag 0) (aA 1))) aC)))⟩
theorem tf : bf ["work", "goods"] ["work", "goods"] (aD gC) := ⟨rfl, rfl, rfl, by decide +kernel, rfl, by decide +kernel, by decide +kernel⟩
theorem tj {a : Addr} {fd : FuncData} (F : Fun K "change_of" "change_of" gC a fd) (hm : mg "change_of" = some (.ref a)) (hpt : P.given.tree = none) (uK : dw P w K mg base ca 35 "amount_of" ["good", "parts"] cM) : cY P w K mg base ca 36 "change_of" ["work", "goods"] gy a fd := by
  obtain ⟨Eb, C0, oy, gu, oz, oG⟩ := uK
  refine ⟨cB F tf rfl fun cdv A outer s H E hr => ?_, hm, F.kp, F.binds fun _ _ _ _ _ _ us hl => match us, hl with | [_, _], _ => rfl⟩
  have hu := hr.units
  have hdp := cI hr (by decide)
  exact ⟨_, (aJ (cK (eH (own := ["good"]) (cap := ["work"]) (caps := [0]) rfl ⟨rfl, by decide +kernel, by decide +kernel, by decide +kernel, ⟨rfl, Or.inl rfl, rfl, trivial⟩, by decide +kernel⟩ (eM (pv 1)) (fun _ _ _ => (bB (i := 0) (show ((["good"] : List Str) ++ (["work"] : List Str)).Nodup from by decide +kernel) rfl (Or.inl rfl))) (fun _ _ _ => fR) (fun _ _ _ => (aH t9 (bN oy (hr.mono (by decide)) rfl gu oz oG .nil bV (aj (pv 0) (aj (ig fP (pv 1) aB (fun _ _ => rfl)) ay))) (bN oy (hr.mono (by decide)) rfl gu oz oG .nil bV (aj (pv 0) (aj (ig fP (pv 1) aB (fun _ _ => rfl)) ay)))))))),
   (cL (fJ (m := 1) (caps := [0]) (eI (ag 1)) (ba 0) ft (ar ua (bJ (n := 2) (f := cM) (aq (ag 0) (aq (ar g8 (ag 1) (aA 2)) aC))) (bJ (n := 2) (f := cM) (aq (ag 0) (aq (ar g8 (ag 1) (aA 1)) aC))))))⟩
theorem sY : bf ["self", "goods", "works"] ["self", "goods", "works"] (aD gw) := ⟨rfl, rfl, rfl, by decide +kernel, rfl, by decide +kernel, by decide +kernel⟩
theorem tP {a : Addr} {fd : FuncData} (F : Fun K "__init__" "Yard.__init__" gw a fd) (hk : Mk K (ca 0) a) (hm : mg "Yard" = some (.ref (ca 0))) (hpt : P.given.tree = none) (n_list : mg "list" = none) (cl_Yard : Cls K (ca 0)) (na_Yard_held_goods : dU K (ca 0) "held_goods") (na_Yard_held_works : dU K (ca 0) "held_works") (na_Yard_held_changes : dU K (ca 0) "held_changes") (sI : dw P w K mg base ca 35 "check_many" ["goods", "works"] fu) (sm : dw P w K mg base ca 37 "check_goods" ["goods"] eU) (rZ : dw P w K mg base ca 38 "check_works" ["works", "goods"] eK) (vn : dw P w K mg base ca 35 "copy_work" ["work"] gs) (u0 : dw P w K mg base ca 36 "change_of" ["work", "goods"] gy) : xY P w K mg base ca 39 (ca 0) "Yard" ["self", "goods", "works"] gA := by
  obtain ⟨DR, Cj, uG, gQ, tJ, ub⟩ := sI
  obtain ⟨Cm, BI, rV, gn, r9, rX⟩ := sm
  obtain ⟨Ci, Cd, si, gi, rT, rP⟩ := rZ
  obtain ⟨Ea, CP, u1, iu, u6, va⟩ := vn
  obtain ⟨D8, CN, vf, ix, vj, u3⟩ := u0
  refine ⟨a, fd, cB F sY rfl fun cdv A outer s H E hr => ?_, hk, hm, F.binds fun _ _ _ _ _ _ us hl => match us, hl with | [_, _, _], _ => rfl⟩
  have hu := hr.units
  have hdp := cI hr (by decide)
  exact ⟨_, (aF (bQ (bN uG (hr.mono (by decide)) rfl gQ tJ ub .nil bV (aj (pv 1) (aj (pv 2) ay))))
 (aF (bQ (bN rV (hr.mono (by decide)) rfl gn r9 rX .nil bV (aj (pv 1) ay)))
 (aF (bQ (bN si (hr.mono (by decide)) rfl gi rT rP .nil bV (aj (pv 2) (aj (pv 1) ay))))
 (aF (uk (pv 0) (dW cz rfl n_list Boot.«list» (aj (pv 1) ay)) rfl)
 (aF (uk (pv 0) (eH (own := ["work"]) (cap := []) (caps := []) rfl ⟨rfl, by decide +kernel, by decide +kernel, by decide +kernel, trivial, by decide +kernel⟩ (eM (pv 2)) (fun _ _ _ => (bB (i := 0) (show ((["work"] : List Str) ++ ([] : List Str)).Nodup from by decide +kernel) rfl (Or.inl rfl))) (fun _ _ _ => fR) (fun _ _ _ => (bN u1 (hr.mono (by decide)) rfl iu u6 va .nil bV (aj (pv 0) ay)))) rfl)
 (aJ (uk (pv 0) (eH (own := ["work"]) (cap := ["goods"]) (caps := [1]) rfl ⟨rfl, by decide +kernel, by decide +kernel, by decide +kernel, ⟨rfl, Or.inl rfl, rfl, trivial⟩, by decide +kernel⟩ (eM (pv 2)) (fun _ _ _ => (bB (i := 0) (show ((["work"] : List Str) ++ (["goods"] : List Str)).Nodup from by decide +kernel) rfl (Or.inl rfl))) (fun _ _ _ => fR) (fun _ _ _ => (bN vf (hr.mono (by decide)) rfl ix vj u3 .nil bV (aj (pv 0) (aj (pv 1) ay))))) rfl))))))),
   (aM (bR (bJ (n := 2) (f := fu) (aq (ag 1) (aq (ag 2) aC))))
 (aM (bR (bJ (n := 1) (f := eU) (aq (ag 1) aC)))
 (aM (bR (bJ (n := 2) (f := eK) (aq (ag 2) (aq (ag 1) aC))))
 (aM (qU (c := 0) (f := "held_goods") cl_Yard na_Yard_held_goods (ag 0) (bb et (aq (ag 1) aC)))
 (aM (qU (c := 0) (f := "held_works") cl_Yard na_Yard_held_works (ag 0) (fJ (m := 1) (caps := []) (eI (ag 2)) (ba 0) ft (bJ (n := 1) (f := gs) (aq (ag 0) aC))))
 (qU (c := 0) (f := "held_changes") cl_Yard na_Yard_held_changes (ag 0) (fJ (m := 1) (caps := [1]) (eI (ag 2)) (ba 0) ft (bJ (n := 2) (f := gy) (aq (ag 0) (aq (ag 1) aC))))))))))⟩
theorem u7 : bf ["self", "at"] ["self", "at"] (aD g0) := ⟨rfl, rfl, rfl, by decide +kernel, rfl, by decide +kernel, by decide +kernel⟩
theorem uX {a : Addr} {fd : FuncData} (F : Fun K "row" "Yard.row" g0 a fd) (hm : Meth K (ca 0) "row" a) (hpt : P.given.tree = none) (cl_Yard : Cls K (ca 0)) (na_Yard_held_changes : dU K (ca 0) "held_changes") : MethAt P w K mg base ca 35 (ca 0) "row" ["self", "at"] hJ := by
  refine ⟨a, fd, cB F u7 rfl fun cdv A outer s H E hr => ?_, hm, F.binds fun _ _ _ _ _ _ us hl => match us, hl with | [_, _], _ => rfl⟩
  have hu := hr.units
  have hdp := cI hr (by decide)
  exact ⟨_, (aJ (cK (eH (own := ["change"]) (cap := ["at"]) (caps := [1]) rfl ⟨rfl, by decide +kernel, by decide +kernel, by decide +kernel, ⟨rfl, Or.inl rfl, rfl, trivial⟩, by decide +kernel⟩ (eM (sO (pv 0) rfl)) (fun _ _ _ => (bB (i := 0) (show ((["change"] : List Str) ++ (["at"] : List Str)).Nodup from by decide +kernel) rfl (Or.inl rfl))) (fun _ _ _ => fR) (fun _ _ _ => (ig fP (pv 0) (pv 1) (fun _ _ => rfl)))))),
   (cL (fJ (m := 1) (caps := [1]) (eI (tZ (c := 0) (f := "held_changes") cl_Yard na_Yard_held_changes (ag 0))) (ba 0) ft (ar g8 (ag 0) (ag 1))))⟩
theorem sW : bf ["self"] ["self"] (aD gv) := ⟨rfl, rfl, rfl, by decide +kernel, rfl, by decide +kernel, by decide +kernel⟩
theorem tT {a : Addr} {fd : FuncData} (F : Fun K "rows" "Yard.rows" gv a fd) (hm : Meth K (ca 0) "rows" a) (hpt : P.given.tree = none) (n_len : mg "len" = none) (n_range : mg "range" = none) (cl_Yard : Cls K (ca 0)) (na_Yard_held_goods : dU K (ca 0) "held_goods") (D_Yard_row : MethAt P w K mg base ca 35 (ca 0) "row" ["self", "at"] hJ) : MethAt P w K mg base ca 36 (ca 0) "rows" ["self"] fo := by
  obtain ⟨a_Yard_row, fd_Yard_row, G_Yard_row, iO, b_Yard_row⟩ := D_Yard_row
  refine ⟨a, fd, cB F sW rfl fun cdv A outer s H E hr => ?_, hm, F.binds fun _ _ _ _ _ _ us hl => match us, hl with | [_], _ => rfl⟩
  have hu := hr.units
  have hdp := cI hr (by decide)
  exact ⟨_, (aJ (cK (eH (own := ["at"]) (cap := ["self"]) (caps := [0]) rfl ⟨rfl, by decide +kernel, by decide +kernel, by decide +kernel, ⟨rfl, Or.inl rfl, rfl, trivial⟩, by decide +kernel⟩ (nC rfl n_range (aj (bL eC rfl n_len Boot.«len» (aj (sO (pv 0) rfl) ay)) ay)) (fun _ _ _ => (bB (i := 0) (show ((["at"] : List Str) ++ (["self"] : List Str)).Nodup from by decide +kernel) rfl (Or.inl rfl))) (fun _ _ _ => fR) (fun _ _ _ => (kW (pv 1) cl_Yard iO G_Yard_row (hr.mono (by decide)) b_Yard_row .nil bV (aj (pv 0) ay)))))),
   (cL (fJ (m := 1) (caps := [0]) (qm (aq (bb gZ (aq (tZ (c := 0) (f := "held_goods") cl_Yard na_Yard_held_goods (ag 0)) aC)) aC)) (ba 0) ft (lX (c := 0) (m := "row") (n := 1) (f := hJ) (ag 1) (aq (ag 0) aC))))⟩
theorem oi : bf ["self", "way"] ["self", "way"] (aD dC) := ⟨rfl, rfl, rfl, by decide +kernel, rfl, by decide +kernel, by decide +kernel⟩
theorem om {a : Addr} {fd : FuncData} (F : Fun K "check_way" "Yard.check_way" dC a fd) (hm : Meth K (ca 0) "check_way" a) (hpt : P.given.tree = none) (n_len : mg "len" = none) (n_any : mg "any" = none) (cl_Yard : Cls K (ca 0)) (na_Yard_held_works : dU K (ca 0) "held_works") (xq_NoWay : PySem.W.excIn K (ca 1) bmV "ValueError.__new__" = true) (xm_NoWay : mg "NoWay" = some (.ref (ca 1))) : MethAt P w K mg base ca 35 (ca 0) "check_way" ["self", "way"] cQ := by
  refine ⟨a, fd, qh F oi rfl fun cdv A outer s H E hr => ?_, hm, F.binds fun _ _ _ _ _ _ us hl => match us, hl with | [_, _], _ => rfl⟩
  have hu := hr.units
  have hdp := cI hr (by decide)
  exact ⟨_, (aF (dN (bZ (Fl hu) (bL eC rfl n_len Boot.«len» (aj (pv 1) ay)) (bL eC rfl n_len Boot.«len» (aj (sO (pv 0) rfl) ay)) (cy _))
 (aJ (sQ xP xq_NoWay PySem.F.excBase_ValueError rfl rfl xm_NoWay (aj lA ay)))
 cu)
 (aJ (dN (lB (bL (yd rfl) rfl n_any Boot.«any» (aj (eH (own := ["often"]) (cap := []) (caps := []) rfl ⟨rfl, by decide +kernel, by decide +kernel, by decide +kernel, trivial, by decide +kernel⟩ (eM (pv 1)) (fun _ _ _ => (bB (i := 0) (show ((["often"] : List Str) ++ ([] : List Str)).Nodup from by decide +kernel) rfl (Or.inl rfl))) (fun _ _ _ => fR) (fun _ _ _ => (nU nR (pv 0) aB (cy _)))) ay)))
 (aJ (sQ xP xq_NoWay PySem.F.excBase_ValueError rfl rfl xm_NoWay (aj lA ay)))
 cu))),
   (aM (dP (cA (ar ED (bb gZ (aq (ag 1) aC)) (bb gZ (aq (tZ (c := 0) (f := "held_works") cl_Yard na_Yard_held_works (ag 0)) aC))))
 (uz (c := 1) sx (aq (kY ("a way has a number for each work" : Str)) aC))
 cv)
 (dP (nQ (bb CB (aq (fJ (m := 1) (caps := []) (eI (ag 1)) (ba 0) ft (ar nY (ag 0) (aA 0))) aC)))
 (uz (c := 1) sx (aq (kY ("no work goes less often than never" : Str)) aC))
 cv))⟩
theorem qj : bf ["self", "way"] ["self", "way"] (aD eS) := ⟨rfl, rfl, rfl, by decide +kernel, rfl, by decide +kernel, by decide +kernel⟩
theorem qI {a : Addr} {fd : FuncData} (F : Fun K "leaves" "Yard.leaves" eS a fd) (hm : Meth K (ca 0) "leaves" a) (hpt : P.given.tree = none) (cl_Yard : Cls K (ca 0)) (D_Yard_check_way : MethAt P w K mg base ca 35 (ca 0) "check_way" ["self", "way"] cQ) (D_Yard_rows : MethAt P w K mg base ca 36 (ca 0) "rows" ["self"] fo) (oj : dw P w K mg base ca 35 "sum_of_products" ["numbers", "others"] dj) : MethAt P w K mg base ca 37 (ca 0) "leaves" ["self", "way"] aU := by
  obtain ⟨a_Yard_check_way, fd_Yard_check_way, G_Yard_check_way, cR, b_Yard_check_way⟩ := D_Yard_check_way
  obtain ⟨a_Yard_rows, fd_Yard_rows, G_Yard_rows, iv, b_Yard_rows⟩ := D_Yard_rows
  obtain ⟨yO, xB, oh, d8, og, oa⟩ := oj
  refine ⟨a, fd, qh F qj rfl fun cdv A outer s H E hr => ?_, hm, F.binds fun _ _ _ _ _ _ us hl => match us, hl with | [_, _], _ => rfl⟩
  have hu := hr.units
  have hdp := cI hr (by decide)
  exact ⟨_, (aF (bQ (lG (pv 0) cl_Yard cR G_Yard_check_way (hr.mono (by decide)) b_Yard_check_way .nil AU.s (aj (pv 1) ay)))
 (aJ (cK (eH (own := ["row"]) (cap := ["way"]) (caps := [1]) rfl ⟨rfl, by decide +kernel, by decide +kernel, by decide +kernel, ⟨rfl, Or.inl rfl, rfl, trivial⟩, by decide +kernel⟩ (eM (Aq (pv 0) cl_Yard iv G_Yard_rows (hr.mono (by decide)) b_Yard_rows .nil bV)) (fun _ _ _ => (bB (i := 0) (show ((["row"] : List Str) ++ (["way"] : List Str)).Nodup from by decide +kernel) rfl (Or.inl rfl))) (fun _ _ _ => fR) (fun _ _ _ => (bN oh (hr.mono (by decide)) rfl d8 og oa .nil bV (aj (pv 0) (aj (pv 1) ay)))))))),
   (aM (bR (lR (c := 0) (m := "check_way") (n := 1) (f := cQ) sx (ag 0) (aq (ag 1) aC)))
 (cL (zk (m := 1) (caps := [1]) (eI (lX (c := 0) (m := "rows") (n := 0) (f := fo) (ag 0) aC)) (ba 0) ft (bJ (n := 2) (f := dj) (aq (ag 0) (aq (ag 1) aC))))))⟩
theorem o8 : bf ["self", "way"] ["self", "way"] (aD dY) := ⟨rfl, rfl, rfl, by decide +kernel, rfl, by decide +kernel, by decide +kernel⟩
theorem oI {a : Addr} {fd : FuncData} (F : Fun K "balanced" "Yard.balanced" dY a fd) (hm : Meth K (ca 0) "balanced" a) (hpt : P.given.tree = none) (n_all : mg "all" = none) (cl_Yard : Cls K (ca 0)) (D_Yard_leaves : MethAt P w K mg base ca 37 (ca 0) "leaves" ["self", "way"] aU) : MethAt P w K mg base ca 38 (ca 0) "balanced" ["self", "way"] bD := by
  obtain ⟨a_Yard_leaves, fd_Yard_leaves, G_Yard_leaves, bW, b_Yard_leaves⟩ := D_Yard_leaves
  refine ⟨a, fd, qh F o8 rfl fun cdv A outer s H E hr => ?_, hm, F.binds fun _ _ _ _ _ _ us hl => match us, hl with | [_, _], _ => rfl⟩
  have hu := hr.units
  have hdp := cI hr (by decide)
  exact ⟨_, (aJ (cK (bL (rm rfl) rfl n_all Boot.«all» (aj (eH (own := ["left"]) (cap := []) (caps := []) rfl ⟨rfl, by decide +kernel, by decide +kernel, by decide +kernel, trivial, by decide +kernel⟩ (eM (lG (pv 0) cl_Yard bW G_Yard_leaves (hr.mono (by decide)) b_Yard_leaves .nil AU.s (aj (pv 1) ay))) (fun _ _ _ => (bB (i := 0) (show ((["left"] : List Str) ++ ([] : List Str)).Nodup from by decide +kernel) rfl (Or.inl rfl))) (fun _ _ _ => fR) (fun _ _ _ => (nU (kK hu) (pv 0) aB (cy _)))) ay)))),
   (cL (bb xE (aq (fJ (m := 1) (caps := []) (eI (kc (lR (c := 0) (m := "leaves") (n := 1) (f := aU) sx (ag 0) (aq (ag 1) aC)))) (ba 0) ft (ar jo (ag 0) (aA 0))) aC)))⟩
theorem uQ : bf ["_law_script", "_law_k"] ["_law_script", "_law_k"] (aD ie) := ⟨rfl, rfl, rfl, by decide +kernel, rfl, by decide +kernel, by decide +kernel⟩
theorem vk {a : Addr} {fd : FuncData} (F : Fun K "_law_cell" "_law_cell" ie a fd) (hm : mg "_law_cell" = some (.ref a)) (hpt : P.given.tree = none) (n_len : mg "len" = none) : cY P w K mg base ca 35 "_law_cell" ["_law_script", "_law_k"] b9 a fd := by
  refine ⟨cB F uQ rfl fun cdv A outer s H E hr => ?_, hm, F.kp, F.binds fun _ _ _ _ _ _ us hl => match us, hl with | [_, _], _ => rfl⟩
  have hu := hr.units
  have hdp := cI hr (by decide)
  exact ⟨_, (aF (dN (bZ nR (pv 1) (bL eC rfl n_len Boot.«len» (aj (pv 0) ay)) (cy _))
 (aJ (cK (ig fP (pv 0) (pv 1) (fun _ _ => rfl))))
 cu)
 (aJ (cK aB))),
   (aM (dP (cA (ar nY (ag 1) (bb gZ (aq (ag 0) aC))))
 (cL (ar g8 (ag 0) (ag 1)))
 cv)
 (cL (aA 0)))⟩
theorem oo : bf ["_law_cell_here", "_law_k", "_law_stirred"] ["_law_cell_here", "_law_k"] (aD g9) := ⟨rfl, rfl, rfl, by decide +kernel, rfl, by decide +kernel, by decide +kernel⟩
theorem vi {a : Addr} {fd : FuncData} (F : Fun K "_law_next" "_law_next" g9 a fd) (hm : mg "_law_next" = some (.ref a)) (hpt : P.given.tree = none) : cY P w K mg base ca 35 "_law_next" ["_law_cell_here", "_law_k"] ee a fd := by
  refine ⟨cB F oo rfl fun cdv A outer s H E hr => ?_, hm, F.kp, F.binds fun _ _ _ _ _ _ us hl => match us, hl with | [_, _], _ => rfl⟩
  have hu := hr.units
  have hdp := cI hr (by decide)
  exact ⟨_, (aF (dN (bZ EG (pv 0) (aH ny aB aB) (cy _))
 (aJ (cK (aH (dy hdp hpt ⟨_, _, rfl, rfl, rfl, rfl, rfl⟩) (pv 0) aB)))
 cu)
 (aF (bC (i := 2) oo.nd rfl (Or.inl rfl) (aH bz (aH ck (aH ck (aH kx (pv 0) (aH ck aB (aH kx aB (pv 1)))) aB) (pv 1)) aB))
 (aJ (cK (aH bz (aH kx (pv 2) aB) aB))))),
   (aM (dP (cA (ar EE (ag 0) (ar nA (aA 2) (aA 31))))
 (cL (ar cJ (ag 0) (aA 1890)))
 cv)
 (aM (bx (ar bT (ar bU (ar bU (ar jt (ag 0) (ar bU (aA 48271) (ar jt (aA 21350) (ag 1)))) (aA 12345)) (ag 1)) (aA 2147483647)))
 (cL (ar bT (ar jt (ag 2) (aA 16807)) (aA 2147483629)))))⟩
theorem cb : bf ["_law_cell_here", "_law_many", "_law_letters", "_law_size", "_law_word", "_law_k", "_law_at", "_law_made", "_law_sign", "_law_name"] ["_law_cell_here", "_law_many"] (aD gB) := ⟨rfl, rfl, rfl, by decide +kernel, rfl, by decide +kernel, by decide +kernel⟩
theorem tD {a : Addr} {fd : FuncData} (F : Fun K "_law_words" "_law_words" gB a fd) (hm : mg "_law_words" = some (.ref a)) (hpt : P.given.tree = none) (n_range : mg "range" = none) (n_min : mg "min" = none) : cY P w K mg base ca 35 "_law_words" ["_law_cell_here", "_law_many"] fm a fd := by
  refine ⟨cB F cb rfl fun cdv A outer s H E hr => ?_, hm, F.kp, F.binds fun _ _ _ _ _ _ us hl => match us, hl with | [_, _], _ => rfl⟩
  have hu := hr.units
  have hdp := cI hr (by decide)
  exact ⟨_, (aF (bC (i := 2) cb.nd rfl (Or.inl rfl) lA)
 (aF (bC (i := 3) cb.nd rfl (Or.inl rfl) (aH ck aB (aH bz (pv 0) aB)))
 (aF (bC (i := 4) cb.nd rfl (Or.inl rfl) lA)
 (aF (ju PassesOwn.never rfl (nC rfl n_range (aj (pv 3) ay)) (bB (i := 5) cb.nd rfl (Or.inl rfl))
 (aJ (bC (i := 4) cb.nd rfl (Or.inl rfl) (aH ck (pv 4) (ig fP (pv 2) (aH bz (aH ck (aH (dy hdp hpt ⟨_, _, rfl, rfl, rfl, rfl, rfl⟩) (pv 0) aB) (aH kx (pv 5) (aH (dy hdp hpt ⟨_, _, rfl, rfl, rfl, rfl, rfl⟩) (pv 0) aB))) aB) (fun _ _ => rfl))))))
 (aF (bC (i := 6) cb.nd rfl (Or.inl rfl) (aH bz (aH (dy hdp hpt ⟨_, _, rfl, rfl, rfl, rfl, rfl⟩) (pv 0) aB) (pv 3)))
 (aF (bC (i := 7) cb.nd rfl (Or.inl rfl) (fi ay))
 (aF (ju PassesOwn.never rfl (nC rfl n_range (aj (pv 1) ay)) (bB (i := 5) cb.nd rfl (Or.inl rfl))
 (aF (bC (i := 8) cb.nd rfl (Or.inl rfl) (ig fP (pv 2) (aH bz (aH ck (aH ck (aH (dy hdp hpt ⟨_, _, rfl, rfl, rfl, rfl, rfl⟩) (pv 0) aB) (aH kx aB (pv 5))) aB) aB) (fun _ _ => rfl)))
 (aF (bC (i := 9) cb.nd rfl (Or.inl rfl) (aH ck (aH ck (da ur (pv 4) ei (dE (pv 6))) (pv 8)) (da ur (pv 4) (dE (aH ck (pv 6) aB)) ei)))
 (aF (dN (bZ (kK hu) (aH bz (aH (dy hdp hpt ⟨_, _, rfl, rfl, rfl, rfl, rfl⟩) (pv 0) aB) aB) aB (cy _))
 (aJ (bC (i := 9) cb.nd rfl (Or.inl rfl) (ig fP (fi (aj (pv 4) (aj (da ur (pv 4) ei (dE (wb ug aB))) (aj (aH ck (pv 4) (pv 8)) ay)))) (bL (yi rfl) rfl n_min Boot.«min» (aj (pv 5) (aj aB ay))) (fun _ _ => rfl))))
 cu)
 (aJ (bQ (iZ PySem.F.plainAttrs_list PySem.F.slot_list_append PySem.F.type_list_append du (pv 7) (aj (pv 9) ay))))))))
 (aJ (cK (pv 7)))))))))),
   (aM (bx (kY ("abcdefghijklmnopqrstuvwxyz" : Str)))
 (aM (bx (ar bU (aA 2) (ar bT (ag 0) (aA 6))))
 (aM (bx (kY ("" : Str)))
 (aM (jy (qm (aq (ag 3) aC)) (ba 5)
 (bx (ar bU (ag 4) (ar g8 (ag 2) (ar bT (ar bU (ar cJ (ag 0) (aA 6)) (ar jt (ag 5) (ar cJ (ag 0) (aA 156)))) (aA 26))))))
 (aM (bx (ar bT (ar cJ (ag 0) (aA 2)) (ag 3)))
 (aM (bx (iH aC))
 (aM (jy (qm (aq (ag 1) aC)) (ba 5)
 (aM (bx (ar g8 (ag 2) (ar bT (ar bU (ar bU (ar cJ (ag 0) (aA 6)) (ar jt (aA 3) (ag 5))) (aA 1)) (aA 26))))
 (aM (bx (ar bU (ar bU (uC (ag 4) cU (dz (ag 6))) (ag 8)) (uC (ag 4) (dz (ar bU (ag 6) (aA 1))) cU)))
 (aM (dP (cA (ar jo (ar bT (ar cJ (ag 0) (aA 5)) (aA 3)) (aA 1)))
 (bx (ar g8 (kU (aq (ag 4) (aq (uC (ag 4) cU (dz (xp sZ (aA 1)))) (aq (ar bU (ag 4) (ag 8)) aC)))) (bb A2 (aq (ag 5) (aq (aA 2) aC)))))
 cv)
 (bR (gU (ag 7) (ag 9)))))))
 (cL (kc (ag 7))))))))))⟩
theorem cW : bf ["_law_cell_here", "_law_name", "_law_goods", "_law_wide", "_law_uses", "_law_makes", "_law_k", "_law_good", "_law_one", "_law_other"] ["_law_cell_here", "_law_name", "_law_goods", "_law_wide"] (aD ia) := ⟨rfl, rfl, rfl, by decide +kernel, rfl, by decide +kernel, by decide +kernel⟩
theorem vm {a : Addr} {fd : FuncData} (F : Fun K "_law_work" "_law_work" ia a fd) (hm : mg "_law_work" = some (.ref a)) (hpt : P.given.tree = none) (n_enumerate : mg "enumerate" = none) (lQ : dw P w K mg base ca 35 "_law_next" ["_law_cell_here", "_law_k"] ee) : cY P w K mg base ca 36 "_law_work" ["_law_cell_here", "_law_name", "_law_goods", "_law_wide"] iT a fd := by
  obtain ⟨xf, uS, mm, gd, lI, mx⟩ := lQ
  refine ⟨cB F cW rfl fun cdv A outer s H E hr => ?_, hm, F.kp, F.binds fun _ _ _ _ _ _ us hl => match us, hl with | [_, _, _, _], _ => rfl⟩
  have hu := hr.units
  have hdp := cI hr (by decide)
  exact ⟨_, (aF (bC (i := 4) cW.nd rfl (Or.inl rfl) (fi ay))
 (aF (bC (i := 5) cW.nd rfl (Or.inl rfl) (fi ay))
 (aF (ju PassesOwn.never rfl (qt rfl n_enumerate (aj (pv 2) ay)) (km rfl (cE (bB (i := 6) cW.nd rfl (Or.inl rfl)) (cE (bB (i := 7) cW.nd rfl (Or.inl rfl)) i4)))
 (aF (bC (i := 0) cW.nd rfl (Or.inl rfl) (bN mm (hr.mono (by decide)) rfl gd lI mx .nil bV (aj (pv 0) (aj (aH bz (pv 6) aB) ay))))
 (aF (bC (i := 8) cW.nd rfl (Or.inl rfl) (aH ck aB (aH bz (aH (dy hdp hpt ⟨_, _, rfl, rfl, rfl, rfl, rfl⟩) (pv 0) aB) aB)))
 (aF (bC (i := 9) cW.nd rfl (Or.inl rfl) (aH ck aB (aH bz (aH (dy hdp hpt ⟨_, _, rfl, rfl, rfl, rfl, rfl⟩) (pv 0) aB) aB)))
 (aF (dN (bZ (kK hu) (aH bz (aH (dy hdp hpt ⟨_, _, rfl, rfl, rfl, rfl, rfl⟩) (pv 0) aB) aB) aB (cy _))
 (aJ (bC (i := 8) cW.nd rfl (Or.inl rfl) (aH ck (aH kx (pv 8) (pv 3)) (aH bz (aH (dy hdp hpt ⟨_, _, rfl, rfl, rfl, rfl, rfl⟩) (pv 0) aB) aB))))
 cu)
 (aF (dN (bZ (kK hu) (aH bz (aH (dy hdp hpt ⟨_, _, rfl, rfl, rfl, rfl, rfl⟩) (pv 0) aB) aB) aB (cy _))
 (aJ (bC (i := 9) cW.nd rfl (Or.inl rfl) (aH ck (aH kx (pv 9) (pv 3)) (aH bz (aH (dy hdp hpt ⟨_, _, rfl, rfl, rfl, rfl, rfl⟩) (pv 0) aB) aB))))
 cu)
 (aF (dN (PW.pt (pw_or (bZ nR (aH bz (pv 0) aB) aB (cy _)) (pw_or1 (bZ (kK hu) (aH bz (pv 0) aB) aB (cy _)))))
 (aJ (bQ (iZ PySem.F.plainAttrs_list PySem.F.slot_list_append PySem.F.type_list_append du (pv 4) (aj (iV (aj (pv 7) (aj (pv 8) ay))) ay))))
 cu)
 (aJ (dN (PW.pt (pw_or (PW.pt (pw_and (bZ pS (aH bz (pv 0) aB) aB (cy _)) (pw_and1 (bZ nR (aH bz (pv 0) aB) aB (cy _))))) (pw_or1 (bZ (kK hu) (aH bz (pv 0) aB) aB (cy _)))))
 (aJ (bQ (iZ PySem.F.plainAttrs_list PySem.F.slot_list_append PySem.F.type_list_append du (pv 5) (aj (iV (aj (pv 7) (aj (pv 9) ay))) ay))))
 cu)))))))))
 (aF (dN (bZ (kK hu) (aH bz (aH (dy hdp hpt ⟨_, _, rfl, rfl, rfl, rfl, rfl⟩) (pv 0) aB) aB) aB (cy _))
 (aF (bQ (yc PySem.F.plainAttrs_list PySem.F.slot_list_reverse PySem.F.type_list_reverse pB (pv 4)))
 (aJ (bQ (yc PySem.F.plainAttrs_list PySem.F.slot_list_reverse PySem.F.type_list_reverse pB (pv 5)))))
 cu)
 (aJ (cK (iV (aj (pv 1) (aj (pv 4) (aj (pv 5) ay)))))))))),
   (aM (bx (iH aC))
 (aM (bx (iH aC))
 (aM (jy (j6 (aq (ag 2) aC)) (ja (cG (ba 6) (cG (ba 7) i8)))
 (aM (bx (bJ (n := 2) (f := ee) (aq (ag 0) (aq (ar bT (ag 6) (aA 3)) aC))))
 (aM (bx (ar bU (aA 1) (ar bT (ar cJ (ag 0) (aA 7)) (aA 3))))
 (aM (bx (ar bU (aA 1) (ar bT (ar cJ (ag 0) (aA 21)) (aA 3))))
 (aM (dP (cA (ar jo (ar bT (ar cJ (ag 0) (aA 63)) (aA 6)) (aA 0)))
 (bx (ar bU (ar jt (ag 8) (ag 3)) (ar bT (ar cJ (ag 0) (aA 378)) (aA 5))))
 cv)
 (aM (dP (cA (ar jo (ar bT (ar cJ (ag 0) (aA 63)) (aA 6)) (aA 1)))
 (bx (ar bU (ar jt (ag 9) (ag 3)) (ar bT (ar cJ (ag 0) (aA 378)) (aA 5))))
 cv)
 (aM (dP (p8 (cA (ar nY (ar bT (ag 0) (aA 7)) (aA 3))) (cA (ar jo (ar bT (ag 0) (aA 7)) (aA 6))))
 (bR (gU (ag 4) (kn (aq (ag 7) (aq (ag 8) aC)))))
 cv)
 (dP (p8 (DF (cA (ar pQ (ar bT (ag 0) (aA 7)) (aA 2))) (cA (ar nY (ar bT (ag 0) (aA 7)) (aA 5)))) (cA (ar jo (ar bT (ag 0) (aA 7)) (aA 6))))
 (bR (gU (ag 5) (kn (aq (ag 7) (aq (ag 9) aC)))))
 cv))))))))
 (aM (dP (cA (ar jo (ar bT (ar cJ (ag 0) (aA 11)) (aA 2)) (aA 1)))
 (aM (bR (pN (ag 4)))
 (bR (pN (ag 5))))
 cv)
 (cL (kn (aq (ag 1) (aq (kc (ag 4)) (aq (kc (ag 5)) aC)))))))))⟩
theorem uW : bf ["_law_works"] ["_law_works"] (aD g5) := ⟨rfl, rfl, rfl, by decide +kernel, rfl, by decide +kernel, by decide +kernel⟩
theorem uT {a : Addr} {fd : FuncData} (F : Fun K "_law_copy" "_law_copy" g5 a fd) (hm : mg "_law_copy" = some (.ref a)) (hpt : P.given.tree = none) (n_list : mg "list" = none) : cY P w K mg base ca 35 "_law_copy" ["_law_works"] hX a fd := by
  refine ⟨cB F uW rfl fun cdv A outer s H E hr => ?_, hm, F.kp, F.binds fun _ _ _ _ _ _ us hl => match us, hl with | [_], _ => rfl⟩
  have hu := hr.units
  have hdp := cI hr (by decide)
  exact ⟨_, (aJ (cK (eH (own := ["_law_name", "_law_uses", "_law_makes"]) (cap := []) (caps := []) rfl ⟨rfl, by decide +kernel, by decide +kernel, by decide +kernel, trivial, by decide +kernel⟩ (eM (pv 0)) (fun _ _ _ => (km rfl (cE (bB (i := 0) (show ((["_law_name", "_law_uses", "_law_makes"] : List Str) ++ ([] : List Str)).Nodup from by decide +kernel) rfl (Or.inl rfl)) (cE (bB (i := 1) (show ((["_law_name", "_law_uses", "_law_makes"] : List Str) ++ ([] : List Str)).Nodup from by decide +kernel) rfl (Or.inl rfl)) (cE (bB (i := 2) (show ((["_law_name", "_law_uses", "_law_makes"] : List Str) ++ ([] : List Str)).Nodup from by decide +kernel) rfl (Or.inl rfl)) i4))))) (fun _ _ _ => fR) (fun _ _ _ => (iV (aj (pv 0) (aj (dW cz rfl n_list Boot.«list» (aj (pv 1) ay)) (aj (dW cz rfl n_list Boot.«list» (aj (pv 2) ay)) ay)))))))),
   (cL (fJ (m := 3) (caps := []) (eI (ag 0)) (ja (cG (ba 0) (cG (ba 1) (cG (ba 2) i8)))) ft (kn (aq (ag 0) (aq (bb et (aq (ag 1) aC)) (aq (bb et (aq (ag 2) aC)) aC))))))⟩
theorem dB : bf ["_law_yard", "_law_way", "_law_leaving", "_law_handed", "_law_by_class", "e", "_law_others", "_law_more"] ["_law_yard", "_law_way", "_law_leaving"] (aD eR) := ⟨rfl, rfl, rfl, by decide +kernel, rfl, by decide +kernel, by decide +kernel⟩
theorem qc {a : Addr} {fd : FuncData} (F : Fun K "_law_refused" "_law_refused" eR a fd) (hm : mg "_law_refused" = some (.ref a)) (hpt : P.given.tree = none) (n_list : mg "list" = none) (n_isinstance : mg "isinstance" = none) (n_ValueError : mg "ValueError" = none) (cl_Yard : Cls K (ca 0)) (xm_YardError : mg "YardError" = some (.ref (ca 2))) (ex_YardError : ∀ c b, iQ c = some b → PySem.W.exmOne K (.ref (ca c)) (.ref (ca 2)) = some b) (xm_NoWeights : mg "NoWeights" = some (.ref (ca 11))) (xm_NoText : mg "NoText" = some (.ref (ca 9))) (xm_NoRow : mg "NoRow" = some (.ref (ca 8))) (xm_NoRatio : mg "NoRatio" = some (.ref (ca 10))) (xm_NoName : mg "NoName" = some (.ref (ca 7))) (xm_NoGood : mg "NoGood" = some (.ref (ca 6))) (xm_NoFit : mg "NoFit" = some (.ref (ca 5))) (xm_NoBalance : mg "NoBalance" = some (.ref (ca 4))) (xm_NoAmount : mg "NoAmount" = some (.ref (ca 3))) (it_NoAmount_NoBalance_NoFit_NoGood_NoName_NoRatio_NoRow_NoText_NoWeights : ∀ c b, aO c = some b → ExK K (ca c) ∧ PySem.W.kitAny K (.ref (ca c)) ([ca 3, ca 4, ca 5, ca 6, ca 7, ca 10, ca 8, ca 9, ca 11].map Value.ref) = some b) (xm_TooMany : mg "TooMany" = some (.ref (ca 13))) (xm_NoWork : mg "NoWork" = some (.ref (ca 12))) (it_NoWork_TooMany : ∀ c b, fq c = some b → ExK K (ca c) ∧ PySem.W.kitAny K (.ref (ca c)) ([ca 12, ca 13].map Value.ref) = some b) (xm_NoWay : mg "NoWay" = some (.ref (ca 1))) (ik_NoWay : ∀ c b, lP c = some b → ExK K (ca c) ∧ PySem.W.kitOne K (.ref (ca c)) (.ref (ca 1)) = some b) (iy_ValueError : ∀ c b, iy c = some b → ExK K (ca c) ∧ PySem.W.kitOne K (.ref (ca c)) (.type "ValueError") = some b) (D_Yard_leaves : MethAt P w K mg base ca 37 (ca 0) "leaves" ["self", "way"] aU) (D_Yard_balanced : MethAt P w K mg base ca 38 (ca 0) "balanced" ["self", "way"] bD) : cY P w K mg base ca 39 "_law_refused" ["_law_yard", "_law_way", "_law_leaving"] d5 a fd := by
  obtain ⟨a_Yard_leaves, fd_Yard_leaves, G_Yard_leaves, bW, b_Yard_leaves⟩ := D_Yard_leaves
  obtain ⟨a_Yard_balanced, fd_Yard_balanced, G_Yard_balanced, bX, b_Yard_balanced⟩ := D_Yard_balanced
  refine ⟨cB F dB rfl fun cdv A outer s H E hr => ?_, hm, F.kp, F.binds fun _ _ _ _ _ _ us hl => match us, hl with | [_, _, _], _ => rfl⟩
  have hu := hr.units
  have hdp := cI hr (by decide)
  exact ⟨_, (aF (bC (i := 3) dB.nd rfl (Or.inl rfl) (dW cz rfl n_list Boot.«list» (aj (pv 1) ay)))
 (aF (bC (i := 4) dB.nd rfl (Or.inl rfl) pF)
 (aF (Dp rfl rfl rfl (fun p E1 Es hps => (aJ (dN (lB (pv 2))
 (aJ (bQ (lG (pv 0) cl_Yard bW G_Yard_leaves (hr.mono (by decide)) b_Yard_leaves .nil hps (aj (pv 3) ay))))
 (aJ (bQ (lG (pv 0) cl_Yard bX G_Yard_balanced (hr.mono (by decide)) b_Yard_balanced .nil hps (aj (pv 3) ay)))))))
 (Ej (i := 5) dB.nd rfl rfl rfl xm_YardError (fun _ _ h => h) (fun v => (aF (bC (i := 6) dB.nd rfl (Or.inl rfl) (bL lW rfl n_isinstance Boot.«isinstance» (aj (pv 5) (aj (iV (aj (dF (v := .ref (ca 3)) rfl xm_NoAmount rfl) (aj (dF (v := .ref (ca 4)) rfl xm_NoBalance rfl) (aj (dF (v := .ref (ca 5)) rfl xm_NoFit rfl) (aj (dF (v := .ref (ca 6)) rfl xm_NoGood rfl) (aj (dF (v := .ref (ca 7)) rfl xm_NoName rfl) (aj (dF (v := .ref (ca 10)) rfl xm_NoRatio rfl) (aj (dF (v := .ref (ca 8)) rfl xm_NoRow rfl) (aj (dF (v := .ref (ca 9)) rfl xm_NoText rfl) (aj (dF (v := .ref (ca 11)) rfl xm_NoWeights rfl) ay)))))))))) ay))))
 (aF (bC (i := 7) dB.nd rfl (Or.inl rfl) (bL lW rfl n_isinstance Boot.«isinstance» (aj (pv 5) (aj (iV (aj (dF (v := .ref (ca 12)) rfl xm_NoWork rfl) (aj (dF (v := .ref (ca 13)) rfl xm_TooMany rfl) ay))) ay))))
 (aJ (bC (i := 4) dB.nd rfl (Or.inl rfl) (ni (bL lW rfl n_isinstance Boot.«isinstance» (aj (pv 5) (aj (dF (v := .ref (ca 1)) rfl xm_NoWay rfl) ay))) (ni (bL lW rfl n_isinstance Boot.«isinstance» (aj (pv 5) (aj (qp (v := .ty "ValueError") rfl n_ValueError (by boot_by_name) rfl) ay))) (ni (tS (pv 6)) (sL (tS (pv 7)))))))))))
 CO))
 (aJ (cK (ni (pv 4) (sL (nU (kK hu) (pv 3) (pv 1) (cy _))))))))),
   (aM (bx (bb et (aq (ag 1) aC)))
 (aM (bx (pR false))
 (aM (CK (fun W Es hW => (dP (nQ (ag 2))
 (bR (kc (lR (c := 0) (m := "leaves") (n := 1) (f := aU) hW (ag 0) (aq (ag 3) aC))))
 (bR (lR (c := 0) (m := "balanced") (n := 1) (f := bD) hW (ag 0) (aq (ag 3) aC)))))
 (fun c => Ef ex_YardError (fun c => Eu (i := 5) (aM (bx (vT (Ds := [ca 3, ca 4, ca 5, ca 6, ca 7, ca 10, ca 8, ca 9, ca 11]) (by simp) it_NoAmount_NoBalance_NoFit_NoGood_NoName_NoRatio_NoRow_NoText_NoWeights (ag 5)))
 (aM (bx (vT (Ds := [ca 12, ca 13]) (by simp) it_NoWork_TooMany (ag 5)))
 (bx (lF (CC ik_NoWay (ag 5)) (lF (zd iy_ValueError (ag 5)) (lF (qr (ag 6)) (qr (ag 7)))))))) c)
 BM c))
 (cL (lF (ag 4) (ar jo (ag 3) (ag 1)))))))⟩
theorem eZ : bf ["_law_script", "_law_words_here", "_law_goods", "_law_works", "_law_way", "_law_k", "_law_cell_here", "_law_yard", "_law_ahead", "_law_at", "_law_wrong", "_law_one"] ["_law_script"] (aD jR) := ⟨rfl, rfl, rfl, by decide +kernel, rfl, by decide +kernel, by decide +kernel⟩
theorem CJ {a : Addr} {fd : FuncData} (F : Fun K "law" "law" jR a fd) (hm : mg "law" = some (.ref a)) (hpt : P.given.tree = none) (n_enumerate : mg "enumerate" = none) (n_list : mg "list" = none) (n_len : mg "len" = none) (cl_Yard : Cls K (ca 0)) (uY : dw P w K mg base ca 35 "_law_words" ["_law_cell_here", "_law_many"] fm) (wu : dw P w K mg base ca 35 "_law_cell" ["_law_script", "_law_k"] b9) (wc : dw P w K mg base ca 36 "_law_work" ["_law_cell_here", "_law_name", "_law_goods", "_law_wide"] iT) (lQ : dw P w K mg base ca 35 "_law_next" ["_law_cell_here", "_law_k"] ee) (D_Yard_init : xY P w K mg base ca 39 (ca 0) "Yard" ["self", "goods", "works"] gA) (wI : dw P w K mg base ca 35 "_law_copy" ["_law_works"] hX) (D_Yard_leaves : MethAt P w K mg base ca 37 (ca 0) "leaves" ["self", "way"] aU) (D_Yard_balanced : MethAt P w K mg base ca 38 (ca 0) "balanced" ["self", "way"] bD) (rO : dw P w K mg base ca 39 "_law_refused" ["_law_yard", "_law_way", "_law_leaving"] d5) : cY P w K mg base ca 41 "law" ["_law_script"] sG a fd := by
  obtain ⟨D6, Cr, ve, iw, u5, uJ⟩ := uY
  obtain ⟨Ex, D2, mL, gc, mK, lS⟩ := wu
  obtain ⟨En, D3, xc, ib, wk, wm⟩ := wc
  obtain ⟨xf, uS, mm, gd, lI, mx⟩ := lQ
  obtain ⟨a_Yard_init, fd_Yard_init, G_Yard_init, k_Yard_init, iq, b_Yard_init⟩ := D_Yard_init
  obtain ⟨Eg, D4, xv, i3, wK, wR⟩ := wI
  obtain ⟨a_Yard_leaves, fd_Yard_leaves, G_Yard_leaves, bW, b_Yard_leaves⟩ := D_Yard_leaves
  obtain ⟨a_Yard_balanced, fd_Yard_balanced, G_Yard_balanced, bX, b_Yard_balanced⟩ := D_Yard_balanced
  obtain ⟨Cn, Ce, mP, eL, mT, mV⟩ := rO
  refine ⟨cB F eZ rfl fun cdv A outer s H E hr => ?_, hm, F.kp, F.binds fun _ _ _ _ _ _ us hl => match us, hl with | [_], _ => rfl⟩
  have hu := hr.units
  have hdp := cI hr (by decide)
  exact ⟨_, (aF (bC (i := 1) eZ.nd rfl (Or.inl rfl) (bN ve (hr.mono (by decide)) rfl iw u5 uJ .nil bV (aj (aH bz (bN mL (hr.mono (by decide)) rfl gc mK lS .nil bV (aj (pv 0) (aj aB ay))) (aH ny aB aB)) (aj aB ay))))
 (aF (bC (i := 2) eZ.nd rfl (Or.inl rfl) (da fG (pv 1) ei (dE (aH bz (bN mL (hr.mono (by decide)) rfl gc mK lS .nil bV (aj (pv 0) (aj aB ay))) aB))))
 (aF (bC (i := 3) eZ.nd rfl (Or.inl rfl) (fi ay))
 (aF (bC (i := 4) eZ.nd rfl (Or.inl rfl) (fi ay))
 (aF (ju PassesOwn.never rfl (qt rfl n_enumerate (aj (da fG (pv 0) (dE aB) (dE aB)) ay)) (km rfl (cE (bB (i := 5) eZ.nd rfl (Or.inl rfl)) (cE (bB (i := 6) eZ.nd rfl (Or.inl rfl)) i4)))
 (aF (bQ (iZ PySem.F.plainAttrs_list PySem.F.slot_list_append PySem.F.type_list_append du (pv 3) (aj (bN xc (hr.mono (by decide)) rfl ib wk wm .nil bV (aj (aH bz (pv 6) (aH ny aB aB)) (aj (ig fP (pv 1) (pv 5) (fun _ _ => rfl)) (aj (pv 2) (aj (aH ny aB aB) ay))))) ay)))
 (aJ (bQ (iZ PySem.F.plainAttrs_list PySem.F.slot_list_append PySem.F.type_list_append du (pv 4) (aj (aH bz (aH (dy hdp hpt ⟨_, _, rfl, rfl, rfl, rfl, rfl⟩) (bN mm (hr.mono (by decide)) rfl gd lI mx .nil bV (aj (pv 6) (aj aB ay))) aB) aB) ay))))))
 (aF (bC (i := 7) eZ.nd rfl (Or.inl rfl) (AZ k_Yard_init G_Yard_init (hr.mono (by decide)) rfl iq b_Yard_init .nil bV (aj (dW cz rfl n_list Boot.«list» (aj (pv 2) ay)) (aj (bN xv (hr.mono (by decide)) rfl i3 wK wR .nil bV (aj (pv 3) ay)) ay))))
 (aF (bC (i := 8) eZ.nd rfl (Or.inl rfl) (iV (aj (kW (pv 7) cl_Yard bW G_Yard_leaves (hr.mono (by decide)) b_Yard_leaves .nil bV (aj (dW cz rfl n_list Boot.«list» (aj (pv 4) ay)) ay)) (aj (kW (pv 7) cl_Yard bX G_Yard_balanced (hr.mono (by decide)) b_Yard_balanced .nil bV (aj (dW cz rfl n_list Boot.«list» (aj (pv 4) ay)) ay)) ay))))
 (aF (bC (i := 6) eZ.nd rfl (Or.inl rfl) (bN mL (hr.mono (by decide)) rfl gc mK lS .nil bV (aj (pv 0) (aj aB ay))))
 (aF (bC (i := 9) eZ.nd rfl (Or.inl rfl) (aH bz (pv 6) (aH ck (bL eC rfl n_len Boot.«len» (aj (pv 4) ay)) aB)))
 (aF (bC (i := 10) eZ.nd rfl (Or.inl rfl) (fi (aj (aH ck (aH ck (da fG (pv 4) ei (dE (pv 9))) (fi (aj (aH bz (aH (dy hdp hpt ⟨_, _, rfl, rfl, rfl, rfl, rfl⟩) (pv 6) aB) aB) ay))) (da fG (pv 4) (dE (pv 9)) ei)) (aj (aH ck (aH ck (pv 4) (pv 4)) (fi (aj aB ay))) ay))))
 (aF (dN (bZ pS (bL eC rfl n_len Boot.«len» (aj (pv 4) ay)) aB (cy _))
 (aF (bC (i := 9) eZ.nd rfl (Or.inl rfl) (aH bz (aH (dy hdp hpt ⟨_, _, rfl, rfl, rfl, rfl, rfl⟩) (pv 6) aB) (bL eC rfl n_len Boot.«len» (aj (pv 4) ay))))
 (aF (bQ (iZ PySem.F.plainAttrs_list PySem.F.slot_list_append PySem.F.type_list_append du (pv 10) (aj (aH ck (da fG (pv 4) ei (dE (pv 9))) (da fG (pv 4) (dE (aH ck (pv 9) aB)) ei)) ay)))
 (aF (bQ (iZ PySem.F.plainAttrs_list PySem.F.slot_list_append PySem.F.type_list_append du (pv 10) (aj (aH ck (aH ck (da fG (pv 4) ei (dE (pv 9))) (fi (aj (aH t9 (wb ug aB) (aH bz (aH (dy hdp hpt ⟨_, _, rfl, rfl, rfl, rfl, rfl⟩) (pv 6) aB) aB)) ay))) (da fG (pv 4) (dE (aH ck (pv 9) aB)) ei)) ay)))
 (aF (bQ (iZ PySem.F.plainAttrs_list PySem.F.slot_list_append PySem.F.type_list_append du (pv 10) (aj (aH ck (aH ck (da fG (pv 4) ei (dE (pv 9))) (fi (aj (aH t9 (wb ug aB) (aH bz (aH (dy hdp hpt ⟨_, _, rfl, rfl, rfl, rfl, rfl⟩) (pv 6) aB) (aH ny aB aB))) ay))) (da fG (pv 4) (dE (aH ck (pv 9) aB)) ei)) ay)))
 (aJ (bQ (iZ PySem.F.plainAttrs_list PySem.F.slot_list_append PySem.F.type_list_append du (pv 10) (aj (fi ay) ay))))))))
 cu)
 (aF (ju PassesOwn.never rfl (eM (pv 10)) (bB (i := 11) eZ.nd rfl (Or.inl rfl))
 (aJ (dN (PW.pt (pw_or (pq (lB (bN mP (hr.mono (by decide)) rfl eL mT mV .nil bV (aj (pv 7) (aj (pv 11) (aj pF ay)))))) (pw_or1 (pq (lB (bN mP (hr.mono (by decide)) rfl eL mT mV .nil bV (aj (pv 7) (aj (pv 11) (aj pF ay)))))))))
 (aJ (cK pF))
 cu)))
 (aJ (cK (nU (kK hu) (iV (aj (kW (pv 7) cl_Yard bW G_Yard_leaves (hr.mono (by decide)) b_Yard_leaves .nil bV (aj (dW cz rfl n_list Boot.«list» (aj (pv 4) ay)) ay)) (aj (kW (pv 7) cl_Yard bX G_Yard_balanced (hr.mono (by decide)) b_Yard_balanced .nil bV (aj (dW cz rfl n_list Boot.«list» (aj (pv 4) ay)) ay)) ay))) (pv 8) (cy _)))))))))))))))),
   (aM (bx (bJ (n := 2) (f := fm) (aq (ar bT (bJ (n := 2) (f := b9) (aq (ag 0) (aq (aA 0) aC))) (ar nA (aA 10) (aA 30))) (aq (aA 8) aC))))
 (aM (bx (iU (ag 1) cU (dz (ar bT (bJ (n := 2) (f := b9) (aq (ag 0) (aq (aA 1) aC))) (aA 5)))))
 (aM (bx (iH aC))
 (aM (bx (iH aC))
 (aM (jy (j6 (aq (iU (ag 0) (dz (aA 3)) (dz (aA 9))) aC)) (ja (cG (ba 5) (cG (ba 6) i8)))
 (aM (bR (gU (ag 3) (bJ (n := 4) (f := iT) (aq (ar bT (ag 6) (ar nA (aA 10) (aA 30))) (aq (ar g8 (ag 1) (ag 5)) (aq (ag 2) (aq (ar nA (aA 10) (aA 20)) aC)))))))
 (bR (gU (ag 4) (ar bT (ar cJ (bJ (n := 2) (f := ee) (aq (ag 6) (aq (aA 1) aC))) (aA 3)) (aA 4))))))
 (aM (bx (Bw (c := 0) (n := 2) (f := gA) (aq (bb et (aq (ag 2) aC)) (aq (bJ (n := 1) (f := hX) (aq (zO 3) aC)) aC))))
 (aM (bx (kn (aq (kc (tX (c := 0) (m := "leaves") (n := 1) (f := aU) (ag 7) (aq (bb et (aq (ag 4) aC)) aC))) (aq (lX (c := 0) (m := "balanced") (n := 1) (f := bD) (ag 7) (aq (bb et (aq (ag 4) aC)) aC)) aC))))
 (aM (bx (bJ (n := 2) (f := b9) (aq (ag 0) (aq (aA 2) aC))))
 (aM (bx (ar bT (ag 6) (ar bU (bb gZ (aq (ag 4) aC)) (aA 1))))
 (aM (bx (iH (aq (ar bU (ar bU (iU (ag 4) cU (dz (ag 9))) (kU (aq (ar bT (ar cJ (ag 6) (aA 7)) (aA 3)) aC))) (iU (ag 4) (dz (ag 9)) cU)) (aq (ar bU (ar bU (ag 4) (ag 4)) (kU (aq (aA 0) aC))) aC))))
 (aM (dP (cA (ar pQ (bb gZ (aq (ag 4) aC)) (aA 0)))
 (aM (bx (ar bT (ar cJ (ag 6) (aA 3)) (bb gZ (aq (ag 4) aC))))
 (aM (bR (gU (ag 10) (ar bU (iU (ag 4) cU (dz (ag 9))) (iU (ag 4) (dz (ar bU (ag 9) (aA 1))) cU))))
 (aM (bR (gU (ag 10) (ar bU (ar bU (iU (ag 4) cU (dz (ag 9))) (kU (aq (ar ua (xp sZ (aA 1)) (ar bT (ar cJ (ag 6) (aA 7)) (aA 5))) aC))) (iU (ag 4) (dz (ar bU (ag 9) (aA 1))) cU))))
 (aM (bR (gU (ag 10) (ar bU (ar bU (iU (ag 4) cU (dz (ag 9))) (kU (aq (ar ua (xp sZ (aA 1)) (ar bT (ar cJ (ag 6) (aA 7)) (ar nA (aA 10) (aA 25)))) aC))) (iU (ag 4) (dz (ar bU (ag 9) (aA 1))) cU))))
 (bR (gU (ag 10) (kU aC)))))))
 cv)
 (aM (jy (eI (ag 10)) (ba 11)
 (dP (p8 (px (nQ (bJ (n := 3) (f := d5) (aq (ag 7) (aq (ag 11) (aq (pR true) aC)))))) (px (nQ (bJ (n := 3) (f := d5) (aq (ag 7) (aq (ag 11) (aq (pR false) aC)))))))
 (cL (pR false))
 cv))
 (cL (ar jo (kn (aq (kc (tX (c := 0) (m := "leaves") (n := 1) (f := aU) (ag 7) (aq (bb et (aq (ag 4) aC)) aC))) (aq (lX (c := 0) (m := "balanced") (n := 1) (f := bD) (ag 7) (aq (bb et (aq (ag 4) aC)) aC)) aC))) (ag 8)))))))))))))))⟩
end
end Lk11
set_option maxRecDepth 100000
set_option maxHeartbeats 4000000
namespace Lk11
open PySem PySem.Spec PyProof.Rows L2 M
local macro_rules | `(tactic| array_mem_dec) => `(tactic| first | with_reducible assumption | with_reducible exact gS _ _ | with_reducible exact oY _ _ | with_reducible exact zX _ _ | with_reducible exact vU _ _ | with_reducible exact nM _ _ | with_reducible exact n8 _ _ | with_reducible exact BG _ _ | with_reducible exact vX _ _ | with_reducible exact Bt _ _ | with_reducible exact lZ _ | with_reducible exact vS _ _ | with_reducible exact Bg _ _ | with_reducible exact DM _ _ | with_reducible exact CM _ _ | ((with_reducible apply cF); first | decide | assumption | omega) | ((with_reducible apply cj); (first | decide | assumption | omega); (first | decide | assumption | omega)) | with_reducible exact yF | with_reducible exact rC | with_reducible exact xR | with_reducible exact zW | ((with_reducible apply jh); decide; decide; decide) | ((with_reducible apply fX); first | with_reducible assumption | exact eg (.inl (by decide)) | exact eg (.inr (by decide))) | with_reducible exact oR _ | with_reducible exact zY _ | ((with_reducible apply sN); first | rfl | assumption) | with_reducible exact gY _ | with_reducible exact xH _ | with_reducible exact zm _ | with_reducible exact yE _ | with_reducible exact zI _ | with_reducible exact Bi _ _ | with_reducible exact DJ _ _ | with_reducible exact Ba _ _ | with_reducible exact B5 _ _ | with_reducible exact Bj _ _ | with_reducible exact Ca _ | ((with_reducible apply BH); first | rfl | assumption) | with_reducible exact sJ _ _ | with_reducible exact zb _ _ | with_reducible exact mX _ _ | with_reducible exact oU _ _ | with_reducible exact uo _ _ | with_reducible exact E9 _ _ | with_reducible exact E7 _ _ _ | with_reducible exact E2 _ _ | with_reducible exact Fs _ _ _ | ((with_reducible apply wj); first | assumption | omega) | ((with_reducible apply iN); rfl) | ((with_reducible apply qE); rfl) | ((with_reducible apply C1); rfl; rfl))
local macro_rules | `(tactic| sizeOf_list_dec) => `(tactic| first | ((with_reducible apply ah); rfl) | with_reducible exact aK _ _ | with_reducible exact aR _ | with_reducible exact my _ | with_reducible exact Ao _ | with_reducible exact jd _ | with_reducible assumption | ((with_reducible apply cD); sizeOf_list_dec; sizeOf_list_dec; array_mem_dec) | ((with_reducible apply v8); sizeOf_list_dec; array_mem_dec) | ((with_reducible apply nN); sizeOf_list_dec; array_mem_dec) | ((with_reducible apply bH); sizeOf_list_dec; sizeOf_list_dec) | ((with_reducible apply AE); sizeOf_list_dec; (first | assumption | decide | omega | (focus simp only [List.length_map, List.length_append, List.length_cons, List.length_nil, List.length_range] at *; omega))) | ((with_reducible apply pT); sizeOf_list_dec; (first | assumption | decide | omega | (focus simp only [List.length_map, List.length_append, List.length_cons, List.length_nil, List.length_range] at *; omega))) | ((with_reducible apply yk); sizeOf_list_dec; (first | assumption | decide | omega | (focus simp only [List.length_map, List.length_append, List.length_cons, List.length_nil, List.length_range] at *; omega)); (first | (focus (conv => lhs; dsimp only [List.set_cons_succ, List.set_cons_zero, List.nil_append, List.cons_append, List.length_cons, List.length_nil, List.map_cons, List.map_nil, Nat.reduceAdd]); done) | (focus (conv => lhs; dsimp only [List.set_cons_succ, List.set_cons_zero, List.nil_append, List.cons_append, List.length_cons, List.length_nil, List.map_cons, List.map_nil, Nat.reduceAdd]); exact rfl) | exact rfl); (first | (focus (conv => lhs; dsimp only [List.set_cons_succ, List.set_cons_zero, List.nil_append, List.cons_append, List.length_cons, List.length_nil, List.map_cons, List.map_nil, Nat.reduceAdd]); done) | (focus (conv => lhs; dsimp only [List.set_cons_succ, List.set_cons_zero, List.nil_append, List.cons_append, List.length_cons, List.length_nil, List.map_cons, List.map_nil, Nat.reduceAdd]); exact rfl) | exact rfl)) | ((with_reducible apply ji); sizeOf_list_dec) | ((with_reducible apply xn); sizeOf_list_dec) | ((with_reducible apply tG); sizeOf_list_dec) | ((with_reducible apply Cu); sizeOf_list_dec; sizeOf_list_dec) | ((with_reducible apply EF); sizeOf_list_dec; sizeOf_list_dec) | ((with_reducible apply EH); sizeOf_list_dec; sizeOf_list_dec; sizeOf_list_dec) | ((with_reducible apply jP); sizeOf_list_dec; (first | (focus (conv => lhs; dsimp only [List.set_cons_succ, List.set_cons_zero, List.nil_append, List.cons_append, List.length_cons, List.length_nil, List.map_cons, List.map_nil, Nat.reduceAdd]); done) | (focus (conv => lhs; dsimp only [List.set_cons_succ, List.set_cons_zero, List.nil_append, List.cons_append, List.length_cons, List.length_nil, List.map_cons, List.map_nil, Nat.reduceAdd]); exact rfl) | exact rfl)) | ((with_reducible apply Ec); sizeOf_list_dec; (first | (focus (conv => lhs; dsimp only [List.set_cons_succ, List.set_cons_zero, List.nil_append, List.cons_append, List.length_cons, List.length_nil, List.map_cons, List.map_nil, Nat.reduceAdd]); done) | (focus (conv => lhs; dsimp only [List.set_cons_succ, List.set_cons_zero, List.nil_append, List.cons_append, List.length_cons, List.length_nil, List.map_cons, List.map_nil, Nat.reduceAdd]); exact rfl) | exact rfl)) | ((with_reducible apply Av); sizeOf_list_dec; (first | rfl | assumption); sizeOf_list_dec; (first | rfl | assumption); (first | assumption | decide | omega | (focus simp only [List.length_map, List.length_append, List.length_cons, List.length_nil, List.length_range] at *; omega)); (first | (focus (conv => lhs; dsimp only [List.set_cons_succ, List.set_cons_zero, List.nil_append, List.cons_append, List.length_cons, List.length_nil, List.map_cons, List.map_nil, Nat.reduceAdd]); done) | (focus (conv => lhs; dsimp only [List.set_cons_succ, List.set_cons_zero, List.nil_append, List.cons_append, List.length_cons, List.length_nil, List.map_cons, List.map_nil, Nat.reduceAdd]); exact rfl) | exact rfl)) | ((with_reducible apply v9); sizeOf_list_dec; (first | rfl | assumption); (first | (focus (conv => lhs; dsimp only [List.set_cons_succ, List.set_cons_zero, List.nil_append, List.cons_append, List.length_cons, List.length_nil, List.map_cons, List.map_nil, Nat.reduceAdd]); done) | (focus (conv => lhs; dsimp only [List.set_cons_succ, List.set_cons_zero, List.nil_append, List.cons_append, List.length_cons, List.length_nil, List.map_cons, List.map_nil, Nat.reduceAdd]); exact rfl) | exact rfl)) | ((with_reducible apply C5); sizeOf_list_dec; (first | rfl | assumption); rfl; (first | (focus (conv => lhs; dsimp only [List.set_cons_succ, List.set_cons_zero, List.nil_append, List.cons_append, List.length_cons, List.length_nil, List.map_cons, List.map_nil, Nat.reduceAdd]); done) | (focus (conv => lhs; dsimp only [List.set_cons_succ, List.set_cons_zero, List.nil_append, List.cons_append, List.length_cons, List.length_nil, List.map_cons, List.map_nil, Nat.reduceAdd]); exact rfl) | exact rfl)) | ((with_reducible apply B8); sizeOf_list_dec; (first | rfl | assumption); (first | (focus (conv => lhs; dsimp only [List.set_cons_succ, List.set_cons_zero, List.nil_append, List.cons_append, List.length_cons, List.length_nil, List.map_cons, List.map_nil, Nat.reduceAdd]); done) | (focus (conv => lhs; dsimp only [List.set_cons_succ, List.set_cons_zero, List.nil_append, List.cons_append, List.length_cons, List.length_nil, List.map_cons, List.map_nil, Nat.reduceAdd]); exact rfl) | exact rfl); (first | (focus (conv => lhs; dsimp only [List.set_cons_succ, List.set_cons_zero, List.nil_append, List.cons_append, List.length_cons, List.length_nil, List.map_cons, List.map_nil, Nat.reduceAdd]); done) | (focus (conv => lhs; dsimp only [List.set_cons_succ, List.set_cons_zero, List.nil_append, List.cons_append, List.length_cons, List.length_nil, List.map_cons, List.map_nil, Nat.reduceAdd]); exact rfl) | exact rfl)) | ((with_reducible apply Em); sizeOf_list_dec; rfl) | ((with_reducible apply vL); sizeOf_list_dec; sizeOf_list_dec; (with_reducible assumption); decide; (first | rfl | assumption | (focus simp only [dI, fj, fV, gM, fT, fS, fU, fW, dM, fe, Bool.and_true, Bool.true_and, *]; done) | (focus simp; done)); (first | rfl | assumption | (focus simp only [dI, fj, fV, gM, fT, fS, fU, fW, dM, fe, Bool.and_true, Bool.true_and, *]; done) | (focus simp; done)); rfl; (first | (focus (conv => lhs; simp only [fB, fD, dq, shD, eu, List.set_cons_succ, List.set_cons_zero, List.nil_append, List.cons_append, List.length_cons, List.length_nil, List.map_cons, List.map_nil, Nat.reduceAdd, Nat.add_zero, Nat.zero_add]); done) | (focus (conv => lhs; simp only [fB, fD, dq, shD, eu, List.set_cons_succ, List.set_cons_zero, List.nil_append, List.cons_append, List.length_cons, List.length_nil, List.map_cons, List.map_nil, Nat.reduceAdd, Nat.add_zero, Nat.zero_add]); exact rfl) | exact rfl); (first | (focus (conv => lhs; simp only [fB, fD, dq, shD, eu, List.set_cons_succ, List.set_cons_zero, List.nil_append, List.cons_append, List.length_cons, List.length_nil, List.map_cons, List.map_nil, Nat.reduceAdd, Nat.add_zero, Nat.zero_add]); done) | (focus (conv => lhs; simp only [fB, fD, dq, shD, eu, List.set_cons_succ, List.set_cons_zero, List.nil_append, List.cons_append, List.length_cons, List.length_nil, List.map_cons, List.map_nil, Nat.reduceAdd, Nat.add_zero, Nat.zero_add]); exact rfl) | exact rfl)) | ((with_reducible apply vA); sizeOf_list_dec; sizeOf_list_dec; (with_reducible assumption); decide; (first | rfl | assumption | (focus simp only [dI, fj, fV, gM, fT, fS, fU, fW, dM, fe, Bool.and_true, Bool.true_and, *]; done) | (focus simp; done)); (first | rfl | assumption | (focus simp only [dI, fj, fV, gM, fT, fS, fU, fW, dM, fe, Bool.and_true, Bool.true_and, *]; done) | (focus simp; done)); rfl; (first | rfl | assumption | (focus simp only [dI, fj, fV, gM, fT, fS, fU, fW, dM, fe, Bool.and_true, Bool.true_and, *]; done) | (focus simp; done))) | ((with_reducible apply B4); sizeOf_list_dec; (with_reducible assumption); (first | rfl | assumption | (focus simp only [dI, fj, fV, gM, fT, fS, fU, fW, dM, fe, Bool.and_true, Bool.true_and, *]; done) | (focus simp; done)); rfl; (first | rfl | assumption | (focus simp only [dI, fj, fV, gM, fT, fS, fU, fW, dM, fe, Bool.and_true, Bool.true_and, *]; done) | (focus simp; done))) | ((with_reducible apply BP); sizeOf_list_dec; (with_reducible assumption); (first | rfl | assumption | (focus simp only [dI, fj, fV, gM, fT, fS, fU, fW, dM, fe, Bool.and_true, Bool.true_and, *]; done) | (focus simp; done)); rfl; (first | (focus (conv => lhs; simp only [fB, fD, dq, shD, eu, List.set_cons_succ, List.set_cons_zero, List.nil_append, List.cons_append, List.length_cons, List.length_nil, List.map_cons, List.map_nil, Nat.reduceAdd, Nat.add_zero, Nat.zero_add]); done) | (focus (conv => lhs; simp only [fB, fD, dq, shD, eu, List.set_cons_succ, List.set_cons_zero, List.nil_append, List.cons_append, List.length_cons, List.length_nil, List.map_cons, List.map_nil, Nat.reduceAdd, Nat.add_zero, Nat.zero_add]); exact rfl) | exact rfl); (first | (focus (conv => lhs; simp only [fB, fD, dq, shD, eu, List.set_cons_succ, List.set_cons_zero, List.nil_append, List.cons_append, List.length_cons, List.length_nil, List.map_cons, List.map_nil, Nat.reduceAdd, Nat.add_zero, Nat.zero_add]); done) | (focus (conv => lhs; simp only [fB, fD, dq, shD, eu, List.set_cons_succ, List.set_cons_zero, List.nil_append, List.cons_append, List.length_cons, List.length_nil, List.map_cons, List.map_nil, Nat.reduceAdd, Nat.add_zero, Nat.zero_add]); exact rfl) | exact rfl)) | ((with_reducible apply B1); sizeOf_list_dec; (with_reducible assumption); rfl) | ((with_reducible apply nv); sizeOf_list_dec) | ((with_reducible apply Ax); sizeOf_list_dec; sizeOf_list_dec) | ((with_reducible apply Bb); (first | (focus (conv => lhs; dsimp only [List.set_cons_succ, List.set_cons_zero, List.nil_append, List.cons_append, List.length_cons, List.length_nil, List.map_cons, List.map_nil, Nat.reduceAdd]); done) | (focus (conv => lhs; dsimp only [List.set_cons_succ, List.set_cons_zero, List.nil_append, List.cons_append, List.length_cons, List.length_nil, List.map_cons, List.map_nil, Nat.reduceAdd]); exact rfl) | exact rfl)) | ((with_reducible apply BY); sizeOf_list_dec; sizeOf_list_dec) | ((with_reducible apply Bd); sizeOf_list_dec; sizeOf_list_dec; sizeOf_list_dec) | ((with_reducible apply b7); sizeOf_list_dec) | ((with_reducible apply dh); sizeOf_list_dec))
theorem Dq {a b : List Int} (hl : a.length ≤ 1000000) (hm : ∀ p ∈ a.zip b, IntMulOk p.1 p.2) : dj [vI a, vI b] [] = .ok (.int (aI a b), []) := by
  have hz : (a.zip b).length ≤ 1000000 := by rw [List.length_zip]; omega
  have hc := C6 (l := a.zip b) (f := fun p => .int p.1) (g := fun p => .int p.2) (out := fun p => .int (p.1 * p.2)) (caps := []) (im := wA (ai (af 0) (ai (af 1) av))) (e := ak iR (af 0) (af 1)) (k := none) (s := ⟨[some (vI a), some (vI b)], []⟩) (by simp [ye]) trivial (by omega) (fun p hp => by
    simp [fX (hm p hp)])
  rw [show (a.zip b).map (fun p => D.int (p.1 * p.2)) = (List.zipWith (· * ·) a b).map D.int by rw [← BK]; simp] at hc
  refine cH (s := ⟨[some (vI a), some (vI b)], []⟩) ?_
  show d8 ⟨[some (vI a), some (vI b)], []⟩ = _
  rw [d8]
  refine dh ?_
  rw [eh, aE, hc, aa, aR, aa, aa]
  dsimp only
  rw [mX, aa]
  rfl
theorem qR (ns : List Int) (k : Nat) : ∃ c, b9 [vI ns, .int (k : Int)] [] = .ok (.int c, []) ∧ (k < ns.length → c = nth ns k) := by
  by_cases h : k < ns.length
  · refine ⟨nth ns k, cH (s := ⟨[some (vI ns), some (.int (k : Int))], []⟩) ?_, fun _ => rfl⟩
    have hk : ((k : Int) < (ns.length : Int)) := by omega
    simp [gc, hk, wj h]
  · refine ⟨0, cH (s := ⟨[some (vI ns), some (.int (k : Int))], []⟩) ?_, fun z => absurd z h⟩
    have hk : ¬ ((k : Int) < (ns.length : Int)) := by omega
    simp [gc, hk]
theorem vv (c k : Int) (hk : 0 ≤ k ∧ k < 3) : ∃ z, ee [.int c, .int k] [] = .ok (.int z, []) := by
  have hp : iX ([] : aw) (.int 2) (.int 31) = .ok (.int 2147483648) := by rw [jh (by decide) (by decide) (by decide)]; rfl
  by_cases h : 2147483648 ≤ c
  · refine ⟨c / 1890, cH (s := ⟨[some (.int c), some (.int k), none], []⟩) ?_⟩
    simp [gd, hp, h, cj]
  · refine ⟨(c * (48271 + 21350 * k) + 12345 + k) % 2147483647 * 16807 % 2147483629, cH (s := ⟨[some (.int c), some (.int k), some (.int ((c * (48271 + 21350 * k) + 12345 + k) % 2147483647))], []⟩) ?_⟩
    simp [gd, hp, h, fX (eg (i := 21350) (j := k) (.inl (by decide))), fX (eg (i := c) (j := 48271 + 21350 * k) (.inr (by omega))), fX (eg (i := (c * (48271 + 21350 * k) + 12345 + k) % 2147483647) (j := 16807) (.inr (by decide))), cF]
theorem kB {O : aw} {a b : Str} (h : a.length + b.length ≤ 1000000) : aX O (.str a) (.str b) = .ok (.str (a ++ b)) := if_pos (j1 h)
theorem vb (a b : Str) : (a ++ b).length = a.length + b.length := Str.length_append a b
def azB (x : Str) : Bool := !decide (x.cps.toList < ("a" : Str).cps.toList) && !decide (("z" : Str).cps.toList < x.cps.toList)
theorem uq (O : aw) (i j : Str) : mw O (.str i) (.str j) = .ok (.bl (!decide (j.cps.toList < i.cps.toList))) := rfl
theorem De {s : S} {i : Nat} {x : Str} (h : s.r[i]? = some (some (.str x))) : nj mw mw (ao (.str ("a" : Str))) (af i) (ao (.str ("z" : Str))) s = .ok (.bl (azB x), s) := by
  rw [xD, aK, aa, ah h, aa]
  dsimp only
  rw [uq, aa]
  unfold azB
  cases (!decide (x.cps.toList < ("a" : Str).cps.toList)) with
  | false => rfl
  | true =>
    dsimp only
    rw [aK, aa]
    dsimp only
    rw [uq, aa]
    rfl
def nmB (z : Str) : Bool := decide (1 ≤ z.length) && decide (z.length ≤ 8) && z.cps.toList.all fun c => azB ⟨#[c]⟩
theorem len_list (z : Str) : z.cps.toList.length = z.length := by unfold Str.length; simp
theorem xO {z : Str} (h : z.length ≤ 1000000) : iJ [.str z] [] = .ok (.bl (nmB z), []) := by
  have hlen : br dg (ai (af 0) av) ⟨[some (.str z)], []⟩ = .ok (.int (z.length : Int), ⟨[some (.str z)], []⟩) := by
    rw [eh, aE, ah (i := 0) rfl, aa, aR, aa, aa]
    dsimp only
    rw [z4 (j1 h), aa]
  have ht : orT (bq (ak ltD (br dg (ai (af 0) av)) (ao (.int 1)))) (bq (ak gtD (br dg (ai (af 0) av)) (ao (.int 8)))) ⟨[some (.str z)], []⟩ = .ok (decide ((z.length : Int) < 1) || decide ((8 : Int) < (z.length : Int)), ⟨[some (.str z)], []⟩) := by
    rw [nD, eO, aN, hlen, aa, aK, aa]
    dsimp only
    rw [n8, aa, aa]
    dsimp only
    rw [aa]
    dsimp only
    rw [jZ hlen]
    cases decide ((z.length : Int) < 1) <;> rfl
  have hc := jx (l := z.cps.toList) (item := fun c => .str ⟨#[c]⟩) (out := fun c => .bl (azB ⟨#[c]⟩)) (caps := []) (im := xq (af 0)) (e := nj mw mw (ao (.str ("a" : Str))) (af 0) (ao (.str ("z" : Str)))) (k := none) (s := ⟨[some (.str z)], []⟩) (by
    rw [A9, ah (i := 0) rfl, aa]; rfl) trivial (by rw [len_list]; exact j1 h) (fun c _ => De rfl)
  rw [show z.cps.toList.map (fun c => D.bl (azB ⟨#[c]⟩)) = (z.cps.toList.map fun c => azB ⟨#[c]⟩).map D.bl by rw [List.map_map]; rfl] at hc
  refine cH (s := ⟨[some (.str z)], []⟩) ?_
  show jv ⟨[some (.str z)], []⟩ = _
  rw [jv]
  by_cases h1 : z.length < 1 ∨ 8 < z.length
  · rw [show nmB z = false by
      unfold nmB
      rcases h1 with q | q
      · rw [decide_eq_false (by omega : ¬ 1 ≤ z.length), Bool.false_and, Bool.false_and]
      · rw [decide_eq_false (by omega : ¬ z.length ≤ 8), Bool.and_false, Bool.false_and]]
    refine yR (Eq.trans (kr (s' := ⟨[some (.str z)], []⟩) ?_) (dh (aK _ _)))
    rw [ht]
    rcases h1 with q | q
    · rw [decide_eq_true (show (z.length : Int) < 1 by omega), Bool.true_or]
    · rw [decide_eq_true (show (8 : Int) < (z.length : Int) by omega), Bool.or_true]
  · refine Eq.trans (aV (Eq.trans (fZ (s' := ⟨[some (.str z)], []⟩) ?_) rfl)) (dh ?_)
    · rw [ht, decide_eq_false (show ¬ (z.length : Int) < 1 by omega), decide_eq_false (show ¬ (8 : Int) < (z.length : Int) by omega), Bool.or_false]
    · rw [eh, aE, hc, aa, aR, aa, aa]
      dsimp only
      rw [oU, aa]
      unfold nmB
      rw [decide_eq_true (by omega : 1 ≤ z.length), decide_eq_true (by omega : z.length ≤ 8), Bool.true_and, Bool.true_and, List.all_map]
      rfl
abbrev ABC : Str := "abcdefghijklmnopqrstuvwxyz"
theorem DP : sg ABC = (List.range 26).map (97 + ·) := by decide
def mkS (l : List Nat) : Str := ⟨l.toArray⟩
theorem dZ (l : List Nat) : sg (mkS l) = l := by simp [sg, mkS]
theorem gf (l : List Nat) : (mkS l).length = l.length := by rw [← pZ, dZ]
def azL (l : List Nat) : Prop := ∀ c ∈ l, 97 ≤ c ∧ c ≤ 122
theorem BL (c : Nat) : azB ⟨#[c]⟩ = (decide (97 ≤ c) && decide (c ≤ 122)) := by
  unfold azB
  rw [show ("a" : Str).cps.toList = [97] by decide, show ("z" : Str).cps.toList = [122] by decide]
  show (!decide ([c] < [97]) && !decide ([122] < [c])) = _
  rw [StrLaws.lt_cons_cons, StrLaws.lt_cons_cons, StrLaws.lt_nil_nil, Bool.and_false, Bool.or_false, Bool.and_false, Bool.or_false]
  congr 1
  · rw [Bool.eq_iff_iff]; simp
  · rw [Bool.eq_iff_iff]; simp
structure jS (z : Str) : Prop where
  lo : 1 ≤ z.length
  hi : z.length ≤ 8
  az : azL (sg z)
theorem jS.nm {z : Str} (h : jS z) : nmB z = true := by
  unfold nmB
  rw [decide_eq_true h.lo, decide_eq_true h.hi, Bool.true_and, Bool.true_and, List.all_eq_true]
  intro c hc
  have := h.az c hc
  rw [BL, decide_eq_true this.1, decide_eq_true this.2]; rfl
theorem xQ {O : aw} {i : Int} (h0 : 0 ≤ i) (h1 : i < 26) : ixD O (.str ABC) (.int i) = .ok (.str (mkS [97 + i.toNat])) := by
  have hl : i.toNat < ABC.cps.toList.length := by rw [show ABC.cps.toList.length = 26 by decide]; omega
  have ha := tW hl
  rw [show ((i.toNat : Nat) : Int) = i by omega] at ha
  have hv : ABC.cps.toList[i.toNat] = 97 + i.toNat := by
    have := DP
    rw [List.getElem_of_eq this]
    simp
  rw [hv] at ha
  show (if ABC.length ≤ 16777216 then (match atI ABC.cps.toList i with
      | some c => Res.ok (D.str ⟨#[c]⟩)
      | none => .bad) else .bad) = _
  rw [if_pos (by decide), ha]
  rfl
theorem ou {n : Nat} {pre rest : List D} {d : D} (h : (List.range n).map (fun (i : Nat) => D.int (i : Int)) = pre ++ d :: rest) : d = .int (pre.length : Int) ∧ pre.length < n := by
  have h1 : ((List.range n).map (fun (i : Nat) => D.int (i : Int)))[pre.length]? = some d := by rw [h]; simp
  have h2 : pre.length < n := by
    have := congrArg List.length h
    simp at this
    omega
  rw [List.getElem?_map, List.getElem?_range h2] at h1
  exact ⟨by simpa using h1.symm, h2⟩
def bS (q : Int) (k : Nat) : Nat := 97 + ((q + 3 * (k : Int) + 1) % 26).toNat
def nmK (wd : List Nat) (at_ : Nat) (q : Int) (B : Bool) (k : Nat) : List Nat :=
  if B then (if k = 0 then wd else if k = 1 then wd.take (wd.length - 1) else wd ++ [bS q k]) else wd.take at_ ++ [bS q k] ++ wd.drop (at_ + 1)
theorem Bl (q : Int) (k : Nat) : 97 ≤ bS q k ∧ bS q k ≤ 122 := by unfold bS; omega
theorem qV {wd : List Nat} {at_ k : Nat} {q : Int} {B : Bool} (h : at_ < wd.length) : (nmK wd at_ q B k).length = if B then (if k = 0 then wd.length else if k = 1 then wd.length - 1 else wd.length + 1) else wd.length := by
  unfold nmK
  cases B with
  | false => simp; omega
  | true =>
    by_cases h0 : k = 0
    · simp [h0]
    · by_cases h1 : k = 1
      · simp [h1]
      · simp [h0, h1]
theorem zx {wd : List Nat} {at_ k : Nat} {q : Int} {B : Bool} (h : at_ < wd.length) (h2 : 2 ≤ wd.length) (h7 : wd.length ≤ 7) (haz : azL wd) : jS (mkS (nmK wd at_ q B k)) := by
  have hl := qV (k := k) (q := q) (B := B) h
  refine ⟨?_, ?_, ?_⟩
  · rw [gf, hl]; split
    · split
      · omega
      · split <;> omega
    · omega
  · rw [gf, hl]; split
    · split
      · omega
      · split <;> omega
    · omega
  · rw [dZ]
    intro c hc
    unfold nmK at hc
    have one : c ∈ [bS q k] → 97 ≤ c ∧ c ≤ 122 := fun z => by rw [List.mem_singleton.mp z]; exact Bl q k
    split at hc
    · split at hc
      · exact haz c hc
      · split at hc
        · exact haz c (List.mem_of_mem_take hc)
        · rcases List.mem_append.mp hc with z | z
          · exact haz c z
          · exact one z
    · rcases List.mem_append.mp hc with z | z
      · rcases List.mem_append.mp z with y | y
        · exact haz c (List.mem_of_mem_take y)
        · exact one y
      · exact haz c (List.mem_of_mem_drop z)
theorem Cz {wd : List Nat} {at_ i j : Nat} {q : Int} {B : Bool} (h : at_ < wd.length) (h2 : 2 ≤ wd.length) (hij : i < j) (hj : j < 8) : nmK wd at_ q B i ≠ nmK wd at_ q B j := by
  intro e
  have hs : bS q i ≠ bS q j := by unfold bS; omega
  cases B with
  | false =>
    unfold nmK at e
    simp only [if_neg Bool.false_ne_true] at e
    have hl : (wd.take at_).length = at_ := by rw [List.length_take]; omega
    have key : ∀ x : Nat, (wd.take at_ ++ [x] ++ wd.drop (at_ + 1))[at_]? = some x := fun x => by
      rw [List.append_assoc, List.getElem?_append_right (by omega), hl, Nat.sub_self]; rfl
    have e1 : (wd.take at_ ++ [bS q i] ++ wd.drop (at_ + 1))[at_]? = (wd.take at_ ++ [bS q j] ++ wd.drop (at_ + 1))[at_]? := by rw [e]
    rw [key, key] at e1
    have e1 : bS q i = bS q j := by simpa using e1
    exact hs e1
  | true =>
    have hl := congrArg List.length e
    rw [qV h, qV h] at hl
    simp only [if_true] at hl
    by_cases h0 : i = 0
    · subst h0
      rw [if_pos rfl, if_neg (by omega)] at hl
      split at hl <;> omega
    · rw [if_neg h0, if_neg (show ¬ j = 0 by omega)] at hl
      by_cases h1 : i = 1
      · rw [if_pos h1, if_neg (by omega)] at hl; omega
      · unfold nmK at e
        rw [if_pos rfl, if_pos rfl, if_neg h0, if_neg h1, if_neg (show ¬ j = 0 by omega), if_neg (show ¬ j = 1 by omega)] at e
        have := List.append_cancel_left e
        simp at this
        exact hs this
theorem u9 {wd : List Nat} {at_ n : Nat} {q : Int} {B : Bool} (h : at_ < wd.length) (h2 : 2 ≤ wd.length) (hn : n ≤ 8) : ((List.range n).map fun k => mkS (nmK wd at_ q B k)).Nodup := by
  unfold List.Nodup
  rw [List.pairwise_map]
  refine List.Pairwise.imp_of_mem ?_ (List.pairwise_lt_range (n := n))
  intro i j _ hj hij e
  have := congrArg sg e
  rw [dZ, dZ] at this
  exact Cz h h2 hij (by have := List.mem_range.mp hj; omega) this
abbrev sD (l : List Str) : D := .lst (l.map D.str)
theorem Dk {c k : Int} {many size : Int} {wd : List Nat} {x6 x7 x8 x9 : Option D} (hk : 0 ≤ k ∧ k < 100) (hl : wd.length ≤ 1000) :
    ∃ r, gr ⟨[some (.int c), some (.int many), some (.str ABC), some (.int size), some (.str (mkS wd)), some (.int k), x6, x7, x8, x9], []⟩ = .next ⟨[some (.int c), some (.int many), some (.str ABC), some (.int size), some (.str (mkS (wd ++ [r]))), some (.int k), x6, x7, x8, x9], []⟩ ∧ 97 ≤ r ∧ r ≤ 122 := by
  have h0 : 0 ≤ (c / 6 + k * (c / 156)) % 26 := by omega
  have h1 : (c / 6 + k * (c / 156)) % 26 < 26 := by omega
  refine ⟨97 + ((c / 6 + k * (c / 156)) % 26).toNat, ?_, by omega, by omega⟩
  rw [gr]
  refine dG (i := 4) (s' := ⟨[some (.int c), some (.int many), some (.str ABC), some (.int size), some (.str (mkS wd)), some (.int k), x6, x7, x8, x9], []⟩) ?_
  rw [aN, ah (i := 4) rfl, aa]
  dsimp only
  rw [aN, ah (i := 2) rfl, aa]
  dsimp only
  rw [aN, aN, aN, ah (i := 0) rfl, aa, aK, aa]
  dsimp only
  rw [cj (by decide) (by decide), aa, aa, aN, ah (i := 5) rfl, aa, aN, ah (i := 0) rfl, aa, aK, aa]
  dsimp only
  rw [cj (by decide) (by decide), aa, aa]
  dsimp only
  rw [fX (eg (.inl (by omega))), aa, aa]
  dsimp only
  rw [gS, aa, aa, aK, aa]
  dsimp only
  rw [cF (by decide), aa, aa]
  dsimp only
  rw [xQ h0 h1, aa, aa]
  dsimp only
  rw [kB (by rw [gf, gf]; simp; omega), aa]
  rw [show mkS wd ++ mkS [97 + ((c / 6 + k * (c / 156)) % 26).toNat] = mkS (wd ++ [97 + ((c / 6 + k * (c / 156)) % 26).toNat]) from lj (by rw [pk, dZ, dZ, dZ])]
theorem CF {c : Int} {many size : Int} {wd : List Nat} {at_ k : Nat} {ws : List Str} {x8 x9 : Option D} (hat : at_ < wd.length) (h2 : 2 ≤ wd.length) (hw : wd.length ≤ 7) (hk : k < 100) (hl : ws.length ≤ 1000) :
    ∃ y8 y9, gh ⟨[some (.int c), some (.int many), some (.str ABC), some (.int size), some (.str (mkS wd)), some (.int (k : Int)), some (.int (at_ : Int)), some (.ptr 0), x8, x9], [.lst (ws.map D.str)]⟩ = .next ⟨[some (.int c), some (.int many), some (.str ABC), some (.int size), some (.str (mkS wd)), some (.int (k : Int)), some (.int (at_ : Int)), some (.ptr 0), y8, y9], [.lst ((ws ++ [mkS (nmK wd at_ (c / 6) (decide (c / 5 % 3 = 1)) k)]).map D.str)]⟩ := by
  have h0 : 0 ≤ (c / 6 + 3 * (k : Int) + 1) % 26 := by omega
  have h1 : (c / 6 + 3 * (k : Int) + 1) % 26 < 26 := by omega
  have e8 := dG (i := 8) (m := ak ixD (af 2) (ak aY (ak aX (ak aX (ak bK (af 0) (ao (.int 6))) (ak iR (ao (.int 3)) (af 5))) (ao (.int 1))) (ao (.int 26)))) (s := ⟨[some (.int c), some (.int many), some (.str ABC), some (.int size), some (.str (mkS wd)), some (.int (k : Int)), some (.int (at_ : Int)), some (.ptr 0), x8, x9], [.lst (ws.map D.str)]⟩) (s' := ⟨[some (.int c), some (.int many), some (.str ABC), some (.int size), some (.str (mkS wd)), some (.int (k : Int)), some (.int (at_ : Int)), some (.ptr 0), x8, x9], [.lst (ws.map D.str)]⟩) (d := .str (mkS [bS (c / 6) k])) (by
    rw [aN, ah (i := 2) rfl, aa]
    dsimp only
    rw [aN, aN, aN, aN, ah (i := 0) rfl, aa, aK, aa]
    dsimp only
    rw [cj (by decide) (by decide), aa, aa, aN, aK, aa, ah (i := 5) rfl, aa]
    dsimp only
    rw [fX (eg (.inl (by decide))), aa, aa]
    dsimp only
    rw [gS, aa, aa, aK, aa]
    dsimp only
    rw [gS, aa, aa, aK, aa]
    dsimp only
    rw [cF (by decide), aa, aa]
    dsimp only
    rw [xQ h0 h1, aa]
    rfl)
  have hwl : (mkS wd).length = wd.length := gf wd
  have p1 : iA (mkS wd) none (some (at_ : Int)) = mkS (wd.take at_) := lj (by rw [B7 (by omega), dZ, dZ])
  have p2 : iA (mkS wd) (some ((at_ : Int) + 1)) none = mkS (wd.drop (at_ + 1)) := lj (by rw [show (at_ : Int) + 1 = ((at_ + 1 : Nat) : Int) by omega, Bk (by omega), dZ, dZ])
  have p3 : iA (mkS wd) none (some (-1)) = mkS (wd.take (wd.length - 1)) := lj (by rw [BD (by omega), dZ, dZ, hwl])
  have s1 : ∀ (y8 y9 : Option D), slS (af 4) bh (part (af 6)) ⟨[some (.int c), some (.int many), some (.str ABC), some (.int size), some (.str (mkS wd)), some (.int (k : Int)), some (.int (at_ : Int)), some (.ptr 0), y8, y9], [.lst (ws.map D.str)]⟩ = .ok (.str (mkS (wd.take at_)), ⟨[some (.int c), some (.int many), some (.str ABC), some (.int size), some (.str (mkS wd)), some (.int (k : Int)), some (.int (at_ : Int)), some (.ptr 0), y8, y9], [.lst (ws.map D.str)]⟩) := fun y8 y9 => by
    rw [uu, ah (i := 4) rfl, aa, ky, aa, lE, ah (i := 6) rfl, aa]
    dsimp only
    rw [aa]
    dsimp only
    rw [if_pos (by rw [hwl]; omega), p1]
  have s2 : ∀ (y8 y9 : Option D), slS (af 4) (part (ak aX (af 6) (ao (.int 1)))) bh ⟨[some (.int c), some (.int many), some (.str ABC), some (.int size), some (.str (mkS wd)), some (.int (k : Int)), some (.int (at_ : Int)), some (.ptr 0), y8, y9], [.lst (ws.map D.str)]⟩ = .ok (.str (mkS (wd.drop (at_ + 1))), ⟨[some (.int c), some (.int many), some (.str ABC), some (.int size), some (.str (mkS wd)), some (.int (k : Int)), some (.int (at_ : Int)), some (.ptr 0), y8, y9], [.lst (ws.map D.str)]⟩) := fun y8 y9 => by
    rw [uu, ah (i := 4) rfl, aa, lE, aN, ah (i := 6) rfl, aa, aK, aa]
    dsimp only
    rw [gS, aa, aa]
    dsimp only
    rw [aa, ky, aa]
    dsimp only
    rw [if_pos (by rw [hwl]; omega), p2]
  have e9 := dG (i := 9) (m := ak aX (ak aX (slS (af 4) bh (part (af 6))) (af 8)) (slS (af 4) (part (ak aX (af 6) (ao (.int 1)))) bh)) (s := ⟨[some (.int c), some (.int many), some (.str ABC), some (.int size), some (.str (mkS wd)), some (.int (k : Int)), some (.int (at_ : Int)), some (.ptr 0), some (.str (mkS [bS (c / 6) k])), x9], [.lst (ws.map D.str)]⟩) (s' := ⟨[some (.int c), some (.int many), some (.str ABC), some (.int size), some (.str (mkS wd)), some (.int (k : Int)), some (.int (at_ : Int)), some (.ptr 0), some (.str (mkS [bS (c / 6) k])), x9], [.lst (ws.map D.str)]⟩) (d := .str (mkS (wd.take at_ ++ [bS (c / 6) k] ++ wd.drop (at_ + 1)))) (by
    rw [aN, aN, s1, aa, ah (i := 8) rfl, aa]
    dsimp only
    rw [kB (by rw [gf, gf, List.length_take]; simp; omega), aa, aa]
    dsimp only
    rw [s2, aa]
    dsimp only
    rw [kB (by rw [vb, gf, gf, gf, List.length_take, List.length_drop]; simp; omega), aa]
    rw [show mkS (wd.take at_) ++ mkS [bS (c / 6) k] ++ mkS (wd.drop (at_ + 1)) = mkS (wd.take at_ ++ [bS (c / 6) k] ++ wd.drop (at_ + 1)) from lj (by rw [pk, pk, dZ, dZ, dZ, dZ])])
  have ct : ak aY (ak bK (af 0) (ao (.int 5))) (ao (.int 3)) ⟨[some (.int c), some (.int many), some (.str ABC), some (.int size), some (.str (mkS wd)), some (.int (k : Int)), some (.int (at_ : Int)), some (.ptr 0), some (.str (mkS [bS (c / 6) k])), some (.str (mkS (wd.take at_ ++ [bS (c / 6) k] ++ wd.drop (at_ + 1))))], [.lst (ws.map D.str)]⟩ = .ok (.int (c / 5 % 3), ⟨[some (.int c), some (.int many), some (.str ABC), some (.int size), some (.str (mkS wd)), some (.int (k : Int)), some (.int (at_ : Int)), some (.ptr 0), some (.str (mkS [bS (c / 6) k])), some (.str (mkS (wd.take at_ ++ [bS (c / 6) k] ++ wd.drop (at_ + 1))))], [.lst (ws.map D.str)]⟩) := by
    rw [aN, aN, ah (i := 0) rfl, aa, aK, aa]
    dsimp only
    rw [cj (by decide) (by decide), aa, aa, aK, aa]
    dsimp only
    rw [cF (by decide)]; rfl
  have st : (ifS (bq (ak eqD (ak aY (ak bK (af 0) (ao (.int 5))) (ao (.int 3))) (ao (.int 1)))) (setM 9 (ak ixD (ij (ai (af 4) (ai (slS (af 4) bh (part (unM kM (ao (.int 1))))) (ai (ak aX (af 4) (af 8)) av)))) (br pI (ai (af 5) (ai (ao (.int 2)) av))))) cm) ⟨[some (.int c), some (.int many), some (.str ABC), some (.int size), some (.str (mkS wd)), some (.int (k : Int)), some (.int (at_ : Int)), some (.ptr 0), some (.str (mkS [bS (c / 6) k])), some (.str (mkS (wd.take at_ ++ [bS (c / 6) k] ++ wd.drop (at_ + 1))))], [.lst (ws.map D.str)]⟩ = .next ⟨[some (.int c), some (.int many), some (.str ABC), some (.int size), some (.str (mkS wd)), some (.int (k : Int)), some (.int (at_ : Int)), some (.ptr 0), some (.str (mkS [bS (c / 6) k])), some (.str (mkS (nmK wd at_ (c / 6) (decide (c / 5 % 3 = 1)) k)))], [.lst (ws.map D.str)]⟩ := by
    by_cases hB : c / 5 % 3 = 1
    · refine Eq.trans (kr (by rw [eq_test ct, decide_eq_true hB])) (dG (i := 9) (s' := ⟨[some (.int c), some (.int many), some (.str ABC), some (.int size), some (.str (mkS wd)), some (.int (k : Int)), some (.int (at_ : Int)), some (.ptr 0), some (.str (mkS [bS (c / 6) k])), some (.str (mkS (wd.take at_ ++ [bS (c / 6) k] ++ wd.drop (at_ + 1))))], [.lst (ws.map D.str)]⟩) ?_)
      have s3 : slS (af 4) bh (part (unM kM (ao (.int 1)))) ⟨[some (.int c), some (.int many), some (.str ABC), some (.int size), some (.str (mkS wd)), some (.int (k : Int)), some (.int (at_ : Int)), some (.ptr 0), some (.str (mkS [bS (c / 6) k])), some (.str (mkS (wd.take at_ ++ [bS (c / 6) k] ++ wd.drop (at_ + 1))))], [.lst (ws.map D.str)]⟩ = .ok (.str (mkS (wd.take (wd.length - 1))), ⟨[some (.int c), some (.int many), some (.str ABC), some (.int size), some (.str (mkS wd)), some (.int (k : Int)), some (.int (at_ : Int)), some (.ptr 0), some (.str (mkS [bS (c / 6) k])), some (.str (mkS (wd.take at_ ++ [bS (c / 6) k] ++ wd.drop (at_ + 1))))], [.lst (ws.map D.str)]⟩) := by
        rw [uu, ah (i := 4) rfl, aa, ky, aa, lE, xC, aK, aa, lZ, aa, aa]
        dsimp only
        rw [aa]
        dsimp only
        rw [if_pos (by rw [hwl]; omega), p3]
      have s4 : ak aX (af 4) (af 8) ⟨[some (.int c), some (.int many), some (.str ABC), some (.int size), some (.str (mkS wd)), some (.int (k : Int)), some (.int (at_ : Int)), some (.ptr 0), some (.str (mkS [bS (c / 6) k])), some (.str (mkS (wd.take at_ ++ [bS (c / 6) k] ++ wd.drop (at_ + 1))))], [.lst (ws.map D.str)]⟩ = .ok (.str (mkS (wd ++ [bS (c / 6) k])), ⟨[some (.int c), some (.int many), some (.str ABC), some (.int size), some (.str (mkS wd)), some (.int (k : Int)), some (.int (at_ : Int)), some (.ptr 0), some (.str (mkS [bS (c / 6) k])), some (.str (mkS (wd.take at_ ++ [bS (c / 6) k] ++ wd.drop (at_ + 1))))], [.lst (ws.map D.str)]⟩) := by
        rw [aN, ah (i := 4) rfl, aa, ah (i := 8) rfl, aa]
        dsimp only
        rw [kB (by rw [gf, gf]; simp; omega), aa]
        rw [show mkS wd ++ mkS [bS (c / 6) k] = mkS (wd ++ [bS (c / 6) k]) from lj (by rw [pk, dZ, dZ, dZ])]
      rw [aN, vF, aE, ah (i := 4) rfl, aa, aE, s3, aa, aE, s4, aa, aR, aa, aa, aa, aa, if_pos (by simp), aa]
      dsimp only
      rw [eh, aE, ah (i := 5) rfl, aa, aE, aK, aa, aR, aa, aa, aa]
      dsimp only
      rw [show pI [.lst (ws.map D.str)] [.int (k : Int), .int 2] = .ok (.int (if (2 : Int) < (k : Int) then 2 else (k : Int))) from rfl, aa, aa]
      dsimp only
      rw [decide_eq_true hB]
      unfold nmK
      rw [if_pos rfl]
      by_cases h0' : k = 0
      · subst h0'
        rw [if_neg (by decide), if_pos rfl, show ixD [.lst (ws.map D.str)] (.lst [.str (mkS wd), .str (mkS (wd.take (wd.length - 1))), .str (mkS (wd ++ [bS (c / 6) 0]))]) (.int ((0 : Nat) : Int)) = .ok (.str (mkS wd)) from iN rfl, aa]
      · by_cases h1' : k = 1
        · subst h1'
          rw [if_neg (by decide), if_neg h0', if_pos rfl, show ixD [.lst (ws.map D.str)] (.lst [.str (mkS wd), .str (mkS (wd.take (wd.length - 1))), .str (mkS (wd ++ [bS (c / 6) 1]))]) (.int ((1 : Nat) : Int)) = .ok (.str (mkS (wd.take (wd.length - 1)))) from iN rfl, aa]
        · rw [if_neg h0', if_neg h1', show (if (2 : Int) < (k : Int) then (2 : Int) else (k : Int)) = 2 by split <;> omega, show ixD [.lst (ws.map D.str)] (.lst [.str (mkS wd), .str (mkS (wd.take (wd.length - 1))), .str (mkS (wd ++ [bS (c / 6) k]))]) (.int 2) = .ok (.str (mkS (wd ++ [bS (c / 6) k]))) from iN rfl, aa]
    · rw [decide_eq_false hB]
      refine Eq.trans (fZ (by rw [eq_test ct, decide_eq_false hB])) ?_
      rfl
  refine ⟨some (.str (mkS [bS (c / 6) k])), some (.str (mkS (nmK wd at_ (c / 6) (decide (c / 5 % 3 = 1)) k))), ?_⟩
  rw [gh, aV e8]
  refine Eq.trans (aV e9) (Eq.trans (aV st) ?_)
  refine Eq.trans (b7 (jX (mo := af 7) (me := af 9) (k := 0) (d := .str (mkS (nmK wd at_ (c / 6) (decide (c / 5 % 3 = 1)) k))) (ah rfl) rfl (ah rfl) rfl (by simp; omega))) ?_
  rw [List.map_append]
  rfl
theorem yS {c : Int} {n : Nat} (hn : n ≤ 8) : ∃ ws O, fm [.int c, .int (n : Int)] [] = .ok (sD ws, O) ∧ ws.length = n ∧ (∀ z ∈ ws, jS z) ∧ ws.Nodup := by
  obtain ⟨sz, hsz, sz2, sz7⟩ : ∃ sz : Nat, 2 + c % 6 = (sz : Int) ∧ 2 ≤ sz ∧ sz ≤ 7 := ⟨(2 + c % 6).toNat, by omega, by omega, by omega⟩
  have e2 := dG (i := 2) (m := ao (.str ABC)) (s := ⟨[some (.int c), some (.int (n : Int)), none, none, none, none, none, none, none, none], []⟩) (aK _ _)
  have e3 := dG (i := 3) (m := ak aX (ao (.int 2)) (ak aY (af 0) (ao (.int 6)))) (s := ⟨[some (.int c), some (.int (n : Int)), some (.str ABC), none, none, none, none, none, none, none], []⟩) (s' := ⟨[some (.int c), some (.int (n : Int)), some (.str ABC), none, none, none, none, none, none, none], []⟩) (d := .int (sz : Int)) (by
    rw [aN, aK, aa, aN, ah (i := 0) rfl, aa, aK, aa]
    dsimp only
    rw [cF (by decide), aa, aa]
    dsimp only
    rw [gS, hsz]; rfl)
  have e4 := dG (i := 4) (m := ao (.str ("" : Str))) (s := ⟨[some (.int c), some (.int (n : Int)), some (.str ABC), some (.int (sz : Int)), none, none, none, none, none, none], []⟩) (aK _ _)
  obtain ⟨s', el, wd, x5, hwl, haz, hs'⟩ := eX (ok := okC (fM 0 (sz : Int)) none) (g := aL 5) (body := gr)
    (fun pre s => ∃ (wd : List Nat) (x5 : Option D), wd.length = pre.length ∧ azL wd ∧ s = ⟨[some (.int c), some (.int (n : Int)), some (.str ABC), some (.int (sz : Int)), some (.str (mkS wd)), x5, none, none, none, none], []⟩) (fun _ _ _ => trivial) (fM 0 (sz : Int)) [] (by
      rintro pre d rest ed s ⟨wd, x5, h1, h2, rfl⟩
      rw [List.nil_append, qy] at ed
      obtain ⟨rfl, hlt⟩ := ou ed
      obtain ⟨r, eb, r1, r2⟩ := Dk (c := c) (k := (pre.length : Int)) (many := (n : Int)) (size := (sz : Int)) (wd := wd) (x6 := none) (x7 := none) (x8 := none) (x9 := none) ⟨by omega, by omega⟩ (by omega)
      refine ⟨_, _, rfl, .inl eb, wd ++ [r], _, by simp [h1], fun z hz => ?_, rfl⟩
      rcases List.mem_append.mp hz with q | q
      · exact h2 z q
      · rw [List.mem_singleton.mp q]; exact ⟨r1, r2⟩) ⟨[some (.int c), some (.int (n : Int)), some (.str ABC), some (.int (sz : Int)), some (.str ("" : Str)), none, none, none, none, none], []⟩ ⟨[], none, rfl, (fun _ h => by cases h), rfl⟩
  rw [List.nil_append, iz] at hwl
  have hwl : wd.length = sz := by omega
  have hf := iM (im := nq (ai (af 3) av)) (g := aL 5) (body := gr) (s := ⟨[some (.int c), some (.int (n : Int)), some (.str ABC), some (.int (sz : Int)), some (.str ("" : Str)), none, none, none, none, none], []⟩) (oK (s1 := ⟨[some (.int c), some (.int (n : Int)), some (.str ABC), some (.int (sz : Int)), some (.str ("" : Str)), none, none, none, none, none], []⟩) (n := sz) (by
    rw [aE, ah (i := 3) rfl]; rfl) (by omega))
  rw [el, hs'] at hf
  obtain ⟨at_, hat, hat2⟩ : ∃ at_ : Nat, c / 2 % (sz : Int) = (at_ : Int) ∧ at_ < sz := ⟨(c / 2 % (sz : Int)).toNat, by have := Int.emod_nonneg (c / 2) (show (sz : Int) ≠ 0 by omega); omega, by have := Int.emod_lt_of_pos (c / 2) (show (0 : Int) < sz by omega); have := Int.emod_nonneg (c / 2) (show (sz : Int) ≠ 0 by omega); omega⟩
  have e6 := dG (i := 6) (m := ak aY (ak bK (af 0) (ao (.int 2))) (af 3)) (s := ⟨[some (.int c), some (.int (n : Int)), some (.str ABC), some (.int (sz : Int)), some (.str (mkS wd)), x5, none, none, none, none], []⟩) (s' := ⟨[some (.int c), some (.int (n : Int)), some (.str ABC), some (.int (sz : Int)), some (.str (mkS wd)), x5, none, none, none, none], []⟩) (d := .int (at_ : Int)) (by
    rw [aN, aN, ah (i := 0) rfl, aa, aK, aa]
    dsimp only
    rw [cj (by decide) (by decide), aa, aa, ah (i := 3) rfl, aa]
    dsimp only
    rw [cF (by omega), hat]; rfl)
  have e7 : setM 7 (gb av) ⟨[some (.int c), some (.int (n : Int)), some (.str ABC), some (.int (sz : Int)), some (.str (mkS wd)), x5, some (.int (at_ : Int)), none, none, none], []⟩ = .next ⟨[some (.int c), some (.int (n : Int)), some (.str ABC), some (.int (sz : Int)), some (.str (mkS wd)), x5, some (.int (at_ : Int)), some (.ptr 0), none, none], [.lst []]⟩ := by simp
  obtain ⟨s2, el2, z5, z8, z9, hs2⟩ := eX (ok := okC (fM 0 (n : Int)) none) (g := aL 5) (body := gh)
    (fun pre s => ∃ (z5 z8 z9 : Option D), s = ⟨[some (.int c), some (.int (n : Int)), some (.str ABC), some (.int (sz : Int)), some (.str (mkS wd)), z5, some (.int (at_ : Int)), some (.ptr 0), z8, z9], [.lst (((List.range pre.length).map fun k => mkS (nmK wd at_ (c / 6) (decide (c / 5 % 3 = 1)) k)).map D.str)]⟩) (fun _ _ _ => trivial) (fM 0 (n : Int)) [] (by
      rintro pre d rest ed s ⟨z5, z8, z9, rfl⟩
      rw [List.nil_append, qy] at ed
      obtain ⟨rfl, hlt⟩ := ou ed
      obtain ⟨y8, y9, eb⟩ := CF (c := c) (many := (n : Int)) (size := (sz : Int)) (wd := wd) (at_ := at_) (k := pre.length) (ws := (List.range pre.length).map fun k => mkS (nmK wd at_ (c / 6) (decide (c / 5 % 3 = 1)) k)) (x8 := z8) (x9 := z9) (by omega) (by omega) (by omega) (by omega) (by simp; omega)
      refine ⟨_, _, rfl, .inl eb, some (.int (pre.length : Int)), y8, y9, ?_⟩
      rw [List.length_append, List.length_singleton, List.range_succ, List.map_append (l₁ := List.range pre.length)]
      rfl) ⟨[some (.int c), some (.int (n : Int)), some (.str ABC), some (.int (sz : Int)), some (.str (mkS wd)), x5, some (.int (at_ : Int)), some (.ptr 0), none, none], [.lst []]⟩ ⟨_, _, _, rfl⟩
  have hf2 := iM (im := nq (ai (af 1) av)) (g := aL 5) (body := gh) (s := ⟨[some (.int c), some (.int (n : Int)), some (.str ABC), some (.int (sz : Int)), some (.str (mkS wd)), x5, some (.int (at_ : Int)), some (.ptr 0), none, none], [.lst []]⟩) (oK (s1 := ⟨[some (.int c), some (.int (n : Int)), some (.str ABC), some (.int (sz : Int)), some (.str (mkS wd)), x5, some (.int (at_ : Int)), some (.ptr 0), none, none], [.lst []]⟩) (n := n) (by
    rw [aE, ah (i := 1) rfl]; rfl) (by omega))
  rw [el2, hs2, List.nil_append, iz, show ((n : Int) - 0).toNat = n by omega] at hf2
  refine ⟨(List.range n).map fun k => mkS (nmK wd at_ (c / 6) (decide (c / 5 % 3 = 1)) k), [.dead], ?_, by simp, fun z hz => ?_, u9 (by omega) (by omega) hn⟩
  · refine cH (s := ⟨[some (.int c), some (.int (n : Int)), some (.str ABC), some (.int (sz : Int)), some (.str (mkS wd)), z5, some (.int (at_ : Int)), some (.ptr 0), z8, z9], [.dead]⟩) ?_
    show iw ⟨[some (.int c), some (.int (n : Int)), none, none, none, none, none, none, none, none], []⟩ = _
    rw [iw, aV e2]
    refine Eq.trans (aV e3) (Eq.trans (aV e4) (Eq.trans (aV hf) (Eq.trans (aV e6) (Eq.trans (aV e7) (Eq.trans (aV hf2) (dh (n4 (k := 0) (ah (i := 7) rfl) rfl)))))))
  · obtain ⟨k, _, rfl⟩ := List.mem_map.mp hz
    exact zx (by omega) (by omega) (by omega) haz
abbrev pD (p : Str × Int) : D := .tup [.str p.1, .int p.2]
abbrev psD (l : List (Str × Int)) : D := .lst (l.map pD)
structure Wk where
  nm : Str
  us : List (Str × Int)
  ms : List (Str × Int)
abbrev wD (w : Wk) : D := .tup [.str w.nm, psD w.us, psD w.ms]
abbrev wsD (l : List Wk) : D := .lst (l.map wD)
@[simp] theorem dk (l : List Str) : ax (l.map D.str) = true := by
  induction l with
  | nil => rfl
  | cons a l ih => simp [ax, bG, ih]
@[simp] theorem dJ (l : List (Str × Int)) : ax (l.map pD) = true := by
  induction l with
  | nil => rfl
  | cons a l ih => simp [ax, bG, ih]
@[simp] theorem h9 (l : List Wk) : ax (l.map wD) = true := by
  induction l with
  | nil => rfl
  | cons a l ih => simp [ax, bG, ih]
theorem ku (O : aw) (l : List Str) : bI O (l.map D.str) = l.map D.str := by
  induction l with
  | nil => unfold bI; rfl
  | cons a l ih => rw [List.map_cons]; unfold bI; rw [ih]; unfold res; rfl
theorem vW (z : Str) (l : List Str) : ax [.str z, .lst (l.map D.str)] = true := by
  show (true && (ax (l.map D.str) && true)) = true
  rw [dk]; rfl
theorem zM (z : Str) (l m : List Str) : ax [.str z, .lst (l.map D.str), .lst (m.map D.str)] = true := by
  show (true && (ax (l.map D.str) && (ax (m.map D.str) && true))) = true
  rw [dk, dk]; rfl
theorem zh {O : aw} {k : Nat} {l : List Str} (h : O[k]? = some (.lst (l.map D.str))) (z : Str) (g : List Str) : bI O (bI O [.str z, .lst (g.map D.str), .ptr k]) = [.str z, .lst (g.map D.str), .lst (l.map D.str)] := by
  have h1 : bI O [.str z, .lst (g.map D.str), .ptr k] = [.str z, .lst (g.map D.str), .lst (l.map D.str)] := by
    simp only [bI, res, ku, h]
  rw [h1]
  simp only [bI, res, ku]
theorem BW {O : aw} {k : Nat} {l : List Str} (h : O[k]? = some (.lst (l.map D.str))) (z : Str) : bI O (bI O [.str z, .ptr k]) = [.str z, .lst (l.map D.str)] := by
  have h1 : bI O [.str z, .ptr k] = [.str z, .lst (l.map D.str)] := by
    simp only [bI, res, ku, h]
  rw [h1]
  simp only [bI, res, ku]
theorem jz {α : Type} (f : α → D) (l : List α) : d9 (l.map f) = l.zipIdx.map fun p => .tup [.int (p.2 : Int), f p.1] := by
  unfold d9
  rw [List.mapIdx_eq_zipIdx_map, List.zipIdx_map, List.map_map]
  rfl
theorem j8 {α : Type} {g : α × Nat → D} {l : List α} {pre rest : List D} {d : D} (h : l.zipIdx.map g = pre ++ d :: rest) : ∃ (hl : pre.length < l.length), d = g (l[pre.length], pre.length) := by
  have hl : pre.length < l.length := by
    have := congrArg List.length h
    simp at this
    omega
  have h1 : (l.zipIdx.map g)[pre.length]? = some d := by rw [h]; simp
  rw [List.getElem?_map, List.getElem?_eq_getElem (by simpa using hl)] at h1
  refine ⟨hl, ?_⟩
  simpa using h1.symm
theorem rE {α : Type} {g : α → D} {l : List α} {pre rest : List D} {d : D} (h : l.map g = pre ++ d :: rest) : ∃ (hl : pre.length < l.length), d = g (l[pre.length]) := by
  have hl : pre.length < l.length := by
    have := congrArg List.length h
    simp at this
    omega
  have h1 : (l.map g)[pre.length]? = some d := by rw [h]; simp
  rw [List.getElem?_map, List.getElem?_eq_getElem hl] at h1
  exact ⟨hl, by simpa using h1.symm⟩
theorem iI {n : Nat} {m : SM} {ds : List D} {O : aw} {s : S} (h : m ⟨ds.map some ++ List.replicate (n - ds.length) none, O⟩ = .next s) : runM n m ds O = .ok (.non, s.o) := by
  unfold runM; rw [h]
theorem vH {O : aw} (z : Str) (l : List Str) : inD O (.str z) (sD l) = .ok (.bl (l.any (· == z))) := by
  unfold inD inB
  dsimp only
  rw [nX]
  dsimp only
  rw [mz]
theorem xj {O : aw} (z : Str) (l : List Str) : m9 O (.str z) (sD l) = .ok (.bl (!l.any (· == z))) := by
  unfold m9 inB
  dsimp only
  rw [nX]
  dsimp only
  rw [mz]
theorem C2 {z : Str} {l : List Str} (h : z ∈ l) : l.any (· == z) = true := List.any_eq_true.mpr ⟨z, h, by simp⟩
theorem vD {z : Str} {l : List Str} (h : z ∉ l) : l.any (· == z) = false := by
  rw [List.any_eq_false]
  intro y hy e
  have : y = z := by simpa using e
  exact h (this ▸ hy)
theorem jM {l : List Str} (h : l.Nodup) {i : Nat} (hi : i < l.length) : l[i] ∉ l.take i := by
  intro hm
  obtain ⟨j, hj, e⟩ := List.getElem_of_mem hm
  rw [List.length_take] at hj
  rw [List.getElem_take] at e
  exact List.pairwise_iff_getElem.mp h j i (by omega) hi (by omega) e
theorem BN {goods : List Str} {works : List Wk} (h1 : goods.length ≤ 10) (h2 : works.length ≤ 10) : fu [sD goods, wsD works] [] = .ok (.non, []) := by
  refine iI (s := ⟨[some (sD goods), some (wsD works)], []⟩) ?_
  show gQ ⟨[some (sD goods), some (wsD works)], []⟩ = _
  rw [gQ]
  have hl : ∀ (i : Nat) (ds : List D), [some (sD goods), some (wsD works)][i]? = some (some (.lst ds)) → br dg (ai (af i) av) ⟨[some (sD goods), some (wsD works)], []⟩ = .ok (.int (ds.length : Int), ⟨[some (sD goods), some (wsD works)], []⟩) := fun i ds h => by
    rw [eh, aE, ah h, aa, aR, aa, aa]
    dsimp only
    rw [oR, aa]
  refine Eq.trans (aV (Eq.trans (fZ (by rw [jZ (hl 0 _ rfl), List.length_map, decide_eq_false (by omega)])) rfl)) ?_
  exact Eq.trans (fZ (by rw [jZ (hl 1 _ rfl), List.length_map, decide_eq_false (by omega)])) rfl
theorem vB {z : Str} {l : List Str} (hz : jS z) (hl : z ∉ l) : cX [.str z, sD l] [] = .ok (.non, []) := by
  refine iI (s := ⟨[some (.str z), some (sD l)], []⟩) ?_
  show eB ⟨[some (.str z), some (sD l)], []⟩ = _
  rw [eB]
  have h1 : bt 1 iJ (ai (af 0) av) ⟨[some (.str z), some (sD l)], []⟩ = .ok (.bl true, ⟨[some (.str z), some (sD l)], []⟩) := b8 (ds := [.str z]) (by rw [aE, ah (i := 0) rfl]; rfl) (by simp) rfl (by rw [xO (by have := hz.hi; omega), hz.nm]) (by simp)
  refine Eq.trans (aV (Eq.trans (fZ (s' := ⟨[some (.str z), some (sD l)], []⟩) ?_) rfl)) (Eq.trans (fZ (s' := ⟨[some (.str z), some (sD l)], []⟩) ?_) rfl)
  · rw [qA, eO, h1]; rfl
  · rw [eO, aN, ah (i := 0) rfl, aa, ah (i := 1) rfl, aa]
    dsimp only
    rw [vH, vD hl]; rfl
theorem zQ {goods : List Str} (h : ∀ z ∈ goods, jS z) (nd : goods.Nodup) : ∃ O, eU [sD goods] [] = .ok (.non, O) := by
  obtain ⟨s', el, y1, y2, hs'⟩ := eX (ok := okC (d9 (goods.map D.str)) none) (g := dv (aS (aL 1) (aS (aL 2) dA)) 2) (body := gF)
    (fun _ s => ∃ y1 y2, s = ⟨[some (sD goods), y1, y2], []⟩) (fun _ _ _ => trivial) (d9 (goods.map D.str)) [] (by
      rintro pre d rest ed s ⟨y1, y2, rfl⟩
      rw [List.nil_append, jz] at ed
      obtain ⟨hl, rfl⟩ := j8 ed
      refine ⟨⟨[some (sD goods), some (.int (pre.length : Int)), some (.str (goods[pre.length]))], []⟩, ⟨[some (sD goods), some (.int (pre.length : Int)), some (.str (goods[pre.length]))], []⟩, by rw [kl]; rfl, .inl ?_, _, _, rfl⟩
      rw [gF]
      refine b7 (b8 (ds := [.str (goods[pre.length]), sD (goods.take pre.length)]) (d := .non) ?_ (vW _ _) rfl (vB (h _ (List.getElem_mem _)) (jM nd hl)) (by simp))
      rw [aE, ah (i := 2) rfl, aa, aE, xX, ah (i := 0) rfl, aa, ky, aa, lE, ah (i := 1) rfl, aa]
      dsimp only
      rw [aa]
      dsimp only
      rw [nX]
      dsimp only
      unfold M.cutD
      rw [HT.pe, HT.lD, List.length_map, show min pre.length goods.length = pre.length by omega, List.drop_zero, Nat.sub_zero, ← List.map_take]
      rfl) ⟨[some (sD goods), none, none], []⟩ ⟨_, _, rfl⟩
  have hf := iM (im := fg (ai (af 0) av)) (g := dv (aS (aL 1) (aS (aL 2) dA)) 2) (body := gF) (s := ⟨[some (sD goods), none, none], []⟩) (ds := d9 (goods.map D.str)) (k := none) (s1 := ⟨[some (sD goods), none, none], []⟩) (by
    rw [jD, aE, ah (i := 0) rfl, aa, aR, aa, aa])
  rw [el, hs'] at hf
  exact ⟨_, iI (s := ⟨[some (sD goods), y1, y2], []⟩) (by
    show gn ⟨[some (sD goods), none, none], []⟩ = _
    rw [gn, hf])⟩
theorem AX {z : Str} {goods l : List Str} (h1 : z ∈ goods) (h2 : z ∉ l) : fN [.str z, sD goods, sD l] [] = .ok (.non, []) := by
  refine iI (s := ⟨[some (.str z), some (sD goods), some (sD l)], []⟩) ?_
  show gP ⟨[some (.str z), some (sD goods), some (sD l)], []⟩ = _
  rw [gP]
  refine Eq.trans (aV (Eq.trans (fZ (s' := ⟨[some (.str z), some (sD goods), some (sD l)], []⟩) ?_) rfl)) (Eq.trans (fZ (s' := ⟨[some (.str z), some (sD goods), some (sD l)], []⟩) ?_) rfl)
  · rw [eO, aN, ah (i := 0) rfl, aa, ah (i := 1) rfl, aa]
    dsimp only
    rw [xj, C2 h1]; rfl
  · rw [eO, aN, ah (i := 0) rfl, aa, ah (i := 2) rfl, aa]
    dsimp only
    rw [vH, vD h2]; rfl
theorem xb (i : Int) : ic [.int i] [] = .ok (.bl true, []) := by
  refine cH (s := ⟨[some (.int i)], []⟩) ?_
  simp [jG]
theorem yK {i : Int} (h : 1 ≤ i) : en [.int i] [] = .ok (.non, []) := by
  refine iI (s := ⟨[some (.int i)], []⟩) ?_
  show fF ⟨[some (.int i)], []⟩ = _
  rw [fF]
  refine Eq.trans (fZ (s' := ⟨[some (.int i)], []⟩) ?_) rfl
  have h1 : bt 1 ic (ai (af 0) av) ⟨[some (.int i)], []⟩ = .ok (.bl true, ⟨[some (.int i)], []⟩) := b8 (ds := [.int i]) (by rw [aE, ah (i := 0) rfl]; rfl) (by simp) rfl (xb i) (by simp)
  rw [nD, qA, eO, h1, aa, aa]
  dsimp only
  rw [aa]
  dsimp only
  rw [if_neg (by decide), eO, aN, ah (i := 0) rfl, aa, aK, aa]
  dsimp only
  rw [n8, decide_eq_false (by omega)]; rfl
theorem ui {n : Nat} {f : FM} {ma : AM} {s s' : S} {ds rs : List D} {d : D} {O : aw} (h : ma s = .ok (ds, s')) (hr : bI s'.o (bI s'.o ds) = rs) (hp : ax rs = true) (hl : ds.length = n) (hf : f rs [] = .ok (d, O)) (hd : kA d = true) : nW n f ma s = .ok (d, s') := by
  unfold nW
  rw [h, aa]
  dsimp only
  rw [hr, if_pos ⟨hp, hl⟩, hf]
  dsimp only
  rw [if_pos hd]
structure fO (goods : List Str) (l : List (Str × Int)) : Prop where
  mem : ∀ p ∈ l, p.1 ∈ goods
  pos : ∀ p ∈ l, 1 ≤ p.2
  nd : (l.map (·.1)).Nodup
theorem t5 {goods : List Str} {l : List (Str × Int)} (h : fO goods l) (hl : l.length ≤ 1000) : ∃ O, cN [psD l, sD goods] [] = .ok (.non, O) := by
  have e2 : setM 2 (gb av) ⟨[some (psD l), some (sD goods), none, none, none], []⟩ = .next ⟨[some (psD l), some (sD goods), some (.ptr 0), none, none], [.lst []]⟩ := by simp
  obtain ⟨s', el, y3, y4, hs'⟩ := eX (ok := okC (l.map pD) none) (g := dv (aS (aL 3) (aS (aL 4) dA)) 2) (body := gH)
    (fun pre s => ∃ y3 y4, s = ⟨[some (psD l), some (sD goods), some (.ptr 0), y3, y4], [.lst (((l.map (·.1)).take pre.length).map D.str)]⟩) (fun _ _ _ => trivial) (l.map pD) [] (by
      rintro pre d rest ed s ⟨y3, y4, rfl⟩
      rw [List.nil_append] at ed
      obtain ⟨hlt, rfl⟩ := rE ed
      have hm : l[pre.length] ∈ l := List.getElem_mem _
      have hout : (l[pre.length]).1 ∉ (l.map (·.1)).take pre.length := by
        have := jM h.nd (i := pre.length) (by simpa using hlt)
        simpa using this
      generalize hx : l[pre.length] = x at hm hout
      refine ⟨⟨[some (psD l), some (sD goods), some (.ptr 0), some (.str x.1), some (.int x.2)], [.lst (((l.map (·.1)).take pre.length).map D.str)]⟩, ⟨[some (psD l), some (sD goods), some (.ptr 0), some (.str x.1), some (.int x.2)], [.lst (((l.map (·.1)).take (pre.length + 1)).map D.str)]⟩, by rw [kl]; rfl, .inl ?_, some (.str x.1), some (.int x.2), by rw [List.length_append, List.length_singleton]⟩
      rw [gH]
      have k1 := b7 (ui (n := 3) (f := fN) (ma := ai (af 3) (ai (af 1) (ai (af 2) av))) (s := ⟨[some (psD l), some (sD goods), some (.ptr 0), some (.str x.1), some (.int x.2)], [.lst (((l.map (·.1)).take pre.length).map D.str)]⟩) (s' := ⟨[some (psD l), some (sD goods), some (.ptr 0), some (.str x.1), some (.int x.2)], [.lst (((l.map (·.1)).take pre.length).map D.str)]⟩) (ds := [.str x.1, sD goods, .ptr 0]) (rs := [.str x.1, sD goods, sD ((l.map (·.1)).take pre.length)]) (by
        rw [aE, ah (i := 3) rfl, aa, aE, ah (i := 1) rfl, aa, aE, ah (i := 2) rfl]; rfl) (zh rfl _ _) (zM _ _ _) rfl (AX (h.mem x hm) hout) (by rfl))
      have k2 := b7 (b8 (n := 1) (f := en) (ma := ai (af 4) av) (s := ⟨[some (psD l), some (sD goods), some (.ptr 0), some (.str x.1), some (.int x.2)], [.lst (((l.map (·.1)).take pre.length).map D.str)]⟩) (s' := ⟨[some (psD l), some (sD goods), some (.ptr 0), some (.str x.1), some (.int x.2)], [.lst (((l.map (·.1)).take pre.length).map D.str)]⟩) (ds := [.int x.2]) (by rw [aE, ah (i := 4) rfl]; rfl) (by simp) rfl (yK (h.pos x hm)) (by simp))
      refine Eq.trans (aV k1) (Eq.trans (aV k2) ?_)
      refine Eq.trans (b7 (jX (mo := af 2) (me := af 3) (k := 0) (d := .str x.1) (ah rfl) rfl (ah rfl) rfl (by simp; omega))) ?_
      have ht : (l.map (·.1)).take (pre.length + 1) = (l.map (·.1)).take pre.length ++ [x.1] := by
        rw [List.take_add_one, List.getElem?_map, List.getElem?_eq_getElem hlt, hx]; rfl
      rw [ht, List.map_append]
      rfl) ⟨[some (psD l), some (sD goods), some (.ptr 0), none, none], [.lst []]⟩ ⟨_, _, rfl⟩
  have hf := iM (im := listI (af 0)) (g := dv (aS (aL 3) (aS (aL 4) dA)) 2) (body := gH) (s := ⟨[some (psD l), some (sD goods), some (.ptr 0), none, none], [.lst []]⟩) (ds := l.map pD) (k := none) (s1 := ⟨[some (psD l), some (sD goods), some (.ptr 0), none, none], [.lst []]⟩) (by rw [d7, ah (i := 0) rfl]; rfl)
  rw [el] at hf
  exact ⟨_, iI (s := s') (by
    show eV ⟨[some (psD l), some (sD goods), none, none, none], []⟩ = _
    rw [eV, aV e2]
    exact hf)⟩
@[simp] theorem tq (g h i : GM) (a b c : D) (s : S) : dv (aS g (aS h (aS i dA))) 3 (.tup [a, b, c]) s = (g a s).bind fun s1 => (h b s1).bind fun s2 => i c s2 := by
  show (g a s).bind (fun s1 => (h b s1).bind fun s2 => (i c s2).bind fun s3 => .ok s3) = _
  congr 1
  funext s1
  congr 1
  funext s2
  cases i c s2 <;> rfl
structure qH (goods : List Str) (ws : List Wk) : Prop where
  nm : ∀ w ∈ ws, jS w.nm
  nd : (ws.map (·.nm)).Nodup
  us : ∀ w ∈ ws, fO goods w.us ∧ w.us.length ≤ 100
  ms : ∀ w ∈ ws, fO goods w.ms ∧ w.ms.length ≤ 100
theorem Aa {goods : List Str} {ws : List Wk} (h : qH goods ws) (hl : ws.length ≤ 1000) : ∃ O, eK [wsD ws, sD goods] [] = .ok (.non, O) := by
  have e2 : setM 2 (gb av) ⟨[some (wsD ws), some (sD goods), none, none, none, none], []⟩ = .next ⟨[some (wsD ws), some (sD goods), some (.ptr 0), none, none, none], [.lst []]⟩ := by simp
  obtain ⟨s', el, y3, y4, y5, hs'⟩ := eX (ok := okC (ws.map wD) none) (g := dv (aS (aL 3) (aS (aL 4) (aS (aL 5) dA))) 3) (body := gK)
    (fun pre s => ∃ y3 y4 y5, s = ⟨[some (wsD ws), some (sD goods), some (.ptr 0), y3, y4, y5], [.lst (((ws.map (·.nm)).take pre.length).map D.str)]⟩) (fun _ _ _ => trivial) (ws.map wD) [] (by
      rintro pre d rest ed s ⟨y3, y4, y5, rfl⟩
      rw [List.nil_append] at ed
      obtain ⟨hlt, rfl⟩ := rE ed
      have hm : ws[pre.length] ∈ ws := List.getElem_mem _
      have hout : (ws[pre.length]).nm ∉ (ws.map (·.nm)).take pre.length := by
        have := jM h.nd (i := pre.length) (by simpa using hlt)
        simpa using this
      generalize hx : ws[pre.length] = x at hm hout
      refine ⟨⟨[some (wsD ws), some (sD goods), some (.ptr 0), some (.str x.nm), some (psD x.us), some (psD x.ms)], [.lst (((ws.map (·.nm)).take pre.length).map D.str)]⟩, ⟨[some (wsD ws), some (sD goods), some (.ptr 0), some (.str x.nm), some (psD x.us), some (psD x.ms)], [.lst (((ws.map (·.nm)).take (pre.length + 1)).map D.str)]⟩, by rw [tq]; rfl, .inl ?_, some (.str x.nm), some (psD x.us), some (psD x.ms), by rw [List.length_append, List.length_singleton]⟩
      rw [gK]
      obtain ⟨O1, p1⟩ := t5 (h.us x hm).1 (by have := (h.us x hm).2; omega)
      obtain ⟨O2, p2⟩ := t5 (h.ms x hm).1 (by have := (h.ms x hm).2; omega)
      have k1 := b7 (ui (n := 2) (f := cX) (ma := ai (af 3) (ai (af 2) av)) (s := ⟨[some (wsD ws), some (sD goods), some (.ptr 0), some (.str x.nm), some (psD x.us), some (psD x.ms)], [.lst (((ws.map (·.nm)).take pre.length).map D.str)]⟩) (s' := ⟨[some (wsD ws), some (sD goods), some (.ptr 0), some (.str x.nm), some (psD x.us), some (psD x.ms)], [.lst (((ws.map (·.nm)).take pre.length).map D.str)]⟩) (ds := [.str x.nm, .ptr 0]) (by
        rw [aE, ah (i := 3) rfl, aa, aE, ah (i := 2) rfl]; rfl) (BW rfl _) (vW _ _) rfl (vB (h.nm x hm) hout) (by rfl))
      have pur : ∀ l : List (Str × Int), ax [.lst (l.map pD), .lst (goods.map D.str)] = true := fun l => by
        show (ax (l.map pD) && (ax (goods.map D.str) && true)) = true
        rw [dk, dJ]; rfl
      have k2 := b7 (b8 (n := 2) (f := cN) (ma := ai (af 4) (ai (af 1) av)) (s := ⟨[some (wsD ws), some (sD goods), some (.ptr 0), some (.str x.nm), some (psD x.us), some (psD x.ms)], [.lst (((ws.map (·.nm)).take pre.length).map D.str)]⟩) (s' := ⟨[some (wsD ws), some (sD goods), some (.ptr 0), some (.str x.nm), some (psD x.us), some (psD x.ms)], [.lst (((ws.map (·.nm)).take pre.length).map D.str)]⟩) (ds := [psD x.us, sD goods]) (by rw [aE, ah (i := 4) rfl, aa, aE, ah (i := 1) rfl]; rfl) (pur _) rfl p1 (by simp))
      have k3 := b7 (b8 (n := 2) (f := cN) (ma := ai (af 5) (ai (af 1) av)) (s := ⟨[some (wsD ws), some (sD goods), some (.ptr 0), some (.str x.nm), some (psD x.us), some (psD x.ms)], [.lst (((ws.map (·.nm)).take pre.length).map D.str)]⟩) (s' := ⟨[some (wsD ws), some (sD goods), some (.ptr 0), some (.str x.nm), some (psD x.us), some (psD x.ms)], [.lst (((ws.map (·.nm)).take pre.length).map D.str)]⟩) (ds := [psD x.ms, sD goods]) (by rw [aE, ah (i := 5) rfl, aa, aE, ah (i := 1) rfl]; rfl) (pur _) rfl p2 (by simp))
      refine Eq.trans (aV k1) (Eq.trans (aV k2) (Eq.trans (aV k3) ?_))
      refine Eq.trans (b7 (jX (mo := af 2) (me := af 3) (k := 0) (d := .str x.nm) (ah rfl) rfl (ah rfl) rfl (by simp; omega))) ?_
      have ht : (ws.map (·.nm)).take (pre.length + 1) = (ws.map (·.nm)).take pre.length ++ [x.nm] := by
        rw [List.take_add_one, List.getElem?_map, List.getElem?_eq_getElem hlt, hx]; rfl
      rw [ht, List.map_append]
      rfl) ⟨[some (wsD ws), some (sD goods), some (.ptr 0), none, none, none], [.lst []]⟩ ⟨_, _, _, rfl⟩
  have hf := iM (im := listI (af 0)) (g := dv (aS (aL 3) (aS (aL 4) (aS (aL 5) dA))) 3) (body := gK) (s := ⟨[some (wsD ws), some (sD goods), some (.ptr 0), none, none, none], [.lst []]⟩) (ds := ws.map wD) (k := none) (s1 := ⟨[some (wsD ws), some (sD goods), some (.ptr 0), none, none, none], [.lst []]⟩) (by rw [d7, ah (i := 0) rfl]; rfl)
  rw [el] at hf
  exact ⟨_, iI (s := s') (by
    show gi ⟨[some (wsD ws), some (sD goods), none, none, none, none], []⟩ = _
    rw [gi, aV e2]
    exact hf)⟩
theorem Bc (w : Wk) : gs [wD w] [] = .ok (wD w, []) := by
  refine cH (s := ⟨[some (wD w)], []⟩) ?_
  show iu ⟨[some (wD w)], []⟩ = _
  rw [iu]
  refine dh ?_
  have i0 : ∀ (k : Int) (d : D), ixD [] (wD w) (.int k) = .ok d → ak ixD (af 0) (ao (.int k)) ⟨[some (wD w)], []⟩ = .ok (d, ⟨[some (wD w)], []⟩) := fun k d h => by
    rw [aN, ah (i := 0) rfl, aa, aK, aa]
    dsimp only
    rw [h]; rfl
  rw [jW, aE, i0 0 (.str w.nm) rfl, aa, aE, eh, aE, i0 1 (psD w.us) rfl, aa, aR, aa, aa]
  dsimp only
  rw [gY, aa, aa, aE, eh, aE, i0 2 (psD w.ms) rfl, aa, aR, aa, aa]
  dsimp only
  rw [gY, aa, aa, aR, aa, aa, aa, aa]
  rfl
def sumOf (g : Str) (l : List (Str × Int)) : Int := ((l.filter fun p => decide (p.1 = g)).map (·.2)).sum
def chg (w : Wk) (g : Str) : Int := sumOf g w.ms - sumOf g w.us
theorem vE {g : Str} {l : List (Str × Int)} (hl : l.length ≤ 1000) : cM [.str g, psD l] [] = .ok (.int (sumOf g l), []) := by
  have hc := B3 (l := l) (item := pD) (p := fun p => decide (p.1 = g)) (out := fun p => .int p.2) (caps := [0]) (im := listI (af 1)) (c := bq (ak eqD (ak ixD (af 0) (ao (.int 0))) (af 1))) (e := ak ixD (af 0) (ao (.int 1))) (k := none) (s := ⟨[some (.str g), some (psD l)], []⟩) (by rw [d7, ah (i := 1) rfl]; rfl) trivial (by omega) (fun p _ => by
      rw [eO, aN, aN, ah (i := 0) rfl, aa, aK, aa]
      dsimp only
      rw [show ixD [] (pD p) (.int 0) = .ok (.str p.1) from rfl, aa, aa]
      dsimp only
      rw [ah (i := 1) rfl, aa]
      dsimp only
      rw [vS]; rfl) (fun p _ _ => by
      rw [aN, ah (i := 0) rfl, aa, aK, aa]
      rfl)
  rw [show (l.filter fun p => decide (p.1 = g)).map (fun p => D.int p.2) = ((l.filter fun p => decide (p.1 = g)).map (·.2)).map D.int by rw [List.map_map]; rfl] at hc
  refine cH (s := ⟨[some (.str g), some (psD l)], []⟩) ?_
  show gu ⟨[some (.str g), some (psD l)], []⟩ = _
  rw [gu]
  refine dh ?_
  rw [eh, aE, hc, aa, aR, aa, aa]
  dsimp only
  rw [mX, aa]
  rfl
theorem Bv {w : Wk} {goods : List Str} (h1 : w.us.length ≤ 1000) (h2 : w.ms.length ≤ 1000) (hg : goods.length ≤ 1000) : gy [wD w, sD goods] [] = .ok (vI (goods.map (chg w)), []) := by
  have hc := jx (l := goods) (item := D.str) (out := fun g => .int (chg w g)) (caps := [0]) (im := listI (af 1)) (e := ak m5 (bt 2 cM (ai (af 0) (ai (ak ixD (af 1) (ao (.int 2))) av))) (bt 2 cM (ai (af 0) (ai (ak ixD (af 1) (ao (.int 1))) av)))) (k := none) (s := ⟨[some (wD w), some (sD goods)], []⟩) (by rw [d7, ah (i := 1) rfl]; rfl) trivial (by omega) (fun g _ => by
      have pur : ∀ l : List (Str × Int), ax [.str g, .lst (l.map pD)] = true := fun l => by
        show (true && (ax (l.map pD) && true)) = true
        rw [dJ]; rfl
      have c2 : bt 2 cM (ai (af 0) (ai (ak ixD (af 1) (ao (.int 2))) av)) ⟨some (.str g) :: [0].map (fun i => ([some (wD w), some (sD goods)][i]?).getD none), []⟩ = .ok (.int (sumOf g w.ms), ⟨some (.str g) :: [0].map (fun i => ([some (wD w), some (sD goods)][i]?).getD none), []⟩) := b8 (ds := [.str g, psD w.ms]) (by
        rw [aE, ah (i := 0) rfl, aa, aE, aN, ah (i := 1) rfl, aa, aK, aa]; rfl) (pur _) rfl (vE h2) (by simp)
      have c1 : bt 2 cM (ai (af 0) (ai (ak ixD (af 1) (ao (.int 1))) av)) ⟨some (.str g) :: [0].map (fun i => ([some (wD w), some (sD goods)][i]?).getD none), []⟩ = .ok (.int (sumOf g w.us), ⟨some (.str g) :: [0].map (fun i => ([some (wD w), some (sD goods)][i]?).getD none), []⟩) := b8 (ds := [.str g, psD w.us]) (by
        rw [aE, ah (i := 0) rfl, aa, aE, aN, ah (i := 1) rfl, aa, aK, aa]; rfl) (pur _) rfl (vE h1) (by simp)
      rw [aN, c2, aa]
      dsimp only
      rw [c1, aa]
      rfl)
  rw [show goods.map (fun g => D.int (chg w g)) = (goods.map (chg w)).map D.int by rw [List.map_map]; rfl] at hc
  refine cH (s := ⟨[some (wD w), some (sD goods)], []⟩) ?_
  show ix ⟨[some (wD w), some (sD goods)], []⟩ = _
  rw [ix]
  exact dh hc
abbrev FN : List Str := ["held_goods", "held_works", "held_changes"]
abbrev yDs (goods : List Str) (ws : List Wk) : List D := [sD goods, wsD ws, vII (ws.map fun w => goods.map (chg w))]
abbrev yD (goods : List Str) (ws : List Wk) : D := .obj 0 FN (yDs goods ws)
theorem eN (goods : List Str) (ws : List Wk) : ax (yDs goods ws) = true := by
  show (ax (goods.map D.str) && (ax (ws.map wD) && (ax ((ws.map fun w => goods.map (chg w)).map vI) && true))) = true
  rw [dk, h9, fe]; rfl
theorem qw {c : Nat} {f : Str} {mo mv : EM} {s s1 s2 : S} {d : D} {k : Nat} {ns : List Str} {ds : List D} (hv : mv s = .ok (d, s1)) (ho : mo s1 = .ok (.ptr k, s2)) (hc : s2.o[k]? = some (.ins c ns ds)) (hf : f ∉ ns) (hl : ns.length < 1000) : lY c f mo mv s = .next ⟨s2.r, s2.o.set k (.ins c (ns ++ [f]) (ds ++ [d]))⟩ := by
  rw [zq, hv, lq]
  dsimp only
  rw [ho, lq]
  dsimp only
  rw [hc]
  dsimp only
  rw [if_pos ⟨rfl, hf, hl⟩]
theorem Bx {goods : List Str} {ws : List Wk} (hg : ∀ z ∈ goods, jS z) (nd : goods.Nodup) (hw : qH goods ws) (h1 : goods.length ≤ 10) (h2 : ws.length ≤ 10) : gA [.ptr 0, sD goods, wsD ws] [.ins 0 [] []] = .ok (.non, [.ins 0 FN (yDs goods ws)]) := by
  obtain ⟨O1, k1⟩ := zQ hg nd
  obtain ⟨O2, k2⟩ := Aa hw (by omega)
  refine iI (s := ⟨[some (.ptr 0), some (sD goods), some (wsD ws)], [.ins 0 FN (yDs goods ws)]⟩) ?_
  show iq ⟨[some (.ptr 0), some (sD goods), some (wsD ws)], [.ins 0 [] []]⟩ = _
  rw [iq]
  have pg : ax [.lst (goods.map D.str)] = true := by
    show (ax (goods.map D.str) && true) = true
    rw [dk]; rfl
  have pgw : ax [.lst (goods.map D.str), .lst (ws.map wD)] = true := by
    show (ax (goods.map D.str) && (ax (ws.map wD) && true)) = true
    rw [dk, h9]; rfl
  have pwg : ax [.lst (ws.map wD), .lst (goods.map D.str)] = true := by
    show (ax (ws.map wD) && (ax (goods.map D.str) && true)) = true
    rw [dk, h9]; rfl
  have e1 := b7 (b8 (n := 2) (f := fu) (ma := ai (af 1) (ai (af 2) av)) (s := ⟨[some (.ptr 0), some (sD goods), some (wsD ws)], [.ins 0 [] []]⟩) (s' := ⟨[some (.ptr 0), some (sD goods), some (wsD ws)], [.ins 0 [] []]⟩) (ds := [sD goods, wsD ws]) (by rw [aE, ah (i := 1) rfl, aa, aE, ah (i := 2) rfl]; rfl) pgw rfl (BN h1 h2) (by simp))
  have e2 := b7 (b8 (n := 1) (f := eU) (ma := ai (af 1) av) (s := ⟨[some (.ptr 0), some (sD goods), some (wsD ws)], [.ins 0 [] []]⟩) (s' := ⟨[some (.ptr 0), some (sD goods), some (wsD ws)], [.ins 0 [] []]⟩) (ds := [sD goods]) (by rw [aE, ah (i := 1) rfl]; rfl) pg rfl k1 (by simp))
  have e3 := b7 (b8 (n := 2) (f := eK) (ma := ai (af 2) (ai (af 1) av)) (s := ⟨[some (.ptr 0), some (sD goods), some (wsD ws)], [.ins 0 [] []]⟩) (s' := ⟨[some (.ptr 0), some (sD goods), some (wsD ws)], [.ins 0 [] []]⟩) (ds := [wsD ws, sD goods]) (by rw [aE, ah (i := 2) rfl, aa, aE, ah (i := 1) rfl]; rfl) pwg rfl k2 (by simp))
  have e4 := qw (c := 0) (f := "held_goods") (mo := af 0) (mv := br de (ai (af 1) av)) (s := ⟨[some (.ptr 0), some (sD goods), some (wsD ws)], [.ins 0 [] []]⟩) (s1 := ⟨[some (.ptr 0), some (sD goods), some (wsD ws)], [.ins 0 [] []]⟩) (s2 := ⟨[some (.ptr 0), some (sD goods), some (wsD ws)], [.ins 0 [] []]⟩) (d := sD goods) (k := 0) (ns := []) (ds := []) (by
    rw [eh, aE, ah (i := 1) rfl, aa, aR, aa, aa]
    dsimp only
    rw [gY, aa]) (ah rfl) rfl (by simp) (by simp)
  have cw := jx (l := ws) (item := wD) (out := wD) (caps := []) (im := listI (af 2)) (e := bt 1 gs (ai (af 0) av)) (k := none) (s := ⟨[some (.ptr 0), some (sD goods), some (wsD ws)], [.ins 0 ["held_goods"] [sD goods]]⟩) (by rw [d7, ah (i := 2) rfl]; rfl) trivial (by omega) (fun w _ => b8 (ds := [wD w]) (by rw [aE, ah (i := 0) rfl]; rfl) (by
      show ((true && (ax (w.us.map pD) && (ax (w.ms.map pD) && true))) && true) = true
      rw [dJ, dJ]; rfl) rfl (Bc w) (by
      show (true && (ax (w.us.map pD) && (ax (w.ms.map pD) && true))) = true
      rw [dJ, dJ]; rfl))
  have e5 := qw (c := 0) (f := "held_works") (mo := af 0) (k := 0) (ns := ["held_goods"]) (ds := [sD goods]) cw (ah rfl) rfl (by decide) (by simp)
  have cc := jx (l := ws) (item := wD) (out := fun w => vI (goods.map (chg w))) (caps := [1]) (im := listI (af 2)) (e := bt 2 gy (ai (af 0) (ai (af 1) av))) (k := none) (s := ⟨[some (.ptr 0), some (sD goods), some (wsD ws)], [.ins 0 ["held_goods", "held_works"] [sD goods, wsD ws]]⟩) (by rw [d7, ah (i := 2) rfl]; rfl) trivial (by omega) (fun w hwm => b8 (ds := [wD w, sD goods]) (by rw [aE, ah (i := 0) rfl, aa, aE, ah (i := 1) rfl]; rfl) (by
      show ((true && (ax (w.us.map pD) && (ax (w.ms.map pD) && true))) && (ax (goods.map D.str) && true)) = true
      rw [dJ, dJ, dk]; rfl) rfl (Bv (by have := (hw.us w hwm).2; omega) (by have := (hw.ms w hwm).2; omega) (by omega)) (by generalize goods.map (chg w) = r; simp))
  rw [show ws.map (fun w => vI (goods.map (chg w))) = (ws.map fun w => goods.map (chg w)).map vI by rw [List.map_map]; rfl] at cc
  have e6 := qw (c := 0) (f := "held_changes") (mo := af 0) (k := 0) (ns := ["held_goods", "held_works"]) (ds := [sD goods, wsD ws]) cc (ah rfl) rfl (by decide) (by simp)
  refine Eq.trans (aV e1) (Eq.trans (aV e2) (Eq.trans (aV e3) (Eq.trans (aV e4) (Eq.trans (aV e5) e6))))
theorem yf {goods : List Str} {ws : List Wk} {f : Str} {d : D} {R : List (Option D)} {O : aw} {i : Nat} (h : R[i]? = some (some (yD goods ws))) (hd : lJ f FN (yDs goods ws) = some d) : kS 0 f (af i) ⟨R, O⟩ = .ok (d, ⟨R, O⟩) := by
  rw [vR, ah h, aa]
  dsimp only
  rw [if_pos rfl, hd]
def jE (goods : List Str) (ws : List Wk) (k : Nat) : List Int := ws.map fun w => nth (goods.map (chg w)) k
theorem Dx {goods : List Str} {ws : List Wk} {k : Nat} (hk : k < goods.length) (h2 : ws.length ≤ 1000) : hJ [yD goods ws, .int (k : Int)] [] = .ok (vI (jE goods ws k), []) := by
  have hc := jx (l := ws.map fun w => goods.map (chg w)) (item := vI) (out := fun r => .int (nth r k)) (caps := [1]) (im := listI (kS 0 "held_changes" (af 0))) (e := ak ixD (af 0) (af 1)) (k := none) (s := ⟨[some (yD goods ws), some (.int (k : Int))], []⟩) (by
      rw [d7, yf (d := vII (ws.map fun w => goods.map (chg w))) rfl (by rfl)]; rfl) trivial (by rw [List.length_map]; omega) (fun r hr => by
      obtain ⟨w, _, rfl⟩ := List.mem_map.mp hr
      rw [aN, ah (i := 0) rfl, aa, ah (i := 1) rfl, aa]
      dsimp only
      rw [wj (by rw [List.length_map]; exact hk)]; rfl)
  rw [show (ws.map fun w => goods.map (chg w)).map (fun r => D.int (nth r k)) = (jE goods ws k).map D.int by unfold jE; rw [List.map_map, List.map_map]; rfl] at hc
  refine cH (s := ⟨[some (yD goods ws), some (.int (k : Int))], []⟩) ?_
  show iO ⟨[some (yD goods ws), some (.int (k : Int))], []⟩ = _
  rw [iO]
  exact dh hc
def jk (goods : List Str) (ws : List Wk) : List (List Int) := (List.range goods.length).map (jE goods ws)
theorem Cc {goods : List Str} {ws : List Wk} (h1 : goods.length ≤ 1000) (h2 : ws.length ≤ 1000) : fo [yD goods ws] [] = .ok (vII (jk goods ws), []) := by
  have hc := jx (l := List.range goods.length) (item := fun (i : Nat) => D.int (i : Int)) (out := fun k => vI (jE goods ws k)) (caps := [0]) (im := nq (ai (br dg (ai (kS 0 "held_goods" (af 0)) av)) av)) (e := methP 0 "row" 1 hJ (af 1) (ai (af 0) av)) (k := none) (s := ⟨[some (yD goods ws)], []⟩) (by
      rw [oK (n := goods.length) (s1 := ⟨[some (yD goods ws)], []⟩) (by
        rw [aE, eh, aE, yf (d := sD goods) rfl (by rfl), aa, aR, aa, aa]
        dsimp only
        rw [oR, List.length_map]; rfl) (by omega), qy]) trivial (j1 (by rw [List.length_range]; omega)) (fun k hk =>
      o9 (ns := FN) (ds := yDs goods ws) (args := [.int (k : Int)]) (ah rfl) (by decide) (eN _ _) (by rw [aE, ah (i := 0) rfl]; rfl) (by simp) rfl (Dx (List.mem_range.mp hk) h2) (by generalize jE goods ws k = r; simp))
  rw [show (List.range goods.length).map (fun k => vI (jE goods ws k)) = (jk goods ws).map vI by unfold jk; rw [List.map_map]; rfl] at hc
  refine cH (s := ⟨[some (yD goods ws)], []⟩) ?_
  show iv ⟨[some (yD goods ws)], []⟩ = _
  rw [iv]
  exact dh hc
def lvL (goods : List Str) (ws : List Wk) (way : List Int) : List Int := (jk goods ws).map fun r => aI r way
structure zf (goods : List Str) (ws : List Wk) (way : List Int) : Prop where
  ok : ∀ w ∈ ws, ∀ g ∈ goods, ∀ t ∈ way, IntMulOk (chg w g) t
theorem A6 {goods : List Str} {ws : List Wk} {k : Nat} (hk : k < goods.length) {x : Int} (h : x ∈ jE goods ws k) : ∃ w ∈ ws, ∃ g ∈ goods, x = chg w g := by
  unfold jE at h
  obtain ⟨w, hw, rfl⟩ := List.mem_map.mp h
  have hm := qb (r := goods.map (chg w)) (i := k) (by rw [List.length_map]; exact hk)
  obtain ⟨g, hg, e⟩ := List.mem_map.mp hm
  exact ⟨w, hw, g, hg, e.symm⟩
theorem ze {goods : List Str} {ws : List Wk} {way : List Int} : br dg (ai (kS 0 "held_works" (af 0)) av) ⟨[some (yD goods ws), some (vI way)], []⟩ = .ok (.int (ws.length : Int), ⟨[some (yD goods ws), some (vI way)], []⟩) := by
  rw [← List.length_map (f := wD) (as := ws)]
  sizeOf_list_dec
theorem tN {goods : List Str} {ws : List Wk} {way : List Int} : br dg (ai (af 1) av) ⟨[some (yD goods ws), some (vI way)], []⟩ = .ok (.int (way.length : Int), ⟨[some (yD goods ws), some (vI way)], []⟩) := by
  rw [← List.length_map (f := D.int) (as := way)]
  sizeOf_list_dec
theorem CG {goods : List Str} {ws : List Wk} {way : List Int} (h : way.length ≤ 1000) : br wH (ai (dc 1 [] (listI (af 1)) (aL 0) d4 (ak ltD (af 0) (ao (.int 0)))) av) ⟨[some (yD goods ws), some (vI way)], []⟩ = .ok (.bl (way.any fun t => decide (t < 0)), ⟨[some (yD goods ws), some (vI way)], []⟩) := by
  have hc := jx (l := way) (item := D.int) (out := fun t => .bl (decide (t < 0))) (caps := []) (im := listI (af 1)) (e := ak ltD (af 0) (ao (.int 0))) (k := none) (s := ⟨[some (yD goods ws), some (vI way)], []⟩) (by rw [d7, ah (i := 1) rfl]; rfl) trivial (by omega) (fun t _ => by sizeOf_list_dec)
  rw [show way.map (fun t => D.bl (decide (t < 0))) = (way.map fun t => decide (t < 0)).map D.bl by rw [List.map_map]; rfl] at hc
  refine nN (bH hc (aR _)) ?_
  rw [uo, List.any_map]
  rfl
def oZ (ws : List Wk) (way : List Int) : Prop := way.length ≠ ws.length ∨ ∃ t ∈ way, t < 0
theorem CW {goods : List Str} {ws : List Wk} {way : List Int} (hl : way.length = ws.length) (h2 : ws.length ≤ 1000) (h0 : ∀ t ∈ way, 0 ≤ t) : cQ [yD goods ws, vI way] [] = .ok (.non, []) := by
  refine BF (s := ⟨[some (yD goods ws), some (vI way)], []⟩) ?_
  show cR ⟨[some (yD goods ws), some (vI way)], []⟩ = _
  rw [cR]
  refine cO (nZ (ji (cD tN ze (nM _ _))) (by simp [hl]) (jd _)) (nZ (ji (CG (by omega))) ?_ (jd _))
  rw [List.any_eq_false]
  intro t ht
  simp [h0 t ht]
theorem Cb {goods : List Str} {ws : List Wk} {way : List Int} (h : oZ ws way) (hw : way.length ≤ 1000) : cQ [yD goods ws, vI way] [] = .exc 1 .non ⟨[some (yD goods ws), some (vI way)], []⟩ := by
  refine o5 ?_
  show cR ⟨[some (yD goods ws), some (vI way)], []⟩ = _
  rw [cR]
  by_cases hl : way.length = ws.length
  · refine cO (nZ (ji (cD tN ze (nM _ _))) (by simp [hl]) (jd _)) (sC (ji (CG hw)) ?_ (x_raise (bH (aK _ _) (aR _)) (by decide)))
    rcases h with h | ⟨t, ht, h0⟩
    · exact absurd hl h
    · exact List.any_eq_true.mpr ⟨t, ht, decide_eq_true h0⟩
  · refine AW (sC (ji (cD tN ze (nM _ _))) ?_ (x_raise (bH (aK _ _) (aR _)) (by decide)))
    simp; omega
theorem rD {goods : List Str} {ws : List Wk} {way : List Int} (hl : way.length = ws.length) (h1 : goods.length ≤ 1000) (h2 : ws.length ≤ 1000) (h0 : ∀ t ∈ way, 0 ≤ t) (hm : zf goods ws way) : aU [yD goods ws, vI way] [] = .ok (.ptr 0, [.lst ((lvL goods ws way).map D.int)]) := by
  have pv : ax [vI way] = true := jV way
  have e1 : fc 0 "check_way" 1 cQ (af 0) (ai (af 1) av) ⟨[some (yD goods ws), some (vI way)], []⟩ = .ok (.non, ⟨[some (yD goods ws), some (vI way)], []⟩) := vV (ns := FN) (ds := yDs goods ws) (args := [vI way]) (ah rfl) (bH (ah rfl) (aR _)) (CW hl h2 h0) (by decide) (eN _ _) pv rfl rfl rfl
  have hr := o9 (c := 0) (m := "rows") (n := 0) (f := fo) (mo := af 0) (ma := av) (s := ⟨[some (yD goods ws), some (vI way)], []⟩) (s1 := ⟨[some (yD goods ws), some (vI way)], []⟩) (s2 := ⟨[some (yD goods ws), some (vI way)], []⟩) (ns := FN) (ds := yDs goods ws) (args := []) (ah rfl) (by decide) (eN _ _) rfl rfl rfl (Cc h1 h2) (by generalize jk goods ws = r; simp)
  have hc := CZ (l := jk goods ws) (item := vI) (out := fun r => .int (aI r way)) (caps := [1]) (im := listI (methP 0 "rows" 0 fo (af 0) av)) (e := bt 2 dj (ai (af 0) (ai (af 1) av))) (k := none) (s := ⟨[some (yD goods ws), some (vI way)], []⟩) (by rw [d7, hr]; rfl) trivial (by unfold jk; rw [List.length_map, List.length_range]; omega) (fun r hrm => by
      unfold jk at hrm
      obtain ⟨k, hk, rfl⟩ := List.mem_map.mp hrm
      refine b8 (ds := [vI (jE goods ws k), vI way]) (by rw [aE, ah (i := 0) rfl, aa, aE, ah (i := 1) rfl]; rfl) (by generalize jE goods ws k = r; simp) rfl (Dq (by unfold jE; rw [List.length_map]; omega) fun p hp => ?_) (by simp)
      have hp' := List.of_mem_zip hp
      obtain ⟨w, hw, g, hg, e⟩ := A6 (List.mem_range.mp hk) hp'.1
      rw [e]
      exact hm.ok w hw g hg p.2 hp'.2)
  rw [show (jk goods ws).map (fun r => D.int (aI r way)) = (lvL goods ws way).map D.int by unfold lvL; rw [List.map_map]; rfl] at hc
  refine tQ (s := ⟨[some (yD goods ws), some (vI way)], [.lst ((lvL goods ws way).map D.int)]⟩) ?_
  show bW ⟨[some (yD goods ws), some (vI way)], []⟩ = _
  rw [bW]
  exact cO (b7 e1) (dh hc)
theorem pP {goods : List Str} {ws : List Wk} {way : List Int} (h : oZ ws way) (hw : way.length ≤ 1000) : aU [yD goods ws, vI way] [] = .exc 1 .non ⟨[some (yD goods ws), some (vI way)], []⟩ := by
  have pv : ax [vI way] = true := jV way
  refine o5 ?_
  show bW ⟨[some (yD goods ws), some (vI way)], []⟩ = _
  rw [bW]
  exact AW (qf (kC (ns := FN) (ds := yDs goods ws) (args := [vI way]) (ah rfl) (by decide) (eN _ _) (bH (ah rfl) (aR _)) pv rfl (Cb h hw)))
theorem uL {goods : List Str} {ws : List Wk} {way : List Int} (hl : way.length = ws.length) (h1 : goods.length ≤ 1000) (h2 : ws.length ≤ 1000) (h0 : ∀ t ∈ way, 0 ≤ t) (hm : zf goods ws way) : bD [yD goods ws, vI way] [] = .ok (.bl ((lvL goods ws way).all fun t => decide (t = 0)), [.dead]) := by
  have pv : ax [vI way] = true := jV way
  have lvlen : (lvL goods ws way).length ≤ 1000 := by unfold lvL jk; rw [List.length_map, List.length_map, List.length_range]; omega
  have lo := rD hl h1 h2 h0 hm
  generalize lvL goods ws way = lv at *
  have hr : fc 0 "leaves" 1 aU (af 0) (ai (af 1) av) ⟨[some (yD goods ws), some (vI way)], []⟩ = .ok (.ptr 0, ⟨[some (yD goods ws), some (vI way)], [.lst (lv.map D.int)]⟩) := vV (ns := FN) (ds := yDs goods ws) (args := [vI way]) (ah rfl) (bH (ah rfl) (aR _)) lo (by decide) (eN _ _) pv rfl rfl (by (first | (focus (conv => lhs; simp only [fB, fD, dq, shD, eu, List.set_cons_succ, List.set_cons_zero, List.nil_append, List.cons_append, List.length_cons, List.length_nil, List.map_cons, List.map_nil, Nat.reduceAdd, Nat.add_zero, Nat.zero_add]); done) | (focus (conv => lhs; simp only [fB, fD, dq, shD, eu, List.set_cons_succ, List.set_cons_zero, List.nil_append, List.cons_append, List.length_cons, List.length_nil, List.map_cons, List.map_nil, Nat.reduceAdd, Nat.add_zero, Nat.zero_add]); exact rfl) | exact rfl))
  have hz := v9 (O' := [.dead]) hr rfl rfl
  have hc := jx (l := lv) (item := D.int) (out := fun t => .bl (decide (t = 0))) (caps := []) (im := fun (_ : S) => listI (gE (fc 0 "leaves" 1 aU (af 0) (ai (af 1) av))) ⟨[some (yD goods ws), some (vI way)], []⟩) (e := ak eqD (af 0) (ao (.int 0))) (k := none) (s := ⟨[some (yD goods ws), some (vI way)], [.dead]⟩) (by
      show listI (gE (fc 0 "leaves" 1 aU (af 0) (ai (af 1) av))) ⟨[some (yD goods ws), some (vI way)], []⟩ = _
      rw [d7, hz, aa]; rfl) trivial (by omega) (fun t _ => by sizeOf_list_dec)
  have hc2 : dc 1 [] (listI (gE (fc 0 "leaves" 1 aU (af 0) (ai (af 1) av)))) (aL 0) d4 (ak eqD (af 0) (ao (.int 0))) ⟨[some (yD goods ws), some (vI way)], []⟩ = .ok (.lst ((lv.map fun t => decide (t = 0)).map D.bl), ⟨[some (yD goods ws), some (vI way)], [.dead]⟩) := by
    rw [List.map_map]
    refine Eq.trans ?_ hc
    unfold dc iB
    rfl
  refine tQ (s := ⟨[some (yD goods ws), some (vI way)], [.dead]⟩) ?_
  show bX ⟨[some (yD goods ws), some (vI way)], []⟩ = _
  rw [bX]
  refine dh (nN (bH hc2 (aR _)) ?_)
  rw [oU, List.all_map]
  rfl
theorem t7 {goods : List Str} {ws : List Wk} {way : List Int} (h : oZ ws way) (hw : way.length ≤ 1000) : bD [yD goods ws, vI way] [] = .exc 1 .non ⟨[some (yD goods ws), some (vI way)], []⟩ := by
  have pv : ax [vI way] = true := jV way
  refine o5 ?_
  show bX ⟨[some (yD goods ws), some (vI way)], []⟩ = _
  rw [bX]
  exact D1 (DW (Bn (Cg (yU (yz (kC (ns := FN) (ds := yDs goods ws) (args := [vI way]) (ah rfl) (by decide) (eN _ _) (bH (ah rfl) (aR _)) pv rfl (pP h hw)))))))
theorem vG {f : List D → Option (List D × D)} {mo : EM} {s s' : S} {k : Nat} {ds es : List D} {d : D} (h : mo s = .ok (.ptr k, s')) (hc : s'.o[k]? = some (.lst ds)) (hf : f ds = some (es, d)) : jq f mo s = .ok (d, ⟨s'.r, s'.o.set k (.lst es)⟩) := by
  unfold jq
  rw [h, aa]
  dsimp only
  rw [jb hc]
  dsimp only
  rw [hf]
structure Pt (goods : List Str) (i : Nat) (l : List (Str × Int)) : Prop where
  mem : ∀ p ∈ l, p.1 ∈ goods.take i
  pos : ∀ p ∈ l, 1 ≤ p.2
  nd : (l.map (·.1)).Nodup
  len : l.length ≤ i
theorem Pt.same {goods : List Str} {i : Nat} {l : List (Str × Int)} (h : Pt goods i l) : Pt goods (i + 1) l :=
  ⟨fun p hp => List.mem_of_mem_take (i := i) (by rw [List.take_take, Nat.min_eq_left (Nat.le_succ i)]; exact h.mem p hp), h.pos, h.nd, Nat.le_succ_of_le h.len⟩
theorem Pt.more {goods : List Str} (nd : goods.Nodup) {i : Nat} (hi : i < goods.length) {l : List (Str × Int)} (h : Pt goods i l) {a : Int} (ha : 1 ≤ a) : Pt goods (i + 1) (l ++ [(goods[i], a)]) := by
  have hs := h.same
  refine ⟨fun p hp => ?_, fun p hp => ?_, ?_, by rw [List.length_append, List.length_singleton]; have := h.len; omega⟩
  · rcases List.mem_append.mp hp with q | q
    · exact hs.mem p q
    · rw [List.mem_singleton.mp q, show goods.take (i + 1) = goods.take i ++ [goods[i]] by rw [List.take_add_one, List.getElem?_eq_getElem hi]; rfl]
      exact List.mem_append_right _ (List.mem_singleton.mpr rfl)
  · rcases List.mem_append.mp hp with q | q
    · exact h.pos p q
    · rw [List.mem_singleton.mp q]; exact ha
  · rw [List.map_append]
    refine List.nodup_append.mpr ⟨h.nd, by simp, fun x hx y hy => ?_⟩
    obtain ⟨p, hp, rfl⟩ := List.mem_map.mp hx
    have : y = goods[i] := by simpa using hy
    subst this
    intro e
    exact jM nd hi (e ▸ h.mem p hp)
theorem Pt.parts {goods : List Str} {i : Nat} {l : List (Str × Int)} (h : Pt goods i l) : fO goods l := ⟨fun p hp => List.mem_of_mem_take (h.mem p hp), h.pos, h.nd⟩
theorem fO.rev {goods : List Str} {l : List (Str × Int)} (h : fO goods l) : fO goods l.reverse :=
  ⟨fun p hp => h.mem p (List.mem_reverse.mp hp), fun p hp => h.pos p (List.mem_reverse.mp hp), by rw [List.map_reverse]; exact List.pairwise_reverse.mpr (h.nd.imp fun e => e.symm)⟩
abbrev wkR (c : Int) (nm : Str) (goods : List Str) (wide : Int) (x6 x7 x8 x9 : Option D) : List (Option D) := [some (.int c), some (.str nm), some (sD goods), some (.int wide), some (.ptr 0), some (.ptr 1), x6, x7, x8, x9]
theorem xF {c wide : Int} {nm : Str} {goods : List Str} {i : Nat} {us ms : List (Str × Int)} {x8 x9 : Option D} (nd : goods.Nodup) (hi : i < goods.length) (hg : goods.length ≤ 100) (hu : Pt goods i us) (hm : Pt goods i ms) (hw : 1 ≤ wide) :
    ∃ c' us' ms' y8 y9, gW ⟨wkR c nm goods wide (some (.int (i : Int))) (some (.str goods[i])) x8 x9, [.lst (us.map pD), .lst (ms.map pD)]⟩ = .next ⟨wkR c' nm goods wide (some (.int (i : Int))) (some (.str goods[i])) y8 y9, [.lst (us'.map pD), .lst (ms'.map pD)]⟩ ∧ Pt goods (i + 1) us' ∧ Pt goods (i + 1) ms' := by
  generalize hO : ([.lst (us.map pD), .lst (ms.map pD)] : aw) = O
  obtain ⟨c', ec⟩ := vv c ((i : Int) % 3) ⟨by omega, by omega⟩
  have e0 := dG (i := 0) (b8 (n := 2) (f := ee) (ma := ai (af 0) (ai (ak aY (af 6) (ao (.int 3))) av)) (s := ⟨wkR c nm goods wide (some (.int (i : Int))) (some (.str goods[i])) x8 x9, O⟩) (s' := ⟨wkR c nm goods wide (some (.int (i : Int))) (some (.str goods[i])) x8 x9, O⟩) (ds := [.int c, .int ((i : Int) % 3)]) (by
    rw [aE, ah (i := 0) rfl, aa, aE, aN, ah (i := 6) rfl, aa, aK, aa]
    dsimp only
    rw [cF (by decide)]; rfl) (by simp) rfl ec (by simp))
  have dm : ∀ (y8 y9 : Option D) (a b : Int), 0 < a → a < 1000000 → 0 < b → ak aY (ak bK (af 0) (ao (.int a))) (ao (.int b)) ⟨wkR c' nm goods wide (some (.int (i : Int))) (some (.str goods[i])) y8 y9, O⟩ = .ok (.int (c' / a % b), ⟨wkR c' nm goods wide (some (.int (i : Int))) (some (.str goods[i])) y8 y9, O⟩) := fun y8 y9 a b h1 h2 h3 => by
    rw [aN, aN, ah (i := 0) rfl, aa, aK, aa]
    dsimp only
    rw [cj h1 (by omega), aa, aa, aK, aa]
    dsimp only
    rw [cF h3]; rfl
  have md : ∀ (y8 y9 : Option D) (P : aw), ak aY (af 0) (ao (.int 7)) ⟨wkR c' nm goods wide (some (.int (i : Int))) (some (.str goods[i])) y8 y9, P⟩ = .ok (.int (c' % 7), ⟨wkR c' nm goods wide (some (.int (i : Int))) (some (.str goods[i])) y8 y9, P⟩) := fun y8 y9 P => by
    rw [aN, ah (i := 0) rfl, aa, aK, aa]
    dsimp only
    rw [cF (by decide)]; rfl
  have e8 := dG (i := 8) (m := ak aX (ao (.int 1)) (ak aY (ak bK (af 0) (ao (.int 7))) (ao (.int 3)))) (s := ⟨wkR c' nm goods wide (some (.int (i : Int))) (some (.str goods[i])) x8 x9, O⟩) (s' := ⟨wkR c' nm goods wide (some (.int (i : Int))) (some (.str goods[i])) x8 x9, O⟩) (d := .int (1 + c' / 7 % 3)) (by
    rw [aN, aK, aa, dm _ _ 7 3 (by decide) (by decide) (by decide), aa]; rfl)
  have e9 := dG (i := 9) (m := ak aX (ao (.int 1)) (ak aY (ak bK (af 0) (ao (.int 21))) (ao (.int 3)))) (s := ⟨wkR c' nm goods wide (some (.int (i : Int))) (some (.str goods[i])) (some (.int (1 + c' / 7 % 3))) x9, O⟩) (s' := ⟨wkR c' nm goods wide (some (.int (i : Int))) (some (.str goods[i])) (some (.int (1 + c' / 7 % 3))) x9, O⟩) (d := .int (1 + c' / 21 % 3)) (by
    rw [aN, aK, aa, dm _ _ 21 3 (by decide) (by decide) (by decide), aa]; rfl)
  have st1 : ∃ a : Int, 1 ≤ a ∧ (ifS (bq (ak eqD (ak aY (ak bK (af 0) (ao (.int 63))) (ao (.int 6))) (ao (.int 0)))) (setM 8 (ak aX (ak iR (af 8) (af 3)) (ak aY (ak bK (af 0) (ao (.int 378))) (ao (.int 5))))) cm) ⟨wkR c' nm goods wide (some (.int (i : Int))) (some (.str goods[i])) (some (.int (1 + c' / 7 % 3))) (some (.int (1 + c' / 21 % 3))), O⟩ = .next ⟨wkR c' nm goods wide (some (.int (i : Int))) (some (.str goods[i])) (some (.int a)) (some (.int (1 + c' / 21 % 3))), O⟩ := by
    by_cases h : c' / 63 % 6 = 0
    · refine ⟨(1 + c' / 7 % 3) * wide + c' / 378 % 5, ?_, Eq.trans (kr (by rw [eq_test (dm _ _ 63 6 (by decide) (by decide) (by decide)), decide_eq_true h])) (dG (i := 8) (s' := ⟨wkR c' nm goods wide (some (.int (i : Int))) (some (.str goods[i])) (some (.int (1 + c' / 7 % 3))) (some (.int (1 + c' / 21 % 3))), O⟩) ?_)⟩
      · have h1 : 1 ≤ 1 + c' / 7 % 3 := by omega
        have : 1 * 1 ≤ (1 + c' / 7 % 3) * wide := Int.mul_le_mul h1 hw (by decide) (by omega)
        omega
      · rw [aN, aN, ah (i := 8) rfl, aa, ah (i := 3) rfl, aa]
        dsimp only
        rw [fX (eg (.inl (by omega))), aa, aa, dm _ _ 378 5 (by decide) (by decide) (by decide), aa]
        rfl
    · exact ⟨1 + c' / 7 % 3, by omega, Eq.trans (fZ (by rw [eq_test (dm _ _ 63 6 (by decide) (by decide) (by decide)), decide_eq_false h])) rfl⟩
  obtain ⟨a, ha, e10⟩ := st1
  have st2 : ∃ b : Int, 1 ≤ b ∧ (ifS (bq (ak eqD (ak aY (ak bK (af 0) (ao (.int 63))) (ao (.int 6))) (ao (.int 1)))) (setM 9 (ak aX (ak iR (af 9) (af 3)) (ak aY (ak bK (af 0) (ao (.int 378))) (ao (.int 5))))) cm) ⟨wkR c' nm goods wide (some (.int (i : Int))) (some (.str goods[i])) (some (.int a)) (some (.int (1 + c' / 21 % 3))), O⟩ = .next ⟨wkR c' nm goods wide (some (.int (i : Int))) (some (.str goods[i])) (some (.int a)) (some (.int b)), O⟩ := by
    by_cases h : c' / 63 % 6 = 1
    · refine ⟨(1 + c' / 21 % 3) * wide + c' / 378 % 5, ?_, Eq.trans (kr (by rw [eq_test (dm _ _ 63 6 (by decide) (by decide) (by decide)), decide_eq_true h])) (dG (i := 9) (s' := ⟨wkR c' nm goods wide (some (.int (i : Int))) (some (.str goods[i])) (some (.int a)) (some (.int (1 + c' / 21 % 3))), O⟩) ?_)⟩
      · have h1 : 1 ≤ 1 + c' / 21 % 3 := by omega
        have : 1 * 1 ≤ (1 + c' / 21 % 3) * wide := Int.mul_le_mul h1 hw (by decide) (by omega)
        omega
      · rw [aN, aN, ah (i := 9) rfl, aa, ah (i := 3) rfl, aa]
        dsimp only
        rw [fX (eg (.inl (by omega))), aa, aa, dm _ _ 378 5 (by decide) (by decide) (by decide), aa]
        rfl
    · exact ⟨1 + c' / 21 % 3, by omega, Eq.trans (fZ (by rw [eq_test (dm _ _ 63 6 (by decide) (by decide) (by decide)), decide_eq_false h])) rfl⟩
  obtain ⟨b, hb, e11⟩ := st2
  subst hO
  have lt7 : ∀ (P : aw) (j : Int), bq (ak ltD (ak aY (af 0) (ao (.int 7))) (ao (.int j))) ⟨wkR c' nm goods wide (some (.int (i : Int))) (some (.str goods[i])) (some (.int a)) (some (.int b)), P⟩ = .ok (decide (c' % 7 < j), ⟨wkR c' nm goods wide (some (.int (i : Int))) (some (.str goods[i])) (some (.int a)) (some (.int b)), P⟩) := fun P j => by
    rw [eO, aN, md, aa, aK, aa]
    dsimp only
    rw [n8]; rfl
  have st3 : ∃ us', Pt goods (i + 1) us' ∧ (ifS (orT (bq (ak ltD (ak aY (af 0) (ao (.int 7))) (ao (.int 3)))) (bq (ak eqD (ak aY (af 0) (ao (.int 7))) (ao (.int 6))))) (bE (eE (af 4) (il (ai (af 7) (ai (af 8) av))))) cm) ⟨wkR c' nm goods wide (some (.int (i : Int))) (some (.str goods[i])) (some (.int a)) (some (.int b)), [.lst (us.map pD), .lst (ms.map pD)]⟩ = .next ⟨wkR c' nm goods wide (some (.int (i : Int))) (some (.str goods[i])) (some (.int a)) (some (.int b)), [.lst (us'.map pD), .lst (ms.map pD)]⟩ := by
    have ht : orT (bq (ak ltD (ak aY (af 0) (ao (.int 7))) (ao (.int 3)))) (bq (ak eqD (ak aY (af 0) (ao (.int 7))) (ao (.int 6)))) ⟨wkR c' nm goods wide (some (.int (i : Int))) (some (.str goods[i])) (some (.int a)) (some (.int b)), [.lst (us.map pD), .lst (ms.map pD)]⟩ = .ok (decide (c' % 7 < 3) || decide (c' % 7 = 6), ⟨wkR c' nm goods wide (some (.int (i : Int))) (some (.str goods[i])) (some (.int a)) (some (.int b)), [.lst (us.map pD), .lst (ms.map pD)]⟩) := by
      rw [nD, lt7, aa]
      dsimp only
      rw [eq_test (md _ _ _)]
      cases decide (c' % 7 < 3) <;> rfl
    cases hd : (decide (c' % 7 < 3) || decide (c' % 7 = 6)) with
    | true =>
      refine ⟨us ++ [(goods[i], a)], hu.more nd hi ha, Eq.trans (kr (by rw [ht, hd])) ?_⟩
      refine Eq.trans (b7 (jX (mo := af 4) (me := il (ai (af 7) (ai (af 8) av))) (k := 0) (d := pD (goods[i], a)) (ah rfl) rfl (by rw [jW, aE, ah (i := 7) rfl, aa, aE, ah (i := 8) rfl]; rfl) rfl (by simp; have := hu.len; omega))) ?_
      rw [List.map_append]
      rfl
    | false => exact ⟨us, hu.same, Eq.trans (fZ (by rw [ht, hd])) rfl⟩
  obtain ⟨us', hu', e12⟩ := st3
  have st4 : ∃ ms', Pt goods (i + 1) ms' ∧ (ifS (orT (oW (bq (ak gtD (ak aY (af 0) (ao (.int 7))) (ao (.int 2)))) (bq (ak ltD (ak aY (af 0) (ao (.int 7))) (ao (.int 5))))) (bq (ak eqD (ak aY (af 0) (ao (.int 7))) (ao (.int 6))))) (bE (eE (af 5) (il (ai (af 7) (ai (af 9) av))))) cm) ⟨wkR c' nm goods wide (some (.int (i : Int))) (some (.str goods[i])) (some (.int a)) (some (.int b)), [.lst (us'.map pD), .lst (ms.map pD)]⟩ = .next ⟨wkR c' nm goods wide (some (.int (i : Int))) (some (.str goods[i])) (some (.int a)) (some (.int b)), [.lst (us'.map pD), .lst (ms'.map pD)]⟩ := by
    have ht : orT (oW (bq (ak gtD (ak aY (af 0) (ao (.int 7))) (ao (.int 2)))) (bq (ak ltD (ak aY (af 0) (ao (.int 7))) (ao (.int 5))))) (bq (ak eqD (ak aY (af 0) (ao (.int 7))) (ao (.int 6)))) ⟨wkR c' nm goods wide (some (.int (i : Int))) (some (.str goods[i])) (some (.int a)) (some (.int b)), [.lst (us'.map pD), .lst (ms.map pD)]⟩ = .ok ((decide (2 < c' % 7) && decide (c' % 7 < 5)) || decide (c' % 7 = 6), ⟨wkR c' nm goods wide (some (.int (i : Int))) (some (.str goods[i])) (some (.int a)) (some (.int b)), [.lst (us'.map pD), .lst (ms.map pD)]⟩) := by
      rw [nD, Br (jZ (md _ _ _)) (lt7 _ _), aa]
      dsimp only
      rw [eq_test (md _ _ _)]
      cases (decide (2 < c' % 7) && decide (c' % 7 < 5)) <;> rfl
    cases hd : ((decide (2 < c' % 7) && decide (c' % 7 < 5)) || decide (c' % 7 = 6)) with
    | true =>
      refine ⟨ms ++ [(goods[i], b)], hm.more nd hi hb, Eq.trans (kr (by rw [ht, hd])) ?_⟩
      refine Eq.trans (b7 (jX (mo := af 5) (me := il (ai (af 7) (ai (af 9) av))) (k := 1) (d := pD (goods[i], b)) (ah rfl) rfl (by rw [jW, aE, ah (i := 7) rfl, aa, aE, ah (i := 9) rfl]; rfl) rfl (by simp; have := hm.len; omega))) ?_
      rw [List.map_append]
      rfl
    | false => exact ⟨ms, hm.same, Eq.trans (fZ (by rw [ht, hd])) rfl⟩
  obtain ⟨ms', hm', e13⟩ := st4
  refine ⟨c', us', ms', some (.int a), some (.int b), ?_, hu', hm'⟩
  rw [gW, aV e0]
  exact Eq.trans (aV e8) (Eq.trans (aV e9) (Eq.trans (aV e10) (Eq.trans (aV e11) (Eq.trans (aV e12) e13))))
structure Dm (goods : List Str) (w : Wk) : Prop where
  us : fO goods w.us
  ul : w.us.length ≤ 100
  ms : fO goods w.ms
  ml : w.ms.length ≤ 100
theorem Bh {c wide : Int} {nm : Str} {goods : List Str} (nd : goods.Nodup) (hg : goods.length ≤ 100) (hw : 1 ≤ wide) : ∃ w O, iT [.int c, .str nm, sD goods, .int wide] [] = .ok (wD w, O) ∧ w.nm = nm ∧ Dm goods w := by
  have e4 : setM 4 (gb av) ⟨[some (.int c), some (.str nm), some (sD goods), some (.int wide), none, none, none, none, none, none], []⟩ = .next ⟨[some (.int c), some (.str nm), some (sD goods), some (.int wide), some (.ptr 0), none, none, none, none, none], [.lst []]⟩ := by simp
  have e5 : setM 5 (gb av) ⟨[some (.int c), some (.str nm), some (sD goods), some (.int wide), some (.ptr 0), none, none, none, none, none], [.lst []]⟩ = .next ⟨wkR c nm goods wide none none none none, [.lst [], .lst []]⟩ := by simp
  obtain ⟨s', el, c', us, ms, y6, y7, y8, y9, hu, hm, hs'⟩ := eX (ok := okC (d9 (goods.map D.str)) none) (g := dv (aS (aL 6) (aS (aL 7) dA)) 2) (body := gW)
    (fun pre s => ∃ c' us ms y6 y7 y8 y9, Pt goods pre.length us ∧ Pt goods pre.length ms ∧ s = ⟨wkR c' nm goods wide y6 y7 y8 y9, [.lst (us.map pD), .lst (ms.map pD)]⟩) (fun _ _ _ => trivial) (d9 (goods.map D.str)) [] (by
      rintro pre d rest ed s ⟨c', us, ms, y6, y7, y8, y9, hu, hm, rfl⟩
      rw [List.nil_append, jz] at ed
      obtain ⟨hl, rfl⟩ := j8 ed
      obtain ⟨c2, us', ms', z8, z9, eb, hu', hm'⟩ := xF (c := c') (wide := wide) (nm := nm) (goods := goods) (i := pre.length) (x8 := y8) (x9 := y9) nd hl hg hu hm hw
      refine ⟨_, _, by rw [kl]; rfl, .inl eb, c2, us', ms', _, _, z8, z9, ?_, ?_, rfl⟩
      · rw [List.length_append, List.length_singleton]; exact hu'
      · rw [List.length_append, List.length_singleton]; exact hm') ⟨wkR c nm goods wide none none none none, [.lst [], .lst []]⟩ ⟨c, [], [], none, none, none, none, ⟨by simp, by simp, by simp, by simp⟩, ⟨by simp, by simp, by simp, by simp⟩, rfl⟩
  have hf := iM (im := fg (ai (af 2) av)) (g := dv (aS (aL 6) (aS (aL 7) dA)) 2) (body := gW) (s := ⟨wkR c nm goods wide none none none none, [.lst [], .lst []]⟩) (ds := d9 (goods.map D.str)) (k := none) (s1 := ⟨wkR c nm goods wide none none none none, [.lst [], .lst []]⟩) (by
    rw [jD, aE, ah (i := 2) rfl, aa, aR, aa, aa])
  rw [el, hs'] at hf
  have hlen : ([] ++ d9 (goods.map D.str)).length = goods.length := by rw [List.nil_append, jz]; simp
  rw [hlen] at hu hm
  have st : ∃ us' ms', fO goods us' ∧ us'.length ≤ 100 ∧ fO goods ms' ∧ ms'.length ≤ 100 ∧ (ifS (bq (ak eqD (ak aY (ak bK (af 0) (ao (.int 11))) (ao (.int 2))) (ao (.int 1)))) (aT (bE (jq oV (af 4))) (bE (jq oV (af 5)))) cm) ⟨wkR c' nm goods wide y6 y7 y8 y9, [.lst (us.map pD), .lst (ms.map pD)]⟩ = .next ⟨wkR c' nm goods wide y6 y7 y8 y9, [.lst (us'.map pD), .lst (ms'.map pD)]⟩ := by
    have ct : ak aY (ak bK (af 0) (ao (.int 11))) (ao (.int 2)) ⟨wkR c' nm goods wide y6 y7 y8 y9, [.lst (us.map pD), .lst (ms.map pD)]⟩ = .ok (.int (c' / 11 % 2), ⟨wkR c' nm goods wide y6 y7 y8 y9, [.lst (us.map pD), .lst (ms.map pD)]⟩) := by
      rw [aN, aN, ah (i := 0) rfl, aa, aK, aa]
      dsimp only
      rw [cj (by decide) (by decide), aa, aa, aK, aa]
      dsimp only
      rw [cF (by decide)]; rfl
    have ul := hu.len
    have ml := hm.len
    by_cases h : c' / 11 % 2 = 1
    · refine ⟨us.reverse, ms.reverse, hu.parts.rev, by simp; omega, hm.parts.rev, by simp; omega, Eq.trans (kr (by rw [eq_test ct, decide_eq_true h])) ?_⟩
      have r1 := b7 (vG (f := oV) (mo := af 4) (s := ⟨wkR c' nm goods wide y6 y7 y8 y9, [.lst (us.map pD), .lst (ms.map pD)]⟩) (s' := ⟨wkR c' nm goods wide y6 y7 y8 y9, [.lst (us.map pD), .lst (ms.map pD)]⟩) (k := 0) (ds := us.map pD) (ah rfl) rfl rfl)
      have r2 := b7 (vG (f := oV) (mo := af 5) (s := ⟨wkR c' nm goods wide y6 y7 y8 y9, [.lst (us.map pD).reverse, .lst (ms.map pD)]⟩) (s' := ⟨wkR c' nm goods wide y6 y7 y8 y9, [.lst (us.map pD).reverse, .lst (ms.map pD)]⟩) (k := 1) (ds := ms.map pD) (ah rfl) rfl rfl)
      rw [List.map_reverse, List.map_reverse]
      exact Eq.trans (aV r1) r2
    · exact ⟨us, ms, hu.parts, by omega, hm.parts, by omega, Eq.trans (fZ (by rw [eq_test ct, decide_eq_false h])) rfl⟩
  obtain ⟨us', ms', p1, l1, p2, l2, e6⟩ := st
  obtain ⟨O, eo⟩ := vZ (n := 10) (m := ib) (ds := [.int c, .str nm, sD goods, .int wide]) (O := []) (d := wD ⟨nm, us', ms'⟩) ⟨⟨wkR c' nm goods wide y6 y7 y8 y9, [.dead, .dead]⟩, by
    show ib ⟨[some (.int c), some (.str nm), some (sD goods), some (.int wide), none, none, none, none, none, none], []⟩ = _
    rw [ib, aV e4]
    refine Eq.trans (aV e5) (Eq.trans (aV hf) (Eq.trans (aV e6) (dh ?_)))
    rw [jW, aE, ah (i := 1) rfl, aa, aE, n4 (k := 0) (ah (i := 4) rfl) rfl, aa]
    dsimp only
    rw [aE, n4 (k := 1) (ah (i := 5) rfl) rfl, aa]
    rfl⟩
  exact ⟨⟨nm, us', ms'⟩, O, eo, rfl, p1, l1, p2, l2⟩
theorem Et {α : Type} {caps : List Nat} {im : IM} {e : EM} {s : S} {k : Option Nat} {l : List α} {f g h out : α → D} (him : im s = .ok ((l.map (fun a => D.tup [f a, g a, h a]), k), s)) (hok : okC (l.map (fun a => D.tup [f a, g a, h a])) k s.o) (hl : l.length ≤ 16777216)
    (he : ∀ a ∈ l, e ⟨some (f a) :: some (g a) :: some (h a) :: caps.map (fun i => (s.r[i]?).getD none), s.o⟩ = .ok (out a, ⟨some (f a) :: some (g a) :: some (h a) :: caps.map (fun i => (s.r[i]?).getD none), s.o⟩)) :
    dc 3 caps im (dv (aS (aL 0) (aS (aL 1) (aS (aL 2) dA))) 3) d4 e s = .ok (.lst (l.map out), s) := by
  obtain ⟨s', e1, x, y, z, h1⟩ := kO (ok := okC (l.map (fun a => D.tup [f a, g a, h a])) k) (g := dv (aS (aL 0) (aS (aL 1) (aS (aL 2) dA))) 3) (c := d4) (e := e) (O := s.o) hok (fun a => D.tup [f a, g a, h a]) (fun s2 => ∃ x y z, s2 = ⟨x :: y :: z :: caps.map (fun i => (s.r[i]?).getD none), s.o⟩) (by rintro _ ⟨_, _, _, rfl⟩; rfl) l (fun _ => true) out (by
    rintro a ha _ ⟨x, y, z, rfl⟩
    exact ⟨_, _, by rw [tq]; rfl, rfl, fun _ => ⟨_, _, _, rfl⟩, fun _ => ⟨_, he a ha, _, _, _, rfl⟩⟩) [] ⟨lH 3 caps s.r, s.o⟩ (by simpa using hl) ⟨none, none, none, rfl⟩
  rw [mf, pb, him, aa]
  dsimp only
  rw [e1, aa]
  subst h1
  rw [jl]
  rfl
theorem Ap {ws : List Wk} (hl : ws.length ≤ 1000) : hX [wsD ws] [] = .ok (wsD ws, []) := by
  have hc := Et (l := ws) (f := fun w => .str w.nm) (g := fun w => psD w.us) (h := fun w => psD w.ms) (out := wD) (caps := []) (im := listI (af 0)) (e := il (ai (af 0) (ai (br de (ai (af 1) av)) (ai (br de (ai (af 2) av)) av)))) (k := none) (s := ⟨[some (wsD ws)], []⟩) (by rw [d7, ah (i := 0) rfl]; rfl) trivial (by omega) (fun w _ => by
      rw [jW, aE, ah (i := 0) rfl, aa, aE, eh, aE, ah (i := 1) rfl, aa, aR, aa, aa]
      dsimp only
      rw [gY, aa, aa, aE, eh, aE, ah (i := 2) rfl, aa, aR, aa, aa]
      dsimp only
      rw [gY, aa, aa, aR, aa, aa, aa, aa]
      rfl)
  refine cH (s := ⟨[some (wsD ws)], []⟩) ?_
  show i3 ⟨[some (wsD ws)], []⟩ = _
  rw [i3]
  exact dh hc
theorem pW {goods : List Str} {ws : List Wk} {way : List Int} (h : oZ ws way) (hw : way.length ≤ 1000) (q : Bool) : d5 [yD goods ws, vI way, .bl q] [] = .ok (.bl true, []) := by
  have pv : ax [vI way] = true := jV way
  refine cH (s := ⟨[some (yD goods ws), some (vI way), some (.bl q), some (vI way), some (.bl true), none, some (.bl false), some (.bl false)], []⟩) ?_
  show eL ⟨[some (yD goods ws), some (vI way), some (.bl q), none, none, none, none, none], []⟩ = _
  rw [eL]
  ((apply cO; sizeOf_list_dec))
  ((apply cO; sizeOf_list_dec))
  have body : ifS (bq (af 2)) (bE (gE (fc 0 "leaves" 1 aU (af 0) (ai (af 3) av)))) (bE (fc 0 "balanced" 1 bD (af 0) (ai (af 3) av))) ⟨[some (yD goods ws), some (vI way), some (.bl q), some (vI way), some (.bl false), none, none, none], []⟩ = .exc 1 .non ⟨[some (yD goods ws), some (vI way), some (.bl q), some (vI way), some (.bl false), none, none, none], []⟩ := by
    cases q with
    | true => exact sC (ji (ah rfl)) rfl (qf (yz (kC (ns := FN) (ds := yDs goods ws) (args := [vI way]) (ah rfl) (by decide) (eN _ _) (bH (ah rfl) (aR _)) pv rfl (pP h hw))))
    | false => exact nZ (ji (ah rfl)) rfl (qf (kC (ns := FN) (ds := yDs goods ws) (args := [vI way]) (ah rfl) (by decide) (eN _ _) (bH (ah rfl) (aR _)) pv rfl (t7 h hw)))
  refine cO (DC body (EA rfl (EJ (R1 := [some (yD goods ws), some (vI way), some (.bl q), some (vI way), some (.bl true), some (.exn 1), some (.bl false), some (.bl false)]) (O1 := []) ?_))) ?_
  · refine cO (jP (R' := [some (yD goods ws), some (vI way), some (.bl q), some (vI way), some (.bl false), some (.exn 1), some (.bl false), none]) (sA (ah rfl) rfl) rfl) (cO (jP (R' := [some (yD goods ws), some (vI way), some (.bl q), some (vI way), some (.bl false), some (.exn 1), some (.bl false), some (.bl false)]) (sA (ah rfl) rfl) rfl) (jP (d := .bl true) (R := [some (yD goods ws), some (vI way), some (.bl q), some (vI way), some (.bl false), some (.exn 1), some (.bl false), some (.bl false)]) (O := []) ?_ rfl))
    exact nP (p := true) (sA (ah rfl) rfl) rfl (nP (p := true) (sA (ah rfl) rfl) rfl (nP (p := true) (tG (b := false) (ah rfl)) rfl (tG (b := false) (ah rfl))))
  · refine dh (nP (p := true) (ah rfl) rfl (cD (ah rfl) (ah rfl) ?_))
    rw [sJ, decide_eq_true rfl]
theorem zT (O : aw) (a : List Int) (b : Bool) : eqD O (.tup [vI a, .bl b]) (.tup [vI a, .bl b]) = .ok (.bl true) := by
  unfold eqD
  have : eqB O (.tup [vI a, .bl b]) (.tup [vI a, .bl b]) = some true := by
    show gj O _ _ = _
    unfold gj
    simp only [res, bI, wg, toPy, hZ, jU, Option.map_some]
    have hs : SeqAt.shaped (.tuple [.list (a.map PyData.int), .bool b]) = true := by
      simp [SeqAt.shaped, PyData.canLay0, PyData.canLayAll0, jm, PyData.depth, PyData.depthAll, jO]
    rw [if_pos ⟨hs, hs⟩]
    simp [PyData.eqv, PyData.eqvAll, mq]
  rw [this]
theorem BO {O : aw} {l : List Str} {i : Nat} (h : i < l.length) : ixD O (sD l) (.int (i : Int)) = .ok (.str l[i]) := by
  refine iN ?_
  rw [tW (by simpa using h)]
  simp
theorem pV {α : Type} (f : α → D) (l : List α) (n : Nat) : cutD (l.map f) none (some (n : Int)) = (l.take n).map f := by
  unfold M.cutD
  rw [HT.pe, HT.lD, List.length_map, List.drop_zero, Nat.sub_zero, List.map_take]
  rcases Nat.le_total n l.length with h | h
  · rw [Nat.min_eq_left h]
  · rw [Nat.min_eq_right h, List.take_of_length_le (by simp), List.take_of_length_le (by simpa using h)]
theorem wV {α : Type} (f : α → D) (l : List α) (n : Nat) (hn : n ≤ l.length) : cutD (l.map f) (some (n : Int)) none = (l.drop n).map f := by
  unfold M.cutD
  rw [HT.pe, HT.lD, List.length_map, Nat.min_eq_left hn, List.map_drop, List.take_of_length_le (by simp)]
theorem yw {i k : Nat} {R : List (Option D)} {O : aw} {ds : List D} (h : R[i]? = some (some (.ptr k))) (hc : O[k]? = some (.lst ds)) : jN i ⟨R, O⟩ = .ok (.lst ds, ⟨R.set i (some (.lst ds)), O.set k .dead⟩) := by
  rw [Ag, ah h, aa]
  dsimp only
  rw [jb hc]
structure wQ (words goods : List Str) (n : Nat) (ws : List Wk) (way : List Int) : Prop where
  nms : ws.map (·.nm) = words.take n
  ok : ∀ w ∈ ws, Dm goods w
  len : way.length = ws.length
  n0 : ∀ t ∈ way, 0 ≤ t ∧ t ≤ 3
abbrev kR (ns : List Int) (words goods : List Str) (x3 x4 x5 x6 x7 x8 x9 x10 x11 : Option D) : List (Option D) := [some (.lst (ns.map D.int)), some (sD words), some (sD goods), x3, x4, x5, x6, x7, x8, x9, x10, x11]
theorem xT {ns : List Int} {words goods : List Str} {i : Nat} {c : Int} {ws : List Wk} {way : List Int} (nd : goods.Nodup) (hg : goods.length ≤ 100) (hi : i < words.length) (hw : words.length ≤ 100) (h : wQ words goods i ws way) :
    ∃ ws' way', lC ⟨kR ns words goods (some (.ptr 0)) (some (.ptr 1)) (some (.int (i : Int))) (some (.int c)) none none none none none, [.lst (ws.map wD), .lst (way.map D.int)]⟩ = .next ⟨kR ns words goods (some (.ptr 0)) (some (.ptr 1)) (some (.int (i : Int))) (some (.int c)) none none none none none, [.lst (ws'.map wD), .lst (way'.map D.int)]⟩ ∧ wQ words goods (i + 1) ws' way' := by
  obtain ⟨w, O1, ew, hnm, hok⟩ := Bh (c := c % 1000000000000000000000000000000) (wide := 100000000000000000000) (nm := words[i]) nd hg (by decide)
  obtain ⟨z, ez⟩ := vv c 1 ⟨by decide, by decide⟩
  have wl : ws.length ≤ 100 := by
    have := congrArg List.length h.nms
    simp at this
    omega
  have hix := BO (O := [.lst (ws.map wD), .lst (way.map D.int)]) hi
  have pa : ax [.int (c % 1000000000000000000000000000000), .str words[i], sD goods, .int 100000000000000000000] = true := by
    show (true && (true && (ax (goods.map D.str) && (true && true)))) = true
    rw [dk]; rfl
  have pw : bG (wD w) = true := by
    show (true && (ax (w.us.map pD) && (ax (w.ms.map pD) && true))) = true
    rw [dJ, dJ]; rfl
  have l1 : (ws.map wD).length ≤ 1000000 := by simp; omega
  have l2 : (way.map D.int).length ≤ 1000000 := by have := h.len; simp; omega
  refine ⟨ws ++ [w], way ++ [z / 3 % 4], ?_, ⟨?_, fun v hv => ?_, by simp [h.len], fun v hv => ?_⟩⟩
  · rw [lC, List.map_append, List.map_append]
    ((apply cO; sizeOf_list_dec))
    sizeOf_list_dec
  · rw [List.map_append, h.nms, List.take_add_one, List.getElem?_eq_getElem hi, List.map_cons, hnm]; rfl
  · rcases List.mem_append.mp hv with q | q
    · exact h.ok v q
    · rw [List.mem_singleton.mp q]; exact hok
  · rcases List.mem_append.mp hv with q | q
    · exact h.n0 v q
    · rw [List.mem_singleton.mp q]; omega
theorem yP (O : aw) (c d : Cell) : (O ++ [c]).set O.length d = O ++ [d] := by
  induction O with
  | nil => rfl
  | cons a O ih => exact congrArg (a :: ·) ih
theorem zB (ns : List Int) (h : ns.length ≤ 63) : ∃ O, sG [.lst (ns.map D.int)] [] = .ok (.bl true, O) := by
  obtain ⟨c0, k0, _⟩ := qR ns 0
  obtain ⟨c1, k1, _⟩ := qR ns 1
  obtain ⟨c2, k2, _⟩ := qR ns 2
  have k0 : b9 [.lst (ns.map D.int), .int 0] [] = .ok (.int c0, []) := k0
  have k1 : b9 [.lst (ns.map D.int), .int 1] [] = .ok (.int c1, []) := k1
  have k2 : b9 [.lst (ns.map D.int), .int 2] [] = .ok (.int c2, []) := k2
  obtain ⟨words, O1, ew, wlen, wgood, wnd⟩ := yS (c := c0 % 1000000000000000000000000000000) (n := 8) (by decide)
  have ew : fm [.int (c0 % 1000000000000000000000000000000), .int 8] [] = .ok (sD words, O1) := ew
  have pws : bG (sD words) = true := dk words
  have e1 : setM 1 (bt 2 fm (ai (ak aY (bt 2 b9 (ai (af 0) (ai (ao (.int 0)) av))) (ak iX (ao (.int 10)) (ao (.int 30)))) (ai (ao (.int 8)) av))) ⟨[some (.lst (ns.map D.int)), none, none, none, none, none, none, none, none, none, none, none], []⟩ = .next ⟨[some (.lst (ns.map D.int)), some (sD words), none, none, none, none, none, none, none, none, none, none], []⟩ := by sizeOf_list_dec
  obtain ⟨ng, hng, hng5⟩ : ∃ ng : Nat, c1 % 5 = (ng : Int) ∧ ng < 5 := ⟨(c1 % 5).toNat, by omega, by omega⟩
  have e2 : setM 2 (slM (af 1) bh (part (ak aY (bt 2 b9 (ai (af 0) (ai (ao (.int 1)) av))) (ao (.int 5))))) ⟨[some (.lst (ns.map D.int)), some (sD words), none, none, none, none, none, none, none, none, none, none], []⟩ = .next ⟨[some (.lst (ns.map D.int)), some (sD words), some (sD (words.take ng)), none, none, none, none, none, none, none, none, none], []⟩ := by
    refine jP (R := [some (.lst (ns.map D.int)), some (sD words), none, none, none, none, none, none, none, none, none, none]) (O := []) (wC (es := (words.take ng).map D.str) (ah rfl) (my _) (hi := some (c1 % 5)) ?_ rfl ?_) rfl
    · sizeOf_list_dec
    · rw [hng]; exact pV _ _ _
  have gnd : (words.take ng).Nodup := List.Pairwise.sublist (List.take_sublist _ _) wnd
  have gg : ∀ z ∈ words.take ng, jS z := fun z hz => wgood z (List.mem_of_mem_take hz)
  have gl : (words.take ng).length ≤ 10 := by rw [List.length_take]; omega
  generalize words.take ng = goods at e2 gnd gg gl
  have e3 : setM 3 (gb av) ⟨kR ns words goods none none none none none none none none none, []⟩ = .next ⟨kR ns words goods (some (.ptr 0)) none none none none none none none none, [.lst []]⟩ := by sizeOf_list_dec
  have e4 : setM 4 (gb av) ⟨kR ns words goods (some (.ptr 0)) none none none none none none none none, [.lst []]⟩ = .next ⟨kR ns words goods (some (.ptr 0)) (some (.ptr 1)) none none none none none none none, [.lst [], .lst []]⟩ := by sizeOf_list_dec
  obtain ⟨ks, hcut, hks⟩ := zC ns 3 9
  have hcut : cutD (ns.map D.int) (some 3) (some 9) = ks.map D.int := hcut
  obtain ⟨s', el, ws, way, y5, y6, hso, hs'⟩ := eX (ok := okC (d9 (ks.map D.int)) none) (g := dv (aS (aL 5) (aS (aL 6) dA)) 2) (body := lC)
    (fun pre s => ∃ ws way y5 y6, wQ words goods pre.length ws way ∧ s = ⟨kR ns words goods (some (.ptr 0)) (some (.ptr 1)) y5 y6 none none none none none, [.lst (ws.map wD), .lst (way.map D.int)]⟩) (fun _ _ _ => trivial) (d9 (ks.map D.int)) [] (by
      rintro pre d rest ed s ⟨ws, way, y5, y6, hso, rfl⟩
      rw [List.nil_append, jz] at ed
      obtain ⟨hl, rfl⟩ := j8 ed
      obtain ⟨ws', way', eb, hso'⟩ := xT (ns := ns) (words := words) (goods := goods) (i := pre.length) (c := ks[pre.length]) gnd (by omega) (by omega) (by omega) hso
      refine ⟨_, _, by rw [kl]; rfl, .inl eb, ws', way', _, _, ?_, rfl⟩
      rw [List.length_append, List.length_singleton]; exact hso') ⟨kR ns words goods (some (.ptr 0)) (some (.ptr 1)) none none none none none none none, [.lst [], .lst []]⟩ ⟨[], [], none, none, ⟨by simp, by simp, rfl, by simp⟩, rfl⟩
  have hf := iM (im := fg (ai (slM (af 0) (part (ao (.int 3))) (part (ao (.int 9)))) av)) (g := dv (aS (aL 5) (aS (aL 6) dA)) 2) (body := lC) (s := ⟨kR ns words goods (some (.ptr 0)) (some (.ptr 1)) none none none none none none none, [.lst [], .lst []]⟩) (ds := d9 (ks.map D.int)) (k := none) (s1 := ⟨kR ns words goods (some (.ptr 0)) (some (.ptr 1)) none none none none none none none, [.lst [], .lst []]⟩) (by
    rw [jD, bH (wC (es := ks.map D.int) (ah rfl) (nv (aK _ _)) (nv (aK _ _)) rfl hcut) (aR _), aa])
  rw [el, hs'] at hf
  have wl : ws.length ≤ 6 := by
    have := congrArg List.length hso.nms
    simp [jz] at this
    omega
  have wok : qH goods ws := ⟨fun w hw => by
      have : w.nm ∈ ws.map (·.nm) := List.mem_map.mpr ⟨w, hw, rfl⟩
      rw [hso.nms] at this
      exact wgood _ (List.mem_of_mem_take this), by rw [hso.nms]; exact List.Pairwise.sublist (List.take_sublist _ _) wnd, fun w hw => ⟨(hso.ok w hw).us, (hso.ok w hw).ul⟩, fun w hw => ⟨(hso.ok w hw).ms, (hso.ok w hw).ml⟩⟩
  have wayl := hso.len
  have way0 := hso.n0
  have hm : zf goods ws way := ⟨fun w _ g _ t ht => eg (.inr (by have := way0 t ht; omega))⟩
  have lo := rD (goods := goods) wayl (by omega) (by omega) (fun t ht => (way0 t ht).1) hm
  have bo := uL (goods := goods) wayl (by omega) (by omega) (fun t ht => (way0 t ht).1) hm
  generalize lvL goods ws way = lv at lo bo
  generalize (lv.all fun t => decide (t = 0)) = ab at bo
  have pv : ax [vI way] = true := jV way
  have pgw : ax [sD goods, wsD ws] = true := by
    show (ax (goods.map D.str) && (ax (ws.map wD) && true)) = true
    rw [dk, h9]; rfl
  have pw : ax [wsD ws] = true := by
    show (ax (ws.map wD) && true) = true
    rw [h9]; rfl
  have e7 := dG (i := 7) (Ae (c := 0) (n := 2) (f := gA) (ma := ai (br de (ai (af 2) av)) (ai (bt 1 hX (ai (jN 3) av)) av)) (s := ⟨kR ns words goods (some (.ptr 0)) (some (.ptr 1)) y5 y6 none none none none none, [.lst (ws.map wD), .lst (way.map D.int)]⟩) (s' := ⟨kR ns words goods (some (wsD ws)) (some (.ptr 1)) y5 y6 none none none none none, [.dead, .lst (way.map D.int)]⟩) (args := [sD goods, wsD ws]) (bH (nN (bH (ah rfl) (aR _)) (gY _)) (bH (b8 (bH (yw rfl rfl) (aR _)) pw rfl (Ap (by omega)) (by
      show ax (ws.map wD) = true
      exact h9 _)) (aR _))) pgw rfl (Bx gg gnd wok gl (by omega)) (eN _ _))
  have ask : ∀ (R : List (Option D)) (O : aw), R[4]? = some (some (.ptr 1)) → R[7]? = some (some (yD goods ws)) → O[1]? = some (.lst (way.map D.int)) → il (ai (gE (mG 0 "leaves" 1 aU (af 7) (ai (br de (ai (af 4) av)) av))) (ai (methP 0 "balanced" 1 bD (af 7) (ai (br de (ai (af 4) av)) av)) av)) ⟨R, O⟩ = .ok (.tup [vI lv, .bl ab], ⟨R, O ++ [.dead]⟩) := fun R O h4 h7 hO => by
    have ls : ∀ O' : aw, O'[1]? = some (.lst (way.map D.int)) → br de (ai (af 4) av) ⟨R, O'⟩ = .ok (vI way, ⟨R, O'⟩) := fun O' hO' => nN (bH (ah h4) (aR _)) (by
      unfold de
      simp only [jf hO'])
    have lt : 1 < O.length := (List.getElem?_eq_some_iff.mp hO).1
    refine AE (bH (v9 (vL (ns := FN) (ds := yDs goods ws) (args := [vI way]) (ah h7) (bH (ls O hO) (aR _)) lo (by decide) (eN _ _) pv rfl (fB _ _) (by simp only [List.map_cons, List.map_nil, fD, dq]; rfl)) (ds := lv.map D.int) (by rw [Nat.add_zero]; exact List.getElem?_concat_length) (O' := O ++ [.dead]) ?_) (bH (vA (ns := FN) (ds := yDs goods ws) (args := [vI way]) (ah h7) (bH (ls _ ?_) (aR _)) bo (by decide) (eN _ _) pv rfl (by simp)) (aR _))) (by simp)
    · rw [Nat.add_zero]; exact yP _ _ _
    · rw [List.getElem?_append_left lt]; exact hO
  have e8 := jP (i := 8) (R' := kR ns words goods (some (wsD ws)) (some (.ptr 1)) y5 y6 (some (yD goods ws)) (some (.tup [vI lv, .bl ab])) none none none) (ask (kR ns words goods (some (wsD ws)) (some (.ptr 1)) y5 y6 (some (yD goods ws)) none none none none) [.dead, .lst (way.map D.int)] rfl rfl rfl) rfl
  have e6 : setM 6 (bt 2 b9 (ai (af 0) (ai (ao (.int 2)) av))) ⟨kR ns words goods (some (wsD ws)) (some (.ptr 1)) y5 y6 (some (yD goods ws)) (some (.tup [vI lv, .bl ab])) none none none, [.dead, .lst (way.map D.int), .dead]⟩ = .next ⟨kR ns words goods (some (wsD ws)) (some (.ptr 1)) y5 (some (.int c2)) (some (yD goods ws)) (some (.tup [vI lv, .bl ab])) none none none, [.dead, .lst (way.map D.int), .dead]⟩ := by sizeOf_list_dec
  obtain ⟨a, ha, ha2⟩ : ∃ a : Nat, c2 % ((way.length : Int) + 1) = (a : Int) ∧ a ≤ way.length := ⟨(c2 % ((way.length : Int) + 1)).toNat, by have := Int.emod_nonneg c2 (b := (way.length : Int) + 1) (by omega); omega, by have := Int.emod_nonneg c2 (b := (way.length : Int) + 1) (by omega); have := Int.emod_lt_of_pos c2 (b := (way.length : Int) + 1) (by omega); omega⟩
  have lenw : ∀ (R : List (Option D)) (O : aw), R[4]? = some (some (.ptr 1)) → O[1]? = some (.lst (way.map D.int)) → br dg (ai (af 4) av) ⟨R, O⟩ = .ok (.int (way.length : Int), ⟨R, O⟩) := fun R O h4 hO => nN (bH (ah h4) (aR _)) (by rw [sN hO, List.length_map])
  have cutA : ∀ (R : List (Option D)) (O : aw) (n : Nat) (m : EM), R[4]? = some (some (.ptr 1)) → O[1]? = some (.lst (way.map D.int)) → m ⟨R, O⟩ = .ok (.int (n : Int), ⟨R, O⟩) → slM (af 4) bh (part m) ⟨R, O⟩ = .ok (vI (way.take n), ⟨R, O⟩) := fun R O n m h4 hO hm => wC (ah h4) (my _) (nv hm) (jf hO) (pV _ _ _)
  have cutB : ∀ (R : List (Option D)) (O : aw) (n : Nat) (m : EM), R[4]? = some (some (.ptr 1)) → O[1]? = some (.lst (way.map D.int)) → n ≤ way.length → m ⟨R, O⟩ = .ok (.int (n : Int), ⟨R, O⟩) → slM (af 4) (part m) bh ⟨R, O⟩ = .ok (vI (way.drop n), ⟨R, O⟩) := fun R O n m h4 hO hn hm => wC (ah h4) (nv hm) (my _) (jf hO) (wV _ _ _ hn)
  have cat : ∀ (O : aw) (p q : List Int), p.length ≤ 1000 → q.length ≤ 1000 → aX O (vI p) (vI q) = .ok (vI (p ++ q)) := fun O p q h1 h2 => by rw [z7 (by simp; omega), ← List.map_append]
  have e9 : setM 9 (ak aY (af 6) (ak aX (br dg (ai (af 4) av)) (ao (.int 1)))) ⟨kR ns words goods (some (wsD ws)) (some (.ptr 1)) y5 (some (.int c2)) (some (yD goods ws)) (some (.tup [vI lv, .bl ab])) none none none, [.dead, .lst (way.map D.int), .dead]⟩ = .next ⟨kR ns words goods (some (wsD ws)) (some (.ptr 1)) y5 (some (.int c2)) (some (yD goods ws)) (some (.tup [vI lv, .bl ab])) (some (.int (a : Int))) none none, [.dead, .lst (way.map D.int), .dead]⟩ :=
    jP (cD (ah rfl) (cD (lenw _ _ rfl rfl) (aK _ _) (gS _ _)) (by rw [cF (by omega), ha])) rfl
  have wl2 : way.length ≤ 6 := by omega
  have tk : ∀ n, (way.take n).length ≤ 6 := fun n => by rw [List.length_take]; omega
  have dr : ∀ n, (way.drop n).length ≤ 6 := fun n => by rw [List.length_drop]; omega
  have addP : ∀ O : aw, O[1]? = some (.lst (way.map D.int)) → aX O (.ptr 1) (.ptr 1) = .ok (vI (way ++ way)) := fun O hO => by
    show (match lsD O (D.ptr 1), lsD O (D.ptr 1) with
      | some a, some b => if a.length + b.length ≤ 16777216 then Res.ok (D.lst (a ++ b)) else .bad
      | _, _ => .bad) = _
    rw [jf hO]
    dsimp only
    rw [if_pos (by simp; omega), ← List.map_append]
  have e10 : setM 10 (gb (ai (ak aX (ak aX (slM (af 4) bh (part (af 9))) (ij (ai (ak aY (ak bK (af 6) (ao (.int 7))) (ao (.int 3))) av))) (slM (af 4) (part (af 9)) bh)) (ai (ak aX (ak aX (af 4) (af 4)) (ij (ai (ao (.int 0)) av))) av))) ⟨kR ns words goods (some (wsD ws)) (some (.ptr 1)) y5 (some (.int c2)) (some (yD goods ws)) (some (.tup [vI lv, .bl ab])) (some (.int (a : Int))) none none, [.dead, .lst (way.map D.int), .dead]⟩ = .next ⟨kR ns words goods (some (wsD ws)) (some (.ptr 1)) y5 (some (.int c2)) (some (yD goods ws)) (some (.tup [vI lv, .bl ab])) (some (.int (a : Int))) (some (.ptr 3)) none, [.dead, .lst (way.map D.int), .dead, .lst ([way.take a ++ [c2 / 7 % 3] ++ way.drop a, way ++ way ++ [0]].map vI)]⟩ := by
    refine jP (yk (xs := [vI (way.take a ++ [c2 / 7 % 3] ++ way.drop a), vI (way ++ way ++ [0])]) (bH (cD (cD (y := vI [c2 / 7 % 3]) (cutA _ _ a _ rfl rfl (ah rfl)) (pT (bH (cD (cD (ah rfl) (aK _ _) (cj (by decide) (by decide))) (aK _ _) (cF (by decide))) (aR _)) (by simp)) (cat _ _ _ (by have := tk a; omega) (by simp))) (cutB _ _ a _ rfl rfl ha2 (ah rfl)) (cat _ _ _ (by have := tk a; simp; omega) (by have := dr a; omega))) (bH (cD (y := vI [0]) (cD (ah rfl) (ah rfl) (addP _ rfl)) (pT (bH (aK _ _) (aR _)) (by simp)) (cat _ _ _ (by simp; omega) (by simp))) (aR _))) (by simp) rfl rfl) rfl
  have b0 : oZ ws (way.take a ++ [c2 / 7 % 3] ++ way.drop a) := .inl (by simp [List.length_take, List.length_drop]; omega)
  have b1 : oZ ws (way ++ way ++ [0]) := .inl (by simp; omega)
  obtain ⟨wr, y9, e11, hbad, hlen⟩ : ∃ (wr : List (List Int)) (y9 : Option D), ifS (bq (ak gtD (br dg (ai (af 4) av)) (ao (.int 0))))
       (aT (setM 9 (ak aY (ak bK (af 6) (ao (.int 3))) (br dg (ai (af 4) av))))
       (aT (bE (eE (af 10) (ak aX (slM (af 4) bh (part (af 9))) (slM (af 4) (part (ak aX (af 9) (ao (.int 1)))) bh))))
       (aT (bE (eE (af 10) (ak aX (ak aX (slM (af 4) bh (part (af 9))) (ij (ai (ak m5 (unM kM (ao (.int 1))) (ak aY (ak bK (af 6) (ao (.int 7))) (ao (.int 5)))) av))) (slM (af 4) (part (ak aX (af 9) (ao (.int 1)))) bh))))
       (aT (bE (eE (af 10) (ak aX (ak aX (slM (af 4) bh (part (af 9))) (ij (ai (ak m5 (unM kM (ao (.int 1))) (ak aY (ak bK (af 6) (ao (.int 7))) (ak iX (ao (.int 10)) (ao (.int 25))))) av))) (slM (af 4) (part (ak aX (af 9) (ao (.int 1)))) bh))))
       (bE (eE (af 10) (ij av)))))))
       cm ⟨kR ns words goods (some (wsD ws)) (some (.ptr 1)) y5 (some (.int c2)) (some (yD goods ws)) (some (.tup [vI lv, .bl ab])) (some (.int (a : Int))) (some (.ptr 3)) none, [.dead, .lst (way.map D.int), .dead, .lst ([way.take a ++ [c2 / 7 % 3] ++ way.drop a, way ++ way ++ [0]].map vI)]⟩ = .next ⟨kR ns words goods (some (wsD ws)) (some (.ptr 1)) y5 (some (.int c2)) (some (yD goods ws)) (some (.tup [vI lv, .bl ab])) y9 (some (.ptr 3)) none, [.dead, .lst (way.map D.int), .dead, .lst (wr.map vI)]⟩ ∧ (∀ w ∈ wr, oZ ws w) ∧ (∀ w ∈ wr, w.length ≤ 1000) := by
    by_cases hp : 0 < (way.length : Int)
    · obtain ⟨b, hb, hb2⟩ : ∃ b : Nat, c2 / 3 % (way.length : Int) = (b : Int) ∧ b < way.length := ⟨(c2 / 3 % (way.length : Int)).toNat, by have := Int.emod_nonneg (c2 / 3) (b := (way.length : Int)) (by omega); omega, by have := Int.emod_nonneg (c2 / 3) (b := (way.length : Int)) (by omega); have := Int.emod_lt_of_pos (c2 / 3) (b := (way.length : Int)) hp; omega⟩
      have tA : ∀ O : aw, O[1]? = some (.lst (way.map D.int)) → slM (af 4) bh (part (af 9)) ⟨kR ns words goods (some (wsD ws)) (some (.ptr 1)) y5 (some (.int c2)) (some (yD goods ws)) (some (.tup [vI lv, .bl ab])) (some (.int (b : Int))) (some (.ptr 3)) none, O⟩ = .ok (vI (way.take b), ⟨kR ns words goods (some (wsD ws)) (some (.ptr 1)) y5 (some (.int c2)) (some (yD goods ws)) (some (.tup [vI lv, .bl ab])) (some (.int (b : Int))) (some (.ptr 3)) none, O⟩) := fun O hO => cutA _ _ b _ rfl hO (ah rfl)
      have tB : ∀ O : aw, O[1]? = some (.lst (way.map D.int)) → slM (af 4) (part (ak aX (af 9) (ao (.int 1)))) bh ⟨kR ns words goods (some (wsD ws)) (some (.ptr 1)) y5 (some (.int c2)) (some (yD goods ws)) (some (.tup [vI lv, .bl ab])) (some (.int (b : Int))) (some (.ptr 3)) none, O⟩ = .ok (vI (way.drop (b + 1)), ⟨kR ns words goods (some (wsD ws)) (some (.ptr 1)) y5 (some (.int c2)) (some (yD goods ws)) (some (.tup [vI lv, .bl ab])) (some (.int (b : Int))) (some (.ptr 3)) none, O⟩) := fun O hO => cutB _ _ (b + 1) _ rfl hO (by omega) (cD (ah rfl) (aK _ _) (gS _ _))
      have app : ∀ (L : List (List Int)) (x : List Int) (m : EM), L.length ≤ 1000 → (∀ O : aw, O[1]? = some (.lst (way.map D.int)) → m ⟨kR ns words goods (some (wsD ws)) (some (.ptr 1)) y5 (some (.int c2)) (some (yD goods ws)) (some (.tup [vI lv, .bl ab])) (some (.int (b : Int))) (some (.ptr 3)) none, O⟩ = .ok (vI x, ⟨kR ns words goods (some (wsD ws)) (some (.ptr 1)) y5 (some (.int c2)) (some (yD goods ws)) (some (.tup [vI lv, .bl ab])) (some (.int (b : Int))) (some (.ptr 3)) none, O⟩)) →
          bE (eE (af 10) m) ⟨kR ns words goods (some (wsD ws)) (some (.ptr 1)) y5 (some (.int c2)) (some (yD goods ws)) (some (.tup [vI lv, .bl ab])) (some (.int (b : Int))) (some (.ptr 3)) none, [.dead, .lst (way.map D.int), .dead, .lst (L.map vI)]⟩ = .next ⟨kR ns words goods (some (wsD ws)) (some (.ptr 1)) y5 (some (.int c2)) (some (yD goods ws)) (some (.tup [vI lv, .bl ab])) (some (.int (b : Int))) (some (.ptr 3)) none, [.dead, .lst (way.map D.int), .dead, .lst ((L ++ [x]).map vI)]⟩ := fun L x m hL hm =>
        b7 (Av (ds := L.map vI) (ah rfl) rfl (hm _ rfl) rfl (by rw [List.length_map]; omega) (by rw [List.map_append]; rfl))
      have one : ∀ (v : Int) (m : EM), (∀ O : aw, m ⟨kR ns words goods (some (wsD ws)) (some (.ptr 1)) y5 (some (.int c2)) (some (yD goods ws)) (some (.tup [vI lv, .bl ab])) (some (.int (b : Int))) (some (.ptr 3)) none, O⟩ = .ok (.int v, ⟨kR ns words goods (some (wsD ws)) (some (.ptr 1)) y5 (some (.int c2)) (some (yD goods ws)) (some (.tup [vI lv, .bl ab])) (some (.int (b : Int))) (some (.ptr 3)) none, O⟩)) → ∀ O : aw, O[1]? = some (.lst (way.map D.int)) → ak aX (ak aX (slM (af 4) bh (part (af 9))) (ij (ai m av))) (slM (af 4) (part (ak aX (af 9) (ao (.int 1)))) bh) ⟨kR ns words goods (some (wsD ws)) (some (.ptr 1)) y5 (some (.int c2)) (some (yD goods ws)) (some (.tup [vI lv, .bl ab])) (some (.int (b : Int))) (some (.ptr 3)) none, O⟩ = .ok (vI (way.take b ++ [v] ++ way.drop (b + 1)), ⟨kR ns words goods (some (wsD ws)) (some (.ptr 1)) y5 (some (.int c2)) (some (yD goods ws)) (some (.tup [vI lv, .bl ab])) (some (.int (b : Int))) (some (.ptr 3)) none, O⟩) := fun v m hm O hO =>
        cD (cD (y := vI [v]) (tA O hO) (pT (bH (hm O) (aR _)) (by simp)) (cat _ _ _ (by have := tk b; omega) (by simp))) (tB O hO) (cat _ _ _ (by have := tk b; simp; omega) (by have := dr (b + 1); omega))
      refine ⟨[way.take a ++ [c2 / 7 % 3] ++ way.drop a, way ++ way ++ [0]] ++ [way.take b ++ way.drop (b + 1)] ++ [way.take b ++ [-1 - c2 / 7 % 5] ++ way.drop (b + 1)] ++ [way.take b ++ [-1 - c2 / 7 % 10000000000000000000000000] ++ way.drop (b + 1)] ++ [[]], some (.int (b : Int)), ?_, fun w hw => ?_, fun w hw => ?_⟩
      · refine sC (jZ (lenw _ _ rfl rfl)) (decide_eq_true hp) (cO (jP (cD (cD (ah rfl) (aK _ _) (cj (by decide) (by decide))) (lenw _ _ rfl rfl) (by rw [cF hp, hb])) rfl) ?_)
        refine cO (app _ _ _ (by simp) fun O hO => cD (tA O hO) (tB O hO) (cat _ _ _ (by have := tk b; omega) (by have := dr (b + 1); omega))) ?_
        refine cO (app _ _ _ (by simp) (one _ _ fun O => cD (v8 (aK _ _) (lZ _)) (cD (cD (ah rfl) (aK _ _) (cj (by decide) (by decide))) (aK _ _) (cF (by decide))) (oY _ _))) ?_
        refine cO (app _ _ _ (by simp) (one _ _ fun O => cD (v8 (aK _ _) (lZ _)) (cD (cD (ah rfl) (aK _ _) (cj (by decide) (by decide))) (cD (aK _ _) (aK _ _) rC) (cF (by decide))) (oY _ _))) ?_
        exact app _ [] _ (by simp) fun O _ => pT (aR _) (by decide)
      · simp only [List.mem_append, List.mem_cons, List.not_mem_nil, or_false] at hw
        rcases hw with (((((rfl | rfl) | rfl) | rfl) | rfl) | rfl)
        · exact b0
        · exact b1
        · exact .inl (by simp [List.length_take, List.length_drop]; omega)
        · exact .inr ⟨-1 - c2 / 7 % 5, by simp, by omega⟩
        · exact .inr ⟨-1 - c2 / 7 % 10000000000000000000000000, by simp, by omega⟩
        · exact .inl (by simp; omega)
      · simp only [List.mem_append, List.mem_cons, List.not_mem_nil, or_false] at hw
        rcases hw with (((((rfl | rfl) | rfl) | rfl) | rfl) | rfl) <;> simp [List.length_take, List.length_drop] <;> omega
    · refine ⟨_, _, nZ (jZ (lenw _ _ rfl rfl)) (decide_eq_false hp) (jd _), fun w hw => ?_, fun w hw => ?_⟩
      · simp only [List.mem_cons, List.not_mem_nil, or_false] at hw
        rcases hw with rfl | rfl
        · exact b0
        · exact b1
      · simp only [List.mem_cons, List.not_mem_nil, or_false] at hw
        rcases hw with rfl | rfl <;> simp [List.length_take, List.length_drop] <;> omega
  obtain ⟨s2, el2, y11, hs2⟩ := eX (ok := okC (wr.map vI) (some 3)) (g := aL 11) (body := nO)
    (fun _ s => ∃ y11, s = ⟨kR ns words goods (some (wsD ws)) (some (.ptr 1)) y5 (some (.int c2)) (some (yD goods ws)) (some (.tup [vI lv, .bl ab])) y9 (some (.ptr 3)) y11, [.dead, .lst (way.map D.int), .dead, .lst (wr.map vI)]⟩) (by rintro _ _ ⟨_, rfl⟩; rfl) (wr.map vI) [] (by
      rintro pre d rest ed s ⟨y11, rfl⟩
      rw [List.nil_append] at ed
      have hd : d ∈ wr.map vI := by rw [ed]; simp
      obtain ⟨w, hw, rfl⟩ := List.mem_map.mp hd
      have r1 := pW (goods := goods) (hbad w hw) (hlen w hw) true
      have r2 := pW (goods := goods) (hbad w hw) (hlen w hw) false
      have pa : ∀ q : Bool, ax [yD goods ws, vI w, .bl q] = true := fun q => by
        show (ax (yDs goods ws) && (ax (w.map D.int) && (true && true))) = true
        rw [eN, dM]; rfl
      refine ⟨⟨kR ns words goods (some (wsD ws)) (some (.ptr 1)) y5 (some (.int c2)) (some (yD goods ws)) (some (.tup [vI lv, .bl ab])) y9 (some (.ptr 3)) (some (vI w)), [.dead, .lst (way.map D.int), .dead, .lst (wr.map vI)]⟩, _, rfl, .inl ?_, some (vI w), rfl⟩
      rw [nO]
      refine nZ (p := !true || !true) (Cu (xn (ji (b8 (bH (ah rfl) (bH (ah rfl) (bH (aK _ _) (aR _)))) (pa true) rfl r1 rfl))) (xn (ji (b8 (bH (ah rfl) (bH (ah rfl) (bH (aK _ _) (aR _)))) (pa false) rfl r2 rfl)))) rfl (jd _)) ⟨kR ns words goods (some (wsD ws)) (some (.ptr 1)) y5 (some (.int c2)) (some (yD goods ws)) (some (.tup [vI lv, .bl ab])) y9 (some (.ptr 3)) none, [.dead, .lst (way.map D.int), .dead, .lst (wr.map vI)]⟩ ⟨_, rfl⟩
  have hf2 := iM (im := listI (af 10)) (g := aL 11) (body := nO) (s := ⟨kR ns words goods (some (wsD ws)) (some (.ptr 1)) y5 (some (.int c2)) (some (yD goods ws)) (some (.tup [vI lv, .bl ab])) y9 (some (.ptr 3)) none, [.dead, .lst (way.map D.int), .dead, .lst (wr.map vI)]⟩) (ds := wr.map vI) (k := some 3) (s1 := ⟨kR ns words goods (some (wsD ws)) (some (.ptr 1)) y5 (some (.int c2)) (some (yD goods ws)) (some (.tup [vI lv, .bl ab])) y9 (some (.ptr 3)) none, [.dead, .lst (way.map D.int), .dead, .lst (wr.map vI)]⟩) (yo (ah rfl) rfl)
  rw [el2, hs2] at hf2
  have last := ask (kR ns words goods (some (wsD ws)) (some (.ptr 1)) y5 (some (.int c2)) (some (yD goods ws)) (some (.tup [vI lv, .bl ab])) y9 (some (.ptr 3)) y11) [.dead, .lst (way.map D.int), .dead, .lst (wr.map vI)] rfl rfl rfl
  refine vZ ?_
  show ∃ s, xu ⟨[some (.lst (ns.map D.int)), none, none, none, none, none, none, none, none, none, none, none], []⟩ = _
  rw [xu]
  exact ⟨_, cO e1 (cO e2 (cO e3 (cO e4 (cO hf (cO e7 (cO e8 (cO e6 (cO e9 (cO e10 (cO e11 (cO hf2 (dh (cD last (ah rfl) (zT _ _ _)))))))))))))) ⟩
end Lk11
namespace Lk11
open PySem PySem.Spec PyProof.Rows L2 M
theorem all_mk {l : PySem.W.OpenLaw} {w : World} {K : PySem.W.Frag} {h : Heap} {mg : Str → Option Value} {fa f0 f1 f2 f3 f4 f5 f6 f7 f8 f9 f10 f11 f12 f13 f14 f15 f16 f17 f18 f19 f20 f21 f22 f23 f24 f25 C_Yard C_NoWay C_YardError C_NoWeights C_NoText C_NoRow C_NoRatio C_NoName C_NoGood C_NoFit C_NoBalance C_NoAmount C_TooMany C_NoWork : Addr} (X : K.In h) (G : h.Ns mainGlobals mg) (hfa : mg "law" = some (.ref fa)) (hpt : l.prog.given.tree = none)
  {od0 an0 od1 an1 od2 an2 od3 an3 od4 an4 od5 an5 od6 an6 od7 an7 od8 an8 od9 an9 od10 an10 od11 an11 od12 an12 od13 an13 od14 an14 od15 an15 od16 an16 od17 an17 od18 an18 od19 an19 od20 an20 od21 an21 od22 an22 od23 an23 od24 an24 od25 an25 : Option Addr} {sl0 sl1 sl2 sl3 sl4 sl5 sl6 sl7 sl8 sl9 sl10 sl11 sl12 sl13 sl14 sl15 sl16 sl17 sl18 sl19 sl20 sl21 sl22 sl23 sl24 sl25 : Array (Option Value)} {oc0 kV0 dc0 pm0 cd0 ct0 oc1 kV1 dc1 pm1 cd1 ct1 oc2 kV2 dc2 pm2 cd2 ct2 oc3 kV3 dc3 pm3 cd3 ct3 oc4 kV4 dc4 pm4 cd4 ct4 oc5 kV5 dc5 pm5 cd5 ct5 oc6 kV6 dc6 pm6 cd6 ct6 oc7 kV7 dc7 pm7 cd7 ct7 oc8 kV8 dc8 pm8 cd8 ct8 oc9 kV9 dc9 pm9 cd9 ct9 oc10 kV10 dc10 pm10 cd10 ct10 oc11 kV11 dc11 pm11 cd11 ct11 oc12 kV12 dc12 pm12 cd12 ct12 oc13 kV13 dc13 pm13 cd13 ct13 oc14 kV14 dc14 pm14 cd14 ct14 oc15 kV15 dc15 pm15 cd15 ct15 oc16 kV16 dc16 pm16 cd16 ct16 oc17 kV17 dc17 pm17 cd17 ct17 oc18 kV18 dc18 pm18 cd18 ct18 oc19 kV19 dc19 pm19 cd19 ct19 oc20 kV20 dc20 pm20 cd20 ct20 oc21 kV21 dc21 pm21 cd21 ct21 oc22 kV22 dc22 pm22 cd22 ct22 oc23 kV23 dc23 pm23 cd23 ct23 oc24 kV24 dc24 pm24 cd24 ct24 oc25 kV25 dc25 pm25 cd25 ct25 : Value} {t_MOST_LETTERS t_MOST_GOODS t_MOST_WORKS : Tok}
  (aC_Yard : PySem.W.nsIn K mainGlobals "Yard" = some (some (.ref C_Yard)))
  (g1_Yard : PySem.W.plainGet K C_Yard Str.empty = true)
  (g2_Yard : PySem.W.hasDictIn K C_Yard = true)
  (g3_Yard : PySem.W.plainOver K C_Yard = true)
  (g4_Yard : PySem.W.findIn K (.ref C_Yard) "__setattr__" = some (some (.builtin "object.__setattr__")))
  (mk_Yard : PySem.W.makesIn K C_Yard = true)
  (kC_Yard : PySem.W.keepIn K (.ref C_Yard) = true)
  (aC_NoWay : PySem.W.nsIn K mainGlobals "NoWay" = some (some (.ref C_NoWay)))
  (aC_YardError : PySem.W.nsIn K mainGlobals "YardError" = some (some (.ref C_YardError)))
  (aC_NoWeights : PySem.W.nsIn K mainGlobals "NoWeights" = some (some (.ref C_NoWeights)))
  (aC_NoText : PySem.W.nsIn K mainGlobals "NoText" = some (some (.ref C_NoText)))
  (aC_NoRow : PySem.W.nsIn K mainGlobals "NoRow" = some (some (.ref C_NoRow)))
  (aC_NoRatio : PySem.W.nsIn K mainGlobals "NoRatio" = some (some (.ref C_NoRatio)))
  (aC_NoName : PySem.W.nsIn K mainGlobals "NoName" = some (some (.ref C_NoName)))
  (aC_NoGood : PySem.W.nsIn K mainGlobals "NoGood" = some (some (.ref C_NoGood)))
  (aC_NoFit : PySem.W.nsIn K mainGlobals "NoFit" = some (some (.ref C_NoFit)))
  (aC_NoBalance : PySem.W.nsIn K mainGlobals "NoBalance" = some (some (.ref C_NoBalance)))
  (aC_NoAmount : PySem.W.nsIn K mainGlobals "NoAmount" = some (some (.ref C_NoAmount)))
  (aC_TooMany : PySem.W.nsIn K mainGlobals "TooMany" = some (some (.ref C_TooMany)))
  (aC_NoWork : PySem.W.nsIn K mainGlobals "NoWork" = some (some (.ref C_NoWork)))
  (gt0 : PySem.W.specialIn K (.builtin "object.__class__") "__get__" = some (some (.builtin "getset_descriptor.__get__")))
  (tk0 : PySem.W.takesIn K (.builtin "object.__class__") = some true)
  (ga_NoWay : PySem.W.findIn K (.ref C_NoWay) "__getattribute__" = some (some (.builtin "BaseException.__getattribute__")))
  (gh_NoWay : PySem.W.findIn K (.ref C_NoWay) "__getattr__" = some none)
  (gc_NoWay : PySem.W.findIn K (.ref C_NoWay) "__class__" = some (some (.builtin "object.__class__")))
  (mo_NoWay : PySem.W.mroIn K C_NoWay (.type "object") = some true)
  (mb_NoWay : PySem.W.mroIn K C_NoWay (.type "BaseException") = some true)
  (xq_NoWay : PySem.W.excIn K C_NoWay bmV "ValueError.__new__" = true)
  (ex_YardError_NoWay : PySem.W.exmOne K (.ref C_NoWay) (.ref C_YardError) = some true)
  (it_NoAmount_NoBalance_NoFit_NoGood_NoName_NoRatio_NoRow_NoText_NoWeights_NoWay : PySem.W.kitAny K (.ref C_NoWay) [.ref C_NoAmount, .ref C_NoBalance, .ref C_NoFit, .ref C_NoGood, .ref C_NoName, .ref C_NoRatio, .ref C_NoRow, .ref C_NoText, .ref C_NoWeights] = some false)
  (it_NoWork_TooMany_NoWay : PySem.W.kitAny K (.ref C_NoWay) [.ref C_NoWork, .ref C_TooMany] = some false)
  (ik_NoWay_NoWay : PySem.W.kitOne K (.ref C_NoWay) (.ref C_NoWay) = some true)
  (iy_ValueError_NoWay : PySem.W.kitOne K (.ref C_NoWay) (.type "ValueError") = some true)
  (nf_Yard_held_goods : PySem.W.findIn K (.ref C_Yard) "held_goods" = some none)
  (nf_Yard_held_works : PySem.W.findIn K (.ref C_Yard) "held_works" = some none)
  (nf_Yard_held_changes : PySem.W.findIn K (.ref C_Yard) "held_changes" = some none)
  (a0 : PySem.W.nsIn K mainGlobals "is_whole" = some (some (.ref f0)))
  (l0 : K.lookup f0 = some ⟨oc0, od0, .func (PySem.W.fnOf "is_whole" "is_whole" (bj hU) (aZ hU) (aD hU) .none kV0 dc0 pm0 an0 cd0 ct0), sl0⟩)
  (c0 : PySem.W.codeIn K cd0 "is_whole" = true)
  (k0 : PySem.W.keepIn K (.ref f0) = true)
  (a1 : PySem.W.nsIn K mainGlobals "sum_of_products" = some (some (.ref f1)))
  (l1 : K.lookup f1 = some ⟨oc1, od1, .func (PySem.W.fnOf "sum_of_products" "sum_of_products" (bj di) (aZ di) (aD di) .none kV1 dc1 pm1 an1 cd1 ct1), sl1⟩)
  (c1 : PySem.W.codeIn K cd1 "sum_of_products" = true)
  (k1 : PySem.W.keepIn K (.ref f1) = true)
  (a2 : PySem.W.nsIn K mainGlobals "is_name" = some (some (.ref f2)))
  (l2 : K.lookup f2 = some ⟨oc2, od2, .func (PySem.W.fnOf "is_name" "is_name" (bj iG) (aZ iG) (aD iG) .none kV2 dc2 pm2 an2 cd2 ct2), sl2⟩)
  (c2 : PySem.W.codeIn K cd2 "is_name" = true)
  (k2 : PySem.W.keepIn K (.ref f2) = true)
  (a3 : PySem.W.nsIn K mainGlobals "check_many" = some (some (.ref f3)))
  (l3 : K.lookup f3 = some ⟨oc3, od3, .func (PySem.W.fnOf "check_many" "check_many" (bj fI) (aZ fI) (aD fI) .none kV3 dc3 pm3 an3 cd3 ct3), sl3⟩)
  (c3 : PySem.W.codeIn K cd3 "check_many" = true)
  (k3 : PySem.W.keepIn K (.ref f3) = true)
  (a4 : PySem.W.nsIn K mainGlobals "check_name" = some (some (.ref f4)))
  (l4 : K.lookup f4 = some ⟨oc4, od4, .func (PySem.W.fnOf "check_name" "check_name" (bj fA) (aZ fA) (aD fA) .none kV4 dc4 pm4 an4 cd4 ct4), sl4⟩)
  (c4 : PySem.W.codeIn K cd4 "check_name" = true)
  (k4 : PySem.W.keepIn K (.ref f4) = true)
  (a5 : PySem.W.nsIn K mainGlobals "check_goods" = some (some (.ref f5)))
  (l5 : K.lookup f5 = some ⟨oc5, od5, .func (PySem.W.fnOf "check_goods" "check_goods" (bj eJ) (aZ eJ) (aD eJ) .none kV5 dc5 pm5 an5 cd5 ct5), sl5⟩)
  (c5 : PySem.W.codeIn K cd5 "check_goods" = true)
  (k5 : PySem.W.keepIn K (.ref f5) = true)
  (a6 : PySem.W.nsIn K mainGlobals "check_good" = some (some (.ref f6)))
  (l6 : K.lookup f6 = some ⟨oc6, od6, .func (PySem.W.fnOf "check_good" "check_good" (bj fL) (aZ fL) (aD fL) .none kV6 dc6 pm6 an6 cd6 ct6), sl6⟩)
  (c6 : PySem.W.codeIn K cd6 "check_good" = true)
  (k6 : PySem.W.keepIn K (.ref f6) = true)
  (a7 : PySem.W.nsIn K mainGlobals "check_amount" = some (some (.ref f7)))
  (l7 : K.lookup f7 = some ⟨oc7, od7, .func (PySem.W.fnOf "check_amount" "check_amount" (bj ej) (aZ ej) (aD ej) .none kV7 dc7 pm7 an7 cd7 ct7), sl7⟩)
  (c7 : PySem.W.codeIn K cd7 "check_amount" = true)
  (k7 : PySem.W.keepIn K (.ref f7) = true)
  (a8 : PySem.W.nsIn K mainGlobals "check_parts" = some (some (.ref f8)))
  (l8 : K.lookup f8 = some ⟨oc8, od8, .func (PySem.W.fnOf "check_parts" "check_parts" (bj eT) (aZ eT) (aD eT) .none kV8 dc8 pm8 an8 cd8 ct8), sl8⟩)
  (c8 : PySem.W.codeIn K cd8 "check_parts" = true)
  (k8 : PySem.W.keepIn K (.ref f8) = true)
  (a9 : PySem.W.nsIn K mainGlobals "check_works" = some (some (.ref f9)))
  (l9 : K.lookup f9 = some ⟨oc9, od9, .func (PySem.W.fnOf "check_works" "check_works" (bj eG) (aZ eG) (aD eG) .none kV9 dc9 pm9 an9 cd9 ct9), sl9⟩)
  (c9 : PySem.W.codeIn K cd9 "check_works" = true)
  (k9 : PySem.W.keepIn K (.ref f9) = true)
  (a10 : PySem.W.nsIn K mainGlobals "copy_work" = some (some (.ref f10)))
  (l10 : K.lookup f10 = some ⟨oc10, od10, .func (PySem.W.fnOf "copy_work" "copy_work" (bj gz) (aZ gz) (aD gz) .none kV10 dc10 pm10 an10 cd10 ct10), sl10⟩)
  (c10 : PySem.W.codeIn K cd10 "copy_work" = true)
  (k10 : PySem.W.keepIn K (.ref f10) = true)
  (a11 : PySem.W.nsIn K mainGlobals "amount_of" = some (some (.ref f11)))
  (l11 : K.lookup f11 = some ⟨oc11, od11, .func (PySem.W.fnOf "amount_of" "amount_of" (bj gx) (aZ gx) (aD gx) .none kV11 dc11 pm11 an11 cd11 ct11), sl11⟩)
  (c11 : PySem.W.codeIn K cd11 "amount_of" = true)
  (k11 : PySem.W.keepIn K (.ref f11) = true)
  (a12 : PySem.W.nsIn K mainGlobals "change_of" = some (some (.ref f12)))
  (l12 : K.lookup f12 = some ⟨oc12, od12, .func (PySem.W.fnOf "change_of" "change_of" (bj gC) (aZ gC) (aD gC) .none kV12 dc12 pm12 an12 cd12 ct12), sl12⟩)
  (c12 : PySem.W.codeIn K cd12 "change_of" = true)
  (k12 : PySem.W.keepIn K (.ref f12) = true)
  (a13 : PySem.W.findIn K (.ref C_Yard) "__init__" = some (some (.ref f13)))
  (q13 : PySem.W.isFn K (.ref f13) = true)
  (l13 : K.lookup f13 = some ⟨oc13, od13, .func (PySem.W.fnOf "__init__" "Yard.__init__" (bj gw) (aZ gw) (aD gw) .none kV13 dc13 pm13 an13 cd13 ct13), sl13⟩)
  (c13 : PySem.W.codeIn K cd13 "Yard.__init__" = true)
  (k13 : PySem.W.keepIn K (.ref f13) = true)
  (a14 : PySem.W.findIn K (.ref C_Yard) "row" = some (some (.ref f14)))
  (q14 : PySem.W.isFn K (.ref f14) = true)
  (l14 : K.lookup f14 = some ⟨oc14, od14, .func (PySem.W.fnOf "row" "Yard.row" (bj g0) (aZ g0) (aD g0) .none kV14 dc14 pm14 an14 cd14 ct14), sl14⟩)
  (c14 : PySem.W.codeIn K cd14 "Yard.row" = true)
  (k14 : PySem.W.keepIn K (.ref f14) = true)
  (a15 : PySem.W.findIn K (.ref C_Yard) "rows" = some (some (.ref f15)))
  (q15 : PySem.W.isFn K (.ref f15) = true)
  (l15 : K.lookup f15 = some ⟨oc15, od15, .func (PySem.W.fnOf "rows" "Yard.rows" (bj gv) (aZ gv) (aD gv) .none kV15 dc15 pm15 an15 cd15 ct15), sl15⟩)
  (c15 : PySem.W.codeIn K cd15 "Yard.rows" = true)
  (k15 : PySem.W.keepIn K (.ref f15) = true)
  (a16 : PySem.W.findIn K (.ref C_Yard) "check_way" = some (some (.ref f16)))
  (q16 : PySem.W.isFn K (.ref f16) = true)
  (l16 : K.lookup f16 = some ⟨oc16, od16, .func (PySem.W.fnOf "check_way" "Yard.check_way" (bj dC) (aZ dC) (aD dC) .none kV16 dc16 pm16 an16 cd16 ct16), sl16⟩)
  (c16 : PySem.W.codeIn K cd16 "Yard.check_way" = true)
  (k16 : PySem.W.keepIn K (.ref f16) = true)
  (a17 : PySem.W.findIn K (.ref C_Yard) "leaves" = some (some (.ref f17)))
  (q17 : PySem.W.isFn K (.ref f17) = true)
  (l17 : K.lookup f17 = some ⟨oc17, od17, .func (PySem.W.fnOf "leaves" "Yard.leaves" (bj eS) (aZ eS) (aD eS) .none kV17 dc17 pm17 an17 cd17 ct17), sl17⟩)
  (c17 : PySem.W.codeIn K cd17 "Yard.leaves" = true)
  (k17 : PySem.W.keepIn K (.ref f17) = true)
  (a18 : PySem.W.findIn K (.ref C_Yard) "balanced" = some (some (.ref f18)))
  (q18 : PySem.W.isFn K (.ref f18) = true)
  (l18 : K.lookup f18 = some ⟨oc18, od18, .func (PySem.W.fnOf "balanced" "Yard.balanced" (bj dY) (aZ dY) (aD dY) .none kV18 dc18 pm18 an18 cd18 ct18), sl18⟩)
  (c18 : PySem.W.codeIn K cd18 "Yard.balanced" = true)
  (k18 : PySem.W.keepIn K (.ref f18) = true)
  (a19 : PySem.W.nsIn K mainGlobals "_law_cell" = some (some (.ref f19)))
  (l19 : K.lookup f19 = some ⟨oc19, od19, .func (PySem.W.fnOf "_law_cell" "_law_cell" (bj ie) (aZ ie) (aD ie) .none kV19 dc19 pm19 an19 cd19 ct19), sl19⟩)
  (c19 : PySem.W.codeIn K cd19 "_law_cell" = true)
  (k19 : PySem.W.keepIn K (.ref f19) = true)
  (a20 : PySem.W.nsIn K mainGlobals "_law_next" = some (some (.ref f20)))
  (l20 : K.lookup f20 = some ⟨oc20, od20, .func (PySem.W.fnOf "_law_next" "_law_next" (bj g9) (aZ g9) (aD g9) .none kV20 dc20 pm20 an20 cd20 ct20), sl20⟩)
  (c20 : PySem.W.codeIn K cd20 "_law_next" = true)
  (k20 : PySem.W.keepIn K (.ref f20) = true)
  (a21 : PySem.W.nsIn K mainGlobals "_law_words" = some (some (.ref f21)))
  (l21 : K.lookup f21 = some ⟨oc21, od21, .func (PySem.W.fnOf "_law_words" "_law_words" (bj gB) (aZ gB) (aD gB) .none kV21 dc21 pm21 an21 cd21 ct21), sl21⟩)
  (c21 : PySem.W.codeIn K cd21 "_law_words" = true)
  (k21 : PySem.W.keepIn K (.ref f21) = true)
  (a22 : PySem.W.nsIn K mainGlobals "_law_work" = some (some (.ref f22)))
  (l22 : K.lookup f22 = some ⟨oc22, od22, .func (PySem.W.fnOf "_law_work" "_law_work" (bj ia) (aZ ia) (aD ia) .none kV22 dc22 pm22 an22 cd22 ct22), sl22⟩)
  (c22 : PySem.W.codeIn K cd22 "_law_work" = true)
  (k22 : PySem.W.keepIn K (.ref f22) = true)
  (a23 : PySem.W.nsIn K mainGlobals "_law_copy" = some (some (.ref f23)))
  (l23 : K.lookup f23 = some ⟨oc23, od23, .func (PySem.W.fnOf "_law_copy" "_law_copy" (bj g5) (aZ g5) (aD g5) .none kV23 dc23 pm23 an23 cd23 ct23), sl23⟩)
  (c23 : PySem.W.codeIn K cd23 "_law_copy" = true)
  (k23 : PySem.W.keepIn K (.ref f23) = true)
  (a24 : PySem.W.nsIn K mainGlobals "_law_refused" = some (some (.ref f24)))
  (l24 : K.lookup f24 = some ⟨oc24, od24, .func (PySem.W.fnOf "_law_refused" "_law_refused" (bj eR) (aZ eR) (aD eR) .none kV24 dc24 pm24 an24 cd24 ct24), sl24⟩)
  (c24 : PySem.W.codeIn K cd24 "_law_refused" = true)
  (k24 : PySem.W.keepIn K (.ref f24) = true)
  (a25 : PySem.W.nsIn K mainGlobals "law" = some (some (.ref f25)))
  (l25 : K.lookup f25 = some ⟨oc25, od25, .func (PySem.W.fnOf "law" "law" (bj jR) (aZ jR) (aD jR) .none kV25 dc25 pm25 an25 cd25 ct25), sl25⟩)
  (c25 : PySem.W.codeIn K cd25 "law" = true)
  (k25 : PySem.W.keepIn K (.ref f25) = true)
  (z_isinstance : PySem.W.nsIn K mainGlobals "isinstance" = some none)
  (z_int : PySem.W.nsIn K mainGlobals "int" = some none)
  (z_bool : PySem.W.nsIn K mainGlobals "bool" = some none)
  (z_zip : PySem.W.nsIn K mainGlobals "zip" = some none)
  (z_sum : PySem.W.nsIn K mainGlobals "sum" = some none)
  (z_len : PySem.W.nsIn K mainGlobals "len" = some none)
  (z_all : PySem.W.nsIn K mainGlobals "all" = some none)
  (z_enumerate : PySem.W.nsIn K mainGlobals "enumerate" = some none)
  (z_list : PySem.W.nsIn K mainGlobals "list" = some none)
  (z_range : PySem.W.nsIn K mainGlobals "range" = some none)
  (z_any : PySem.W.nsIn K mainGlobals "any" = some none)
  (z_min : PySem.W.nsIn K mainGlobals "min" = some none)
  (z_ValueError : PySem.W.nsIn K mainGlobals "ValueError" = some none)
  (y_MOST_LETTERS : PySem.W.nsIn K mainGlobals "MOST_LETTERS" = some (some (.int 8 t_MOST_LETTERS)))
  (y_MOST_GOODS : PySem.W.nsIn K mainGlobals "MOST_GOODS" = some (some (.int 10 t_MOST_GOODS)))
  (y_MOST_WORKS : PySem.W.nsIn K mainGlobals "MOST_WORKS" = some (some (.int 10 t_MOST_WORKS))) :
  ∃ fd : FuncData, (∀ (s : Shared) (v : Value), BindsTo s fd ⟨[v], []⟩ [("_law_script", v)]) ∧ ∀ base : Heap, K.In base → base.Ns mainGlobals mg → dR l.prog w K mg base (CXE l.prog w) 41 fa fd ["_law_script"] (spM K (caK K) 1 sG) := by
  have e := hfa.symm.trans (PySem.W.mg_of X G a25)
  cases e
  have hC_Yard : caK K 0 = C_Yard := by show clsAt K "Yard" = _; unfold clsAt; rw [aC_Yard]
  have cl_Yard : Cls K (caK K 0) := by rw [hC_Yard]; exact ⟨g1_Yard, g2_Yard, g3_Yard, g4_Yard⟩
  have hC_NoWay : caK K 1 = C_NoWay := by show clsAt K "NoWay" = _; unfold clsAt; rw [aC_NoWay]
  have hC_YardError : caK K 2 = C_YardError := by show clsAt K "YardError" = _; unfold clsAt; rw [aC_YardError]
  have hC_NoWeights : caK K 11 = C_NoWeights := by show clsAt K "NoWeights" = _; unfold clsAt; rw [aC_NoWeights]
  have hC_NoText : caK K 9 = C_NoText := by show clsAt K "NoText" = _; unfold clsAt; rw [aC_NoText]
  have hC_NoRow : caK K 8 = C_NoRow := by show clsAt K "NoRow" = _; unfold clsAt; rw [aC_NoRow]
  have hC_NoRatio : caK K 10 = C_NoRatio := by show clsAt K "NoRatio" = _; unfold clsAt; rw [aC_NoRatio]
  have hC_NoName : caK K 7 = C_NoName := by show clsAt K "NoName" = _; unfold clsAt; rw [aC_NoName]
  have hC_NoGood : caK K 6 = C_NoGood := by show clsAt K "NoGood" = _; unfold clsAt; rw [aC_NoGood]
  have hC_NoFit : caK K 5 = C_NoFit := by show clsAt K "NoFit" = _; unfold clsAt; rw [aC_NoFit]
  have hC_NoBalance : caK K 4 = C_NoBalance := by show clsAt K "NoBalance" = _; unfold clsAt; rw [aC_NoBalance]
  have hC_NoAmount : caK K 3 = C_NoAmount := by show clsAt K "NoAmount" = _; unfold clsAt; rw [aC_NoAmount]
  have hC_TooMany : caK K 13 = C_TooMany := by show clsAt K "TooMany" = _; unfold clsAt; rw [aC_TooMany]
  have hC_NoWork : caK K 12 = C_NoWork := by show clsAt K "NoWork" = _; unfold clsAt; rw [aC_NoWork]
  have xm_NoWay : mg "NoWay" = some (.ref (caK K 1)) := by rw [hC_NoWay]; exact PySem.W.mg_of X G aC_NoWay
  have xm_YardError : mg "YardError" = some (.ref (caK K 2)) := by rw [hC_YardError]; exact PySem.W.mg_of X G aC_YardError
  have xm_NoWeights : mg "NoWeights" = some (.ref (caK K 11)) := by rw [hC_NoWeights]; exact PySem.W.mg_of X G aC_NoWeights
  have xm_NoText : mg "NoText" = some (.ref (caK K 9)) := by rw [hC_NoText]; exact PySem.W.mg_of X G aC_NoText
  have xm_NoRow : mg "NoRow" = some (.ref (caK K 8)) := by rw [hC_NoRow]; exact PySem.W.mg_of X G aC_NoRow
  have xm_NoRatio : mg "NoRatio" = some (.ref (caK K 10)) := by rw [hC_NoRatio]; exact PySem.W.mg_of X G aC_NoRatio
  have xm_NoName : mg "NoName" = some (.ref (caK K 7)) := by rw [hC_NoName]; exact PySem.W.mg_of X G aC_NoName
  have xm_NoGood : mg "NoGood" = some (.ref (caK K 6)) := by rw [hC_NoGood]; exact PySem.W.mg_of X G aC_NoGood
  have xm_NoFit : mg "NoFit" = some (.ref (caK K 5)) := by rw [hC_NoFit]; exact PySem.W.mg_of X G aC_NoFit
  have xm_NoBalance : mg "NoBalance" = some (.ref (caK K 4)) := by rw [hC_NoBalance]; exact PySem.W.mg_of X G aC_NoBalance
  have xm_NoAmount : mg "NoAmount" = some (.ref (caK K 3)) := by rw [hC_NoAmount]; exact PySem.W.mg_of X G aC_NoAmount
  have xm_TooMany : mg "TooMany" = some (.ref (caK K 13)) := by rw [hC_TooMany]; exact PySem.W.mg_of X G aC_TooMany
  have xm_NoWork : mg "NoWork" = some (.ref (caK K 12)) := by rw [hC_NoWork]; exact PySem.W.mg_of X G aC_NoWork
  have xk_NoWay : ExK K (caK K 1) := by rw [hC_NoWay]; exact ⟨ga_NoWay, gh_NoWay, gc_NoWay, gt0, tk0, mo_NoWay, mb_NoWay⟩
  have xxq_NoWay : PySem.W.excIn K (caK K 1) bmV "ValueError.__new__" = true := by rw [hC_NoWay]; exact xq_NoWay
  have xex_YardError : ∀ c b, iQ c = some b → PySem.W.exmOne K (.ref (caK K c)) (.ref (caK K 2)) = some b := by
    intro c b h
    unfold iQ at h
    split at h
    · cases h; exact (by rw [hC_NoWay, hC_YardError]; exact ex_YardError_NoWay)
    · cases h
  have xit_NoAmount_NoBalance_NoFit_NoGood_NoName_NoRatio_NoRow_NoText_NoWeights : ∀ c b, aO c = some b → ExK K (caK K c) ∧ PySem.W.kitAny K (.ref (caK K c)) ([caK K 3, caK K 4, caK K 5, caK K 6, caK K 7, caK K 10, caK K 8, caK K 9, caK K 11].map Value.ref) = some b := by
    intro c b h
    unfold aO at h
    split at h
    · cases h; exact ⟨xk_NoWay, by show PySem.W.kitAny K (.ref (caK K 1)) [.ref (caK K 3), .ref (caK K 4), .ref (caK K 5), .ref (caK K 6), .ref (caK K 7), .ref (caK K 10), .ref (caK K 8), .ref (caK K 9), .ref (caK K 11)] = _; rw [hC_NoWay, hC_NoAmount, hC_NoBalance, hC_NoFit, hC_NoGood, hC_NoName, hC_NoRatio, hC_NoRow, hC_NoText, hC_NoWeights]; exact it_NoAmount_NoBalance_NoFit_NoGood_NoName_NoRatio_NoRow_NoText_NoWeights_NoWay⟩
    · cases h
  have xit_NoWork_TooMany : ∀ c b, fq c = some b → ExK K (caK K c) ∧ PySem.W.kitAny K (.ref (caK K c)) ([caK K 12, caK K 13].map Value.ref) = some b := by
    intro c b h
    unfold fq at h
    split at h
    · cases h; exact ⟨xk_NoWay, by show PySem.W.kitAny K (.ref (caK K 1)) [.ref (caK K 12), .ref (caK K 13)] = _; rw [hC_NoWay, hC_NoWork, hC_TooMany]; exact it_NoWork_TooMany_NoWay⟩
    · cases h
  have xik_NoWay : ∀ c b, lP c = some b → ExK K (caK K c) ∧ PySem.W.kitOne K (.ref (caK K c)) (.ref (caK K 1)) = some b := by
    intro c b h
    unfold lP at h
    split at h
    · cases h; exact ⟨xk_NoWay, by rw [hC_NoWay]; exact ik_NoWay_NoWay⟩
    · cases h
  have xiy_ValueError : ∀ c b, iy c = some b → ExK K (caK K c) ∧ PySem.W.kitOne K (.ref (caK K c)) (.type "ValueError") = some b := by
    intro c b h
    unfold iy at h
    split at h
    · cases h; exact ⟨xk_NoWay, by rw [hC_NoWay]; exact iy_ValueError_NoWay⟩
    · cases h
  have na_Yard_held_goods : dU K (caK K 0) "held_goods" := by rw [hC_Yard]; exact nf_Yard_held_goods
  have na_Yard_held_works : dU K (caK K 0) "held_works" := by rw [hC_Yard]; exact nf_Yard_held_works
  have na_Yard_held_changes : dU K (caK K 0) "held_changes" := by rw [hC_Yard]; exact nf_Yard_held_changes
  have F0 := bY (st := hU) l0 c0 k0
  have F1 := bY (st := di) l1 c1 k1
  have F2 := bY (st := iG) l2 c2 k2
  have F3 := bY (st := fI) l3 c3 k3
  have F4 := bY (st := fA) l4 c4 k4
  have F5 := bY (st := eJ) l5 c5 k5
  have F6 := bY (st := fL) l6 c6 k6
  have F7 := bY (st := ej) l7 c7 k7
  have F8 := bY (st := eT) l8 c8 k8
  have F9 := bY (st := eG) l9 c9 k9
  have F10 := bY (st := gz) l10 c10 k10
  have F11 := bY (st := gx) l11 c11 k11
  have F12 := bY (st := gC) l12 c12 k12
  have F13 := bY (st := gw) l13 c13 k13
  have F14 := bY (st := g0) l14 c14 k14
  have F15 := bY (st := gv) l15 c15 k15
  have F16 := bY (st := dC) l16 c16 k16
  have F17 := bY (st := eS) l17 c17 k17
  have F18 := bY (st := dY) l18 c18 k18
  have F19 := bY (st := ie) l19 c19 k19
  have F20 := bY (st := g9) l20 c20 k20
  have F21 := bY (st := gB) l21 c21 k21
  have F22 := bY (st := ia) l22 c22 k22
  have F23 := bY (st := g5) l23 c23 k23
  have F24 := bY (st := eR) l24 c24 k24
  have F25 := bY (st := jR) l25 c25 k25
  refine ⟨PySem.W.fnOf "law" "law" (bj jR) (aZ jR) (aD jR) .none kV25 dc25 pm25 an25 cd25 ct25, fun s v => .of_eq rfl, fun base _ _ => ?_⟩
  have E_is_whole := uO (P := l.prog) (w := w) (mg := mg) (base := base) (ca := caK K) F0 (PySem.W.mg_of X G a0) hpt (PySem.W.mg_none_of X G z_isinstance) (PySem.W.mg_none_of X G z_int) (PySem.W.mg_none_of X G z_bool)
  have E_sum_of_products := m4 (P := l.prog) (w := w) (mg := mg) (base := base) (ca := caK K) F1 (PySem.W.mg_of X G a1) hpt (PySem.W.mg_none_of X G z_zip) (PySem.W.mg_none_of X G z_sum)
  have E_is_name := xr (P := l.prog) (w := w) (mg := mg) (base := base) (ca := caK K) F2 (PySem.W.mg_of X G a2) hpt (PySem.W.mg_none_of X G z_len) (PySem.W.mg_none_of X G z_all) ⟨_, PySem.W.mg_of X G y_MOST_LETTERS⟩
  have E_check_many := rN (P := l.prog) (w := w) (mg := mg) (base := base) (ca := caK K) F3 (PySem.W.mg_of X G a3) hpt (PySem.W.mg_none_of X G z_len) ⟨_, PySem.W.mg_of X G y_MOST_GOODS⟩ ⟨_, PySem.W.mg_of X G y_MOST_WORKS⟩
  have E_check_name := sf (P := l.prog) (w := w) (mg := mg) (base := base) (ca := caK K) F4 (PySem.W.mg_of X G a4) hpt E_is_name.in
  have E_check_goods := qe (P := l.prog) (w := w) (mg := mg) (base := base) (ca := caK K) F5 (PySem.W.mg_of X G a5) hpt (PySem.W.mg_none_of X G z_enumerate) E_check_name.in
  have E_check_good := r8 (P := l.prog) (w := w) (mg := mg) (base := base) (ca := caK K) F6 (PySem.W.mg_of X G a6) hpt
  have E_check_amount := pY (P := l.prog) (w := w) (mg := mg) (base := base) (ca := caK K) F7 (PySem.W.mg_of X G a7) hpt E_is_whole.in
  have E_check_parts := qo (P := l.prog) (w := w) (mg := mg) (base := base) (ca := caK K) F8 (PySem.W.mg_of X G a8) hpt E_check_good.in E_check_amount.in
  have E_check_works := qL (P := l.prog) (w := w) (mg := mg) (base := base) (ca := caK K) F9 (PySem.W.mg_of X G a9) hpt E_check_name.in E_check_parts.in
  have E_copy_work := tH (P := l.prog) (w := w) (mg := mg) (base := base) (ca := caK K) F10 (PySem.W.mg_of X G a10) hpt (PySem.W.mg_none_of X G z_list)
  have E_amount_of := sV (P := l.prog) (w := w) (mg := mg) (base := base) (ca := caK K) F11 (PySem.W.mg_of X G a11) hpt (PySem.W.mg_none_of X G z_sum)
  have E_change_of := tj (P := l.prog) (w := w) (mg := mg) (base := base) (ca := caK K) F12 (PySem.W.mg_of X G a12) hpt E_amount_of.in
  have E_Yard_init := tP (P := l.prog) (w := w) (mg := mg) (base := base) (ca := caK K) F13 (by rw [hC_Yard]; exact ⟨mk_Yard, a13, q13, kC_Yard⟩) (by rw [hC_Yard]; exact PySem.W.mg_of X G aC_Yard) hpt (PySem.W.mg_none_of X G z_list) cl_Yard na_Yard_held_goods na_Yard_held_works na_Yard_held_changes E_check_many.in E_check_goods.in E_check_works.in E_copy_work.in E_change_of.in
  have E_Yard_row := uX (P := l.prog) (w := w) (mg := mg) (base := base) (ca := caK K) F14 (by rw [hC_Yard]; exact ⟨a14, q14, k14⟩) hpt cl_Yard na_Yard_held_changes
  have E_Yard_rows := tT (P := l.prog) (w := w) (mg := mg) (base := base) (ca := caK K) F15 (by rw [hC_Yard]; exact ⟨a15, q15, k15⟩) hpt (PySem.W.mg_none_of X G z_len) (PySem.W.mg_none_of X G z_range) cl_Yard na_Yard_held_goods E_Yard_row
  have E_Yard_check_way := om (P := l.prog) (w := w) (mg := mg) (base := base) (ca := caK K) F16 (by rw [hC_Yard]; exact ⟨a16, q16, k16⟩) hpt (PySem.W.mg_none_of X G z_len) (PySem.W.mg_none_of X G z_any) cl_Yard na_Yard_held_works xxq_NoWay xm_NoWay
  have E_Yard_leaves := qI (P := l.prog) (w := w) (mg := mg) (base := base) (ca := caK K) F17 (by rw [hC_Yard]; exact ⟨a17, q17, k17⟩) hpt cl_Yard E_Yard_check_way E_Yard_rows E_sum_of_products.in
  have E_Yard_balanced := oI (P := l.prog) (w := w) (mg := mg) (base := base) (ca := caK K) F18 (by rw [hC_Yard]; exact ⟨a18, q18, k18⟩) hpt (PySem.W.mg_none_of X G z_all) cl_Yard E_Yard_leaves
  have E_law_cell := vk (P := l.prog) (w := w) (mg := mg) (base := base) (ca := caK K) F19 (PySem.W.mg_of X G a19) hpt (PySem.W.mg_none_of X G z_len)
  have E_law_next := vi (P := l.prog) (w := w) (mg := mg) (base := base) (ca := caK K) F20 (PySem.W.mg_of X G a20) hpt
  have E_law_words := tD (P := l.prog) (w := w) (mg := mg) (base := base) (ca := caK K) F21 (PySem.W.mg_of X G a21) hpt (PySem.W.mg_none_of X G z_range) (PySem.W.mg_none_of X G z_min)
  have E_law_work := vm (P := l.prog) (w := w) (mg := mg) (base := base) (ca := caK K) F22 (PySem.W.mg_of X G a22) hpt (PySem.W.mg_none_of X G z_enumerate) E_law_next.in
  have E_law_copy := uT (P := l.prog) (w := w) (mg := mg) (base := base) (ca := caK K) F23 (PySem.W.mg_of X G a23) hpt (PySem.W.mg_none_of X G z_list)
  have E_law_refused := qc (P := l.prog) (w := w) (mg := mg) (base := base) (ca := caK K) F24 (PySem.W.mg_of X G a24) hpt (PySem.W.mg_none_of X G z_list) (PySem.W.mg_none_of X G z_isinstance) (PySem.W.mg_none_of X G z_ValueError) cl_Yard xm_YardError xex_YardError xm_NoWeights xm_NoText xm_NoRow xm_NoRatio xm_NoName xm_NoGood xm_NoFit xm_NoBalance xm_NoAmount xit_NoAmount_NoBalance_NoFit_NoGood_NoName_NoRatio_NoRow_NoText_NoWeights xm_TooMany xm_NoWork xit_NoWork_TooMany xm_NoWay xik_NoWay xiy_ValueError E_Yard_leaves E_Yard_balanced
  have E_law := CJ (P := l.prog) (w := w) (mg := mg) (base := base) (ca := caK K) F25 (PySem.W.mg_of X G a25) hpt (PySem.W.mg_none_of X G z_enumerate) (PySem.W.mg_none_of X G z_list) (PySem.W.mg_none_of X G z_len) cl_Yard E_law_words.in E_law_cell.in E_law_work.in E_law_next.in E_Yard_init E_law_copy.in E_Yard_leaves E_Yard_balanced E_law_refused.in
  exact E_law.1
end Lk11
open PySem PySem.W PyProof.Rows
theorem PySem.W.Fast.tw6468029775188750325 : True := ⟨⟩
theorem PySem.W.Fast.tw6126938088762804433 : True := ⟨⟩
theorem PySem.W.Fast.tw6179421675833004729 : True := ⟨⟩
theorem PySem.W.Fast.tw10384080472192771037 : True := ⟨⟩
theorem PySem.W.Fast.tw8141988667821776940 : True := ⟨⟩
theorem PySem.W.Fast.tw9691679198940131981 : True := ⟨⟩
theorem PySem.W.Fast.tw1794981686986337152 : True := ⟨⟩
theorem PySem.W.Fast.tw15391259871353202435 : True := ⟨⟩
theorem PySem.W.Fast.tw1596248713481254851 : True := ⟨⟩
theorem PySem.W.Fast.tw6652783056720508241 : True := ⟨⟩
theorem PySem.W.Fast.tw3220084257831235113 : True := ⟨⟩
theorem PySem.W.Fast.tw1724477112972692621 : True := ⟨⟩
theorem PySem.W.Fast.tw17738735844397098021 : True := ⟨⟩
theorem PySem.W.Fast.tw4444056951251141343 : True := ⟨⟩
theorem PySem.W.Fast.tw8315582163200231992 : True := ⟨⟩
theorem PySem.W.Fast.tw2489923765882340284 : True := ⟨⟩
theorem PySem.W.Fast.tw1863073172071497942 : True := ⟨⟩
theorem PySem.W.Fast.tw6483836718427682842 : True := ⟨⟩
theorem PySem.W.Fast.tw2229130077405272060 : True := ⟨⟩
theorem PySem.W.Fast.tw15697221412637336252 : True := ⟨⟩
theorem PySem.W.Fast.tw4017781334983782085 : True := ⟨⟩
theorem PySem.W.Fast.tw16995208472686819533 : True := ⟨⟩
theorem PySem.W.Fast.tw653302421802048993 : True := ⟨⟩
theorem PySem.W.Fast.tw6614003522292023991 : True := ⟨⟩
theorem PySem.W.Fast.tw15078865153930267432 : True := ⟨⟩
theorem PySem.W.Fast.tw15892002998336947233 : True := ⟨⟩
theorem PySem.W.Fast.tw7779403407855777190 : True := ⟨⟩
theorem PySem.W.Fast.tw5649285466954469584 : True := ⟨⟩
theorem PySem.W.Fast.tw15832698173695897199 : True := ⟨⟩
theorem PySem.W.Fast.tw14167375166388878142 : True := ⟨⟩
theorem PySem.W.Fast.tw16301420712582895025 : True := ⟨⟩
theorem PySem.W.Fast.tw10321305852438635064 : True := ⟨⟩
theorem PySem.W.Fast.tw1027181655439481186 : True := ⟨⟩
theorem PySem.W.Fast.tw17759105816525758668 : True := ⟨⟩
theorem PySem.W.Fast.tw12602329263126759793 : True := ⟨⟩
theorem PySem.W.Fast.tw9224716177152694795 : True := ⟨⟩
theorem PySem.W.Fast.tw15846282326770422316 : True := ⟨⟩
theorem PySem.W.Fast.tw17567008020645136590 : True := ⟨⟩
theorem PySem.W.Fast.tw6893856511249603774 : True := ⟨⟩
theorem PySem.W.Fast.tw4316373878743089983 : True := ⟨⟩
theorem PySem.W.Fast.tw13555249806580864871 : True := ⟨⟩
theorem PySem.W.Fast.tw13638537247744484856 : True := ⟨⟩
theorem PySem.W.Fast.tw16328170798733416627 : True := ⟨⟩
theorem PySem.W.Fast.tw8478179887266552930 : True := ⟨⟩
theorem PySem.W.Fast.tw17100937946518368789 : True := ⟨⟩
theorem PySem.W.Fast.tw15127398179210956968 : True := ⟨⟩
theorem PySem.W.Fast.tw6633536496969950034 : True := ⟨⟩
theorem PySem.W.Fast.tw11797528990871812809 : True := ⟨⟩
theorem PySem.W.Fast.tw10754778554772053800 : True := ⟨⟩
theorem PySem.W.Fast.tw13425191536666754078 : True := ⟨⟩
theorem PySem.W.Fast.tw9141734916307361953 : True := ⟨⟩
theorem PySem.W.Fast.tw594505368363023494 : True := ⟨⟩
theorem PySem.W.Fast.tw13884722448409961454 : True := ⟨⟩
theorem PySem.W.Fast.tw4327827505483055438 : True := ⟨⟩
theorem PySem.W.Fast.tw2004844952264717180 : True := ⟨⟩
theorem PySem.W.Fast.tw12757811815778688962 : True := ⟨⟩
theorem PySem.W.Fast.tw13239418996269541823 : True := ⟨⟩
theorem PySem.W.Fast.tw14864675172863043821 : True := ⟨⟩
theorem PySem.W.Fast.tw15224668706324699463 : True := ⟨⟩
theorem PySem.W.Fast.tw11656007608634081125 : True := ⟨⟩
set_option maxRecDepth 100000 in
set_option maxHeartbeats 0 in
theorem PySem.Challenge.cw_modeyard_k11_what_is_no_way_holds : PySem.Challenge.rw_modeyard_k11_what_is_no_way.Holds := by
  w_on; o_law; k_head; (case hw => w_witness2)
  k_fill
  refine L2.Ab (l := PySem.Challenge.rw_modeyard_k11_what_is_no_way) (n := 63) (k := 41) (x := "_law_script") (sp := fun K => M.spM K (Lk11.caK K) 1 Lk11.sG) rfl (by decide) rfl ⟨rfl, by decide, by decide⟩ (by decide +kernel) (fun w h Y => PySem.W.kIn_of Y) ?F ?S
  case F =>
    intro w mg fa h KX G hmg
    refine' Lk11.all_mk KX G hmg rfl ?aC_Yard ?g1_Yard ?g2_Yard ?g3_Yard ?g4_Yard ?mk_Yard ?kC_Yard ?aC_NoWay ?aC_YardError ?aC_NoWeights ?aC_NoText ?aC_NoRow ?aC_NoRatio ?aC_NoName ?aC_NoGood ?aC_NoFit ?aC_NoBalance ?aC_NoAmount ?aC_TooMany ?aC_NoWork ?gt0 ?tk0 ?ga_NoWay ?gh_NoWay ?gc_NoWay ?mo_NoWay ?mb_NoWay ?xq_NoWay ?ex_YardError_NoWay ?it_NoAmount_NoBalance_NoFit_NoGood_NoName_NoRatio_NoRow_NoText_NoWeights_NoWay ?it_NoWork_TooMany_NoWay ?ik_NoWay_NoWay ?iy_ValueError_NoWay ?nf_Yard_held_goods ?nf_Yard_held_works ?nf_Yard_held_changes ?a0 ?l0 ?c0 ?k0 ?a1 ?l1 ?c1 ?k1 ?a2 ?l2 ?c2 ?k2 ?a3 ?l3 ?c3 ?k3 ?a4 ?l4 ?c4 ?k4 ?a5 ?l5 ?c5 ?k5 ?a6 ?l6 ?c6 ?k6 ?a7 ?l7 ?c7 ?k7 ?a8 ?l8 ?c8 ?k8 ?a9 ?l9 ?c9 ?k9 ?a10 ?l10 ?c10 ?k10 ?a11 ?l11 ?c11 ?k11 ?a12 ?l12 ?c12 ?k12 ?a13 ?q13 ?l13 ?c13 ?k13 ?a14 ?q14 ?l14 ?c14 ?k14 ?a15 ?q15 ?l15 ?c15 ?k15 ?a16 ?q16 ?l16 ?c16 ?k16 ?a17 ?q17 ?l17 ?c17 ?k17 ?a18 ?q18 ?l18 ?c18 ?k18 ?a19 ?l19 ?c19 ?k19 ?a20 ?l20 ?c20 ?k20 ?a21 ?l21 ?c21 ?k21 ?a22 ?l22 ?c22 ?k22 ?a23 ?l23 ?c23 ?k23 ?a24 ?l24 ?c24 ?k24 ?a25 ?l25 ?c25 ?k25 ?z_isinstance ?z_int ?z_bool ?z_zip ?z_sum ?z_len ?z_all ?z_enumerate ?z_list ?z_range ?z_any ?z_min ?z_ValueError ?y_MOST_LETTERS ?y_MOST_GOODS ?y_MOST_WORKS
    (case aC_Yard => k_is)
    (case g1_Yard => k_is)
    (case g2_Yard => k_is)
    (case g3_Yard => k_is)
    (case g4_Yard => k_is)
    (case mk_Yard => k_is)
    (case kC_Yard => k_is)
    (case aC_NoWay => k_is)
    (case aC_YardError => k_is)
    (case aC_NoWeights => k_is)
    (case aC_NoText => k_is)
    (case aC_NoRow => k_is)
    (case aC_NoRatio => k_is)
    (case aC_NoName => k_is)
    (case aC_NoGood => k_is)
    (case aC_NoFit => k_is)
    (case aC_NoBalance => k_is)
    (case aC_NoAmount => k_is)
    (case aC_TooMany => k_is)
    (case aC_NoWork => k_is)
    (case gt0 => k_is)
    (case tk0 => k_is)
    (case ga_NoWay => k_is)
    (case gh_NoWay => k_is)
    (case gc_NoWay => k_is)
    (case mo_NoWay => k_is)
    (case mb_NoWay => k_is)
    (case xq_NoWay => k_exc)
    (case ex_YardError_NoWay => kts_exm)
    (case it_NoAmount_NoBalance_NoFit_NoGood_NoName_NoRatio_NoRow_NoText_NoWeights_NoWay => kit_is)
    (case it_NoWork_TooMany_NoWay => kit_is)
    (case ik_NoWay_NoWay => kit_is)
    (case iy_ValueError_NoWay => kit_is)
    (case nf_Yard_held_goods => k_is)
    (case nf_Yard_held_works => k_is)
    (case nf_Yard_held_changes => k_is)
    (case a0 => k_is)
    (case l0 => k_is)
    (case c0 => k_is)
    (case k0 => k_is)
    (case a1 => k_is)
    (case l1 => k_is)
    (case c1 => k_is)
    (case k1 => k_is)
    (case a2 => k_is)
    (case l2 => k_is)
    (case c2 => k_is)
    (case k2 => k_is)
    (case a3 => k_is)
    (case l3 => k_is)
    (case c3 => k_is)
    (case k3 => k_is)
    (case a4 => k_is)
    (case l4 => k_is)
    (case c4 => k_is)
    (case k4 => k_is)
    (case a5 => k_is)
    (case l5 => k_is)
    (case c5 => k_is)
    (case k5 => k_is)
    (case a6 => k_is)
    (case l6 => k_is)
    (case c6 => k_is)
    (case k6 => k_is)
    (case a7 => k_is)
    (case l7 => k_is)
    (case c7 => k_is)
    (case k7 => k_is)
    (case a8 => k_is)
    (case l8 => k_is)
    (case c8 => k_is)
    (case k8 => k_is)
    (case a9 => k_is)
    (case l9 => k_is)
    (case c9 => k_is)
    (case k9 => k_is)
    (case a10 => k_is)
    (case l10 => k_is)
    (case c10 => k_is)
    (case k10 => k_is)
    (case a11 => k_is)
    (case l11 => k_is)
    (case c11 => k_is)
    (case k11 => k_is)
    (case a12 => k_is)
    (case l12 => k_is)
    (case c12 => k_is)
    (case k12 => k_is)
    (case a13 => k_is)
    (case q13 => k_is)
    (case l13 => k_is)
    (case c13 => k_is)
    (case k13 => k_is)
    (case a14 => k_is)
    (case q14 => k_is)
    (case l14 => k_is)
    (case c14 => k_is)
    (case k14 => k_is)
    (case a15 => k_is)
    (case q15 => k_is)
    (case l15 => k_is)
    (case c15 => k_is)
    (case k15 => k_is)
    (case a16 => k_is)
    (case q16 => k_is)
    (case l16 => k_is)
    (case c16 => k_is)
    (case k16 => k_is)
    (case a17 => k_is)
    (case q17 => k_is)
    (case l17 => k_is)
    (case c17 => k_is)
    (case k17 => k_is)
    (case a18 => k_is)
    (case q18 => k_is)
    (case l18 => k_is)
    (case c18 => k_is)
    (case k18 => k_is)
    (case a19 => k_is)
    (case l19 => k_is)
    (case c19 => k_is)
    (case k19 => k_is)
    (case a20 => k_is)
    (case l20 => k_is)
    (case c20 => k_is)
    (case k20 => k_is)
    (case a21 => k_is)
    (case l21 => k_is)
    (case c21 => k_is)
    (case k21 => k_is)
    (case a22 => k_is)
    (case l22 => k_is)
    (case c22 => k_is)
    (case k22 => k_is)
    (case a23 => k_is)
    (case l23 => k_is)
    (case c23 => k_is)
    (case k23 => k_is)
    (case a24 => k_is)
    (case l24 => k_is)
    (case c24 => k_is)
    (case k24 => k_is)
    (case a25 => k_is)
    (case l25 => k_is)
    (case c25 => k_is)
    (case k25 => k_is)
    (case z_isinstance => k_is)
    (case z_int => k_is)
    (case z_bool => k_is)
    (case z_zip => k_is)
    (case z_sum => k_is)
    (case z_len => k_is)
    (case z_all => k_is)
    (case z_enumerate => k_is)
    (case z_list => k_is)
    (case z_range => k_is)
    (case z_any => k_is)
    (case z_min => k_is)
    (case z_ValueError => k_is)
    (case y_MOST_LETTERS => k_is)
    (case y_MOST_GOODS => k_is)
    (case y_MOST_WORKS => k_is)
  case S => exact fun K H a ns hl _ hS => M.DA hS (Lk11.zB ns hl)
