import PyProof.Rows.All
import Wide.All
import OpenK.AllK
import Wide.FinOn
import Lean
import PyProof.EqAt
import PyProof.EqKinds
import PyProof.TupleCall
import PySem.Challenge.RW_modeyard_k17_lone_lists
set_option Elab.async false
set_option linter.all false
set_option maxRecDepth 100000
namespace L2
open PySem PySem.Spec PyProof.Rows
abbrev Key := Sum Int Str
def keyIs : Key → Value → Bool
  | .inl k, v => Value.isInt k v
  | .inr x, v => Value.isStrOf x v
def keyH (w : World) : Key → Int
  | .inl k => hashInt k
  | .inr x => hashStr w x
theorem keyIs_shape : ∀ {k : Key} {v : Value}, keyIs k v = true → (∃ i t, k = Sum.inl i ∧ v = Value.int i t) ∨ (∃ x t, k = Sum.inr x ∧ v = Value.str x t)
  | .inl i, v, h => by
    obtain ⟨t, e⟩ := Value.isInt_shape (k := i) (v := v) h
    exact .inl ⟨i, t, rfl, e⟩
  | .inr x, v, h => by
    obtain ⟨t, e⟩ := Value.isStrOf_shape (x := x) (v := v) h
    exact .inr ⟨x, t, rfl, e⟩
theorem key_ll (a b : Int) : decide ((Sum.inl a : Key) = Sum.inl b) = (a == b) := by
  by_cases e : a = b
  · subst e; simp
  · have h : ¬ (Sum.inl a : Key) = Sum.inl b := fun q => e (Sum.inl.inj q)
    rw [decide_eq_false h]
    exact (beq_eq_false_iff_ne.mpr e).symm
theorem key_rr (a b : Str) : decide ((Sum.inr a : Key) = Sum.inr b) = decide (a = b) := by
  by_cases e : a = b
  · subst e; simp
  · have h : ¬ (Sum.inr a : Key) = Sum.inr b := fun q => e (Sum.inr.inj q)
    rw [decide_eq_false h, decide_eq_false e]
theorem key_lr (a : Int) (b : Str) : decide ((Sum.inl a : Key) = Sum.inr b) = false := decide_eq_false (fun q => nomatch q)
theorem key_rl (a : Str) (b : Int) : decide ((Sum.inr a : Key) = Sum.inl b) = false := decide_eq_false (fun q => nomatch q)
def mixKind (prog : Program) (w : World) : PySem.KeyKind prog w Key where
  is := keyIs
  hash := keyH w
  inj := fun v a b ha hb => by
    rcases keyIs_shape ha with ⟨i, t, rfl, rfl⟩ | ⟨x, t, rfl, rfl⟩
    · rcases keyIs_shape hb with ⟨j, u, rfl, e⟩ | ⟨y, u, rfl, e⟩
      · injection e with e1 _; rw [e1]
      · exact nomatch e
    · rcases keyIs_shape hb with ⟨j, u, rfl, e⟩ | ⟨y, u, rfl, e⟩
      · exact nomatch e
      · injection e with e1 _; rw [e1]
  byValue := fun k v h => by
    rcases keyIs_shape h with ⟨i, t, rfl, rfl⟩ | ⟨x, t, rfl, rfl⟩ <;> rfl
  pyHash := fun hv h => by
    rcases keyIs_shape hv with ⟨i, t, rfl, rfl⟩ | ⟨x, t, rfl, rfl⟩
    · exact wpAny_pyHash_int h
    · exact wpAny_pyHash_str h
  eqBool := fun hu hv h => by
    rcases keyIs_shape hu with ⟨i, t, rfl, rfl⟩ | ⟨x, t, rfl, rfl⟩
    · rcases keyIs_shape hv with ⟨j, u, rfl, rfl⟩ | ⟨y, u, rfl, rfl⟩
      · rw [key_ll] at h; exact wpAny_eqBool_int h
      · rw [key_lr] at h; exact SeqAt.EqAt.int_str i t y u _ _ _ _ h
    · rcases keyIs_shape hv with ⟨j, u, rfl, rfl⟩ | ⟨y, u, rfl, rfl⟩
      · rw [key_rl] at h; exact SeqAt.EqAt.str_int x t j u _ _ _ _ h
      · rw [key_rr] at h; exact wpAny_eqBool_str h
  «strs» := fun k x t v h => by
    rcases keyIs_shape h with ⟨i, u, rfl, e⟩ | ⟨y, u, rfl, e⟩
    · exact nomatch e
    · injection e with e1 _
      subst e1
      cases v <;> rfl
end L2
namespace L2
open PySem PySem.Spec PyProof.Rows
inductive V where
  | non | bl (b : Bool) | int (i : Int) | str (x : Str) | byt (b : Array UInt8) | flt (b : UInt64) | ref (a : Addr) | ty (n : String)
  deriving DecidableEq
def RelV : V → Value → Prop
  | .non, u => u = Value.none
  | .bl b, u => u = Value.bool b
  | .int i, u => ∃ t, u = Value.int i t
  | .str x, u => ∃ t, u = Value.str x t
  | .byt b, u => ∃ t, u = Value.bytes b t
  | .flt b, u => ∃ t, u = Value.float b t
  | .ref a, u => u = Value.ref a
  | .ty n, u => u = Value.type n
abbrev Vals : List V → List Value → Prop := Paired RelV
theorem Vals.length {xs : List V} {us : List Value} (r : Vals xs us) : xs.length = us.length := Paired.length r
theorem Vals.get : ∀ {xs : List V} {us : List Value} {i : Nat} {x : V}, Vals xs us → xs[i]? = some x → ∃ u, us[i]? = some u ∧ RelV x u
  | _, _, _, _, .nil, e => by simp at e
  | _, _, 0, _, .cons r _, e => by simp at e; subst e; exact ⟨_, rfl, r⟩
  | _, _, i + 1, x, .cons _ t, e => by
    obtain ⟨u, h1, h2⟩ := Vals.get (i := i) (x := x) t (by simpa using e)
    exact ⟨u, by simpa using h1, h2⟩
theorem Vals.set {x : V} {u : Value} (r : RelV x u) : ∀ {xs : List V} {us : List Value} (i : Nat), Vals xs us → Vals (xs.set i x) (us.set i u)
  | _, _, _, .nil => .nil
  | _, _, 0, .cons _ t => .cons r t
  | _, _, i + 1, .cons q t => .cons q (Vals.set r i t)
theorem Vals.append : ∀ {xs ys : List V} {us ws : List Value}, Vals xs us → Vals ys ws → Vals (xs ++ ys) (us ++ ws)
  | _, _, _, _, .nil, s => s
  | _, _, _, _, .cons r t, s => .cons r (Vals.append t s)
theorem Vals.take : ∀ {xs : List V} {us : List Value} (n : Nat), Vals xs us → Vals (xs.take n) (us.take n)
  | _, _, 0, _ => .nil
  | _, _, _ + 1, .nil => .nil
  | _, _, n + 1, .cons r t => .cons r (Vals.take n t)
theorem Vals.drop : ∀ {xs : List V} {us : List Value} (n : Nat), Vals xs us → Vals (xs.drop n) (us.drop n)
  | _, _, 0, r => r
  | _, _, _ + 1, .nil => .nil
  | _, _, n + 1, .cons _ t => Vals.drop n t
def RelO : Option V → Option Value → Prop
  | some v, some u => RelV v u
  | none, none => True
  | _, _ => False
def KV {κ : Type} : List (κ × V) → List (κ × Value) → Prop := Paired fun (p : κ × V) (q : κ × Value) => p.1 = q.1 ∧ RelV p.2 q.2
def kV : Key → V
  | .inl i => .int i
  | .inr x => .str x
inductive HO where
    | lst (xs : List V)
    | tup (xs : List V)
    | dK (kvs : List (Key × V)) | dT (kvs : List (List Key × V))
    | set (S : Int → Bool) (n : Nat)
    | ins (C dx : Addr) (fs : List (Str × V))
    | own (x : Addr)
    | xd (fs : List (Str × V))
    | met (f x : Addr)
    | rng (lo hi : Int)
    | frz (o : Obj) (u : HO)
    | tbl (ps : Array Value)
    | ext (φ : Heap → Prop)
abbrev Hp := Addr → Option HO
def upd (H : Hp) (a : Addr) (o : HO) : Hp := fun b => if b = a then some o else H b
theorem upd_same {H : Hp} {a : Addr} {o : HO} : upd H a o a = some o := by unfold upd; rw [if_pos rfl]
theorem upd_ne {H : Hp} {a b : Addr} {o : HO} (h : b ≠ a) : upd H a o b = H b := by unfold upd; rw [if_neg h]
theorem ne_of_none {H : Hp} {a b : Addr} {o : HO} (h : H a = some o) (h' : H b = none) : a ≠ b := by
  intro e; subst e; rw [h] at h'; cases h'
section
variable (P : Program) (w : World)
def ObjOk (H : Hp) (h : Heap) (a : Addr) : HO → Prop
  | .lst xs => xs.length ≤ sizeLine ∧ ∃ (its : List Value) (n : Nat), Vals xs its ∧ h.get? a = some { cls := .type "list", data := .seq its.toArray n }
  | .tup xs => xs.length ≤ sizeLine ∧ ∃ its : List Value, Vals xs its ∧ IsTup h a its.toArray
  | .dK kvs => kvs.length ≤ sizeLine ∧ (a == sysModules) = false ∧ ∃ vs, KV kvs vs ∧ h.DictOf (mixKind P w) a vs
  | .dT kvs => kvs.length ≤ sizeLine ∧ (a == sysModules) = false ∧ ∃ xs : List (List Key × Addr × Value),
      Paired (fun (p : List Key × V) (q : List Key × Addr × Value) => p.1 = q.1 ∧ H q.2.1 = some (.tup (p.1.map kV)) ∧ RelV p.2 q.2.2) kvs xs ∧
      ∃ o es ep, h.get? a = some o ∧ o.ExactDict ∧ o.data = .dict es ep ∧ es.toList = xs.map (entryOfKey (tupleKind (mixKind P w))) ∧ (xs.map (·.1)).Nodup
  | .set S n => h.SetOf (intKind P w) a S n
  | .ins C dx fs => H dx = some (.own a) ∧ fs.length ≤ 1000 ∧ dx ≠ a ∧ h.get? a = some (PySem.W.instObj C dx) ∧
      ∃ mA, h.Ns1 dx mA ∧ (∀ f, RelO (fs.lookup f) (mA f)) ∧ PySem.Within mA (fs.map (·.1))
  | .own _ => ∃ o, h.get? a = some o
  | .xd fs => ∃ mA, h.Ns1 a mA ∧ ∀ f, RelO (fs.lookup f) (mA f)
  | .rng lo hi => ∃ t u v, h.get? a = some { cls := .type "range", data := .fields #[.int lo t, .int hi u, .int 1 v] }
  | .frz o u => h.get? a = some o ∧ ObjOk H h a u
  | .tbl ps => h.get? a = some { cls := .none, data := .fields ps }
  | .met f x => h.get? a = some (PySem.W.methodObj (.ref f) (.ref x))
  | .ext φ => φ h ∧ (∃ o, h.get? a = some o) ∧ ∀ h1 h2 : Heap, φ h1 → (∀ o, h1.get? a = some o → h2.get? a = some o) → φ h2
def HOk (H : Hp) (h : Heap) : Prop := ∀ a o, H a = some o → ObjOk P w H h a o
end
section
variable {P : Program} {w : World} {H H' : Hp} {h h' : Heap} {a : Addr} {o : HO}
theorem ObjOk.lt (x : ObjOk P w H h a o) : a < h.objs.size := by
  cases o with
  | lst xs => obtain ⟨_, _, _, _, e⟩ := x; exact Heap.lt_size e
  | tup xs => obtain ⟨_, _, _, p⟩ := x; exact p.lt
  | dK kvs => obtain ⟨_, _, _, _, o, _, _, e, _⟩ := x; exact Heap.lt_size e
  | dT kvs => obtain ⟨_, _, _, _, o, _, _, e, _⟩ := x; exact Heap.lt_size e
  | set S n => obtain ⟨o, _, _, _, e, _⟩ := x; exact Heap.lt_size e
  | ins C dx fs => obtain ⟨_, _, _, e, _⟩ := x; exact Heap.lt_size e
  | own y => obtain ⟨_, e⟩ := x; exact Heap.lt_size e
  | xd fs => obtain ⟨_, ⟨_, _, _, e, _⟩, _⟩ := x; exact Heap.lt_size e
  | rng lo hi => obtain ⟨_, _, _, e⟩ := x; exact Heap.lt_size e
  | frz ob u => obtain ⟨e, _⟩ := x; exact Heap.lt_size e
  | tbl ps => exact Heap.lt_size (show h.get? a = some _ from x)
  | met f y => exact Heap.lt_size (show h.get? a = some _ from x)
  | ext φ => obtain ⟨_, ⟨_, e⟩, _⟩ := x; exact Heap.lt_size e
theorem Paired.mapP {α β : Type} {F G : α → β → Prop} : ∀ {l₁ : List α} {l₂ : List β}, Paired F l₁ l₂ → (∀ a b, F a b → G a b) → Paired G l₁ l₂
  | _, _, .nil, _ => .nil
  | _, _, .cons r t, f => .cons (f _ _ r) (Paired.mapP t f)
theorem ObjOk.stay (x : ObjOk P w H h a o) (k : ∀ b u, (b = a ∨ H b = some (.own a)) → h.get? b = some u → h'.get? b = some u)
    (ho : ∀ b, H b = some (.own a) → H' b = some (.own a)) (ht : ∀ b xs, H b = some (.tup xs) → H' b = some (.tup xs)) : ObjOk P w H' h' a o := by
  induction o with
  | lst xs => obtain ⟨z, its, n, r, e⟩ := x; exact ⟨z, its, n, r, k _ _ (.inl rfl) e⟩
  | tup xs => obtain ⟨z, its, r, ob, e, c⟩ := x; exact ⟨z, its, r, ob, k _ _ (.inl rfl) e, c⟩
  | dK kvs => obtain ⟨z, y, vs, r, ob, es, ep, e, c⟩ := x; exact ⟨z, y, vs, r, ob, es, ep, k _ _ (.inl rfl) e, c⟩
  | dT kvs =>
    obtain ⟨z, y, xs, r, ob, es, ep, e, c⟩ := x
    exact ⟨z, y, xs, Paired.mapP r fun p q z => ⟨z.1, ht _ _ z.2.1, z.2.2⟩, ob, es, ep, k _ _ (.inl rfl) e, c⟩
  | set S n => obtain ⟨ob, es, ep, t, e, c⟩ := x; exact ⟨ob, es, ep, t, k _ _ (.inl rfl) e, c⟩
  | ins C dx fs =>
    obtain ⟨d, z, ne, e, mA, ⟨od, es, ep, e2, c⟩, r⟩ := x
    exact ⟨ho _ d, z, ne, k _ _ (.inl rfl) e, mA, ⟨od, es, ep, k _ _ (.inr d) e2, c⟩, r⟩
  | own y => obtain ⟨ob, e⟩ := x; exact ⟨ob, k _ _ (.inl rfl) e⟩
  | xd fs => obtain ⟨mA, ⟨od, es, ep, e, c⟩, r⟩ := x; exact ⟨mA, ⟨od, es, ep, k _ _ (.inl rfl) e, c⟩, r⟩
  | rng lo hi => obtain ⟨t, u, v, e⟩ := x; exact ⟨t, u, v, k _ _ (.inl rfl) e⟩
  | frz ob u ih => obtain ⟨e, q⟩ := x; exact ⟨k _ _ (.inl rfl) e, ih q⟩
  | tbl ps =>
    have e : h.get? a = some { cls := .none, data := .fields ps } := x
    show h'.get? a = some { cls := .none, data := .fields ps }
    exact k a _ (.inl rfl) e
  | met f y =>
    have e : h.get? a = some (PySem.W.methodObj (.ref f) (.ref y)) := x
    show h'.get? a = some (PySem.W.methodObj (.ref f) (.ref y))
    exact k a _ (.inl rfl) e
  | ext φ => obtain ⟨p, ⟨o, e⟩, st⟩ := x; exact ⟨st _ _ p fun o q => k _ _ (.inl rfl) q, ⟨o, k _ _ (.inl rfl) e⟩, st⟩
theorem HOk.lt (x : HOk P w H h) (e : H a = some o) : a < h.objs.size := (x a o e).lt
theorem HOk.fresh (x : HOk P w H h) (e : h.objs.size ≤ a) : H a = none := by
  cases q : H a with
  | none => rfl
  | some u => exact absurd (Nat.lt_of_lt_of_le (x.lt q) e) (Nat.lt_irrefl _)
theorem HOk.kept (x : HOk P w H h) (k : ∀ b u, h.get? b = some u → h'.get? b = some u) : HOk P w H h' := fun a o e =>
  (x a o e).stay (fun b u _ q => k b u q) (fun _ q => q) fun _ _ q => q
theorem HOk.laid (x : HOk P w H h) (k : ∀ b u, h.get? b = some u → h'.get? b = some u) (hp : h.objs.size ≤ a) (new : ObjOk P w (upd H a o) h' a o) : HOk P w (upd H a o) h' := fun b u e => by
  have hn := x.fresh hp
  by_cases hb : b = a
  · subst hb; rw [upd_same] at e; cases e; exact new
  · rw [upd_ne hb] at e
    exact (x b u e).stay (fun c v _ q => k c v q) (fun c q => by rw [upd_ne (ne_of_none q hn)]; exact q) fun c xs q => by rw [upd_ne (ne_of_none q hn)]; exact q
end
def Rd (H : Hp) (a : Addr) (u : HO) : Prop := H a = some u ∨ ∃ o, H a = some (.frz o u)
theorem Rd.of {H : Hp} {a : Addr} {u : HO} (h : H a = some u) : Rd H a u := .inl h
theorem Rd.ok {P : Program} {w : World} {H : Hp} {h : Heap} {a : Addr} {u : HO} (r : Rd H a u) (x : HOk P w H h) : ObjOk P w H h a u := by
  rcases r with r | ⟨o, r⟩
  · exact x a u r
  · obtain ⟨_, q⟩ := x a _ r
    exact q
def Mut : Option HO → Prop
  | some (.lst _) => True
  | some (.dK _) => True
  | some (.dT _) => True
  | some (.set _ _) => True
  | some (.ins _ _ _) => True
  | some (.ext _) => True
  | _ => False
section
variable {P : Program} {w : World} {H : Hp} {h h' : Heap} {x e : Addr} {o' : HO}
theorem HOk.write (ok : HOk P w H h) (mu : Mut (H x)) (he : e = x ∨ H e = some (.own x)) (k : ∀ b u, b ≠ e → h.get? b = some u → h'.get? b = some u) (heo : ∃ u, h'.get? e = some u)
    (new : ObjOk P w (upd H x o') h' x o') : HOk P w (upd H x o') h' := fun b u q => by
  have nown : ∀ c y, H c = some (.own y) → c ≠ x := fun c y r z => by subst z; rw [r] at mu; exact mu
  have ntup : ∀ c xs, H c = some (.tup xs) → c ≠ x := fun c xs r z => by subst z; rw [r] at mu; exact mu
  by_cases hb : b = x
  · subst hb; rw [upd_same] at q; cases q; exact new
  · rw [upd_ne hb] at q
    by_cases hbe : b = e
    · have q' : H b = some (.own x) := by
        rcases he with z | z
        · exact absurd (hbe.trans z) hb
        · rw [hbe]; exact z
      rw [q] at q'; cases q'
      obtain ⟨v, hv⟩ := heo
      exact ⟨v, by rw [hbe]; exact hv⟩
    · refine (ok b u q).stay (fun c v hc r => k c v ?_ r) (fun c r => by rw [upd_ne (nown c b r)]; exact r) fun c xs r => by rw [upd_ne (ntup c xs r)]; exact r
      rcases hc with rfl | hc
      · exact hbe
      · rintro rfl
        rcases he with z | z
        · exact nown c b hc z
        · rw [hc] at z; cases z; exact hb rfl
end
structure Un (fs ex : List Addr) (H H' : Hp) (h h' : Heap) : Prop where
  keep : ∀ b o, h.get? b = some o → H b = none → b ∉ fs → b ∉ ex → h'.get? b = some o
  slot : ∀ b o, h.get? b = some o → H b = none → b ∈ fs → b ∉ ex → ∃ sl, h'.get? b = some { o with slots := sl }
  free : ∀ b o, h.get? b = some o → H b = none → b ∉ ex → H' b = none
  there : ∀ b o, h.get? b = some o → b ∉ ex → ∃ o', h'.get? b = some o'
  tups : ∀ b xs, H b = some (.tup xs) → H' b = some (.tup xs)
  frzs : ∀ b o u, H b = some (.frz o u) → H' b = some (.frz o u)
  tbls : ∀ b ps, H b = some (.tbl ps) → ∃ more, H' b = some (.tbl (ps ++ more))
section
variable {fs fs' ex ex' : List Addr} {H H1 H2 : Hp} {h h1 h2 h' : Heap} {a x e : Addr} {o : HO}
theorem Un.any (u : Un fs ex H H1 h h1) {b : Addr} {ob : Obj} (q : h.get? b = some ob) (n : H b = none) (hx : b ∉ ex) : ∃ sl, h1.get? b = some { ob with slots := sl } := by
  by_cases hb : b ∈ fs
  · exact u.slot b ob q n hb hx
  · exact ⟨ob.slots, u.keep b ob q n hb hx⟩
theorem Un.trans (a : Un fs ex H H1 h h1) (b : Un fs ex H1 H2 h1 h2) : Un fs ex H H2 h h2 where
  keep := fun c ob q n hc hx => b.keep c ob (a.keep c ob q n hc hx) (a.free c ob q n hx) hc hx
  slot := fun c ob q n hc hx => by
    obtain ⟨sl, e1⟩ := a.slot c ob q n hc hx
    obtain ⟨sl', e2⟩ := b.slot c _ e1 (a.free c ob q n hx) hc hx
    exact ⟨sl', e2⟩
  free := fun c ob q n hx => by
    obtain ⟨o', e1⟩ := a.there c ob q hx
    exact b.free c o' e1 (a.free c ob q n hx) hx
  there := fun c ob q hx => by
    obtain ⟨o', e1⟩ := a.there c ob q hx
    exact b.there c o' e1 hx
  tups := fun c xs q => b.tups c xs (a.tups c xs q)
  frzs := fun c ob xs q => b.frzs c ob xs (a.frzs c ob xs q)
  tbls := fun c ps q => by
    obtain ⟨m1, e1⟩ := a.tbls c ps q
    obtain ⟨m2, e2⟩ := b.tbls c _ e1
    exact ⟨m1 ++ m2, by rw [e2, Array.append_assoc]⟩
theorem Un.kept (k : ∀ b u, h.get? b = some u → h'.get? b = some u) : Un fs ex H H h h' :=
  ⟨fun b ob q _ _ _ => k b ob q, fun b ob q _ _ _ => ⟨ob.slots, k b ob q⟩, fun _ _ _ n _ => n, fun b ob q _ => ⟨ob, k b ob q⟩, fun _ _ q => q, fun _ _ _ q => q, fun _ ps q => ⟨#[], by rw [q]; simp⟩⟩
theorem Un.refl : Un fs ex H H h h := Un.kept fun _ _ q => q
theorem Un.laid (k : ∀ b u, h.get? b = some u → h'.get? b = some u) (hp : h.objs.size ≤ a) (hn : H a = none) : Un fs ex H (upd H a o) h h' where
  keep := fun b u q _ _ _ => k b u q
  slot := fun b u q _ _ _ => ⟨u.slots, k b u q⟩
  free := fun b u q n _ => by rw [upd_ne (Nat.ne_of_lt (Nat.lt_of_lt_of_le (Heap.lt_size q) hp))]; exact n
  there := fun b u q _ => ⟨u, k b u q⟩
  tups := fun b xs q => by rw [upd_ne (ne_of_none q hn)]; exact q
  frzs := fun b u xs q => by rw [upd_ne (ne_of_none q hn)]; exact q
  tbls := fun b ps q => ⟨#[], by rw [upd_ne (ne_of_none q hn), q]; simp⟩
theorem Un.write (mu : Mut (H x)) (he : e = x ∨ H e = some (.own x)) (k : ∀ b u, b ≠ e → h.get? b = some u → h'.get? b = some u) (heo : ∃ u, h'.get? e = some u) : Un fs ex H (upd H x o) h h' := by
  have hx : ∀ b, H b = none → b ≠ x := fun b n z => by subst z; rw [n] at mu; exact mu
  have hb : ∀ b, H b = none → b ≠ e := fun b n z => by
    subst z
    rcases he with r | r
    · exact hx b n r
    · rw [n] at r; cases r
  have hm : ∀ b u, H b = some u → ¬ Mut (some u) → b ≠ x := fun b u q nm z => by subst z; rw [q] at mu; exact nm mu
  refine ⟨fun b u q n _ _ => k b u (hb b n) q, fun b u q n _ _ => ⟨u.slots, k b u (hb b n) q⟩, fun b u q n _ => by rw [upd_ne (hx b n)]; exact n, fun b u q _ => ?_,
    fun b xs q => by rw [upd_ne (hm b _ q fun z => z)]; exact q, fun b u xs q => by rw [upd_ne (hm b _ q fun z => z)]; exact q, fun b ps q => ⟨#[], by rw [upd_ne (hm b _ q fun z => z), q]; simp⟩⟩
  by_cases hbe : b = e
  · subst hbe; exact heo
  · exact ⟨u, k b u hbe q⟩
theorem Un.mono (u : Un fs ex H H1 h h1) (hs : ∀ b ∈ fs, b ∈ fs') (hx : ∀ b ∈ ex, b ∈ ex') : Un fs' ex' H H1 h h1 :=
  ⟨fun b ob q n hb he => u.keep b ob q n (fun z => hb (hs b z)) fun z => he (hx b z), fun _ _ q n _ he => u.any q n fun z => he (hx _ z), fun b ob q n he => u.free b ob q n fun z => he (hx b z), fun b ob q he => u.there b ob q fun z => he (hx b z), u.tups, u.frzs, u.tbls⟩
end
def trk (h : Heap) (H : Hp) : List Addr := (List.range h.objs.size).filter fun a => (H a).isSome
def hidT (h : Heap) (H : Hp) : Heap := PySem.W.hideAll h (trk h H)
theorem hidT_size (h : Heap) (H : Hp) : (hidT h H).objs.size = h.objs.size := PySem.W.hideAll_size _ _
theorem hidT_get {h : Heap} {H : Hp} {b : Addr} {o : Obj} (e : h.get? b = some o) (n : H b = none) : (hidT h H).get? b = some o :=
  PySem.W.hideAll_get _ e fun hm => by
    have q : (H b).isSome = true := (List.mem_filter.mp hm).2
    rw [n] at q; simp at q
theorem of_hidT {h : Heap} {H : Hp} {b : Addr} {o : Obj} (e : (hidT h H).get? b = some o) : h.get? b = some o ∧ H b = none := by
  have e' : h.get? b = some o := PySem.W.of_hideAll (trk h H) e
  refine ⟨e', ?_⟩
  cases q : H b with
  | none => rfl
  | some x =>
    have hm : b ∈ trk h H := List.mem_filter.mpr ⟨List.mem_range.mpr (Heap.lt_size e'), by simp [q]⟩
    have z : (hidT h H).get? b = none := PySem.W.hideAll_none (trk h H) hm
    rw [z] at e; cases e
def allNews (g h : Heap) (L : Addr) : List (Addr × Obj) := (List.range h.objs.size).filterMap fun a => if a = L ∨ (g.get? a).isSome = true then none else (h.get? a).map fun o => (a, o)
def rest (g h : Heap) (L d : Addr) : List (Addr × Obj) := (allNews g h L).filter fun p => decide (p.1 ≠ d)
end L2
namespace L2
open PySem PySem.Spec PyProof.Rows
structure Mod (K : PySem.W.Frag) (mg : Str → Option Value) (base : Heap) : Prop where
  kin : K.In base
  glob : base.Ns mainGlobals mg
  blt : ∃ mb, base.Ns builtinsNs mb ∧ ∀ x : Str, x ≠ "__name__" → mb x = bootBuiltins x
  nolimit : base.NoLimit
  seer : base.NoSeer
structure Cx where
  prog : Program
  w : World
  K : PySem.W.Frag
  mg : Str → Option Value
  base : Heap
  A : Around
  N : List Str
  s₀ : Shared
  H₀ : Hp
  env : Env
  outer : List Env
  stack : List Env
  ex : List Addr
  fn : Str → Bool
  calm : Bool
  pn : List (Addr × Obj)
  xe : Value → Shared → Prop
def frs (l : List Env) : List Addr := l.filterMap (·.frame)
abbrev Cx.fs (X : Cx) : List Addr := frs X.outer
def Vis (sc : Scope) (x : Str) : Prop := sc.names.lookup x = some .local ∨ sc.names.lookup x = some .cell ∨ sc.names.lookup x = some .free
def Loc (sc : Scope) (x : Str) : Prop := sc.names.lookup x = some .local ∨ sc.names.lookup x = some .cell
def Look (env : Env) (h : Heap) (m : Str → Option Value) (x : Str) (u : Value) : Prop :=
  (env.kindOf x = some .local ∧ m x = some u) ∨ ((env.kindOf x = some .cell ∨ env.kindOf x = some .free) ∧ ∃ c, env.cells.lookup x = some c ∧ h.IsCell c (some u))
structure Cx.Ok (X : Cx) : Prop where
  mod : Mod X.K X.mg X.base
  kind : X.env.scope.kind = .function
  glob : X.env.globals = mainGlobals
  blt : X.env.builtins = builtinsNs
  above : X.s₀.heap.objs.size ≤ X.env.locals
  inj : ∀ x y c, X.env.cells.lookup x = some c → X.env.cells.lookup y = some c → x = y
  has : ∀ x, (X.env.kindOf x = some .cell ∨ X.env.kindOf x = some .free) → ∃ c, X.env.cells.lookup x = some c
  cab : ∀ x c, X.fn x = true → X.env.cells.lookup x = some c → X.s₀.heap.objs.size ≤ c
  hd : X.calm = true → X.A.handled = none
  frames : X.A.frames = some X.stack
  stk : X.stack = X.outer ∨ (X.stack = X.env :: X.outer ∧ X.env.frame = some X.env.locals)
  exf : ∀ b ∈ X.ex, b ≠ X.env.locals ∧ ∀ x c, X.env.cells.lookup x = some c → c ≠ b
  bs : ∀ b o, X.base.get? b = some o → X.s₀.heap.get? b = some o ∧ X.H₀ b = none
  bsz : X.base.objs.size ≤ X.s₀.heap.objs.size
  noex : ∀ b o, X.base.get? b = some o → b ∉ X.ex
  exfs : ∀ b ∈ X.ex, b ∉ X.fs
  funs : X.s₀.heap.FunFrames X.base X.outer
  frf : ∀ b ∈ X.fs, X.H₀ b = none
structure Inv (X : Cx) (pins : List (Addr × Obj)) (σ : List (Option V)) (H : Hp) (s : Shared) : Prop where
  ok : X.Ok
  os : s.os = X.s₀.os
  bare : AllBare s.gens
  base : Un X.fs X.ex X.H₀ H X.s₀.heap s.heap
  loc : ∃ m, s.heap.Ns X.env.locals m ∧ ∀ (i : Nat) (x : Str) (v : V), X.N[i]? = some x → σ[i]? = some (some v) → Vis X.env.scope x → ∃ u, RelV v u ∧ Look X.env s.heap m x u
  cell : ∀ x c, X.env.cells.lookup x = some c → ∃ v, s.heap.IsCell c v
  free : H X.env.locals = none
  freeC : ∀ x c, X.env.cells.lookup x = some c → H c = none
  pin : ∀ p ∈ X.pn ++ pins, s.heap.get? p.1 = some p.2 ∧ H p.1 = none ∧ p.1 ≠ X.env.locals ∧ p.1 ∉ X.fs ∧ ∀ v, p.2.data ≠ .cell v
  hok : HOk X.prog X.w H s.heap
  len : σ.length = X.N.length
section
variable {X : Cx} {pins : List (Addr × Obj)} {σ : List (Option V)} {H H' : Hp} {s : Shared} {h' : Heap}
theorem Cx.Ok.nofr (ok : X.Ok) {b : Addr} {o : Obj} (e : X.base.get? b = some o) : b ∉ X.fs := fun hb => by
  have := (ok.funs.mem hb).1
  rw [e] at this; cases this
theorem Inv.bs (I : Inv X pins σ H s) : ∀ b o, X.base.get? b = some o → s.heap.get? b = some o ∧ H b = none := fun b o e =>
  ⟨I.base.keep b o (I.ok.bs b o e).1 (I.ok.bs b o e).2 (I.ok.nofr e) (I.ok.noex b o e), I.base.free b o (I.ok.bs b o e).1 (I.ok.bs b o e).2 (I.ok.noex b o e)⟩
theorem Inv.bk (I : Inv X pins σ H s) : ∀ b o, X.base.get? b = some o → s.heap.get? b = some o := fun b o e => (I.bs b o e).1
theorem Inv.mod (I : Inv X pins σ H s) : Mod X.K X.mg X.base := I.ok.mod
theorem Inv.kIn (I : Inv X pins σ H s) : X.K.In s.heap := I.ok.mod.kin.keeps I.bk
theorem Inv.nolimit (I : Inv X pins σ H s) : s.heap.NoLimit := I.ok.mod.nolimit.keeps I.bk
theorem Inv.noseer (I : Inv X pins σ H s) : s.heap.NoSeer := I.ok.mod.seer.keeps I.bk
theorem Inv.fr (I : Inv X pins σ H s) : ∃ m, Fr X.base X.env.locals s.heap m :=
  let ⟨m, hn, _⟩ := I.loc
  ⟨m, hn, I.bk, Nat.le_trans I.ok.bsz I.ok.above⟩
theorem Inv.lt (I : Inv X pins σ H s) : X.env.locals < s.heap.objs.size := let ⟨_, hn, _⟩ := I.loc; hn.lt
theorem Inv.sz (I : Inv X pins σ H s) : X.s₀.heap.objs.size ≤ s.heap.objs.size := Nat.le_trans I.ok.above (Nat.le_of_lt I.lt)
theorem Inv.nofs (I : Inv X pins σ H s) {a : Addr} (h : s.heap.objs.size ≤ a) : a ∉ X.fs := fun hb => by
  obtain ⟨_, o, ho, _⟩ := I.ok.funs.mem hb
  exact absurd (Nat.lt_of_lt_of_le (Heap.lt_size ho) (Nat.le_trans I.sz h)) (Nat.lt_irrefl _)
theorem Inv.cne (I : Inv X pins σ H s) : ∀ x c, X.env.cells.lookup x = some c → c ≠ X.env.locals := fun x c e z => by
  obtain ⟨v, o, ho, hd⟩ := I.cell x c e
  obtain ⟨m, ⟨o', es, ep, ho', hd', _⟩, _⟩ := I.loc
  rw [z, ho'] at ho; cases ho; rw [hd'] at hd; cases hd
theorem Inv.funs (I : Inv X pins σ H s) : s.heap.FunFrames X.base X.outer := by
  have all : ∀ (l : List Env), (∀ b ∈ frs l, b ∈ X.fs) → X.s₀.heap.FunFrames X.base l → s.heap.FunFrames X.base l := by
    intro l
    induction l with
    | nil => intro _ _; trivial
    | cons env r ih =>
      intro hs hl
      obtain ⟨hk, ⟨L, o, hf, hn, ho, hd⟩, hr⟩ := hl
      have hL : L ∈ X.fs := hs L (by unfold frs; rw [List.filterMap_cons, hf]; exact List.mem_cons_self)
      obtain ⟨sl, e⟩ := I.base.slot L o ho (I.ok.frf L hL) hL fun z => I.ok.exfs L z hL
      exact ⟨hk, ⟨L, _, hf, hn, e, hd⟩, ih (fun b hb => hs b (by unfold frs; rw [List.filterMap_cons, hf]; exact List.mem_cons_of_mem _ hb)) hr⟩
  exact all X.outer (fun _ hb => hb) I.ok.funs
theorem Inv.stack (I : Inv X pins σ H s) : s.heap.FunFrames X.base X.stack := by
  rcases I.ok.stk with e | ⟨e, hf⟩
  · rw [e]; exact I.funs
  · rw [e]
    obtain ⟨m, hn, _⟩ := I.loc
    refine .cons (by rw [I.ok.kind]; decide) hf hn ?_ I.funs
    exact Heap.get?_none_of_le (Nat.le_trans I.ok.bsz I.ok.above)
theorem Inv.stkSub (I : Inv X pins σ H s) : ∀ b ∈ frs X.stack, b ∈ X.env.locals :: X.fs := fun b hb => by
  rcases I.ok.stk with e | ⟨e, hf⟩
  · rw [e] at hb; exact List.mem_cons_of_mem _ hb
  · rw [e] at hb
    unfold frs at hb
    rw [List.filterMap_cons, hf] at hb
    exact hb
theorem Inv.stkFree (I : Inv X pins σ H s) : ∀ b ∈ frs X.stack, H b = none := fun b hb => by
  rcases List.mem_cons.mp (I.stkSub b hb) with e | hb
  · rw [e]; exact I.free
  · obtain ⟨_, o, ho, _⟩ := I.ok.funs.mem hb
    exact I.base.free b o ho (I.ok.frf b hb) fun z => I.ok.exfs b z hb
theorem Inv.step {g' : Array GenState} {t' : Nat} {d' : Drawn} {ch : List Addr} (I : Inv X pins σ H s)
    (hch : ∀ b ∈ ch, (b ∈ X.ex ∨ X.s₀.heap.objs.size ≤ b) ∧ b ≠ X.env.locals ∧ (∀ x c, X.env.cells.lookup x = some c → c ≠ b) ∧ ∀ p ∈ X.pn ++ pins, p.1 ≠ b)
    (keep : ∀ b o, b ≠ X.env.locals → b ∉ X.fs → b ∉ ch → s.heap.get? b = some o → H b = none → h'.get? b = some o)
    (slot : ∀ b o, b ≠ X.env.locals → b ∈ X.fs → b ∉ ch → s.heap.get? b = some o → H b = none → ∃ sl, h'.get? b = some { o with slots := sl }) (free : ∀ b o, b ∉ ch → s.heap.get? b = some o → H b = none → H' b = none)
    (there : ∀ b o, b ∉ ch → s.heap.get? b = some o → ∃ o', h'.get? b = some o')
    (tups : ∀ b xs, H b = some (.tup xs) → H' b = some (.tup xs)) (frzs : ∀ b o u, H b = some (.frz o u) → H' b = some (.frz o u)) (tbls : ∀ b ps, H b = some (.tbl ps) → ∃ more, H' b = some (.tbl (ps ++ more)))
    (ns : ∀ m, s.heap.Ns X.env.locals m → h'.Ns X.env.locals m) (hok : HOk X.prog X.w H' h') (hg : AllBare g') :
    Inv X pins σ H' { s with heap := h', gens := g', drawn := d', toks := t' } := by
  have neL : ∀ b o, X.s₀.heap.get? b = some o → b ≠ X.env.locals := fun b o e => Nat.ne_of_lt (Nat.lt_of_lt_of_le (Heap.lt_size e) I.ok.above)
  have neC : ∀ b o, X.s₀.heap.get? b = some o → b ∉ X.ex → b ∉ ch := fun b o e hx hb => by
    rcases (hch b hb).1 with z | z
    · exact hx z
    · exact absurd (Nat.lt_of_lt_of_le (Heap.lt_size e) z) (Nat.lt_irrefl _)
  have cellK : ∀ x c, X.env.cells.lookup x = some c → ∀ v, s.heap.IsCell c v → h'.IsCell c v := fun x c e v ⟨o, ho, hd⟩ => by
    have nch : c ∉ ch := fun z => (hch c z).2.2.1 x c e rfl
    by_cases hc : c ∈ X.fs
    · obtain ⟨sl, q⟩ := slot c o (I.cne x c e) hc nch ho (I.freeC x c e)
      exact ⟨_, q, hd⟩
    · exact ⟨o, keep c o (I.cne x c e) hc nch ho (I.freeC x c e), hd⟩
  refine ⟨I.ok, I.os, hg, ⟨fun b o e n hb hx => ?_, fun b o e n hb hx => ?_, fun b o e n hx => ?_, fun b o e hx => ?_, fun b xs e => tups b xs (I.base.tups b xs e), fun b o xs e => frzs b o xs (I.base.frzs b o xs e), fun b ps e => ?_⟩, ?_, fun x c e => ?_, ?_, fun x c e => ?_, fun p hp => ?_, hok, I.len⟩
  · exact keep b o (neL b o e) hb (neC b o e hx) (I.base.keep b o e n hb hx) (I.base.free b o e n hx)
  · obtain ⟨sl, e1⟩ := I.base.slot b o e n hb hx
    obtain ⟨sl', e2⟩ := slot b _ (neL b o e) hb (neC b o e hx) e1 (I.base.free b o e n hx)
    exact ⟨sl', e2⟩
  · obtain ⟨o', e1⟩ := I.base.there b o e hx
    exact free b o' (neC b o e hx) e1 (I.base.free b o e n hx)
  · obtain ⟨o', e1⟩ := I.base.there b o e hx
    exact there b o' (neC b o e hx) e1
  · obtain ⟨m1, e1⟩ := I.base.tbls b ps e
    obtain ⟨m2, e2⟩ := tbls b _ e1
    exact ⟨m1 ++ m2, by rw [e2, Array.append_assoc]⟩
  · obtain ⟨m, hn, hl⟩ := I.loc
    refine ⟨m, ns m hn, fun i x v e1 e2 e3 => ?_⟩
    obtain ⟨u, r, l⟩ := hl i x v e1 e2 e3
    refine ⟨u, r, ?_⟩
    rcases l with l | ⟨k, c, e, z⟩
    · exact .inl l
    · exact .inr ⟨k, c, e, cellK x c e _ z⟩
  · obtain ⟨v, z⟩ := I.cell x c e
    exact ⟨v, cellK x c e v z⟩
  · obtain ⟨m, ⟨o, _, _, ho, _⟩, _⟩ := I.loc
    exact free _ o (fun z => (hch _ z).2.1 rfl) ho I.free
  · obtain ⟨v, o, ho, hd⟩ := I.cell x c e
    exact free c o (fun z => (hch c z).2.2.1 x c e rfl) ho (I.freeC x c e)
  · obtain ⟨e, n, ne, nf, d⟩ := I.pin p hp
    have nch : p.1 ∉ ch := fun z => (hch p.1 z).2.2.2 p hp rfl
    exact ⟨keep p.1 p.2 ne nf nch e n, free p.1 p.2 nch e n, ne, nf, d⟩
theorem Inv.un {t' : Nat} (I : Inv X pins σ H s) (u : Un X.fs [] H H' s.heap h') (hok : HOk X.prog X.w H' h') : Inv X pins σ H' { s with heap := h', toks := t' } := by
  obtain ⟨m, ⟨o, es, ep, ho, r⟩, _⟩ := id I.loc
  obtain ⟨sl, hL⟩ := u.any ho I.free (by simp)
  exact I.step (g' := s.gens) (d' := s.drawn) (ch := []) (fun _ z => nomatch z) (fun b o _ hb _ e n => u.keep b o e n hb (by simp)) (fun b o _ hb _ e n => u.slot b o e n hb (by simp)) (fun b o _ e n => u.free b o e n (by simp)) (fun b o _ e => u.there b o e (by simp)) u.tups u.frzs u.tbls (fun m' hm => by
    obtain ⟨o', es', ep', ho', r'⟩ := hm
    rw [ho] at ho'; cases ho'
    exact ⟨_, es', ep', hL, r'⟩) hok I.bare
theorem Inv.call {g' : Array GenState} {t' : Nat} {d' : Drawn} {ch : List Addr} (I : Inv X pins σ H s) (u : Un (frs X.stack) ch H H' s.heap h') (hok : HOk X.prog X.w H' h') (hg : AllBare g')
    (hch : ∀ b ∈ ch, (b ∈ X.ex ∨ X.s₀.heap.objs.size ≤ b) ∧ b ≠ X.env.locals ∧ (∀ x c, X.env.cells.lookup x = some c → c ≠ b) ∧ ∀ p ∈ X.pn ++ pins, p.1 ≠ b) :
    Inv X pins σ H' { s with heap := h', gens := g', drawn := d', toks := t' } := by
  obtain ⟨m, ⟨o, es, ep, ho, r⟩, _⟩ := id I.loc
  obtain ⟨sl, hL⟩ := u.any ho I.free fun z => (hch _ z).2.1 rfl
  exact I.step (ch := ch) hch (fun b o hL hb hc e n => u.keep b o e n (fun z => (List.mem_cons.mp (I.stkSub b z)).elim hL hb) hc) (fun b o _ _ hc e n => u.any e n hc) (fun b o hc e n => u.free b o e n hc) (fun b o hc e => u.there b o e hc) u.tups u.frzs u.tbls (fun m' hm => by
    obtain ⟨o', es', ep', ho', r'⟩ := hm
    rw [ho] at ho'; cases ho'
    exact ⟨_, es', ep', hL, r'⟩) hok hg
theorem Inv.turned {t' : Nat} {it : Addr} (I : Inv X pins σ H s) (k : ∀ b o, b ≠ it → s.heap.get? b = some o → h'.get? b = some o) (hn : H it = none) (hL : it ≠ X.env.locals)
    (h1 : it ∈ X.ex ∨ X.s₀.heap.objs.size ≤ it) (h2 : ∀ x c, X.env.cells.lookup x = some c → c ≠ it) (h3 : ∀ p ∈ X.pn ++ pins, p.1 ≠ it) : Inv X pins σ H { s with heap := h', toks := t' } := by
  have nit : ∀ b u, H b = some u → b ≠ it := fun b u e z => by rw [z, hn] at e; cases e
  refine I.step (g' := s.gens) (d' := s.drawn) (ch := [it]) (fun b hb => ?_) (fun b o _ _ hc e _ => k b o (fun z => hc (by simp [z])) e) (fun b o _ _ hc e _ => ⟨o.slots, k b o (fun z => hc (by simp [z])) e⟩) (fun _ _ _ _ n => n)
    (fun b o hc e => ⟨o, k b o (fun z => hc (by simp [z])) e⟩) (fun _ _ e => e) (fun _ _ _ e => e) (fun b ps e => ⟨#[], by rw [e]; simp⟩) (fun m hm => ?_) (fun b u e => ?_) I.bare
  · have e : b = it := by simpa using hb
    subst e
    exact ⟨h1, hL, h2, h3⟩
  · obtain ⟨o, es, ep, ho, r⟩ := hm
    exact ⟨o, es, ep, k _ o (Ne.symm hL) ho, r⟩
  · refine (I.hok b u e).stay (fun c v hc q => k c v ?_ q) (fun _ q => q) fun _ _ q => q
    rcases hc with z | z
    · rw [z]; exact nit b u e
    · exact nit c _ z
theorem Inv.tok (I : Inv X pins σ H s) (t : Nat) : Inv X pins σ H { s with toks := t } := I.un (h' := s.heap) (t' := t) Un.refl I.hok
theorem Inv.kept {t' : Nat} (I : Inv X pins σ H s) (k : ∀ b u, s.heap.get? b = some u → h'.get? b = some u) : Inv X pins σ H { s with heap := h', toks := t' } := I.un (Un.kept k) (I.hok.kept k)
theorem Inv.laid {a : Addr} {o : HO} {t' : Nat} (I : Inv X pins σ H s) (k : ∀ b u, s.heap.get? b = some u → h'.get? b = some u) (hp : s.heap.objs.size ≤ a) (new : ObjOk X.prog X.w (upd H a o) h' a o) :
    Inv X pins σ (upd H a o) { s with heap := h', toks := t' } := I.un (Un.laid k hp (I.hok.fresh hp)) (I.hok.laid k hp new)
theorem Inv.write {x e : Addr} {o : HO} {t' : Nat} (I : Inv X pins σ H s) (mu : Mut (H x)) (he : e = x ∨ H e = some (.own x)) (k : ∀ b u, b ≠ e → s.heap.get? b = some u → h'.get? b = some u) (heo : ∃ u, h'.get? e = some u)
    (new : ObjOk X.prog X.w (upd H x o) h' x o) : Inv X pins σ (upd H x o) { s with heap := h', toks := t' } := I.un (Un.write mu he k heo) (I.hok.write mu he k heo new)
theorem Inv.pins_of {pins' : List (Addr × Obj)} (I : Inv X pins σ H s) (h : ∀ p ∈ pins', s.heap.get? p.1 = some p.2 ∧ H p.1 = none ∧ p.1 ≠ X.env.locals ∧ p.1 ∉ X.fs ∧ ∀ v, p.2.data ≠ .cell v) : Inv X pins' σ H s :=
  ⟨I.ok, I.os, I.bare, I.base, I.loc, I.cell, I.free, I.freeC, fun p hp => (List.mem_append.mp hp).elim (fun z => I.pin p (List.mem_append_left _ z)) (h p), I.hok, I.len⟩
theorem nodup_ix {N : List Str} (hN : N.Nodup) {i j : Nat} {x : Str} (a : N[i]? = some x) (b : N[j]? = some x) : i = j := by
  obtain ⟨h1, e1⟩ := List.getElem?_eq_some_iff.mp a
  obtain ⟨h2, e2⟩ := List.getElem?_eq_some_iff.mp b
  exact (List.getElem_inj hN).mp (e1.trans e2.symm)
theorem store_ok2 {M : Model} {A : Around} {E : Value → Shared → Prop} {i : Nat} {x : Str} {v : V} {u : Value} {Q : Unit → Shared → Prop} (I : Inv X pins σ H s) (hN : X.N.Nodup) (hi : X.N[i]? = some x) (hx : Loc X.env.scope x) (r : RelV v u)
    (h : ∀ s', Inv X pins (σ.set i (some v)) H s' → (∃ a, Heap.SameBut a s.heap s'.heap ∧ (a = X.env.locals ∨ X.env.cells.lookup x = some a)) → Q () s') (hf : X.fn x = true ∨ X.env.scope.names.lookup x = some .local := by first | exact .inl rfl | exact .inr rfl | assumption) : wpAny M A (storeName X.env x u) Q E s := by
  obtain ⟨m, hn, hl⟩ := id I.loc
  have hcls : (X.env.scope.kind == .class || (X.env.scope.kind == .module && X.env.locals != X.env.globals)) = false := by rw [I.ok.kind]; rfl
  have hiσ : i < σ.length := by rw [I.len]; exact (List.getElem?_eq_some_iff.mp hi).1
  have cne := I.cne
  have tracked : ∀ {a : Addr} {h' : Heap}, (∃ o, s.heap.get? a = some o ∧ H a = none) → Heap.SameBut a s.heap h' → HOk X.prog X.w H h' := fun {a h'} ha hs b ob e => by
    obtain ⟨_, _, hfree⟩ := ha
    refine (I.hok b ob e).stay (fun c w' hc q => (hs.2 c ?_).trans q) (fun _ q => q) fun _ _ q => q
    rintro rfl
    rcases hc with rfl | hc
    · rw [hfree] at e; cases e
    · rw [hfree] at hc; cases hc
  rcases hx with hk | hk
  · refine wpAny_storeName_local hk hn (fun h' hn' hs => ?_) hcls
    obtain ⟨oL, _, _, hoL, _⟩ := id hn
    refine h _ ⟨I.ok, I.os, I.bare, ⟨fun b o e n hb hx => ?_, fun b o e n hb hx => ?_, I.base.free, fun b o e hx => ?_, I.base.tups, I.base.frzs, I.base.tbls⟩, ⟨_, hn', fun j y v' e1 e2 e3 => ?_⟩, fun y c e => ?_, I.free, I.freeC, fun p hp => ?_, tracked ⟨oL, hoL, I.free⟩ hs, by simpa using I.len⟩ ⟨_, hs, .inl rfl⟩
    · exact (hs.2 b (Nat.ne_of_lt (Nat.lt_of_lt_of_le (Heap.lt_size e) I.ok.above))).trans (I.base.keep b o e n hb hx)
    · obtain ⟨sl, e1⟩ := I.base.slot b o e n hb hx
      exact ⟨sl, (hs.2 b (Nat.ne_of_lt (Nat.lt_of_lt_of_le (Heap.lt_size e) I.ok.above))).trans e1⟩
    · obtain ⟨o', e1⟩ := I.base.there b o e hx
      exact ⟨o', (hs.2 b (Nat.ne_of_lt (Nat.lt_of_lt_of_le (Heap.lt_size e) I.ok.above))).trans e1⟩
    · by_cases hj : j = i
      · subst hj
        rw [hi] at e1; cases e1
        rw [List.getElem?_set_self hiσ] at e2
        cases e2
        exact ⟨u, r, .inl ⟨hk, by simp⟩⟩
      · rw [List.getElem?_set_ne (Ne.symm hj)] at e2
        obtain ⟨u', r', q⟩ := hl j y v' e1 e2 e3
        refine ⟨u', r', ?_⟩
        rcases q with ⟨k, e⟩ | ⟨k, c, e, z⟩
        · refine .inl ⟨k, ?_⟩
          have : y ≠ x := fun e => hj (nodup_ix hN e1 (e ▸ hi))
          simp [this, e]
        · exact .inr ⟨k, c, e, z.sameBut hs (cne y c e)⟩
    · obtain ⟨w', z⟩ := I.cell y c e
      exact ⟨w', z.sameBut hs (cne y c e)⟩
    · obtain ⟨e, n, ne, nf, d⟩ := I.pin p hp
      exact ⟨(hs.2 p.1 ne).trans e, n, ne, nf, d⟩
  · have hfn : X.fn x = true := by
      rcases hf with z | z
      · exact z
      · rw [z] at hk; cases hk
    obtain ⟨c, hc⟩ := I.ok.has x (.inl hk)
    obtain ⟨w', z⟩ := I.cell x c hc
    refine wpAny_storeName_cell I.ok.kind hk hc z (fun h' hc' hs => ?_)
    obtain ⟨oc, hoc, hocd⟩ := id z
    refine h { s with heap := h' } ⟨I.ok, I.os, I.bare, ⟨fun b o e n hb hx => ?_, fun b o e n hb hx => ?_, I.base.free, fun b o e hx => ?_, I.base.tups, I.base.frzs, I.base.tbls⟩, ⟨m, hn.sameBut hs (Ne.symm (cne x c hc)), fun j y v' e1 e2 e3 => ?_⟩, fun y c' e => ?_, I.free, I.freeC, fun p hp => ?_, tracked ⟨oc, hoc, I.freeC x c hc⟩ hs, by simpa using I.len⟩ ⟨c, hs, .inr hc⟩
    · exact (hs.2 b (Nat.ne_of_lt (Nat.lt_of_lt_of_le (Heap.lt_size e) (I.ok.cab x c hfn hc)))).trans (I.base.keep b o e n hb hx)
    · obtain ⟨sl, e1⟩ := I.base.slot b o e n hb hx
      exact ⟨sl, (hs.2 b (Nat.ne_of_lt (Nat.lt_of_lt_of_le (Heap.lt_size e) (I.ok.cab x c hfn hc)))).trans e1⟩
    · obtain ⟨o', e1⟩ := I.base.there b o e hx
      exact ⟨o', (hs.2 b (Nat.ne_of_lt (Nat.lt_of_lt_of_le (Heap.lt_size e) (I.ok.cab x c hfn hc)))).trans e1⟩
    · by_cases hj : j = i
      · subst hj
        rw [hi] at e1; cases e1
        rw [List.getElem?_set_self hiσ] at e2
        cases e2
        exact ⟨u, r, .inr ⟨.inl hk, c, hc, hc'⟩⟩
      · rw [List.getElem?_set_ne (Ne.symm hj)] at e2
        obtain ⟨u', r', q⟩ := hl j y v' e1 e2 e3
        refine ⟨u', r', ?_⟩
        rcases q with q | ⟨k, c', e, z'⟩
        · exact .inl q
        · refine .inr ⟨k, c', e, z'.sameBut hs ?_⟩
          rintro rfl
          exact hj (nodup_ix hN e1 (I.ok.inj _ _ _ e hc ▸ hi))
    · by_cases hcc : c' = c
      · subst hcc; exact ⟨_, hc'⟩
      · obtain ⟨w2, z2⟩ := I.cell y c' e
        exact ⟨w2, z2.sameBut hs hcc⟩
    · obtain ⟨e, n, ne, nf, d⟩ := I.pin p hp
      refine ⟨(hs.2 p.1 ?_).trans e, n, ne, nf, d⟩
      intro q
      rw [q, hoc] at e
      have q' : oc = p.2 := Option.some.inj e
      exact d w' (by rw [← q']; exact hocd)
theorem store_ok {M : Model} {A : Around} {E : Value → Shared → Prop} {i : Nat} {x : Str} {v : V} {u : Value} {Q : Unit → Shared → Prop} (I : Inv X pins σ H s) (hN : X.N.Nodup) (hi : X.N[i]? = some x) (hx : Loc X.env.scope x) (r : RelV v u)
    (h : ∀ s', Inv X pins (σ.set i (some v)) H s' → Q () s') (hf : X.fn x = true ∨ X.env.scope.names.lookup x = some .local := by first | exact .inl rfl | exact .inr rfl | assumption) : wpAny M A (storeName X.env x u) Q E s :=
  store_ok2 I hN hi hx r (fun s' I' _ => h s' I') hf
theorem Inv.call' {s' : Shared} {ch : List Addr} (I : Inv X pins σ H s) (ho : s'.os = s.os) (u : Un (frs X.stack) ch H H' s.heap s'.heap) (hok : HOk X.prog X.w H' s'.heap) (hg : AllBare s'.gens)
    (hch : ∀ b ∈ ch, (b ∈ X.ex ∨ X.s₀.heap.objs.size ≤ b) ∧ b ≠ X.env.locals ∧ (∀ x c, X.env.cells.lookup x = some c → c ≠ b) ∧ ∀ p ∈ X.pn ++ pins, p.1 ≠ b) : Inv X pins σ H' s' := by
  obtain ⟨h', g', d', t', o'⟩ := s'
  have e : o' = s.os := ho
  subst e
  exact I.call (g' := g') (t' := t') (d' := d') u hok hg hch
end
abbrev XK := Value → Option Addr → Hp → Prop
abbrev St := List (Option V)
abbrev VK := V → Hp → Prop
abbrev TE := St → Hp → VK → Prop
abbrev TT := St → Hp → (Bool → Hp → Prop) → Prop
abbrev TA := St → Hp → (List V → Hp → Prop) → Prop
structure Ends where
  nx : St → Hp → Prop
  rt : VK
  bk : St → Hp → Prop := fun _ _ => False
  ct : St → Hp → Prop := fun _ _ => False
abbrev TS := Ends → St → Hp → Prop
def EP (X : Cx) (pins : List (Addr × Obj)) (σ : St) (Q : VK) (u : Value) (s' : Shared) : Prop := ∃ v H', Inv X pins σ H' s' ∧ RelV v u ∧ Q v H'
def TP (X : Cx) (pins : List (Addr × Obj)) (σ : St) (Q : Bool → Hp → Prop) (b : Bool) (s' : Shared) : Prop := ∃ H', Inv X pins σ H' s' ∧ Q b H'
def AP (X : Cx) (pins : List (Addr × Obj)) (σ : St) (Q : List V → Hp → Prop) (us : List Value) (s' : Shared) : Prop := ∃ vs H', Inv X pins σ H' s' ∧ Vals vs us ∧ Q vs H'
def SP (X : Cx) (pins : List (Addr × Obj)) (D : Ends) (f : Flow) (s' : Shared) : Prop :=
  match f with
  | .next => ∃ σ' H', Inv X pins σ' H' s' ∧ D.nx σ' H'
  | .brk => ∃ σ' H', Inv X pins σ' H' s' ∧ D.bk σ' H'
  | .cont => ∃ σ' H', Inv X pins σ' H' s' ∧ D.ct σ' H'
  | .ret u => ∃ v σ' H', Inv X pins σ' H' s' ∧ RelV v u ∧ D.rt v H'
def PE (X : Cx) (e : Expr) (t : TE) : Prop :=
  ∀ (pins : List (Addr × Obj)) (s : Shared) (σ : St) (H : Hp) (Q : VK), Inv X pins σ H s → t σ H Q → wpAny (model X.prog X.w) X.A (eval e X.env) (EP X pins σ Q) X.xe s
def PT (X : Cx) (e : Expr) (t : TT) : Prop :=
  ∀ (pins : List (Addr × Obj)) (s : Shared) (σ : St) (H : Hp) (Q : Bool → Hp → Prop), Inv X pins σ H s → t σ H Q → wpAny (model X.prog X.w) X.A (isTrue e X.env (eval e X.env)) (TP X pins σ Q) X.xe s
def PW (X : Cx) (e : Expr) (t : TT) : Prop :=
  ∀ (whole : Sem Value) (pins : List (Addr × Obj)) (s : Shared) (σ : St) (H : Hp) (Q : Bool → Hp → Prop), Inv X pins σ H s → t σ H Q → wpAny (model X.prog X.w) X.A (isTrue e X.env whole) (TP X pins σ Q) X.xe s
theorem PW.pt {X : Cx} {e : Expr} {t : TT} (h : PW X e t) : PT X e t := h _
def PA (X : Cx) (es : List Expr) (t : TA) : Prop :=
  ∀ (pos : Pos) (pins : List (Addr × Obj)) (s : Shared) (σ : St) (H : Hp) (Q : List V → Hp → Prop), Inv X pins σ H s → t σ H Q → wpAny (model X.prog X.w) X.A (spliced (backTo pos (starEach es X.env))) (AP X pins σ Q) X.xe s
def PS (X : Cx) (st : Stmt) (t : TS) : Prop :=
  ∀ (pins : List (Addr × Obj)) (s : Shared) (σ : St) (H : Hp) (D : Ends), Inv X pins σ H s → t D σ H → wpAny (model X.prog X.w) X.A (exec st X.env) (SP X pins D) X.xe s
def PSs (X : Cx) (st : List Stmt) (t : TS) : Prop :=
  ∀ (pins : List (Addr × Obj)) (s : Shared) (σ : St) (H : Hp) (D : Ends), Inv X pins σ H s → t D σ H → wpAny (model X.prog X.w) X.A (execs st X.env) (SP X pins D) X.xe s
theorem thn {α : Type} {t : Sem α} {Q Q' : α → Shared → Prop} {M : Model} {A : Around} {E : Value → Shared → Prop} {s : Shared} (h : wpAny M A t Q E s) (hQ : ∀ a s, Q a s → Q' a s) : wpAny M A t Q' E s := wpAny_mono h hQ fun _ _ x => x
end L2
namespace L2
open PySem PySem.Spec PyProof.Rows
section
variable {X : Cx}
theorem bin {a b : Expr} {ta tb : TE} (ha : PE X a ta) (hb : PE X b tb) {pins : List (Addr × Obj)} {s : Shared} {σ : St} {H : Hp} {R : V → V → Hp → Prop} (I : Inv X pins σ H s) (h : ta σ H fun x H1 => tb σ H1 fun y H2 => R x y H2)
    {α : Type} {Q : α → Shared → Prop} {f : Value → Value → Sem α}
    (hf : ∀ v u s2 x y H2, Inv X pins σ H2 s2 → RelV x v → RelV y u → R x y H2 → wpAny (model X.prog X.w) X.A (f v u) Q X.xe s2) :
    wpAny (model X.prog X.w) X.A (eval a X.env) (fun v s₁ => wpAny (model X.prog X.w) X.A (eval b X.env) (fun u s₂ => wpAny (model X.prog X.w) X.A (f v u) Q X.xe s₂) X.xe s₁) X.xe s := by
  refine thn (ha pins s σ H _ I h) fun v s1 ⟨x, H1, I1, r1, q1⟩ => ?_
  refine thn (hb pins s1 σ H1 _ I1 q1) fun u s2 ⟨y, H2, I2, r2, q2⟩ => ?_
  exact hf v u s2 x y H2 I2 r1 r2 q2
def tVar (i : Nat) : TE := fun σ H Q => ∃ v, σ[i]? = some (some v) ∧ Q v H
def tC (v : V) : TE := fun _ H Q => Q v H
theorem pe_var {i : Nat} {x : Str} {pos : Pos} (hN : X.N[i]? = some x) (hv : Vis X.env.scope x) (hd : (x == ("__debug__" : Str)) = false := by decide) (hcd : (x == ("__classdict__" : Str)) = false := by decide) : PE X (.Name x pos) (tVar i) := by
  intro pins s σ H Q I h
  obtain ⟨v, e, h⟩ := h
  obtain ⟨m, hn, hl⟩ := I.loc
  obtain ⟨u, r, l⟩ := hl i x v hN e hv
  have fin : EP X pins σ Q u s := ⟨v, H, I, r, h⟩
  rcases l with ⟨hk, hm⟩ | ⟨hk, c, hc, hcell⟩
  · exact wpAny_Name (wpAny_loadName_local I.ok.kind hk hn hm fin) hd
  · rcases hk with hk | hk
    · exact wpAny_Name (wpAny_loadName_cell I.ok.kind hk hc hcell fin) hd
    · exact wpAny_Name (wpAny_loadName_free I.ok.kind hk hc hcell fin hcd) hd
theorem pe_int {i j pos} : PE X (.Constant (.int i) j pos) (tC (.int i)) := fun _ _ _ H _ I h => wpAny_Constant_int ⟨.int i, H, I.tok _, ⟨_, rfl⟩, h⟩
theorem pe_bl {b j pos} : PE X (.Constant (.bool b) j pos) (tC (.bl b)) := fun _ _ _ H _ I h => Constant_bool ⟨.bl b, H, I, rfl, h⟩
def Gl (X : Cx) (x : Str) : Prop := X.env.kindOf x = some .globalImplicit
theorem ld_glob {E : Value → Shared → Prop} {pins : List (Addr × Obj)} {s : Shared} {σ : St} {H : Hp} {x : Str} {u : Value} {pos : Pos} {Q : Value → Shared → Prop} (I : Inv X pins σ H s) (hg : Gl X x) (hm : X.mg x = some u) (h : Q u s)
    (hd : (x == ("__debug__" : Str)) = false := by decide) : wpAny (model X.prog X.w) X.A (eval (.Name x pos) X.env) Q E s :=
  Calls.Name_function_global I.ok.kind hg (Calls.loadGlobal_global (by rw [I.ok.glob]; exact I.mod.glob.keeps I.bk) hm h) hd
theorem ld_blt {E : Value → Shared → Prop} {pins : List (Addr × Obj)} {s : Shared} {σ : St} {H : Hp} {x : Str} {u : Value} {pos : Pos} {Q : Value → Shared → Prop} (I : Inv X pins σ H s) (hg : Gl X x) (hm : X.mg x = none) (hv : bootBuiltins x = some u) (h : Q u s)
    (hn : x ≠ "__name__" := by decide) (hd : (x == ("__debug__" : Str)) = false := by decide) : wpAny (model X.prog X.w) X.A (eval (.Name x pos) X.env) Q E s := by
  obtain ⟨mb, h1, h2⟩ := I.mod.blt
  exact Calls.Name_function_global I.ok.kind hg (Calls.loadGlobal_builtin (by rw [I.ok.glob]; exact I.mod.glob.keeps I.bk) hm (by rw [I.ok.blt]; exact h1.keeps I.bk) ((h2 x hn).trans hv) h) hd
theorem pe_bltn {x : Str} {v : V} {u : Value} {pos : Pos} (hg : Gl X x) (hm : X.mg x = none) (hv : bootBuiltins x = some u) (r : RelV v u) (hn : x ≠ "__name__" := by decide) (hd : (x == ("__debug__" : Str)) = false := by decide) : PE X (.Name x pos) (tC v) :=
  fun _ _ _ H _ I h => ld_blt I hg hm hv ⟨v, H, I, r, h⟩ hn hd
variable {a b : Expr} {ta tb : TE} {pos : Pos}
def PC (X : Cx) (op : CmpOp) (a b : Expr) (t : TE) : Prop :=
  ∀ (pins : List (Addr × Obj)) (s : Shared) (σ : St) (H : Hp) (Q : VK), Inv X pins σ H s → t σ H Q →
    wpAny (model X.prog X.w) X.A (eval a X.env) (fun v s₁ => wpAny (model X.prog X.w) X.A (eval b X.env) (fun u s₂ => wpAny (model X.prog X.w) X.A (compareOp op v u) (EP X pins σ Q) X.xe s₂) X.xe s₁) X.xe s
theorem nobehind (b : Expr) {op : CmpOp} (h : op ≠ .In) (h2 : op ≠ .NotIn) : behindInMarks op b = false := by
  have e1 : (op == CmpOp.In) = false := by cases op <;> first | rfl | exact absurd rfl h
  have e2 : (op == CmpOp.NotIn) = false := by cases op <;> first | rfl | exact absurd rfl h2
  cases b <;> simp [behindInMarks, e1, e2]
def tB (t : TE) : TT := fun σ H Q => t σ H fun x H1 => ∃ c, x = .bl c ∧ Q c H1
theorem pt_cmp {op : CmpOp} {t : TE} (h : PC X op a b t) (h1 : behindInMarks op b = false := by first | exact nobehind _ (by decide) (by decide) | rfl) : PT X (.Compare a [op] [b] pos) (tB t) := by
  intro pins s σ H Q I hw
  refine wpAny_isTrue_Compare1 (thn (h pins s σ H _ I hw) fun v s1 h1 => thn h1 fun u s2 h2 => thn h2 fun c s3 ⟨x, H1, I1, r1, q1⟩ => ?_) h1
  obtain ⟨d, rfl, q⟩ := q1
  cases r1
  exact wpAny_truthy_bool ⟨H1, I1, q⟩
theorem pt_val {e : Expr} {t : TE} (h : PE X e t) (he : ∀ whole, isTrue e X.env whole = (do let v ← whole; standAt e.pos; holding [v] (truthy v)) := by intro _; rfl) : PT X e (tB t) := by
  intro pins s σ H Q I hw
  refine isTrue_plain (thn (h pins s σ H _ I hw) fun v s1 ⟨x, H1, I1, r1, q1⟩ => ?_) (he _)
  obtain ⟨d, rfl, q⟩ := q1
  cases r1
  exact wpAny_truthy_bool ⟨H1, I1, q⟩
variable {tA tB' : TT} {rest : List Expr}
def tAnd (t u : TT) : TT := fun σ H Q => t σ H fun c H1 => if c = true then u σ H1 Q else Q false H1
def tOr (t u : TT) : TT := fun σ H Q => t σ H fun c H1 => if c = true then Q true H1 else u σ H1 Q
def tNot (t : TT) : TT := fun σ H Q => t σ H fun c H1 => Q (!c) H1
theorem pw_and1 (ha : PT X a tA) : PW X (.BoolOp .And [a] pos) tA := by
  intro wh pins s σ H Q I h
  refine isTrue_and (thn (ha pins s σ H Q I h) fun c s1 e => ?_)
  cases c with
  | true => exact isTrue_and_nil e
  | false => exact e
theorem pw_or1 (ha : PT X a tA) : PW X (.BoolOp .Or [a] pos) tA := by
  intro wh pins s σ H Q I h
  refine isTrue_or (thn (ha pins s σ H Q I h) fun c s1 e => ?_)
  cases c with
  | false => exact isTrue_or_nil e
  | true => exact e
theorem pw_and (ha : PT X a tA) (hb : PW X (.BoolOp .And (b :: rest) pos) tB') : PW X (.BoolOp .And (a :: b :: rest) pos) (tAnd tA tB') := by
  intro wh pins s σ H Q I h
  refine isTrue_and (thn (ha pins s σ H _ I h) fun c s1 ⟨H1, I1, q1⟩ => ?_)
  cases c with
  | true => exact hb wh pins s1 σ H1 Q I1 q1
  | false => exact ⟨H1, I1, q1⟩
theorem pw_or (ha : PT X a tA) (hb : PW X (.BoolOp .Or (b :: rest) pos) tB') : PW X (.BoolOp .Or (a :: b :: rest) pos) (tOr tA tB') := by
  intro wh pins s σ H Q I h
  refine isTrue_or (thn (ha pins s σ H _ I h) fun c s1 ⟨H1, I1, q1⟩ => ?_)
  cases c with
  | true => exact ⟨H1, I1, q1⟩
  | false => exact hb wh pins s1 σ H1 Q I1 q1
theorem pt_not (ha : PT X a tA) : PT X (.UnaryOp .Not a pos) (tNot tA) := by
  intro pins s σ H Q I h
  exact isTrue_not (ha pins s σ H (fun c H1 => Q (!c) H1) I h)
def tAndV (ta tb : TE) : TE := fun σ H Q => ta σ H fun x H1 => ∃ c, x = .bl c ∧ if c = true then tb σ H1 Q else Q (.bl false) H1
def tNotV (ta : TE) : TE := fun σ H Q => ta σ H fun x H1 => ∃ c, x = .bl c ∧ Q (.bl (!c)) H1
theorem pe_one {op} {t : TE} (h : PE X a t) : PE X (.BoolOp op [a] pos) t := fun pins s σ H Q I hw => BoolOp_one (h pins s σ H Q I hw)
theorem pe_and (ha : PE X a ta) (hb : PE X (.BoolOp .And (b :: rest) pos) tb) : PE X (.BoolOp .And (a :: b :: rest) pos) (tAndV ta tb) := by
  intro pins s σ H Q I h
  refine BoolOp_and (thn (ha pins s σ H _ I h) fun v s1 ⟨x, H1, I1, r1, q1⟩ => ?_)
  obtain ⟨c, rfl, q1⟩ := q1
  cases r1
  refine wpAny_truthy_bool ?_
  cases c with
  | true => exact hb pins s1 σ H1 Q I1 q1
  | false => exact ⟨.bl false, H1, I1, rfl, q1⟩
theorem pe_not (ha : PE X a ta) : PE X (.UnaryOp .Not a pos) (tNotV ta) := by
  intro pins s σ H Q I h
  refine UnaryOp_ (thn (ha pins s σ H _ I h) fun v s1 ⟨x, H1, I1, r1, q1⟩ => ?_)
  obtain ⟨c, rfl, q1⟩ := q1
  cases r1
  exact not_of (wpAny_truthy_bool ⟨.bl (!c), H1, I1, rfl, q1⟩)
end
end L2
namespace L2
open PySem PySem.Spec PyProof.Rows
def SqL (K : PySem.W.Frag) (H : Hp) (a : Addr) (xs : List V) : Prop :=
  Rd H a (.lst xs) ∨
    ∃ (o : Obj) (its : Array Value) (n : Nat), K.lookup a = some o ∧ o.cls = .type "list" ∧ o.dict = none ∧ o.data = .seq its n ∧ its.size ≤ sizeLine ∧ Vals xs its.toList
def SqT (K : PySem.W.Frag) (H : Hp) (a : Addr) (xs : List V) : Prop :=
  Rd H a (.tup xs) ∨
    ∃ (o : Obj) (its : Array Value) (n : Nat), K.lookup a = some o ∧ o.cls = .type "tuple" ∧ o.data = .seq its n ∧ its.size ≤ sizeLine ∧ Vals xs its.toList
def absV : Value → Option V
  | .none => some .non
  | .bool b => some (.bl b)
  | .int i _ => some (.int i)
  | .str x _ => some (.str x)
  | .bytes b _ => some (.byt b)
  | .float b _ => some (.flt b)
  | .ref a => some (.ref a)
  | .type n => some (.ty n)
  | _ => none
theorem RelV.abs {x : V} {u : Value} (r : RelV x u) : absV u = some x := by
  cases x with
  | non => cases r; rfl
  | bl _ => cases r; rfl
  | int _ => obtain ⟨t, rfl⟩ := r; rfl
  | str _ => obtain ⟨t, rfl⟩ := r; rfl
  | byt _ => obtain ⟨t, rfl⟩ := r; rfl
  | flt _ => obtain ⟨t, rfl⟩ := r; rfl
  | ref _ => cases r; rfl
  | ty _ => cases r; rfl
theorem RelV.inj {x y : V} {u : Value} (r : RelV x u) (q : RelV y u) : x = y := Option.some.inj (r.abs.symm.trans q.abs)
theorem Vals.inj : ∀ {xs ys : List V} {us : List Value}, Vals xs us → Vals ys us → xs = ys
  | _, _, _, .nil, .nil => rfl
  | _, _, _, .cons r t, .cons r' t' => by rw [r.inj r', Vals.inj t t']
section
variable {X : Cx} {pins : List (Addr × Obj)} {σ : St} {H : Hp} {s : Shared} {a : Addr} {xs ys : List V}
theorem SqL.of {K : PySem.W.Frag} (h : H a = some (.lst xs)) : SqL K H a xs := .inl (.inl h)
theorem SqT.of {K : PySem.W.Frag} (h : H a = some (.tup xs)) : SqT K H a xs := .inl (.inl h)
theorem Inv.list (I : Inv X pins σ H s) (h : SqL X.K H a xs) : ∃ its : List Value, Vals xs its ∧ PlainL s.heap a its.toArray ∧ xs.length ≤ sizeLine := by
  rcases h with h | ⟨o, its, n, hk, hc, hd, hs, hz, r⟩
  · obtain ⟨z, its, n, r, e⟩ := h.ok I.hok
    exact ⟨its, r, ⟨_, n, e, rfl, rfl, rfl⟩, z⟩
  · refine ⟨its.toList, r, ⟨o, n, I.kIn a o hk, hc, hd, by simpa using hs⟩, ?_⟩
    have e := r.length
    simp only [Array.length_toList] at e
    omega
theorem Inv.tuple (I : Inv X pins σ H s) (h : SqT X.K H a xs) : ∃ its : List Value, Vals xs its ∧ IsTup s.heap a its.toArray ∧ xs.length ≤ sizeLine := by
  rcases h with h | ⟨o, its, n, hk, hc, hs, hz, r⟩
  · obtain ⟨z, its, r, p⟩ := h.ok I.hok
    exact ⟨its, r, p, z⟩
  · refine ⟨its.toList, r, ⟨o, I.kIn a o hk, hc, n, by simpa using hs⟩, ?_⟩
    have e := r.length
    simp only [Array.length_toList] at e
    omega
theorem Inv.list_inj (I : Inv X pins σ H s) (h : SqL X.K H a xs) (h' : SqL X.K H a ys) : xs = ys := by
  obtain ⟨its, r, ⟨o, n, e, _, _, d⟩, _⟩ := I.list h
  obtain ⟨its', r', ⟨o', n', e', _, _, d'⟩, _⟩ := I.list h'
  rw [e] at e'; cases e'
  rw [d] at d'
  injection d' with d1 _
  have : its = its' := by simpa using congrArg Array.toList d1
  subst this
  exact r.inj r'
end
abbrev Cx.wish (X : Cx) (E : Value → Shared → Prop) : Cx := { X with xe := E }
abbrev Cx.nox (X : Cx) : Cx := X.wish fun _ _ => False
theorem Cx.Ok.wish {X : Cx} (ok : X.Ok) (E : Value → Shared → Prop) : (X.wish E).Ok :=
  ⟨ok.mod, ok.kind, ok.glob, ok.blt, ok.above, ok.inj, ok.has, ok.cab, ok.hd, ok.frames, ok.stk, ok.exf, ok.bs, ok.bsz, ok.noex, ok.exfs, ok.funs, ok.frf⟩
theorem Cx.Ok.unwish {X : Cx} {E : Value → Shared → Prop} (ok : (X.wish E).Ok) : X.Ok :=
  ⟨ok.mod, ok.kind, ok.glob, ok.blt, ok.above, ok.inj, ok.has, ok.cab, ok.hd, ok.frames, ok.stk, ok.exf, ok.bs, ok.bsz, ok.noex, ok.exfs, ok.funs, ok.frf⟩
section
variable {X : Cx} {pins : List (Addr × Obj)} {σ : St} {H : Hp} {s : Shared} {E : Value → Shared → Prop}
theorem Inv.wish (I : Inv X pins σ H s) (E : Value → Shared → Prop) : Inv (X.wish E) pins σ H s := ⟨I.ok.wish E, I.os, I.bare, I.base, I.loc, I.cell, I.free, I.freeC, I.pin, I.hok, I.len⟩
theorem Inv.unwish (I : Inv (X.wish E) pins σ H s) : Inv X pins σ H s := ⟨I.ok.unwish, I.os, I.bare, I.base, I.loc, I.cell, I.free, I.freeC, I.pin, I.hok, I.len⟩
theorem SP.unwish {D : Ends} {f : Flow} {s' : Shared} (h : SP (X.wish E) pins D f s') : SP X pins D f s' := by
  cases f with
  | next => obtain ⟨σ', H', I, q⟩ := h; exact ⟨σ', H', I.unwish, q⟩
  | brk => obtain ⟨σ', H', I, q⟩ := h; exact ⟨σ', H', I.unwish, q⟩
  | cont => obtain ⟨σ', H', I, q⟩ := h; exact ⟨σ', H', I.unwish, q⟩
  | ret u => obtain ⟨v, σ', H', I, r, q⟩ := h; exact ⟨v, σ', H', I.unwish, r, q⟩
theorem PE.nox {e : Expr} {t : TE} (h : PE X.nox e t) : PE X e t := fun pins s σ H Q I hw =>
  wpAny_mono (h pins s σ H Q (I.wish _) hw) (fun _ _ ⟨v, H', I', r, q⟩ => ⟨v, H', I'.unwish, r, q⟩) fun _ _ z => False.elim z
theorem PT.nox {e : Expr} {t : TT} (h : PT X.nox e t) : PT X e t := fun pins s σ H Q I hw =>
  wpAny_mono (h pins s σ H Q (I.wish _) hw) (fun _ _ ⟨H', I', q⟩ => ⟨H', I'.unwish, q⟩) fun _ _ z => False.elim z
theorem PSs.nox {st : List Stmt} {t : TS} (h : PSs X.nox st t) : PSs X st t := fun pins s σ H D I hw =>
  wpAny_mono (h pins s σ H D (I.wish _) hw) (fun _ _ q => q.unwish) fun _ _ z => False.elim z
end
section
variable {X : Cx} {st : Stmt} {rest : List Stmt} {t u : TS} {e : Expr} {te : TE} {pos : Pos}
def tNext : TS := fun D σ H => D.nx σ H
def tSeq (t u : TS) : TS := fun D σ H => t { D with nx := u D } σ H
theorem pss_nil : PSs X [] tNext := fun _ _ σ H _ I h => wpAny_execs_nil ⟨σ, H, I, h⟩
theorem pss_cons (h1 : PS X st t) (h2 : PSs X rest u) : PSs X (st :: rest) (tSeq t u) := by
  intro pins s σ H D I h
  refine wpAny_execs_cons (thn (h1 pins s σ H { D with nx := u D } I h) fun f s1 q => ?_)
  cases f with
  | next =>
    obtain ⟨σ', H', I', q⟩ := q
    exact h2 pins s1 σ' H' D I' q
  | ret v => exact q
  | brk => exact q
  | cont => exact q
theorem pss_one (h1 : PS X st t) : PSs X [st] t := by
  intro pins s σ H D I h
  refine wpAny_execs_cons (thn (h1 pins s σ H D I h) fun f s1 q => ?_)
  cases f with
  | next => exact wpAny_execs_nil q
  | ret v => exact q
  | brk => exact q
  | cont => exact q
theorem Inv.quiet {pins : List (Addr × Obj)} {σ : St} {H : Hp} {s : Shared} (I : Inv X pins σ H s) : interactive X.env = false := by simp [interactive, I.ok.kind]
def tDrop (te : TE) : TS := fun D σ H => te σ H fun _ H1 => D.nx σ H1
theorem ps_expr (he : PE X e te) (hs : swapsWith e none pos.line X.env = pure false := by rfl) : PS X (.Expr e pos) (tDrop te) := by
  intro pins s σ H D I h
  exact wpAny_Expr_any (thn (he pins s σ H _ I h) fun v s1 ⟨x, H1, I1, r1, q1⟩ => ⟨σ, H1, I1, q1⟩) I.quiet hs
def tRet (te : TE) : TS := fun D σ H => te σ H D.rt
theorem ps_ret (he : PE X e te) : PS X (.Return (some e) pos) (tRet te) := by
  intro pins s σ H D I h
  exact wpAny_Return_some (thn (he pins s σ H _ I h) fun v s1 ⟨x, H1, I1, r1, q1⟩ => ⟨x, σ, H1, I1, r1, q1⟩)
def tIfS (c : TT) (t u : TS) : TS := fun D σ H => c σ H fun b H1 => if b = true then t D σ H1 else u D σ H1
theorem ps_if {c : Expr} {a b : List Stmt} {tc : TT} (hc : PT X c tc) (ha : PSs X a t) (hb : PSs X b u) : PS X (.If c a b pos) (tIfS tc t u) := by
  intro pins s σ H D I h
  refine wpAny_If (thn (hc pins s σ H _ I h) fun d s1 ⟨H1, I1, q1⟩ => ?_)
  cases d with
  | true => exact ha pins s1 σ H1 D I1 q1
  | false => exact hb pins s1 σ H1 D I1 q1
end
abbrev TG := V → St → Hp → (St → Hp → Prop) → Prop
abbrev TGs := List V → St → Hp → (St → Hp → Prop) → Prop
def PG (X : Cx) (target : Expr) (t : TG) : Prop :=
  ∀ (pins : List (Addr × Obj)) (s : Shared) (σ : St) (H : Hp) (v : V) (u : Value) (Q : St → Hp → Prop), Inv X pins σ H s → RelV v u → t v σ H Q →
    wpAny (model X.prog X.w) X.A (assign target X.env u) (fun _ s' => ∃ σ' H', Inv X pins σ' H' s' ∧ Q σ' H') X.xe s
def PGs (X : Cx) (ts : List Expr) (t : TGs) : Prop :=
  ∀ (pins : List (Addr × Obj)) (s : Shared) (σ : St) (H : Hp) (vs : List V) (us : List Value) (Q : St → Hp → Prop), Inv X pins σ H s → Vals vs us → t vs σ H Q →
    wpAny (model X.prog X.w) X.A (assignInOrder ((assignEach ts X.env).map (·.2)) us) (fun _ s' => ∃ σ' H', Inv X pins σ' H' s' ∧ Q σ' H') X.xe s
abbrev TSet := V → V → V → Hp → (Hp → Prop) → Prop
def PSet (X : Cx) (t : TSet) : Prop :=
  ∀ (pins : List (Addr × Obj)) (s : Shared) (σ : St) (H : Hp) (o i v : V) (ov iv u : Value) (Q : Hp → Prop), Inv X pins σ H s → RelV o ov → RelV i iv → RelV v u → t o i v H Q →
    wpAny (model X.prog X.w) X.A (setItem ov iv u) (fun _ s' => ∃ H', Inv X pins σ H' s' ∧ Q H') X.xe s
section
variable {X : Cx} {pos : Pos}
def gName (i : Nat) : TG := fun v σ H Q => Q (σ.set i (some v)) H
theorem pg_name {i : Nat} {x : Str} (hN : X.N.Nodup) (hi : X.N[i]? = some x) (hx : Loc X.env.scope x) (hf : X.fn x = true ∨ X.env.scope.names.lookup x = some .local := by first | exact .inl rfl | exact .inr rfl | assumption) : PG X (.Name x pos) (gName i) := by
  intro pins s σ H v u Q I r h
  exact wpAny_assign_Name (store_ok I hN hi hx r (fun s' I' => ⟨_, H, I', h⟩) hf)
def gNil : TGs := fun vs σ H Q => vs = [] ∧ Q σ H
def gCons (t : TG) (u : TGs) : TGs := fun vs σ H Q => ∃ v r, vs = v :: r ∧ t v σ H fun σ' H' => u r σ' H' Q
theorem pgs_nil : PGs X [] gNil := by
  intro pins s σ H vs us Q I r h
  obtain ⟨e, h⟩ := h
  subst e
  cases r
  exact assignInOrder_nil ⟨σ, H, I, h⟩
theorem pgs_cons {e : Expr} {es : List Expr} {t : TG} {u : TGs} (h1 : PG X e t) (h2 : PGs X es u)
    (hs : (assignEach (e :: es) X.env).map (·.2) = assign e X.env :: (assignEach es X.env).map (·.2) := by rfl) : PGs X (e :: es) (gCons t u) := by
  intro pins s σ H vs us Q I r h
  obtain ⟨v, vr, e1, h⟩ := h
  subst e1
  cases r with
  | cons r rr =>
    rw [hs]
    refine assignInOrder_cons (thn (h1 pins s σ H _ _ _ I r h) fun _ s1 ⟨σ1, H1, I1, q1⟩ => ?_)
    exact h2 pins s1 σ1 H1 _ _ Q I1 rr q1
def gTup (K : PySem.W.Frag) (n : Nat) (t : TGs) : TG := fun v σ H Q => ∃ a xs, v = .ref a ∧ SqT K H a xs ∧ xs.length = n ∧ t xs σ H Q
theorem pg_tup {es : List Expr} {k : Nat} {t : TGs} {n : Nat} (hc : X.calm = true) (h : PGs X es t)
    (hn : (assignEach es X.env).length = n := by rfl) (hst : (assignEach es X.env).findIdx? (·.1) = none := by rfl) : PG X (.Tuple es k pos) (gTup X.K n t) := by
  intro pins s σ H v u Q I r hw
  obtain ⟨a, xs, e1, hq, hl, hw⟩ := hw
  subst e1
  cases r
  obtain ⟨its, rv, ht, hz⟩ := I.tuple hq
  refine assign_Tuple_tuple (I.ok.hd hc) ht (by simp [hn, ← hl, rv.length]) hst fun h' hx => ?_
  have I1 : Inv X pins σ H { s with heap := h' } := I.kept (t' := s.toks) fun b o e => hx b o (Nat.ne_of_lt (Heap.lt_size e)) e
  exact h pins _ σ H xs _ Q I1 (by simpa using rv) hw
def gSub (to ti : TE) (t : TSet) : TG := fun v σ H Q => to σ H fun o H1 => ti σ H1 fun i H2 => t o i v H2 fun H3 => Q σ H3
theorem pg_sub {o i : Expr} {to ti : TE} {t : TSet} (ho : PE X o to) (hi : PE X i ti) (hs : PSet X t)
    (ha : ∀ v, assign (.Subscript o i pos) X.env v = (do
      let ov ← holding [v] (eval o X.env)
      let iv ← holding [v, ov] (eval i X.env)
      standAt pos
      holding [v, ov, iv] (setItem ov iv v)
      release [v, ov, iv] []) := by intro _; rfl) : PG X (.Subscript o i pos) (gSub to ti t) := by
  intro pins s σ H v u Q I r h
  rw [ha]
  refine wpAny_bind (wpAny_holding (thn (ho pins s σ H _ I h) fun ov s1 ⟨x, H1, I1, r1, q1⟩ => ?_))
  refine wpAny_bind (wpAny_holding (thn (hi pins s1 σ H1 _ I1 q1) fun iv s2 ⟨y, H2, I2, r2, q2⟩ => ?_))
  refine wpAny_bind (wpAny_standAt (wpAny_bind (wpAny_holding (thn (hs pins s2 σ H2 x y v ov iv u _ I2 r1 r2 r q2) fun _ s3 ⟨H3, I3, q3⟩ => ?_))))
  exact wpAny_release ⟨σ, H3, I3, q3⟩
def tAsg (te : TE) (g : TG) : TS := fun D σ H => te σ H fun x H1 => g x σ H1 D.nx
theorem ps_asg {tg e : Expr} {te : TE} {g : TG} (he : PE X e te) (hg : PG X tg g) (hs : swapsWithSole [tg] e pos.line X.env = pure false := by rfl) (hw : swappedStores [tg] e X.env = pure none := by rfl)
    (h1 : (assignEach [tg] X.env).map (·.2) = [assign tg X.env] := by rfl) : PS X (.Assign [tg] e pos) (tAsg te g) := by
  intro pins s σ H D I h
  refine wpAny_Assign_stores (thn (he pins s σ H _ I h) fun v s1 ⟨x, H1, I1, r1, q1⟩ => ?_) hs hw
  rw [h1]
  exact thn (hg pins s1 σ H1 x v _ I1 r1 q1) fun _ s2 q => q
theorem ps_set {i : Nat} {x : Str} {e : Expr} {te : TE} {pos' : Pos} (hN : X.N.Nodup) (hi : X.N[i]? = some x) (hx : Loc X.env.scope x) (he : PE X e te) (hs : swapsWith e (some (.Name x pos')) pos.line X.env = pure false := by rfl) (hf : X.fn x = true ∨ X.env.scope.names.lookup x = some .local := by first | exact .inl rfl | exact .inr rfl | assumption) :
    PS X (.Assign [.Name x pos'] e pos) (tAsg te (gName i)) := by
  intro pins s σ H D I h
  refine wpAny_Assign_Name (thn (he pins s σ H _ I h) fun v s1 ⟨y, H1, I1, r1, q1⟩ => ?_) hs
  exact store_ok I1 hN hi hx r1 (fun s2 I2 => ⟨_, H1, I2, q1⟩) hf
end
section
variable {X : Cx} {pos : Pos}
def tWhile (c : TT) (tb : TS) : TS := fun D σ H => ∃ W : Nat → St → Hp → Prop, (∃ m, W m σ H) ∧ ∀ m σ H, W m σ H →
  c σ H fun b H1 => if b = true then ∃ N : St → Hp → Prop, (∀ σ' H', N σ' H' → ∃ m', m' < m ∧ W m' σ' H') ∧ tb { D with nx := N, ct := N, bk := D.nx } σ H1 else D.nx σ H1
theorem ps_while {c : Expr} {body : List Stmt} {tc : TT} {tb : TS} (hp : PassesOwn (model X.prog X.w) X.A X.env X.xe) (hc : PT X c tc) (hb : PSs X body tb) : PS X (.While c body [] pos) (tWhile tc tb) := by
  intro pins s σ H D I h
  obtain ⟨W, ⟨m0, w0⟩, turn⟩ := h
  refine wpAny_While (codeAny_whileLoop (fun n s' => ∃ σ' H', Inv X pins σ' H' s' ∧ W n σ' H') ?_ m0 ⟨σ, H, I, w0⟩)
  rintro n s1 ⟨σ1, H1, I1, w1⟩
  refine wpAny_passesOwn hp (thn (hc pins s1 σ1 H1 _ I1 (turn n σ1 H1 w1)) fun b s2 ⟨H2, I2, q2⟩ => ?_)
  cases b with
  | true =>
    obtain ⟨N, hN, q2⟩ := q2
    rw [if_pos rfl]
    refine wpAny_passesOwn hp (thn (hb pins s2 σ1 H2 _ I2 q2) fun f s3 q3 => ?_)
    cases f with
    | next =>
      obtain ⟨σ3, H3, I3, n3⟩ := q3
      obtain ⟨m', hm, w3⟩ := hN σ3 H3 n3
      exact ⟨m', hm, σ3, H3, I3, w3⟩
    | cont =>
      obtain ⟨σ3, H3, I3, n3⟩ := q3
      obtain ⟨m', hm, w3⟩ := hN σ3 H3 n3
      exact ⟨m', hm, σ3, H3, I3, w3⟩
    | brk => exact q3
    | ret v => exact q3
  | false =>
    rw [if_neg Bool.false_ne_true]
    exact wpAny_execs_nil ⟨σ1, H2, I2, q2⟩
end
structure It where
  go : Nat → Hp → Prop
  yld : Nat → Hp → V → Hp → Prop
  stop : Nat → Hp → Prop
def FpOk (X : Cx) (pins : List (Addr × Obj)) (H : Hp) (b : Addr) : Prop :=
  H b = none ∧ b ≠ X.env.locals ∧ b ∉ X.fs ∧ (b ∈ X.ex ∨ X.s₀.heap.objs.size ≤ b) ∧ (∀ x c, X.env.cells.lookup x = some c → c ≠ b) ∧ ∀ p ∈ X.pn ++ pins, p.1 ≠ b
theorem Inv.fpOk {X : Cx} {pins : List (Addr × Obj)} {σ : St} {H H' : Hp} {s : Shared} {b : Addr} (I : Inv X pins σ H s) (hb : s.heap.objs.size ≤ b) (hn : H' b = none) : FpOk X pins H' b := by
  refine ⟨hn, Nat.ne_of_gt (Nat.lt_of_lt_of_le I.lt hb), I.nofs hb, .inr (Nat.le_trans I.sz hb), fun x c e z => ?_, fun p hp z => ?_⟩
  · obtain ⟨v, q⟩ := I.cell x c e
    exact absurd (Nat.lt_of_lt_of_le q.lt (by rw [z]; exact hb)) (Nat.lt_irrefl _)
  · exact absurd (Nat.lt_of_lt_of_le (Heap.lt_size (I.pin p hp).1) (by rw [z]; exact hb)) (Nat.lt_irrefl _)
structure Turn (P : Program) (w : World) (K : PySem.W.Frag) (tg : Expr) (J : It) (fp : List Addr) (it : Addr) (tn : Nat → Heap → Prop) : Prop where
  mem : it ∈ fp
  obj : ∀ i h, tn i h → ∀ b ∈ fp, ∃ o, h.get? b = some o ∧ ∀ v, o.data ≠ .cell v
  keep : ∀ i h h', tn i h → (∀ b ∈ fp, ∀ o, h.get? b = some o → h'.get? b = some o) → tn i h'
  item : ∀ (X : Cx), X.prog = P → X.w = w → X.K = K → X.calm = true → ∀ (i : Nat) (pins : List (Addr × Obj)) (s : Shared) (σ : St) (H : Hp) (E : Value → Shared → Prop), Inv X pins σ H s → (∀ b ∈ fp, FpOk X pins H b) → tn i s.heap → J.go i H →
    wpAny (model P w) X.A (pyNext (.ref it)) (fun r s1 => ∃ u, r = some u ∧
      wpAny (model P w) X.A (letOwnedTupleGo tg (.ref it) u) (fun _ s2 => ∃ x H', Inv X pins σ H' s2 ∧ RelV x u ∧ J.yld i H x H' ∧ tn (i + 1) s2.heap ∧ ∀ b ∈ fp, H' b = none) E s1) E s
  done : ∀ (X : Cx), X.prog = P → X.w = w → X.K = K → X.calm = true → ∀ (i : Nat) (pins : List (Addr × Obj)) (s : Shared) (σ : St) (H : Hp) (E : Value → Shared → Prop), Inv X pins σ H s → (∀ b ∈ fp, FpOk X pins H b) → tn i s.heap → J.stop i H →
    wpAny (model P w) X.A (pyNext (.ref it)) (fun r s1 => r = none ∧ Inv X pins σ H s1) E s
  self : ∀ (A : Around) (i : Nat) (s : Shared) (Q : Value → Shared → Prop) (E : Value → Shared → Prop), tn i s.heap → Q (.ref it) s → wpAny (model P w) A (pyIter (.ref it)) Q E s
abbrev TI := St → Hp → (It → Hp → Prop) → Prop
def PIE (X : Cx) (pins : List (Addr × Obj)) (σ : St) (tg : Expr) (R : It → Hp → Prop) (itv : Value) (s2 : Shared) : Prop :=
  ∃ (it : Addr) (fp : List Addr) (tn : Nat → Heap → Prop) (J : It) (H' : Hp), itv = .ref it ∧ Inv X pins σ H' s2 ∧ Turn X.prog X.w X.K tg J fp it tn ∧ tn 0 s2.heap ∧ (∀ b ∈ fp, FpOk X pins H' b) ∧ R J H'
def PI (X : Cx) (tg iter : Expr) (wi : TI) : Prop :=
  ∀ (pins : List (Addr × Obj)) (s : Shared) (σ : St) (H : Hp) (R : It → Hp → Prop), Inv X pins σ H s → wi σ H R →
    wpAny (model X.prog X.w) X.A (eval iter X.env) (fun v s1 => wpAny (model X.prog X.w) X.A (pyIter v) (PIE X pins σ tg R) X.xe s1) X.xe s
theorem go_of {M : Model} {A : Around} {E : Value → Shared → Prop} {s : Shared} {tg : Expr} {it : Addr} {u : Value} {o : Obj} {n : String} {vs : Array Value} {Q : Unit → Shared → Prop} (ho : s.heap.get? it = some o) (hc : o.cls = .type n) (hd : o.data = .fields vs)
    (hn : ["enumerate", "zip", "dict_itemiterator", "dict_reverseitemiterator", "odict_iterator", "itertools.zip_longest", "itertools.pairwise"].contains n = false) (hQ : Q () s) : wpAny M A (letOwnedTupleGo tg (.ref it) u) Q E s := by
  unfold letOwnedTupleGo
  cases tg <;> first
    | exact wpAny_pure hQ
    | (cases u <;> first
        | exact wpAny_pure hQ
        | (refine wpAny_bind (wpAny_load ho ?_)
           rw [hc, hd]
           show wpAny M A (if (["enumerate", "zip", "dict_itemiterator", "dict_reverseitemiterator", "odict_iterator", "itertools.zip_longest", "itertools.pairwise"].contains n && vs[0]? == some (rawInt _)) = true then _ else _) Q E s
           rw [if_neg (by intro h; rw [hn, Bool.false_and] at h; cases h)]
           exact wpAny_pure hQ))
def Itl (K : PySem.W.Frag) (a : Addr) : It :=
  ⟨fun i H => ∃ xs x, SqL K H a xs ∧ xs[i]? = some x, fun i H x H' => H' = H ∧ ∀ xs, SqL K H a xs → xs[i]? = some x, fun i H => ∃ xs, SqL K H a xs ∧ xs.length ≤ i⟩
def Itr (lo : Int) (n : Nat) : It := ⟨fun i _ => i < n, fun i H x H' => H' = H ∧ x = .int (lo + i), fun i _ => n ≤ i⟩
theorem turn_list {P : Program} {w : World} {K : PySem.W.Frag} {tg : Expr} (a it : Addr) : Turn P w K tg (Itl K a) [it] it (fun i h => h.IsListIter it a i) where
  mem := by simp
  obj := fun i h st b hb => by
    have e : b = it := by simpa using hb
    subst e
    obtain ⟨o, e, c, d⟩ := st
    exact ⟨o, e, fun v z => by rw [d] at z; cases z⟩
  keep := fun i h h' st k => st.at fun o e => k it (by simp) o e
  item := by
    intro X hP hw hK hc i pins s σ H E I hf st hg
    subst hP hw hK
    obtain ⟨xs, x, hq, hx⟩ := hg
    obtain ⟨its, rv, p, hz⟩ := I.list hq
    obtain ⟨u, hu, ru⟩ := rv.get hx
    obtain ⟨f0, f1, f2, f3, f4, f5⟩ := hf it (by simp)
    refine wpAny_pyNext_list_item st p.isList (x := u) (by simpa using hu) fun h' st' sb => ?_
    have I1 : Inv X pins σ H { s with heap := h' } := I.turned (t' := s.toks) (fun b o hb e => (sb.2 b hb).trans e) f0 f1 f3 f4 f5
    obtain ⟨o, e, c, d⟩ := id st'
    exact ⟨u, rfl, go_of (s := { s with heap := h' }) e c d (by decide) ⟨x, H, I1, ru, ⟨rfl, fun ys hy => by rw [I.list_inj hy hq]; exact hx⟩, st', fun b hb => (hf b hb).1⟩⟩
  done := by
    intro X hP hw hK hc i pins s σ H E I hf st hg
    subst hP hw hK
    obtain ⟨xs, hq, hx⟩ := hg
    obtain ⟨its, rv, p, hz⟩ := I.list hq
    obtain ⟨f0, f1, f2, f3, f4, f5⟩ := hf it (by simp)
    have hl := rv.length
    exact wpAny_pyNext_list_end (I.ok.hd hc) st p.isList (by simp; omega) fun h' eb => ⟨rfl, I.turned (t' := s.toks) (fun b o hb e => eb b o hb e) f0 f1 f3 f4 f5⟩
  self := fun _ _ _ _ _ st h => wpAny_pyIter_listiter st h
theorem turn_range {P : Program} {w : World} {K : PySem.W.Frag} {tg : Expr} (it : Addr) (lo : Int) (n : Nat) : Turn P w K tg (Itr lo n) [it] it (fun i h => IsRangeIter h it (lo + (i : Nat) * 1) ((n : Int) - (i : Nat)) 1) where
  mem := by simp
  obj := fun i h st b hb => by
    have e : b = it := by simpa using hb
    subst e
    exact ⟨_, st, fun v z => by
      have z' : Data.fields _ = Data.cell v := z
      cases z'⟩
  keep := fun i h h' st k => k it (by simp) _ st
  item := by
    intro X hP hw hK hc i pins s σ H E I hf st hg
    subst hP hw hK
    obtain ⟨f0, f1, f2, f3, f4, f5⟩ := hf it (by simp)
    have W := Walks.range (prog := X.prog) (w := X.w) (I.ok.hd hc) it lo 1 n
    refine W.item i s _ _ hg st fun v h' tk hv st' kk => ?_
    obtain ⟨t, rfl⟩ := hv
    have I1 : Inv X pins σ H { s with heap := h', toks := tk } := I.turned (fun b o hb e => kk b o (by simpa using hb) e) f0 f1 f3 f4 f5
    refine ⟨_, rfl, go_of (s := { s with heap := h', toks := tk }) (n := "range_iterator") st' rfl rfl (by decide) ⟨.int (lo + i), H, I1, ⟨t, ?_⟩, ⟨rfl, rfl⟩, st', fun b hb => (hf b hb).1⟩⟩
    rw [Int.mul_one]
  done := by
    intro X hP hw hK hc i pins s σ H E I hf st hg
    subst hP hw hK
    obtain ⟨f0, f1, f2, f3, f4, f5⟩ := hf it (by simp)
    exact wpAny_pyNext_range_end (I.ok.hd hc) st (by have : n ≤ i := hg; omega) fun h' eb => ⟨rfl, I.turned (t' := s.toks) (fun b o hb e => eb b o hb e) f0 f1 f3 f4 f5⟩
  self := fun _ _ _ _ _ st h => wpAny_pyIter_rangeiter st h
end L2
namespace L2
open PySem PySem.Spec PyProof.Rows
section
variable {X : Cx} {tg : Expr}
def iList (K : PySem.W.Frag) (tl : TE) : TI := fun σ H R => tl σ H fun x H1 => ∃ a, x = .ref a ∧ (∃ xs, SqL K H1 a xs) ∧ R (Itl K a) H1
theorem pi_list {l : Expr} {tl : TE} (hl : PE X l tl) : PI X tg l (iList X.K tl) := by
  intro pins s σ H R I h
  refine thn (hl pins s σ H _ I h) fun v s1 ⟨x, H1, I1, r1, q1⟩ => ?_
  obtain ⟨a, e, ⟨xs, hq⟩, q⟩ := q1
  subst e
  cases r1
  obtain ⟨its, rv, p, hz⟩ := I1.list hq
  refine wpAny_pyIter_list p.isList ?_
  refine ⟨s1.heap.objs.size, [s1.heap.objs.size], _, _, H1, rfl, I1.kept (t' := s1.toks) fun b o e => Heap.get?_push_of_some _ e, turn_list a _, ⟨_, Heap.get?_push_size _ rfl, rfl, rfl⟩, fun b hb => ?_, q⟩
  have e : b = s1.heap.objs.size := by simpa using hb
  subst e
  exact I1.fpOk (Nat.le_refl _) (I1.hok.fresh (Nat.le_refl _))
theorem range_it {pins : List (Addr × Obj)} {σ : St} {H : Hp} {s : Shared} {R : It → Hp → Prop} {E : Value → Shared → Prop} {lo hi : Int} {t u v : Tok} {tk : Nat} (I : Inv X pins σ H s) (h1 : -(2 ^ 62) ≤ lo) (h2 : lo < 2 ^ 62) (h3 : -(2 ^ 62) ≤ hi) (h4 : hi < 2 ^ 62)
    (q : R (Itr lo (hi - lo).toNat) H) : wpAny (model X.prog X.w) X.A (pyIter (.ref s.heap.objs.size)) (PIE X pins σ tg R) E { s with heap := s.heap.push { cls := .type "range", data := .fields #[.int lo t, .int hi u, .int 1 v] }, toks := tk } := by
  refine wpAny_pyIter_range (IsRange.new ..) (small_one h1 h2 h3 h4) ?_
  have I1 : Inv X pins σ H { s with heap := s.heap.push { cls := .type "range", data := .fields #[.int lo t, .int hi u, .int 1 v] }, toks := tk } := I.kept fun b o e => Heap.get?_push_of_some _ e
  refine ⟨(s.heap.push { cls := .type "range", data := .fields #[.int lo t, .int hi u, .int 1 v] }).objs.size, [(s.heap.push { cls := .type "range", data := .fields #[.int lo t, .int hi u, .int 1 v] }).objs.size], _, _, H, rfl,
    I1.kept (t' := tk) fun b o e => Heap.get?_push_of_some _ e, turn_range _ lo (hi - lo).toNat, ?_, fun b hb => ?_, q⟩
  · have e1 : lo + ((0 : Nat) : Int) * 1 = lo := by simp
    have e2 : (((hi - lo).toNat : Nat) : Int) - ((0 : Nat) : Int) = Builtin.Range.rangeSize lo hi 1 := by rw [rangeSize_one]; split <;> omega
    show IsRangeIter _ _ (lo + ((0 : Nat) : Int) * 1) ((((hi - lo).toNat : Nat) : Int) - ((0 : Nat) : Int)) 1
    rw [e1, e2]
    exact Heap.get?_push_size _ rfl
  · have e : b = (s.heap.push { cls := .type "range", data := .fields #[.int lo t, .int hi u, .int 1 v] }).objs.size := by simpa using hb
    subst e
    exact I1.fpOk (Nat.le_refl _) (I1.hok.fresh (Nat.le_refl _))
def iRng1 (ta : TA) : TI := fun σ H R => ta σ H fun vs H1 => ∃ j : Int, vs = [.int j] ∧ -(2 ^ 62) ≤ j ∧ j < 2 ^ 62 ∧ R (Itr 0 j.toNat) H1
def iRng2 (ta : TA) : TI := fun σ H R => ta σ H fun vs H1 => ∃ i j : Int, vs = [.int i, .int j] ∧ (-(2 ^ 62) ≤ i ∧ i < 2 ^ 62 ∧ -(2 ^ 62) ≤ j ∧ j < 2 ^ 62) ∧ R (Itr i (j - i).toNat) H1
theorem pi_range1 {a : Expr} {ta : TA} {p pos : Pos} (hg : Gl X "range") (hm : X.mg "range" = none) (ha : PA X [a] ta) (hs : starEach [a] X.env = [(false, eval a X.env)] := by rfl) : PI X tg (.Call (.Name "range" p) [a] [] pos) (iRng1 ta) := by
  intro pins s σ H R I h
  refine Call_ (ld_blt I hg hm boot_range (PyProof.Rows.callWith_type1 (thn (ha pos pins s σ H _ I h) fun us s1 ⟨vs, H1, I1, r1, q1⟩ => ?_) hs rfl))
  obtain ⟨j, e, q1, q2, q⟩ := q1
  subst e
  cases r1 with
  | cons r rr =>
    cases rr
    obtain ⟨t, rfl⟩ := r
    exact call_range_1 (range_it I1 (by omega) (by omega) q1 q2 (by simpa using q))
theorem pi_range2 {a b : Expr} {ta : TA} {p pos : Pos} (hg : Gl X "range") (hm : X.mg "range" = none) (ha : PA X [a, b] ta) (hs : starEach [a, b] X.env = [(false, eval a X.env), (false, eval b X.env)] := by rfl) (hs2 : starEach [b] X.env = [(false, eval b X.env)] := by rfl) :
    PI X tg (.Call (.Name "range" p) [a, b] [] pos) (iRng2 ta) := by
  intro pins s σ H R I h
  refine Call_ (ld_blt I hg hm boot_range (PyProof.Rows.callWith_type1 (thn (ha pos pins s σ H _ I h) fun us s1 ⟨vs, H1, I1, r1, q1⟩ => ?_) (by rw [hs, hs2]) (by rw [hs2]; rfl)))
  obtain ⟨i, j, e, ⟨q1, q2, q3, q4⟩, q⟩ := q1
  subst e
  cases r1 with
  | cons r rr =>
    cases rr with
    | cons r' rr =>
      cases rr
      obtain ⟨t, rfl⟩ := r
      obtain ⟨t', rfl⟩ := r'
      exact call_range_2 (range_it I1 q1 q2 q3 q4 q)
def tFor (wi : TI) (g : TG) (tb : TS) : TS := fun D σ H => wi σ H fun J H1 => ∃ W : Nat → Nat → St → Hp → Prop, (∃ m, W 0 m σ H1) ∧ ∀ i m σ H, W i m σ H →
  (J.stop i H ∧ D.nx σ H) ∨ (J.go i H ∧ ∃ N : St → Hp → Prop, (∀ σ' H', N σ' H' → ∃ m', m' < m ∧ W (i + 1) m' σ' H') ∧ ∀ x H', J.yld i H x H' → g x σ H' fun σ2 H2 => tb { D with nx := N, ct := N, bk := D.nx } σ2 H2)
def pinsAt (fp : List Addr) (h : Heap) : List (Addr × Obj) := fp.filterMap fun b => (h.get? b).map fun o => (b, o)
theorem mem_pinsAt {fp : List Addr} {h : Heap} {b : Addr} {o : Obj} (hb : b ∈ fp) (e : h.get? b = some o) : (b, o) ∈ pinsAt fp h := List.mem_filterMap.mpr ⟨b, hb, by rw [e]; rfl⟩
theorem of_pinsAt {fp : List Addr} {h : Heap} {p : Addr × Obj} (hp : p ∈ pinsAt fp h) : p.1 ∈ fp ∧ h.get? p.1 = some p.2 := by
  obtain ⟨b, hb, e⟩ := List.mem_filterMap.mp hp
  cases q : h.get? b with
  | none => rw [q] at e; cases e
  | some o =>
    rw [q] at e
    have e' : (b, o) = p := Option.some.inj e
    subst e'
    exact ⟨hb, q⟩
theorem Inv.pinned {pins : List (Addr × Obj)} {σ : St} {H : Hp} {s : Shared} {fp : List Addr} (I : Inv X pins σ H s) (hf : ∀ b ∈ fp, FpOk X pins H b) (ho : ∀ b ∈ fp, ∃ o, s.heap.get? b = some o ∧ ∀ v, o.data ≠ .cell v) : Inv X (pins ++ pinsAt fp s.heap) σ H s :=
  I.pins_of fun p hp => (List.mem_append.mp hp).elim (fun z => I.pin p (List.mem_append_right _ z)) fun z => by
    obtain ⟨hb, e⟩ := of_pinsAt z
    obtain ⟨f0, f1, f2, _⟩ := hf p.1 hb
    obtain ⟨o, e', d⟩ := ho p.1 hb
    rw [e] at e'; cases e'
    exact ⟨e, f0, f1, f2, d⟩
theorem Inv.unpinned {pins pl : List (Addr × Obj)} {σ : St} {H : Hp} {s : Shared} (I : Inv X (pins ++ pl) σ H s) : Inv X pins σ H s := I.pins_of fun p hp => I.pin p (List.mem_append_right _ (List.mem_append_left _ hp))
theorem ps_for {iter : Expr} {body : List Stmt} {wi : TI} {g : TG} {tb : TS} {pos : Pos} (hp : PassesOwn (model X.prog X.w) X.A X.env X.xe) (hc : X.calm = true) (hi : PI X tg iter wi) (hg : PG X tg g) (hb : PSs X body tb)
    (hs : ∀ x, foldedSetIterable iter X.env x = pure x := by intro _; rfl) : PS X (.For tg iter body [] pos) (tFor wi g tb) := by
  intro pins s σ H D I h
  refine wpAny_For (thn (hi pins s σ H _ I h) fun v s1 h1 => thn h1 fun itv s2 h2 => ?_) hs
  obtain ⟨it, fp, tn, J, H2, e, I2, T, st2, f2, W, ⟨m0, w0⟩, turn⟩ := h2
  subst e
  have stat : ∀ {H' : Hp}, (∀ b ∈ fp, H' b = none) → ∀ b ∈ fp, FpOk X pins H' b := fun hn b hb => ⟨hn b hb, (f2 b hb).2⟩
  refine codeAny_forLoop_any (fun n s' => ∃ i σ' H', Inv X pins σ' H' s' ∧ tn i s'.heap ∧ (∀ b ∈ fp, H' b = none) ∧ W i n σ' H') ?_ m0 ⟨0, σ, H2, I2, st2, fun b hb => (f2 b hb).1, w0⟩
  rintro n s3 ⟨i, σ3, H3, I3, st3, fr3, w3⟩
  rcases turn i n σ3 H3 w3 with ⟨stop, qn⟩ | ⟨go, N, hN, step⟩
  · refine wpAny_passesOwn hp (thn (T.done X rfl rfl rfl hc i pins s3 σ3 H3 X.xe I3 (stat fr3) st3 stop) fun r s4 ⟨hr, I4⟩ => ?_)
    subst hr
    exact wpAny_execs_nil ⟨σ3, H3, I4, qn⟩
  · refine wpAny_passesOwn hp (thn (T.item X rfl rfl rfl hc i pins s3 σ3 H3 X.xe I3 (stat fr3) st3 go) fun r s4 ⟨u, hr, h4⟩ => ?_)
    subst hr
    refine wpAny_passesOwn hp (thn h4 fun _ s5 ⟨x, H5, I5, r5, y5, st5, fr5⟩ => ?_)
    have I5' := I5.pinned (stat fr5) (T.obj _ _ st5)
    refine wpAny_passesOwn hp (thn (hg _ s5 σ3 H5 x u _ I5' r5 (step x H5 y5)) fun _ s6 ⟨σ6, H6, I6, q6⟩ => ?_)
    refine wpAny_passesOwn hp (thn (hb _ s6 σ6 H6 _ I6 q6) fun f s7 q7 => ?_)
    have again : ∀ {σ7 : St} {H7 : Hp}, Inv X (pins ++ pinsAt fp s5.heap) σ7 H7 s7 → N σ7 H7 → ∃ m, m < n ∧ ∃ i σ' H', Inv X pins σ' H' s7 ∧ tn i s7.heap ∧ (∀ b ∈ fp, H' b = none) ∧ W i m σ' H' := fun {σ7 H7} I7 n7 => by
      obtain ⟨m', hm, w7⟩ := hN σ7 H7 n7
      refine ⟨m', hm, i + 1, σ7, H7, I7.unpinned, T.keep _ _ _ st5 fun b hb o e => (I7.pin (b, o) (List.mem_append_right _ (List.mem_append_right _ (mem_pinsAt hb e)))).1, fun b hb => ?_, w7⟩
      obtain ⟨o, e, d⟩ := T.obj _ _ st5 b hb
      exact (I7.pin (b, o) (List.mem_append_right _ (List.mem_append_right _ (mem_pinsAt hb e)))).2.1
    cases f with
    | next => obtain ⟨σ7, H7, I7, n7⟩ := q7; exact again I7 n7
    | cont => obtain ⟨σ7, H7, I7, n7⟩ := q7; exact again I7 n7
    | brk => obtain ⟨σ7, H7, I7, q7⟩ := q7; exact ⟨σ7, H7, I7.unpinned, q7⟩
    | ret v => obtain ⟨x7, σ7, H7, I7, r7, q7⟩ := q7; exact ⟨x7, σ7, H7, I7.unpinned, r7, q7⟩
end
end L2
namespace L2
open PySem PySem.Spec PyProof.Rows
abbrev R2 := V → V → Hp → VK → Prop
def OpR (X : Cx) (f : Value → Value → Sem Value) (r : R2) : Prop :=
  ∀ (pins : List (Addr × Obj)) (s : Shared) (σ : St) (H : Hp) (x y : V) (v u : Value) (Q : VK), Inv X pins σ H s → RelV x v → RelV y u → r x y H Q →
    wpAny (model X.prog X.w) X.A (f v u) (EP X pins σ Q) X.xe s
def UnR (X : Cx) (f : Value → Sem Value) (r : V → Hp → VK → Prop) : Prop :=
  ∀ (pins : List (Addr × Obj)) (s : Shared) (σ : St) (H : Hp) (x : V) (v : Value) (Q : VK), Inv X pins σ H s → RelV x v → r x H Q →
    wpAny (model X.prog X.w) X.A (f v) (EP X pins σ Q) X.xe s
def CallR (X : Cx) (f : Value) (r : List V → Hp → VK → Prop) : Prop :=
  ∀ (pins : List (Addr × Obj)) (s : Shared) (σ : St) (H : Hp) (xs : List V) (us : List Value) (Q : VK), Inv X pins σ H s → Vals xs us → r xs H Q →
    wpAny (model X.prog X.w) X.A (call f us) (EP X pins σ Q) X.xe s
def TruR (X : Cx) (r : V → Hp → (Bool → Hp → Prop) → Prop) : Prop :=
  ∀ (pins : List (Addr × Obj)) (s : Shared) (σ : St) (H : Hp) (x : V) (v : Value) (Q : Bool → Hp → Prop), Inv X pins σ H s → RelV x v → r x H Q →
    wpAny (model X.prog X.w) X.A (truthy v) (TP X pins σ Q) X.xe s
def tOp (r : R2) (ta tb : TE) : TE := fun σ H Q => ta σ H fun x H1 => tb σ H1 fun y H2 => r x y H2 Q
def tUn (r : V → Hp → VK → Prop) (ta : TE) : TE := fun σ H Q => ta σ H fun x H1 => r x H1 Q
def rI (C : Int → Int → Prop) (g : Int → Int → V) : R2 := fun x y H Q => ∃ i j, x = .int i ∧ y = .int j ∧ C i j ∧ Q (g i j) H
def rI0 (g : Int → Int → V) : R2 := fun x y H Q => ∃ i j, x = .int i ∧ y = .int j ∧ Q (g i j) H
def rU (g : Int → V) : V → Hp → VK → Prop := fun x H Q => ∃ i, x = .int i ∧ Q (g i) H
section
variable {X : Cx} {a b c : Expr} {ta tb tc : TE} {pos : Pos}
theorem binT (ha : PE X a ta) (hb : PE X b tb) {pins : List (Addr × Obj)} {s : Shared} {σ : St} {H : Hp} {R : V → V → Hp → Prop} (I : Inv X pins σ H s)
    (h : ta σ H fun x H1 => tb σ H1 fun y H2 => R x y H2) {Q : Value → Shared → Prop} {f : Value → Value → Sem Value}
    (hf : ∀ v u s2 x y H2, Inv X pins σ H2 s2 → RelV x v → RelV y u → R x y H2 → wpAny (model X.prog X.w) X.A (f v u) Q X.xe s2) :
    wpAny (model X.prog X.w) X.A (eval a X.env) (fun v s₁ => wpAny (model X.prog X.w) X.A (eval b X.env) (fun u s₂ => wpAny (model X.prog X.w) X.A (f v u) Q X.xe s₂) X.xe s₁) X.xe s := by
  refine thn (ha pins s σ H _ I h) fun v s1 ⟨x, H1, I1, r1, q1⟩ => ?_
  refine thn (hb pins s1 σ H1 _ I1 q1) fun u s2 ⟨y, H2, I2, r2, q2⟩ => ?_
  exact hf v u s2 x y H2 I2 r1 r2 q2
theorem pe_op {op : Operator} {r : R2} (ho : OpR X (binaryOp op) r) (ha : PE X a ta) (hb : PE X b tb) : PE X (.BinOp a op b pos) (tOp r ta tb) := by
  intro pins s σ H Q I h
  exact wpAny_BinOp (binT ha hb I h fun v u s2 x y H2 I2 rx ry q => ho pins s2 σ H2 x y v u Q I2 rx ry q)
theorem pe_un {op : UnaryOp} {r : V → Hp → VK → Prop} (ho : UnR X (unaryOp op) r) (ha : PE X a ta) : PE X (.UnaryOp op a pos) (tUn r ta) := by
  intro pins s σ H Q I h
  exact UnaryOp_ (thn (ha pins s σ H _ I h) fun v s1 ⟨x, H1, I1, r1, q1⟩ => ho pins s1 σ H1 x v Q I1 r1 q1)
theorem opI {f : Value → Value → Sem Value} {C : Int → Int → Prop} {g : Int → Int → Int}
    (rule : ∀ (i j : Int) (t u : Tok) (s : Shared) (Q : Value → Shared → Prop) (E : Value → Shared → Prop), C i j → Q (.int (g i j) s.toks) { s with toks := s.toks + 1 } → wpAny (model X.prog X.w) X.A (f (.int i t) (.int j u)) Q E s) :
    OpR X f (rI C fun i j => .int (g i j)) := by
  intro pins s σ H x y v u Q I rx ry h
  obtain ⟨i, j, rfl, rfl, hc, q⟩ := h
  obtain ⟨t, rfl⟩ := rx
  obtain ⟨t', rfl⟩ := ry
  exact rule i j t t' s _ _ hc ⟨.int (g i j), H, I.tok _, ⟨_, rfl⟩, q⟩
theorem opI0 {f : Value → Value → Sem Value} {g : Int → Int → Int}
    (rule : ∀ (i j : Int) (t u : Tok) (s : Shared) (Q : Value → Shared → Prop) (E : Value → Shared → Prop), Q (.int (g i j) s.toks) { s with toks := s.toks + 1 } → wpAny (model X.prog X.w) X.A (f (.int i t) (.int j u)) Q E s) :
    OpR X f (rI0 fun i j => .int (g i j)) := by
  intro pins s σ H x y v u Q I rx ry h
  obtain ⟨i, j, rfl, rfl, q⟩ := h
  obtain ⟨t, rfl⟩ := rx
  obtain ⟨t', rfl⟩ := ry
  exact rule i j t t' s _ _ ⟨.int (g i j), H, I.tok _, ⟨_, rfl⟩, q⟩
theorem opB0 {f : Value → Value → Sem Value} {g : Int → Int → Bool}
    (rule : ∀ (i j : Int) (t u : Tok) (s : Shared) (Q : Value → Shared → Prop) (E : Value → Shared → Prop), Q (.bool (g i j)) s → wpAny (model X.prog X.w) X.A (f (.int i t) (.int j u)) Q E s) :
    OpR X f (rI0 fun i j => .bl (g i j)) := by
  intro pins s σ H x y v u Q I rx ry h
  obtain ⟨i, j, rfl, rfl, q⟩ := h
  obtain ⟨t, rfl⟩ := rx
  obtain ⟨t', rfl⟩ := ry
  exact rule i j t t' s _ _ ⟨.bl (g i j), H, I, rfl, q⟩
def CPow (i j : Int) : Prop := 0 ≤ j ∧ j ≤ 1000000 ∧ i.natAbs < 2 ^ 64
def CMul (i j : Int) : Prop := (-(2 ^ 64) < i ∧ i < 2 ^ 64) ∨ (-(2 ^ 64) < j ∧ j < 2 ^ 64)
theorem CMul.ok {i j : Int} (h : CMul i j) : IntMulOk i j := by
  rcases h with ⟨h1, h2⟩ | ⟨h1, h2⟩
  · exact .of_left (intBits_le_64 h1 h2)
  · exact .of_right (intBits_le_64 h1 h2)
theorem op_add : OpR X (binaryOp .Add) (rI0 fun i j => .int (i + j)) := opI0 fun _ _ _ _ _ _ _ q => add_int q
theorem op_sub : OpR X (binaryOp .Sub) (rI0 fun i j => .int (i - j)) := opI0 fun _ _ _ _ _ _ _ q => sub_int q
theorem op_modN : OpR X (binaryOp .Mod) (rI (fun _ j => j ≠ 0) fun i j => .int (i.fmod j)) := opI fun _ _ _ _ _ _ _ hc q => mod_int' hc q
theorem op_pow : OpR X (binaryOp .Pow) (rI CPow fun i j => .int (i ^ j.toNat)) := opI fun _ _ _ _ _ _ _ hc q => pow_int_small hc.1 hc.2.1 hc.2.2 q
theorem op_or : OpR X (binaryOp .BitOr) (rI0 fun i j => .int (Builtin.bitOr i j)) := opI0 fun _ _ _ _ _ _ _ q => or_int q
theorem unI {f : Value → Sem Value} {g : Int → Int}
    (rule : ∀ (i : Int) (t : Tok) (s : Shared) (Q : Value → Shared → Prop) (E : Value → Shared → Prop), Q (.int (g i) s.toks) { s with toks := s.toks + 1 } → wpAny (model X.prog X.w) X.A (f (.int i t)) Q E s) :
    UnR X f (rU fun i => .int (g i)) := by
  intro pins s σ H x v Q I rx h
  obtain ⟨i, rfl, q⟩ := h
  obtain ⟨t, rfl⟩ := rx
  exact rule i t s _ _ ⟨.int (g i), H, I.tok _, ⟨_, rfl⟩, q⟩
theorem un_neg : UnR X (unaryOp .USub) (rU fun i => .int (-i)) := unI fun _ _ _ _ _ q => neg_int q
end
def scal : V → V → Bool
  | .non, .non => true | .non, .int _ => true | .int _, .non => true | .non, .bl _ => true | .bl _, .non => true | .non, .str _ => true | .str _, .non => true
  | .int _, .int _ => true | .bl _, .bl _ => true | .str _, .str _ => true | .byt _, .byt _ => true
  | .int _, .str _ => true | .str _, .int _ => true | .bl _, .str _ => true | .str _, .bl _ => true
  | _, _ => false
def rEq : R2 := fun x y H Q => scal x y = true ∧ Q (.bl (decide (x = y))) H
def rNe : R2 := fun x y H Q => scal x y = true ∧ Q (.bl (!decide (x = y))) H
theorem dec_int {i j : Int} : decide (V.int i = V.int j) = (i == j) := by
  rw [Bool.eq_iff_iff]
  simp
theorem dec_bl {i j : Bool} : decide (V.bl i = V.bl j) = (i == j) := by
  rw [Bool.eq_iff_iff]
  simp
theorem dec_str {i j : Str} : decide (V.str i = V.str j) = (i == j) := by
  rw [Bool.eq_iff_iff]
  simp
theorem dec_byt {i j : Array UInt8} : decide (V.byt i = V.byt j) = (i.toList == j.toList) := by
  rw [Bool.eq_iff_iff]
  cases i
  cases j
  simp
section
variable {X : Cx} {a b c : Expr} {ta tb tc : TE} {pos : Pos}
theorem fin_bl {pins : List (Addr × Obj)} {σ : St} {H : Hp} {s : Shared} {Q : VK} {k k' : Bool} (I : Inv X pins σ H s) (q : Q (.bl k) H) (e : k = k') : EP X pins σ Q (.bool k') s := by
  subst e
  exact ⟨.bl k, H, I, rfl, q⟩
theorem op_eq : OpR X (compareOp .Eq) rEq := by
  intro pins s σ H x y v u Q I rx ry h
  obtain ⟨hs, q⟩ := h
  cases x with
  | non =>
    cases rx
    cases y with
    | non => cases ry; exact PySem.EqNone.eq_none_none (fin_bl I q (by simp))
    | bl j => cases ry; exact PySem.EqNone.eq_none_bool (fin_bl I q (by simp))
    | int j => obtain ⟨t', rfl⟩ := ry; exact PySem.EqNone.eq_none_int (fin_bl I q (by simp))
    | str j => obtain ⟨t', rfl⟩ := ry; exact PySem.EqNone.eq_none_str (fin_bl I q (by simp))
    | _ => exact absurd (show false = true from hs) Bool.false_ne_true
  | bl i =>
    cases rx
    cases y with
    | non => cases ry; exact PySem.EqNone.eq_bool_none (fin_bl I q (by simp))
    | bl j => cases ry; exact eq_bool (fin_bl I q dec_bl)
    | str j => obtain ⟨t', rfl⟩ := ry; exact PySem.EqMixed.eq_bool_str (fin_bl I q (by simp))
    | _ => exact absurd (show false = true from hs) Bool.false_ne_true
  | int i =>
    obtain ⟨t, rfl⟩ := rx
    cases y with
    | non => cases ry; exact PySem.EqNone.eq_int_none (fin_bl I q (by simp))
    | int j => obtain ⟨t', rfl⟩ := ry; exact eq_int (fin_bl I q dec_int)
    | str j => obtain ⟨t', rfl⟩ := ry; exact PySem.EqMixed.eq_int_str (fin_bl I q (by simp))
    | _ => exact absurd (show false = true from hs) Bool.false_ne_true
  | str i =>
    obtain ⟨t, rfl⟩ := rx
    cases y with
    | non => cases ry; exact PySem.EqNone.eq_str_none (fin_bl I q (by simp))
    | bl j => cases ry; exact PySem.EqMixed.eq_str_bool (fin_bl I q (by simp))
    | int j => obtain ⟨t', rfl⟩ := ry; exact PySem.EqMixed.eq_str_int (fin_bl I q (by simp))
    | str j => obtain ⟨t', rfl⟩ := ry; exact eq_str (fin_bl I q dec_str)
    | _ => exact absurd (show false = true from hs) Bool.false_ne_true
  | byt i =>
    obtain ⟨t, rfl⟩ := rx
    cases y with
    | byt j => obtain ⟨t', rfl⟩ := ry; exact PySem.W.eq_bytes (fin_bl I q dec_byt)
    | _ => exact absurd (show false = true from hs) Bool.false_ne_true
  | _ => cases y <;> exact absurd (show false = true from hs) Bool.false_ne_true
theorem op_ne : OpR X (compareOp .NotEq) rNe := by
  intro pins s σ H x y v u Q I rx ry h
  obtain ⟨hs, q⟩ := h
  cases x with
  | non =>
    cases rx
    cases y with
    | non => cases ry; exact PySem.EqNone.ne_none_none (fin_bl I q (by simp))
    | bl j => cases ry; exact PySem.EqNone.ne_none_bool (fin_bl I q (by simp))
    | int j => obtain ⟨t', rfl⟩ := ry; exact PySem.EqNone.ne_none_int (fin_bl I q (by simp))
    | str j => obtain ⟨t', rfl⟩ := ry; exact PySem.EqNone.ne_none_str (fin_bl I q (by simp))
    | _ => exact absurd (show false = true from hs) Bool.false_ne_true
  | bl i =>
    cases rx
    cases y with
    | non => cases ry; exact PySem.EqNone.ne_bool_none (fin_bl I q (by simp))
    | bl j => cases ry; exact ne_bool (fin_bl I q (congrArg not dec_bl))
    | str j => obtain ⟨t', rfl⟩ := ry; exact PySem.EqMixed.ne_bool_str (fin_bl I q (by simp))
    | _ => exact absurd (show false = true from hs) Bool.false_ne_true
  | int i =>
    obtain ⟨t, rfl⟩ := rx
    cases y with
    | non => cases ry; exact PySem.EqNone.ne_int_none (fin_bl I q (by simp))
    | int j => obtain ⟨t', rfl⟩ := ry; exact ne_int (fin_bl I q (congrArg not dec_int))
    | str j => obtain ⟨t', rfl⟩ := ry; exact PySem.EqMixed.ne_int_str (fin_bl I q (by simp))
    | _ => exact absurd (show false = true from hs) Bool.false_ne_true
  | str i =>
    obtain ⟨t, rfl⟩ := rx
    cases y with
    | non => cases ry; exact PySem.EqNone.ne_str_none (fin_bl I q (by simp))
    | bl j => cases ry; exact PySem.EqMixed.ne_str_bool (fin_bl I q (by simp))
    | int j => obtain ⟨t', rfl⟩ := ry; exact PySem.EqMixed.ne_str_int (fin_bl I q (by simp))
    | str j => obtain ⟨t', rfl⟩ := ry; exact ne_str (fin_bl I q (congrArg not dec_str))
    | _ => exact absurd (show false = true from hs) Bool.false_ne_true
  | byt i =>
    obtain ⟨t, rfl⟩ := rx
    cases y with
    | byt j => obtain ⟨t', rfl⟩ := ry; exact PySem.W.ne_bytes (fin_bl I q (congrArg not dec_byt))
    | _ => exact absurd (show false = true from hs) Bool.false_ne_true
  | _ => cases y <;> exact absurd (show false = true from hs) Bool.false_ne_true
theorem op_lt : OpR X (compareOp .Lt) (rI0 fun i j => .bl (decide (i < j))) := opB0 fun _ _ _ _ _ _ _ q => lt_int q
theorem op_gt : OpR X (compareOp .Gt) (rI0 fun i j => .bl (decide (j < i))) := opB0 fun _ _ _ _ _ _ _ q => gt_int q
theorem OpR.or {f : Value → Value → Sem Value} {r r' : R2} (h : OpR X f r) (h' : OpR X f r') : OpR X f (fun x y H Q => r x y H Q ∨ r' x y H Q) := by
  intro pins s σ H x y v u Q I rx ry q
  rcases q with q | q
  · exact h pins s σ H x y v u Q I rx ry q
  · exact h' pins s σ H x y v u Q I rx ry q
theorem nomark (b : Expr) {op : CmpOp} (h : op ≠ .In := by decide) (h2 : op ≠ .NotIn := by decide) : behindInMarks op b = false := by
  have e1 : (op == CmpOp.In) = false := by cases op <;> first | rfl | exact absurd rfl h
  have e2 : (op == CmpOp.NotIn) = false := by cases op <;> first | rfl | exact absurd rfl h2
  cases b <;> simp [behindInMarks, e1, e2]
theorem pe_cmpR {op : CmpOp} {r : R2} (ho : OpR X (compareOp op) r) (ha : PE X a ta) (hb : PE X b tb) (hm : behindInMarks op b = false) : PE X (.Compare a [op] [b] pos) (tOp r ta tb) := by
  intro pins s σ H Q I h
  exact wpAny_Compare1 (binT ha hb I h fun v u s2 x y H2 I2 rx ry q => ho pins s2 σ H2 x y v u Q I2 rx ry q) hm
def tTest (t : TE) : TT := fun σ H Q => t σ H fun x H' => ∃ k, x = .bl k ∧ Q k H'
theorem pt_cmpR {op : CmpOp} {r : R2} (ho : OpR X (compareOp op) r) (ha : PE X a ta) (hb : PE X b tb) (hm : behindInMarks op b = false) : PT X (.Compare a [op] [b] pos) (tTest (tOp r ta tb)) := by
  intro pins s σ H Q I h
  refine wpAny_isTrue_Compare1 (thn (ha pins s σ H _ I h) fun v s1 ⟨x, H1, I1, r1, q1⟩ => thn (hb pins s1 σ H1 _ I1 q1) fun u s2 ⟨y, H2, I2, r2, q2⟩ =>
    thn (ho pins s2 σ H2 x y v u _ I2 r1 r2 q2) fun c s3 ⟨z, H3, I3, r3, k, e, q3⟩ => ?_) hm
  subst e
  cases r3
  exact wpAny_truthy_bool ⟨H3, I3, q3⟩
def TruV (K : PySem.W.Frag) (x : V) (H : Hp) (k : Bool) : Prop :=
  match x with
  | .non => k = false
  | .bl b => k = b
  | .int i => k = (i != 0)
  | .str y => y.length ≤ sizeLine ∧ k = ((y.length : Int) != 0)
  | .byt y => y.size ≤ sizeLine ∧ k = ((y.size : Int) != 0)
  | .ref p => (∃ xs, SqL K H p xs ∧ k = !xs.isEmpty) ∨ (∃ xs, SqT K H p xs ∧ k = !xs.isEmpty) ∨ ∃ kvs, H p = some (.dK kvs) ∧ k = !kvs.isEmpty
  | _ => False
theorem isEmpty_kv {κ : Type} {kvs : List (κ × V)} {vs : List (κ × Value)} (r : KV kvs vs) : (!vs.isEmpty) = !kvs.isEmpty := by
  cases r <;> rfl
theorem isEmpty_of {xs : List V} {its : List Value} (r : Vals xs its) : (!its.toArray.isEmpty) = !xs.isEmpty := by
  cases r <;> simp
theorem line63 : (sizeLine : Nat) < 2 ^ 63 := by rw [sizeLine_eq]; decide
theorem tru_ok : TruR X (fun x H Q => ∃ k, TruV X.K x H k ∧ Q k H) := by
  intro pins s σ H x v Q I rx h
  obtain ⟨k, e, q⟩ := h
  have hl := line63
  have hs : sizeLine = 16777216 := sizeLine_eq
  cases x with
  | non =>
    cases rx
    have e' : k = false := e
    subst e'
    exact truthy_none ⟨H, I, q⟩
  | bl b =>
    cases rx
    have e' : k = b := e
    subst e'
    exact wpAny_truthy_bool ⟨H, I, q⟩
  | int i =>
    obtain ⟨t, rfl⟩ := rx
    have e' : k = (i != 0) := e
    subst e'
    exact PySem.P.truthy_int ⟨H, I, q⟩
  | str y =>
    obtain ⟨t, rfl⟩ := rx
    obtain ⟨hy, e'⟩ : y.length ≤ sizeLine ∧ k = ((y.length : Int) != 0) := e
    subst e'
    exact PySem.P.truthy_str (by omega) ⟨H, I.tok _, q⟩
  | byt y =>
    obtain ⟨t, rfl⟩ := rx
    obtain ⟨hy, e'⟩ : y.size ≤ sizeLine ∧ k = ((y.size : Int) != 0) := e
    subst e'
    exact PySem.W.truthy_bytes (by omega) ⟨H, I.tok _, q⟩
  | ref p =>
    cases rx
    have e' : (∃ xs, SqL X.K H p xs ∧ k = !xs.isEmpty) ∨ (∃ xs, SqT X.K H p xs ∧ k = !xs.isEmpty) ∨ ∃ kvs, H p = some (.dK kvs) ∧ k = !kvs.isEmpty := e
    rcases e' with ⟨xs, hx, e'⟩ | ⟨xs, hx, e'⟩ | ⟨kvs, hx, e'⟩
    · subst e'
      obtain ⟨its, r, pl, hz⟩ := I.list hx
      have hlen := r.length
      exact wpAny_truthy_list pl.isList (by simp only [List.size_toArray]; omega) ⟨H, I.tok _, by rw [isEmpty_of r]; exact q⟩
    · subst e'
      obtain ⟨its, r, pl, hz⟩ := I.tuple hx
      have hlen := r.length
      exact truthy_tuple pl (by simp only [List.size_toArray]; omega) ⟨H, I.tok _, by rw [isEmpty_of r]; exact q⟩
    · subst e'
      obtain ⟨hz, hS, vs, r, m⟩ : kvs.length ≤ sizeLine ∧ (p == sysModules) = false ∧ ∃ vs, KV kvs vs ∧ s.heap.DictOf (mixKind X.prog X.w) p vs := I.hok p _ hx
      have hlen : kvs.length = vs.length := Paired.length r
      exact wpAny_truthy_dict hS m (by omega) ⟨H, I.tok _, by rw [isEmpty_kv r]; exact q⟩
  | _ => exact (show False from e).elim
theorem op_add_str : OpR X (binaryOp .Add) (fun x y H Q => ∃ i j, x = .str i ∧ y = .str j ∧ i.length + j.length ≤ sizeLine ∧ Q (.str (i ++ j)) H) := by
  intro pins s σ H x y v u Q I rx ry h
  obtain ⟨i, j, rfl, rfl, hz, q⟩ := h
  obtain ⟨t, rfl⟩ := rx
  obtain ⟨t', rfl⟩ := ry
  exact add_str (fun t' tk => ⟨.str (i ++ j), H, I.tok _, ⟨_, rfl⟩, q⟩) hz
theorem vals1 {x : V} {us : List Value} (r : Vals [x] us) : ∃ u, us = [u] ∧ RelV x u := by
  cases r with
  | cons r1 r2 => cases r2; exact ⟨_, rfl, r1⟩
theorem vals2 {x y : V} {us : List Value} (r : Vals [x, y] us) : ∃ u w', us = [u, w'] ∧ RelV x u ∧ RelV y w' := by
  cases r with
  | cons r1 r2 =>
    cases r2 with
    | cons r3 r4 => cases r4; exact ⟨_, _, rfl, r1, r3⟩
theorem call_abs : CallR X (.builtin "abs") (fun xs H Q => ∃ i, xs = [.int i] ∧ Q (.int (if i < 0 then -i else i)) H) := by
  intro pins s σ H xs us Q I r h
  obtain ⟨i, rfl, q⟩ := h
  obtain ⟨u, rfl, t, rfl⟩ := vals1 r
  exact call_abs_int fun u tk => ⟨.int (if i < 0 then -i else i), H, I.tok _, ⟨_, rfl⟩, q⟩
theorem call_int1 : CallR X (.type "int") (fun xs H Q => (∃ i, xs = [.int i] ∧ Q (.int i) H) ∨ ∃ k, xs = [.bl k] ∧ Q (.int (if k then 1 else 0)) H) := by
  intro pins s σ H xs us Q I r h
  rcases h with ⟨i, rfl, q⟩ | ⟨k, rfl, q⟩
  · obtain ⟨u, rfl, t, rfl⟩ := vals1 r
    exact call_int_int ⟨.int i, H, I, ⟨_, rfl⟩, q⟩
  · obtain ⟨u, rfl, r1⟩ := vals1 r
    cases r1
    exact call_int_bool ⟨.int (if k then 1 else 0), H, I.tok _, ⟨_, rfl⟩, q⟩
def LenV (K : PySem.W.Frag) (x : V) (H : Hp) (n : Nat) : Prop :=
  match x with
  | .str y => y.length ≤ sizeLine ∧ n = y.length
  | .byt y => y.size ≤ sizeLine ∧ n = y.size
  | .ref p => (∃ xs, SqL K H p xs ∧ n = xs.length) ∨ ∃ xs, SqT K H p xs ∧ n = xs.length
  | _ => False
theorem call_len : CallR X (.builtin "len") (fun xs H Q => ∃ x n, xs = [x] ∧ LenV X.K x H n ∧ Q (.int n) H) := by
  intro pins s σ H xs us Q I r h
  obtain ⟨x, n, rfl, e, q⟩ := h
  obtain ⟨u, rfl, rx⟩ := vals1 r
  have hl := line63
  have hs : sizeLine = 16777216 := sizeLine_eq
  cases x with
  | str y =>
    obtain ⟨t, rfl⟩ := rx
    obtain ⟨hy, e'⟩ : y.length ≤ sizeLine ∧ n = y.length := e
    subst e'
    exact len_str (by omega) ⟨.int _, H, I.tok _, ⟨_, rfl⟩, q⟩
  | byt y =>
    obtain ⟨t, rfl⟩ := rx
    obtain ⟨hy, e'⟩ : y.size ≤ sizeLine ∧ n = y.size := e
    subst e'
    exact PySem.W.len_bytes (by omega) ⟨.int _, H, I.tok _, ⟨_, rfl⟩, q⟩
  | ref p =>
    cases rx
    have e' : (∃ xs, SqL X.K H p xs ∧ n = xs.length) ∨ ∃ xs, SqT X.K H p xs ∧ n = xs.length := e
    rcases e' with ⟨xs, hx, e'⟩ | ⟨xs, hx, e'⟩
    · subst e'
      obtain ⟨its, r', pl, hz⟩ := I.list hx
      have hlen := r'.length
      exact Calls.call_len_list pl.isList (by simp only [List.size_toArray]; omega) ⟨.int xs.length, H, I.tok _, ⟨_, by simp only [List.size_toArray]; rw [hlen]⟩, q⟩
    · subst e'
      obtain ⟨its, r', pl, hz⟩ := I.tuple hx
      have hlen := r'.length
      exact len_tuple pl (by simp only [List.size_toArray]; omega) ⟨.int xs.length, H, I.tok _, ⟨_, by simp only [List.size_toArray]; rw [hlen]⟩, q⟩
  | _ => exact (show False from e).elim
end
end L2
namespace L2
open PySem PySem.Spec PyProof.Rows
structure ObjM (h : Heap) (x dx C : Addr) (mA : Str → Option Value) : Prop where
  obj : h.get? x = some (PySem.W.instObj C dx)
  ns : h.Ns1 dx mA
  ne : dx ≠ x
theorem lookIn_ns {h : Heap} {dx : Addr} {mA : Str → Option Value} (n : h.Ns1 dx mA) : ∃ od, h.get? dx = some od ∧ ∀ name, PySem.W.lookIn name od = some (mA name) := by
  obtain ⟨o, es, ep, ho, hd, hk, _, hm⟩ := n
  refine ⟨o, ho, fun name => ?_⟩
  have e := hm name
  unfold nsFind findBy at e
  rw [← Array.find?_toList] at e
  unfold PySem.W.lookIn
  rw [hd]
  dsimp only
  split
  · rename_i y q
    rw [q] at e
    exact congrArg some e
  · rename_i q
    rw [q] at e
    have a : es.toList.any (·.refKey) = false := by
      rw [List.any_eq_false]
      intro y hy
      obtain ⟨z, t, hkey⟩ := hk y (Array.mem_toList_iff.mp hy)
      simp [DictEntry.refKey, hkey]
    have a' : ¬ es.toList.any (·.refKey) = true := by rw [a]; exact Bool.false_ne_true
    rw [if_neg a']
    exact congrArg some e
theorem ObjM.look {h : Heap} {x dx C : Addr} {mA : Str → Option Value} (I : ObjM h x dx C mA) : ∃ od, PySem.W.InstAt h x (PySem.W.instObj C dx) C (some od) ∧ ∀ name, PySem.W.lookIn name od = some (mA name) :=
  let ⟨od, ho, hl⟩ := lookIn_ns I.ns
  ⟨od, ⟨I.obj, rfl, rfl, ho⟩, hl⟩
section
variable {prog : Program} {w : World} {A : Around} {E : Value → Shared → Prop} {s : Shared} {K : PySem.W.Frag} {x dx C f : Addr} {mA : Str → Option Value} {name : Str} {v : Value}
end
section
variable {P : Program} {w : World} {H H' : Hp} {h h' : Heap} {a C dx : Addr} {fs fs' : List (Str × V)}
end
structure Cls (K : PySem.W.Frag) (C : Addr) : Prop where
  pg : PySem.W.plainGet K C Str.empty = true
  hd : PySem.W.hasDictIn K C = true
  po : PySem.W.plainOver K C = true
  sa : PySem.W.findIn K (.ref C) "__setattr__" = some (some (.builtin "object.__setattr__"))
theorem Cls.get {K : PySem.W.Frag} {C : Addr} (c : Cls K C) (f : Str) : PySem.W.plainGet K C f = true := c.pg
structure Con (K : PySem.W.Frag) (C : Addr) (f : Str) (v : V) (u : Value) : Prop where
  at_ : PySem.W.findIn K (.ref C) f = some (some u)
  rel : RelV v u
  get : PySem.W.specialIn K u "__get__" = some none
  cp : PySem.W.copiedNames.contains f = false
structure Meth (K : PySem.W.Frag) (C : Addr) (m : Str) (f : Addr) : Prop where
  at_ : PySem.W.findIn K (.ref C) m = some (some (.ref f))
  fn : PySem.W.isFn K (.ref f) = true
  kp : PySem.W.keepIn K (.ref f) = true
section
variable {X : Cx} {pins : List (Addr × Obj)} {σ : St} {H : Hp} {s : Shared} {a C dx : Addr} {fs : List (Str × V)} {f : Str} {v : V} {A : Around} {E : Value → Shared → Prop}
theorem Inv.made (I : Inv X pins σ H s) : Inv X pins σ (upd (upd H s.heap.objs.size (.own (s.heap.objs.size + 1))) (s.heap.objs.size + 1) (.ins C s.heap.objs.size []))
    { s with heap := (s.heap.push PySem.W.emptyDict).push (PySem.W.instObj C s.heap.objs.size) } := by
  have e1 : (s.heap.push PySem.W.emptyDict).get? s.heap.objs.size = some PySem.W.emptyDict := Heap.get?_push_size s.heap rfl
  have e2 : ((s.heap.push PySem.W.emptyDict).push (PySem.W.instObj C s.heap.objs.size)).get? (s.heap.objs.size + 1) = some (PySem.W.instObj C s.heap.objs.size) := by
    have := Heap.get?_push_size (s.heap.push PySem.W.emptyDict) (o := PySem.W.instObj C s.heap.objs.size) rfl
    rwa [Heap.size_push] at this
  have e3 : (s.heap.push PySem.W.emptyDict).Ns s.heap.objs.size (fun _ => none) := ⟨PySem.W.emptyDict, #[], _, e1, rfl, (fun e he => absurd he (by simp)), fun _ => rfl⟩
  have I1 := I.laid (a := s.heap.objs.size) (o := .own (s.heap.objs.size + 1)) (h' := s.heap.push PySem.W.emptyDict) (t' := s.toks) (fun b u q => Heap.get?_push_of_some _ q) (Nat.le_refl _) ⟨_, e1⟩
  refine I1.laid (a := s.heap.objs.size + 1) (o := .ins C s.heap.objs.size []) (t' := s.toks) (fun b u q => Heap.get?_push_of_some _ q) (Nat.le_of_eq (Heap.size_push _ _)) ?_
  have ne : s.heap.objs.size ≠ s.heap.objs.size + 1 := Nat.ne_of_lt (Nat.lt_succ_self _)
  refine ⟨by rw [upd_ne ne, upd_same], Nat.zero_le _, ne, e2, fun _ => none, (Heap.Ns1.of_empty e3).at fun o q => Heap.get?_push_of_some _ q, fun _ => True.intro, fun y hy => absurd rfl hy⟩
end
section
variable {X : Cx} {o e value : Expr} {f : Str} {pos pos' tpos : Pos} {ta tv : TE}
end
section
variable {X : Cx} {pins : List (Addr × Obj)} {σ : St} {H : Hp} {s : Shared} {A : Around} {E : Value → Shared → Prop} {Q : Value → Shared → Prop} {c : Value} {b : Bool}
inductive TyOf (K : PySem.W.Frag) (H : Hp) : V → Value → Prop where
  | non : TyOf K H .non (.type "NoneType")
  | bl (x : Bool) : TyOf K H (.bl x) (.type "bool")
  | int (i : Int) : TyOf K H (.int i) (.type "int")
  | str (x : Str) : TyOf K H (.str x) (.type "str")
  | flt (x : UInt64) : TyOf K H (.flt x) (.type "float")
  | lst {a : Addr} {xs : List V} (e : H a = some (.lst xs)) : TyOf K H (.ref a) (.type "list")
  | frz {a : Addr} {o : Obj} {xs : List V} (e : H a = some (.frz o (.lst xs))) : TyOf K H (.ref a) (.type "list")
  | tup {a : Addr} {xs : List V} (e : H a = some (.tup xs)) : TyOf K H (.ref a) (.type "tuple")
  | dK {a : Addr} {kvs : List (Key × V)} (e : H a = some (.dK kvs)) : TyOf K H (.ref a) (.type "dict")
  | dT {a : Addr} {kvs : List (List Key × V)} (e : H a = some (.dT kvs)) : TyOf K H (.ref a) (.type "dict")
  | ins {a C dx : Addr} {fs : List (Str × V)} (e : H a = some (.ins C dx fs)) (cl : Cls K C) (ha : PySem.W.findIn K (.ref C) "__class__" = some (some (.builtin "object.__class__")))
      (hn : PySem.W.specialIn K (.builtin "object.__class__") "__get__" = some (some (.builtin "getset_descriptor.__get__"))) (htk : PySem.W.takesIn K (.builtin "object.__class__") = some true)
      (hm : PySem.W.mroIn K C (.type "object") = some true) : TyOf K H (.ref a) (.ref C)
end
end L2
namespace L2
open PySem PySem.Spec PyProof.Rows
structure Room (k : Nat) (A : Around) : Prop where
  hd : A.handled = none
  dp : A.depth + 3 * k + 5 < recursionLimit
  un : A.units + 16 * k + 200 < cLine
theorem Room.mono {j k : Nat} {A : Around} (r : Room k A) (h : j ≤ k) : Room j A := ⟨r.hd, by have := r.dp; omega, by have := r.un; omega⟩
theorem Room.deeper {k : Nat} {A : Around} (r : Room (k + 1) A) (env : Env) : Room k (A.deeper env) :=
  ⟨r.hd, by have := r.dp; show A.depth + 1 + 3 * k + 5 < _; omega, by have := r.un; show A.units + 3 + 16 * k + 200 < _; omega⟩
theorem Room.in1 {k : Nat} {A : Around} (r : Room (k + 1) A) : Room k A.in1 :=
  ⟨r.hd, by have := r.dp; show A.depth + 3 * k + 5 < _; omega, by have := r.un; show A.units + 1 + 16 * k + 200 < _; omega⟩
theorem Room.depth {k : Nat} {A : Around} (r : Room k A) : A.depth < recursionLimit := by have := r.dp; omega
theorem Room.units {k : Nat} {A : Around} (r : Room k A) : A.units + 64 < cLine := by have := r.un; omega
def tNil : TA := fun _ H Q => Q [] H
def tCons (ta : TE) (tr : TA) : TA := fun σ H Q => ta σ H fun x H1 => tr σ H1 fun xs H2 => Q (x :: xs) H2
section
variable {X : Cx} {e : Expr} {es : List Expr} {te : TE} {t : TA} {pos : Pos}
theorem pa_nil : PA X [] tNil := fun _ _ _ _ H Q I h => Calls.spliced_nil ⟨[], H, I, .nil, h⟩
theorem pa_cons (ha : PE X e te) (hr : PA X es t) (hs : starEach (e :: es) X.env = (false, eval e X.env) :: starEach es X.env := by rfl) : PA X (e :: es) (tCons te t) := by
  intro pos pins s σ H Q I h
  rw [hs]
  show wpAny _ _ (spliced ((false, eval e X.env) :: backTo pos (starEach es X.env))) _ _ s
  refine Calls.spliced_cons (thn (ha pins s σ H _ I h) fun u s1 ⟨x, H1, I1, r1, q1⟩ => ?_)
  exact thn (hr pos pins s1 σ H1 _ I1 q1) fun us s2 ⟨xs, H2, I2, r2, q2⟩ => ⟨x :: xs, H2, I2, .cons r1 r2, q2⟩
def tLst (t : TA) : TE := fun σ H Q => t σ H fun xs H1 => xs.length ≤ sizeLine ∧ ∀ p, H1 p = none → Q (.ref p) (upd H1 p (.lst xs))
theorem pe_lst (h : PA X es t) : PE X (.List es pos) (tLst t) := by
  intro pins s σ H Q I hq
  refine wpAny_List_spliced (thn (h pos pins s σ H _ I hq) fun us s1 ⟨xs, H1, I1, r, z, q⟩ => ⟨by rw [← r.length]; exact z, ?_⟩)
  have hf : H1 s1.heap.objs.size = none := I1.hok.fresh (Nat.le_refl _)
  refine ⟨.ref s1.heap.objs.size, upd H1 s1.heap.objs.size (.lst xs), I1.laid (t' := s1.toks) (fun b u e => Heap.get?_push_of_some _ e) (Nat.le_refl _) ?_, rfl, q _ hf⟩
  exact ⟨z, us, 0, r, Heap.get?_push_size _ rfl⟩
end
abbrev Sp := List V → Hp → VK → XK → Prop
abbrev CXT := List Env → Hp → Shared → XK → Value → Shared → Prop
structure Env0 (P : Program) (w : World) (K : PySem.W.Frag) (mg : Str → Option Value) (base : Heap) (A : Around) (outer : List Env) (s : Shared) (H : Hp) : Prop where
  frames : A.frames = some outer
  mod : Mod K mg base
  bs : ∀ b o, base.get? b = some o → s.heap.get? b = some o ∧ H b = none
  bsz : base.objs.size ≤ s.heap.objs.size
  funs : s.heap.FunFrames base outer
  frf : ∀ b ∈ frs outer, H b = none
  hok : HOk P w H s.heap
  bare : AllBare s.gens
def CE (outer : List Env) (P : Program) (w : World) (H : Hp) (s : Shared) (Q : VK) (u : Value) (s' : Shared) : Prop :=
  ∃ v H', s'.os = s.os ∧ AllBare s'.gens ∧ Un (frs outer) [] H H' s.heap s'.heap ∧ HOk P w H' s'.heap ∧ RelV v u ∧ Q v H'
def CR (CX : CXT) (outer : List Env) (P : Program) (w : World) (H : Hp) (s : Shared) (Q : VK) (E : XK) (r : Result) (s' : Shared) : Prop :=
  match r with
  | .ok (.ret u) => CE outer P w H s Q u s'
  | .ok _ => False
  | .error e => CX outer H s E e s'
structure FnOk (P : Program) (w : World) (K : PySem.W.Frag) (mg : Str → Option Value) (base : Heap) (CX : CXT) (k : Nat) (f : Addr) (fd : FuncData) (ps : List Str) (sp : Sp) : Prop where
  len : ∀ vs H Q E, sp vs H Q E → vs.length = ps.length
  run : ∀ (A : Around) (outer : List Env) (s : Shared) (H : Hp) (args : Args) (us : List Value) (vs : List V) (Q : VK) (E : XK), Room k A → Env0 P w K mg base A outer s H → BindsTo s fd args (ps.zip us) → Vals vs us → sp vs H Q E →
    codeAny (model P w) A (.call (.ref f) args) (CR CX outer P w H s Q E) s
theorem FnOk.mono {P : Program} {w : World} {K : PySem.W.Frag} {mg : Str → Option Value} {base : Heap} {CX : CXT} {j k : Nat} {f : Addr} {fd : FuncData} {ps : List Str} {sp : Sp} (F : FnOk P w K mg base CX j f fd ps sp) (h : j ≤ k) :
    FnOk P w K mg base CX k f fd ps sp := ⟨F.len, fun A outer s H args us vs Q E hr => F.run A outer s H args us vs Q E (hr.mono h)⟩
theorem FnOk.imp {P : Program} {w : World} {K : PySem.W.Frag} {mg : Str → Option Value} {base : Heap} {CX : CXT} {k : Nat} {f : Addr} {fd : FuncData} {ps : List Str} {sp sp' : Sp} (F : FnOk P w K mg base CX k f fd ps sp)
    (h : ∀ vs H Q E, sp' vs H Q E → sp vs H Q E) : FnOk P w K mg base CX k f fd ps sp' :=
  ⟨fun vs H Q E q => F.len vs H Q E (h _ _ _ _ q), fun A outer s H args us vs Q E hr he hb hv hs => F.run A outer s H args us vs Q E hr he hb hv (h _ _ _ _ hs)⟩
theorem Env0.in1 {P : Program} {w : World} {K : PySem.W.Frag} {mg : Str → Option Value} {base : Heap} {A : Around} {outer : List Env} {s : Shared} {H : Hp} (e : Env0 P w K mg base A outer s H) :
    Env0 P w K mg base A.in1 outer s H := ⟨e.frames, e.mod, e.bs, e.bsz, e.funs, e.frf, e.hok, e.bare⟩
section
variable {X : Cx} {pins : List (Addr × Obj)} {σ : St} {H : Hp} {s s' : Shared}
theorem Inv.env0 (I : Inv X pins σ H s) : Env0 X.prog X.w X.K X.mg X.base X.A X.stack s H :=
  ⟨I.ok.frames, I.ok.mod, I.bs, Nat.le_trans I.ok.bsz I.sz, I.stack, I.stkFree, I.hok, I.bare⟩
theorem Inv.after {Q : VK} {u : Value} (I : Inv X pins σ H s) (h : CE X.stack X.prog X.w H s Q u s') : EP X pins σ Q u s' := by
  obtain ⟨v, H', os, bare, un, hok, r, q⟩ := h
  obtain ⟨hh, g, d, t, os'⟩ := s'
  obtain rfl : os' = s.os := os
  exact ⟨v, H', I.call (h' := hh) (g' := g) (d' := d) (t' := t) (ch := []) un hok bare (fun b z => absurd z (by simp)), r, q⟩
end
def tCall (sp : Sp) (dvs : List V) (E : XK) (t : TA) : TE := fun σ H Q => t σ H fun vs H1 => sp (vs ++ dvs) H1 Q E
def Binds (K : PySem.W.Frag) (fd : FuncData) (ps : List Str) (ds : List Value) : Prop :=
  ∀ (s : Shared) (us : List Value), K.In s.heap → (us ++ ds).length = ps.length → BindsTo s fd ⟨us, []⟩ (ps.zip (us ++ ds))
theorem Binds.all {K : PySem.W.Frag} {fd : FuncData} {ps : List Str} (h : ∀ us : List Value, us.length = ps.length → bindArgs fd ⟨us, []⟩ = pure (ps.zip us)) : Binds K fd ps [] := fun s us _ hl => by
  rw [List.append_nil] at hl ⊢
  exact .of_eq (h us hl)
def Passes (CX : CXT) (X : Cx) (E : XK) : Prop := ∀ (pins : List (Addr × Obj)) (σ : St) (H : Hp) (s : Shared) (e : Value) (s' : Shared), Inv X pins σ H s → CX X.stack H s E e s' → X.xe e s'
section
variable {X : Cx} {CX : CXT} {k : Nat} {f C : Addr} {fd : FuncData} {ps : List Str} {sp : Sp} {dvs : List V} {ds : List Value} {E : XK} {x m : Str} {p pos apos : Pos} {e o : Expr} {es : List Expr} {ta : TE} {t : TA}
theorem run_fn {pins : List (Addr × Obj)} {σ : St} {H : Hp} {s : Shared} {Q : VK} {us : List Value} {vs : List V} (F : FnOk X.prog X.w X.K X.mg X.base CX k f fd ps sp) (hr : Room k X.A) (hb : Binds X.K fd ps ds) (hd : Vals dvs ds) (hx : Passes CX X E)
    (I : Inv X pins σ H s) (r : Vals vs us) (h : sp (vs ++ dvs) H Q E) : wpAny (model X.prog X.w) X.A (call (.ref f) us) (EP X pins σ Q) X.xe s := by
  have r2 : Vals (vs ++ dvs) (us ++ ds) := r.append hd
  have hl : (us ++ ds).length = ps.length := by rw [← r2.length]; exact F.len _ _ _ _ h
  refine wpAny_call (codeAny_mono (F.run X.A X.stack s H ⟨us, []⟩ (us ++ ds) (vs ++ dvs) Q E hr I.env0 (hb s us I.kIn hl) r2 h) fun r s' hq => ?_)
  cases r with
  | error e => exact hx pins σ H s e s' I hq
  | ok fl =>
    cases fl with
    | ret u => exact I.after hq
    | next => exact False.elim hq
    | brk => exact False.elim hq
    | cont => exact False.elim hq
theorem pe_call (F : FnOk X.prog X.w X.K X.mg X.base CX k f fd ps sp) (hr : Room k X.A) (hg : Gl X x) (hm : X.mg x = some (.ref f)) (hk : PySem.W.keepIn X.K (.ref f) = true) (hb : Binds X.K fd ps ds) (hd : Vals dvs ds) (hx : Passes CX X E)
    (ha : PA X (e :: es) t) (hdb : (x == ("__debug__" : Str)) = false := by decide) (he : starEach (e :: es) X.env = (false, eval e X.env) :: starEach es X.env := by rfl) (hpl : (backTo pos (starEach es X.env)).any (·.1) = false := by rfl) :
    PE X (.Call (.Name x p) (e :: es) [] pos) (tCall sp dvs E t) := by
  intro pins s σ H Q I h
  refine wpAny_Call_Name_kw (ld_glob I hg hm ?_ hdb)
  refine PySem.W.callWith_K (h₀ := X.base) I.ok.mod.kin hk (thn (ha pos pins s σ H _ I h) fun us s1 ⟨vs, H1, I1, r, q⟩ => ⟨I1.kIn, ?_⟩) he hpl
  exact run_fn F hr hb hd hx I1 r q
structure Mk (K : PySem.W.Frag) (C f : Addr) : Prop where
  makes : PySem.W.makesIn K C = true
  init : PySem.W.findIn K (.ref C) "__init__" = some (some (.ref f))
  fn : PySem.W.isFn K (.ref f) = true
  kp : PySem.W.keepIn K (.ref C) = true
end
section
variable {X : Cx} {CX : CXT} {k : Nat} {f C : Addr} {fd : FuncData} {ps ks : List Str} {sp : Sp} {E : XK} {x m : Str} {p pos apos kpos : Pos} {e o : Expr} {es : List Expr} {kws : List Keyword} {te ta : TE} {t tk : TA} {nm : Option Str}
structure KBinds (K : PySem.W.Frag) (fd : FuncData) (ps ks : List Str) (g : List Value → List Value → List Value) (gV : List V → List V → List V) : Prop where
  to : ∀ (s : Shared) (us ws : List Value), K.In s.heap → (g us ws).length = ps.length → BindsTo s fd ⟨us, ks.zip ws⟩ (ps.zip (g us ws))
  rel : ∀ {vs : List V} {us : List Value} {zs : List V} {ws : List Value}, Vals vs us → Vals zs ws → Vals (gV vs zs) (g us ws)
variable {g : List Value → List Value → List Value} {gV : List V → List V → List V}
end
structure FnScope (N P : List Str) (sc : Scope) : Prop where
  kind : sc.kind = .function
  co : sc.isCoroutine = false
  gen : sc.isGenerator = false
  nd : N.Nodup
  pre : N.take P.length = P
  par : ∀ x ∈ P, sc.names.lookup x = some .local ∨ sc.names.lookup x = some .cell
  nofree : ∀ y ∈ sc.names, y.2 ≠ .free
theorem bindL_out {kindOf : Str → Option NameKind} {x : Str} : ∀ {binds : List (Str × Value)} {m : Str → Option Value}, (∀ v, (x, v) ∉ binds) → bindL kindOf binds m x = m x
  | [], _, _ => rfl
  | (n, v) :: r, m, h => by
    unfold bindL
    rw [bindL_out fun w hw => h w (List.mem_cons_of_mem _ hw)]
    split
    · have : x ≠ n := by rintro rfl; exact h v List.mem_cons_self
      simp [this]
    · rfl
theorem bindC_out {kindOf : Str → Option NameKind} {x : Str} : ∀ {binds : List (Str × Value)} {m : Str → Option Value}, (∀ v, (x, v) ∉ binds) → bindC kindOf binds m x = m x
  | [], _, _ => rfl
  | (n, v) :: r, m, h => by
    unfold bindC
    rw [bindC_out fun w hw => h w (List.mem_cons_of_mem _ hw)]
    split
    · rfl
    · have : x ≠ n := by rintro rfl; exact h v List.mem_cons_self
      simp [this]
theorem bindL_get {kindOf : Str → Option NameKind} {x : Str} {v : Value} : ∀ {P : List Str} {vs : List Value} {i : Nat} {m : Str → Option Value}, P.Nodup → P[i]? = some x → vs[i]? = some v → kindOf x = some .local →
    bindL kindOf (P.zip vs) m x = some v
  | [], _, _, _, _, h, _, _ => by simp at h
  | _ :: _, [], _, _, _, _, h, _ => by simp at h
  | p :: P, w :: vs, 0, m, nd, h1, h2, hk => by
    simp at h1 h2; subst h1; subst h2
    show bindL kindOf ((p, w) :: P.zip vs) m p = _
    unfold bindL
    rw [bindL_out fun v hv => (List.nodup_cons.mp nd).1 (List.of_mem_zip hv).1, if_pos hk]
    simp
  | p :: P, w :: vs, i + 1, m, nd, h1, h2, hk => by
    show bindL kindOf ((p, w) :: P.zip vs) m x = _
    unfold bindL
    exact bindL_get (i := i) (List.nodup_cons.mp nd).2 (by simpa using h1) (by simpa using h2) hk
theorem bindC_get {kindOf : Str → Option NameKind} {x : Str} {v : Value} : ∀ {P : List Str} {vs : List Value} {i : Nat} {m : Str → Option Value}, P.Nodup → P[i]? = some x → vs[i]? = some v → kindOf x ≠ some .local →
    bindC kindOf (P.zip vs) m x = some v
  | [], _, _, _, _, h, _, _ => by simp at h
  | _ :: _, [], _, _, _, _, h, _ => by simp at h
  | p :: P, w :: vs, 0, m, nd, h1, h2, hk => by
    simp at h1 h2; subst h1; subst h2
    show bindC kindOf ((p, w) :: P.zip vs) m p = _
    unfold bindC
    rw [bindC_out fun v hv => (List.nodup_cons.mp nd).1 (List.of_mem_zip hv).1, if_neg hk]
    simp
  | p :: P, w :: vs, i + 1, m, nd, h1, h2, hk => by
    show bindC kindOf ((p, w) :: P.zip vs) m x = _
    unfold bindC
    exact bindC_get (i := i) (List.nodup_cons.mp nd).2 (by simpa using h1) (by simpa using h2) hk
def start (N : List Str) (vs : List V) : St := vs.map some ++ List.replicate (N.length - vs.length) none
def cxOf (CX : CXT) (P : Program) (w : World) (K : PySem.W.Frag) (mg : Str → Option Value) (base : Heap) (N : List Str) (qual : Str) (scope : Scope) (f : Addr) (cd : Value) (A : Around) (outer : List Env) (s : Shared) (H : Hp) (E : XK) : Cx where
  prog := P
  w := w
  K := K
  mg := mg
  base := base
  A := A.deeper (envOfC qual scope s.heap.objs.size f cd)
  N := N
  s₀ := s
  H₀ := H
  env := envOfC qual scope s.heap.objs.size f cd
  outer := outer
  stack := envOfC qual scope s.heap.objs.size f cd :: outer
  ex := []
  calm := true
  fn := fun _ => true
  pn := []
  xe := fun e s' => wpAny (model P w) (A.deeper (envOfC qual scope s.heap.objs.size f cd)) (leaving (envOfC qual scope s.heap.objs.size f cd) e) (fun _ s'' => CX outer H s E e s'') (fun e' s'' => CX outer H s E e' s'') s'
theorem cell_has {sc : Scope} {n : Nat} {x : Str} (h : sc.names.lookup x = some .cell) : ∃ c, (cellsFrom n sc.names []).lookup x = some c := by
  have q := PySem.W.cellsFrom_some sc.names n [] (.inl h)
  exact Option.isSome_iff_exists.mp q
theorem inv_start {CX : CXT} {P : Program} {w : World} {K : PySem.W.Frag} {mg : Str → Option Value} {base : Heap} {N ps : List Str} {qual : Str} {scope : Scope} {f : Addr} {cd : Value} {A : Around} {outer : List Env} {s s1 : Shared} {H : Hp} {E : XK} {us : List Value} {vs : List V}
    (S : FnScope N ps scope) (hd : A.handled = none) (e0 : Env0 P w K mg base A outer s H) (hl : vs.length = ps.length) (r : Vals vs us)
    (x : InCallC s s.heap.objs.size (bindL (envOfC qual scope s.heap.objs.size f cd).kindOf (ps.zip us) fun _ => none) (cellsFrom (s.heap.objs.size + 1) scope.names []) (bindC (envOfC qual scope s.heap.objs.size f cd).kindOf (ps.zip us) fun _ => none) s1) :
    Inv (cxOf CX P w K mg base N qual scope f cd A outer s H E) [] (start N vs) H s1 := by
  have hpl : ps.length ≤ N.length := by have := congrArg List.length S.pre; rw [List.length_take] at this; omega
  obtain ⟨h1, tk, rfl, hk⟩ := x.done
  have noA : ∀ b : Addr, b ∉ (cxOf CX P w K mg base N qual scope f cd A outer s H E).ex := fun b z => absurd (show b ∈ ([] : List Addr) from z) (by simp)
  refine ⟨⟨e0.mod, S.kind, rfl, rfl, Nat.le_refl _, fun y z c h1 h2 => ?_, fun y hy => ?_, fun y c _ h => ?_, fun _ => hd, Around.frames_deeper e0.frames, .inr ⟨rfl, rfl⟩, fun b z => absurd z (noA b), e0.bs, e0.bsz, fun b _ _ => noA b, fun b z => absurd z (noA b), e0.funs, e0.frf⟩,
    rfl, e0.bare, Un.kept hk, ⟨_, x.toInCall.ns, fun i y v h1 h2 h3 => ?_⟩, fun y c h => ⟨_, x.cell y c h⟩, e0.hok.fresh (Nat.le_refl _), fun y c h => ?_, fun p hp => absurd (show p ∈ ([] : List (Addr × Obj)) from hp) (by simp), e0.hok.kept hk, ?_⟩
  · exact name_of_addr x.apart (PySem.mem_of_lookup h1) (PySem.mem_of_lookup h2)
  · have hy : scope.names.lookup y = some .cell ∨ scope.names.lookup y = some .free := hy
    rcases hy with hy | hy
    · exact cell_has hy
    · exact absurd rfl (S.nofree _ (PySem.mem_of_lookup hy))
  · exact Nat.le_of_lt (x.above y c (PySem.mem_of_lookup h))
  · have hi : i < vs.length := by
      unfold start at h2
      by_cases hi : i < vs.length
      · exact hi
      · rw [List.getElem?_append_right (by simpa using hi)] at h2
        rw [List.getElem?_replicate] at h2
        split at h2 <;> cases h2
    have ha : vs[i]? = some v := by
      unfold start at h2
      rw [List.getElem?_append_left (by simpa using hi), List.getElem?_map] at h2
      cases e : vs[i]? with
      | none => rw [e] at h2; cases h2
      | some a => rw [e] at h2; cases h2; rfl
    obtain ⟨u, hu, rv⟩ := r.get ha
    have hp : ps[i]? = some y := by
      rw [← S.pre, List.getElem?_take_of_lt (by omega)]; exact h1
    have ndP : ps.Nodup := by rw [← S.pre]; exact S.nd.sublist (List.take_sublist _ _)
    refine ⟨u, rv, ?_⟩
    rcases S.par y (List.mem_of_getElem? hp) with k | k
    · exact .inl ⟨k, bindL_get ndP hp hu k⟩
    · obtain ⟨c, e⟩ := cell_has (n := s.heap.objs.size + 1) k
      refine .inr ⟨.inl k, c, e, ?_⟩
      have q := x.cell y c e
      rw [bindC_get ndP hp hu (by show scope.names.lookup y ≠ _; rw [k]; decide)] at q
      exact q
  · exact e0.hok.fresh (Nat.le_of_lt (x.above y c (PySem.mem_of_lookup h)))
  · unfold start
    show _ = N.length
    rw [List.length_append, List.length_map, List.length_replicate]
    omega
theorem fn_of {CX : CXT} {P : Program} {w : World} {K : PySem.W.Frag} {mg : Str → Option Value} {base : Heap} {k : Nat} {f : Addr} {name qual : Str} {params : Arguments} {body : List Stmt} {scope : Scope} {dV kV doc pm cdv ct oc : Value} {an od : Option Addr}
    {osl : Array (Option Value)} {N ps : List Str} {sp : Sp} (lk : K.lookup f = some ⟨oc, od, .func (PySem.W.fnOf name qual params body scope dV kV doc pm an cdv ct), osl⟩) (hcd : PySem.W.codeIn K cdv qual = true) (S : FnScope N ps scope)
    (len : ∀ vs H Q E, sp vs H Q E → vs.length = ps.length)
    (hbody : ∀ (A : Around) (outer : List Env) (s : Shared) (H : Hp) (vs : List V) (Q : VK) (E : XK), Room k (A.deeper (envOfC qual scope s.heap.objs.size f cdv)) → sp vs H Q E →
      ∃ t, PSs (cxOf CX P w K mg base N qual scope f cdv A outer s H E) body t ∧ t { nx := fun _ H' => Q .non H', rt := Q } (start N vs) H) :
    FnOk P w K mg base CX (k + 1) f (PySem.W.fnOf name qual params body scope dV kV doc pm an cdv ct) ps sp := by
  refine ⟨len, fun A outer s H args us vs Q E hr e0 hb r hsp => ?_⟩
  have hl := len _ _ _ _ hsp
  have KX : K.In s.heap := e0.mod.kin.keeps fun b o e => (e0.bs b o e).1
  have lim : s.heap.NoLimit := e0.mod.nolimit.keeps fun b o e => (e0.bs b o e).1
  have hkind : ∀ y ∈ ps.zip us, scope.names.lookup y.1 = some .local ∨ (scope.names.lookup y.1 = some .cell ∧ ((cellsFrom (s.heap.objs.size + 1) scope.names []).lookup y.1).isSome = true) := fun ⟨n, v⟩ hy => by
    rcases S.par n (List.of_mem_zip hy).1 with q | q
    · exact .inl q
    · exact .inr ⟨q, PySem.W.cellsFrom_some _ _ _ (.inl q)⟩
  refine codeAny_call_function hr.depth (KX _ _ lk) rfl S.co S.gen rfl (PySem.W.codeRec_of KX hcd) (hb _ _ _ _ ?_)
  refine wpAny_newFunctionEnv_cells S.kind hkind fun env he s1 x => ?_
  subst he
  refine ⟨lim.keeps x.toInCall.keep, codeAny_func ?_⟩
  obtain ⟨t, ht, hq⟩ := hbody A outer s H vs Q E (hr.deeper _) hsp
  have I : Inv (cxOf CX P w K mg base N qual scope f cdv A outer s H E) [] (start N vs) H s1 := inv_start S hr.hd e0 hl r x
  refine wpAny_mono (ht [] s1 (start N vs) H _ I hq) (fun fl s' hs => ?_) fun e s' hs => hs
  have fin : ∀ {σ' : St} {H' : Hp} {v : V} {u : Value}, Inv (cxOf CX P w K mg base N qual scope f cdv A outer s H E) [] σ' H' s' → RelV v u → Q v H' → CE outer P w H s Q u s' :=
    fun {σ' H' v u} J rv q => ⟨v, H', J.os, J.bare, J.base, J.hok, rv, q⟩
  cases fl with
  | ret u =>
    obtain ⟨v, σ', H', J, rv, q⟩ := hs
    exact fin J rv q
  | next =>
    obtain ⟨σ', H', J, q⟩ := hs
    exact fin (v := V.non) (u := Value.none) J rfl q
  | brk =>
    obtain ⟨_, _, _, q⟩ := hs
    exact False.elim q
  | cont =>
    obtain ⟨_, _, _, q⟩ := hs
    exact False.elim q
end L2
namespace L2
open PySem PySem.Spec PyProof.Rows
section
variable {X : Cx} {x : Str} {p pos : Pos} {e : Expr} {es : List Expr} {t : TA} {id T : String} {r : List V → Hp → VK → Prop}
def tCB (r : List V → Hp → VK → Prop) (t : TA) : TE := fun σ H Q => t σ H fun vs H1 => r vs H1 Q
theorem pe_callB (hc : CallR X (.builtin id) r) (hg : Gl X x) (hm : X.mg x = none) (hv : bootBuiltins x = some (.builtin id)) (ha : PA X (e :: es) t) (hn : x ≠ "__name__" := by decide) (hdb : (x == ("__debug__" : Str)) = false := by decide)
    (he : starEach (e :: es) X.env = (false, eval e X.env) :: starEach es X.env := by rfl) (hpl : (backTo pos (starEach es X.env)).any (·.1) = false := by rfl) : PE X (.Call (.Name x p) (e :: es) [] pos) (tCB r t) := by
  intro pins s σ H Q I h
  refine wpAny_Call_Name_kw (ld_blt I hg hm hv ?_ hn hdb)
  exact PyProof.Rows.callWith_builtin1 (thn (ha pos pins s σ H _ I h) fun us s1 ⟨vs, H1, I1, r1, q1⟩ => hc pins s1 σ H1 vs us Q I1 r1 q1) he hpl
theorem pe_callTy (hc : CallR X (.type T) r) (hg : Gl X x) (hm : X.mg x = none) (hv : bootBuiltins x = some (.type T)) (ha : PA X (e :: es) t) (hn : x ≠ "__name__" := by decide) (hdb : (x == ("__debug__" : Str)) = false := by decide)
    (he : starEach (e :: es) X.env = (false, eval e X.env) :: starEach es X.env := by rfl) (hpl : (backTo pos (starEach es X.env)).any (·.1) = false := by rfl) : PE X (.Call (.Name x p) (e :: es) [] pos) (tCB r t) := by
  intro pins s σ H Q I h
  refine wpAny_Call_Name_kw (ld_blt I hg hm hv ?_ hn hdb)
  exact PyProof.Rows.callWith_type1 (thn (ha pos pins s σ H _ I h) fun us s1 ⟨vs, H1, I1, r1, q1⟩ => hc pins s1 σ H1 vs us Q I1 r1 q1) he hpl
end
end L2
namespace HT
open PySem PyProof.Rows
def lexLt : List Int → List Int → Bool
  | [], [] => false
  | [], _ :: _ => true
  | _ :: _, [] => false
  | x :: xs, y :: ys => if x = y then lexLt xs ys else decide (x < y)
theorem lexLt_cons (x y : Int) (xs ys : List Int) : lexLt (x :: xs) (y :: ys) = if x = y then lexLt xs ys else decide (x < y) := rfl
theorem eqAt_int (A : Around) (s : Shared) (a : Int) (t : Tok) (c : Int) (u : Tok) : ∃ e, SeqAt.EqAt A s (.int a t) (.int c u) e ∧ (e = true ↔ a = c) :=
  ⟨(a == c), SeqAt.EqAt.int_int a t c u, by simp⟩
theorem rcLt_int (A : Around) (s : Shared) (a : Int) (t : Tok) (c : Int) (u : Tok) (prog : Program) (w : World) (E : Value → Shared → Prop) (Q : Value → Shared → Prop) (h : Q (.bool (decide (a < c))) s) :
    wpAny (model prog w) A (richCompare .Lt (.int a t) (.int c u)) Q E s :=
  (PyProof.Rows.lt_int h : wpAny (model prog w) A (compareOp .Lt (.int a t) (.int c u)) Q E s)
section
open PySem.SeqAt
open PySem.AutoSeq1 (wpAny_loadPart')
open PySem.MeetsSeq PySem.MeetsSeq2 PySem.MeetsSeq3
end
section
variable {prog : Program} {w : World} {A : Around} {E : Value → Shared → Prop} {s : Shared}
def sIx (n d : Nat) : Option Int → Nat
  | none => d
  | some v => if v < 0 then (v + (n : Int)).toNat else min v.toNat n
theorem sIx_none (n d : Nat) : sIx n d none = d := rfl
theorem sIx_nat (n d k : Nat) : sIx n d (some (k : Int)) = min k n := by
  show (if (k : Int) < 0 then ((k : Int) + (n : Int)).toNat else min (k : Int).toNat n) = min k n
  rw [if_neg (by omega), Int.toNat_natCast]
end
end HT
namespace L2
open PySem PySem.Spec PyProof.Rows
abbrev TO := St → Hp → (Option Int → Hp → Prop) → Prop
def PO (X : Cx) (e : Option Expr) (t : TO) : Prop :=
  ∀ (pins : List (Addr × Obj)) (s : Shared) (σ : St) (H : Hp) (Q : Option Int → Hp → Prop), Inv X pins σ H s → t σ H Q →
    wpAny (model X.prog X.w) X.A (evalPart e X.env) (fun u s' => ∃ o H', Inv X pins σ H' s' ∧ IsPart u o ∧ Q o H') X.xe s
def tNoPart : TO := fun _ H Q => Q none H
def tPart (t : TE) : TO := fun σ H Q => t σ H fun x H1 => ∃ i, x = .int i ∧ Q (some i) H1
section
variable {X : Cx} {e : Expr} {te : TE} {lo hi : Option Expr} {tl th : TO} {pos p2 : Pos}
theorem po_none : PO X none tNoPart := by
  intro pins s σ H Q I h
  rw [evalPart_none]
  exact wpAny_pure ⟨none, H, I, .none, h⟩
theorem po_some (h : PE X e te) : PO X (some e) (tPart te) := by
  intro pins s σ H Q I hw
  rw [evalPart_some]
  refine thn (h pins s σ H _ I hw) fun u s1 ⟨x, H1, I1, r1, q1⟩ => ?_
  obtain ⟨i, rfl, q⟩ := q1
  obtain ⟨t, rfl⟩ := r1
  exact ⟨some i, H1, I1, .int i t, q⟩
def SlR (X : Cx) (r : V → Option Int → Option Int → Hp → VK → Prop) : Prop :=
  ∀ (pins : List (Addr × Obj)) (s : Shared) (σ : St) (H : Hp) (x : V) (v vl vu : Value) (lo hi : Option Int) (sl : Addr) (Q : VK), Inv X pins σ H s → RelV x v → s.heap.IsSliceOf sl vl vu .none → IsPart vl lo → IsPart vu hi → r x lo hi H Q →
    ∃ T id, typeLookup (.type T) "__getitem__" = pure (some (.builtin id)) ∧ s.TypeIs v T ∧ wpAny (model X.prog X.w) X.A (getItem v (.ref sl)) (EP X pins σ Q) X.xe s
theorem SlR.or {r r' : V → Option Int → Option Int → Hp → VK → Prop} (h : SlR X r) (h' : SlR X r') : SlR X (fun x lo hi H Q => r x lo hi H Q ∨ r' x lo hi H Q) := by
  intro pins s σ H x v vl vu lo hi sl Q I rx hs pl pu q
  rcases q with q | q
  · exact h pins s σ H x v vl vu lo hi sl Q I rx hs pl pu q
  · exact h' pins s σ H x v vl vu lo hi sl Q I rx hs pl pu q
def tSl (r : V → Option Int → Option Int → Hp → VK → Prop) (te : TE) (tl th : TO) : TE := fun σ H Q => te σ H fun x H1 => tl σ H1 fun l H2 => th σ H2 fun u H3 => r x l u H3 Q
theorem pe_slice {r : V → Option Int → Option Int → Hp → VK → Prop} (hr : SlR X r) (he : PE X e te) (hl : PO X lo tl) (hu : PO X hi th) : PE X (.Subscript e (.Slice lo hi none p2) pos) (tSl r te tl th) := by
  intro pins s σ H Q I h
  refine Subscript_ (thn (he pins s σ H _ I h) fun v s1 ⟨x, H1, I1, r1, q1⟩ => ?_)
  refine wpAny_Slice (thn (hl pins s1 σ H1 _ I1 q1) fun vl s2 ⟨l, H2, I2, pl, q2⟩ => thn (hu pins s2 σ H2 _ I2 q2) fun vu s3 ⟨u, H3, I3, pu, q3⟩ => ?_)
  rw [evalPart_none]
  refine wpAny_pure ?_
  have I4 : Inv X pins σ H3 { s3 with heap := s3.heap.push { cls := .type "slice", data := .fields #[vl, vu, .none] } } := I3.kept (t' := s3.toks) fun b ob q => Heap.get?_push_of_some _ q
  obtain ⟨T, id, hT, ht, hg⟩ := hr pins { s3 with heap := s3.heap.push { cls := .type "slice", data := .fields #[vl, vu, .none] } } σ H3 x v vl vu l u s3.heap.objs.size Q I4 r1 (Heap.IsSliceOf.new ..) pl pu q3
  show wpAny (model X.prog X.w) X.A (subscriptTail e (.Slice lo hi none p2) v (.ref s3.heap.objs.size)) (EP X pins σ Q) X.xe { s3 with heap := s3.heap.push { cls := .type "slice", data := .fields #[vl, vu, .none] } }
  exact tail_any (ops := [.ref s3.heap.objs.size, v]) ht hT hg (by with_unfolding_all rfl)
def cutV (xs : List V) (lo hi : Option Int) : List V := (xs.drop (HT.sIx xs.length 0 lo)).take (HT.sIx xs.length xs.length hi - HT.sIx xs.length 0 lo)
theorem cutV_length (xs : List V) (lo hi : Option Int) : (cutV xs lo hi).length ≤ xs.length := by
  unfold cutV
  rw [List.length_take, List.length_drop]
  omega
end
end L2
namespace L2
open PySem PySem.Spec PyProof.Rows
def ixN (n : Nat) (i : Int) : Option Nat := if 0 ≤ i then (if i < n then some i.toNat else none) else if -(n : Int) ≤ i then some (i + n).toNat else none
def atI {α : Type} (xs : List α) (i : Int) : Option α := (ixN xs.length i).bind fun j => xs[j]?
theorem ixN_seq {n : Nat} {i : Int} {j : Nat} (h : ixN n i = some j) : seqIndex? i n = some j ∧ j < n ∧ -(n : Int) ≤ i ∧ i < n := by
  unfold ixN at h
  by_cases h0 : 0 ≤ i
  · rw [if_pos h0] at h
    by_cases h1 : i < n
    · rw [if_pos h1] at h
      have e : i.toNat = j := Option.some.inj h
      exact ⟨by rw [seqIndex_of h0 h1, e], by omega, by omega, h1⟩
    · rw [if_neg h1] at h; cases h
  · rw [if_neg h0] at h
    by_cases h1 : -(n : Int) ≤ i
    · rw [if_pos h1] at h
      have e : (i + n).toNat = j := Option.some.inj h
      exact ⟨by rw [seqIndex_neg (by omega) h1, e], by omega, h1, by omega⟩
    · rw [if_neg h1] at h; cases h
theorem atI_get {α : Type} {xs : List α} {i : Int} {v : α} (h : atI xs i = some v) : ∃ j, seqIndex? i xs.length = some j ∧ xs[j]? = some v ∧ j < xs.length ∧ -(xs.length : Int) ≤ i ∧ i < xs.length := by
  unfold atI at h
  cases e : ixN xs.length i with
  | none => rw [e] at h; cases h
  | some j =>
    rw [e] at h
    obtain ⟨h1, h2, h3, h4⟩ := ixN_seq e
    exact ⟨j, h1, h, h2, h3, h4⟩
def PlainIx (b : Expr) : Prop := ∀ o i, subscripted b false o i = operate [o, i] (getItem o i)
def IxR (X : Cx) (r : R2) : Prop :=
  ∀ (value slice : Expr) (pins : List (Addr × Obj)) (s : Shared) (σ : St) (H : Hp) (x y : V) (v u : Value) (Q : VK), Inv X pins σ H s → RelV x v → RelV y u → r x y H Q →
    subscripted slice false v u = operate [v, u] (getItem v u) → wpAny (model X.prog X.w) X.A (subscriptTail value slice v u) (EP X pins σ Q) X.xe s
def MtR (X : Cx) (id : String) (r : V → List V → Hp → VK → Prop) : Prop :=
  ∀ (pins : List (Addr × Obj)) (s : Shared) (σ : St) (H : Hp) (x : V) (xs : List V) (v : Value) (us : List Value) (Q : VK), Inv X pins σ H s → RelV x v → Vals xs us → r x xs H Q →
    wpAny (model X.prog X.w) X.A (call (.builtin id) (v :: us)) (EP X pins σ Q) X.xe s
section
variable {X : Cx} {a b : Expr} {ta tb : TE} {pos : Pos}
theorem IxR.or {r r' : R2} (h : IxR X r) (h' : IxR X r') : IxR X (fun x y H Q => r x y H Q ∨ r' x y H Q) := by
  intro value slice pins s σ H x y v u Q I rx ry q hs
  rcases q with q | q
  · exact h value slice pins s σ H x y v u Q I rx ry q hs
  · exact h' value slice pins s σ H x y v u Q I rx ry q hs
theorem MtR.or {id : String} {r r' : V → List V → Hp → VK → Prop} (h : MtR X id r) (h' : MtR X id r') : MtR X id (fun x xs H Q => r x xs H Q ∨ r' x xs H Q) := by
  intro pins s σ H x xs v us Q I rx rs q
  rcases q with q | q
  · exact h pins s σ H x xs v us Q I rx rs q
  · exact h' pins s σ H x xs v us Q I rx rs q
theorem pe_ix {r : R2} (hr : IxR X r) (ha : PE X a ta) (hb : PE X b tb) (hs : PlainIx b) : PE X (.Subscript a b pos) (tOp r ta tb) := by
  intro pins s σ H Q I h
  exact Subscript_ (binT ha hb I h fun v u s2 x y H2 I2 rx ry q => hr a b pins s2 σ H2 x y v u Q I2 rx ry q (hs _ _))
def rIxL (K : PySem.W.Frag) : R2 := fun x y H Q => ∃ p xs i v, x = .ref p ∧ y = .int i ∧ SqL K H p xs ∧ atI xs i = some v ∧ Q v H
def rIxT (K : PySem.W.Frag) : R2 := fun x y H Q => ∃ p xs i v, x = .ref p ∧ y = .int i ∧ SqT K H p xs ∧ atI xs i = some v ∧ Q v H
def rIxS : R2 := fun x y H Q => ∃ z i c, x = .str z ∧ y = .int i ∧ z.length ≤ sizeLine ∧ atI z.cps.toList i = some c ∧ Q (.str ⟨#[c]⟩) H
theorem ix_list : IxR X (rIxL X.K) := by
  intro value slice pins s σ H x y v u Q I rx ry h hs
  obtain ⟨p, xs, i, z, rfl, rfl, hq, he, q⟩ := h
  cases rx
  obtain ⟨t, rfl⟩ := ry
  obtain ⟨its, r, pl, hz⟩ := I.list hq
  obtain ⟨j, h1, h2, h3, h4, h5⟩ := atI_get he
  obtain ⟨w, ew, rw'⟩ := r.get h2
  have hl := r.length
  have hn := line63
  have fin : EP X pins σ Q w s := ⟨z, H, I, rw', q⟩
  by_cases h0 : 0 ≤ i
  · have hj : i.toNat = j := by
      rw [seqIndex_of h0 h5] at h1
      exact Option.some.inj h1
    exact item_listR pl.isList h0 (by omega) (by rw [hj]; simpa using ew) fin hs
  · have hj : (i + (its.toArray.size : Int)).toNat = j := by
      rw [seqIndex_neg (by omega) h4] at h1
      rw [List.size_toArray, ← hl]
      exact Option.some.inj h1
    exact subscriptTail_builtinR (x := w) pl.isList.typeIs slot_list_getitem.lookup
      (wpAny_getItem_list_neg (Q := fun r s' => r = w ∧ EP X pins σ Q r s') pl.isList (by omega) (by rw [List.size_toArray] <;> omega) (by omega) (by rw [hj]; simpa using ew) ⟨rfl, fin⟩) hs
theorem ix_tup : IxR X (rIxT X.K) := by
  intro value slice pins s σ H x y v u Q I rx ry h hs
  obtain ⟨p, xs, i, z, rfl, rfl, hq, he, q⟩ := h
  cases rx
  obtain ⟨t, rfl⟩ := ry
  obtain ⟨its, r, pl, hz⟩ := I.tuple hq
  obtain ⟨j, h1, h2, h3, h4, h5⟩ := atI_get he
  obtain ⟨w, ew, rw'⟩ := r.get h2
  have hl := r.length
  have hn := line63
  have fin : EP X pins σ Q w s := ⟨z, H, I, rw', q⟩
  exact subscriptTail_builtinR (x := w) pl.typeIs slot_tuple_getitem.lookup
    (getItem_tuple (j := j) (Q := fun r s' => r = w ∧ EP X pins σ Q r s') pl (by omega) (by omega) (by rw [List.size_toArray, ← hl]; exact h1) (by simpa using ew) ⟨rfl, fin⟩) hs
theorem ix_str : IxR X rIxS := by
  intro value slice pins s σ H x y v u Q I rx ry h hs
  obtain ⟨z, i, c, rfl, rfl, hz, he, q⟩ := h
  obtain ⟨t, rfl⟩ := rx
  obtain ⟨t', rfl⟩ := ry
  obtain ⟨j, h1, h2, h3, h4, h5⟩ := atI_get he
  have hl : z.cps.toList.length = z.length := by simp [Str.length]
  rw [hl] at h1 h4 h5
  have hn := line63
  exact tail_any (typeIs_str s z t) slot_str_getitem.lookup (getItem_str (c := c) (by
    have e1 : decide (i < -(2 ^ 63 : Int)) = false := decide_eq_false (by omega)
    have e2 : decide (i ≥ 2 ^ 63) = false := decide_eq_false (by omega)
    rw [e1, e2, Bool.or_false]) (by rw [h1]; simpa using h2) ⟨.str ⟨#[c]⟩, H, I.tok _, ⟨_, rfl⟩, q⟩) hs
def rIx (K : PySem.W.Frag) : R2 := fun x y H Q => rIxL K x y H Q ∨ rIxT K x y H Q ∨ rIxS x y H Q
theorem ix_seq : IxR X (rIx X.K) := ix_list.or (ix_tup.or ix_str)
theorem mapSeq_set (its : List Value) (n j : Nat) (u : Value) : Obj.mapSeq (·.setIfInBounds j u) { cls := .type "list", data := .seq its.toArray n } = { cls := .type "list", data := .seq (its.set j u).toArray n } := by
  simp [Obj.mapSeq]
theorem Inv.lst {pins : List (Addr × Obj)} {σ : St} {H : Hp} {s : Shared} {p : Addr} {xs : List V} (I : Inv X pins σ H s) (h : H p = some (.lst xs)) :
    ∃ (its : List Value) (n : Nat), Vals xs its ∧ s.heap.get? p = some { cls := .type "list", data := .seq its.toArray n } ∧ xs.length ≤ sizeLine := by
  obtain ⟨z, its, n, r, e⟩ := I.hok p _ h
  exact ⟨its, n, r, e, z⟩
theorem Inv.lstUpd {pins : List (Addr × Obj)} {σ : St} {H : Hp} {s : Shared} {p : Addr} {xs ys : List V} {its its' : List Value} {n n' : Nat} {f : Obj → Obj} (I : Inv X pins σ H s) (h : H p = some (.lst xs))
    (ho : s.heap.get? p = some { cls := .type "list", data := .seq its.toArray n }) (hf : f { cls := .type "list", data := .seq its.toArray n } = { cls := .type "list", data := .seq its'.toArray n' }) (r : Vals ys its') (hz : ys.length ≤ sizeLine) (t : Nat) :
    Inv X pins σ (upd H p (.lst ys)) { s with heap := s.heap.update p f, toks := t } := by
  have e : (s.heap.update p f).get? p = some { cls := .type "list", data := .seq its'.toArray n' } := by
    rw [Heap.get?_update_self f ho (by rw [hf] <;> rfl), hf]
  refine I.write (x := p) (e := p) (by rw [h]; trivial) (.inl rfl) (fun b u hb q => (Heap.get?_update_other _ _ (Ne.symm hb)).trans q) ⟨_, e⟩ ?_
  exact ⟨hz, its', n', r, e⟩
def rSetL : V → V → V → Hp → (Hp → Prop) → Prop := fun o i v H Q => ∃ p xs k j, o = .ref p ∧ i = .int k ∧ H p = some (.lst xs) ∧ ixN xs.length k = some j ∧ Q (upd H p (.lst (xs.set j v)))
theorem set_list : PSet X rSetL := by
  intro pins s σ H o i v ov iv u Q I ro ri rv h
  obtain ⟨p, xs, k, j, rfl, rfl, hp, hj, q⟩ := h
  cases ro
  obtain ⟨t, rfl⟩ := ri
  obtain ⟨its, n, r, ho, hz⟩ := I.lst hp
  obtain ⟨h1, h2, h3, h4⟩ := ixN_seq hj
  have hl := r.length
  have hn := line63
  have I' : Inv X pins σ (upd H p (.lst (xs.set j v))) { s with heap := s.heap.update p (Obj.mapSeq (·.setIfInBounds j u)) } :=
    I.lstUpd hp ho (mapSeq_set its n j u) (r.set rv j) (by rw [List.length_set]; exact hz) s.toks
  by_cases h0 : 0 ≤ k
  · have hk : k.toNat = j := by
      rw [seqIndex_of h0 h4] at h1
      exact Option.some.inj h1
    exact PySem.W.ki_setAt ho h0 (by omega) (by rw [List.size_toArray, ← hl]; exact h4) (by rw [hk]; exact ⟨_, I', q⟩)
  · have hk : (k + (its.toArray.size : Int)).toNat = j := by
      rw [seqIndex_neg (by omega) h3] at h1
      rw [List.size_toArray, ← hl]
      exact Option.some.inj h1
    exact PySem.W.ki_setBack ho (by omega) (by rw [List.size_toArray, ← hl]; exact h3) (by omega) (by rw [hk]; exact ⟨_, I', q⟩)
theorem slice_bounds (lo hi : Option Int) (n : Nat) : (sliceBounds lo hi none n).1 = ((HT.sIx n 0 lo : Nat) : Int) ∧ (sliceBounds lo hi none n).2.1 = ((HT.sIx n n hi : Nat) : Int) ∧ (sliceBounds lo hi none n).2.2 = 1 := by
  refine ⟨?_, ?_, rfl⟩
  · cases lo with
    | none => simp [sliceBounds, HT.sIx]
    | some i =>
      simp only [sliceBounds, HT.sIx, Option.getD_none, show (1 : Int) > 0 by decide, if_true]
      by_cases h : i < 0
      · simp only [h, if_true] <;> omega
      · simp only [h, if_false] <;> omega
  · cases hi with
    | none => simp [sliceBounds, HT.sIx]
    | some i =>
      simp only [sliceBounds, HT.sIx, Option.getD_none, show (1 : Int) > 0 by decide, if_true]
      by_cases h : i < 0
      · simp only [h, if_true] <;> omega
      · simp only [h, if_false] <;> omega
theorem slicePick_cut (its : List Value) (lo hi : Option Int) : slicePick its.toArray lo hi none = ((its.drop (HT.sIx its.length 0 lo)).take (HT.sIx its.length its.length hi - HT.sIx its.length 0 lo)).toArray := by
  obtain ⟨h1, h2, h3⟩ := slice_bounds lo hi its.toArray.size
  unfold slicePick
  rw [h1, h2, h3]
  simp only [sliceRange_one, pick_run, List.size_toArray] <;> rfl
def rSlL (K : PySem.W.Frag) : V → Option Int → Option Int → Hp → VK → Prop := fun x lo hi H Q => ∃ a xs, x = .ref a ∧ SqL K H a xs ∧ ∀ p, H p = none → Q (.ref p) (upd H p (.lst (cutV xs lo hi)))
theorem sl_list : SlR X (rSlL X.K) := by
  intro pins s σ H x v vl vu lo hi sl Q I rx hs pl pu h
  obtain ⟨a, xs, rfl, hx, q⟩ := h
  cases rx
  obtain ⟨its, r, ht, hz⟩ := I.list hx
  have hlen := r.length
  refine ⟨"list", _, slot_list_getitem.lookup, ht.isList.typeIs, ?_⟩
  refine wpAny_getItem_list_slice ht.isList hs pl pu .none (by simp) ?_ (by rw [List.size_toArray] <;> omega)
  rw [slicePick_cut, ← hlen]
  refine ⟨.ref s.heap.objs.size, _, I.laid (t' := s.toks) (o := .lst (cutV xs lo hi)) (fun b ob q => Heap.get?_push_of_some _ q) (Nat.le_refl _) ?_, rfl, q _ (I.hok.fresh (Nat.le_refl _))⟩
  exact ⟨Nat.le_trans (cutV_length xs lo hi) hz, _, 0, (r.drop (HT.sIx xs.length 0 lo)).take (HT.sIx xs.length xs.length hi - HT.sIx xs.length 0 lo), Heap.get?_push_size _ rfl⟩
theorem CallR.or {f : Value} {r r' : List V → Hp → VK → Prop} (h : CallR X f r) (h' : CallR X f r') : CallR X f (fun xs H Q => r xs H Q ∨ r' xs H Q) := by
  intro pins s σ H xs us Q I rs q
  rcases q with q | q
  · exact h pins s σ H xs us Q I rs q
  · exact h' pins s σ H xs us Q I rs q
theorem call_list_of : CallR X (.type "list") (fun xs H Q => ∃ p ys, xs = [.ref p] ∧ (SqL X.K H p ys ∨ SqT X.K H p ys) ∧ ∀ l, H l = none → Q (.ref l) (upd H l (.lst ys))) := by
  intro pins s σ H xs us Q I r h
  obtain ⟨p, ys, rfl, hq, q⟩ := h
  obtain ⟨u, rfl, rx⟩ := vals1 r
  cases rx
  have fin : ∀ (its : List Value), Vals ys its → ys.length ≤ sizeLine → ∀ (h' : Heap) (c' : Nat), (∀ b o', s.heap.get? b = some o' → h'.get? b = some o') →
      h'.get? s.heap.objs.size = some { cls := .type "list", dict := none, data := .seq its.toArray c', slots := #[] } → EP X pins σ Q (.ref s.heap.objs.size) { s with heap := h' } := fun its r' hz h' c' kp e =>
    ⟨.ref s.heap.objs.size, _, I.laid (t' := s.toks) kp (Nat.le_refl _) (show ObjOk X.prog X.w _ h' _ (.lst ys) from ⟨hz, its, c', r', e⟩), rfl, q _ (I.hok.fresh (Nat.le_refl _))⟩
  rcases hq with hq | hq
  · obtain ⟨its, r', pl, hz⟩ := I.list hq
    have hlen := r'.length
    obtain ⟨o, ho, hc, n, hd⟩ := pl.isList
    exact call_list_seq p (.inl rfl) ho hc hd (fun h' c' kp e => fin its r' hz h' c' kp e) (by simp only [List.size_toArray] <;> omega)
  · obtain ⟨its, r', pl, hz⟩ := I.tuple hq
    have hlen := r'.length
    obtain ⟨o, ho, hc, n, hd⟩ := pl
    exact call_list_seq p (.inr rfl) ho hc hd (fun h' c' kp e => fin its r' hz h' c' kp e) (by simp only [List.size_toArray] <;> omega)
def tyV (K : PySem.W.Frag) (T : String) (x : V) (H : Hp) : Prop := match x with
  | .str _ => T = "str"
  | .int _ => T = "int"
  | .ref p => (T = "list" ∧ ∃ xs, SqL K H p xs) ∨ (T = "tuple" ∧ ∃ o, K.lookup p = some o ∧ o.cls = .type "tuple" ∧ o.dict = none) ∨
      (T = "dict" ∧ ((∃ kvs, H p = some (.dK kvs)) ∨ ∃ kvs, H p = some (.dT kvs))) ∨ (T = "set" ∧ ∃ S n, H p = some (.set S n))
  | _ => False
theorem tyV_is {pins : List (Addr × Obj)} {σ : St} {H : Hp} {s : Shared} {T : String} {x : V} {v : Value} (I : Inv X pins σ H s) (r : RelV x v) (ty : tyV X.K T x H) :
    s.TypeIs v T ∧ ∀ a, v = .ref a → ∃ ob, s.heap.get? a = some ob ∧ ob.dict = none := by
  cases x with
  | str z =>
    obtain ⟨t, rfl⟩ := r
    cases (show T = "str" from ty)
    exact ⟨typeIs_str s z t, fun _ e => nomatch e⟩
  | int i =>
    obtain ⟨t, rfl⟩ := r
    cases (show T = "int" from ty)
    exact ⟨typeIs_int s i t, fun _ e => nomatch e⟩
  | ref p =>
    cases r
    rcases ty with ⟨rfl, xs, hq⟩ | ⟨rfl, o, hk, hc, hd⟩ | ⟨rfl, hk⟩ | ⟨rfl, S, n, hk⟩
    · obtain ⟨its, _, pl, _⟩ := I.list hq
      refine ⟨pl.isList.typeIs, fun a e => ?_⟩
      cases e
      obtain ⟨o, n, e, c, hd, _⟩ := pl
      exact ⟨o, e, hd⟩
    · refine ⟨⟨o, I.kIn p o hk, hc⟩, fun a e => ?_⟩
      cases e
      exact ⟨o, I.kIn _ o hk, hd⟩
    · have z : ∃ o, s.heap.get? p = some o ∧ o.ExactDict := by
        rcases hk with ⟨kvs, hk⟩ | ⟨kvs, hk⟩
        · obtain ⟨_, _, _, _, o, _, _, e, ex, _⟩ := I.hok p _ hk
          exact ⟨o, e, ex⟩
        · obtain ⟨_, _, _, _, o, _, _, e, ex, _⟩ := I.hok p _ hk
          exact ⟨o, e, ex⟩
      obtain ⟨o, e, ex⟩ := z
      refine ⟨⟨o, e, ex.1⟩, fun a e2 => ?_⟩
      cases e2
      exact ⟨o, e, ex.2.1⟩
    · obtain ⟨o, _, _, _, e, ex, _⟩ := I.hok p _ hk
      refine ⟨⟨o, e, ex.1⟩, fun a e2 => ?_⟩
      cases e2
      exact ⟨o, e, ex.2.1⟩
  | _ => exact False.elim ty
def tBM0 (K : PySem.W.Frag) (T : String) (r : V → List V → Hp → VK → Prop) (to : TE) : TE := fun σ H Q => to σ H fun x H1 => tyV K T x H1 ∧ r x [] H1 Q
def tBM (K : PySem.W.Frag) (T : String) (r : V → List V → Hp → VK → Prop) (to : TE) (t : TA) : TE := fun σ H Q => to σ H fun x H1 => tyV K T x H1 ∧ t σ H1 fun xs H2 => r x xs H2 Q
variable {o e : Expr} {es : List Expr} {to : TE} {t : TA} {name : Str} {apos cpos : Pos} {T id : String} {r : V → List V → Hp → VK → Prop}
theorem pe_bm0 (pa : PlainAttrs T) (slot : Slot T name id) (hty : typeOf (.builtin id) = pure (.type "method_descriptor")) (hm : MtR X id r) (ho : PE X o to)
    (hbase : attributeBase o name X.env (eval o X.env) = eval o X.env := by rfl) (hline : (apos.endLine == cpos.line) = true := by rfl) : PE X (.Call (.Attribute o name apos) [] [] cpos) (tBM0 X.K T r to) := by
  intro pins s σ H Q I h
  refine wpAny_Call_method0_late hbase hline (thn (ho pins s σ H _ I h) fun v s1 ⟨x, H1, I1, r1, ty, q1⟩ => ?_)
  obtain ⟨h1, h2⟩ := tyV_is I1 r1 ty
  exact ⟨T, id, pa, slot, hty, h1, h2, Calls.callWith_builtin rfl (PySem.evalArgs_none (hm pins s1 σ H1 x [] v [] Q I1 r1 .nil q1))⟩
theorem pe_bm (pa : PlainAttrs T) (slot : Slot T name id) (hty : typeOf (.builtin id) = pure (.type "method_descriptor")) (hm : MtR X id r) (ho : PE X o to) (ha : PA X (e :: es) t)
    (hbase : attributeBase o name X.env (eval o X.env) = eval o X.env := by rfl)
    (hfew : ((backTo cpos (starEach (e :: es) X.env)).all (fun x => !x.1) && (backToKw cpos (keywordEach [] X.env)).all (fun x => x.1.isSome)
      && decide ((e :: es).length + ([] : List Keyword).length + (if ([] : List Keyword).isEmpty then 0 else 1) < 30)) = true := by rfl)
    (hline : (apos.endLine == cpos.line) = true := by rfl) (hs : starEach (e :: es) X.env = (false, eval e X.env) :: starEach es X.env := by rfl) (hplain : (backTo cpos (starEach es X.env)).any (·.1) = false := by rfl) :
    PE X (.Call (.Attribute o name apos) (e :: es) [] cpos) (tBM X.K T r to t) := by
  intro pins s σ H Q I h
  refine wpAny_Call_method_late hbase hfew hline rfl (thn (ho pins s σ H _ I h) fun v s1 ⟨x, H1, I1, r1, ty, q1⟩ => ?_)
  obtain ⟨h1, h2⟩ := tyV_is I1 r1 ty
  refine ⟨T, id, pa, slot, hty, h1, h2, ?_⟩
  have hA := ha cpos pins s1 σ H1 _ I1 q1
  rw [hs] at hA ⊢
  refine Calls.callWith_builtin (by show (false || (backTo cpos (starEach es X.env)).any (·.1)) = false; rw [hplain] <;> rfl) (Calls.evalArgs_plain ?_)
  exact thn hA fun us s2 ⟨vs, H2, I2, r2, q2⟩ => hm pins s2 σ H2 x vs v us Q I2 r1 r2 q2
end
end L2
namespace L2
open PySem PySem.Spec PyProof.Rows
def MtM (X : Cx) (id : String) (r : V → List V → Hp → VK → Prop) : Prop :=
  ∀ (pins : List (Addr × Obj)) (s : Shared) (σ : St) (H : Hp) (x : V) (xs : List V) (v : Value) (us : List Value) (Q : VK), Inv X pins σ H s → RelV x v → Vals xs us → r x xs H Q →
    wpAny (model X.prog X.w) X.A (call (.builtin id) (v :: us)) (EP X pins σ Q) X.xe s
theorem Vals.one : ∀ {x : V} {us : List Value}, Vals [x] us → ∃ u, us = [u] ∧ RelV x u
  | _, _, .cons r .nil => ⟨_, rfl, r⟩
theorem Vals.two : ∀ {x y : V} {us : List Value}, Vals [x, y] us → ∃ u v, us = [u, v] ∧ RelV x u ∧ RelV y v
  | _, _, _, .cons r (.cons q .nil) => ⟨_, _, rfl, r, q⟩
theorem Vals.zero : ∀ {us : List Value}, Vals [] us → us = []
  | _, .nil => rfl
theorem Vals.dropLast {xs : List V} {us : List Value} (h : Vals xs us) : Vals xs.dropLast us.dropLast := by
  induction h with
  | nil => exact .nil
  | cons r t ih =>
    cases t with
    | nil => exact .nil
    | cons q t' => exact .cons r ih
theorem Vals.eraseIdx : ∀ {xs : List V} {us : List Value} (i : Nat), Vals xs us → Vals (xs.eraseIdx i) (us.eraseIdx i)
  | _, _, _, .nil => .nil
  | _, _, 0, .cons _ t => t
  | _, _, i + 1, .cons r t => .cons r (Vals.eraseIdx i t)
theorem Vals.rep {xs : List V} {us : List Value} (h : Vals xs us) : ∀ k : Nat, Vals (List.replicate k xs).flatten (List.replicate k us).flatten
  | 0 => .nil
  | k + 1 => by
    rw [List.replicate_succ, List.replicate_succ, List.flatten_cons, List.flatten_cons]
    exact Vals.append h (Vals.rep h k)
theorem erase_last {α : Type} (l : List α) : l.eraseIdx (l.length - 1) = l.dropLast := by
  induction l with
  | nil => rfl
  | cons a r ih =>
    cases r with
    | nil => rfl
    | cons b r =>
      have e : (a :: b :: r).length - 1 = ((b :: r).length - 1) + 1 := by
        have h1 : (a :: b :: r).length = r.length + 2 := rfl
        have h2 : (b :: r).length = r.length + 1 := rfl
        omega
      rw [e, List.eraseIdx_cons_succ, ih]
      all_goals rfl
theorem foldl_rep (its : List Value) : ∀ (k : Nat) (acc : List Value),
    List.foldl (fun x1 x2 => x1 ++ x2) acc.toArray (List.replicate k its.toArray) = (acc ++ (List.replicate k its).flatten).toArray
  | 0, acc => by simp
  | k + 1, acc => by
    have e : acc.toArray ++ its.toArray = (acc ++ its).toArray := by simp
    have e2 : (acc ++ its) ++ (List.replicate k its).flatten = acc ++ (List.replicate (k + 1) its).flatten := by
      rw [List.replicate_succ, List.flatten_cons, List.append_assoc]
    rw [← e2, ← foldl_rep its k (acc ++ its), ← e, List.replicate_succ, List.foldl_cons]
section
variable {X : Cx} {pins : List (Addr × Obj)} {σ : St} {H : Hp} {s : Shared} {l b : Addr} {xs ys zs : List V}
theorem Inv.lset {its its' : List Value} {n : Nat} {f : Array Value → Array Value} {t' : Nat} (I : Inv X pins σ H s) (hH : H l = some (.lst xs))
    (e : s.heap.get? l = some { cls := .type "list", data := .seq its.toArray n }) (hf : f its.toArray = its'.toArray) (hv : Vals ys its') (hz : ys.length ≤ sizeLine) :
    Inv X pins σ (upd H l (.lst ys)) { s with heap := s.heap.update l (Obj.mapSeq f), toks := t' } := by
  have q := PySem.IsL.update e f
  rw [hf] at q
  refine I.write (x := l) (e := l) (by rw [hH]; exact trivial) (.inl rfl) (fun b' u hb hu => (Heap.get?_update_other s.heap (Obj.mapSeq f) (Ne.symm hb)).trans hu) ⟨_, q⟩ ?_
  exact ⟨hz, its', _, hv, q⟩
theorem Inv.lnew {its : List Value} {t' : Nat} (I : Inv X pins σ H s) (hv : Vals ys its) (hz : ys.length ≤ sizeLine) :
    Inv X pins σ (upd H s.heap.objs.size (.lst ys)) { s with heap := s.heap.push { cls := .type "list", data := .seq its.toArray }, toks := t' } :=
  I.laid (fun _ _ q => Heap.get?_push_of_some _ q) (Nat.le_refl _) ⟨hz, its, 0, hv, Heap.get?_push_size _ rfl⟩
theorem Inv.fresh (I : Inv X pins σ H s) : H s.heap.objs.size = none := I.hok.fresh (Nat.le_refl _)
theorem Inv.lstM (I : Inv X pins σ H s) (hH : H l = some (.lst xs)) : xs.length ≤ sizeLine ∧ ∃ (its : List Value) (n : Nat), Vals xs its ∧ xs.length = its.length ∧ s.heap.get? l = some { cls := .type "list", data := .seq its.toArray n } := by
  obtain ⟨z, its, n, r, e⟩ := I.hok l _ hH
  exact ⟨z, its, n, r, r.length, e⟩
theorem notLongL {n : Nat} (h : n ≤ sizeLine) : Builtin.List.listTooLong n = false := by
  unfold Builtin.List.listTooLong
  exact decide_eq_false (by omega)
end
section
variable {X : Cx}
def rAppend : V → List V → Hp → VK → Prop := fun x vs H Q => ∃ l xs y, x = .ref l ∧ vs = [y] ∧ H l = some (.lst xs) ∧ xs.length < sizeLine ∧ Q .non (upd H l (.lst (xs ++ [y])))
theorem mt_append : MtM X "list.append" rAppend := by
  intro pins s σ H x vs v us Q I rx rv h
  obtain ⟨l, xs, y, rfl, rfl, hH, hz, q⟩ := h
  cases rx
  obtain ⟨u, rfl, ru⟩ := rv.one
  obtain ⟨z, its, n, r, hl, e⟩ := I.lstM hH
  refine call_meets F.slot_list_append ⟨_, e, rfl⟩ F.entry_list_append (F.args_list_append_2 _ _) (PySem.list_append l its.toArray n u (by rw [List.size_toArray]; omega)) ⟨e, ?_⟩
  refine ⟨.non, _, I.lset (its' := its ++ [u]) hH e (by simp) (r.append (.cons ru .nil)) ?_, rfl, q⟩
  rw [List.length_append, List.length_singleton]
  omega
def rPop : V → List V → Hp → VK → Prop := fun x vs H Q => ∃ l xs y, x = .ref l ∧ vs = [] ∧ H l = some (.lst xs) ∧ xs[xs.length - 1]? = some y ∧ Q y (upd H l (.lst xs.dropLast))
theorem mt_pop : MtM X "list.pop" rPop := by
  intro pins s σ H x vs v us Q I rx rv h
  obtain ⟨l, xs, y, rfl, rfl, hH, hy, q⟩ := h
  cases rx
  have hus := rv.zero
  subst hus
  obtain ⟨z, its, n, r, hl, e⟩ := I.lstM hH
  obtain ⟨u, hu, ru⟩ := r.get hy
  have hy' : its.toArray[its.toArray.size - 1]? = some u := by
    show its.toArray[its.length - 1]? = some u
    rw [← Array.getElem?_toList, ← hl]
    exact hu
  refine call_meets F.slot_list_pop ⟨_, e, rfl⟩ F.entry_list_pop (F.args_list_pop_1 _) (MeetsSeq.list_pop_last l its.toArray n u hy' (by rw [List.size_toArray]; omega)) ⟨e, ?_⟩
  refine ⟨y, _, I.lset (its' := its.dropLast) hH e ?_ r.dropLast ?_, ru, q⟩
  · show its.toArray.eraseIdxIfInBounds (its.toArray.size - 1) = its.dropLast.toArray
    rw [List.size_toArray, List.eraseIdxIfInBounds_toArray, erase_last]
  · rw [List.length_dropLast]
    omega
def rClear : V → List V → Hp → VK → Prop := fun x vs H Q => ∃ l xs, x = .ref l ∧ vs = [] ∧ H l = some (.lst xs) ∧ Q .non (upd H l (.lst []))
theorem mt_clear : MtM X "list.clear" rClear := by
  intro pins s σ H x vs v us Q I rx rv h
  obtain ⟨l, xs, rfl, rfl, hH, q⟩ := h
  cases rx
  have hus := rv.zero
  subst hus
  obtain ⟨z, its, n, r, hl, e⟩ := I.lstM hH
  refine call_meets F.slot_list_clear ⟨_, e, rfl⟩ F.entry_list_clear (F.args_list_clear_1 _) (AutoSeq1.list_clear_list_0 l its.toArray n (by rw [List.size_toArray]; omega)) ⟨e, ?_⟩
  exact ⟨.non, _, I.lset (its' := []) (ys := []) hH e rfl .nil (Nat.zero_le _), rfl, q⟩
def rRep : R2 := fun x y H Q => ∃ l k xs, x = .ref l ∧ y = .int k ∧ H l = some (.lst xs) ∧ -(2 ^ 63) ≤ k ∧ k < 2 ^ 63 ∧ xs.length * k.toNat ≤ sizeLine ∧
  ∀ p, H p = none → Q (.ref p) (upd H p (.lst (List.replicate k.toNat xs).flatten))
theorem len_rep {α : Type} (xs : List α) (k : Nat) : (List.replicate k xs).flatten.length = k * xs.length := by
  induction k with
  | zero => simp
  | succ k ih => rw [List.replicate_succ, List.flatten_cons, List.length_append, ih, Nat.succ_mul, Nat.add_comm]
theorem op_rep : OpR X (binaryOp .Mult) rRep := by
  intro pins s σ H x y v u Q I rx ry h
  obtain ⟨l, k, xs, rfl, rfl, hH, h1, h2, hz, q⟩ := h
  cases rx
  obtain ⟨t, rfl⟩ := ry
  obtain ⟨z, its, n, r, hl, e⟩ := I.lstM hH
  have hlen : its.toArray.size * k.toNat ≤ sizeLine := by rw [List.size_toArray, ← hl]; exact hz
  have hcap : ¬ its.toArray.size * k.toNat > (2 ^ 63 - 1) / 8 := by
    have : (sizeLine : Nat) ≤ (2 ^ 63 - 1) / 8 := by decide
    omega
  have hfit : ¬ (!Builtin.List.listFitsIndex k) = true := by
    rw [fitsIndex_both h1 h2]
    exact Bool.false_ne_true
  have hlong : ¬ Builtin.List.listTooLong (its.toArray.size * k.toNat) = true := by
    rw [notLongL hlen]
    exact Bool.false_ne_true
  have hnew : List.foldl (fun x1 x2 => x1 ++ x2) #[] (List.replicate (if its.toArray.isEmpty = true then 0 else k.toNat) its.toArray) = (List.replicate k.toNat its).flatten.toArray := by
    have f0 : ∀ m : Nat, List.foldl (fun x1 x2 => x1 ++ x2) #[] (List.replicate m its.toArray) = (List.replicate m its).flatten.toArray := fun m => by
      have := foldl_rep its m []
      rw [List.nil_append] at this
      exact this
    rw [f0]
    cases its with
    | nil => simp
    | cons a r' => rw [if_neg (by simp)]
  refine wpAny_binaryOp_repeat_ref (T := "list") (U := "int") (by decide) ⟨_, e, rfl⟩ (fun s' => typeIs_int s' k t) noFill_list_mul F.fills_int_mul F.slot_int_rmul repeat_list F.slot_int_index.lookup
    (call_meets F.slot_int_rmul (typeIs_int s k t) F.entry_int_rmul (F.args_int_rmul_2 _ _) (int___rmul___int_list k t l its.toArray n)
      ⟨e, rfl, ⟨_, e, rfl⟩, call_meets F.slot_list_mul ⟨_, e, rfl⟩ F.entry_list_mul (F.args_list_mul_2 _ _) (AutoListH.list___mul___list_int_3 l its.toArray n k t hfit hcap hlong) ⟨e, ?_⟩⟩)
  rw [hnew]
  exact ⟨.ref _, _, I.lnew (t' := s.toks) (r.rep k.toNat) (by rw [len_rep, Nat.mul_comm]; exact hz), rfl, q _ I.fresh⟩
end
section
variable {prog : Program} {w : World} {A : Around} {E : Value → Shared → Prop} {s : Shared}
end
section
variable {X : Cx}
end
end L2
namespace Att
open PySem PySem.W PySem.Calls PyProof.Rows
theorem ints_of_wellAll {P : Params} {h : Heap} : ∀ (ns : List Int) (vs : List Value), WellAll P h vs (ns.map WData.int) → IntsAre vs ns := by
  intro ns
  induction ns with
  | nil =>
    intro vs w
    rw [List.map_nil] at w
    cases w
    exact .nil
  | cons n ns ih =>
    intro vs w
    rw [List.map_cons] at w
    cases w with
    | cons a b =>
      cases a
      exact .cons _ _ (ih _ b)
theorem script_of {l : OpenLaw} {n : Nat} (hn : l.most = some n) {P : Params} {h : Heap} {args : List WData} {vals : List Value}
    (hpre : l.row.toRowW.claim.pre args = true) (hwl : WellAll P h vals args) :
    ∃ a vs ns, vals = [Value.ref a] ∧ args = [WData.list (ns.map WData.int)] ∧ h.get? a = some { cls := .type "list", data := .seq vs.toArray } ∧ IntsAre vs ns ∧ ns.length ≤ n := by
  have hsh : WShape.hasAll [] args [.list .int] = true := (pre_splitW hpre).1
  have hc : l.pre.holds [] { args := args } = true := (pre_splitW hpre).2
  obtain ⟨d, r, rfl, h1, h2⟩ := hasAllW_cons hsh
  obtain rfl := hasAllW_nil h2
  obtain ⟨xs, rfl, h3⟩ := hasW_list h1
  obtain ⟨ns, rfl⟩ := items_int h3
  have hlen : ns.length ≤ n := by
    unfold OpenLaw.pre at hc
    have h4 : (WTm.not (.lt (.lit (.int (n : Int))) (.len (.arg 0)))).holds [] { args := [.list (ns.map .int)] } = true := by
      have h4 := (holds_andW hc).1
      rw [hn] at h4
      exact h4
    have h5 := condW_of h4 (w_not (w_lt w_lit (w_len_list (w_arg rfl))))
    rw [List.length_map] at h5
    refine Nat.le_of_not_lt fun q => ?_
    have q' : (n : Int) < ((ns.length : Nat) : Int) := by omega
    first
      | (rw [decide_eq_true q'] at h5; exact absurd h5 (by decide))
      | (simp at h5; omega)
  cases hwl with
  | cons w1 w2 =>
    cases w2
    cases w1 with
    | list ho hall => exact ⟨_, _, ns, rfl, rfl, ho, ints_of_wellAll ns _ hall, hlen⟩
theorem post_true (l : OpenLaw) (args : List WData) : l.row.toRowW.claim.post args (.bool true) args = true :=
  postW_of (r := l.row.toRowW) (X := (true == true))
    (show WShape.has [] (.bool true) .bool = true by first | rfl | decide | simp [WShape.has, WShape.arms, WShape.armsAll])
    (show (WTm.eq .res (.lit (.bool true))).value [] { args := args, res := some (.bool true), after := args } = some (.bool (true == true)) from w_eq_bool (w_res rfl) w_lit) rfl
theorem attach_call {l : OpenLaw} {n : Nat} {q : Program} {loose : List Str} {XP : (Str → Option Value) → Heap → Prop} {YP : World → Heap → Prop} {d : DefRec}
    (hn : l.most = some n) (hdf : d.params.defaults = [])
    (call : ∀ (w : World) (s₀ s₁ : Shared) (mg mb : Str → Option Value) (fa : Addr) (o : Obj) (pm cd doc : Value) (a : Addr) (vs : List Value) (ns : List Int),
      Ground q loose [] XP w s₀ mg mb s₁.heap → YP w s₁.heap →
      s₁.heap.get? fa = some o → o.data = .func (docDef d.name d.params d.body d.scope pm cd doc) → s₁.heap.CodeRec cd d.name → mg d.name = some (.ref fa) →
      s₁.heap.get? a = some { cls := .type "list", data := .seq vs.toArray } → IntsAre vs ns → ns.length ≤ n → s₁.gens = #[] →
      codeAny (model l.prog w) callerA (.call (.ref fa) ⟨[.ref a], []⟩) (fun r s' => r = .ok (.ret (.bool true)) ∧ OldK s₁.heap s'.heap ∧ s'.os = s₁.os ∧ AllBare s'.gens) s₁) :
    WalkO q loose XP YP l.row.toRowW d [] (fun f vs => PySem.call f vs) := by
  intro w s₀ s₁ mg mb G Y fa o pm cd doc dV kV ho hd hcd hD hmg hg args vals as hpre hlay hrd hwl hlo
  obtain rfl : dV = .none := Dflts.none hD hdf
  obtain rfl : kV = .none := Dflts.noKw hD
  obtain ⟨a, vs, ns, rfl, rfl, hobj, hints, hlen⟩ := script_of hn hpre hwl
  refine enter_call (codeAny_mono (call w s₀ s₁ mg mb fa o pm cd doc a vs ns G Y ho (fd_plain hd) hcd hmg hobj hints hlen hg) fun r s' hq => ?_)
  obtain ⟨rfl, h2, h3, h4⟩ := hq
  exact ⟨.inl ⟨.bool true, .bool true, [], rfl, fun _ => rfl, .bool true, post_true l _, fun _ => ⟨List.Pairwise.nil, fun _ hm => (nomatch hm)⟩⟩, h2, h3, h4⟩
section
variable {prog : Program} {w : World} {A : Around} {E : Value → Shared → Prop} {s : Shared} {K : Frag}
end
end Att
namespace L2
open PySem PySem.Spec PyProof.Rows
theorem vals_ints : ∀ {vs : List Value} {ns : List Int}, IntsAre vs ns → Vals (ns.map V.int) vs
  | _, _, .nil => .nil
  | _, _, .cons n t h => .cons ⟨t, rfl⟩ (vals_ints h)
def Only (H : Hp) : Prop := ∀ b, H b = none ∨ ∃ o xs, H b = some (.frz o (.lst xs))
theorem law_call {P : Program} {w : World} {K : PySem.W.Frag} {mg mb : Str → Option Value} {CX : CXT} {k : Nat} {fa a : Addr} {fd : FuncData} {x : Str} {sp : Sp} {s₁ : Shared} {vs : List Value} {ns : List Int}
    (KX : K.In s₁.heap) (hns : s₁.heap.Ns mainGlobals mg) (hb : s₁.heap.Ns builtinsNs mb) (hbb : ∀ x : Str, x ≠ "__name__" → mb x = bootBuiltins x) (hlim : s₁.heap.NoLimit) (hseer : s₁.heap.NoSeer) (hg : s₁.gens = #[])
    (ha : s₁.heap.get? a = some { cls := .type "list", data := .seq vs.toArray }) (hi : IntsAre vs ns) (hl : ns.length ≤ sizeLine) (hr : Room k callerA)
    (F : ∀ base : Heap, K.In base → base.Ns mainGlobals mg → FnOk P w K mg base CX k fa fd [x] sp) (hbind : ∀ (s : Shared) (u : Value), BindsTo s fd ⟨[u], []⟩ [(x, u)])
    (hsp : ∀ H : Hp, Only H → SqL K H a (ns.map V.int) → sp [.ref a] H (fun v _ => v = .bl true) fun _ _ _ => False)
    (hCX : ∀ H e s', CX [] H s₁ (fun _ _ _ => False) e s' → False) :
    codeAny (model P w) callerA (.call (.ref fa) ⟨[.ref a], []⟩) (fun r s' => r = .ok (.ret (.bool true)) ∧ OldK s₁.heap s'.heap ∧ s'.os = s₁.os ∧ AllBare s'.gens) s₁ := by
  have rv := vals_ints hi
  have lenV := hi.length
  have core : ∀ H : Hp, Only H → SqL K H a (ns.map V.int) → HOk P w H s₁.heap → (∀ b, H b ≠ none → b = a) → (H a ≠ none → K.lookup a = none) →
      codeAny (model P w) callerA (.call (.ref fa) ⟨[.ref a], []⟩) (fun r s' => r = .ok (.ret (.bool true)) ∧ OldK s₁.heap s'.heap ∧ s'.os = s₁.os ∧ AllBare s'.gens) s₁ := by
    intro H hO hS hok hA hK
    have base_of : ∀ {b : Addr} {o : Obj}, s₁.heap.get? b = some o → H b = none → (hidT s₁.heap H).get? b = some o := fun e n => hidT_get e n
    have noA : ∀ {b : Addr} {o : Obj} {es : Array DictEntry} {ep : Nat}, s₁.heap.get? b = some o → o.data = .dict es ep → H b = none := fun {b o es ep} e d => by
      cases q : H b with
      | none => rfl
      | some u =>
        have e' : b = a := hA b (by rw [q]; simp)
        subst e'
        rw [ha] at e; cases e
        have d' : Data.seq vs.toArray _ = Data.dict es ep := d
        cases d'
    have nsK : ∀ {b : Addr} {m : Str → Option Value}, s₁.heap.Ns b m → (hidT s₁.heap H).Ns b m := fun {b m} ⟨o, es, ep, e, d, r⟩ => ⟨o, es, ep, base_of e (noA e d), d, r⟩
    have hKb : K.In (hidT s₁.heap H) := fun b o e => base_of (KX b o e) (by
      cases q : H b with
      | none => rfl
      | some u =>
        have e' : b = a := hA b (by rw [q]; simp)
        subst e'
        rw [hK (by rw [q]; simp)] at e; cases e)
    have noM : ∀ {b : Addr} {o : Obj}, s₁.heap.get? b = some o → o.cls = .type "module" → H b = none := fun {b o} e d => by
      cases q : H b with
      | none => rfl
      | some u =>
        have e' : b = a := hA b (by rw [q]; simp)
        subst e'
        rw [ha] at e; cases e
        exact absurd (show Value.type "list" = Value.type "module" from d) (by decide)
    have hN : (hidT s₁.heap H).NoSeer := ⟨let ⟨mc, x, y⟩ := hseer.statics; ⟨mc, nsK x, y⟩, let ⟨mc, x, y⟩ := hseer.mods; ⟨mc, nsK x, y⟩, let ⟨mc, x, y⟩ := hseer.imp; ⟨mc, nsK x, y⟩, let ⟨mg', bm, ob, x, y, z, u, v⟩ := hseer.main; ⟨mg', bm, ob, nsK x, y, base_of z (noM z u), u, v⟩⟩
    have hM : Mod K mg (hidT s₁.heap H) := ⟨hKb, nsK hns, ⟨mb, nsK hb, hbb⟩, (let ⟨mc, h1, h2⟩ := hlim; ⟨mc, nsK h1, h2⟩), hN⟩
    have e0 : Env0 P w K mg (hidT s₁.heap H) callerA [] s₁ H := ⟨rfl, hM, fun b o e => of_hidT e, Nat.le_of_eq (hidT_size _ _), trivial, fun b hb => absurd (show b ∈ ([] : List Addr) from hb) (by simp), hok, .of_eq hg⟩
    refine codeAny_mono ((F _ hKb (nsK hns)).run callerA [] s₁ H ⟨[.ref a], []⟩ [.ref a] [.ref a] _ _ hr e0 (hbind s₁ (.ref a)) (.cons rfl .nil) (hsp H hO hS)) fun r s' h => ?_
    cases r with
    | error e => exact (hCX H e s' h).elim
    | ok fl =>
      cases fl with
      | next => exact False.elim h
      | brk => exact False.elim h
      | cont => exact False.elim h
      | ret u =>
        obtain ⟨v, H', os, bare, un, hok', r', q⟩ := h
        have q' : v = .bl true := q
        subst q'
        obtain rfl : u = Value.bool true := r'
        refine ⟨rfl, OldK.of_keep fun b o e => ?_, os, bare⟩
        cases q : H b with
        | none => exact un.keep b o e q (by intro z; exact absurd (show b ∈ ([] : List Addr) from z) (by simp)) (by simp)
        | some u =>
          rcases hO b with z | ⟨ob, xs, z⟩
          · rw [q] at z; cases z
          · have z2 := un.frzs b ob _ z
            obtain ⟨e1, _⟩ := hok b _ z
            obtain ⟨e2, _⟩ := hok' b _ z2
            rw [e] at e1; cases e1
            exact e2
  cases hk : K.lookup a with
  | some o =>
    have e := KX a o hk
    rw [ha] at e
    cases e
    refine core (fun _ => none) (fun _ => .inl rfl) (.inr ⟨_, vs.toArray, _, hk, rfl, rfl, rfl, by rw [List.size_toArray, lenV]; exact hl, by simpa using rv⟩) (fun b u z => by have z' : (none : Option HO) = some u := z; cases z') (fun b z => absurd rfl z) fun z => absurd rfl z
  | none =>
    refine core (fun b => if b = a then some (.frz { cls := .type "list", data := .seq vs.toArray } (.lst (ns.map V.int))) else none) (fun b => ?_) (.inl (.inr ⟨{ cls := .type "list", data := .seq vs.toArray }, if_pos rfl⟩)) (fun b u z => ?_) (fun b z => ?_) fun _ => hk
    · by_cases hb : b = a
      · exact .inr ⟨_, _, if_pos hb⟩
      · exact .inl (if_neg hb)
    · by_cases hb : b = a
      · have z' := (if_pos hb).symm.trans z
        cases z'
        subst hb
        exact ⟨ha, by rw [List.length_map]; exact hl, vs, _, rv, ha⟩
      · have z' := (if_neg hb).symm.trans z
        cases z'
    · by_cases hb : b = a
      · exact hb
      · exact absurd (if_neg hb) z
end L2
namespace L2
open PySem PySem.Spec PyProof.Rows
theorem walk_of {l : PySem.W.OpenLaw} {n k : Nat} {q : Program} {loose : List Str} {XP : (Str → Option Value) → Heap → Prop} {YP : World → Heap → Prop} {d : DefRec} {K : Params → PySem.W.Frag} {CX : World → CXT} {sp : World → Sp} {x : Str}
    (hn : l.most = some n) (hn2 : n ≤ sizeLine) (hdf : d.params.defaults = []) (hr : Room k callerA) (hi : importsNone q = true)
    (hY : ∀ (w : World) (h : Heap), YP w h → (K w.params).In h)
    (F : ∀ (w : World) (mg : Str → Option Value) (fa : Addr) (h : Heap), (K w.params).In h → h.Ns mainGlobals mg → mg d.name = some (.ref fa) →
      ∃ fd : FuncData, (∀ (s : Shared) (u : Value), BindsTo s fd ⟨[u], []⟩ [(x, u)]) ∧
        ∀ base : Heap, (K w.params).In base → base.Ns mainGlobals mg → FnOk l.prog w (K w.params) mg base (CX w) k fa fd [x] (sp w))
    (hsp : ∀ (w : World) (H : Hp) (a : Addr) (ns : List Int), ns.length ≤ n → Only H → SqL (K w.params) H a (ns.map V.int) → sp w [.ref a] H (fun v _ => v = .bl true) fun _ _ _ => False)
    (hCX : ∀ (w : World) (H : Hp) (s : Shared) (e : Value) (s' : Shared), CX w [] H s (fun _ _ _ => False) e s' → False) :
    PySem.W.WalkO q loose XP YP l.row.toRowW d [] (fun f vs => PySem.call f vs) := by
  refine Att.attach_call hn hdf fun w s₀ s₁ mg mb fa o pm cd doc a vs ns G Y ho hd hcd hmg hobj hints hlen hg => ?_
  have KX := hY w _ Y
  obtain ⟨fd, hb, hF⟩ := F w mg fa _ KX G.T.g hmg
  exact law_call KX G.T.g G.T.b G.T.builtins G.T.nolimit (G.T.seer hi) hg hobj hints (Nat.le_trans hlen hn2) hr hF hb (fun H hO hS => hsp w H a ns hlen hO hS) fun H e s' => hCX w H s₁ e s'
end L2
namespace L2
open PySem PySem.Spec PyProof.Rows
def defArgs (s : Stmt) : Arguments := match s with
  | .FunctionDef _ a _ _ _ _ _ _ _ _ => a
  | _ => { posonlyargs := [], args := [], vararg := none, kwonlyargs := [], kw_defaults := [], kwarg := none, defaults := [] }
def defBody (s : Stmt) : List Stmt := match s with
  | .FunctionDef _ _ b _ _ _ _ _ _ _ => b
  | _ => []
def defScope (s : Stmt) : Scope := match s with
  | .FunctionDef _ _ _ _ _ _ sc _ _ _ => sc
  | _ => { kind := .function, names := [], isGenerator := false, isCoroutine := false }
abbrev CX0 : CXT := fun _ _ _ _ _ _ => False
abbrev E0 : XK := fun _ _ _ => False
structure Fun (K : PySem.W.Frag) (x qual : Str) (st : Stmt) (f : Addr) (fd : FuncData) : Prop where
  ex : ∃ (oc : Value) (od : Option Addr) (kV doc pm : Value) (an : Option Addr) (cdv ct : Value) (osl : Array (Option Value)),
    fd = PySem.W.fnOf x qual (defArgs st) (defBody st) (defScope st) .none kV doc pm an cdv ct ∧ K.lookup f = some ⟨oc, od, .func fd, osl⟩ ∧ PySem.W.codeIn K cdv qual = true
  kp : PySem.W.keepIn K (.ref f) = true
section
variable {P : Program} {w : World} {K : PySem.W.Frag} {mg : Str → Option Value} {base : Heap}
theorem Fun.ok {x qual : Str} {st : Stmt} {f : Addr} {fd : FuncData} {N ps : List Str} {k : Nat} {sp : Sp} (F : Fun K x qual st f fd) (S : FnScope N ps (defScope st)) (len : ∀ vs H Q E, sp vs H Q E → vs.length = ps.length)
    (hbody : ∀ (cdv : Value) (A : Around) (outer : List Env) (s : Shared) (H : Hp) (vs : List V) (Q : VK) (E : XK), Room k (A.deeper (envOfC qual (defScope st) s.heap.objs.size f cdv)) → sp vs H Q E →
      ∃ t, PSs (cxOf CX0 P w K mg base N qual (defScope st) f cdv A outer s H E).nox (defBody st) t ∧ t { nx := fun _ H' => Q .non H', rt := Q } (start N vs) H) : FnOk P w K mg base CX0 (k + 1) f fd ps sp := by
  obtain ⟨oc, od, kV, doc, pm, an, cdv, ct, osl, rfl, lk, hcd⟩ := F.ex
  refine fn_of lk hcd S len fun A outer s H vs Q E hr hsp => ?_
  obtain ⟨t, h, q⟩ := hbody cdv A outer s H vs Q E hr hsp
  exact ⟨t, h.nox, q⟩
theorem Fun.binds {x qual : Str} {st : Stmt} {f : Addr} {fd : FuncData} {ps : List Str} (F : Fun K x qual st f fd)
    (h : ∀ (kV doc pm : Value) (an : Option Addr) (cdv ct : Value) (us : List Value), us.length = ps.length → bindArgs (PySem.W.fnOf x qual (defArgs st) (defBody st) (defScope st) .none kV doc pm an cdv ct) ⟨us, []⟩ = pure (ps.zip us)) : Binds K fd ps [] := by
  obtain ⟨oc, od, kV, doc, pm, an, cdv, ct, osl, rfl, lk, hcd⟩ := F.ex
  exact .all (h kV doc pm an cdv ct)
theorem fun_mk {x qual : Str} {st : Stmt} {f : Addr} {oc : Value} {od an : Option Addr} {osl : Array (Option Value)} {kV doc pm cdv ct : Value} (l : K.lookup f = some ⟨oc, od, .func (PySem.W.fnOf x qual (defArgs st) (defBody st) (defScope st) .none kV doc pm an cdv ct), osl⟩)
    (c : PySem.W.codeIn K cdv qual = true) (k : PySem.W.keepIn K (.ref f) = true) : Fun K x qual st f (PySem.W.fnOf x qual (defArgs st) (defBody st) (defScope st) .none kV doc pm an cdv ct) := ⟨⟨oc, od, kV, doc, pm, an, cdv, ct, osl, rfl, l, c⟩, k⟩
end
section
variable {X : Cx}
theorem pv (i : Nat) {x : Str} {pos : Pos} (hN : X.N[i]? = some x := by rfl) (hv : Vis X.env.scope x := by first | exact Or.inl rfl | exact Or.inr (Or.inl rfl) | exact Or.inr (Or.inr rfl)) (hd : (x == ("__debug__" : Str)) = false := by decide)
    (hcd : (x == ("__classdict__" : Str)) = false := by decide) : PE X (.Name x pos) (tVar i) := pe_var hN hv hd hcd
end
theorem iteF {A B : Prop} (h : B) : if false = true then A else B := by
  rw [if_neg Bool.false_ne_true]
  exact h
theorem iteT {A B : Prop} (h : A) : if true = true then A else B := by
  rw [if_pos rfl]
  exact h
def Same (H H' : Hp) : Prop := ∀ b o, H b = some o → H' b = some o
theorem Same.refl (H : Hp) : Same H H := fun _ _ h => h
theorem Same.trans {H H1 H2 : Hp} (a : Same H H1) (b : Same H1 H2) : Same H H2 := fun c o h => b c o (a c o h)
theorem Same.free {H H' : Hp} (e : Same H H') {l : Addr} (h : H' l = Option.none) : H l = Option.none := by
  cases q : H l with
  | none => rfl
  | some o =>
    rw [e l o q] at h
    cases h
theorem Same.seq {K : PySem.W.Frag} {H H' : Hp} {a : Addr} {xs : List V} (e : Same H H') (h : SqL K H a xs) : SqL K H' a xs := by
  rcases h with (h | ⟨o, h⟩) | h
  · exact .inl (.inl (e _ _ h))
  · exact .inl (.inr ⟨o, e _ _ h⟩)
  · exact .inr h
end L2
set_option maxRecDepth 100000
set_option maxHeartbeats 4000000
namespace L2
open PySem PySem.Spec PyProof.Rows
def closOf (env : Env) : List (Str × NameKind) → List (Str × Addr) → List (Str × Addr)
  | [], cs => cs
  | (n, k) :: r, cs => if k == .free then closOf env r ((n, (env.cells.lookup n).getD 0) :: cs) else closOf env r cs
theorem clos_go {env : Env} : ∀ (names : List (Str × NameKind)) (cs : List (Str × Addr)), (∀ n, (n, NameKind.free) ∈ names → ∃ c, env.cells.lookup n = some c) →
    (forIn names cs fun (x : Str × NameKind) (r : List (Str × Addr)) => (if (x.2 == NameKind.free) = true then do
        let a ← cellOf env x.1
        pure (ForInStep.yield ((x.1, a) :: r)) else pure (ForInStep.yield r) : Sem (ForInStep (List (Str × Addr))))) = pure (closOf env names cs)
  | [], cs, _ => rfl
  | (n, k) :: r, cs, h => by
    rw [List.forIn_cons]
    by_cases hk : (k == NameKind.free) = true
    · have hk' : k = .free := by simpa using hk
      subst hk'
      obtain ⟨c, hc⟩ := h n List.mem_cons_self
      simp only [hk, if_true, closOf, cellOf, hc, pure_bind, Option.getD_some]
      exact clos_go r _ fun m hm => h m (List.mem_cons_of_mem _ hm)
    · simp only [hk, if_false, closOf, pure_bind]
      exact clos_go r cs fun m hm => h m (List.mem_cons_of_mem _ hm)
theorem closureFor_of {scope : Scope} {env : Env} (h : ∀ n, (n, NameKind.free) ∈ scope.names → ∃ c, env.cells.lookup n = some c) : closureFor scope env = pure (closOf env scope.names []) := by
  have := clos_go scope.names [] h
  simp only [closureFor]
  rw [← this]
  exact bind_pure _
theorem closOf_sub {env : Env} : ∀ (names : List (Str × NameKind)) (cs : List (Str × Addr)), (∀ n, (n, NameKind.free) ∈ names → ∃ c, env.cells.lookup n = some c) →
    (∀ x c, cs.lookup x = some c → env.cells.lookup x = some c) → ∀ x c, (closOf env names cs).lookup x = some c → env.cells.lookup x = some c
  | [], cs, _, h, x, c, e => h x c e
  | (n, k) :: r, cs, hf, h, x, c, e => by
    unfold closOf at e
    by_cases hk : (k == NameKind.free) = true
    · rw [if_pos hk] at e
      have hk' : k = .free := by simpa using hk
      subst hk'
      refine closOf_sub r _ (fun m hm => hf m (List.mem_cons_of_mem _ hm)) (fun y d q => ?_) x c e
      obtain ⟨c', hc'⟩ := hf n List.mem_cons_self
      rw [List.lookup_cons] at q
      split at q
      · rename_i hy
        have : y = n := by simpa using hy
        subst this
        rw [hc', Option.getD_some] at q
        rw [hc']; exact q
      · exact h y d q
    · rw [if_neg hk] at e
      exact closOf_sub r cs (fun m hm => hf m (List.mem_cons_of_mem _ hm)) h x c e
theorem closOf_keep {env : Env} : ∀ (names : List (Str × NameKind)) (cs : List (Str × Addr)) (x : Str), (∃ c, cs.lookup x = some c) → ∃ c, (closOf env names cs).lookup x = some c
  | [], cs, _, h => h
  | (n, k) :: r, cs, x, h => by
    unfold closOf
    by_cases hk : (k == NameKind.free) = true
    · rw [if_pos hk]
      refine closOf_keep r _ x ?_
      rw [List.lookup_cons]
      split
      · exact ⟨_, rfl⟩
      · exact h
    · rw [if_neg hk]
      exact closOf_keep r cs x h
theorem closOf_has {env : Env} : ∀ (names : List (Str × NameKind)) (cs : List (Str × Addr)) (x : Str), (x, NameKind.free) ∈ names → ∃ c, (closOf env names cs).lookup x = some c
  | (n, k) :: r, cs, x, h => by
    unfold closOf
    rcases List.mem_cons.mp h with e | h
    · cases e
      rw [if_pos (by rfl)]
      refine closOf_keep r _ n ?_
      exact ⟨_, by rw [List.lookup_cons]; simp; rfl⟩
    · by_cases hk : (k == NameKind.free) = true
      · rw [if_pos hk]; exact closOf_has r _ x h
      · rw [if_neg hk]; exact closOf_has r cs x h
def cxC (X : Cx) (scope : Scope) (N' : List Str) (fp : List Addr) (s : Shared) (H : Hp) : Cx where
  prog := X.prog
  w := X.w
  K := X.K
  mg := X.mg
  base := X.base
  A := X.A
  N := N'
  s₀ := s
  H₀ := H
  env := compEnvC scope (closOf X.env scope.names []) s.heap.objs.size X.env
  outer := X.stack
  stack := X.stack
  ex := fp
  calm := X.calm
  fn := fun _ => false
  pn := []
  xe := fun _ _ => False
def CapsOk (X : Cx) (scope : Scope) : List Str → List Nat → Prop
  | [], [] => True
  | x :: xs, j :: js => X.N[j]? = some x ∧ (X.env.scope.names.lookup x = some .cell ∨ X.env.scope.names.lookup x = some .free) ∧ scope.names.lookup x = some .free ∧ CapsOk X scope xs js
  | _, _ => False
theorem CapsOk.get {X : Cx} {scope : Scope} : ∀ {xs : List Str} {js : List Nat} {i : Nat} {x : Str}, CapsOk X scope xs js → xs[i]? = some x →
    ∃ j, js[i]? = some j ∧ X.N[j]? = some x ∧ (X.env.scope.names.lookup x = some .cell ∨ X.env.scope.names.lookup x = some .free) ∧ scope.names.lookup x = some .free
  | [], _, _, _, _, e => by simp at e
  | _ :: _, [], _, _, h, _ => h.elim
  | y :: ys, j :: js, 0, x, h, e => by
    simp at e; subst e
    exact ⟨j, rfl, h.1, h.2.1, h.2.2.1⟩
  | y :: ys, j :: js, i + 1, x, h, e => by
    obtain ⟨j', e1, r⟩ := CapsOk.get (i := i) (x := x) h.2.2.2 (by simpa using e)
    exact ⟨j', by simpa using e1, r⟩
theorem CapsOk.length {X : Cx} {scope : Scope} : ∀ {xs : List Str} {js : List Nat}, CapsOk X scope xs js → xs.length = js.length
  | [], [], _ => rfl
  | [], _ :: _, h => h.elim
  | _ :: _, [], h => h.elim
  | _ :: _, _ :: _, h => by rw [List.length_cons, List.length_cons, CapsOk.length h.2.2.2]
def capSt (m : Nat) (caps : List Nat) (σ : St) : St := List.replicate m none ++ caps.map fun i => (σ[i]?).getD none
theorem lookup_mem {α β : Type} [BEq α] [LawfulBEq α] : ∀ {l : List (α × β)} {x : α} {b : β}, l.lookup x = some b → (x, b) ∈ l
  | [], _, _, h => by simp at h
  | (a, c) :: r, x, b, h => by
    rw [List.lookup_cons] at h
    split at h
    · rename_i q
      have : x = a := by simpa using q
      subst this
      cases h
      exact List.mem_cons_self
    · exact List.mem_cons_of_mem _ (lookup_mem h)
section
variable {X : Cx}
theorem lookup_relabel {scope : Scope} {env : Env} : ∀ {names : List (Str × NameKind)} {x : Str} {k : NameKind}, (names.map fun (n, k) => if (k == NameKind.free && env.scope.kind == .function && env.kindOf n == some .cell) then (n, NameKind.cell) else (n, k)).lookup x = some k →
    ∃ k', names.lookup x = some k' ∧ (k' = k ∨ (k' = .free ∧ k = .cell))
  | [], _, _, h => by simp at h
  | (n, k0) :: r, x, k, h => by
    have h' : List.lookup x ((if (k0 == NameKind.free && env.scope.kind == .function && env.kindOf n == some .cell) = true then (n, NameKind.cell) else (n, k0)) :: r.map _) = some k := h
    by_cases hc : (k0 == NameKind.free && env.scope.kind == .function && env.kindOf n == some .cell) = true
    · rw [if_pos hc, List.lookup_cons] at h'
      rw [List.lookup_cons]
      split at h'
      · rename_i q
        cases h'
        have hk : k0 = .free := by simp only [Bool.and_eq_true] at hc; simpa using hc.1.1
        exact ⟨k0, rfl, .inr ⟨hk, rfl⟩⟩
      · rename_i q
        exact lookup_relabel (scope := scope) h'
    · rw [if_neg hc, List.lookup_cons] at h'
      rw [List.lookup_cons]
      split at h'
      · rename_i q
        cases h'
        exact ⟨k0, rfl, .inl rfl⟩
      · rename_i q
        exact lookup_relabel (scope := scope) h'
structure CompSc (X : Cx) (scope : Scope) (own cap : List Str) (caps : List Nat) : Prop where
  kind : scope.kind = .function
  cell : ∀ y ∈ scope.names, y.2 ≠ .cell
  nm : ∀ y ∈ scope.names, y.2 = .local → scope.names.lookup y.1 = some .local
  fr : ∀ y ∈ scope.names, y.2 = .free → y.1 ∈ cap
  caps : CapsOk X scope cap caps
  nd : (own ++ cap).Nodup
theorem CompSc.out {X : Cx} {scope : Scope} {own cap : List Str} {caps : List Nat} (S : CompSc X scope own cap caps) {n : Str} (h : (n, NameKind.free) ∈ scope.names) : X.env.scope.names.lookup n = some .cell ∨ X.env.scope.names.lookup n = some .free := by
  obtain ⟨i, hi, e⟩ := List.getElem_of_mem (S.fr _ h rfl)
  obtain ⟨_, _, _, k, _⟩ := S.caps.get (i := i) (x := n) (by rw [List.getElem?_eq_getElem hi, e])
  exact k
theorem inv_comp {scope : Scope} {own cap : List Str} {caps : List Nat} {pins : List (Addr × Obj)} {σ : St} {H : Hp} {s : Shared} {fp : List Addr} {h1 : Heap} {tk : Nat} (Sc : CompSc X scope own cap caps) (I : Inv X pins σ H s)
    (hfp : ∀ b ∈ fp, FpOk X pins H b) (hob : ∀ b ∈ fp, ∃ o, s.heap.get? b = some o) (hns : h1.Ns s.heap.objs.size fun _ => none)
    (hk : ∀ b o, s.heap.get? b = some o → h1.get? b = some o) :
    Inv (cxC X scope (own ++ cap) fp s H) [] (capSt own.length caps σ) H { s with heap := h1, toks := tk } := by
  have hcl : ∀ n, (n, NameKind.free) ∈ scope.names → ∃ c, X.env.cells.lookup n = some c := fun n hn => I.ok.has n (Sc.out hn)
  have sub : ∀ x c, (closOf X.env scope.names []).lookup x = some c → X.env.cells.lookup x = some c := closOf_sub scope.names [] hcl (fun x c e => by simp at e)
  have fresh : H s.heap.objs.size = none := I.hok.fresh (Nat.le_refl _)
  refine ⟨⟨I.ok.mod, Sc.kind, I.ok.glob, I.ok.blt, Nat.le_refl _, fun x y c e1 e2 => I.ok.inj x y c (sub x c e1) (sub y c e2), fun x hx => ?_, fun x c h _ => absurd h (by simp [cxC]), I.ok.hd, I.ok.frames, .inl rfl, fun b hb => ⟨?_, fun x c e => (hfp b hb).2.2.2.2.1 x c (sub x c e)⟩, I.bs, Nat.le_trans I.ok.bsz I.sz, fun b o e hb => ?_, fun b hb hs => ?_, I.stack, I.stkFree⟩,
    rfl, I.bare, Un.kept hk, ⟨_, hns, fun i x v e1 e2 e3 => ?_⟩, fun x c e => ?_, fresh, fun x c e => I.freeC x c (sub x c e), fun p hp => absurd (show p ∈ ([] : List (Addr × Obj)) from hp) (by simp), I.hok.kept hk, ?_⟩
  · -- has
    have hx' : (relabel scope X.env).names.lookup x = some .cell ∨ (relabel scope X.env).names.lookup x = some .free := hx
    have : (x, NameKind.free) ∈ scope.names := by
      rcases hx' with q | q
      · obtain ⟨k', e1, e2⟩ := lookup_relabel (scope := scope) q
        rcases e2 with rfl | ⟨rfl, _⟩
        · exact absurd rfl (Sc.cell _ (lookup_mem e1))
        · exact lookup_mem e1
      · obtain ⟨k', e1, e2⟩ := lookup_relabel (scope := scope) q
        rcases e2 with rfl | ⟨rfl, z⟩
        · exact lookup_mem e1
        · cases z
    exact closOf_has scope.names [] x this
  · obtain ⟨o, ho⟩ := hob b hb
    exact Nat.ne_of_lt (Heap.lt_size ho)
  · rcases (hfp b hb).2.2.2.1 with z | z
    · exact I.ok.noex b o e z
    · exact absurd (Nat.lt_of_lt_of_le (Heap.lt_size e) (Nat.le_trans I.ok.bsz z)) (Nat.lt_irrefl _)
  · rcases List.mem_cons.mp (I.stkSub b hs) with z | z
    · exact (hfp b hb).2.1 z
    · exact (hfp b hb).2.2.1 z
  · -- the captured names
    have e1' : (own ++ cap)[i]? = some x := e1
    have hi : own.length ≤ i := by
      by_cases q : i < own.length
      · unfold capSt at e2
        rw [List.getElem?_append_left (by simpa using q), List.getElem?_replicate] at e2
        split at e2 <;> cases e2
      · omega
    rw [List.getElem?_append_right hi] at e1'
    obtain ⟨j, hj, hN, hkd, hfr⟩ := Sc.caps.get e1'
    unfold capSt at e2
    rw [List.getElem?_append_right (by simpa using hi)] at e2
    simp only [List.length_replicate, List.getElem?_map, hj, Option.map_some, Option.some.injEq] at e2
    have e2' : σ[j]? = some (some v) := by
      cases q : σ[j]? with
      | none => rw [q] at e2; simp at e2
      | some ov => rw [q] at e2; simp at e2; rw [e2]
    obtain ⟨m, hm, hl⟩ := I.loc
    obtain ⟨u, ru, lk⟩ := hl j x v hN e2' (hkd.elim (fun z => .inr (.inl z)) fun z => .inr (.inr z))
    refine ⟨u, ru, .inr ⟨?_, ?_⟩⟩
    · rcases e3 with q | q | q
      · obtain ⟨k', w1, w2⟩ := lookup_relabel (scope := scope) (show (relabel scope X.env).names.lookup x = some .local from q)
        rw [hfr] at w1
        cases w1
        rcases w2 with w | ⟨_, w⟩ <;> cases w
      · exact .inl q
      · exact .inr q
    · rcases lk with ⟨z, _⟩ | ⟨_, c, ec, hc⟩
      · have z' : X.env.scope.names.lookup x = some .local := z
        rcases hkd with q | q <;> (rw [q] at z'; cases z')
      · obtain ⟨c', hc'⟩ := closOf_has (env := X.env) scope.names [] x (lookup_mem hfr)
        have := sub x c' hc'
        rw [ec] at this
        cases this
        obtain ⟨oc, h1', h2'⟩ := hc
        exact ⟨c, hc', oc, hk _ _ h1', h2'⟩
  · obtain ⟨v, oc, h1', h2'⟩ := I.cell x c (sub x c e)
    exact ⟨v, oc, hk _ _ h1', h2'⟩
  · unfold capSt
    have := Sc.caps.length
    simp [cxC, this]
theorem comp_loop {prog : Program} {w : World} {A : Around} {R : Result → Shared → Prop} {s : Shared} {elt target iter : Expr} {ifs : List Expr} {scope : Scope} {pos : Pos} {it acc : Value} {env : Env} (I : Nat → Shared → Prop)
    (turn : ∀ n s, I n s → wpAny (model prog w) A (pyNext it) (fun r s₁ => match r with
      | none => R (.ok .next) s₁
      | some v => wpAny (model prog w) A (letOwnedTupleGo target it v) (fun _ s₁' => wpAny (model prog w) A (assign target env v) (fun _ s₂ =>
          wpAny (model prog w) A (forIn ifs true fun c r => if r = true then do let ok ← isTrue c env (eval c env); pure (ForInStep.yield ok) else pure (ForInStep.yield r)) (fun ok s₃ =>
            if ok = true then wpAny (model prog w) A (eval elt env) (fun x s₄ =>
              wpAny (model prog w) A (call (.builtin "list.append") [acc, x]) (fun _ s₅ => ∃ m, m < n ∧ I m s₅) (fun _ _ => False) s₄) (fun _ _ => False) s₃
            else ∃ m, m < n ∧ I m s₃) (fun _ _ => False) s₂) (fun _ _ => False) s₁') (fun _ _ => False) s₁) (fun _ _ => False) s)
    (n : Nat) (h : I n s) :
    codeAny (model prog w) A (.compLoop (.ListComp elt [⟨target, iter, ifs, 0⟩] scope pos) 0 it acc env) R s := by
  refine codeAny_loop rfl I (fun n s hI => ?_) n h
  show wpAny _ A ((compTurn (.ListComp elt [⟨target, iter, ifs, 0⟩] scope pos) 0 it acc env).onRaise (fun x => do noteFrame x env; theTreesLotGoes x)) _ _ s
  refine wpAny_noted ?_
  rw [compTurn_list]
  refine wpAny_bind (wpAny_standAt (wpAny_bind (wpAny_mono (turn n s hI) (fun r s₁ h₁ => ?_) fun _ _ h' => h'.elim)))
  cases r with
  | none => exact wpAny_pure h₁
  | some v =>
    refine wpAny_bind (wpAny_mono h₁ (fun _ s₁' h₁' => wpAny_bind (wpAny_mono h₁' (fun _ s₂ h₂ => wpAny_bind (wpAny_mono h₂ (fun ok s₃ h₃ => ?_) fun _ _ h' => h'.elim)) fun _ _ h' => h'.elim)) fun _ _ h' => h'.elim)
    cases ok with
    | false => exact wpAny_pure ⟨rfl, h₃⟩
    | true =>
      exact wpAny_bind (wpAny_bind (wpAny_mono h₃ (fun x s₄ h₄ => wpAny_bind (wpAny_mono h₄ (fun _ s₅ h₅ => wpAny_pure (wpAny_pure ⟨rfl, h₅⟩)) fun _ _ h' => h'.elim)) fun _ _ h' => h'.elim))
def PTs (X : Cx) (ifs : List Expr) (t : TT) : Prop :=
  ∀ (pins : List (Addr × Obj)) (s : Shared) (σ : St) (H : Hp) (Q : Bool → Hp → Prop), Inv X pins σ H s → t σ H Q →
    wpAny (model X.prog X.w) X.A (forIn ifs true fun c r => if r = true then do let ok ← isTrue c X.env (eval c X.env); pure (ForInStep.yield ok) else pure (ForInStep.yield r)) (TP X pins σ Q) X.xe s
def tTrue : TT := fun _ H Q => Q true H
theorem pts_nil : PTs X [] tTrue := fun _ _ _ H _ I h => wpAny_tests_nil ⟨H, I, h⟩
theorem pts_one {c : Expr} {t : TT} (h : PT X c t) : PTs X [c] t := fun pins s σ H Q I q => wpAny_tests_one (h pins s σ H Q I q)
def tComp (m : Nat) (caps : List Nat) (wi : TI) (g : TG) (tc : TT) (te : TE) : TE := fun σ H Q => wi σ H fun J H1 => ∀ p, H1 p = none →
  ∃ W : Nat → Nat → List V → St → Hp → Prop, (∃ k, W 0 k [] (capSt m caps σ) (upd H1 p (.lst []))) ∧ ∀ i k acc σ' H', W i k acc σ' H' →
    (J.stop i H' ∧ H' p = some (.lst acc) ∧ Q (.ref p) H') ∨ (J.go i H' ∧ ∀ x H2, J.yld i H' x H2 → g x σ' H2 fun σ2 H3 => tc σ2 H3 fun b H4 => if b = true then
      te σ2 H4 fun y H5 => H5 p = some (.lst acc) ∧ acc.length < sizeLine ∧ ∃ k', k' < k ∧ W (i + 1) k' (acc ++ [y]) σ2 (upd H5 p (.lst (acc ++ [y])))
      else ∃ k', k' < k ∧ W (i + 1) k' acc σ2 H4)
theorem inv_back {scope : Scope} {N' : List Str} {fp : List Addr} {pins pins' : List (Addr × Obj)} {σ σ' : St} {H3 H' : Hp} {s3 s' : Shared} (I3 : Inv X pins σ H3 s3) (I' : Inv (cxC X scope N' fp s3 H3) pins' σ' H' s') (hfp : ∀ b ∈ fp, FpOk X pins H3 b) : Inv X pins σ H' s' :=
  I3.call' (ch := fp) I'.os I'.base I'.hok I'.bare fun b hb => ⟨(hfp b hb).2.2.2.1, (hfp b hb).2.1, (hfp b hb).2.2.2.2.1, (hfp b hb).2.2.2.2.2⟩
theorem comp_block {target iter elt : Expr} {ifs : List Expr} {scope : Scope} {pos : Pos} {own cap : List Str} {caps : List Nat} {g : TG} {tc : TT} {te : TE} {pins : List (Addr × Obj)} {σ : St} {H2 : Hp} {s₂ : Shared} {it : Addr} {fp : List Addr} {tn : Nat → Heap → Prop} {J : It} {E : Value → Shared → Prop}
    {RR : Value → Addr → Result → Shared → Prop} {Q : VK}
    (hc : X.calm = true) (Sc : CompSc X scope own cap caps)
    (hg : ∀ s H, PG (cxC X scope (own ++ cap) fp s H) target g) (ht : ∀ s H, PTs (cxC X scope (own ++ cap) fp s H) ifs tc) (he : ∀ s H, PE (cxC X scope (own ++ cap) fp s H) elt te)
    (I : Inv X pins σ H2 s₂) (T : Turn X.prog X.w X.K target J fp it tn) (t0 : tn 0 s₂.heap) (hfp : ∀ b ∈ fp, FpOk X pins H2 b)
    (hQ : ∀ p, H2 p = none → ∃ W : Nat → Nat → List V → St → Hp → Prop, (∃ k, W 0 k [] (capSt own.length caps σ) (upd H2 p (.lst []))) ∧ ∀ i k acc σ' H', W i k acc σ' H' →
      (J.stop i H' ∧ H' p = some (.lst acc) ∧ Q (.ref p) H') ∨ (J.go i H' ∧ ∀ x H2, J.yld i H' x H2 → g x σ' H2 fun σ2 H3 => tc σ2 H3 fun b H4 => if b = true then
        te σ2 H4 fun y H5 => H5 p = some (.lst acc) ∧ acc.length < sizeLine ∧ ∃ k', k' < k ∧ W (i + 1) k' (acc ++ [y]) σ2 (upd H5 p (.lst (acc ++ [y])))
        else ∃ k', k' < k ∧ W (i + 1) k' acc σ2 H4))
    (hRR : ∀ C p H' s' m, X.s₀.heap.objs.size ≤ C → C ≠ X.env.locals → (∀ x c, X.env.cells.lookup x = some c → c ≠ C) → (∀ q ∈ X.pn ++ pins, q.1 ≠ C) → H' C = none → s'.heap.Ns C m → Inv X pins σ H' s' → Q (.ref p) H' → RR (.ref p) C (.ok .next) s') :
    wpAny (model X.prog X.w) X.A (newList []) (fun acc s₃ => wpAny (model X.prog X.w) X.A (newFunctionEnv scope X.env.globals (closOf X.env scope.names []) [] X.env.qual none .none (some X.env)) (fun cenv s₄ =>
      codeAny (model X.prog X.w) X.A (.compStart (.ListComp elt [⟨target, iter, ifs, 0⟩] scope pos) 0 (.ref it) acc { cenv with scope := relabel scope X.env }) (RR acc cenv.locals) s₄) E s₃) E s₂ := by
  refine wpAny_newObj_type (wpAny_newFunctionEnv Sc.cell (by intro y hy; simp at hy) (fun h₁ hns₁ hsb₁ => ?_) Sc.kind)
  dsimp only at hns₁ hsb₁ ⊢
  have hD0 : H2 s₂.heap.objs.size = none := I.hok.fresh (Nat.le_refl _)
  have I3 : Inv X pins σ (upd H2 s₂.heap.objs.size (.lst [])) { s₂ with heap := s₂.heap.push { cls := .type "list", dict := none, data := .seq ([] : List Value).toArray } } := I.lnew (t' := s₂.toks) .nil (Nat.zero_le _)
  obtain ⟨W, ⟨k0, w0⟩, turn⟩ := hQ s₂.heap.objs.size hD0
  have old : ∀ b o, s₂.heap.get? b = some o → (s₂.heap.push { cls := .type "list", dict := none, data := .seq ([] : List Value).toArray }).get? b = some o := fun b o e => Heap.get?_push_of_some _ e
  have hbD : ∀ b ∈ fp, b ≠ s₂.heap.objs.size := fun b hb => by
    obtain ⟨o, ho, _⟩ := T.obj 0 s₂.heap t0 b hb
    exact Nat.ne_of_lt (Heap.lt_size ho)
  have hfp3 : ∀ b ∈ fp, FpOk X pins (upd H2 s₂.heap.objs.size (.lst [])) b := fun b hb => ⟨by rw [upd_ne (hbD b hb)]; exact (hfp b hb).1, (hfp b hb).2⟩
  have hob : ∀ b ∈ fp, ∃ o, (s₂.heap.push { cls := .type "list", dict := none, data := .seq ([] : List Value).toArray }).get? b = some o := fun b hb => by
    obtain ⟨o, ho, _⟩ := T.obj 0 s₂.heap t0 b hb
    exact ⟨o, old b o ho⟩
  have hk : ∀ b o, (s₂.heap.push { cls := .type "list", dict := none, data := .seq ([] : List Value).toArray }).get? b = some o → h₁.get? b = some o := fun b o e =>
    hsb₁.extBut b o (Nat.ne_of_lt (Heap.lt_size e)) (Heap.get?_push_of_some _ e)
  have st1 : tn 0 h₁ := T.keep 0 _ _ t0 fun b hb o e => hk b o (old b o e)
  generalize hs3 : ({ s₂ with heap := s₂.heap.push { cls := .type "list", dict := none, data := .seq ([] : List Value).toArray } } : Shared) = s3 at I3
  have hh3 : s3.heap = s₂.heap.push { cls := .type "list", dict := none, data := .seq ([] : List Value).toArray } := by rw [← hs3]
  rw [← hh3] at hns₁ hsb₁ hob hk ⊢
  generalize s₂.heap.objs.size = D at *
  generalize hH3 : upd H2 D (.lst []) = H3 at *
  have loop : ∀ s₄ : Shared, s₄ = { s3 with heap := h₁, toks := s₂.toks + ([] : List (Str × Value)).length } →
      codeAny (model X.prog X.w) X.A (.compLoop (.ListComp elt [⟨target, iter, ifs, 0⟩] scope pos) 0 (.ref it) (.ref D) (compEnvC scope (closOf X.env scope.names []) s3.heap.objs.size X.env)) (RR (.ref D) s3.heap.objs.size) s₄ := by
    rintro s₄ rfl
    have I4 := inv_comp (tk := s₂.toks + ([] : List (Str × Value)).length) Sc I3 hfp3 hob hns₁ hk
    have stat : ∀ {H' : Hp}, (∀ b ∈ fp, H' b = none) → ∀ b ∈ fp, FpOk (cxC X scope (own ++ cap) fp s3 H3) [] H' b := fun hn b hb => by
      refine ⟨hn b hb, (I4.ok.exf b hb).1, I4.ok.exfs b hb, .inl hb, (I4.ok.exf b hb).2, fun p hp => absurd (show p ∈ ([] : List (Addr × Obj)) from hp) (by simp)⟩
    refine comp_loop (fun n s' => ∃ i acc σ' H', Inv (cxC X scope (own ++ cap) fp s3 H3) [] σ' H' s' ∧ tn i s'.heap ∧ (∀ b ∈ fp, H' b = none) ∧ W i n acc σ' H') ?_ k0 ⟨0, [], _, _, I4, st1, fun b hb => (hfp3 b hb).1, w0⟩
    rintro n s5 ⟨i, acc, σ5, H5, I5, st5, fr5, w5⟩
    rcases turn i n acc σ5 H5 w5 with ⟨stop, hp, q⟩ | ⟨go, step⟩
    · refine thn (T.done (cxC X scope (own ++ cap) fp s3 H3) rfl rfl rfl hc i [] s5 σ5 H5 _ I5 (stat fr5) st5 stop) fun r s6 ⟨hr, I6⟩ => ?_
      subst hr
      obtain ⟨m, hm, _⟩ := I6.loc
      refine hRR s3.heap.objs.size D H5 s6 m I3.sz (Nat.ne_of_gt I3.lt) (fun x c e => ?_) (fun p hp => ?_) I6.free hm (inv_back I3 I6 hfp3) q
      · obtain ⟨v, o, ho, _⟩ := I3.cell x c e
        exact Nat.ne_of_lt (Heap.lt_size ho)
      · exact Nat.ne_of_lt (Heap.lt_size (I3.pin p hp).1)
    · refine thn (T.item (cxC X scope (own ++ cap) fp s3 H3) rfl rfl rfl hc i [] s5 σ5 H5 _ I5 (stat fr5) st5 go) fun r s6 ⟨u, hr, h6⟩ => ?_
      subst hr
      refine thn h6 fun _ s7 ⟨x, H7, I7, r7, y7, st7, fr7⟩ => ?_
      have I7' := I7.pinned (stat fr7) (T.obj _ _ st7)
      refine thn (hg s3 H3 _ s7 σ5 H7 x u _ I7' r7 (step x H7 y7)) fun _ s8 ⟨σ8, H8, I8, q8⟩ => ?_
      refine thn (ht s3 H3 _ s8 σ8 H8 _ I8 q8) fun b s9 ⟨H9, I9, q9⟩ => ?_
      have again : ∀ {σz : St} {Hz : Hp} {sz : Shared}, Inv (cxC X scope (own ++ cap) fp s3 H3) ([] ++ pinsAt fp s7.heap) σz Hz sz → Inv (cxC X scope (own ++ cap) fp s3 H3) [] σz Hz sz ∧ tn (i + 1) sz.heap ∧ ∀ b ∈ fp, Hz b = none := fun {σz Hz sz} Iz => by
        refine ⟨Iz.unpinned, T.keep _ _ _ st7 fun b hb o e => (Iz.pin (b, o) (List.mem_append_right _ (List.mem_append_right _ (mem_pinsAt hb e)))).1, fun b hb => ?_⟩
        obtain ⟨o, e, d⟩ := T.obj _ _ st7 b hb
        exact (Iz.pin (b, o) (List.mem_append_right _ (List.mem_append_right _ (mem_pinsAt hb e)))).2.1
      cases b with
      | false =>
        rw [if_neg Bool.false_ne_true] at q9 ⊢
        obtain ⟨k', hk', w'⟩ := q9
        obtain ⟨a1, a2, a3⟩ := again I9
        exact ⟨k', hk', i + 1, acc, σ8, H9, a1, a2, a3, w'⟩
      | true =>
        rw [if_pos rfl] at q9 ⊢
        refine thn (he s3 H3 _ s9 σ8 H9 _ I9 q9) fun yv s10 ⟨y, H10, I10, r10, hp, hl, k', hk', w'⟩ => ?_
        refine thn (mt_append _ s10 σ8 H10 (.ref D) [y] (.ref D) [yv] (fun v Hz => Hz = upd H10 D (.lst (acc ++ [y]))) I10 rfl (.cons r10 .nil) ⟨D, acc, y, rfl, rfl, hp, hl, rfl⟩) fun _ s11 ⟨_, H11, I11, _, e11⟩ => ?_
        subst e11
        obtain ⟨a1, a2, a3⟩ := again I11
        exact ⟨k', hk', i + 1, acc ++ [y], σ8, _, a1, a2, a3, w'⟩
  have fin := loop _ rfl
  subst hs3
  exact codeAny_compStart_list fin (T.self _ _ _ _ _ st1 fin)
theorem PTs.ok {X : Cx} {scope : Scope} {own cap : List Str} {caps : List Nat} {pins : List (Addr × Obj)} {σ : St} {H : Hp} {s : Shared} (I : Inv X pins σ H s) (Sc : CompSc X scope own cap caps) : closureFor scope X.env = pure (closOf X.env scope.names []) :=
  closureFor_of fun n hn => I.ok.has n (Sc.out hn)
theorem pe_comp {target iter elt : Expr} {ifs : List Expr} {scope : Scope} {pos : Pos} {own cap : List Str} {caps : List Nat} {wi : TI} {g : TG} {tc : TT} {te : TE} (hc : X.calm = true) (Sc : CompSc X scope own cap caps) (hi : PI X target iter wi)
    (hg : ∀ fp s H, PG (cxC X scope (own ++ cap) fp s H) target g) (ht : ∀ fp s H, PTs (cxC X scope (own ++ cap) fp s H) ifs tc) (he : ∀ fp s H, PE (cxC X scope (own ++ cap) fp s H) elt te)
    (hs : ∀ x, foldedSetIterable iter X.env x = pure x := by intro _; rfl) : PE X (.ListComp elt [⟨target, iter, ifs, 0⟩] scope pos) (tComp own.length caps wi g tc te) := by
  intro pins s σ H Q I h
  rw [eval_ListComp]
  refine wpAny_comprehension_free (use := none) rfl hs (PTs.ok I Sc) Sc.kind Sc.nm (thn (hi pins s σ H _ I h) fun v s1 h1 => thn h1 fun itv s2 h2 => ?_)
  obtain ⟨it, fp, tn, J, H2, e, I2, T, st2, f2, q⟩ := h2
  subst e
  refine comp_block (Q := Q) (RR := fun acc C => compPost (model X.prog X.w) X.A X.xe none (EP X pins σ Q) acc C) hc Sc (hg fp) (ht fp) (he fp) I2 T st2 f2 q ?_
  intro C p H' s' m h1 h2 h3 h4 h5 hn I' q'
  exact ⟨m, hn, fun h' hs' => ⟨.ref p, H', I'.turned (it := C) (t' := s'.toks) (fun b o hb e => hs'.extBut b o hb e) h5 (Ne.symm h2.symm) (.inr h1) h3 h4, rfl, q'⟩⟩
theorem ps_setcomp {target iter elt : Expr} {ifs : List Expr} {scope : Scope} {pos spos py : Pos} {own cap : List Str} {caps : List Nat} {wi : TI} {g : TG} {tc : TT} {te : TE} {i : Nat} {y : Str} (hc : X.calm = true) (Sc : CompSc X scope own cap caps) (hi : PI X target iter wi)
    (hg : ∀ fp s H, PG (cxC X scope (own ++ cap) fp s H) target g) (ht : ∀ fp s H, PTs (cxC X scope (own ++ cap) fp s H) ifs tc) (he : ∀ fp s H, PE (cxC X scope (own ++ cap) fp s H) elt te)
    (hN : X.N.Nodup) (hx : X.N[i]? = some y) (hl : Loc X.env.scope y)
    (hsw : swapsWith (.ListComp elt [⟨target, iter, ifs, 0⟩] scope pos) (some (.Name y py)) spos.line X.env = pure true)
    (hs : ∀ x, foldedSetIterable iter X.env x = pure x := by intro _; rfl) (hf : X.fn y = true ∨ X.env.scope.names.lookup y = some .local := by first | exact .inl rfl | exact .inr rfl | assumption) :
    PS X (.Assign [.Name y py] (.ListComp elt [⟨target, iter, ifs, 0⟩] scope pos) spos) (tAsg (tComp own.length caps wi g tc te) (gName i)) := by
  intro pins s σ H D I h
  rw [exec_Assign_Name_used _ _ _ _ hsw]
  refine wpAny_bind (wpAny_standAt (wpAny_bind ?_))
  show wpAny _ _ (do let _ ← comprehension (.ListComp elt [⟨target, iter, ifs, 0⟩] scope pos) scope X.env _ (newList []) false (eval iter X.env) (some (assign (.Name y py) X.env))) _ _ s
  refine wpAny_bind (wpAny_mono (wpAny_comprehension_free (use := some (assign (.Name y py) X.env)) (Q := fun _ s' => SP X pins D .next s') rfl hs (PTs.ok I Sc) Sc.kind Sc.nm
    (thn (hi pins s σ H _ I h) fun v s1 h1 => thn h1 fun itv s2 h2 => ?_)) (fun _ s' hq => wpAny_pure (wpAny_pure hq)) fun _ _ e => e)
  obtain ⟨it, fp, tn, J, H2, e, I2, T, st2, f2, q⟩ := h2
  subst e
  refine comp_block (Q := fun v H' => gName i v σ H' D.nx) (RR := fun acc C => compPost (model X.prog X.w) X.A X.xe (some (assign (.Name y py) X.env)) (fun _ s' => SP X pins D .next s') acc C) hc Sc (hg fp) (ht fp) (he fp) I2 T st2 f2 q ?_
  intro C p H' s' m h1 h2 h3 h4 h5 hn I' q'
  show wpAny _ _ (assign (.Name y py) X.env (.ref p)) _ _ _
  refine wpAny_assign_Name (store_ok2 I' hN hx hl (show RelV (.ref p) (.ref p) from rfl) (fun s'' I'' ⟨a, hsb, ha⟩ => ?_) hf)
  have haC : C ≠ a := by
    rcases ha with rfl | ha
    · exact h2
    · exact (h3 _ _ ha).symm
  exact ⟨m, hn.sameBut hsb haC, fun h' hs' => ⟨_, H', I''.turned (it := C) (t' := s''.toks) (fun b o hb e => hs'.extBut b o hb e) h5 h2 (.inr h1) h3 h4, q'⟩⟩
end
end L2
set_option maxRecDepth 100000
set_option maxHeartbeats 4000000
namespace L2
open PySem PySem.Spec PyProof.Rows
section
variable {X : Cx}
def rCatL (K : PySem.W.Frag) : R2 := fun x y H Q => ∃ l b xs zs, x = .ref l ∧ y = .ref b ∧ SqL K H l xs ∧ SqL K H b zs ∧ xs.length + zs.length ≤ sizeLine ∧ ∀ p, H p = none → Q (.ref p) (upd H p (.lst (xs ++ zs)))
theorem op_catL : OpR X (binaryOp .Add) (rCatL X.K) := by
  intro pins s σ H x y v u Q I rx ry h
  obtain ⟨l, b, xs, zs, rfl, rfl, hH, hB, hz, q⟩ := h
  cases rx
  cases ry
  obtain ⟨its, r, pl, _⟩ := I.list hH
  obtain ⟨its2, r2, pl2, _⟩ := I.list hB
  obtain ⟨⟨cls, dd, data, sl⟩, ho, hc, n, hd⟩ := pl.isList
  obtain ⟨⟨cls2, dd2, data2, sl2⟩, ho2, hc2, n2, hd2⟩ := pl2.isList
  simp only at hc hd hc2 hd2
  subst hc hd hc2 hd2
  have e : its.toArray ++ its2.toArray = (its ++ its2).toArray := by simp
  have hl1 := r.length
  have hl2 := r2.length
  refine concat_meets ⟨_, ho, rfl⟩ ⟨_, ho2, rfl⟩ noFill_list_add seq_list_add PySem.F.slot_list_add PySem.F.entry_list_add (PySem.F.args_list_add_2 _ _) (list_addW l b its.toArray its2.toArray n n2 dd dd2 sl sl2 (by simp only [List.size_toArray]; omega)) ⟨ho, ho2, ?_⟩
  rw [e]
  exact ⟨.ref _, _, I.lnew (t' := s.toks) (r.append r2) (by rw [List.length_append]; omega), rfl, q _ I.fresh⟩
mutual
def RdV (K : PySem.W.Frag) (H : Hp) : PyData → V → Prop
  | .none, v => v = .non
  | .bool b, v => v = .bl b
  | .int i, v => v = .int i
  | .str x, v => v = .str x
  | .list ds, v => ∃ a xs, v = .ref a ∧ SqL K H a xs ∧ RdVs K H ds xs
  | .tuple ds, v => ∃ a xs, v = .ref a ∧ SqT K H a xs ∧ RdVs K H ds xs
  | .dict _, _ => False
def RdVs (K : PySem.W.Frag) (H : Hp) : List PyData → List V → Prop
  | [], xs => xs = []
  | d :: ds, xs => ∃ v r, xs = v :: r ∧ RdV K H d v ∧ RdVs K H ds r
end
mutual
theorem rdv_reads {pins : List (Addr × Obj)} {σ : St} {H : Hp} {s : Shared} (I : Inv X pins σ H s) : ∀ {d : PyData} {v : V} {u : Value}, RdV X.K H d v → RelV v u → ∃ as, Reads s.heap u d as
  | .none, v, u, h, r => by
    unfold RdV at h; subst h
    cases (show u = Value.none from r); exact ⟨_, .none⟩
  | .bool b, v, u, h, r => by
    unfold RdV at h; subst h
    cases (show u = Value.bool b from r); exact ⟨_, .bool b⟩
  | .int i, v, u, h, r => by
    unfold RdV at h; subst h
    obtain ⟨t, rfl⟩ := (show ∃ t, u = Value.int i t from r); exact ⟨_, .int i t⟩
  | .str x, v, u, h, r => by
    unfold RdV at h; subst h
    obtain ⟨t, rfl⟩ := (show ∃ t, u = Value.str x t from r); exact ⟨_, .str x t⟩
  | .list ds, v, u, h, r => by
    unfold RdV at h
    obtain ⟨a, xs, rfl, hs, hr⟩ := h
    cases (show u = Value.ref a from r)
    obtain ⟨its, rv, pl, _⟩ := I.list hs
    obtain ⟨o, ho, hc, n, hd⟩ := pl.isList
    obtain ⟨as, ra⟩ := rdvs_reads I hr rv
    exact ⟨_, .list ho hc hd (by simpa using ra)⟩
  | .tuple ds, v, u, h, r => by
    unfold RdV at h
    obtain ⟨a, xs, rfl, hs, hr⟩ := h
    cases (show u = Value.ref a from r)
    obtain ⟨its, rv, ⟨o, ho, hc, n, hd⟩, _⟩ := I.tuple hs
    obtain ⟨as, ra⟩ := rdvs_reads I hr rv
    exact ⟨_, .tuple ho hc hd (by simpa using ra)⟩
  | .dict _, v, u, h, r => by unfold RdV at h; exact h.elim
theorem rdvs_reads {pins : List (Addr × Obj)} {σ : St} {H : Hp} {s : Shared} (I : Inv X pins σ H s) : ∀ {ds : List PyData} {xs : List V} {us : List Value}, RdVs X.K H ds xs → Vals xs us → ∃ as, ReadsAll s.heap us ds as
  | [], xs, us, h, r => by
    unfold RdVs at h; subst h
    cases r; exact ⟨_, .nil⟩
  | d :: ds, xs, us, h, r => by
    unfold RdVs at h
    obtain ⟨v, w, rfl, h1, h2⟩ := h
    cases r with
    | cons r1 r2 =>
      obtain ⟨as, a1⟩ := rdv_reads I h1 r1
      obtain ⟨bs, a2⟩ := rdvs_reads I h2 r2
      exact ⟨_, .cons a1 a2⟩
end
def rEqD (K : PySem.W.Frag) : R2 := fun x y H Q => ∃ d e, RdV K H d x ∧ RdV K H e y ∧ SeqAt.shaped d = true ∧ SeqAt.shaped e = true ∧ Q (.bl (PyData.eqv d e)) H
def rNeD (K : PySem.W.Frag) : R2 := fun x y H Q => ∃ d e, RdV K H d x ∧ RdV K H e y ∧ SeqAt.shaped d = true ∧ SeqAt.shaped e = true ∧ Q (.bl (!PyData.eqv d e)) H
theorem op_eqD (hu : X.A.units + 64 < cLine) : OpR X (compareOp .Eq) (rEqD X.K) := by
  intro pins s σ H x y v u Q I rx ry h
  obtain ⟨d, e, h1, h2, s1, s2, q⟩ := h
  obtain ⟨as, ra⟩ := rdv_reads I h1 rx
  obtain ⟨bs, rb⟩ := rdv_reads I h2 ry
  exact SeqAt.compareEq_shaped ra rb s1 s2 hu ⟨.bl _, H, I, rfl, q⟩
theorem op_neD (hu : X.A.units + 64 < cLine) : OpR X (compareOp .NotEq) (rNeD X.K) := by
  intro pins s σ H x y v u Q I rx ry h
  obtain ⟨d, e, h1, h2, s1, s2, q⟩ := h
  obtain ⟨as, ra⟩ := rdv_reads I h1 rx
  obtain ⟨bs, rb⟩ := rdv_reads I h2 ry
  exact SeqAt.compareNe_shaped ra rb s1 s2 hu ⟨.bl _, H, I, rfl, q⟩
def tyOfV (K : PySem.W.Frag) (H : Hp) (x : V) (T : String) : Prop := match x with
  | .non => T = "NoneType"
  | .bl _ => T = "bool"
  | .int _ => T = "int"
  | .str _ => T = "str"
  | .ref a => (T = "list" ∧ ∃ xs, SqL K H a xs) ∨ (T = "tuple" ∧ ∃ xs, SqT K H a xs)
  | _ => False
def rIsi (K : PySem.W.Frag) : List V → Hp → VK → Prop := fun xs H Q => ∃ x c T b, xs = [x, .ty c] ∧ tyOfV K H x T ∧ PySem.W.kitOne K (.type T) (.type c) = some b ∧ Q (.bl b) H
theorem call_isi : CallR X (.builtin "isinstance") (rIsi X.K) := by
  intro pins s σ H xs us Q I r h
  obtain ⟨x, c, T, b, rfl, hT, hk, q⟩ := h
  obtain ⟨u, w, rfl, r1, r2⟩ := vals2 r
  cases (show w = Value.type c from r2)
  have fin : ∀ tk, EP X pins σ Q (.bool b) { s with toks := tk } := fun tk => ⟨.bl b, H, I.tok tk, rfl, q⟩
  cases x with
  | non => cases (show u = Value.none from r1); cases (show T = "NoneType" from hT); exact PySem.W.kia_one PySem.W.kitx_none I.kIn True.intro hk (fun z => nomatch z) fin
  | bl y => cases (show u = Value.bool y from r1); cases (show T = "bool" from hT); exact PySem.W.kia_one PySem.W.kitx_bool I.kIn True.intro hk (fun z => nomatch z) fin
  | int i => obtain ⟨t, e⟩ := (show ∃ t, u = Value.int i t from r1); cases e; cases (show T = "int" from hT); exact PySem.W.kia_one PySem.W.kitx_int I.kIn True.intro hk (fun z => nomatch z) fin
  | str y => obtain ⟨t, e⟩ := (show ∃ t, u = Value.str y t from r1); cases e; cases (show T = "str" from hT); exact PySem.W.kia_one PySem.W.kitx_str I.kIn True.intro hk (fun z => nomatch z) fin
  | ref a =>
    cases (show u = Value.ref a from r1)
    rcases hT with ⟨rfl, xs, hs⟩ | ⟨rfl, xs, hs⟩
    · obtain ⟨its, rv, ⟨o, n, ho, hc, _⟩, _⟩ := I.list hs
      exact PySem.W.kia_one PySem.W.kitx_list I.kIn ⟨o, ho, hc⟩ hk (fun z => nomatch z) fin
    · obtain ⟨its, rv, ⟨o, ho, hc, _⟩, _⟩ := I.tuple hs
      exact PySem.W.kia_one PySem.W.kitx_tuple I.kIn ⟨o, ho, hc⟩ hk (fun z => nomatch z) fin
  | byt y => exact False.elim hT
  | flt y => exact False.elim hT
  | ty y => exact False.elim hT
end
end L2
set_option maxRecDepth 100000
set_option maxHeartbeats 4000000
namespace L2
open PySem PySem.Spec PyProof.Rows
structure XLeft (S : List Addr) (e : Addr) (oe : Obj) (h h' : Heap) (T : Addr) : Prop where
  keep : ∀ b o, h.get? b = some o → b ∉ S → b ≠ e → h'.get? b = some o
  slot : ∀ b o, h.get? b = some o → b ∈ S → ∃ sl, h'.get? b = some { o with slots := sl }
  new : h.objs.size ≤ T
  ne : T ≠ e
  exc : ∃ oe' vs, h'.get? e = some oe' ∧ oe'.cls = oe.cls ∧ oe'.dict = oe.dict ∧ oe'.data = .fields vs ∧ vs[1]? = some (.ref T)
  trc : ∃ oT ts, h'.get? T = some oT ∧ oT.data = .fields ts ∧ ts[3]? = some .none
section
variable {M : Model} {A : Around} {E : Value → Shared → Prop} {s : Shared}
structure Trc (h : Heap) (e : Addr) (oe : Obj) (T : Addr) : Prop where
  exc : h.get? e = some oe
  dat : ∃ vs, oe.data = .fields vs ∧ vs[1]? = some (.ref T)
  ne : T ≠ e
  trc : ∃ oT ts, h.get? T = some oT ∧ oT.data = .fields ts ∧ ts[3]? = some .none
end
end L2
set_option maxRecDepth 100000
set_option maxHeartbeats 4000000
namespace L2
open PySem PySem.Spec PyProof.Rows
theorem ObjOk.there {P : Program} {w : World} {H : Hp} {h : Heap} {a : Addr} {o : HO} (x : ObjOk P w H h a o) : ∃ u, h.get? a = some u := by
  cases o with
  | lst xs => exact let ⟨_, _, _, _, e⟩ := x; ⟨_, e⟩
  | tup xs => exact let ⟨_, _, _, ob, e, _⟩ := x; ⟨_, e⟩
  | dK kvs => exact let ⟨_, _, _, _, ob, _, _, e, _⟩ := x; ⟨_, e⟩
  | dT kvs => exact let ⟨_, _, _, _, ob, _, _, e, _⟩ := x; ⟨_, e⟩
  | set S n => exact let ⟨ob, _, _, _, e, _⟩ := x; ⟨_, e⟩
  | ins C dx fs => exact let ⟨_, _, _, e, _⟩ := x; ⟨_, e⟩
  | own y => exact x
  | xd fs => exact let ⟨_, ⟨_, _, _, e, _⟩, _⟩ := x; ⟨_, e⟩
  | rng lo hi => exact let ⟨_, _, _, e⟩ := x; ⟨_, e⟩
  | frz ob u => exact let ⟨e, _⟩ := x; ⟨_, e⟩
  | tbl ps => exact ⟨_, x⟩
  | met f y => exact ⟨_, x⟩
  | ext φ => exact x.2.1
theorem HOk.free {P : Program} {w : World} {H : Hp} {h : Heap} {a : Addr} (x : HOk P w H h) (n : h.get? a = none) : H a = none := by
  cases e : H a with
  | none => rfl
  | some o =>
    obtain ⟨u, hu⟩ := (x a o e).there
    rw [n] at hu; cases hu
structure Flies (P : Program) (w : World) (fs : List Addr) (H : Hp) (h : Heap) (x : Addr) (H' : Hp) (h' : Heap) (oe : Obj) (T C : Addr) : Prop where
  un : Un fs [] H H' h h'
  hok : HOk P w H' h'
  nx : h.get? x = none
  nT : h.get? T = none
  hx : H' x = none
  hT : H' T = none
  tr : Trc h' x oe T
  cls : oe.cls = .ref C
def CXE (P : Program) (w : World) : CXT := fun outer H s E e s' => ∃ x oe T H' C, e = .ref x ∧ s'.os = s.os ∧ AllBare s'.gens ∧ Flies P w (frs outer) H s.heap x H' s'.heap oe T C ∧ E (.ref C) oe.dict H'
section
variable {X : Cx} {pins : List (Addr × Obj)} {σ : St} {H : Hp} {s : Shared}
theorem Inv.old (I : Inv X pins σ H s) (hex : X.ex = []) {a : Addr} (n : s.heap.get? a = none) : X.s₀.heap.get? a = none := by
  cases e : X.s₀.heap.get? a with
  | none => rfl
  | some o =>
    obtain ⟨o', q⟩ := I.base.there a o e (by rw [hex]; simp)
    rw [n] at q; cases q
end
section
variable {P : Program} {w : World} {K : PySem.W.Frag} {mg : Str → Option Value} {base : Heap} {N : List Str} {qual : Str} {scope : Scope} {f : Addr} {cd : Value} {A : Around} {outer : List Env} {s0 : Shared} {H0 : Hp} {E : XK}
end
end L2
set_option maxRecDepth 100000
set_option maxHeartbeats 4000000
namespace L2
open PySem PySem.Spec PyProof.Rows
section
variable {X : Cx} {E : XK} {c : Str} {C : Addr} {np cpos pos : Pos} {e : Expr} {es : List Expr} {t : TA} {B newId initId : String} {bmB : List Value}
end
section
variable {P : Program} {w : World} {K : PySem.W.Frag} {mg : Str → Option Value} {base : Heap}
theorem Fun.okE {CX : CXT} {x qual : Str} {st : Stmt} {f : Addr} {fd : FuncData} {N ps : List Str} {k : Nat} {sp : Sp} (F : Fun K x qual st f fd) (S : FnScope N ps (defScope st)) (len : ∀ vs H Q E, sp vs H Q E → vs.length = ps.length)
    (hb : ∀ (cdv : Value) (A : Around) (outer : List Env) (s : Shared) (H : Hp) (vs : List V) (Q : VK) (E : XK), Room k (A.deeper (envOfC qual (defScope st) s.heap.objs.size f cdv)) → sp vs H Q E →
      ∃ t, PSs (cxOf CX P w K mg base N qual (defScope st) f cdv A outer s H E) (defBody st) t ∧ t { nx := fun _ H' => Q .non H', rt := Q } (start N vs) H) : FnOk P w K mg base CX (k + 1) f fd ps sp := by
  obtain ⟨oc, od, kV, doc, pm, an, cdv, ct, osl, rfl, look, hcd⟩ := F.ex
  exact fn_of look hcd S len (hb cdv)
end
theorem walk_ofE {l : PySem.W.OpenLaw} {n k : Nat} {q : Program} {loose : List Str} {XP : (Str → Option Value) → Heap → Prop} {YP : World → Heap → Prop} {d : DefRec} {K : Params → PySem.W.Frag} {sp : PySem.W.Frag → Sp} {x : Str} (hn : l.most = some n) (hn2 : n ≤ sizeLine)
    (hdf : d.params.defaults = []) (hr : Room k callerA) (hi : importsNone q = true) (hY : ∀ (w : World) (h : Heap), YP w h → (K w.params).In h) (F : ∀ (w : World) (mg : Str → Option Value) (fa : Addr) (h : Heap), (K w.params).In h → h.Ns mainGlobals mg → mg d.name = some (.ref fa) →
      ∃ fd : FuncData, (∀ (s : Shared) (u : Value), BindsTo s fd ⟨[u], []⟩ [(x, u)]) ∧ ∀ base : Heap, (K w.params).In base → base.Ns mainGlobals mg → FnOk l.prog w (K w.params) mg base (CXE l.prog w) k fa fd [x] (sp (K w.params)))
    (hsp : ∀ (K : PySem.W.Frag) (H : Hp) (a : Addr) (ns : List Int), ns.length ≤ n → Only H → SqL K H a (ns.map V.int) → sp K [.ref a] H (fun v _ => v = .bl true) fun _ _ _ => False) : PySem.W.WalkO q loose XP YP l.row.toRowW d [] (fun f vs => PySem.call f vs) :=
  walk_of (K := K) (CX := fun w => CXE l.prog w) (sp := fun w => sp (K w.params)) hn hn2 hdf hr hi hY F (fun w H a ns h1 h2 h3 => hsp (K w.params) H a ns h1 h2 h3) fun _ _ _ _ _ ⟨_, _, _, _, _, _, _, _, _, z⟩ => z
end L2
set_option maxRecDepth 100000
set_option maxHeartbeats 4000000
namespace L2
open PySem PySem.Spec PyProof.Rows
def PassesS (CX : CXT) (X : Cx) (Es : St → XK) : Prop := ∀ (pins : List (Addr × Obj)) (σ : St) (H : Hp) (s : Shared) (e : Value) (s' : Shared), Inv X pins σ H s → CX X.stack H s (Es σ) e s' → X.xe e s'
theorem Passes.s {CX : CXT} {X : Cx} {E : XK} (h : Passes CX X E) : PassesS CX X fun _ => E := h
section
variable {X : Cx} {CX : CXT} {k : Nat} {f C : Addr} {fd : FuncData} {ps : List Str} {sp : Sp} {dvs : List V} {ds : List Value} {Es : St → XK} {x m : Str} {p pos apos : Pos} {e o : Expr} {es : List Expr} {ta : TE} {t : TA}
end
abbrev Cx.pinned (X : Cx) (p : List (Addr × Obj)) (E : Value → Shared → Prop) : Cx := { X with pn := p, xe := E }
theorem Cx.Ok.pinned {X : Cx} (ok : X.Ok) (p : List (Addr × Obj)) (E : Value → Shared → Prop) : (X.pinned p E).Ok := ⟨ok.mod, ok.kind, ok.glob, ok.blt, ok.above, ok.inj, ok.has, ok.cab, ok.hd, ok.frames, ok.stk, ok.exf, ok.bs, ok.bsz, ok.noex, ok.exfs, ok.funs, ok.frf⟩
theorem Cx.Ok.unpinned {X : Cx} {p : List (Addr × Obj)} {E : Value → Shared → Prop} (ok : (X.pinned p E).Ok) : X.Ok := ⟨ok.mod, ok.kind, ok.glob, ok.blt, ok.above, ok.inj, ok.has, ok.cab, ok.hd, ok.frames, ok.stk, ok.exf, ok.bs, ok.bsz, ok.noex, ok.exfs, ok.funs, ok.frf⟩
section
variable {X : Cx} {pins : List (Addr × Obj)} {σ : St} {H : Hp} {s : Shared} {E : Value → Shared → Prop}
end
end L2
set_option maxRecDepth 100000
set_option maxHeartbeats 4000000
namespace L2
open PySem PySem.Spec PyProof.Rows
def exO (a C : Addr) : HO := .ext fun h => ∃ o, h.get? a = some o ∧ o.cls = .ref C ∧ o.dict = none ∧ (∀ cd, o.data ≠ .cls cd)
section
variable {X : Cx} {pins : List (Addr × Obj)} {σ : St} {H : Hp} {s : Shared} {v : Value}
end
end L2
set_option maxRecDepth 100000
set_option maxHeartbeats 4000000
namespace L2
open PySem PySem.Spec PyProof.Rows
structure Caught (X : Cx) (pins : List (Addr × Obj)) (H : Hp) (s : Shared) (x C : Addr) : Prop where
  tr : ∃ oe T, Trc s.heap x oe T ∧ oe.cls = .ref C ∧ oe.dict = none
  hx : H x = none
  h0 : X.s₀.heap.get? x = none
  nl : x ≠ X.env.locals
  nc : ∀ y c, X.env.cells.lookup y = some c → c ≠ x
  np : ∀ p ∈ X.pn ++ pins, p.1 ≠ x
theorem Caught.kept {X : Cx} {pins : List (Addr × Obj)} {H : Hp} {s : Shared} {x C : Addr} {h' : Heap} (c : Caught X pins H s x C) (k : ∀ b u, s.heap.get? b = some u → h'.get? b = some u) : Caught X pins H { s with heap := h' } x C :=
  let ⟨oe, T, ⟨e, d, n, oT, ts, a1, a2⟩, hc⟩ := c.tr
  ⟨⟨oe, T, ⟨k _ _ e, d, n, oT, ts, k _ _ a1, a2⟩, hc⟩, c.hx, c.h0, c.nl, c.nc, c.np⟩
theorem Caught.obj {X : Cx} {pins : List (Addr × Obj)} {H : Hp} {s : Shared} {x C : Addr} (c : Caught X pins H s x C) : ∃ o, s.heap.get? x = some o ∧ o.cls = .ref C ∧ o.dict = none ∧ ∀ cd, o.data ≠ .cls cd :=
  let ⟨oe, T, ⟨e, ⟨vs, d, _⟩, _, _⟩, hc, hd⟩ := c.tr
  ⟨oe, e, hc, hd, fun cd z => by rw [d] at z; cases z⟩
section
variable {X : Cx} {c : Str} {Dc : Addr} {np pos : Pos} {b0 : Stmt} {suite : List Stmt} {rest : List ExceptHandler} {sub : Addr → Option Bool} {tb : TS} {th : Addr → TS}
end
end L2
set_option maxRecDepth 100000
set_option maxHeartbeats 4000000
namespace L2
open PySem PySem.Spec PyProof.Rows PySem.W
structure ExK (K : PySem.W.Frag) (D : Addr) : Prop where
  ga : findIn K (.ref D) "__getattribute__" = some (some (.builtin "BaseException.__getattribute__"))
  hk : findIn K (.ref D) "__getattr__" = some none
  cl : findIn K (.ref D) "__class__" = some (some (.builtin "object.__class__"))
  gt : specialIn K (.builtin "object.__class__") "__get__" = some (some (.builtin "getset_descriptor.__get__"))
  tk : takesIn K (.builtin "object.__class__") = some true
  ob : mroIn K D (.type "object") = some true
  be : mroIn K D (.type "BaseException") = some true
section
variable {prog : Program} {w : World} {A : Around} {E : Value → Shared → Prop} {s : Shared} {K : PySem.W.Frag} {x D : Addr} {ox : Obj}
theorem ExK.cls (k : ExK K D) : (clsIn K D).isSome = true := by
  obtain ⟨cd, hc, _⟩ := Option.bind_eq_some_iff.mp k.ob
  rw [hc]; rfl
end
end L2
set_option maxRecDepth 100000
set_option maxHeartbeats 4000000
namespace L2
open PySem PySem.Spec PyProof.Rows
section
variable {X : Cx} {pins : List (Addr × Obj)} {σ : List (Option V)} {H : Hp} {s : Shared} {h' : Heap}
theorem Inv.turnedL {t' : Nat} {ch : List Addr} (I : Inv X pins σ H s) (k : ∀ b o, b ∉ ch → s.heap.get? b = some o → h'.get? b = some o) (hf : ∀ b ∈ ch, FpOk X pins H b) : Inv X pins σ H { s with heap := h', toks := t' } := by
  have nit : ∀ b u, H b = some u → b ∉ ch := fun b u e z => by rw [(hf b z).1] at e; cases e
  refine I.step (g' := s.gens) (d' := s.drawn) (ch := ch) (fun b hb => ?_) (fun b o _ _ hc e _ => k b o hc e) (fun b o _ _ hc e _ => ⟨o.slots, k b o hc e⟩) (fun _ _ _ _ n => n)
    (fun b o hc e => ⟨o, k b o hc e⟩) (fun _ _ e => e) (fun _ _ _ e => e) (fun b ps e => ⟨#[], by rw [e]; simp⟩) (fun m hm => ?_) (fun b u e => ?_) I.bare
  · obtain ⟨f0, f1, f2, f3, f4, f5⟩ := hf b hb
    exact ⟨f3, f1, f4, f5⟩
  · obtain ⟨o, es, ep, ho, r⟩ := hm
    exact ⟨o, es, ep, k _ o (fun z => (hf _ z).2.1 rfl) ho, r⟩
  · refine (I.hok b u e).stay (fun c v hc q => k c v ?_ q) (fun _ q => q) fun _ _ q => q
    rcases hc with z | z
    · rw [z]; exact nit b u e
    · exact nit c _ z
theorem Inv.turnedT {t' : Nat} {ch : List Addr} {T : Addr} {xs : List V} (I : Inv X pins σ H s) (k : ∀ b o, b ∉ ch → s.heap.get? b = some o → h'.get? b = some o) (hf : ∀ b ∈ ch, FpOk X pins H b) (hT : s.heap.objs.size ≤ T)
    (new : ObjOk X.prog X.w (upd H T (.tup xs)) h' T (.tup xs)) : Inv X pins σ (upd H T (.tup xs)) { s with heap := h', toks := t' } := by
  have hn : H T = none := I.hok.fresh hT
  have nit : ∀ b u, H b = some u → b ∉ ch := fun b u e z => by rw [(hf b z).1] at e; cases e
  refine I.step (g' := s.gens) (d' := s.drawn) (ch := ch) (fun b hb => ?_) (fun b o _ _ hc e _ => k b o hc e) (fun b o _ _ hc e _ => ⟨o.slots, k b o hc e⟩) (fun b o _ e n => ?_)
    (fun b o hc e => ⟨o, k b o hc e⟩) (fun b xs e => by rw [upd_ne (ne_of_none e hn)]; exact e) (fun b o u e => by rw [upd_ne (ne_of_none e hn)]; exact e) (fun b ps e => ⟨#[], by rw [upd_ne (ne_of_none e hn), e]; simp⟩) (fun m hm => ?_) (fun b u e => ?_) I.bare
  · obtain ⟨f0, f1, f2, f3, f4, f5⟩ := hf b hb
    exact ⟨f3, f1, f4, f5⟩
  · have hb : b ≠ T := fun z => by
      subst z
      exact absurd (Nat.lt_of_lt_of_le (Heap.lt_size e) hT) (Nat.lt_irrefl _)
    rw [upd_ne hb]; exact n
  · obtain ⟨o, es, ep, ho, r⟩ := hm
    exact ⟨o, es, ep, k _ o (fun z => (hf _ z).2.1 rfl) ho, r⟩
  · by_cases hb : b = T
    · subst hb; rw [upd_same] at e; cases e; exact new
    · rw [upd_ne hb] at e
      refine (I.hok b u e).stay (fun c v hc q => k c v ?_ q) (fun c q => by rw [upd_ne (ne_of_none q hn)]; exact q) fun c xs q => by rw [upd_ne (ne_of_none q hn)]; exact q
      rcases hc with z | z
      · rw [z]; exact nit b u e
      · exact nit c _ z
end
def Itz (K : PySem.W.Frag) (a b : Addr) : It :=
  ⟨fun i H => ∃ xs ys x y, SqL K H a xs ∧ SqL K H b ys ∧ xs[i]? = some x ∧ ys[i]? = some y,
   fun i H v H' => ∃ T x y, H T = none ∧ v = .ref T ∧ H' = upd H T (.tup [x, y]) ∧ (∀ xs, SqL K H a xs → xs[i]? = some x) ∧ ∀ ys, SqL K H b ys → ys[i]? = some y,
   fun i H => ∃ xs ys, SqL K H a xs ∧ SqL K H b ys ∧ (xs.length ≤ i ∨ ys.length ≤ i)⟩
def Ite (K : PySem.W.Frag) (a : Addr) : It :=
  ⟨fun i H => ∃ xs x, SqL K H a xs ∧ xs[i]? = some x,
   fun i H v H' => ∃ T x, H T = none ∧ v = .ref T ∧ H' = upd H T (.tup [.int i, x]) ∧ ∀ xs, SqL K H a xs → xs[i]? = some x,
   fun i H => ∃ xs, SqL K H a xs ∧ xs.length ≤ i⟩
theorem two_ok {P : Program} {w : World} {H : Hp} {h : Heap} {T : Addr} {x y : V} {u v : Value} (rx : RelV x u) (ry : RelV y v) (hT : h.IsTuple T #[u, v]) : ObjOk P w H h T (.tup [x, y]) := by
  refine ⟨by simp only [List.length_cons, List.length_nil]; rw [sizeLine_eq]; decide, [u, v], .cons rx (.cons ry .nil), ?_⟩
  exact hT
theorem turn_zip {P : Program} {w : World} {K : PySem.W.Frag} {elts : List Expr} {kk : Nat} {tp : Pos} {z TI TO i1 i2 a b : Addr} (D : ZipApart z TI TO i1 i2 a b) :
    Turn P w K (.Tuple elts kk tp) (Itz K a b) [z, TI, TO, i1, i2] z (fun i h => IsZip h z TI TO .none ∧ IsPair h TI (.ref i1) (.ref i2) ∧ (∃ u v, IsPair h TO u v) ∧ h.IsListIter i1 a i ∧ h.IsListIter i2 b i) where
  mem := by simp
  obj := fun i h st c hc => by
    obtain ⟨q1, q2, ⟨u, v, q3⟩, ⟨o1, e1, c1, d1⟩, ⟨o2, e2, c2, d2⟩⟩ := st
    simp only [List.mem_cons, List.not_mem_nil, or_false] at hc
    rcases hc with rfl | rfl | rfl | rfl | rfl
    · exact ⟨_, q1, fun v z => by have z' : Data.fields _ = Data.cell v := z; cases z'⟩
    · exact ⟨_, q2, fun v z => by have z' : Data.seq _ _ = Data.cell v := z; cases z'⟩
    · exact ⟨_, q3, fun v z => by have z' : Data.seq _ _ = Data.cell v := z; cases z'⟩
    · exact ⟨o1, e1, fun v z => by rw [d1] at z; cases z⟩
    · exact ⟨o2, e2, fun v z => by rw [d2] at z; cases z⟩
  keep := fun i h h' st k => by
    obtain ⟨q1, q2, ⟨u, v, q3⟩, q4, q5⟩ := st
    exact ⟨k z (by simp) _ q1, k TI (by simp) _ q2, ⟨u, v, k TO (by simp) _ q3⟩, q4.at fun o e => k i1 (by simp) o e, q5.at fun o e => k i2 (by simp) o e⟩
  item := by
    intro X hP hw hK hc i pins s σ H E I hf st hg
    subst hP hw hK
    obtain ⟨xs, ys, x, y, hq1, hq2, hx, hy⟩ := hg
    obtain ⟨its1, rv1, p1, hz1⟩ := I.list hq1
    obtain ⟨its2, rv2, p2, hz2⟩ := I.list hq2
    obtain ⟨u, hu, ru⟩ := rv1.get hx
    obtain ⟨v, hv, rv⟩ := rv2.get hy
    obtain ⟨q1, q2, q3, q4, q5⟩ := id st
    have W := WalksT.zip2 (prog := X.prog) (w := X.w) (A := X.A) (I.ok.hd hc) z TI TO i1 i2 a b D its1.toArray its2.toArray
    have hi1 : i < its1.length := (List.getElem?_eq_some_iff.mp hu).1
    have hi2 : i < its2.length := (List.getElem?_eq_some_iff.mp hv).1
    refine W.item i s _ _ (by simp; omega) ⟨q1, q2, q3, q4, q5, p1.isList, p2.isList⟩ fun T vals h1 tk hP hT isT mid kk1 => ⟨.ref T, rfl, W.go elts _ tp i T _ _ _ mid fun h2 st2 kk2 => ?_⟩
    obtain ⟨u', v', e1, e2, rfl⟩ := hP
    rw [show its1.toArray[i]? = its1[i]? by simp, hu] at e1
    rw [show its2.toArray[i]? = its2[i]? by simp, hv] at e2
    cases e1; cases e2
    have nT : T ∉ ([z, TO, i1, i2] : List Addr) := W.apart i T _ mid
    have sub : ∀ c, c ∈ ([z, TO, i1, i2] : List Addr) → c ∈ ([z, TI, TO, i1, i2] : List Addr) := fun c hc => by
      simp only [List.mem_cons, List.not_mem_nil, or_false] at hc ⊢
      rcases hc with h | h | h | h <;> simp [h]
    have kk : ∀ c o, c ∉ ([z, TO, i1, i2] : List Addr) → s.heap.get? c = some o → h2.get? c = some o := fun c o hc e => kk2 c o hc (kk1 c o hc e)
    have isT2 : h2.IsTuple T #[u, v] := by
      obtain ⟨o, e, c, d⟩ := isT
      exact ⟨o, kk2 T o nT e, c, d⟩
    have I2 : Inv X pins σ (upd H T (.tup [x, y])) { s with heap := h2, toks := tk } := I.turnedT kk (fun c hc => hf c (sub c hc)) hT (two_ok ru rv isT2)
    refine ⟨.ref T, _, I2, rfl, ⟨T, x, y, I.hok.fresh hT, rfl, rfl, fun xs' h => by rw [I.list_inj h hq1]; exact hx, fun ys' h => by rw [I.list_inj h hq2]; exact hy⟩, ⟨st2.1, st2.2.1, st2.2.2.1, st2.2.2.2.1, st2.2.2.2.2.1⟩, fun c hc => ?_⟩
    have hc0 := (hf c hc).1
    rw [upd_ne (fun e => ?_)]
    · exact hc0
    · subst e
      simp only [List.mem_cons, List.not_mem_nil, or_false] at hc
      rcases hc with h | h | h | h | h
      · exact nT (by simp [h])
      · have : TI < s.heap.objs.size := Heap.lt_size q2
        rw [← h] at this
        exact absurd (Nat.lt_of_lt_of_le this hT) (Nat.lt_irrefl _)
      · exact nT (by simp [h])
      · exact nT (by simp [h])
      · exact nT (by simp [h])
  done := by
    intro X hP hw hK hc i pins s σ H E I hf st hg
    subst hP hw hK
    obtain ⟨xs, ys, hq1, hq2, hx⟩ := hg
    obtain ⟨its1, rv1, p1, hz1⟩ := I.list hq1
    obtain ⟨its2, rv2, p2, hz2⟩ := I.list hq2
    have l1 := rv1.length
    have l2 := rv2.length
    obtain ⟨q1, q2, ⟨u, v, q3⟩, q4, q5⟩ := id st
    refine wpAny_pyNext_zip_end (I.ok.hd hc) D q1 q2 q3 q4 q5 p1.isList p2.isList (by
      rcases hx with h | h
      · left; simp; omega
      · right; simp; omega) fun h' hk => ⟨rfl, ?_⟩
    exact I.turnedL (t' := s.toks) (ch := [z, TI, TO, i1, i2]) (fun c o hc e => hk c o (fun x => hc (by simp [x])) (fun x => hc (by simp [x])) (fun x => hc (by simp [x])) (fun x => hc (by simp [x])) e) hf
  self := fun _ _ _ _ _ st h => wpAny_pyIter_zip st.1 h
theorem turn_enum {P : Program} {w : World} {K : PySem.W.Frag} {elts : List Expr} {kk : Nat} {tp : Pos} {e it a : Addr} (hei : e ≠ it) (hle : a ≠ e) (hli : a ≠ it) :
    Turn P w K (.Tuple elts kk tp) (Ite K a) [e, it] e (fun i h => (∃ old, IsEnum h e it i old) ∧ h.IsListIter it a i) where
  mem := by simp
  obj := fun i h st c hc => by
    obtain ⟨⟨old, q1⟩, ⟨o1, e1, c1, d1⟩⟩ := st
    simp only [List.mem_cons, List.not_mem_nil, or_false] at hc
    rcases hc with rfl | rfl
    · exact ⟨_, q1, fun v z => by have z' : Data.fields _ = Data.cell v := z; cases z'⟩
    · exact ⟨o1, e1, fun v z => by rw [d1] at z; cases z⟩
  keep := fun i h h' st k => by
    obtain ⟨⟨old, q1⟩, q4⟩ := st
    exact ⟨⟨old, k e (by simp) _ q1⟩, q4.at fun o e' => k it (by simp) o e'⟩
  item := by
    intro X hP hw hK hc i pins s σ H E I hf st hg
    subst hP hw hK
    obtain ⟨xs, x, hq1, hx⟩ := hg
    obtain ⟨its1, rv1, p1, hz1⟩ := I.list hq1
    obtain ⟨u, hu, ru⟩ := rv1.get hx
    obtain ⟨q1, q4⟩ := id st
    have W := WalksT.enumerate (prog := X.prog) (w := X.w) (A := X.A) (I.ok.hd hc) e it a hei hle hli its1.toArray
    have hi1 : i < its1.length := (List.getElem?_eq_some_iff.mp hu).1
    refine W.item i s _ _ (by simpa using hi1) ⟨q1, q4, p1.isList⟩ fun T vals h1 tk hP hT isT mid kk1 => ⟨.ref T, rfl, W.go elts _ tp i T _ _ _ mid fun h2 st2 kk2 => ?_⟩
    obtain ⟨t, u', e1, rfl⟩ := hP
    rw [show its1.toArray[i]? = its1[i]? by simp, hu] at e1
    cases e1
    have nT : T ∉ ([e, it] : List Addr) := W.apart i T _ mid
    have kk : ∀ c o, c ∉ ([e, it] : List Addr) → s.heap.get? c = some o → h2.get? c = some o := fun c o hc e => kk2 c o hc (kk1 c o hc e)
    have isT2 : h2.IsTuple T #[.int i t, u] := by
      obtain ⟨o, e, c, d⟩ := isT
      exact ⟨o, kk2 T o nT e, c, d⟩
    have I2 : Inv X pins σ (upd H T (.tup [.int i, x])) { s with heap := h2, toks := tk } := I.turnedT kk hf hT (two_ok ⟨t, rfl⟩ ru isT2)
    refine ⟨.ref T, _, I2, rfl, ⟨T, x, I.hok.fresh hT, rfl, rfl, fun xs' h => by rw [I.list_inj h hq1]; exact hx⟩, ⟨st2.1, st2.2.1⟩, fun c hc => ?_⟩
    have hcT : c ≠ T := fun z => by
      subst z
      exact nT hc
    rw [upd_ne hcT]
    exact (hf c hc).1
  done := by
    intro X hP hw hK hc i pins s σ H E I hf st hg
    subst hP hw hK
    obtain ⟨xs, hq1, hx⟩ := hg
    obtain ⟨its1, rv1, p1, hz1⟩ := I.list hq1
    have l1 := rv1.length
    obtain ⟨⟨old, q1⟩, q4⟩ := id st
    refine wpAny_pyNext_enum_end (I.ok.hd hc) q1 q4 p1.isList (by simp; omega) fun h' hk => ⟨rfl, ?_⟩
    exact I.turnedL (t' := s.toks) (ch := [e, it]) (fun c o hc e' => hk c o (fun x => hc (by simp [x])) e') hf
  self := fun _ _ _ _ _ st h => let ⟨_, q⟩ := st.1; wpAny_pyIter_enum q h
section
variable {X : Cx} {tg : Expr}
def iZip (K : PySem.W.Frag) (ta : TA) : TI := fun σ H R => ta σ H fun vs H1 => ∃ a b, vs = [.ref a, .ref b] ∧ (∃ xs, SqL K H1 a xs) ∧ (∃ ys, SqL K H1 b ys) ∧ R (Itz K a b) H1
def iEnum (K : PySem.W.Frag) (ta : TA) : TI := fun σ H R => ta σ H fun vs H1 => ∃ a, vs = [.ref a] ∧ (∃ xs, SqL K H1 a xs) ∧ R (Ite K a) H1
theorem pi_zip {elts : List Expr} {kk : Nat} {tp : Pos} {a b : Expr} {ta : TA} {p pos : Pos} (hg : Gl X "zip") (hm : X.mg "zip" = none) (ha : PA X [a, b] ta) (hs : starEach [a, b] X.env = [(false, eval a X.env), (false, eval b X.env)] := by rfl) (hs2 : starEach [b] X.env = [(false, eval b X.env)] := by rfl) :
    PI X (.Tuple elts kk tp) (.Call (.Name "zip" p) [a, b] [] pos) (iZip X.K ta) := by
  intro pins s σ H R I h
  refine Call_ (ld_blt I hg hm Boot.«zip» (PyProof.Rows.callWith_type1 (thn (ha pos pins s σ H _ I h) fun us s1 ⟨vs, H1, I1, r1, q1⟩ => ?_) (by rw [hs, hs2]) (by rw [hs2]; rfl)))
  obtain ⟨l1, l2, e, ⟨xs, hq1⟩, ⟨ys, hq2⟩, q⟩ := q1
  subst e
  obtain ⟨u, v, rfl, r, r'⟩ := vals2 r1
  cases r
  cases r'
  obtain ⟨its1, rv1, p1, hz1⟩ := I1.list hq1
  obtain ⟨its2, rv2, p2, hz2⟩ := I1.list hq2
  refine call_zip_2 p1.isList p2.isList fun h' hz hTI hTO hi1 hi2 hsz hk => ?_
  have a1 : l1 < s1.heap.objs.size := by obtain ⟨_, e, _⟩ := p1.isList; exact Heap.lt_size e
  have a2 : l2 < s1.heap.objs.size := by obtain ⟨_, e, _⟩ := p2.isList; exact Heap.lt_size e
  refine wpAny_pyIter_zip hz ⟨_, _, _, _, H1, rfl, I1.kept (t' := s1.toks) hk, turn_zip (zipApart_new a1 a2), ⟨hz, hTI, ⟨_, _, hTO⟩, hi1, hi2⟩, fun b hb => ?_, q⟩
  have : s1.heap.objs.size ≤ b := by
    simp only [List.mem_cons, List.not_mem_nil, or_false] at hb
    rcases hb with rfl | rfl | rfl | rfl | rfl <;> omega
  exact I1.fpOk this (I1.hok.fresh this)
theorem pi_enum {elts : List Expr} {kk : Nat} {tp : Pos} {a : Expr} {ta : TA} {p pos : Pos} (hg : Gl X "enumerate") (hm : X.mg "enumerate" = none) (ha : PA X [a] ta) (hs : starEach [a] X.env = [(false, eval a X.env)] := by rfl) :
    PI X (.Tuple elts kk tp) (.Call (.Name "enumerate" p) [a] [] pos) (iEnum X.K ta) := by
  intro pins s σ H R I h
  refine Call_ (ld_blt I hg hm Boot.«enumerate» (PyProof.Rows.callWith_type1 (thn (ha pos pins s σ H _ I h) fun us s1 ⟨vs, H1, I1, r1, q1⟩ => ?_) hs rfl))
  obtain ⟨l1, e, ⟨xs, hq1⟩, q⟩ := q1
  subst e
  obtain ⟨u, rfl, ru⟩ := vals1 r1
  cases ru
  obtain ⟨its1, rv1, p1, hz1⟩ := I1.list hq1
  refine call_enumerate_list p1.isList fun h' hz hi1 hsz hk => ?_
  have a1 : l1 < s1.heap.objs.size := by obtain ⟨_, e, _⟩ := p1.isList; exact Heap.lt_size e
  refine wpAny_pyIter_enum hz ⟨_, _, _, _, H1, rfl, I1.kept (t' := s1.toks) hk, turn_enum (e := s1.heap.objs.size + 1) (it := s1.heap.objs.size) (a := l1) (Nat.succ_ne_self _) (Nat.ne_of_lt (Nat.lt_succ_of_lt a1)) (Nat.ne_of_lt a1), ⟨⟨_, hz⟩, hi1⟩, fun b hb => ?_, q⟩
  have : s1.heap.objs.size ≤ b := by
    simp only [List.mem_cons, List.not_mem_nil, or_false] at hb
    rcases hb with rfl | rfl <;> omega
  exact I1.fpOk this (I1.hok.fresh this)
theorem vals_intsA : ∀ {ns : List Int} {its : List Value}, Vals (ns.map V.int) its → IntsAre its ns
  | [], _, r => by cases r; exact .nil
  | n :: ns, _, r => by
    cases r with
    | cons r1 r2 =>
      obtain ⟨t, rfl⟩ := r1
      exact .cons _ _ (vals_intsA r2)
theorem call_sumL (hc : X.calm = true := by rfl) : CallR X (.builtin "sum") (fun xs H Q => ∃ (p : Addr) (ns : List Int), xs = [.ref p] ∧ SqL X.K H p (ns.map V.int) ∧ Q (.int ns.sum) H) := by
  intro pins s σ H xs us Q I r h
  obtain ⟨p, ns, rfl, hq, q⟩ := h
  obtain ⟨u, rfl, ru⟩ := vals1 r
  cases ru
  obtain ⟨its, rv, pl, hz⟩ := I.list hq
  have hI := vals_intsA rv
  obtain ⟨xs, exs⟩ := hI.allInts.items
  have hn : numsOf its = ns := hI.numsOf
  rw [show its = its.toArray.toList by simp, exs, nums_intItems] at hn
  refine sum_intListG (I.ok.hd hc) (exs ▸ pl.isList) fun h' tk t' hk => ?_
  rw [preSum_eq, List.take_of_length_le (by simp), hn]
  exact ⟨.int ns.sum, H, I.kept (t' := tk) hk, ⟨t', rfl⟩, q⟩
theorem bl_at {bs : List Bool} {its : List Value} (rv : Vals (bs.map V.bl) its) {i : Nat} {v : Value} (h : its.toArray[i]? = some v) : v = .bool (bs.getD i false) := by
  have hi : i < its.length := by
    have := (Array.getElem?_eq_some_iff.mp h).1
    simpa using this
  have hb : i < bs.length := by have := rv.length; rw [List.length_map] at this; omega
  obtain ⟨u, hu, ru⟩ := rv.get (i := i) (x := .bl bs[i]) (by simp [hb])
  rw [show its.toArray[i]? = its[i]? by simp, hu] at h
  cases h
  cases ru
  simp [List.getD_eq_getElem?_getD, hb]
theorem all_range (bs : List Bool) : (List.range bs.length).all (fun i => bs.getD i false) = bs.all id := by
  induction bs with
  | nil => rfl
  | cons b bs ih =>
    rw [List.length_cons, List.range_succ_eq_map, List.all_cons, List.all_map, List.all_cons]
    simp only [Function.comp_def, List.getD_cons_succ, List.getD_cons_zero, id]
    rw [ih]
theorem call_allL (hc : X.calm = true := by rfl) : CallR X (.builtin "all") (fun xs H Q => ∃ (p : Addr) (bs : List Bool), xs = [.ref p] ∧ SqL X.K H p (bs.map V.bl) ∧ Q (.bl (bs.all id)) H) := by
  intro pins s σ H xs us Q I r h
  obtain ⟨p, bs, rfl, hq, q⟩ := h
  obtain ⟨u, rfl, ru⟩ := vals1 r
  cases ru
  obtain ⟨its, rv, pl, hz⟩ := I.list hq
  have hl := pl.isList
  have lt : p < s.heap.objs.size := by obtain ⟨_, e, _⟩ := hl; exact Heap.lt_size e
  have hlen : its.toArray.size = bs.length := by have := rv.length; rw [List.length_map] at this; simp; omega
  refine call_all_walk (wpAny_pyIter_list hl ?_)
  refine ⟨_, _, _, _, _, _, fun i => bs.getD i false, rfl, Walks.list (A := X.A.in1) (I.ok.hd hc) s.heap.objs.size p (Nat.ne_of_lt lt) its.toArray, ⟨⟨_, Heap.get?_push_size _ rfl, rfl, rfl⟩, hl.push _⟩, fun i v s' Q' E' hP hQ => ?_, fun h' tk hk => ?_⟩
  · rw [bl_at rv hP]
    exact wpAny_truthy_bool hQ
  · rw [hlen, all_range]
    refine ⟨.bl (bs.all id), H, I.kept (t' := tk) fun b o e => hk b o (fun z => ?_) (Heap.get?_push_of_some _ e), rfl, q⟩
    have hb := Heap.lt_size e
    rw [List.mem_singleton.mp z] at hb
    exact absurd hb (Nat.lt_irrefl _)
end
end L2
set_option maxRecDepth 100000
set_option maxHeartbeats 4000000
namespace L2
open PySem PySem.Spec PyProof.Rows
section
variable {X : Cx} {e se : Expr} {te : TE} {lo hi : Option Expr} {tl th ts : TO} {pos p2 : Pos}
end
end L2
set_option maxRecDepth 100000
set_option maxHeartbeats 4000000
namespace L2
open PySem PySem.Spec PyProof.Rows
section
variable {X : Cx} {tg : Expr}
end
end L2
set_option maxRecDepth 100000
set_option maxHeartbeats 4000000
namespace L2
open PySem PySem.Spec PyProof.Rows
section
variable {X : Cx}
end
end L2
set_option maxRecDepth 100000
set_option maxHeartbeats 4000000
namespace L2
open PySem PySem.Spec PyProof.Rows
section
variable {X : Cx}
end
end L2
set_option maxRecDepth 100000
set_option maxHeartbeats 4000000
namespace L2
open PySem PySem.Spec PyProof.Rows
section
variable {X : Cx}
end
end L2
set_option maxRecDepth 100000
set_option maxHeartbeats 4000000
namespace L2
open PySem PySem.Spec PyProof.Rows
section
variable {X : Cx}
def isT (y : Str) : Value → Bool
  | .str a _ => a == y
  | _ => false
end
end L2
set_option maxRecDepth 100000
set_option maxHeartbeats 4000000
namespace L2
open PySem PySem.Spec PyProof.Rows
section
variable {prog : Program} {w : World} {A : Around} {R : Result → Shared → Prop} {I : Addr} {fp wr : List Addr} {G : Array GenState → Array GenState → Prop} {n : Nat} {P : Nat → Value → Prop} {St : Nat → Shared → Prop}
end
section
variable {prog : Program} {w : World} {A : Around} {E : Value → Shared → Prop} {s : Shared}
end
section
variable {X : Cx} {e : Expr} {te : TE} {x y : Str} {p1 p2 q1 q2 : Pos}
end
end L2
set_option maxRecDepth 100000
set_option maxHeartbeats 1000000
namespace L2
open PySem PySem.Spec PyProof.Rows PySem.W
def runT {α : Type} (lt : Nat → Nat → Bool) : KasT α → α
  | .ret a => a
  | .ask i j k => runT lt (k (lt i j))
theorem runT_bind {α β : Type} (lt : Nat → Nat → Bool) (f : α → KasT β) : ∀ t : KasT α, runT lt (t.bind f) = runT lt (f (runT lt t))
  | .ret _ => rfl
  | .ask i j k => runT_bind lt f (k (lt i j))
section
variable {O : KeyOrd} (key : Nat → O.α)
def kAt (p : Array Nat) (i : Nat) : O.α := key (p.getD i 0)
abbrev ltK : Nat → Nat → Bool := fun i j => O.blt (key i) (key j)
def SortedN (p : Array Nat) (m : Nat) : Prop := ∀ i j, i ≤ j → j < m → O.kle (kAt key p i) (kAt key p j)
def FallN (p : Array Nat) (m : Nat) : Prop := ∀ i j, i ≤ j → j < m → O.kle (kAt key p j) (kAt key p i)
def EvenN (p : Array Nat) (n q : Nat) : Prop := ∀ i, n ≤ i + (q + 1) → i < n → kAt key p i = kAt key p (n - 1)
variable {key}
theorem kAt_of {p p' : Array Nat} {i j : Nat} (h : p'[i]? = p[j]?) : kAt key p' i = kAt key p j := by
  unfold kAt
  rw [Array.getD_eq_getD_getElem?, Array.getD_eq_getD_getElem?, h]
theorem kAt_rev {p : Array Nat} {i j : Nat} (hj : j ≤ p.size) (k : Nat) : kAt key (kas_rev p i j) k = if i ≤ k ∧ k < j then kAt key p (i + j - 1 - k) else kAt key p k := by
  have h := getElem?_mirror_all (xs := p) (i := i) hj k
  split at h
  · rename_i c
    rw [if_pos c]; exact kAt_of h
  · rename_i c
    rw [if_neg c]; exact kAt_of h
theorem rev_perm (p : Array Nat) (i j : Nat) : (kas_rev p i j).Perm p := mirror_perm _ _ _ _
theorem rev_size (p : Array Nat) (i j : Nat) : (kas_rev p i j).size = p.size := mirror_size _ _ _ _
theorem rev_even {p : Array Nat} {n q : Nat} (hn : n ≤ p.size) (hq : q + 1 ≤ n) (h : EvenN key p n q) (k : Nat) : kAt key (kas_rev p (n - (q + 1)) n) k = kAt key p k := by
  rw [kAt_rev hn]
  split
  · rename_i c
    rw [h _ (by omega) (by omega), h k (by omega) (by omega)]
  · rfl
theorem SortedN.more {p : Array Nat} {n : Nat} (h1 : 1 ≤ n) (h : SortedN key p n) (hn : O.kle (kAt key p (n - 1)) (kAt key p n)) : SortedN key p (n + 1) := by
  intro i j hij hj
  by_cases hjn : j = n
  · subst hjn
    by_cases hi : i = j
    · subst hi; exact KeyOrd.kle_refl _
    · exact KeyOrd.kle_trans (h i (j - 1) (by omega) (by omega)) hn
  · exact h i j hij (by omega)
theorem FallN.more {p : Array Nat} {n : Nat} (h1 : 1 ≤ n) (h : FallN key p n) (hn : O.kle (kAt key p n) (kAt key p (n - 1))) : FallN key p (n + 1) := by
  intro i j hij hj
  by_cases hjn : j = n
  · subst hjn
    by_cases hi : i = j
    · subst hi; exact KeyOrd.kle_refl _
    · exact KeyOrd.kle_trans hn (h i (j - 1) (by omega) (by omega))
  · exact h i j hij (by omega)
theorem asc_run {p : Array Nat} : ∀ (f n : Nat), 1 ≤ n → SortedN key p n → ∃ m, runT (ltK key) (kas_asc p f n) = m ∧ n ≤ m ∧ m ≤ n + f ∧ SortedN key p m ∧ (m < n + f → O.blt (kAt key p m) (kAt key p (m - 1)) = true)
  | 0, n, _, h => ⟨n, rfl, Nat.le_refl _, Nat.le_refl _, h, fun z => absurd z (Nat.lt_irrefl _)⟩
  | f + 1, n, h1, h => by
    show ∃ m, runT (ltK key) (if O.blt (kAt key p n) (kAt key p (n - 1)) = true then KasT.ret n else kas_asc p f (n + 1)) = m ∧ _
    cases hc : O.blt (kAt key p n) (kAt key p (n - 1)) with
    | true => exact ⟨n, rfl, Nat.le_refl _, by omega, h, fun _ => hc⟩
    | false =>
      obtain ⟨m, e, a1, a2, a3, a4⟩ := asc_run f (n + 1) (by omega) (h.more h1 hc)
      exact ⟨m, e, by omega, by omega, a3, fun z => a4 (by omega)⟩
theorem desc_run : ∀ (f : Nat) (p : Array Nat) (n q : Nat), 1 ≤ n → n + f ≤ p.size → q + 1 ≤ n → FallN key p n → EvenN key p n q →
    ∃ p' n' q', runT (ltK key) (kas_desc f p n q) = (p', n', q') ∧ p'.Perm p ∧ p'.size = p.size ∧ n ≤ n' ∧ n' ≤ n + f ∧ q' + 1 ≤ n' ∧ FallN key p' n' ∧ EvenN key p' n' q'
  | 0, p, n, q, _, _, hq, h, he => ⟨p, n, q, rfl, .refl _, rfl, Nat.le_refl _, Nat.le_refl _, hq, h, he⟩
  | f + 1, p, n, q, h1, hs, hq, h, he => by
    have even0 : ∀ p : Array Nat, EvenN key p (n + 1) 0 := fun p i a b => by rw [show i = n by omega]; rfl
    show ∃ p' n' q', runT (ltK key) (if O.blt (kAt key p n) (kAt key p (n - 1)) = true then (if q > 0 then kas_desc f (kas_rev p (n - (q + 1)) n) (n + 1) 0 else kas_desc f p (n + 1) 0)
      else .ask (p.getD (n - 1) 0) (p.getD n 0) fun d => if d = true then .ret (p, n, q) else kas_desc f p (n + 1) (q + 1)) = (p', n', q') ∧ _
    cases hc : O.blt (kAt key p n) (kAt key p (n - 1)) with
    | true =>
      rw [if_pos rfl]
      have hle : O.kle (kAt key p n) (kAt key p (n - 1)) := KeyOrd.kle_of_klt hc
      have hf := h.more h1 hle
      by_cases hq0 : q > 0
      · rw [if_pos hq0]
        have keep := rev_even (key := key) (p := p) (n := n) (q := q) (by omega) hq he
        have hf' : FallN key (kas_rev p (n - (q + 1)) n) (n + 1) := fun i j a b => by rw [keep, keep]; exact hf i j a b
        obtain ⟨p', n', q', e, b1, b2, b3, b4, b5, b6, b7⟩ := desc_run f (kas_rev p (n - (q + 1)) n) (n + 1) 0 (by omega) (by rw [rev_size]; omega) (by omega) hf' (even0 _)
        exact ⟨p', n', q', e, b1.trans (rev_perm _ _ _), b2.trans (rev_size _ _ _), by omega, by omega, b5, b6, b7⟩
      · rw [if_neg hq0]
        obtain ⟨p', n', q', e, b1, b2, b3, b4, b5, b6, b7⟩ := desc_run f p (n + 1) 0 (by omega) (by omega) (by omega) hf (even0 _)
        exact ⟨p', n', q', e, b1, b2, by omega, by omega, b5, b6, b7⟩
    | false =>
      rw [if_neg (by simp)]
      show ∃ p' n' q', runT (ltK key) (if O.blt (kAt key p (n - 1)) (kAt key p n) = true then KasT.ret (p, n, q) else kas_desc f p (n + 1) (q + 1)) = (p', n', q') ∧ _
      cases hd : O.blt (kAt key p (n - 1)) (kAt key p n) with
      | true => exact ⟨p, n, q, rfl, .refl _, rfl, Nat.le_refl _, by omega, hq, h, he⟩
      | false =>
        rw [if_neg (by simp)]
        have eq : kAt key p n = kAt key p (n - 1) := O.total _ _ hc hd
        have he' : EvenN key p (n + 1) (q + 1) := fun i a b => by
          show kAt key p i = kAt key p n
          by_cases hi : i = n
          · rw [hi]
          · rw [eq]; exact he i (by omega) (by omega)
        obtain ⟨p', n', q', e, b1, b2, b3, b4, b5, b6, b7⟩ := desc_run f p (n + 1) (q + 1) (by omega) (by omega) (by omega) (h.more h1 (by rw [eq]; exact KeyOrd.kle_refl _)) he'
        exact ⟨p', n', q', e, b1, b2, by omega, by omega, b5, b6, b7⟩
theorem tail_run {p : Array Nat} {n nrem : Nat} (h1 : 1 ≤ n) (hn : n ≤ nrem) (hs : nrem ≤ p.size) (h : FallN key p n) :
    ∃ m p', runT (ltK key) (kas_tail3 n nrem p) = (m, p') ∧ p'.Perm p ∧ p'.size = p.size ∧ 1 ≤ m ∧ m ≤ nrem ∧ SortedN key p' m := by
  have so : SortedN key (kas_rev p 0 n) n := fun i j a b => by
    rw [kAt_rev (by omega), kAt_rev (by omega), if_pos ⟨Nat.zero_le _, by omega⟩, if_pos ⟨Nat.zero_le _, b⟩]
    exact h _ _ (by omega) (by omega)
  obtain ⟨m, e, a1, a2, a3, _⟩ := asc_run (nrem - n) n h1 so
  refine ⟨m, kas_rev p 0 n, ?_, rev_perm _ _ _, rev_size _ _ _, by omega, by omega, a3⟩
  unfold kas_tail3
  rw [runT_bind, e]
  rfl
theorem dpart_run {p : Array Nat} {n nrem : Nat} (h1 : 1 ≤ n) (hn : n + 1 ≤ nrem) (hs : nrem ≤ p.size) (h : FallN key p (n + 1)) :
    ∃ m p', runT (ltK key) (kas_descPart n nrem p) = (m, p') ∧ p'.Perm p ∧ p'.size = p.size ∧ 1 ≤ m ∧ m ≤ nrem ∧ SortedN key p' m := by
  obtain ⟨p1, n1, q1, e, b1, b2, b3, b4, b5, b6, b7⟩ := desc_run (key := key) (nrem - (n + 1)) p (n + 1) 0 (by omega) (by omega) (by omega) h (fun i a b => by rw [show i = n by omega]; rfl)
  unfold kas_descPart
  rw [runT_bind, e]
  dsimp only
  by_cases hq : q1 > 0
  · rw [if_pos hq]
    have keep := rev_even (key := key) (p := p1) (n := n1) (q := q1) (by omega) b5 b7
    obtain ⟨m, p', e2, c1, c2, c3, c4, c5⟩ := tail_run (key := key) (p := kas_rev p1 (n1 - (q1 + 1)) n1) (n := n1) (nrem := nrem) (by omega) (by omega) (by rw [rev_size]; omega) (fun i j a b => by rw [keep, keep]; exact b6 i j a b)
    exact ⟨m, p', e2, c1.trans ((rev_perm _ _ _).trans b1), c2.trans ((rev_size _ _ _).trans b2), c3, c4, c5⟩
  · rw [if_neg hq]
    obtain ⟨m, p', e2, c1, c2, c3, c4, c5⟩ := tail_run (key := key) (p := p1) (n := n1) (nrem := nrem) (by omega) (by omega) (by omega) b6
    exact ⟨m, p', e2, c1.trans b1, c2.trans b2, c3, c4, c5⟩
theorem count_run {p : Array Nat} {nrem : Nat} (h1 : 1 ≤ nrem) (hs : nrem ≤ p.size) :
    ∃ m p', runT (ltK key) (kas_count nrem p) = (m, p') ∧ p'.Perm p ∧ p'.size = p.size ∧ 1 ≤ m ∧ m ≤ nrem ∧ SortedN key p' m := by
  have s1 : SortedN key p 1 := fun i j a b => by rw [show i = j by omega]; exact KeyOrd.kle_refl _
  obtain ⟨n, e, a1, a2, a3, a4⟩ := asc_run (key := key) (p := p) (nrem - 1) 1 (Nat.le_refl _) s1
  unfold kas_count
  rw [runT_bind, e]
  by_cases hn : n = nrem
  · rw [if_pos (by simpa using hn)]
    exact ⟨n, p, rfl, .refl _, rfl, a1, by omega, a3⟩
  · rw [if_neg (by simpa using hn)]
    have down := a4 (by omega)
    by_cases h2 : n > 1
    · rw [if_pos h2]
      show ∃ m p', runT (ltK key) (if O.blt (kAt key p 0) (kAt key p (n - 1)) = true then KasT.ret (n, p) else kas_descPart n nrem (kas_rev p 0 n)) = (m, p') ∧ _
      cases hc : O.blt (kAt key p 0) (kAt key p (n - 1)) with
      | true => exact ⟨n, p, rfl, .refl _, rfl, a1, by omega, a3⟩
      | false =>
        rw [if_neg (by simp)]
        have same : ∀ i, i < n → kAt key p i = kAt key p (n - 1) := fun i hi => by
          refine KeyOrd.kle_antisymm (a3 i (n - 1) (by omega) (by omega)) ?_
          exact KeyOrd.kle_trans (show O.kle (kAt key p (n - 1)) (kAt key p 0) from hc) (a3 0 i (Nat.zero_le _) hi)
        have keys : ∀ i, i ≤ n → kAt key (kas_rev p 0 n) i = kAt key p i := fun i hi => by
          rw [kAt_rev (by omega)]
          split
          · rename_i c
            rw [same _ (by omega), same i (by omega)]
          · rfl
        have fall : FallN key (kas_rev p 0 n) (n + 1) := by
          refine FallN.more (by omega) (fun i j a b => ?_) ?_
          · rw [keys i (by omega), keys j (by omega), same i (by omega), same j (by omega)]; exact KeyOrd.kle_refl _
          · rw [keys n (Nat.le_refl _), keys (n - 1) (by omega)]; exact KeyOrd.kle_of_klt down
        obtain ⟨m, p', e2, c1, c2, c3, c4, c5⟩ := dpart_run (key := key) (p := kas_rev p 0 n) (n := n) (nrem := nrem) (by omega) (by omega) (by rw [rev_size]; omega) fall
        exact ⟨m, p', e2, c1.trans (rev_perm _ _ _), c2.trans (rev_size _ _ _), c3, c4, c5⟩
    · rw [if_neg h2]
      obtain rfl : n = 1 := by omega
      have fall : FallN key p (1 + 1) := FallN.more (Nat.le_refl _) (fun i j a b => by rw [show i = j by omega]; exact KeyOrd.kle_refl _) (KeyOrd.kle_of_klt down)
      exact dpart_run (by omega) (by omega) hs fall
theorem place_run {p : Array Nat} {k : Nat} (hs : SortedN key p k) : ∀ (f l r : Nat), l ≤ r → r ≤ k → r - l ≤ f → (∀ i, i < l → O.kle (kAt key p i) (kAt key p k)) → (∀ i, r ≤ i → i < k → O.kle (kAt key p k) (kAt key p i)) →
    ∃ m, runT (ltK key) (kas_place p k f l r) = m ∧ m ≤ k ∧ (∀ i, i < m → O.kle (kAt key p i) (kAt key p k)) ∧ (∀ i, m ≤ i → i < k → O.kle (kAt key p k) (kAt key p i))
  | 0, l, r, a, b, c, h1, h2 => ⟨l, rfl, by omega, h1, fun i hi hk => h2 i (by omega) hk⟩
  | f + 1, l, r, a, b, c, h1, h2 => by
    unfold kas_place
    by_cases hl : l ≥ r
    · rw [if_pos hl]
      exact ⟨l, rfl, by omega, h1, fun i hi hk => h2 i (by omega) hk⟩
    · rw [if_neg hl]
      show ∃ m, runT (ltK key) (if O.blt (kAt key p k) (kAt key p ((l + r) / 2)) = true then kas_place p k f l ((l + r) / 2) else kas_place p k f ((l + r) / 2 + 1) r) = m ∧ _
      cases hc : O.blt (kAt key p k) (kAt key p ((l + r) / 2)) with
      | true =>
        rw [if_pos rfl]
        exact place_run hs f l ((l + r) / 2) (by omega) (by omega) (by omega) h1 fun i hi hk => KeyOrd.kle_trans (KeyOrd.kle_of_klt hc) (hs _ _ hi hk)
      | false =>
        rw [if_neg (by simp)]
        exact place_run hs f ((l + r) / 2 + 1) r (by omega) b (by omega) (fun i hi => KeyOrd.kle_trans (hs i ((l + r) / 2) (by omega) (by omega)) hc) h2
theorem bin_run : ∀ (f : Nat) (p : Array Nat) (k : Nat), k + f ≤ p.size → SortedN key p k → ∃ p', runT (ltK key) (kas_bin f p k) = p' ∧ p'.Perm p ∧ p'.size = p.size ∧ SortedN key p' (k + f)
  | 0, p, k, _, h => ⟨p, rfl, .refl _, rfl, h⟩
  | f + 1, p, k, hk, h => by
    obtain ⟨m, e, m1, m2, m3⟩ := place_run h k 0 k (Nat.zero_le _) (Nat.le_refl _) (by omega) (fun i hi => absurd hi (by omega)) (fun i a b => absurd b (by omega))
    have at_ : ∀ i, kAt key (bubble p k (k - m)) i = if i = m then kAt key p k else if m < i ∧ i ≤ k then kAt key p (i - 1) else kAt key p i := fun i => by
      have g := getElem?_bubble (xs := p) (src := k) (by omega) (k - m) (by omega) i
      rw [show k - (k - m) = m by omega] at g
      split at g
      · rename_i c; rw [if_pos c]; exact kAt_of g
      · rename_i c
        rw [if_neg c]
        split at g
        · rename_i d; rw [if_pos d]; exact kAt_of g
        · rename_i d; rw [if_neg d]; exact kAt_of g
    have so : SortedN key (bubble p k (k - m)) (k + 1) := fun i j a b => by
      rw [at_, at_]
      by_cases hi : i = m
      · rw [if_pos hi]
        by_cases hj : j = m
        · rw [if_pos hj]; exact KeyOrd.kle_refl _
        · rw [if_neg hj, if_pos (by omega)]; exact m3 _ (by omega) (by omega)
      · rw [if_neg hi]
        by_cases hi2 : m < i ∧ i ≤ k
        · rw [if_pos hi2, if_neg (by omega), if_pos (by omega)]
          exact h _ _ (by omega) (by omega)
        · rw [if_neg hi2]
          by_cases hj : j = m
          · rw [if_pos hj]; exact m2 i (by omega)
          · rw [if_neg hj]
            by_cases hj2 : m < j ∧ j ≤ k
            · rw [if_pos hj2]; exact h _ _ (by omega) (by omega)
            · rw [if_neg hj2]; exact h _ _ a (by omega)
    obtain ⟨p', e2, c1, c2, c3⟩ := bin_run f (bubble p k (k - m)) (k + 1) (by rw [bubble_size]; omega) so
    refine ⟨p', ?_, c1.trans (bubble_perm _ _ _), c2.trans (bubble_size _ _ _), ?_⟩
    · unfold kas_bin
      rw [runT_bind, e]
      exact e2
    · rw [show k + (f + 1) = k + 1 + f by omega]; exact c3
theorem sort_run {n : Nat} (h1 : 1 ≤ n) : ∃ p, runT (ltK key) (kas_sort n) = p ∧ p.Perm (List.toArray (List.range n)) ∧ p.size = n ∧ SortedN key p n := by
  have sz : (List.toArray (List.range n)).size = n := by simp
  obtain ⟨m, p1, e, a1, a2, a3, a4, a5⟩ := count_run (key := key) (p := List.toArray (List.range n)) (nrem := n) h1 (by omega)
  unfold kas_sort
  rw [runT_bind, e]
  dsimp only
  by_cases hm : m < n
  · rw [if_pos hm, Nat.max_eq_left a3]
    obtain ⟨p2, e2, b1, b2, b3⟩ := bin_run (key := key) (n - m) p1 m (by omega) a5
    exact ⟨p2, e2, b1.trans a1, by omega, by rw [show m + (n - m) = n by omega] at b3; exact b3⟩
  · rw [if_neg hm]
    obtain rfl : m = n := by omega
    exact ⟨p1, rfl, a1, by omega, a5⟩
end
end L2
set_option maxRecDepth 100000
set_option maxHeartbeats 1000000
namespace L2
open PySem PySem.Spec PyProof.Rows PySem.W
theorem lex_irrefl : ∀ a : List Int, HT.lexLt a a = false
  | [] => rfl
  | x :: a => by rw [HT.lexLt_cons, if_pos rfl]; exact lex_irrefl a
theorem lex_trans : ∀ a b c : List Int, HT.lexLt a b = true → HT.lexLt b c = true → HT.lexLt a c = true
  | [], [], _, h, _ => by cases h
  | [], _ :: _, [], _, h => by cases h
  | [], _ :: _, _ :: _, _, _ => rfl
  | _ :: _, [], _, h, _ => by cases h
  | _ :: _, _ :: _, [], _, h => by cases h
  | x :: a, y :: b, z :: c, h1, h2 => by
    rw [HT.lexLt_cons] at h1 h2 ⊢
    by_cases e1 : x = y
    · by_cases e2 : y = z
      · rw [if_pos e1] at h1
        rw [if_pos e2] at h2
        rw [if_pos (e1.trans e2)]
        exact lex_trans a b c h1 h2
      · rw [if_neg e2] at h2
        rw [e1, if_neg e2]; exact h2
    · rw [if_neg e1] at h1
      have l1 := of_decide_eq_true h1
      by_cases e2 : y = z
      · rw [← e2, if_neg e1]; exact h1
      · rw [if_neg e2] at h2
        have l2 := of_decide_eq_true h2
        rw [if_neg (by omega)]; exact decide_eq_true (by omega)
theorem lex_total : ∀ a b : List Int, HT.lexLt a b = false → HT.lexLt b a = false → a = b
  | [], [], _, _ => rfl
  | [], _ :: _, h, _ => by cases h
  | _ :: _, [], _, h => by cases h
  | x :: a, y :: b, h1, h2 => by
    rw [HT.lexLt_cons] at h1 h2
    by_cases e : x = y
    · rw [if_pos e] at h1
      rw [if_pos e.symm] at h2
      rw [e, lex_total a b h1 h2]
    · rw [if_neg e] at h1
      rw [if_neg (Ne.symm e)] at h2
      have l1 := of_decide_eq_false h1
      have l2 := of_decide_eq_false h2
      omega
def lexO : KeyOrd where
  α := List Int
  blt := HT.lexLt
  irrefl := lex_irrefl
  trans := lex_trans
  negTrans := fun a b c h => by
    cases h1 : HT.lexLt a b with
    | true => exact .inl rfl
    | false =>
      right
      cases h2 : HT.lexLt b c with
      | true => rfl
      | false =>
        cases h3 : HT.lexLt b a with
        | true =>
          have := lex_trans b a c h3 h
          rw [h2] at this; cases this
        | false =>
          have := lex_total a b h1 h3
          subst this
          rw [h] at h2; cases h2
  total := lex_total
def Lv {α : Type} (N : Nat) (P : α → Prop) : KasT α → Prop
  | .ret a => P a
  | .ask i j k => i < N ∧ j < N ∧ ∀ b, Lv N P (k b)
theorem Lv.bind {α β : Type} {N : Nat} {P : α → Prop} {P' : β → Prop} {f : α → KasT β} (hf : ∀ a, P a → Lv N P' (f a)) : ∀ {t : KasT α}, Lv N P t → Lv N P' (t.bind f)
  | .ret a, h => hf a h
  | .ask i j k, h => ⟨h.1, h.2.1, fun b => Lv.bind hf (h.2.2 b)⟩
def Und (N : Nat) (p : Array Nat) : Prop := ∀ i, p.getD i 0 < N
theorem Und.of {N : Nat} {p p' : Array Nat} (h : Und N p) (hp : ∀ i : Nat, ∃ j : Nat, p'[i]? = p[j]?) : Und N p' := fun i => by
  obtain ⟨j, e⟩ := hp i
  have := h j
  rw [Array.getD_eq_getD_getElem?] at this ⊢
  rw [e]; exact this
theorem Und.rev {N : Nat} {p : Array Nat} (h : Und N p) {i j : Nat} (hj : j ≤ p.size) : Und N (kas_rev p i j) := h.of fun k => by
  have g := getElem?_mirror_all (xs := p) (i := i) hj k
  split at g
  · exact ⟨_, g⟩
  · exact ⟨_, g⟩
theorem Und.bub {N : Nat} {p : Array Nat} (h : Und N p) {k d : Nat} (hk : k < p.size) (hd : d ≤ k) : Und N (bubble p k d) := h.of fun i => by
  have g := getElem?_bubble (xs := p) hk d hd i
  split at g
  · exact ⟨_, g⟩
  · split at g
    · exact ⟨_, g⟩
    · exact ⟨_, g⟩
theorem asc_lv {N : Nat} {p : Array Nat} (h : Und N p) : ∀ (f n : Nat), Lv N (fun m => n ≤ m ∧ m ≤ n + f) (kas_asc p f n)
  | 0, n => ⟨Nat.le_refl _, Nat.le_refl _⟩
  | f + 1, n => ⟨h _, h _, fun b => by
    cases b with
    | true => exact ⟨Nat.le_refl _, by omega⟩
    | false =>
      have := Lv.bind (f := KasT.ret) (P' := fun m => n ≤ m ∧ m ≤ n + (f + 1)) (fun a ha => (⟨by omega, by omega⟩ : n ≤ a ∧ a ≤ n + (f + 1))) (asc_lv h f (n + 1))
      rw [show (kas_asc p f (n + 1)).bind KasT.ret = kas_asc p f (n + 1) from bind_ret _] at this
      exact this⟩
where bind_ret {α : Type} : ∀ t : KasT α, t.bind KasT.ret = t
  | .ret _ => rfl
  | .ask i j k => congrArg (KasT.ask i j) (funext fun b => bind_ret (k b))
theorem Lv.mono {α : Type} {N : Nat} {P P' : α → Prop} (h : ∀ a, P a → P' a) : ∀ {t : KasT α}, Lv N P t → Lv N P' t
  | .ret a, x => h a x
  | .ask i j k, x => ⟨x.1, x.2.1, fun b => Lv.mono h (x.2.2 b)⟩
theorem desc_lv {N S : Nat} : ∀ (f : Nat) (p : Array Nat) (n q : Nat), p.size = S → n + f ≤ S → Und N p → Lv N (fun r : Array Nat × Nat × Nat => r.1.size = S ∧ Und N r.1 ∧ n ≤ r.2.1 ∧ r.2.1 ≤ n + f) (kas_desc f p n q)
  | 0, p, n, q, hz, _, h => ⟨hz, h, Nat.le_refl _, Nat.le_refl _⟩
  | f + 1, p, n, q, hz, hs, h => ⟨h _, h _, fun c => by
    have up : ∀ {t : KasT (Array Nat × Nat × Nat)}, Lv N (fun r : Array Nat × Nat × Nat => r.1.size = S ∧ Und N r.1 ∧ n + 1 ≤ r.2.1 ∧ r.2.1 ≤ n + 1 + f) t → Lv N (fun r : Array Nat × Nat × Nat => r.1.size = S ∧ Und N r.1 ∧ n ≤ r.2.1 ∧ r.2.1 ≤ n + (f + 1)) t :=
      Lv.mono fun r ⟨a, b, c, d⟩ => ⟨a, b, by omega, by omega⟩
    cases c with
    | true =>
      show Lv N _ (if q > 0 then kas_desc f (kas_rev p (n - (q + 1)) n) (n + 1) 0 else kas_desc f p (n + 1) 0)
      split
      · exact up (desc_lv f _ (n + 1) 0 (by rw [rev_size]; exact hz) (by omega) (h.rev (by omega)))
      · exact up (desc_lv f p (n + 1) 0 hz (by omega) h)
    | false =>
      refine ⟨h _, h _, fun d => ?_⟩
      cases d with
      | true => exact ⟨hz, h, Nat.le_refl _, Nat.le_add_right _ _⟩
      | false => exact up (desc_lv f p (n + 1) (q + 1) hz (by omega) h)⟩
theorem tail_lv {N S n nrem : Nat} {p : Array Nat} (hz : p.size = S) (hn : n ≤ nrem) (hs : nrem ≤ S) (h : Und N p) : Lv N (fun r : Nat × Array Nat => r.2.size = S ∧ Und N r.2 ∧ r.1 ≤ nrem) (kas_tail3 n nrem p) := by
  have h' : Und N (kas_rev p 0 n) := h.rev (by omega)
  exact Lv.bind (f := fun m => KasT.ret (m, kas_rev p 0 n)) (P' := fun r : Nat × Array Nat => r.2.size = S ∧ Und N r.2 ∧ r.1 ≤ nrem) (fun m hm => (⟨by rw [rev_size]; exact hz, h', by have := hm.2; show m ≤ nrem; omega⟩ : (kas_rev p 0 n).size = S ∧ Und N (kas_rev p 0 n) ∧ m ≤ nrem)) (asc_lv h' (nrem - n) n)
theorem dpart_lv {N S n nrem : Nat} {p : Array Nat} (hz : p.size = S) (hn : n + 1 ≤ nrem) (hs : nrem ≤ S) (h : Und N p) : Lv N (fun r : Nat × Array Nat => r.2.size = S ∧ Und N r.2 ∧ r.1 ≤ nrem) (kas_descPart n nrem p) := by
  refine Lv.bind (fun r hr => ?_) (desc_lv (nrem - (n + 1)) p (n + 1) 0 hz (by omega) h)
  obtain ⟨a, b, c, d⟩ := hr
  split
  · exact tail_lv (by rw [rev_size]; exact a) (by omega) hs (b.rev (by omega))
  · exact tail_lv a (by omega) hs b
theorem count_lv {N S nrem : Nat} {p : Array Nat} (hz : p.size = S) (h1 : 1 ≤ nrem) (hs : nrem ≤ S) (h : Und N p) : Lv N (fun r : Nat × Array Nat => r.2.size = S ∧ Und N r.2 ∧ r.1 ≤ nrem) (kas_count nrem p) := by
  refine Lv.bind (fun n hn => ?_) (asc_lv h (nrem - 1) 1)
  split
  · exact ⟨hz, h, by omega⟩
  · rename_i hne
    have hne : ¬ n = nrem := by simpa using hne
    split
    · refine ⟨h _, h _, fun c => ?_⟩
      cases c with
      | true => exact ⟨hz, h, by omega⟩
      | false => exact dpart_lv (by rw [rev_size]; exact hz) (by omega) hs (h.rev (by omega))
    · exact dpart_lv hz (by omega) hs h
theorem place_lv {N : Nat} {p : Array Nat} {k : Nat} (h : Und N p) : ∀ (f l r : Nat), l ≤ k → r ≤ k → Lv N (fun m => m ≤ k) (kas_place p k f l r)
  | 0, l, r, a, b => a
  | f + 1, l, r, a, b => by
    unfold kas_place
    split
    · exact a
    · refine ⟨h _, h _, fun c => ?_⟩
      cases c with
      | true => exact place_lv h f l ((l + r) / 2) a (by omega)
      | false => exact place_lv h f ((l + r) / 2 + 1) r (by omega) b
theorem bin_lv {N S : Nat} : ∀ (f : Nat) (p : Array Nat) (k : Nat), p.size = S → k + f ≤ S → Und N p → Lv N (fun p' : Array Nat => p'.size = S) (kas_bin f p k)
  | 0, p, k, hz, _, _ => hz
  | f + 1, p, k, hz, hk, h => Lv.bind (fun m hm => bin_lv f _ (k + 1) (by rw [bubble_size]; exact hz) (by omega) (h.bub (by omega) (by omega))) (place_lv h k 0 k (Nat.zero_le _) (Nat.le_refl _))
theorem sort_lv {n : Nat} (h1 : 1 ≤ n) : Lv n (fun p : Array Nat => p.size = n) (kas_sort n) := by
  have sz : (List.toArray (List.range n)).size = n := by simp
  have und : Und n (List.toArray (List.range n)) := fun i => by
    rw [Array.getD_eq_getD_getElem?, List.getElem?_toArray]
    by_cases hi : i < n
    · simp [hi]
    · rw [List.getElem?_eq_none (by simpa using hi)]; exact h1
  refine Lv.bind (fun r hr => ?_) (count_lv sz h1 (Nat.le_refl _) und)
  obtain ⟨a, b, c⟩ := hr
  split
  · exact bin_lv _ _ _ a (by omega) b
  · exact a
theorem wp_truth {α : Type} {N : Nat} {P : α → Prop} {lt : Nat → Nat → Bool} {cmp : Nat → Nat → (Bool → Shared → Prop) → Shared → Prop} {Q : α → Shared → Prop} {s : Shared} (hc : ∀ i j C, i < N → j < N → C (lt i j) s → cmp i j C s) :
    ∀ (t : KasT α), Lv N P t → Q (runT lt t) s → t.kasWp cmp Q s
  | .ret a, _, h => h
  | .ask i j k, l, h => hc i j _ l.1 l.2.1 (wp_truth hc (k (lt i j)) (l.2.2 _) h)
section
open PySem.SeqAt
open PySem.AutoSeq1 (wpAny_loadPart')
open PySem.MeetsSeq PySem.MeetsSeq2 PySem.MeetsSeq3
theorem ints_get {vs : List Value} {ns : List Int} (h : IntsAre vs ns) {i : Nat} (hi : i < ns.length) : ∃ t, vs[i]? = some (.int ns[i] t) := by
  have hl := h.length
  have e : vs[i]? = some vs[i] := List.getElem?_eq_getElem (by omega)
  obtain ⟨t, q⟩ := h.int_at i _ e
  refine ⟨t, ?_⟩
  rw [e, q]
  simp [List.getD_eq_getElem?_getD, hi]
theorem lt_loopI (l b : Addr) (items items2 : Array Value) (n n2 : Nat) (dd dd2 : Option Addr) (sl sl2 : Array (Option Value)) (ns ms : List Int) (hi : IntsAre items.toList ns) (hj : IntsAre items2.toList ms) (k : Nat) :
    ∀ i : Nat, ns.length - i = k → i ≤ ns.length → i ≤ ms.length → Meets (Builtin.«list.__eq__.loop» ⟨[.ref l, .ref b, rawInt i, rawInt 0], []⟩)
      (fun _ R s => s.heap.get? l = some { cls := .type "list", dict := dd, data := .seq items n, slots := sl } ∧ s.heap.get? b = some { cls := .type "list", dict := dd2, data := .seq items2 n2, slots := sl2 } ∧
        R (.ok (.ret (.bool (HT.lexLt (ns.drop i) (ms.drop i))))) s) := by
  have z1 : items.size = ns.length := by rw [← hi.length]; simp
  have z2 : items2.size = ms.length := by rw [← hj.length]; simp
  have stop : ∀ i : Nat, i ≤ ns.length → i ≤ ms.length → (i = ns.length ∨ i = ms.length) → HT.lexLt (ns.drop i) (ms.drop i) = decide (items.size < items2.size) := by
    intro i h1 h2 h3
    by_cases e1 : i = ns.length
    · rw [e1, List.drop_length]
      by_cases e2 : ns.length = ms.length
      · rw [e2, List.drop_length]; exact (decide_eq_false (by omega)).symm
      · rw [List.drop_eq_getElem_cons (by omega)]; exact (decide_eq_true (by omega)).symm
    · have e2 : i = ms.length := by omega
      rw [e2, List.drop_length, List.drop_eq_getElem_cons (by omega)]; exact (decide_eq_false (by omega)).symm
  induction k with
  | zero =>
    intro i hk h1 h2 prog w A R s h
    obtain ⟨hp, g, d, tk, os⟩ := s; obtain ⟨hl, hb, h⟩ := h
    have hin : i = ns.length := by omega
    wp_walk using wpAny_loadPart' hl, wpAny_loadPart' hb
    have hi1 : items[((i : Nat) : Int).toNat]? = none := by simp; omega
    rw [hi1]
    rw [stop i h1 h2 (.inl hin)] at h
    wp_walk using wpAny_loadPart' hl, wpAny_loadPart' hb
    exact h
  | succ k ih =>
    intro i hk h1 h2 prog w A R s h
    obtain ⟨hp, g, d, tk, os⟩ := s; obtain ⟨hl, hb, h⟩ := h
    have lt1 : i < ns.length := by omega
    obtain ⟨t, et⟩ := ints_get hi lt1
    have hi1 : items[((i : Nat) : Int).toNat]? = some (.int ns[i] t) := by rw [Array.getElem?_toList] at et; simpa using et
    by_cases lt2 : i < ms.length
    · obtain ⟨u, eu⟩ := ints_get hj lt2
      have hi2 : items2[((i : Nat) : Int).toNat]? = some (.int ms[i] u) := by rw [Array.getElem?_toList] at eu; simpa using eu
      wp_walk using wpAny_loadPart' hl, wpAny_loadPart' hb
      rw [hi1, hi2]
      rw [List.drop_eq_getElem_cons lt1, List.drop_eq_getElem_cons lt2, HT.lexLt_cons] at h
      have hc : ((i : Int) + 1) = ((i + 1 : Nat) : Int) := by push_cast; rfl
      obtain ⟨e, he, hiff⟩ := HT.eqAt_int A.in1 ⟨hp, g, d, tk, os⟩ ns[i] t ms[i] u
      refine wpAny_bind (he prog w _ _ ?_)
      cases e with
      | true =>
        rw [if_pos (hiff.mp rfl)] at h
        wp_walk
        rw [hc]
        exact ⟨plainId_quiet plain_eq_loop _, codeAny_builtin entry_eq_loop (by
          rw [Around.under_plainId plain_eq_loop _]
          exact ih (i + 1) (by omega) (by omega) (by omega) prog w A R _ ⟨hl, hb, h⟩)⟩
      | false =>
        rw [if_neg (fun q => absurd (hiff.mpr q) Bool.false_ne_true)] at h
        have hri := HT.rcLt_int A.in1 ⟨hp, g, d, tk, os⟩ ns[i] t ms[i] u prog w
        wp_walk using wpAny_loadPart' hl, wpAny_loadPart' hb
        rw [hi1, hi2]
        wp_walk using hri
        exact h
    · have hi2 : items2[((i : Nat) : Int).toNat]? = none := by simp; omega
      wp_walk using wpAny_loadPart' hl, wpAny_loadPart' hb
      rw [hi1, hi2]
      rw [stop i h1 h2 (.inr (by omega))] at h
      wp_walk using wpAny_loadPart' hl, wpAny_loadPart' hb
      exact h
theorem list_ltI (l b : Addr) (items items2 : Array Value) (n n2 : Nat) (dd dd2 : Option Addr) (sl sl2 : Array (Option Value)) (ns ms : List Int) (hi : IntsAre items.toList ns) (hj : IntsAre items2.toList ms) :
    Meets (Builtin.«list.__lt__» ⟨[.ref l, .ref b], []⟩)
      (fun _ R s => s.heap.get? l = some { cls := .type "list", dict := dd, data := .seq items n, slots := sl } ∧ s.heap.get? b = some { cls := .type "list", dict := dd2, data := .seq items2 n2, slots := sl2 } ∧
        R (.ok (.ret (.bool (HT.lexLt ns ms)))) s) := by
  intro prog w A R s h
  obtain ⟨hp, g, d, tk, os⟩ := s; obtain ⟨hl, hb, h⟩ := h
  have f2 := AutoSeq1.sub_list_list
  wp_walk using wpAny_loadPart' hl, wpAny_loadPart' hb
  exact ⟨plainId_quiet plain_eq_loop _, codeAny_builtin entry_eq_loop (by
    rw [Around.under_plainId plain_eq_loop _]
    exact lt_loopI l b items items2 n n2 dd dd2 sl sl2 ns ms hi hj _ 0 rfl (Nat.zero_le _) (Nat.zero_le _) prog w A R _ ⟨hl, hb, by simpa using h⟩)⟩
end
section
variable {prog : Program} {w : World} {A : Around} {E : Value → Shared → Prop} {s : Shared}
theorem oneLt_lists {l b : Addr} {its its2 : Array Value} {ns ms : List Int} {Q : Bool → Shared → Prop} (hl : s.heap.IsList l its) (hb : s.heap.IsList b its2) (hi : IntsAre its.toList ns) (hj : IntsAre its2.toList ms) (hu : A.units < cLine)
    (h : Q (HT.lexLt ns ms) s) : wpAny (model prog w) A (keyLt' oneType' (.ref l) (.ref b)) Q E s := by
  obtain ⟨⟨cls, dd, data, sl⟩, ho, hc, n, hd⟩ := id hl
  obtain ⟨⟨cls2, dd2, data2, sl2⟩, ho2, hc2, n2, hd2⟩ := id hb
  dsimp only at hc hd hc2 hd2
  subst hc hd hc2 hd2
  rw [keyLt'_oneType, oneLt'_eq]
  simp only [if_true]
  refine wpAny_bind (wpAny_cRoomFor hu ?_)
  refine wpAny_bind (wpAny_callSpecialIfBound?_slot ⟨_, ho, rfl⟩ PySem.F.slot_list_lt (call_meets PySem.F.slot_list_lt ⟨_, ho, rfl⟩ PySem.F.entry_list_lt (PySem.F.args_list_lt_2 _ _) (list_ltI l b its its2 n n2 dd dd2 sl sl2 ns ms hi hj) ⟨ho, ho2, ?_⟩))
  exact wpAny_truthy_bool h
end
end L2
set_option maxRecDepth 100000
set_option maxHeartbeats 1000000
namespace L2
open PySem PySem.Spec PyProof.Rows PySem.W
section
variable {prog : Program} {w : World} {A : Around} {E : Value → Shared → Prop} {s : Shared}
abbrev keyI (nss : List (List Int)) : Nat → lexO.α := fun i => nss.getD i []
def outOf (vs : List Value) (p : Array Nat) : Array Value := (p.toList.map fun i => vs.getD i Value.none).toArray
def Lists (h : Heap) (vs : List Value) (nss : List (List Int)) (a : Addr) : Prop := ∀ i, i < vs.length → ∃ (l : Addr) (its : Array Value), vs.getD i Value.none = .ref l ∧ l ≠ a ∧ h.IsList l its ∧ IntsAre its.toList (nss.getD i [])
theorem outOf_range (vs : List Value) : outOf vs (List.toArray (List.range vs.length)) = vs.toArray := by
  unfold outOf
  congr 1
  refine List.ext_getElem (by simp) fun i h1 h2 => ?_
  simp [List.getD_eq_getElem?_getD, h2]
theorem lsortL {a : Addr} {vs : List Value} {nss : List (List Int)} {n : Nat} {P : PySem.Fin → Shared → Prop} (ho : s.heap.get? a = some (seqObj "list" vs.toArray n)) (h64 : vs.length < 64) (hu : A.units < cLine) (hit : Lists s.heap vs nss a)
    (h : ∀ p : Array Nat, p.Perm (List.toArray (List.range vs.length)) → SortedN (keyI nss) p vs.length → P (.done (.ret .none)) { s with heap := sortedHeap s.heap a vs (outOf vs p) }) :
    wpAny (model prog w) A (Builtin.«list.sort» ⟨[.ref a], []⟩) P E s := by
  rw [list_sort_plain]
  have ha : a < s.heap.objs.size := Heap.lt_size ho
  have hln : vs.length ≤ sizeLine := by rw [sizeLine_eq]; omega
  refine wpAny_bind (listItems_at ho rfl ?_)
  refine wpAny_bind (listUpdate_at ho rfl ?_ (by rw [List.size_toArray]; exact hln) (Nat.zero_le _))
  obtain ⟨e1, ho1⟩ : ∃ e1, (s.heap.update a (Obj.mapSeq fun _ => #[])).get? a = some (seqObj "list" #[] e1) := ⟨_, get?_update_seq ho (fun _ => #[])⟩
  refine wpAny_bind (seqEpoch_at ho1 rfl ?_)
  refine wpAny_bind (wpAny_newTuple ?_ hln)
  refine wpAny_bind (wpAny_newList ?_ (Nat.zero_le _))
  refine wpAny_holding ?_
  have old : ∀ b o, b ≠ a → s.heap.get? b = some o → (((s.heap.update a (Obj.mapSeq fun _ => #[])).push (seqObj "tuple" vs.toArray 0)).push (seqObj "list" #[] 0)).get? b = some o := fun b o hb e =>
    Heap.get?_push_of_some _ (Heap.get?_push_of_some _ ((Heap.get?_update_ne _ _ _ _ hb).trans e))
  have ho6 : (((s.heap.update a (Obj.mapSeq fun _ => #[])).push (seqObj "tuple" vs.toArray 0)).push (seqObj "list" #[] 0)).get? a = some (seqObj "list" #[] e1) := Heap.get?_push_of_some _ (Heap.get?_push_of_some _ ho1)
  show wpAny (model prog w) A _ P E { s with heap := ((s.heap.update a (Obj.mapSeq fun _ => #[])).push (seqObj "tuple" vs.toArray 0)).push (seqObj "list" #[] 0) }
  dsimp only
  by_cases h2 : vs.toArray.size < 2
  · have fin := h (List.toArray (List.range vs.length)) (Array.Perm.refl _) fun i j hij hj => by
      have : i = j := by rw [List.size_toArray] at h2; omega
      subst this; exact KeyOrd.kle_refl _
    rw [outOf_range] at fin
    rw [if_pos h2, if_pos h2]
    refine wpAny_bind (wpAny_pure ?_)
    rw [StateT.run_pure]
    refine wpAny_bind (wpAny_pure ?_)
    dsimp only
    have hz : (Array.map (fun x : Keyed => x.2) (vs.toArray.zip vs.toArray)) = vs.toArray := by
      apply Array.toList_inj.mp
      rw [Array.toList_map, Array.toList_zip]
      exact List.map_snd_zip (Nat.le_refl _)
    refine wpAny_bind (seqEpoch_at ho6 rfl ?_)
    show wpAny (model prog w) A (Builtin.List.listUpdate (.ref a) (fun _ => Array.map (fun x : Keyed => x.2) (vs.toArray.zip vs.toArray)) >>= _) P E _
    rw [hz]
    refine wpAny_bind (listUpdate_at ho6 rfl ?_ (Nat.zero_le _) (by rw [List.size_toArray]; omega))
    simp only [bne_self_eq_false, Bool.false_eq_true, if_false]
    exact wpAny_pure fin
  · rw [if_neg h2, if_neg h2]
    have l2 : 2 ≤ vs.length := by rw [List.size_toArray] at h2; omega
    obtain ⟨p0, e0, q1, q2, q3⟩ := sort_run (key := keyI nss) (n := vs.length) (by omega)
    refine wpAny_bind (kas_kind (T := .type "list") l2 (fun v hv => ?_) (by decide) (by decide) ?_)
    · obtain ⟨i, hi, rfl⟩ := List.getElem_of_mem hv
      obtain ⟨l, its, el, la, il, _⟩ := hit i hi
      rw [List.getD_eq_getElem?_getD, List.getElem?_eq_getElem hi] at el
      rw [show vs[i] = .ref l from el]
      intro A Q E s' k q
      obtain ⟨o, ho', hc, _⟩ := il
      exact wpAny_typeOf (T := "list") ⟨o, k _ _ (old _ _ la ho'), hc⟩ q
    have est : SortSt.mk' oneType' (vs.toArray.zip vs.toArray) #[] 7 none = kas_st oneType' (pairsOf vs) (List.toArray (List.range vs.length)) := by
      have e := kas_range (pairsOf vs)
      rw [pairsOf_size] at e
      show SortSt.mk' oneType' (pairsOf vs) #[] 7 none = SortSt.mk' oneType' ((List.toArray (List.range vs.length)).map (kas_item (pairsOf vs))) #[] 7 none
      rw [e]
    have ask : (kas_sort vs.length).kasWp (kas_ask prog w A oneType' vs) (fun p s' => p = p0 ∧ s' = { s with heap := ((s.heap.update a (Obj.mapSeq fun _ => #[])).push (seqObj "tuple" vs.toArray 0)).push (seqObj "list" #[] 0) })
        { s with heap := ((s.heap.update a (Obj.mapSeq fun _ => #[])).push (seqObj "tuple" vs.toArray 0)).push (seqObj "list" #[] 0) } := by
      refine wp_truth (lt := ltK (keyI nss)) (fun i j C hi hj hC => ?_) _ (sort_lv (by omega)) ⟨e0, rfl⟩
      obtain ⟨l, its, el, la, il, ii⟩ := hit i hi
      obtain ⟨m, its2, em, ma, im, ij⟩ := hit j hj
      unfold kas_ask
      rw [el, em]
      have up : ∀ {x : Addr} {xs : Array Value}, x ≠ a → s.heap.IsList x xs → (((s.heap.update a (Obj.mapSeq fun _ => #[])).push (seqObj "tuple" vs.toArray 0)).push (seqObj "list" #[] 0)).IsList x xs := fun hx ⟨o, e, r⟩ => ⟨o, old _ _ hx e, r⟩
      exact oneLt_lists (up la il) (up ma im) ii ij hu hC
    rw [kas_ask_eq] at ask
    have run := kas_runs (E := E) (Q := fun _ st' s' => arrOf st' = p0.map (kas_item (pairsOf vs)) ∧ failedOf st' = none ∧ s' = { s with heap := ((s.heap.update a (Obj.mapSeq fun _ => #[])).push (seqObj "tuple" vs.toArray 0)).push (seqObj "list" #[] 0) })
      l2 h64 (fun p' st' s' a1 a2 a3 a4 => ⟨by rw [a2, a4.1], a3, a4.2⟩) ask
    rw [← est] at run
    refine wpAny_bind (wpAny_mono run ?_ fun _ _ e => e)
    rintro ⟨⟨⟩, st'⟩ s' ⟨har, hf, rfl⟩
    dsimp only
    have hout : (arrOf st').map (·.2) = outOf vs p0 := by
      apply Array.toList_inj.mp
      rw [har, Array.map_map, Array.toList_map]
      exact List.map_congr_left fun i _ => by show (kas_item (pairsOf vs) i).2 = _; rw [kas_item_eq]
    rw [hout]
    refine wpAny_bind (seqEpoch_at ho6 rfl ?_)
    refine wpAny_bind (listUpdate_at ho6 rfl ?_ (Nat.zero_le _) (by unfold outOf; rw [List.size_toArray, List.length_map, Array.length_toList, q2]; omega))
    rw [hf]
    simp only [bne_self_eq_false, Bool.false_eq_true, if_false]
    exact wpAny_pure (h p0 q1 q3)
theorem sortedL {l : Addr} {vs : List Value} {nss : List (List Int)} {Q : Value → Shared → Prop} (hl : s.heap.IsList l vs.toArray) (h64 : vs.length < 64) (hu : A.units + 64 < cLine)
    (hit : ∀ i, i < vs.length → ∃ (l : Addr) (its : Array Value), vs.getD i Value.none = .ref l ∧ s.heap.IsList l its ∧ IntsAre its.toList (nss.getD i []))
    (h : ∀ p : Array Nat, p.Perm (List.toArray (List.range vs.length)) → SortedN (keyI nss) p vs.length → Q (.ref (s.heap.objs.size + 1)) { s with heap := sortedAll s.heap vs (outOf vs p) }) :
    wpAny (model prog w) A (call (.builtin "sorted") [.ref l]) Q E s := by
  have hln : vs.length ≤ sizeLine := by rw [sizeLine_eq]; omega
  refine Calls.call_function_entry kind_sorted plain_sorted entry_sorted (args_sorted1 _) ?_
  unfold Builtin.«sorted»
  refine wpAny_bind (m := checkCount "sorted" 1 1 _) (wpAny_pure ?_)
  refine wpAny_bind (collect_list hl ?_ hln)
  refine wpAny_bind (wpAny_newList ?_ hln)
  have hsz : ((s.heap.push (seqObj "list" #[] 0)).update s.heap.objs.size (Obj.mapSeq (· ++ vs.toArray))).objs.size = s.heap.objs.size + 1 := by
    rw [Heap.size_update, size_push']
  have hoL : (((s.heap.push (seqObj "list" #[] 0)).update s.heap.objs.size (Obj.mapSeq (· ++ vs.toArray))).push (seqObj "list" vs.toArray 0)).get? (s.heap.objs.size + 1) = some (seqObj "list" vs.toArray 0) := by
    rw [← hsz]; exact Heap.get?_push_size _ rfl
  have keep : ∀ b o, s.heap.get? b = some o → (((s.heap.push (seqObj "list" #[] 0)).update s.heap.objs.size (Obj.mapSeq (· ++ vs.toArray))).push (seqObj "list" vs.toArray 0)).get? b = some o := fun b o q => by
    have hlt : b < s.heap.objs.size := Heap.lt_size q
    exact Heap.get?_push_of_some _ ((Heap.get?_update_ne _ _ _ _ (Nat.ne_of_lt hlt)).trans (Heap.get?_push_of_some _ q))
  show wpAny _ _ _ _ _ { s with heap := ((s.heap.push (seqObj "list" #[] 0)).update s.heap.objs.size (Obj.mapSeq (· ++ vs.toArray))).push (seqObj "list" vs.toArray 0) }
  rw [hsz]
  refine wpAny_bind (wpAny_holding (wpAny_call_entry slot_list_sort ⟨_, hoL, rfl⟩ entry_list_sort (lsortL (nss := nss) hoL h64 ?_ (fun i hi => ?_) fun p a1 a2 => ⟨_, rfl, ?_⟩) (args_list_sort _)))
  · simp only [units_in1]; omega
  · obtain ⟨x, its, e, il, ii⟩ := hit i hi
    obtain ⟨o, ho, r⟩ := il
    exact ⟨x, its, e, Nat.ne_of_lt (Nat.lt_succ_of_lt (Heap.lt_size ho)), ⟨o, keep _ _ ho, r⟩, ii⟩
  · exact wpAny_pure ⟨_, rfl, h p a1 a2⟩
end
section
variable {α β : Type}
def insK (x : α × List Int) : List (α × List Int) → List (α × List Int)
  | [] => [x]
  | y :: l => if HT.lexLt x.2 y.2 = true then x :: y :: l else y :: insK x l
def sortK : List (α × List Int) → List (α × List Int)
  | [] => []
  | x :: l => insK x (sortK l)
theorem insK_map {g : α × List Int → β × List Int} (hg : ∀ x, (g x).2 = x.2) (x : α × List Int) : ∀ l, insK (g x) (l.map g) = (insK x l).map g
  | [] => rfl
  | y :: l => by
    rw [List.map_cons]
    unfold insK
    rw [hg, hg]
    split
    · rfl
    · rw [List.map_cons, insK_map hg x l]
theorem sortK_map {g : α × List Int → β × List Int} (hg : ∀ x, (g x).2 = x.2) : ∀ l, sortK (l.map g) = (sortK l).map g
  | [] => rfl
  | x :: l => by
    rw [List.map_cons]
    unfold sortK
    rw [sortK_map hg l, insK_map hg]
theorem insK_perm (x : α × List Int) : ∀ l, (insK x l).Perm (x :: l)
  | [] => .refl _
  | y :: l => by
    unfold insK
    split
    · exact .refl _
    · exact ((insK_perm x l).cons y).trans (List.Perm.swap x y l)
theorem sortK_perm : ∀ l : List (α × List Int), (sortK l).Perm l
  | [] => .refl _
  | x :: l => (insK_perm x _).trans ((sortK_perm l).cons x)
abbrev Weak (l : List (α × List Int)) : Prop := l.Pairwise fun a b => HT.lexLt b.2 a.2 = false
theorem lex_asymm {a b : List Int} (h : HT.lexLt a b = true) : HT.lexLt b a = false := by
  cases h2 : HT.lexLt b a with
  | false => rfl
  | true =>
    have := lex_trans a b a h h2
    rw [lex_irrefl] at this; cases this
theorem weak_trans {a b c : List Int} (h1 : HT.lexLt b a = false) (h2 : HT.lexLt c b = false) : HT.lexLt c a = false := KeyOrd.kle_trans (O := lexO) (a := a) (b := b) (c := c) h1 h2
theorem insK_weak (x : α × List Int) : ∀ {l}, Weak l → Weak (insK x l)
  | [], _ => List.pairwise_singleton _ _
  | y :: l, h => by
    unfold insK
    have hy := List.pairwise_cons.mp h
    split
    · rename_i c
      refine List.pairwise_cons.mpr ⟨fun z hz => ?_, h⟩
      rcases List.mem_cons.mp hz with rfl | hz
      · exact lex_asymm c
      · exact weak_trans (lex_asymm c) (hy.1 z hz)
    · rename_i c
      refine List.pairwise_cons.mpr ⟨fun z hz => ?_, insK_weak x hy.2⟩
      rcases List.mem_cons.mp ((insK_perm x l).mem_iff.mp hz) with rfl | hz
      · exact eq_false_of_ne_true c
      · exact hy.1 z hz
theorem sortK_weak : ∀ l : List (α × List Int), Weak (sortK l)
  | [] => .nil
  | x :: l => insK_weak x (sortK_weak l)
theorem key_one {l : List (α × List Int)} (nd : (l.map (·.2)).Nodup) {a b : α × List Int} (ha : a ∈ l) (hb : b ∈ l) (h : a.2 = b.2) : a = b := by
  induction l with
  | nil => cases ha
  | cons x l ih =>
    rw [List.map_cons, List.nodup_cons] at nd
    rcases List.mem_cons.mp ha with rfl | ha'
    · rcases List.mem_cons.mp hb with rfl | hb
      · rfl
      · have q : b.2 ∈ l.map (·.2) := List.mem_map_of_mem hb
        rw [← h] at q
        exact absurd q nd.1
    · rcases List.mem_cons.mp hb with rfl | hb
      · have q : a.2 ∈ l.map (·.2) := List.mem_map_of_mem ha'
        rw [h] at q
        exact absurd q nd.1
      · exact ih nd.2 ha' hb
theorem weak_one : ∀ {l m : List (α × List Int)}, l.Perm m → (l.map (·.2)).Nodup → Weak l → Weak m → l = m
  | [], m, h, _, _, _ => (List.nil_perm.mp h).symm
  | a :: l, [], h, _, _, _ => absurd h.symm (by simp)
  | a :: l, b :: m, h, nd, hl, hm => by
    have e : a = b := by
      have ha : a ∈ b :: m := h.mem_iff.mp List.mem_cons_self
      have hb : b ∈ a :: l := h.mem_iff.mpr List.mem_cons_self
      rcases List.mem_cons.mp ha with e | ha
      · exact e
      · rcases List.mem_cons.mp hb with e | hb'
        · exact e.symm
        · refine key_one nd List.mem_cons_self hb (lex_total _ _ ((List.pairwise_cons.mp hm).1 a ha) ((List.pairwise_cons.mp hl).1 b hb'))
    subst e
    rw [weak_one (List.Perm.cons_inv h) (List.nodup_cons.mp nd).2 (List.pairwise_cons.mp hl).2 (List.pairwise_cons.mp hm).2]
end
section
variable {X : Cx}
def rSortedL (K : PySem.W.Frag) : List V → Hp → VK → Prop := fun xs H Q => ∃ (p : Addr) (ls : List (Addr × List Int)), xs = [.ref p] ∧ SqL K H p (ls.map fun x => V.ref x.1) ∧ (∀ x ∈ ls, SqL K H x.1 (x.2.map V.int)) ∧ ls.length < 64 ∧ (ls.map (·.2)).Nodup ∧
  ∀ d, H d = none → Q (.ref d) (upd H d (.lst ((sortK ls).map fun x => V.ref x.1)))
theorem vals_refsK : ∀ {ls : List (Addr × List Int)} {its : List Value}, Vals (ls.map fun x => V.ref x.1) its → its = ls.map fun x => Value.ref x.1
  | [], _, h => by cases h; rfl
  | x :: ls, _, h => by
    cases h with
    | cons r rs => cases r; rw [vals_refsK rs]; rfl
theorem refs_valsK : ∀ (ls : List (Addr × List Int)), Vals (ls.map fun x => V.ref x.1) (ls.map fun x => Value.ref x.1)
  | [] => .nil
  | x :: ls => .cons rfl (refs_valsK ls)
theorem call_sortedL (hu : X.A.units + 64 < cLine) : CallR X (.builtin "sorted") (rSortedL X.K) := by
  intro pins s σ H xs us Q I r h
  obtain ⟨p, ls, rfl, hq, hi, h64, nd, q⟩ := h
  obtain ⟨u, rfl, ru⟩ := vals1 r
  cases ru
  obtain ⟨its, rv, pl, hz⟩ := I.list hq
  obtain rfl := vals_refsK rv
  have ln : (ls.map fun x => Value.ref x.1).length = ls.length := List.length_map _
  refine sortedL (nss := ls.map (·.2)) pl.isList (by rw [ln]; exact h64) hu (fun i hi' => ?_) fun p0 a1 a2 => ?_
  · rw [ln] at hi'
    obtain ⟨its2, r2, pl2, _⟩ := I.list (hi ls[i] (List.getElem_mem _))
    refine ⟨ls[i].1, its2.toArray, by simp [List.getD_eq_getElem?_getD, hi'], pl2.isList, ?_⟩
    rw [show (ls.map (·.2)).getD i [] = ls[i].2 by simp [List.getD_eq_getElem?_getD, hi']]
    simpa using vals_intsA r2
  · rw [ln] at a1 a2
    have hm : ∀ i ∈ p0.toList, i < ls.length := fun i hi => by
      have := (Array.perm_iff_toList_perm.mp a1).mem_iff.mp hi
      simpa using this
    have e1 : outOf (ls.map fun x => Value.ref x.1) p0 = ((p0.toList.map fun i => ls.getD i (0, [])).map fun x => Value.ref x.1).toArray := by
      unfold outOf
      congr 1
      rw [List.map_map]
      refine List.map_congr_left fun i hi => ?_
      have := hm i hi
      simp [List.getD_eq_getElem?_getD, this]
    have e2 : (p0.toList.map fun i => ls.getD i (0, [])).Perm ls := by
      have := (Array.perm_iff_toList_perm.mp a1).map fun i => ls.getD i (0, [])
      refine this.trans (List.Perm.of_eq ?_)
      refine List.ext_getElem (by simp) fun i h1 h2 => ?_
      simp [List.getD_eq_getElem?_getD, h2]
    have sz : p0.size = ls.length := by have := a1.size_eq; simpa using this
    have e3 : Weak (p0.toList.map fun i => ls.getD i (0, [])) := by
      refine List.pairwise_iff_getElem.mpr ?_
      intro i j hi hj hij
      have hi' : i < p0.size := by simpa using hi
      have hj' : j < p0.size := by simpa using hj
      have := a2 i j (Nat.le_of_lt hij) (by omega)
      have k1 : ∀ (i : Nat) (h : i < p0.size), kAt (keyI (ls.map (·.2))) p0 i = (ls.getD p0[i] (0, [])).2 := fun i h => by
        have hb := hm p0[i] (by simp)
        have e : p0.getD i 0 = p0[i] := by simp [Array.getD, h]
        unfold kAt
        rw [e]
        show (ls.map (·.2)).getD p0[i] [] = _
        rw [List.getD_eq_getElem?_getD, List.getElem?_map, List.getD_eq_getElem?_getD, List.getElem?_eq_getElem hb]
        rfl
      rw [k1 i hi', k1 j hj'] at this
      rw [List.getElem_map, List.getElem_map, Array.getElem_toList, Array.getElem_toList]
      exact this
    have e4 : (p0.toList.map fun i => ls.getD i (0, [])) = sortK ls := weak_one (e2.trans (sortK_perm ls).symm) ((e2.map (·.2)).nodup_iff.mpr nd) e3 (sortK_weak ls)
    rw [e1, e4]
    obtain ⟨e, he⟩ := sortedAll_at s.heap (ls.map fun x => Value.ref x.1) ((sortK ls).map fun x => Value.ref x.1).toArray
    have fresh : H (s.heap.objs.size + 1) = none := I.hok.fresh (Nat.le_succ _)
    refine ⟨.ref (s.heap.objs.size + 1), _, I.laid (t' := s.toks) (o := .lst ((sortK ls).map fun x => V.ref x.1)) (fun b o q => sortedAll_old q) (Nat.le_succ _) ?_, rfl, q _ fresh⟩
    exact ⟨by rw [List.length_map, (sortK_perm ls).length_eq]; rw [List.length_map] at hz; exact hz, _, e, refs_valsK _, he⟩
end
end L2
set_option maxRecDepth 100000
set_option maxHeartbeats 1000000
namespace L2
open PySem PySem.Spec PyProof.Rows
section
variable {prog : Program} {w : World} {A : Around} {R : Result → Shared → Prop} {I : Addr} {fp wr : List Addr} {n : Nat} {P : Nat → Value → Prop} {St : Nat → Heap → Prop} {kw : List (Str × Value)}
theorem minName : (toString "min" ++ toString ".loop" : String) = "min.loop" := by decide
theorem minLoop (W : Walks prog w A.in1 I fp wr n P St) (bt : Nat → Nat → Bool) (hcmp : CmpOf prog w A.in1 .Lt P bt) (S : Addr) (hSf : S ∉ fp) : ∀ (k j : Nat) (s : Shared) (vb : Value) (c : Nat), n - (j + 1) = k → j + 1 ≤ n → St (j + 1) s.heap → P (argBest bt j) vb →
    s.heap.get? S = some { cls := .type "list", dict := none, data := .seq #[vb, vb] c, slots := #[] } →
    (∀ v h' tk, P (argBest bt (n - 1)) v → (∀ b o, b ∉ wr → b ≠ S → s.heap.get? b = some o → h'.get? b = some o) → R (.ok (.ret v)) { s with heap := h', toks := tk }) →
    codeAny (model prog w) A (.builtin "min.loop" ⟨[.ref I, .none, .ref S], kw⟩) R s := by
  have nw : S ∉ wr := fun h => hSf (W.sub _ h)
  intro k
  induction k with
  | zero =>
    intro j s vb c hk hj hst hPb hS hR
    have e : j + 1 = n := by omega
    refine codeAny_builtin PySem.F.entry_min_loop ?_
    rw [Around.under_plainId PySem.F.plain_min_loop _]
    show wpAny _ A.in1 (seqItems? (.ref S) >>= _) _ _ s; refine wpAny_bind (wpAny_seqItems hS rfl ?_)
    show wpAny _ A.in1 (tryCatch (pyNext (.ref I)) _ >>= _) _ _ s; refine wpAny_bind (wpAny_tryCatch (W.done s _ _ (e ▸ hst) fun h' tk hk' => ?_))
    have hS1 := hk' S _ nw hS
    show wpAny _ A.in1 (updateSeq S (fun _ => #[]) >>= _) _ _ _; refine wpAny_bind ?_
    refine wpAny_updateSeq hS1 rfl (wpAny_bind (wpAny_letGo (wpAny_pure ?_)))
    exact hR vb _ tk (by rw [← e]; exact hPb) fun b o h1 h2 q => (Heap.get?_update_other _ _ (Ne.symm h2)).trans (hk' b o h1 q)
  | succ k ih =>
    intro j s vb c hk hj hst hPb hS hR
    have lt : j + 1 < n := by omega
    refine codeAny_builtin PySem.F.entry_min_loop ?_
    rw [Around.under_plainId PySem.F.plain_min_loop _]
    show wpAny _ A.in1 (seqItems? (.ref S) >>= _) _ _ s; refine wpAny_bind (wpAny_seqItems hS rfl ?_)
    show wpAny _ A.in1 (tryCatch (pyNext (.ref I)) _ >>= _) _ _ s; refine wpAny_bind (wpAny_tryCatch (W.item (j + 1) s _ _ lt hst fun v h' tk hP hst' hk' => ?_))
    have hS1 := hk' S _ nw hS
    show wpAny _ A.in1 (tryCatch (holding [v, v] (richCompare .Lt v vb >>= _)) _ >>= _) _ _ _; refine wpAny_bind (wpAny_tryCatch (wpAny_holding (wpAny_bind (hcmp (j + 1) (argBest bt j) v vb _ _ _ hP hPb ?_))))
    refine wpAny_bind (wpAny_holding (wpAny_truthy_bool (wpAny_bind (wpAny_letGo (wpAny_pure ?_)))))
    cases hb : bt (j + 1) (argBest bt j) with
    | true =>
      simp only [if_true]
      refine wpAny_bind ?_
      refine wpAny_updateSeq hS1 rfl (wpAny_bind (wpAny_letGo ?_))
      rw [minName]
      refine wpAny_pure ⟨plainId_quiet PySem.F.plain_min_loop _, ih (j + 1) _ v _ (by omega) lt (W.frame _ _ _ hst' fun b h1 o q => ?_) (by simp only [argBest, hb, if_true]; exact hP) (Heap.get?_update_self _ hS1 rfl) fun v1 h2 tk2 hP1 hk2 => ?_⟩
      · exact (Heap.get?_update_other _ _ (fun h : S = b => hSf (by rw [h]; exact h1))).trans q
      · exact hR v1 h2 tk2 hP1 fun b o h3 h4 q => hk2 b o h3 h4 ((Heap.get?_update_other _ _ (Ne.symm h4)).trans (hk' b o h3 q))
    | false =>
      simp only [Bool.false_eq_true, if_false]
      refine wpAny_bind (wpAny_letGo ?_)
      rw [minName]
      refine wpAny_pure ⟨plainId_quiet PySem.F.plain_min_loop _, ih (j + 1) _ vb c (by omega) lt hst' (by simp only [argBest, hb, Bool.false_eq_true, if_false]; exact hPb) hS1 fun v1 h2 tk2 hP1 hk2 => ?_⟩
      exact hR v1 h2 tk2 hP1 fun b o h3 h4 q => hk2 b o h3 h4 (hk' b o h3 q)
end
section
variable {prog : Program} {w : World} {A : Around} {E : Value → Shared → Prop} {s : Shared}
theorem argsMinD (a v : Value) : argsOk "min" ⟨[a], [(Str.ofString "default", v)]⟩ := by unfold argsOk; kernel_rfl
theorem min_default {l : Addr} {its : List Value} {ns : List Int} {d : Value} {Q : Value → Shared → Prop} (hh : A.handled = none) (hl : s.heap.IsList l its.toArray) (hI : IntsAre its ns) (hne : 0 < ns.length)
    (h : ∀ (m : Int) (t : Tok) (h' : Heap) (k : Nat), m ∈ ns → (∀ x ∈ ns, m ≤ x) → (∀ b o, s.heap.get? b = some o → h'.get? b = some o) → Q (.int m t) { s with heap := h', toks := k }) :
    wpAny (model prog w) A (call (.builtin "min") [.ref l] [(Str.ofString "default", d)]) Q E s := by
  have hlen : its.length = ns.length := hI.length
  have num : ∀ (i : Nat) (v : Value), its.toArray[i]? = some v → ∃ t, v = .int (ns.getD i 0) t := fun i v e => hI.int_at i v (by simpa using e)
  refine PyProof.Rows.kmk_tree PySem.F.kind_min PySem.F.plain_min PySem.F.entry_min (argsMinD _ _) ?_
  show wpAny _ A.in1 (Builtin.Builtins.bindParams "min" ["key", "default"] 0 ⟨[], [(Str.ofString "default", d)]⟩ >>= _) _ _ s
  refine wpAny_bind (wpAny_of_eq (show Builtin.Builtins.bindParams "min" ["key", "default"] 0 ⟨[], [(Str.ofString "default", d)]⟩ = pure [none, some d] from rfl) ?_)
  refine wpAny_bind (wpAny_pure (wpAny_bind (wpAny_pyIter_list hl ?_)))
  refine wpAny_bind (wpAny_newList ?_ (Nat.zero_le _))
  rw [minName]
  have lt : l < s.heap.objs.size := by obtain ⟨_, e, _⟩ := hl; exact Heap.lt_size e
  have W := Walks.list (prog := prog) (w := w) (A := A.in1) hh s.heap.objs.size l (Nat.ne_of_lt lt) its.toArray
  have sz : its.toArray.size = ns.length := by simp [hlen]
  have hS : (s.heap.push { cls := .type "list_iterator", data := .fields #[.ref l, .int 0 0] }).objs.size = s.heap.objs.size + 1 := size_push' ..
  have cmp : CmpOf prog w A.in1 .Lt (fun i v => its.toArray[i]? = some v) (fun i j => decide (ns.getD i 0 < ns.getD j 0)) := fun i j vi vj s' Q' E' hi hj hq => by
    obtain ⟨t, rfl⟩ := num i vi hi
    obtain ⟨u, rfl⟩ := num j vj hj
    exact HT.rcLt_int _ _ _ _ _ _ _ _ _ _ hq
  obtain ⟨b1, b2⟩ := argBest_lt (fun i => ns.getD i 0) (ns.length - 1)
  refine wpAny_pure ⟨plainId_quiet PySem.F.plain_min_loop _, codeAny_builtin PySem.F.entry_min_loop ?_⟩
  rw [Around.under_plainId PySem.F.plain_min_loop _]
  have gS : ((s.heap.push { cls := .type "list_iterator", data := .fields #[.ref l, .int 0 0] }).push (seqObj "list" #[] 0)).get? (s.heap.push { cls := .type "list_iterator", data := .fields #[.ref l, .int 0 0] }).objs.size = some (seqObj "list" #[] 0) := Heap.get?_push_size _ rfl
  have gI : ((s.heap.push { cls := .type "list_iterator", data := .fields #[.ref l, .int 0 0] }).push (seqObj "list" #[] 0)).get? s.heap.objs.size = some { cls := .type "list_iterator", data := .fields #[.ref l, .int 0 0] } := Heap.get?_push_of_some _ (Heap.get?_push_size _ rfl)
  have nf : (s.heap.push { cls := .type "list_iterator", data := .fields #[.ref l, .int 0 0] }).objs.size ∉ [s.heap.objs.size, l] := by
    rw [hS]; simp only [List.mem_cons, List.mem_singleton, List.not_mem_nil, or_false, not_or]
    exact ⟨Nat.ne_of_gt (Nat.lt_succ_self _), Nat.ne_of_gt (Nat.lt_succ_of_lt lt)⟩
  have nw : (s.heap.push { cls := .type "list_iterator", data := .fields #[.ref l, .int 0 0] }).objs.size ∉ [s.heap.objs.size] := fun q => nf (by rw [List.mem_singleton.mp q]; exact List.mem_cons_self)
  show wpAny _ A.in1 (seqItems? (.ref _) >>= _) _ _ _; refine wpAny_bind (wpAny_seqItems gS rfl ?_)
  show wpAny _ A.in1 (tryCatch (pyNext (.ref s.heap.objs.size)) _ >>= _) _ _ _
  refine wpAny_bind (wpAny_tryCatch (W.item 0 _ _ _ (by rw [sz]; exact hne) ⟨⟨_, gI, rfl, rfl⟩, (hl.push _).push _⟩ fun v h1 k1 hP hst hk1 => ?_))
  have hS1 := hk1 _ _ nw gS
  show wpAny _ A.in1 (updateSeq _ (fun _ => #[v, v]) >>= _) _ _ _
  refine wpAny_bind ?_
  refine wpAny_updateSeq hS1 rfl ?_
  rw [minName]
  refine wpAny_pure ⟨plainId_quiet PySem.F.plain_min_loop _, minLoop W (fun i j => decide (ns.getD i 0 < ns.getD j 0)) cmp _ nf _ 0 _ v _ rfl (by rw [sz]; exact hne) (W.frame _ _ _ hst fun b h2 o q => ?_) hP (Heap.get?_update_self _ hS1 rfl) fun v2 h2 k2 hP2 hk2 => ?_⟩
  · exact (Heap.get?_update_other _ _ (fun q1 => nf (by rw [q1]; exact h2))).trans q
  · obtain ⟨t, rfl⟩ := num _ _ hP2
    rw [sz]
    have lb : argBest (fun i j => decide (ns.getD i 0 < ns.getD j 0)) (ns.length - 1) < ns.length := by omega
    refine h _ t h2 k2 ?_ (fun x hx => ?_) fun b o e => ?_
    · rw [List.getD_eq_getElem?_getD, List.getElem?_eq_getElem lb]; exact List.getElem_mem _
    · obtain ⟨j, hj, rfl⟩ := List.getElem_of_mem hx
      have := b2 j (by omega)
      simpa [List.getD_eq_getElem?_getD, hj] using this
    · have hb := Heap.lt_size e
      have n1 : b ≠ s.heap.objs.size := Nat.ne_of_lt hb
      have n2 : b ≠ (s.heap.push { cls := .type "list_iterator", data := .fields #[.ref l, .int 0 0] }).objs.size := by rw [hS]; exact Nat.ne_of_lt (Nat.lt_succ_of_lt hb)
      refine hk2 b o (by simpa using n1) n2 ((Heap.get?_update_other _ _ (Ne.symm n2)).trans (hk1 b o (by simpa using n1) (Heap.get?_push_of_some _ (Heap.get?_push_of_some _ e))))
end
section
variable {X : Cx} {e d : Expr} {te td : TE} {p q kp : Pos}
def tMinD (K : PySem.W.Frag) (te td : TE) : TE := fun σ H Q => te σ H fun v H1 => td σ H1 fun _ H2 => ∃ (a : Addr) (ns : List Int), [v] = [V.ref a] ∧ SqL K H2 a (ns.map V.int) ∧ 0 < ns.length ∧ ∀ m : Int, m ∈ ns → (∀ x ∈ ns, m ≤ x) → Q (.int m) H2
theorem pe_minD (hc : X.calm = true) (hg : Gl X "min") (hm : X.mg "min" = none) (hv : bootBuiltins "min" = some (.builtin "min")) (he : PE X e te) (hd : PE X d td) (s1 : starEach [e] X.env = [(false, eval e X.env)] := by rfl) :
    PE X (.Call (.Name "min" p) [e] [⟨some "default", d, kp⟩] q) (tMinD X.K te td) := by
  intro pins s σ H Q I h
  refine wpAny_Call_Name_kw (ld_blt I hg hm hv ?_)
  refine callWith_kw ?_ (by rw [s1]; rfl) (by rw [s1]; rfl)
  refine thn ((pa_cons he pa_nil s1) q pins s σ H (fun vs H1 => td σ H1 fun _ H2 => ∃ (a : Addr) (ns : List Int), vs = [V.ref a] ∧ SqL X.K H2 a (ns.map V.int) ∧ 0 < ns.length ∧ ∀ m : Int, m ∈ ns → (∀ x ∈ ns, m ≤ x) → Q (.int m) H2) I h) fun us s2 ⟨vs, H1, I1, r1, q1⟩ => ?_
  refine kws_cons (thn (hd pins s2 σ H1 _ I1 q1) fun u s3 ⟨x, H2, I2, r2, q2⟩ => kws_nil ?_)
  obtain ⟨a, ns, rfl, hs, h0, qq⟩ := q2
  obtain ⟨w, rfl, rw⟩ := vals1 r1
  cases rw
  obtain ⟨its, rv, pl, hz⟩ := I2.list hs
  exact min_default (I2.ok.hd hc) pl.isList (vals_intsA rv) h0 fun m t h' k a1 a2 a3 => ⟨.int m, H2, I2.kept (t' := k) a3, ⟨t, rfl⟩, qq m a1 a2⟩
end
end L2
set_option maxRecDepth 100000
set_option maxHeartbeats 4000000
namespace M
open PySem L2
inductive D where
  | non | bl (b : Bool) | int (i : Int) | str (x : Str) | lst (xs : List D) | tup (xs : List D) | ptr (k : Nat) | obj (c : Nat) (ns : List Str) (ds : List D) | exn (c : Nat)
inductive Cell where
  | dead | lst (xs : List D) | ins (c : Nat) (ns : List Str) (ds : List D)
abbrev Store := List Cell
structure S where
  r : List (Option D)
  o : Store
inductive Res (α : Type) where
  | ok (a : α) | exc (c : Nat) (a : D) (o : S) | bad
def Res.bind {α β : Type} (x : Res α) (f : α → Res β) : Res β := match x with
  | .ok a => f a
  | .exc c a o => .exc c a o
  | .bad => .bad
@[simp] theorem bind_ok {α β : Type} (a : α) (f : α → Res β) : (Res.ok a).bind f = f a := rfl
@[simp] theorem bind_exc {α β : Type} (c : Nat) (a : D) (o : S) (f : α → Res β) : (Res.exc c a o : Res α).bind f = .exc c a o := rfl
@[simp] theorem bind_bad {α β : Type} (f : α → Res β) : (Res.bad : Res α).bind f = .bad := rfl
abbrev Wsh := Nat → D → S → Hp → Hp → List Addr → Prop
structure Ct where
  K : PySem.W.Frag
  ca : Nat → Addr
  W : Wsh
mutual
def Rep (K : PySem.W.Frag) (ca : Nat → Addr) (θ : List Addr) (F : Hp) : D → V → Prop
  | .non, v => v = .non
  | .bl b, v => v = .bl b
  | .int i, v => v = .int i
  | .str x, v => v = .str x
  | .lst ds, v => ∃ a xs, v = .ref a ∧ SqL K F a xs ∧ Reps K ca θ F ds xs
  | .tup ds, v => ∃ a xs, v = .ref a ∧ SqT K F a xs ∧ Reps K ca θ F ds xs
  | .ptr k, v => ∃ a, v = .ref a ∧ θ[k]? = some a
  | .obj c ns ds, v => ∃ a dx xs, v = .ref a ∧ F a = some (.ins (ca c) dx (ns.zip xs)) ∧ ns.length = xs.length ∧ Reps K ca θ F ds xs
  | .exn c, v => ∃ a, v = .ref a ∧ F a = some (exO a (ca c))
def Reps (K : PySem.W.Frag) (ca : Nat → Addr) (θ : List Addr) (F : Hp) : List D → List V → Prop
  | [], xs => xs = []
  | d :: ds, xs => ∃ v r, xs = v :: r ∧ Rep K ca θ F d v ∧ Reps K ca θ F ds r
end
mutual
def pureD : D → Bool
  | .lst ds => pureDs ds
  | .tup ds => pureDs ds
  | .ptr _ => false
  | .obj _ _ ds => pureDs ds
  | _ => true
def pureDs : List D → Bool
  | [] => true
  | d :: ds => pureD d && pureDs ds
end
def scalD : D → Bool
  | .non => true | .bl _ => true | .int _ => true | .str _ => true | _ => false
theorem Same.seqT {K : PySem.W.Frag} {H H' : Hp} {a : Addr} {xs : List V} (e : Same H H') (h : SqT K H a xs) : SqT K H' a xs := by
  rcases h with (h | ⟨o, h⟩) | h
  · exact .inl (.inl (e _ _ h))
  · exact .inl (.inr ⟨o, e _ _ h⟩)
  · exact .inr h
section
variable {K : PySem.W.Frag} {ca : Nat → Addr} {θ θ1 : List Addr} {F F1 : Hp}
mutual
theorem Rep.mono (hF : Same F F1) (hθ : ∃ r, θ1 = θ ++ r) : ∀ {d : D} {v : V}, Rep K ca θ F d v → Rep K ca θ1 F1 d v
  | .non, _, h => h
  | .bl _, _, h => h
  | .int _, _, h => h
  | .str _, _, h => h
  | .lst ds, _, h => by
    unfold Rep at h ⊢
    obtain ⟨a, xs, e, hs, hr⟩ := h
    exact ⟨a, xs, e, hF.seq hs, Reps.mono hF hθ hr⟩
  | .tup ds, _, h => by
    unfold Rep at h ⊢
    obtain ⟨a, xs, e, hs, hr⟩ := h
    exact ⟨a, xs, e, Same.seqT hF hs, Reps.mono hF hθ hr⟩
  | .ptr k, _, h => by
    unfold Rep at h ⊢
    obtain ⟨a, e, hk⟩ := h
    obtain ⟨r, rfl⟩ := hθ
    refine ⟨a, e, ?_⟩
    rw [List.getElem?_append_left (List.getElem?_eq_some_iff.mp hk).1]
    exact hk
  | .obj c ns ds, _, h => by
    unfold Rep at h ⊢
    obtain ⟨a, dx, xs, e, ha, hl, hr⟩ := h
    exact ⟨a, dx, xs, e, hF _ _ ha, hl, Reps.mono hF hθ hr⟩
  | .exn c, _, h => by
    unfold Rep at h ⊢
    obtain ⟨a, e, ha⟩ := h
    exact ⟨a, e, hF _ _ ha⟩
theorem Reps.mono (hF : Same F F1) (hθ : ∃ r, θ1 = θ ++ r) : ∀ {ds : List D} {xs : List V}, Reps K ca θ F ds xs → Reps K ca θ1 F1 ds xs
  | [], _, h => h
  | d :: ds, _, h => by
    unfold Reps at h ⊢
    obtain ⟨v, r, e, h1, h2⟩ := h
    exact ⟨v, r, e, Rep.mono hF hθ h1, Reps.mono hF hθ h2⟩
end
mutual
theorem Rep.pure : ∀ {d : D} {v : V}, pureD d = true → Rep K ca θ F d v → Rep K ca θ1 F d v
  | .non, _, _, h => h
  | .bl _, _, _, h => h
  | .int _, _, _, h => h
  | .str _, _, _, h => h
  | .lst ds, _, p, h => by
    unfold Rep at h ⊢
    obtain ⟨a, xs, e, hs, hr⟩ := h
    exact ⟨a, xs, e, hs, Reps.pure (by simpa [pureD] using p) hr⟩
  | .tup ds, _, p, h => by
    unfold Rep at h ⊢
    obtain ⟨a, xs, e, hs, hr⟩ := h
    exact ⟨a, xs, e, hs, Reps.pure (by simpa [pureD] using p) hr⟩
  | .ptr k, _, p, h => by simp [pureD] at p
  | .obj c ns ds, _, p, h => by
    unfold Rep at h ⊢
    obtain ⟨a, dx, xs, e, ha, hl, hr⟩ := h
    exact ⟨a, dx, xs, e, ha, hl, Reps.pure (by simpa [pureD] using p) hr⟩
  | .exn c, _, _, h => by
    unfold Rep at h ⊢
    exact h
theorem Reps.pure : ∀ {ds : List D} {xs : List V}, pureDs ds = true → Reps K ca θ F ds xs → Reps K ca θ1 F ds xs
  | [], _, _, h => h
  | d :: ds, _, p, h => by
    unfold Reps at h ⊢
    obtain ⟨v, r, e, h1, h2⟩ := h
    simp only [pureDs, Bool.and_eq_true] at p
    exact ⟨v, r, e, Rep.pure p.1 h1, Reps.pure p.2 h2⟩
end
theorem Rep.scal {d : D} {v : V} (p : scalD d = true) (h : Rep K ca θ F d v) : Rep K ca θ1 F1 d v := by
  cases d <;> first | exact h | (simp [scalD] at p)
theorem Reps.length : ∀ {ds : List D} {xs : List V}, Reps K ca θ F ds xs → xs.length = ds.length
  | [], _, h => by unfold Reps at h; rw [h]; rfl
  | d :: ds, _, h => by
    unfold Reps at h
    obtain ⟨v, r, rfl, _, h2⟩ := h
    rw [List.length_cons, List.length_cons, Reps.length h2]
theorem Reps.get : ∀ {ds : List D} {xs : List V} {i : Nat} {d : D}, Reps K ca θ F ds xs → ds[i]? = some d → ∃ v, xs[i]? = some v ∧ Rep K ca θ F d v
  | [], _, _, _, _, e => by simp at e
  | d :: ds, _, 0, _, h, e => by
    unfold Reps at h
    obtain ⟨v, r, rfl, h1, _⟩ := h
    simp at e
    subst e
    exact ⟨v, rfl, h1⟩
  | d :: ds, _, i + 1, x, h, e => by
    unfold Reps at h
    obtain ⟨v, r, rfl, _, h2⟩ := h
    obtain ⟨u, e1, e2⟩ := Reps.get (i := i) (d := x) h2 (by simpa using e)
    exact ⟨u, by simpa using e1, e2⟩
theorem Reps.append : ∀ {ds es : List D} {xs ys : List V}, Reps K ca θ F ds xs → Reps K ca θ F es ys → Reps K ca θ F (ds ++ es) (xs ++ ys)
  | [], _, _, _, h, k => by unfold Reps at h; rw [h]; exact k
  | d :: ds, _, _, _, h, k => by
    unfold Reps at h
    obtain ⟨v, r, rfl, h1, h2⟩ := h
    show Reps K ca θ F (d :: (ds ++ _)) (v :: (r ++ _))
    unfold Reps
    exact ⟨v, _, rfl, h1, Reps.append h2 k⟩
theorem Reps.one {d : D} {v : V} (h : Rep K ca θ F d v) : Reps K ca θ F [d] [v] := by
  unfold Reps
  exact ⟨v, [], rfl, h, by unfold Reps; rfl⟩
theorem Reps.nil : Reps K ca θ F [] [] := by unfold Reps; rfl
theorem Reps.cons {d : D} {v : V} {ds : List D} {xs : List V} (h : Rep K ca θ F d v) (k : Reps K ca θ F ds xs) : Reps K ca θ F (d :: ds) (v :: xs) := by
  unfold Reps
  exact ⟨v, xs, rfl, h, k⟩
theorem Reps.take : ∀ {ds : List D} {xs : List V} (n : Nat), Reps K ca θ F ds xs → Reps K ca θ F (ds.take n) (xs.take n)
  | _, _, 0, _ => by simp; exact Reps.nil
  | [], _, n + 1, h => by unfold Reps at h; rw [h]; exact Reps.nil
  | d :: ds, _, n + 1, h => by
    unfold Reps at h
    obtain ⟨v, r, rfl, h1, h2⟩ := h
    exact Reps.cons h1 (Reps.take n h2)
theorem Reps.drop : ∀ {ds : List D} {xs : List V} (n : Nat), Reps K ca θ F ds xs → Reps K ca θ F (ds.drop n) (xs.drop n)
  | _, _, 0, h => h
  | [], _, n + 1, h => by unfold Reps at h; rw [h]; exact Reps.nil
  | d :: ds, _, n + 1, h => by
    unfold Reps at h
    obtain ⟨v, r, rfl, h1, h2⟩ := h
    exact Reps.drop n h2
theorem Reps.set {d : D} {v : V} (h : Rep K ca θ F d v) : ∀ {ds : List D} {xs : List V} (i : Nat), Reps K ca θ F ds xs → Reps K ca θ F (ds.set i d) (xs.set i v)
  | [], _, _, k => by unfold Reps at k; rw [k]; exact Reps.nil
  | _ :: _, _, 0, k => by
    unfold Reps at k
    obtain ⟨v, r, rfl, h1, h2⟩ := k
    exact Reps.cons h h2
  | _ :: _, _, i + 1, k => by
    unfold Reps at k
    obtain ⟨v, r, rfl, h1, h2⟩ := k
    exact Reps.cons h1 (Reps.set h i h2)
end
structure Stp (H F : Hp) (θ : List Addr) (H1 F1 : Hp) (θ1 : List Addr) : Prop where
  ff : Same F F1
  th : ∃ r, θ1 = θ ++ r ∧ ∀ a ∈ r, H a = none
  kp : ∀ b o, H b = some o → b ∉ θ → H1 b = some o
  al : ∀ b o, H b = some o → ∃ o', H1 b = some o'
  nf : ∀ b o, F1 b = some o → F b = some o ∨ H b = none ∨ b ∈ θ
theorem Stp.refl {H F : Hp} {θ : List Addr} : Stp H F θ H F θ := ⟨Same.refl _, ⟨[], by simp, by simp⟩, fun _ _ h _ => h, fun _ o h => ⟨o, h⟩, fun _ _ h => .inl h⟩
theorem Stp.pre {H F H1 F1 : Hp} {θ θ1 : List Addr} (x : Stp H F θ H1 F1 θ1) : ∃ r, θ1 = θ ++ r := let ⟨r, e, _⟩ := x.th; ⟨r, e⟩
theorem Stp.trans {H F H1 F1 H2 F2 : Hp} {θ θ1 θ2 : List Addr} (x : Stp H F θ H1 F1 θ1) (y : Stp H1 F1 θ1 H2 F2 θ2) : Stp H F θ H2 F2 θ2 := by
  obtain ⟨r, rfl, hr⟩ := x.th
  obtain ⟨r2, rfl, hr2⟩ := y.th
  refine ⟨x.ff.trans y.ff, ⟨r ++ r2, by rw [List.append_assoc], fun a ha => ?_⟩, fun b o h hb => ?_, fun b o h => ?_, fun b o h => ?_⟩
  · rcases List.mem_append.mp ha with z | z
    · exact hr a z
    · cases e : H a with
      | none => rfl
      | some o =>
        obtain ⟨o', e'⟩ := x.al a o e
        rw [hr2 a z] at e'
        cases e'
  · refine y.kp b o (x.kp b o h hb) fun hm => ?_
    rcases List.mem_append.mp hm with z | z
    · exact hb z
    · rw [hr b z] at h
      cases h
  · obtain ⟨o', e'⟩ := x.al b o h
    exact y.al b o' e'
  · rcases y.nf b o h with z | z | z
    · exact x.nf b o z
    · refine .inr (.inl ?_)
      cases e : H b with
      | none => rfl
      | some o' =>
        obtain ⟨o2, e2⟩ := x.al b o' e
        rw [z] at e2
        cases e2
    · rcases List.mem_append.mp z with q | q
      · exact .inr (.inr q)
      · exact .inr (.inl (hr b q))
def CellOk (K : PySem.W.Frag) (ca : Nat → Addr) (H F : Hp) (θ : List Addr) (a : Addr) : Cell → Prop
  | .dead => ∃ o, H a = some o
  | .lst ds => F a = none ∧ ∃ xs, H a = some (.lst xs) ∧ Reps K ca θ F ds xs
  | .ins c ns ds => F a = none ∧ ∃ dx xs, H a = some (.ins (ca c) dx (ns.zip xs)) ∧ ns.length = xs.length ∧ Reps K ca θ F ds xs
theorem CellOk.there {K : PySem.W.Frag} {ca : Nat → Addr} {H F : Hp} {θ : List Addr} {a : Addr} {c : Cell} (h : CellOk K ca H F θ a c) : ∃ o, H a = some o := by
  cases c with
  | dead => exact h
  | lst ds => obtain ⟨_, xs, e, _⟩ := h; exact ⟨_, e⟩
  | ins c ns ds => obtain ⟨_, dx, xs, e, _⟩ := h; exact ⟨_, e⟩
structure Now (K : PySem.W.Frag) (ca : Nat → Addr) (H F : Hp) (θ : List Addr) (O : Store) : Prop where
  fh : Same F H
  nd : θ.Nodup
  ln : θ.length = O.length
  ce : ∀ (k : Nat) a c, θ[k]? = some a → O[k]? = some c → CellOk K ca H F θ a c
theorem Now.there {K : PySem.W.Frag} {ca : Nat → Addr} {H F : Hp} {θ : List Addr} {O : Store} (n : Now K ca H F θ O) {a : Addr} (h : a ∈ θ) : ∃ o, H a = some o := by
  obtain ⟨k, hk, e⟩ := List.getElem_of_mem h
  have h1 : θ[k]? = some a := by rw [List.getElem?_eq_getElem hk, e]
  have h2 : ∃ c, O[k]? = some c := ⟨O[k]'(by rw [← n.ln]; exact hk), List.getElem?_eq_getElem _⟩
  obtain ⟨c, h2⟩ := h2
  exact (n.ce k a c h1 h2).there
theorem Now.nil {K : PySem.W.Frag} {ca : Nat → Addr} {H F : Hp} (h : Same F H) : Now K ca H F [] [] := ⟨h, List.nodup_nil, rfl, fun k a c e _ => by simp at e⟩
structure BS (K : PySem.W.Frag) (ca : Nat → Addr) (σ : St) (H F : Hp) (θ : List Addr) (s : S) : Prop where
  now : Now K ca H F θ s.o
  len : σ.length = s.r.length
  sl : ∀ (i : Nat) d, s.r[i]? = some (some d) → ∃ v, σ[i]? = some (some v) ∧ Rep K ca θ F d v
theorem BS.newF {K : PySem.W.Frag} {ca : Nat → Addr} {σ : St} {H F : Hp} {θ : List Addr} {s : S} (b : BS K ca σ H F θ s) {p : Addr} (hp : H p = none) (o : HO) :
    Stp H F θ (upd H p o) (upd F p o) θ ∧ BS K ca σ (upd H p o) (upd F p o) θ s ∧ Same F (upd F p o) ∧ upd F p o p = some o := by
  have nm : ∀ a u, H a = some u → a ≠ p := fun a u e z => by rw [z, hp] at e; cases e
  have fp : F p = none := by
    cases e : F p with
    | none => rfl
    | some u => rw [b.now.fh p u e] at hp; cases hp
  have sF : Same F (upd F p o) := fun a u e => by rw [upd_ne (nm a u (b.now.fh a u e))]; exact e
  have sH : Same H (upd H p o) := fun a u e => by rw [upd_ne (nm a u e)]; exact e
  refine ⟨⟨sF, ⟨[], by simp, by simp⟩, fun a u e _ => sH a u e, fun a u e => ⟨u, sH a u e⟩, fun a u e => ?_⟩, ⟨⟨fun a u e => ?_, b.now.nd, b.now.ln, fun k a c e1 e2 => ?_⟩, b.len, fun i d e => ?_⟩, sF, upd_same⟩
  · by_cases h : a = p
    · subst h; exact .inr (.inl hp)
    · rw [upd_ne h] at e; exact .inl e
  · by_cases h : a = p
    · subst h; rw [upd_same] at e ⊢; exact e
    · rw [upd_ne h] at e ⊢; exact b.now.fh a u e
  · have q := b.now.ce k a c e1 e2
    obtain ⟨u, hu⟩ := q.there
    have ne := nm a u hu
    cases c with
    | dead => exact ⟨u, sH a u hu⟩
    | lst ds =>
      obtain ⟨q1, xs, q2, q3⟩ := q
      exact ⟨by rw [upd_ne ne]; exact q1, xs, sH _ _ q2, q3.mono sF ⟨[], by simp⟩⟩
    | ins c ns ds =>
      obtain ⟨q1, dx, xs, q2, q3, q4⟩ := q
      exact ⟨by rw [upd_ne ne]; exact q1, dx, xs, sH _ _ q2, q3, q4.mono sF ⟨[], by simp⟩⟩
  · obtain ⟨v, h1, h2⟩ := b.sl i d e
    exact ⟨v, h1, h2.mono sF ⟨[], by simp⟩⟩
theorem BS.newC {K : PySem.W.Frag} {ca : Nat → Addr} {σ : St} {H F : Hp} {θ : List Addr} {s : S} (b : BS K ca σ H F θ s) {p : Addr} (hp : H p = none) {ds : List D} {xs : List V} (hr : Reps K ca θ F ds xs) :
    Stp H F θ (upd H p (.lst xs)) F (θ ++ [p]) ∧ BS K ca σ (upd H p (.lst xs)) F (θ ++ [p]) ⟨s.r, s.o ++ [.lst ds]⟩ ∧ Rep K ca (θ ++ [p]) F (.ptr s.o.length) (.ref p) := by
  have nm : ∀ a u, H a = some u → a ≠ p := fun a u e z => by rw [z, hp] at e; cases e
  have fp : F p = none := by
    cases e : F p with
    | none => rfl
    | some u => rw [b.now.fh p u e] at hp; cases hp
  have sH : Same H (upd H p (.lst xs)) := fun a u e => by rw [upd_ne (nm a u e)]; exact e
  have pt : p ∉ θ := fun h => by obtain ⟨u, hu⟩ := b.now.there h; rw [hp] at hu; cases hu
  refine ⟨⟨Same.refl _, ⟨[p], rfl, by simpa using hp⟩, fun a u e _ => sH a u e, fun a u e => ⟨u, sH a u e⟩, fun a u e => .inl e⟩, ⟨⟨b.now.fh.trans sH, ?_, ?_, fun k a c e1 e2 => ?_⟩, b.len, fun i d e => ?_⟩, ?_⟩
  · refine List.nodup_append.mpr ⟨b.now.nd, by simp, fun a ha x hx => ?_⟩
    rw [List.mem_singleton.mp hx]
    rintro rfl
    exact pt ha
  · simp [b.now.ln]
  · by_cases hk : k < θ.length
    · rw [List.getElem?_append_left hk] at e1
      rw [List.getElem?_append_left (by rw [← b.now.ln]; exact hk)] at e2
      have q := b.now.ce k a c e1 e2
      obtain ⟨u, hu⟩ := q.there
      cases c with
      | dead => exact ⟨u, sH a u hu⟩
      | lst ds =>
        obtain ⟨q1, ys, q2, q3⟩ := q
        exact ⟨q1, ys, sH _ _ q2, q3.mono (Same.refl _) ⟨[p], rfl⟩⟩
      | ins c ns ds =>
        obtain ⟨q1, dx, ys, q2, q3, q4⟩ := q
        exact ⟨q1, dx, ys, sH _ _ q2, q3, q4.mono (Same.refl _) ⟨[p], rfl⟩⟩
    · have hk1 : k < (θ ++ [p]).length := (List.getElem?_eq_some_iff.mp e1).1
      have hk2 : k = θ.length := by simp at hk1; omega
      subst hk2
      rw [List.getElem?_append_right (Nat.le_refl _)] at e1
      rw [List.getElem?_append_right (by rw [b.now.ln]; exact Nat.le_refl _), b.now.ln] at e2
      simp at e1 e2
      subst e1; subst e2
      exact ⟨fp, xs, upd_same, hr.mono (Same.refl _) ⟨[p], rfl⟩⟩
  · obtain ⟨v, h1, h2⟩ := b.sl i d e
    exact ⟨v, h1, h2.mono (Same.refl _) ⟨[p], rfl⟩⟩
  · unfold Rep
    exact ⟨p, rfl, by rw [← b.now.ln]; simp⟩
theorem BS.set {K : PySem.W.Frag} {ca : Nat → Addr} {σ : St} {H F : Hp} {θ : List Addr} {s : S} (b : BS K ca σ H F θ s) {d : D} {v : V} (h : Rep K ca θ F d v) (i : Nat) : BS K ca (σ.set i (some v)) H F θ ⟨s.r.set i (some d), s.o⟩ := by
  refine ⟨b.now, by simp [b.len], fun j e hj => ?_⟩
  by_cases hji : i = j
  · subst hji
    have hlt : i < s.r.length := by
      have := (List.getElem?_eq_some_iff.mp hj).1
      simpa using this
    rw [List.getElem?_set_self hlt] at hj
    cases hj
    exact ⟨v, List.getElem?_set_self (by rw [b.len]; exact hlt), h⟩
  · rw [List.getElem?_set_ne hji] at hj
    obtain ⟨u, h1, h2⟩ := b.sl j e hj
    exact ⟨u, by rw [List.getElem?_set_ne hji]; exact h1, h2⟩
abbrev EM := S → Res (D × S)
abbrev AM := S → Res (List D × S)
inductive Out where
  | next (s : S) | ret (d : D) (s : S) | brk (s : S) | cnt (s : S) | exc (c : Nat) (a : D) (o : S) | bad
abbrev SM := S → Out
def PoR {α : Type} (C : Ct) (H F : Hp) (θ : List Addr) (x : Res α) (k : α → Hp → Hp → List Addr → Prop) : Prop := match x with
  | .ok a => ∀ H1 F1 θ1, Stp H F θ H1 F1 θ1 → k a H1 F1 θ1
  | .exc c a o => ∀ H1 F1 θ1, Stp H F θ H1 F1 θ1 → Now C.K C.ca H1 F1 θ1 o.o → C.W c a o H1 F1 θ1
  | .bad => False
abbrev PoE (C : Ct) (σ : St) (H F : Hp) (θ : List Addr) (x : Res (D × S)) (Q : VK) : Prop :=
  PoR C H F θ x fun y H1 F1 θ1 => BS C.K C.ca σ H1 F1 θ1 y.2 → ∀ v, Rep C.K C.ca θ1 F1 y.1 v → Q v H1
abbrev PoA (C : Ct) (σ : St) (H F : Hp) (θ : List Addr) (x : Res (List D × S)) (Q : List V → Hp → Prop) : Prop :=
  PoR C H F θ x fun y H1 F1 θ1 => BS C.K C.ca σ H1 F1 θ1 y.2 → ∀ v, Reps C.K C.ca θ1 F1 y.1 v → Q v H1
abbrev PoT (C : Ct) (σ : St) (H F : Hp) (θ : List Addr) (x : Res (Bool × S)) (Q : Bool → Hp → Prop) : Prop :=
  PoR C H F θ x fun y H1 F1 θ1 => BS C.K C.ca σ H1 F1 θ1 y.2 → Q y.1 H1
abbrev PoG (C : Ct) (H F : Hp) (θ : List Addr) (x : Res S) (Q : St → Hp → Prop) : Prop :=
  PoR C H F θ x fun y H1 F1 θ1 => ∀ σ1, BS C.K C.ca σ1 H1 F1 θ1 y → Q σ1 H1
def PoS (C : Ct) (H F : Hp) (θ : List Addr) (x : Out) (Q : Ends) : Prop := match x with
  | .next s1 => ∀ σ1 H1 F1 θ1, Stp H F θ H1 F1 θ1 → BS C.K C.ca σ1 H1 F1 θ1 s1 → Q.nx σ1 H1
  | .ret d s1 => ∀ v σ1 H1 F1 θ1, Stp H F θ H1 F1 θ1 → BS C.K C.ca σ1 H1 F1 θ1 s1 → Rep C.K C.ca θ1 F1 d v → Q.rt v H1
  | .brk s1 => ∀ σ1 H1 F1 θ1, Stp H F θ H1 F1 θ1 → BS C.K C.ca σ1 H1 F1 θ1 s1 → Q.bk σ1 H1
  | .cnt s1 => ∀ σ1 H1 F1 θ1, Stp H F θ H1 F1 θ1 → BS C.K C.ca σ1 H1 F1 θ1 s1 → Q.ct σ1 H1
  | .exc c a o => ∀ H1 F1 θ1, Stp H F θ H1 F1 θ1 → Now C.K C.ca H1 F1 θ1 o.o → C.W c a o H1 F1 θ1
  | .bad => False
theorem PoR.after {α : Type} {C : Ct} {H F H1 F1 : Hp} {θ θ1 : List Addr} {x : Res α} {k : α → Hp → Hp → List Addr → Prop} (st : Stp H F θ H1 F1 θ1) (p : PoR C H F θ x k) : PoR C H1 F1 θ1 x k := by
  unfold PoR at p ⊢
  cases x with
  | ok a => exact fun H2 F2 θ2 s2 => p H2 F2 θ2 (st.trans s2)
  | exc c a o => exact fun H2 F2 θ2 s2 n => p H2 F2 θ2 (st.trans s2) n
  | bad => exact p
theorem PoR.bind {α β : Type} {C : Ct} {H F : Hp} {θ : List Addr} {x : Res α} {f : α → Res β} {k : α → Hp → Hp → List Addr → Prop} {j : β → Hp → Hp → List Addr → Prop}
    (p : PoR C H F θ (x.bind f) j) (h : ∀ a H1 F1 θ1, x = .ok a → Stp H F θ H1 F1 θ1 → PoR C H1 F1 θ1 (f a) j → k a H1 F1 θ1) : PoR C H F θ x k := by
  cases x with
  | ok a => exact fun H1 F1 θ1 st => h a H1 F1 θ1 rfl st (PoR.after st p)
  | exc c a o => exact p
  | bad => exact p
theorem PoR.imp {α : Type} {C : Ct} {H F : Hp} {θ : List Addr} {x : Res α} {k j : α → Hp → Hp → List Addr → Prop} (p : PoR C H F θ x j) (h : ∀ a H1 F1 θ1, x = .ok a → Stp H F θ H1 F1 θ1 → j a H1 F1 θ1 → k a H1 F1 θ1) : PoR C H F θ x k := by
  cases x with
  | ok a => exact fun H1 F1 θ1 st => h a H1 F1 θ1 rfl st (p H1 F1 θ1 st)
  | exc c a o => exact p
  | bad => exact p
theorem PoS.after {C : Ct} {H F H1 F1 : Hp} {θ θ1 : List Addr} {x : Out} {Q : Ends} (st : Stp H F θ H1 F1 θ1) (p : PoS C H F θ x Q) : PoS C H1 F1 θ1 x Q := by
  unfold PoS at p ⊢
  cases x with
  | next s => exact fun v H2 F2 θ2 s2 b => p v H2 F2 θ2 (st.trans s2) b
  | ret d s => exact fun v σ2 H2 F2 θ2 s2 b r => p v σ2 H2 F2 θ2 (st.trans s2) b r
  | brk s => exact fun v H2 F2 θ2 s2 b => p v H2 F2 θ2 (st.trans s2) b
  | cnt s => exact fun v H2 F2 θ2 s2 b => p v H2 F2 θ2 (st.trans s2) b
  | exc c a o => exact fun H2 F2 θ2 s2 n => p H2 F2 θ2 (st.trans s2) n
  | bad => exact p
def Res.out {α : Type} (x : Res α) (f : α → Out) : Out := match x with
  | .ok a => f a
  | .exc c a o => .exc c a o
  | .bad => .bad
@[simp] theorem out_ok {α : Type} (a : α) (f : α → Out) : (Res.ok a).out f = f a := rfl
@[simp] theorem out_exc {α : Type} (c : Nat) (a : D) (o : S) (f : α → Out) : (Res.exc c a o : Res α).out f = .exc c a o := rfl
@[simp] theorem out_bad {α : Type} (f : α → Out) : (Res.bad : Res α).out f = .bad := rfl
theorem PoS.out {α : Type} {C : Ct} {H F : Hp} {θ : List Addr} {x : Res α} {f : α → Out} {k : α → Hp → Hp → List Addr → Prop} {Q : Ends}
    (p : PoS C H F θ (x.out f) Q) (h : ∀ a H1 F1 θ1, x = .ok a → Stp H F θ H1 F1 θ1 → PoS C H1 F1 θ1 (f a) Q → k a H1 F1 θ1) : PoR C H F θ x k := by
  cases x with
  | ok a => exact fun H1 F1 θ1 st => h a H1 F1 θ1 rfl st (PoS.after st p)
  | exc c a o => exact p
  | bad => exact p
def RdE (C : Ct) (t : TE) (m : EM) : Prop := ∀ σ H F θ s Q, BS C.K C.ca σ H F θ s → PoE C σ H F θ (m s) Q → t σ H Q
def RdA (C : Ct) (t : TA) (m : AM) : Prop := ∀ σ H F θ s Q, BS C.K C.ca σ H F θ s → PoA C σ H F θ (m s) Q → t σ H Q
abbrev TM := S → Res (Bool × S)
def RdT (C : Ct) (t : TT) (m : TM) : Prop := ∀ σ H F θ s Q, BS C.K C.ca σ H F θ s → PoT C σ H F θ (m s) Q → t σ H Q
abbrev GM := D → S → Res S
def RdG (C : Ct) (t : TG) (m : GM) : Prop := ∀ σ H F θ s d v Q, BS C.K C.ca σ H F θ s → Rep C.K C.ca θ F d v → PoG C H F θ (m d s) Q → t v σ H Q
def RdS (C : Ct) (t : TS) (m : SM) : Prop := ∀ σ H F θ s Q, BS C.K C.ca σ H F θ s → PoS C H F θ (m s) Q → t Q σ H
end M
set_option maxRecDepth 100000
set_option maxHeartbeats 4000000
namespace M
open PySem L2
section
variable {C : Ct}
@[simp] theorem rep_non {K ca θ F v} : Rep K ca θ F .non v ↔ v = .non := by unfold Rep; exact Iff.rfl
@[simp] theorem rep_bl {K ca θ F v b} : Rep K ca θ F (.bl b) v ↔ v = .bl b := by unfold Rep; exact Iff.rfl
@[simp] theorem rep_int {K ca θ F v i} : Rep K ca θ F (.int i) v ↔ v = .int i := by unfold Rep; exact Iff.rfl
@[simp] theorem rep_str {K ca θ F v x} : Rep K ca θ F (.str x) v ↔ v = .str x := by unfold Rep; exact Iff.rfl
def varM (i : Nat) : EM := fun s => match s.r[i]? with
  | some (some d) => .ok (d, s)
  | _ => .bad
theorem rd_var (i : Nat) : RdE C (tVar i) (varM i) := by
  intro σ H F θ s Q b p
  unfold varM at p
  split at p
  · rename_i d e
    obtain ⟨v, h1, h2⟩ := b.sl i d e
    exact ⟨v, h1, p H F θ .refl b v h2⟩
  · exact p.elim
def cstM (d : D) : EM := fun s => .ok (d, s)
theorem rd_int (i : Int) : RdE C (tC (.int i)) (cstM (.int i)) := fun σ H F θ s Q b p => p H F θ .refl b (.int i) (rep_int.mpr rfl)
theorem rd_bl (i : Bool) : RdE C (tC (.bl i)) (cstM (.bl i)) := fun σ H F θ s Q b p => p H F θ .refl b (.bl i) (rep_bl.mpr rfl)
abbrev Op2 := Store → D → D → Res D
abbrev Op1 := Store → D → Res D
def RdOp (C : Ct) (r : R2) (f : Op2) : Prop := ∀ σ H F θ s x y v w Q, BS C.K C.ca σ H F θ s → Rep C.K C.ca θ F x v → Rep C.K C.ca θ F y w →
  PoE C σ H F θ ((f s.o x y).bind fun d => .ok (d, s)) Q → r v w H Q
def binM (f : Op2) (ma mb : EM) : EM := fun s => (ma s).bind fun x => (mb x.2).bind fun y => (f y.2.o x.1 y.1).bind fun d => .ok (d, y.2)
theorem rd_bin {r : R2} {f : Op2} {ta tb : TE} {ma mb : EM} (ho : RdOp C r f) (ha : RdE C ta ma) (hb : RdE C tb mb) : RdE C (tOp r ta tb) (binM f ma mb) := by
  intro σ H F θ s Q b p
  refine ha σ H F θ s _ b (PoR.bind p ?_)
  rintro ⟨x, s1⟩ H1 F1 θ1 _ st1 p1 b1 v r1
  refine hb σ H1 F1 θ1 s1 _ b1 (PoR.bind p1 ?_)
  rintro ⟨y, s2⟩ H2 F2 θ2 _ st2 p2 b2 w r2
  exact ho σ H2 F2 θ2 s2 x y v w Q b2 (r1.mono st2.ff st2.pre) r2 p2
def RdUn (C : Ct) (r : V → Hp → VK → Prop) (f : Op1) : Prop := ∀ σ H F θ s x v Q, BS C.K C.ca σ H F θ s → Rep C.K C.ca θ F x v →
  PoE C σ H F θ ((f s.o x).bind fun d => .ok (d, s)) Q → r v H Q
def unM (f : Op1) (ma : EM) : EM := fun s => (ma s).bind fun x => (f x.2.o x.1).bind fun d => .ok (d, x.2)
theorem rd_un {r : V → Hp → VK → Prop} {f : Op1} {ta : TE} {ma : EM} (ho : RdUn C r f) (ha : RdE C ta ma) : RdE C (tUn r ta) (unM f ma) := by
  intro σ H F θ s Q b p
  refine ha σ H F θ s _ b (PoR.bind p ?_)
  rintro ⟨x, s1⟩ H1 F1 θ1 _ st1 p1 b1 v r1
  exact ho σ H1 F1 θ1 s1 x v Q b1 r1 p1
def nilM : AM := fun s => .ok ([], s)
def consM (m : EM) (r : AM) : AM := fun s => (m s).bind fun x => (r x.2).bind fun y => .ok (x.1 :: y.1, y.2)
theorem rd_nil : RdA C tNil nilM := fun σ H F θ s Q b p => p H F θ .refl b [] Reps.nil
theorem rd_cons {te : TE} {ta : TA} {m : EM} {r : AM} (he : RdE C te m) (ha : RdA C ta r) : RdA C (tCons te ta) (consM m r) := by
  intro σ H F θ s Q b p
  refine he σ H F θ s _ b (PoR.bind p ?_)
  rintro ⟨x, s1⟩ H1 F1 θ1 _ st1 p1 b1 v r1
  refine ha σ H1 F1 θ1 s1 _ b1 (PoR.bind p1 ?_)
  rintro ⟨y, s2⟩ H2 F2 θ2 _ st2 p2 b2 w r2
  exact p2 H2 F2 θ2 .refl b2 (v :: w) (Reps.cons (r1.mono st2.ff st2.pre) r2)
abbrev OpN := Store → List D → Res D
def RdCall (C : Ct) (r : List V → Hp → VK → Prop) (f : OpN) : Prop := ∀ σ H F θ s xs vs Q, BS C.K C.ca σ H F θ s → Reps C.K C.ca θ F xs vs →
  PoE C σ H F θ ((f s.o xs).bind fun d => .ok (d, s)) Q → r vs H Q
def calM (f : OpN) (ma : AM) : EM := fun s => (ma s).bind fun x => (f x.2.o x.1).bind fun d => .ok (d, x.2)
theorem rd_callB {r : List V → Hp → VK → Prop} {f : OpN} {ta : TA} {ma : AM} (hc : RdCall C r f) (ha : RdA C ta ma) : RdE C (tCB r ta) (calM f ma) := by
  intro σ H F θ s Q b p
  refine ha σ H F θ s _ b (PoR.bind p ?_)
  rintro ⟨x, s1⟩ H1 F1 θ1 _ st1 p1 b1 v r1
  exact hc σ H1 F1 θ1 s1 x v Q b1 r1 p1
def tupM (ma : AM) : EM := fun s => (ma s).bind fun x => if x.1.length ≤ 16777216 then .ok (.tup x.1, x.2) else .bad
def lstM (ma : AM) : EM := fun s => (ma s).bind fun x => if x.1.length ≤ 16777216 then .ok (.lst x.1, x.2) else .bad
theorem rd_lst {ta : TA} {ma : AM} (ha : RdA C ta ma) : RdE C (tLst ta) (lstM ma) := by
  intro σ H F θ s Q b p
  refine ha σ H F θ s _ b (PoR.bind p ?_)
  rintro ⟨x, s1⟩ H1 F1 θ1 _ st1 p1 b1 v r1
  dsimp only at p1
  split at p1
  · rename_i hl
    refine ⟨by rw [r1.length]; exact hl, fun q hq => ?_⟩
    obtain ⟨st, b2, sF, e⟩ := b1.newF hq (.lst v)
    refine p1 _ _ _ st b2 _ ?_
    unfold Rep
    exact ⟨q, v, rfl, SqL.of e, r1.mono sF ⟨[], by simp⟩⟩
  · exact p1.elim
def lstC (ma : AM) : EM := fun s => (ma s).bind fun x => if x.1.length ≤ 16777216 then .ok (.ptr x.2.o.length, ⟨x.2.r, x.2.o ++ [.lst x.1]⟩) else .bad
theorem rd_lstC {ta : TA} {ma : AM} (ha : RdA C ta ma) : RdE C (tLst ta) (lstC ma) := by
  intro σ H F θ s Q b p
  refine ha σ H F θ s _ b (PoR.bind p ?_)
  rintro ⟨x, s1⟩ H1 F1 θ1 _ st1 p1 b1 v r1
  dsimp only at p1
  split at p1
  · rename_i hl
    refine ⟨by rw [r1.length]; exact hl, fun q hq => ?_⟩
    obtain ⟨st, b2, rp⟩ := b1.newC hq r1
    exact p1 _ _ _ st b2 _ rp
  · exact p1.elim
def tstM (m : EM) : TM := fun s => (m s).bind fun x => match x.1 with
  | .bl b => .ok (b, x.2)
  | _ => .bad
theorem rd_tst {t : TE} {m : EM} (h : RdE C t m) : RdT C (tTest t) (tstM m) := by
  intro σ H F θ s Q b p
  refine h σ H F θ s _ b (PoR.bind p ?_)
  rintro ⟨x, s1⟩ H1 F1 θ1 _ st1 p1 b1 v r1
  cases x <;> first | exact False.elim p1 | skip
  rename_i k _
  exact ⟨k, rep_bl.mp r1, p1 _ _ _ .refl b1⟩
theorem rd_tB {t : TE} {m : EM} (h : RdE C t m) : RdT C (tB t) (tstM m) := rd_tst h
def andT (a b : TM) : TM := fun s => (a s).bind fun x => if x.1 then b x.2 else .ok (false, x.2)
def orT (a b : TM) : TM := fun s => (a s).bind fun x => if x.1 then .ok (true, x.2) else b x.2
def notT (a : TM) : TM := fun s => (a s).bind fun x => .ok (!x.1, x.2)
theorem rd_and {t u : TT} {a b : TM} (ha : RdT C t a) (hb : RdT C u b) : RdT C (tAnd t u) (andT a b) := by
  intro σ H F θ s Q bs p
  refine ha σ H F θ s _ bs (PoR.bind p ?_)
  rintro ⟨x, s1⟩ H1 F1 θ1 _ st1 p1 b1
  cases x with
  | true => exact iteT (hb σ H1 F1 θ1 s1 Q b1 p1)
  | false => exact iteF (p1 _ _ _ .refl b1)
theorem rd_or {t u : TT} {a b : TM} (ha : RdT C t a) (hb : RdT C u b) : RdT C (tOr t u) (orT a b) := by
  intro σ H F θ s Q bs p
  refine ha σ H F θ s _ bs (PoR.bind p ?_)
  rintro ⟨x, s1⟩ H1 F1 θ1 _ st1 p1 b1
  cases x with
  | true => exact iteT (p1 _ _ _ .refl b1)
  | false => exact iteF (hb σ H1 F1 θ1 s1 Q b1 p1)
theorem rd_not {t : TT} {a : TM} (ha : RdT C t a) : RdT C (tNot t) (notT a) := by
  intro σ H F θ s Q bs p
  refine ha σ H F θ s _ bs (PoR.bind p ?_)
  rintro ⟨x, s1⟩ H1 F1 θ1 _ st1 p1 b1
  exact p1 _ _ _ .refl b1
def andV (a b : EM) : EM := fun s => (a s).bind fun x => match x.1 with
  | .bl true => b x.2
  | .bl false => .ok (.bl false, x.2)
  | _ => .bad
def orV (a b : EM) : EM := fun s => (a s).bind fun x => match x.1 with
  | .bl true => .ok (.bl true, x.2)
  | .bl false => b x.2
  | _ => .bad
def notV (a : EM) : EM := fun s => (a s).bind fun x => match x.1 with
  | .bl k => .ok (.bl (!k), x.2)
  | _ => .bad
theorem rd_andV {t u : TE} {a b : EM} (ha : RdE C t a) (hb : RdE C u b) : RdE C (tAndV t u) (andV a b) := by
  intro σ H F θ s Q bs p
  refine ha σ H F θ s _ bs (PoR.bind p ?_)
  rintro ⟨x, s1⟩ H1 F1 θ1 _ st1 p1 b1 v r1
  cases x <;> first | exact False.elim p1 | skip
  rename_i k _
  refine ⟨k, rep_bl.mp r1, ?_⟩
  cases k with
  | true => exact iteT (hb σ H1 F1 θ1 s1 Q b1 p1)
  | false => exact iteF (p1 _ _ _ .refl b1 _ (rep_bl.mpr rfl))
theorem rd_notV {t : TE} {a : EM} (ha : RdE C t a) : RdE C (tNotV t) (notV a) := by
  intro σ H F θ s Q bs p
  refine ha σ H F θ s _ bs (PoR.bind p ?_)
  rintro ⟨x, s1⟩ H1 F1 θ1 _ st1 p1 b1 v r1
  cases x <;> first | exact False.elim p1 | skip
  rename_i k _
  exact ⟨k, rep_bl.mp r1, p1 _ _ _ .refl b1 _ (rep_bl.mpr rfl)⟩
def ifM (c : TM) (a b : EM) : EM := fun s => (c s).bind fun x => if x.1 then a x.2 else b x.2
def Out.then (x : Out) (f : S → Out) : Out := match x with
  | .next s => f s
  | o => o
@[simp] theorem then_next (s : S) (f : S → Out) : (Out.next s).then f = f s := rfl
@[simp] theorem then_ret (d : D) (s : S) (f : S → Out) : (Out.ret d s).then f = .ret d s := rfl
@[simp] theorem then_brk (s : S) (f : S → Out) : (Out.brk s).then f = .brk s := rfl
@[simp] theorem then_cnt (s : S) (f : S → Out) : (Out.cnt s).then f = .cnt s := rfl
@[simp] theorem then_exc (c : Nat) (a : D) (o : S) (f : S → Out) : (Out.exc c a o).then f = .exc c a o := rfl
@[simp] theorem then_bad (f : S → Out) : Out.bad.then f = .bad := rfl
def seqM (a b : SM) : SM := fun s => (a s).then b
def skipM : SM := fun s => .next s
theorem rd_next : RdS C tNext skipM := fun σ H F θ s Q b p => p σ H F θ .refl b
theorem rd_seq {t u : TS} {a b : SM} (ha : RdS C t a) (hb : RdS C u b) : RdS C (tSeq t u) (seqM a b) := by
  intro σ H F θ s Q bs p
  refine ha σ H F θ s _ bs ?_
  unfold seqM at p
  cases e : a s with
  | next s1 =>
    rw [e] at p
    intro σ1 H1 F1 θ1 st1 b1
    exact hb σ1 H1 F1 θ1 s1 Q b1 (PoS.after st1 p)
  | ret d s1 => rw [e] at p; exact p
  | brk s1 => rw [e] at p; exact p
  | cnt s1 => rw [e] at p; exact p
  | exc c a o => rw [e] at p; exact p
  | bad => rw [e] at p; exact p
def dropM (m : EM) : SM := fun s => (m s).out fun x => .next x.2
theorem rd_drop {t : TE} {m : EM} (h : RdE C t m) : RdS C (tDrop t) (dropM m) := by
  intro σ H F θ s Q b p
  refine h σ H F θ s _ b (PoS.out p ?_)
  rintro ⟨x, s1⟩ H1 F1 θ1 _ st1 p1 b1 v r1
  exact p1 σ H1 F1 θ1 .refl b1
def retM (m : EM) : SM := fun s => (m s).out fun x => .ret x.1 x.2
theorem rd_ret {t : TE} {m : EM} (h : RdE C t m) : RdS C (tRet t) (retM m) := by
  intro σ H F θ s Q b p
  refine h σ H F θ s _ b (PoS.out p ?_)
  rintro ⟨x, s1⟩ H1 F1 θ1 _ st1 p1 b1 v r1
  exact p1 v σ H1 F1 θ1 .refl b1 r1
def ret0 : SM := fun s => .ret .non s
def ifS (c : TM) (a b : SM) : SM := fun s => (c s).out fun x => if x.1 then a x.2 else b x.2
theorem rd_if {t : TT} {u w : TS} {c : TM} {a b : SM} (hc : RdT C t c) (ha : RdS C u a) (hb : RdS C w b) : RdS C (tIfS t u w) (ifS c a b) := by
  intro σ H F θ s Q bs p
  refine hc σ H F θ s _ bs (PoS.out p ?_)
  rintro ⟨x, s1⟩ H1 F1 θ1 _ st1 p1 b1
  cases x with
  | true => exact iteT (ha σ H1 F1 θ1 s1 Q b1 p1)
  | false => exact iteF (hb σ H1 F1 θ1 s1 Q b1 p1)
def nameG (i : Nat) : GM := fun d s => .ok ⟨s.r.set i (some d), s.o⟩
theorem rd_gname (i : Nat) : RdG C (gName i) (nameG i) := fun σ H F θ s d v Q b r p => p H F θ .refl _ (b.set r i)
def RdGs (C : Ct) (t : TGs) (m : List D → S → Res S) : Prop := ∀ σ H F θ s ds vs Q, BS C.K C.ca σ H F θ s → Reps C.K C.ca θ F ds vs → PoG C H F θ (m ds s) Q → t vs σ H Q
def nilG : List D → S → Res S := fun ds s => match ds with
  | [] => .ok s
  | _ => .bad
def consG (g : GM) (r : List D → S → Res S) : List D → S → Res S := fun ds s => match ds with
  | d :: ds => (g d s).bind fun s1 => r ds s1
  | [] => .bad
theorem rd_gnil : RdGs C gNil nilG := by
  intro σ H F θ s ds vs Q b r p
  cases ds with
  | nil => exact ⟨by unfold Reps at r; exact r, p H F θ .refl σ b⟩
  | cons d ds => exact False.elim p
theorem rd_gcons {t : TG} {u : TGs} {g : GM} {m : List D → S → Res S} (hg : RdG C t g) (hr : RdGs C u m) : RdGs C (gCons t u) (consG g m) := by
  intro σ H F θ s ds vs Q b r p
  cases ds with
  | nil => exact False.elim p
  | cons d ds =>
    unfold Reps at r
    obtain ⟨v, w, rfl, r1, r2⟩ := r
    refine ⟨v, w, rfl, hg σ H F θ s d v _ b r1 (PoR.bind p ?_)⟩
    intro s1 H1 F1 θ1 _ st1 p1 σ1 b1
    exact hr σ1 H1 F1 θ1 s1 ds w Q b1 (r2.mono st1.ff st1.pre) p1
def tupG (m : List D → S → Res S) (n : Nat) : GM := fun d s => match d with
  | .tup ds => if ds.length = n then m ds s else .bad
  | _ => .bad
theorem rd_gtup {n : Nat} {t : TGs} {m : List D → S → Res S} (h : RdGs C t m) : RdG C (gTup C.K n t) (tupG m n) := by
  intro σ H F θ s d v Q b r p
  cases d <;> first | exact False.elim p | skip
  rename_i ds
  unfold Rep at r
  obtain ⟨a, xs, rfl, hs, hr⟩ := r
  unfold tupG at p
  dsimp only at p
  split at p
  · rename_i hl
    exact ⟨a, xs, rfl, Same.seqT b.now.fh hs, by rw [hr.length]; exact hl, h σ H F θ s ds xs Q b hr p⟩
  · exact False.elim p
def asgM (m : EM) (g : GM) : SM := fun s => ((m s).bind fun x => g x.1 x.2).out fun s => .next s
theorem rd_asg {t : TE} {m : EM} {g : TG} {gm : GM} (h : RdE C t m) (hg : RdG C g gm) : RdS C (tAsg t g) (asgM m gm) := by
  intro σ H F θ s Q b p
  have p' : PoG C H F θ ((m s).bind fun x => gm x.1 x.2) Q.nx := PoS.out p fun s1 H1 F1 θ1 _ st1 p1 σ1 b1 => p1 σ1 H1 F1 θ1 .refl b1
  refine h σ H F θ s _ b (PoR.bind p' ?_)
  rintro ⟨x, s1⟩ H1 F1 θ1 _ st1 p1 b1 v r1
  exact hg σ H1 F1 θ1 s1 x v Q.nx b1 r1 p1
abbrev setM (i : Nat) (m : EM) : SM := asgM m (nameG i)
theorem rd_set {t : TE} {m : EM} {i : Nat} (h : RdE C t m) : RdS C (tAsg t (gName i)) (setM i m) := rd_asg h (rd_gname i)
def augM (i : Nat) (f : Op2) (m : EM) : SM := setM i (binM f (varM i) m)
end
end M
set_option maxRecDepth 100000
set_option maxHeartbeats 4000000
namespace M
open PySem PySem.Spec PyProof.Rows L2
section
variable {C : Ct}
structure ItIs (C : Ct) (J : It) (ds : List D) (ok : Store → Prop) (H F : Hp) (θ : List Addr) : Prop where
  go : ∀ (i : Nat) H2 F2 θ2 O2, i < ds.length → Stp H F θ H2 F2 θ2 → Now C.K C.ca H2 F2 θ2 O2 → ok O2 → J.go i H2
  yl : ∀ (i : Nat) d σ H2 F2 θ2 s2 x H3, ds[i]? = some d → Stp H F θ H2 F2 θ2 → BS C.K C.ca σ H2 F2 θ2 s2 → ok s2.o → J.yld i H2 x H3 → ∃ F3, Stp H2 F2 θ2 H3 F3 θ2 ∧ BS C.K C.ca σ H3 F3 θ2 s2 ∧ Rep C.K C.ca θ2 F3 d x
  st : ∀ (i : Nat) H2 F2 θ2 O2, ds.length ≤ i → Stp H F θ H2 F2 θ2 → Now C.K C.ca H2 F2 θ2 O2 → ok O2 → J.stop i H2
def okC (ds : List D) : Option Nat → Store → Prop
  | none, _ => True
  | some k, O => O[k]? = some (.lst ds)
abbrev IM := S → Res ((List D × Option Nat) × S)
def RdI (C : Ct) (wi : TI) (im : IM) : Prop := ∀ σ H F θ s R, BS C.K C.ca σ H F θ s →
  PoR C H F θ (im s) (fun y H1 F1 θ1 => BS C.K C.ca σ H1 F1 θ1 y.2 → ∀ J, ItIs C J y.1.1 (okC y.1.1 y.1.2) H1 F1 θ1 → R J H1) → wi σ H R
open Classical in
noncomputable def forGo (ok : Store → Prop) (g : GM) (body : SM) : List D → S → Out
  | [], s => if ok s.o then .next s else .bad
  | d :: ds, s => if ok s.o then (g d s).out fun s1 => match body s1 with
      | .next s2 => forGo ok g body ds s2
      | .cnt s2 => forGo ok g body ds s2
      | .brk s2 => .next s2
      | o => o
    else .bad
noncomputable def forS (im : IM) (g : GM) (body : SM) : SM := fun s => (im s).out fun y => forGo (okC y.1.1 y.1.2) g body y.1.1 y.2
theorem rd_for {wi : TI} {g : TG} {tb : TS} {im : IM} {gm : GM} {bm : SM} (hi : RdI C wi im) (hg : RdG C g gm) (hb : RdS C tb bm) : RdS C (tFor wi g tb) (forS im gm bm) := by
  intro σ H F θ s Q b p
  refine hi σ H F θ s _ b (PoS.out p ?_)
  rintro ⟨⟨ds, k⟩, s1⟩ H1 F1 θ1 _ st1 p1 b1 J it
  dsimp only at p1 it b1
  refine ⟨fun i m σ' H' => m = ds.length - i ∧ i ≤ ds.length ∧ ∃ F' θ' s', Stp H1 F1 θ1 H' F' θ' ∧ BS C.K C.ca σ' H' F' θ' s' ∧ PoS C H' F' θ' (forGo (okC ds k) gm bm (ds.drop i) s') Q, ⟨ds.length, by simp, Nat.zero_le _, F1, θ1, s1, .refl, b1, by simpa using p1⟩, ?_⟩
  rintro i m σ' H' ⟨rfl, hil, F', θ', s', st, bs, po⟩
  by_cases lt : i < ds.length
  · right
    rw [List.drop_eq_getElem_cons lt, forGo] at po
    split at po
    · rename_i hok
      refine ⟨it.go i H' F' θ' s'.o lt st bs.now hok, fun σ2 H2 => i + 1 ≤ ds.length ∧ ∃ F2 θ2 s2, Stp H1 F1 θ1 H2 F2 θ2 ∧ BS C.K C.ca σ2 H2 F2 θ2 s2 ∧ PoS C H2 F2 θ2 (forGo (okC ds k) gm bm (ds.drop (i + 1)) s2) Q, fun σ2 H2 n => ⟨ds.length - (i + 1), by omega, rfl, n⟩, ?_⟩
      intro x H3 hy
      obtain ⟨F3, st3, b3, rp⟩ := it.yl i ds[i] σ' H' F' θ' s' x H3 (List.getElem?_eq_getElem lt) st bs hok hy
      refine hg σ' H3 F3 θ' s' ds[i] x _ b3 rp (PoS.out (PoS.after st3 po) ?_)
      intro s4 H4 F4 θ4 _ st4 p4 σ4 b4
      refine hb σ4 H4 F4 θ4 s4 _ b4 ?_
      have fin : ∀ s5, PoS C H4 F4 θ4 (forGo (okC ds k) gm bm (ds.drop (i + 1)) s5) Q → ∀ σ5 H5 F5 θ5, Stp H4 F4 θ4 H5 F5 θ5 → BS C.K C.ca σ5 H5 F5 θ5 s5 → i + 1 ≤ ds.length ∧ ∃ F2 θ2 s2, Stp H1 F1 θ1 H5 F2 θ2 ∧ BS C.K C.ca σ5 H5 F2 θ2 s2 ∧ PoS C H5 F2 θ2 (forGo (okC ds k) gm bm (ds.drop (i + 1)) s2) Q :=
        fun s5 p5 σ5 H5 F5 θ5 st5 b5 => ⟨lt, F5, θ5, s5, st.trans (st3.trans (st4.trans st5)), b5, PoS.after st5 p5⟩
      cases e : bm s4 with
      | next s5 => rw [e] at p4; exact fin s5 p4
      | cnt s5 => rw [e] at p4; exact fin s5 p4
      | brk s5 => rw [e] at p4; exact p4
      | ret d s5 => rw [e] at p4; exact p4
      | exc c a o => rw [e] at p4; exact p4
      | bad => rw [e] at p4; exact p4
    · exact False.elim po
  · left
    rw [List.drop_eq_nil_of_le (by omega), forGo] at po
    split at po
    · rename_i hok
      exact ⟨it.st i H' F' θ' s'.o (by omega) st bs.now hok, po σ' H' F' θ' .refl bs⟩
    · exact False.elim po
def whileGo (c : TM) (b : SM) : Nat → S → Out
  | 0, _ => .bad
  | n + 1, s => (c s).out fun x => if x.1 then (match b x.2 with
      | .next s2 => whileGo c b n s2
      | .cnt s2 => whileGo c b n s2
      | .brk s2 => .next s2
      | o => o) else .next x.2
def whileM (φ : S → Nat) (c : TM) (b : SM) : SM := fun s => whileGo c b (φ s) s
theorem rd_while {tc : TT} {tb : TS} {φ : S → Nat} {c : TM} {b : SM} (hc : RdT C tc c) (hb : RdS C tb b) : RdS C (tWhile tc tb) (whileM φ c b) := by
  intro σ H F θ s Q bs p
  refine ⟨fun m σ' H' => ∃ F' θ' s', BS C.K C.ca σ' H' F' θ' s' ∧ PoS C H' F' θ' (whileGo c b m s') Q, ⟨φ s, F, θ, s, bs, p⟩, ?_⟩
  rintro m σ' H' ⟨F', θ', s', b', po⟩
  cases m with
  | zero => exact False.elim po
  | succ m =>
    rw [whileGo] at po
    refine hc σ' H' F' θ' s' _ b' (PoS.out po ?_)
    rintro ⟨x, s1⟩ H1 F1 θ1 _ st1 p1 b1
    cases x with
    | false => exact iteF (p1 σ' H1 F1 θ1 .refl b1)
    | true =>
      refine iteT ⟨fun σ2 H2 => ∃ F2 θ2 s2, BS C.K C.ca σ2 H2 F2 θ2 s2 ∧ PoS C H2 F2 θ2 (whileGo c b m s2) Q, fun σ2 H2 n => ⟨m, Nat.lt_succ_self _, n⟩, ?_⟩
      refine hb σ' H1 F1 θ1 s1 _ b1 ?_
      dsimp only [if_true] at p1
      cases e : b s1 with
      | next s5 => rw [e] at p1; exact fun σ5 H5 F5 θ5 st5 b5 => ⟨F5, θ5, s5, b5, PoS.after st5 p1⟩
      | cnt s5 => rw [e] at p1; exact fun σ5 H5 F5 θ5 st5 b5 => ⟨F5, θ5, s5, b5, PoS.after st5 p1⟩
      | brk s5 => rw [e] at p1; exact p1
      | ret d s5 => rw [e] at p1; exact p1
      | exc c a o => rw [e] at p1; exact p1
      | bad => rw [e] at p1; exact p1
def itemsOf (O : Store) : D → Res (List D × Option Nat)
  | .lst ds => .ok (ds, none)
  | .ptr k => match O[k]? with
    | some (.lst ds) => .ok (ds, some k)
    | _ => .bad
  | _ => .bad
def listI (m : EM) : IM := fun s => (m s).bind fun x => (itemsOf x.2.o x.1).bind fun y => .ok (y, x.2)
theorem itl_fz {a : Addr} {xs : List V} {ds : List D} {H F : Hp} {θ : List Addr} (hs : SqL C.K F a xs) (hr : Reps C.K C.ca θ F ds xs) (inj : ∀ {σ H2 F2 θ2 s2}, Stp H F θ H2 F2 θ2 → BS C.K C.ca σ H2 F2 θ2 s2 → SqL C.K H2 a xs) :
    ItIs C (Itl C.K a) ds (okC ds none) H F θ where
  go := fun i H2 F2 θ2 O2 hi st n _ => by
    obtain ⟨x, hx⟩ : ∃ x, xs[i]? = some x := ⟨xs[i]'(by rw [hr.length]; exact hi), List.getElem?_eq_getElem _⟩
    exact ⟨xs, x, n.fh.seq (st.ff.seq hs), hx⟩
  yl := fun i d σ H2 F2 θ2 s2 x H3 hd st b _ hy => by
    obtain ⟨rfl, hx⟩ := hy
    refine ⟨F2, .refl, b, ?_⟩
    obtain ⟨v, h1, h2⟩ := hr.get hd
    have := hx xs (b.now.fh.seq (st.ff.seq hs))
    rw [h1] at this
    cases this
    exact h2.mono st.ff st.pre
  st := fun i H2 F2 θ2 O2 hi st n _ => ⟨xs, n.fh.seq (st.ff.seq hs), by rw [hr.length]; exact hi⟩
theorem rd_list {tl : TE} {m : EM} (h : RdE C tl m) : RdI C (iList C.K tl) (listI m) := by
  intro σ H F θ s R b p
  refine h σ H F θ s _ b (PoR.bind p ?_)
  rintro ⟨x, s1⟩ H1 F1 θ1 _ st1 p1 b1 v r1
  dsimp only at p1 b1 r1
  cases x <;> first | exact False.elim p1 | skip
  · rename_i ds _
    unfold Rep at r1
    obtain ⟨a, xs, rfl, hs, hr⟩ := r1
    exact ⟨a, rfl, ⟨xs, b1.now.fh.seq hs⟩, p1 _ _ _ .refl b1 _ (itl_fz hs hr fun st b => b.now.fh.seq (st.ff.seq hs))⟩
  · rename_i k _
    unfold Rep at r1
    obtain ⟨a, rfl, hk⟩ := r1
    unfold itemsOf at p1
    dsimp only at p1
    split at p1
    · rename_i ds ek
      obtain ⟨q1, xs, q2, q3⟩ : CellOk C.K C.ca H1 F1 θ1 a (.lst ds) := b1.now.ce k a _ hk ek
      refine ⟨a, rfl, ⟨xs, SqL.of q2⟩, p1 _ _ _ .refl b1 _ ?_⟩
      have cell : ∀ {H2 F2 : Hp} {θ2 : List Addr} {O2 : Store}, Stp H1 F1 θ1 H2 F2 θ2 → Now C.K C.ca H2 F2 θ2 O2 → O2[k]? = some (.lst ds) → ∃ ys, SqL C.K H2 a ys ∧ Reps C.K C.ca θ2 F2 ds ys := fun {H2 F2 θ2 O2} st n e => by
        have hk2 : θ2[k]? = some a := by
          obtain ⟨r, rfl, _⟩ := st.th
          rw [List.getElem?_append_left (List.getElem?_eq_some_iff.mp hk).1]
          exact hk
        obtain ⟨_, ys, w2, w3⟩ : CellOk C.K C.ca H2 F2 θ2 a (.lst ds) := n.ce k a _ hk2 e
        exact ⟨ys, SqL.of w2, w3⟩
      refine ⟨fun i H2 F2 θ2 O2 hi st n e => ?_, fun i d σ H2 F2 θ2 s2 x H3 hd st b e hy => ?_, fun i H2 F2 θ2 O2 hi st n e => ?_⟩
      · obtain ⟨ys, w1, w2⟩ := cell st n e
        exact ⟨ys, ys[i]'(by rw [w2.length]; exact hi), w1, List.getElem?_eq_getElem _⟩
      · obtain ⟨rfl, hx⟩ := hy
        obtain ⟨ys, w1, w2⟩ := cell st b.now e
        obtain ⟨v, h1, h2⟩ := w2.get hd
        have := hx ys w1
        rw [h1] at this
        cases this
        exact ⟨F2, .refl, b, h2⟩
      · obtain ⟨ys, w1, w2⟩ := cell st n e
        exact ⟨ys, w1, by rw [w2.length]; exact hi⟩
    · exact False.elim p1
def rangeD (lo hi : Int) : List D := (List.range (hi - lo).toNat).map fun i => .int (lo + (i : Nat))
theorem rangeD_length (lo hi : Int) : (rangeD lo hi).length = (hi - lo).toNat := by unfold rangeD; simp
theorem it_range {lo hi : Int} {H F : Hp} {θ : List Addr} : ItIs C (Itr lo (hi - lo).toNat) (rangeD lo hi) (okC (rangeD lo hi) none) H F θ where
  go := fun i H2 F2 θ2 O2 h st n _ => by rw [rangeD_length] at h; exact h
  yl := fun i d σ H2 F2 θ2 s2 x H3 hd st b _ hy => by
    obtain ⟨rfl, rfl⟩ := hy
    refine ⟨F2, .refl, b, ?_⟩
    unfold rangeD at hd
    rw [List.getElem?_map] at hd
    cases e : (List.range (hi - lo).toNat)[i]? with
    | none => rw [e] at hd; cases hd
    | some j =>
      rw [e] at hd
      cases hd
      obtain ⟨_, rfl⟩ : ∃ h, j = i := ⟨trivial, by have := (List.getElem?_eq_some_iff.mp e).2; simpa using this.symm⟩
      exact rep_int.mpr rfl
  st := fun i H2 F2 θ2 O2 h st n _ => by rw [rangeD_length] at h; exact h
def rng1 (ma : AM) : IM := fun s => (ma s).bind fun x => match x.1 with
  | [.int j] => if -(2 ^ 62) ≤ j ∧ j < 2 ^ 62 then .ok ((rangeD 0 j, none), x.2) else .bad
  | _ => .bad
def rng2 (ma : AM) : IM := fun s => (ma s).bind fun x => match x.1 with
  | [.int i, .int j] => if (-(2 ^ 62) ≤ i ∧ i < 2 ^ 62) ∧ -(2 ^ 62) ≤ j ∧ j < 2 ^ 62 then .ok ((rangeD i j, none), x.2) else .bad
  | _ => .bad
theorem reps_ints1 {K ca θ F i vs} (h : Reps K ca θ F [.int i] vs) : vs = [.int i] := by
  unfold Reps at h
  obtain ⟨v, r, rfl, h1, h2⟩ := h
  unfold Reps at h2
  rw [h2, rep_int.mp h1]
theorem reps_ints2 {K ca θ F i j vs} (h : Reps K ca θ F [.int i, .int j] vs) : vs = [.int i, .int j] := by
  unfold Reps at h
  obtain ⟨v, r, rfl, h1, h2⟩ := h
  rw [reps_ints1 h2, rep_int.mp h1]
theorem rd_rng1 {ta : TA} {m : AM} (h : RdA C ta m) : RdI C (iRng1 ta) (rng1 m) := by
  intro σ H F θ s R b p
  refine h σ H F θ s _ b (PoR.bind p ?_)
  rintro ⟨x, s1⟩ H1 F1 θ1 _ st1 p1 b1 v r1
  dsimp only at p1 b1 r1
  split at p1
  · rename_i j _
    split at p1
    · rename_i hj
      refine ⟨j, reps_ints1 r1, hj.1, hj.2, ?_⟩
      have := p1 _ _ _ .refl b1 _ (it_range (lo := 0) (hi := j))
      rw [Int.sub_zero] at this
      exact this
    · exact False.elim p1
  · exact False.elim p1
theorem rd_rng2 {ta : TA} {m : AM} (h : RdA C ta m) : RdI C (iRng2 ta) (rng2 m) := by
  intro σ H F θ s R b p
  refine h σ H F θ s _ b (PoR.bind p ?_)
  rintro ⟨x, s1⟩ H1 F1 θ1 _ st1 p1 b1 v r1
  dsimp only at p1 b1 r1
  split at p1
  · rename_i i j _
    split at p1
    · rename_i hj
      exact ⟨i, j, reps_ints2 r1, ⟨hj.1.1, hj.1.2, hj.2.1, hj.2.2⟩, p1 _ _ _ .refl b1 _ it_range⟩
    · exact False.elim p1
  · exact False.elim p1
abbrev FM := List D → Store → Res (D × Store)
def spM (K : PySem.W.Frag) (ca : Nat → Addr) (n : Nat) (f : FM) : Sp := fun vs H Q E => ∃ F θ ds O, Now K ca H F θ O ∧ Reps K ca θ F ds vs ∧ ds.length = n ∧ match f ds O with
  | .ok (d, O1) => ∀ v H1 F1 θ1, Stp H F θ H1 F1 θ1 → Now K ca H1 F1 θ1 O1 → Rep K ca θ1 F1 d v → Q v H1
  | .exc c _ s1 => ∀ H1 F1 θ1, Stp H F θ H1 F1 θ1 → Now K ca H1 F1 θ1 s1.o → E (.ref (ca c)) none H1
  | .bad => False
def runM (n : Nat) (m : SM) : FM := fun ds O => match m ⟨ds.map some ++ List.replicate (n - ds.length) none, O⟩ with
  | .next s => .ok (.non, s.o)
  | .ret d s => .ok (d, s.o)
  | _ => .bad
theorem bs_start {K : PySem.W.Frag} {ca : Nat → Addr} {N : List Str} {H F : Hp} {θ : List Addr} {O : Store} {ds : List D} {vs : List V} (n : Now K ca H F θ O) (r : Reps K ca θ F ds vs) :
    BS K ca (L2.start N vs) H F θ ⟨ds.map some ++ List.replicate (N.length - ds.length) none, O⟩ := by
  refine ⟨n, by unfold L2.start; simp [r.length], fun i d e => ?_⟩
  dsimp only at e
  have hi : i < ds.length := by
    by_cases hi : i < ds.length
    · exact hi
    · rw [List.getElem?_append_right (by simpa using hi), List.getElem?_replicate] at e
      split at e <;> cases e
  rw [List.getElem?_append_left (by simpa using hi), List.getElem?_map] at e
  cases e1 : ds[i]? with
  | none => rw [e1] at e; cases e
  | some d' =>
    rw [e1] at e
    cases e
    obtain ⟨v, h1, h2⟩ := r.get e1
    refine ⟨v, ?_, h2⟩
    unfold L2.start
    rw [List.getElem?_append_left (by simpa [r.length] using hi), List.getElem?_map, h1]
    rfl
def W0 : Wsh := fun _ _ _ _ _ _ => False
theorem def_ok {P : Program} {w : World} {K : PySem.W.Frag} {mg : Str → Option Value} {base : Heap} {ca : Nat → Addr} {x qual : Str} {st : Stmt} {f : Addr} {fd : FuncData} {N ps : List Str} {k n : Nat} {m : SM}
    (F : Fun K x qual st f fd) (S : FnScope N ps (defScope st)) (hn : N.length = n)
    (hm : ∀ (cdv : Value) (A : Around) (outer : List Env) (s : Shared) (H : Hp) (E : XK), Room k (A.deeper (envOfC qual (defScope st) s.heap.objs.size f cdv)) →
      ∃ t, PSs (cxOf (CXE P w) P w K mg base N qual (defScope st) f cdv A outer s H E).nox (defBody st) t ∧ RdS ⟨K, ca, W0⟩ t m) :
    FnOk P w K mg base (CXE P w) (k + 1) f fd ps (spM K ca ps.length (runM n m)) := by
  refine F.okE S (fun vs H Q E h => ?_) (fun cdv A outer s H vs Q E hr h => ?_)
  · obtain ⟨F, θ, ds, O, _, r, hl, _⟩ := h
    rw [r.length, hl]
  · obtain ⟨F, θ, ds, O, now, r, hl, q⟩ := h
    obtain ⟨t, ht, rd⟩ := hm cdv A outer s H E hr
    refine ⟨t, ht.nox, rd _ H F θ _ _ (bs_start now r) ?_⟩
    subst hn
    unfold runM at q
    cases e : m ⟨ds.map some ++ List.replicate (N.length - ds.length) none, O⟩ with
    | next s1 => rw [e] at q; exact fun σ1 H1 F1 θ1 st b => q .non H1 F1 θ1 st b.now (rep_non.mpr rfl)
    | ret d s1 => rw [e] at q; exact fun v σ1 H1 F1 θ1 st b rv => q v H1 F1 θ1 st b.now rv
    | exc c a o => rw [e] at q; exact False.elim q
    | brk s1 => rw [e] at q; exact False.elim q
    | cnt s1 => rw [e] at q; exact False.elim q
    | bad => rw [e] at q; exact False.elim q
theorem BS.called {K : PySem.W.Frag} {ca : Nat → Addr} {σ : L2.St} {H F H1 F1 : Hp} {θ θ1 : List Addr} {s : S} {O1 : Store} (b : BS K ca σ H F θ s) (st : Stp H F [] H1 F1 θ1) (n : Now K ca H1 F1 θ1 O1) :
    Stp H F θ H1 F1 θ ∧ BS K ca σ H1 F1 θ s := by
  have kp : ∀ b o, H b = some o → H1 b = some o := fun b o h => st.kp b o h (by simp)
  have nf : ∀ b o, F1 b = some o → F b = some o ∨ H b = none := fun b o h => by
    rcases st.nf b o h with z | z | z
    · exact .inl z
    · exact .inr z
    · simp at z
  refine ⟨⟨st.ff, ⟨[], by simp, by simp⟩, fun b o h _ => kp b o h, st.al, fun b o h => (nf b o h).elim .inl fun z => .inr (.inl z)⟩, ⟨⟨n.fh, b.now.nd, b.now.ln, fun k a c e1 e2 => ?_⟩, b.len, fun i d e => ?_⟩⟩
  · have q := b.now.ce k a c e1 e2
    obtain ⟨u, hu⟩ := q.there
    have fn : F a = none → F1 a = none := fun h => by
      cases e : F1 a with
      | none => rfl
      | some o =>
        rcases nf a o e with z | z
        · rw [h] at z; cases z
        · rw [hu] at z; cases z
    cases c with
    | dead => exact ⟨u, kp a u hu⟩
    | lst ds =>
      obtain ⟨q1, xs, q2, q3⟩ := q
      exact ⟨fn q1, xs, kp _ _ q2, q3.mono st.ff ⟨[], by simp⟩⟩
    | ins c ns ds =>
      obtain ⟨q1, dx, xs, q2, q3, q4⟩ := q
      exact ⟨fn q1, dx, xs, kp _ _ q2, q3, q4.mono st.ff ⟨[], by simp⟩⟩
  · obtain ⟨v, h1, h2⟩ := b.sl i d e
    exact ⟨v, h1, h2.mono st.ff ⟨[], by simp⟩⟩
def callP (n : Nat) (f : FM) (ma : AM) : EM := fun s => (ma s).bind fun x => if pureDs x.1 = true ∧ x.1.length = n then (match f x.1 [] with
  | .ok (d, _) => if pureD d = true then .ok (d, x.2) else .bad
  | _ => .bad) else .bad
theorem rd_callP {n : Nat} {f : FM} {ta : TA} {ma : AM} {E : XK} (ha : RdA C ta ma) : RdE C (tCall (spM C.K C.ca n f) [] E ta) (callP n f ma) := by
  intro σ H F θ s Q b p
  refine ha σ H F θ s _ b (PoR.bind p ?_)
  rintro ⟨x, s1⟩ H1 F1 θ1 _ st1 p1 b1 v r1
  dsimp only at p1 b1 r1 ⊢
  split at p1
  · rename_i hp
    rw [List.append_nil]
    refine ⟨F1, [], x, [], Now.nil b1.now.fh, r1.pure hp.1, hp.2, ?_⟩
    split at p1
    · rename_i d O1 e
      rw [e]
      intro v H2 F2 θ2 st2 n2 rv
      split at p1
      · rename_i pd
        obtain ⟨st3, b3⟩ := b1.called st2 n2
        exact p1 H2 F2 θ1 st3 b3 v (rv.pure pd)
      · exact False.elim p1
    · exact False.elim p1
  · exact False.elim p1
end
end M
set_option maxRecDepth 100000
set_option maxHeartbeats 4000000
namespace M
open PySem PySem.Spec PyProof.Rows L2
section
variable {C : Ct}
theorem po_val {σ : L2.St} {H F : Hp} {θ : List Addr} {s : S} {d : D} {Q : VK} (p : PoE C σ H F θ ((Res.ok d).bind fun d => .ok (d, s)) Q) (b : BS C.K C.ca σ H F θ s) {v : V} (r : Rep C.K C.ca θ F d v) : Q v H := p H F θ .refl b v r
theorem po_lst {σ : L2.St} {H F : Hp} {θ : List Addr} {s : S} {ds : List D} {Q : VK} (p : PoE C σ H F θ ((Res.ok (D.lst ds)).bind fun d => .ok (d, s)) Q) (b : BS C.K C.ca σ H F θ s) {xs : List V} (r : Reps C.K C.ca θ F ds xs) :
    ∀ q, H q = none → Q (.ref q) (upd H q (.lst xs)) := fun q hq => by
  obtain ⟨st, b2, sF, e⟩ := b.newF hq (.lst xs)
  refine p _ _ _ st b2 _ ?_
  unfold Rep
  exact ⟨q, xs, rfl, SqL.of e, r.mono sF ⟨[], by simp⟩⟩
def lsD (O : Store) : D → Option (List D)
  | .lst ds => some ds
  | .ptr k => match O[k]? with
    | some (.lst ds) => some ds
    | _ => none
  | _ => none
@[simp] theorem lsD_lst {O : Store} {ds : List D} : lsD O (.lst ds) = some ds := rfl
theorem ls_rep {σ : L2.St} {H F : Hp} {θ : List Addr} {s : S} {d : D} {ds : List D} {v : V} (b : BS C.K C.ca σ H F θ s) (r : Rep C.K C.ca θ F d v) (e : lsD s.o d = some ds) : ∃ a xs, v = .ref a ∧ SqL C.K H a xs ∧ Reps C.K C.ca θ F ds xs := by
  cases d <;> first | (simp [lsD] at e; done) | skip
  · cases e
    unfold Rep at r
    obtain ⟨a, xs, rfl, hs, hr⟩ := r
    exact ⟨a, xs, rfl, b.now.fh.seq hs, hr⟩
  · rename_i k
    unfold Rep at r
    obtain ⟨a, rfl, hk⟩ := r
    unfold lsD at e
    dsimp only at e
    split at e
    · rename_i ds' ek
      cases e
      obtain ⟨_, xs, h1, h2⟩ : CellOk C.K C.ca H F θ a (.lst ds) := b.now.ce k a _ hk ek
      exact ⟨a, xs, rfl, SqL.of h1, h2⟩
    · cases e
theorem tp_rep {σ : L2.St} {H F : Hp} {θ : List Addr} {s : S} {ds : List D} {v : V} (b : BS C.K C.ca σ H F θ s) (r : Rep C.K C.ca θ F (.tup ds) v) : ∃ a xs, v = .ref a ∧ SqT C.K H a xs ∧ Reps C.K C.ca θ F ds xs := by
  unfold Rep at r
  obtain ⟨a, xs, rfl, hs, hr⟩ := r
  exact ⟨a, xs, rfl, Same.seqT b.now.fh hs, hr⟩
def intD (g : Int → Int → Res D) : Op2 := fun _ x y => match x, y with
  | .int i, .int j => g i j
  | _, _ => .bad
theorem rd_rI0 {g : Int → Int → V} {f : Int → Int → D} (h : ∀ K ca θ F i j, Rep K ca θ F (f i j) (g i j)) : RdOp C (rI0 g) (intD fun i j => .ok (f i j)) := by
  intro σ H F θ s x y v w Q b rx ry p
  unfold intD at p
  split at p
  · rename_i i j
    exact ⟨i, j, rep_int.mp rx, rep_int.mp ry, po_val p b (h ..)⟩
  · exact False.elim p
open Classical in
noncomputable def intC (c : Int → Int → Prop) (f : Int → Int → D) : Op2 := intD fun i j => if c i j then .ok (f i j) else .bad
theorem rd_rI {c : Int → Int → Prop} {g : Int → Int → V} {f : Int → Int → D} (h : ∀ K ca θ F i j, Rep K ca θ F (f i j) (g i j)) : RdOp C (rI c g) (intC c f) := by
  intro σ H F θ s x y v w Q b rx ry p
  unfold intC intD at p
  split at p
  · rename_i i j
    dsimp only at p
    split at p
    · rename_i hc
      exact ⟨i, j, rep_int.mp rx, rep_int.mp ry, hc, po_val p b (h ..)⟩
    · exact False.elim p
  · exact False.elim p
def subD : Op2 := intD fun i j => .ok (.int (i - j))
noncomputable def mulD : Op2 := intC IntMulOk fun i j => .int (i * j)
noncomputable def fdivD : Op2 := intC (fun i j => j ≠ 0) fun i j => .int (i.fdiv j)
noncomputable def modD : Op2 := intC (fun _ j => j ≠ 0) fun i j => .int (i.fmod j)
noncomputable def powD : Op2 := intC CPow fun i j => .int (i ^ j.toNat)
def ltD : Op2 := intD fun i j => .ok (.bl (decide (i < j)))
def leD : Op2 := intD fun i j => .ok (.bl (decide (i ≤ j)))
def gtD : Op2 := intD fun i j => .ok (.bl (decide (j < i)))
def geD : Op2 := intD fun i j => .ok (.bl (decide (j ≤ i)))
def negD : Op1 := fun _ x => match x with
  | .int i => .ok (.int (-i))
  | _ => .bad
section
variable {X : Cx}
theorem o_mul : OpR X (binaryOp .Mult) (rI IntMulOk fun i j => .int (i * j)) := opI fun _ _ _ _ _ _ _ hc q => mul_int q hc
theorem o_fdiv (hd : X.A.depth + 100 < recursionLimit) (ht : X.prog.given.tree = none) (hs : ∃ env l, X.stack = env :: l ∧ env.scope.isGenerator = false ∧ env.scope.isCoroutine = false ∧ env.builtins = builtinsNs ∧ env.globals = mainGlobals) :
    OpR X (binaryOp .FloorDiv) (rI (fun i j => j ≠ 0) fun i j => .int (i.fdiv j)) := by
  intro pins s σ H x y v u Q I rx ry h
  obtain ⟨i, j, rfl, rfl, hc, q⟩ := h
  obtain ⟨t, rfl⟩ := rx
  obtain ⟨t', rfl⟩ := ry
  obtain ⟨env, l, e, h1, h2, h3, h4⟩ := hs
  exact floordiv_int hc ⟨.int _, H, I.tok _, ⟨_, rfl⟩, q⟩ (.inr (PylongRoom.of I.nolimit hd (SeerAt.of I.noseer ht (I.ok.frames.trans (by rw [e])) h1 h2 h3 h4)))
def rAddA (K : PySem.W.Frag) : R2 := fun x y H Q => rI0 (fun i j => .int (i + j)) x y H Q ∨ (∃ i j, x = .str i ∧ y = .str j ∧ i.length + j.length ≤ sizeLine ∧ Q (.str (i ++ j)) H) ∨ rCatL K x y H Q
theorem o_add : OpR X (binaryOp .Add) (rAddA X.K) := op_add.or (op_add_str.or op_catL)
end
def addI : Op2 := intD fun i j => .ok (.int (i + j))
def addD : Op2 := fun O x y => match x, y with
  | .int i, .int j => .ok (.int (i + j))
  | .str a, .str b => if a.length + b.length ≤ 16777216 then .ok (.str (a ++ b)) else .bad
  | x, y => match lsD O x, lsD O y with
    | some a, some b => if a.length + b.length ≤ 16777216 then .ok (.lst (a ++ b)) else .bad
    | _, _ => .bad
theorem rd_add : RdOp C (rAddA C.K) addD := by
  intro σ H F θ s x y v w Q b rx ry p
  have lists : ∀ {a c : List D}, lsD s.o x = some a → lsD s.o y = some c → PoE C σ H F θ ((if a.length + c.length ≤ 16777216 then Res.ok (D.lst (a ++ c)) else .bad).bind fun d => .ok (d, s)) Q → rAddA C.K v w H Q := fun {a c} e1 e2 p => by
    split at p
    · rename_i hl
      obtain ⟨l1, xs, rfl, s1, r1⟩ := ls_rep b rx e1
      obtain ⟨l2, ys, rfl, s2, r2⟩ := ls_rep b ry e2
      exact .inr (.inr ⟨l1, l2, xs, ys, rfl, rfl, s1, s2, by rw [r1.length, r2.length]; exact hl, po_lst p b (r1.append r2)⟩)
    · exact False.elim p
  unfold addD at p
  split at p
  · rename_i i j
    exact .inl ⟨i, j, rep_int.mp rx, rep_int.mp ry, po_val p b (rep_int.mpr rfl)⟩
  · rename_i i j
    split at p
    · rename_i hl
      exact .inr (.inl ⟨i, j, rep_str.mp rx, rep_str.mp ry, hl, po_val p b (rep_str.mpr rfl)⟩)
    · exact False.elim p
  · split at p
    · rename_i a c e1 e2
      exact lists e1 e2 p
    · exact False.elim p
theorem rd_sub : RdOp C (rI0 fun i j => .int (i - j)) subD := rd_rI0 fun _ _ _ _ _ _ => rep_int.mpr rfl
theorem rd_mul : RdOp C (rI IntMulOk fun i j => .int (i * j)) mulD := rd_rI fun _ _ _ _ _ _ => rep_int.mpr rfl
theorem rd_fdiv : RdOp C (rI (fun i j => j ≠ 0) fun i j => .int (i.fdiv j)) fdivD := rd_rI fun _ _ _ _ _ _ => rep_int.mpr rfl
theorem rd_mod : RdOp C (rI (fun _ j => j ≠ 0) fun i j => .int (i.fmod j)) modD := rd_rI fun _ _ _ _ _ _ => rep_int.mpr rfl
theorem rd_pow : RdOp C (rI CPow fun i j => .int (i ^ j.toNat)) powD := rd_rI fun _ _ _ _ _ _ => rep_int.mpr rfl
theorem rd_lt : RdOp C (rI0 fun i j => .bl (decide (i < j))) ltD := rd_rI0 fun _ _ _ _ _ _ => rep_bl.mpr rfl
theorem rd_gt : RdOp C (rI0 fun i j => .bl (decide (j < i))) gtD := rd_rI0 fun _ _ _ _ _ _ => rep_bl.mpr rfl
theorem rd_neg : RdUn C (rU fun i => .int (-i)) negD := by
  intro σ H F θ s x v Q b rx p
  unfold negD at p
  split at p
  · rename_i i
    exact ⟨i, rep_int.mp rx, po_val p b (rep_int.mpr rfl)⟩
  · exact False.elim p
mutual
def toPy : D → Option PyData
  | .non => some .none
  | .bl b => some (.bool b)
  | .int i => some (.int i)
  | .str x => some (.str x)
  | .lst ds => (toPys ds).map .list
  | .tup ds => (toPys ds).map .tuple
  | .ptr _ => none
  | .obj _ _ _ => none
  | .exn _ => none
def toPys : List D → Option (List PyData)
  | [] => some []
  | d :: ds => match toPy d, toPys ds with
    | some a, some b => some (a :: b)
    | _, _ => none
end
mutual
def res (O : Store) : D → D
  | .lst ds => .lst (ress O ds)
  | .tup ds => .tup (ress O ds)
  | .ptr k => match O[k]? with
    | some (.lst ds) => .lst ds
    | _ => .ptr k
  | .non => .non
  | .bl b => .bl b
  | .int i => .int i
  | .str x => .str x
  | .obj c ns ds => .obj c ns ds
  | .exn c => .exn c
def ress (O : Store) : List D → List D
  | [] => []
  | d :: ds => res O d :: ress O ds
end
section
variable {K : PySem.W.Frag} {ca : Nat → Addr} {H F G : Hp} {θ : List Addr} {O : Store}
mutual
theorem res_rep (n : Now K ca H F θ O) (hF : Same F G) (hG : Same G H) : ∀ {d : D} {v : V}, Rep K ca θ G d v → Rep K ca θ H (res O d) v
  | .non, _, h => by unfold res; exact h
  | .bl _, _, h => by unfold res; exact h
  | .int _, _, h => by unfold res; exact h
  | .str _, _, h => by unfold res; exact h
  | .lst ds, _, h => by
    unfold res
    unfold Rep at h ⊢
    obtain ⟨a, xs, e, hs, hr⟩ := h
    exact ⟨a, xs, e, hG.seq hs, ress_rep n hF hG hr⟩
  | .tup ds, _, h => by
    unfold res
    unfold Rep at h ⊢
    obtain ⟨a, xs, e, hs, hr⟩ := h
    exact ⟨a, xs, e, Same.seqT hG hs, ress_rep n hF hG hr⟩
  | .ptr k, v, h => by
    unfold res
    split
    · rename_i ds e
      unfold Rep at h ⊢
      obtain ⟨a, ev, hk⟩ := h
      obtain ⟨_, xs, h1, h2⟩ : CellOk K ca H F θ a (.lst ds) := n.ce k a _ hk e
      exact ⟨a, xs, ev, SqL.of h1, h2.mono n.fh ⟨[], by simp⟩⟩
    · exact h.mono hG ⟨[], by simp⟩
  | .obj c ns ds, _, h => by unfold res; exact h.mono hG ⟨[], by simp⟩
  | .exn c, _, h => by unfold res; exact h.mono hG ⟨[], by simp⟩
theorem ress_rep (n : Now K ca H F θ O) (hF : Same F G) (hG : Same G H) : ∀ {ds : List D} {xs : List V}, Reps K ca θ G ds xs → Reps K ca θ H (ress O ds) xs
  | [], _, h => by unfold ress; exact h
  | d :: ds, _, h => by
    unfold ress
    unfold Reps at h ⊢
    obtain ⟨v, r, e, h1, h2⟩ := h
    exact ⟨v, r, e, res_rep n hF hG h1, ress_rep n hF hG h2⟩
end
mutual
theorem toPy_rd : ∀ {d : D} {v : V} {p : PyData}, Rep K ca θ H d v → toPy d = some p → RdV K H p v
  | .non, _, _, h, e => by unfold toPy at e; cases e; unfold RdV; exact rep_non.mp h
  | .bl b, _, _, h, e => by unfold toPy at e; cases e; unfold RdV; exact rep_bl.mp h
  | .int b, _, _, h, e => by unfold toPy at e; cases e; unfold RdV; exact rep_int.mp h
  | .str b, _, _, h, e => by unfold toPy at e; cases e; unfold RdV; exact rep_str.mp h
  | .lst ds, _, _, h, e => by
    unfold toPy at e
    cases e1 : toPys ds with
    | none => rw [e1] at e; cases e
    | some ps =>
      rw [e1] at e
      cases e
      unfold Rep at h
      obtain ⟨a, xs, ev, hs, hr⟩ := h
      unfold RdV
      exact ⟨a, xs, ev, hs, toPys_rd hr e1⟩
  | .tup ds, _, _, h, e => by
    unfold toPy at e
    cases e1 : toPys ds with
    | none => rw [e1] at e; cases e
    | some ps =>
      rw [e1] at e
      cases e
      unfold Rep at h
      obtain ⟨a, xs, ev, hs, hr⟩ := h
      unfold RdV
      exact ⟨a, xs, ev, hs, toPys_rd hr e1⟩
  | .ptr _, _, _, _, e => by unfold toPy at e; cases e
  | .obj _ _ _, _, _, _, e => by unfold toPy at e; cases e
  | .exn _, _, _, _, e => by unfold toPy at e; cases e
theorem toPys_rd : ∀ {ds : List D} {xs : List V} {ps : List PyData}, Reps K ca θ H ds xs → toPys ds = some ps → RdVs K H ps xs
  | [], _, _, h, e => by unfold toPys at e; cases e; unfold RdVs; unfold Reps at h; exact h
  | d :: ds, _, _, h, e => by
    unfold toPys at e
    cases e1 : toPy d with
    | none => rw [e1] at e; cases e
    | some p =>
      cases e2 : toPys ds with
      | none => rw [e1, e2] at e; cases e
      | some ps =>
        rw [e1, e2] at e
        cases e
        unfold Reps at h
        obtain ⟨v, r, ev, h1, h2⟩ := h
        unfold RdVs
        exact ⟨v, r, ev, toPy_rd h1 e1, toPys_rd h2 e2⟩
end
end
def eqDeep (O : Store) (x y : D) : Option Bool := match toPy (res O (res O x)), toPy (res O (res O y)) with
  | some a, some b => if SeqAt.shaped a = true ∧ SeqAt.shaped b = true then some (PyData.eqv a b) else none
  | _, _ => none
def eqB (O : Store) (x y : D) : Option Bool := match x, y with
  | .int i, .int j => some (decide (i = j))
  | .str i, .str j => some (decide (i = j))
  | .bl i, .bl j => some (decide (i = j))
  | .non, .non => some true
  | x, y => eqDeep O x y
def eqD : Op2 := fun O x y => match eqB O x y with
  | some b => .ok (.bl b)
  | none => .bad
def neD : Op2 := fun O x y => match eqB O x y with
  | some b => .ok (.bl (!b))
  | none => .bad
section
variable {X : Cx}
def rEqA (K : PySem.W.Frag) : R2 := fun x y H Q => rEq x y H Q ∨ rEqD K x y H Q
def rNeA (K : PySem.W.Frag) : R2 := fun x y H Q => rNe x y H Q ∨ rNeD K x y H Q
theorem o_eq (hu : X.A.units + 64 < cLine) : OpR X (compareOp .Eq) (rEqA X.K) := op_eq.or (op_eqD hu)
theorem o_ne (hu : X.A.units + 64 < cLine) : OpR X (compareOp .NotEq) (rNeA X.K) := op_ne.or (op_neD hu)
end
theorem eqDeep_rd {σ : L2.St} {H F : Hp} {θ : List Addr} {s : S} {x y : D} {v w : V} {k : Bool} (b : BS C.K C.ca σ H F θ s) (rx : Rep C.K C.ca θ F x v) (ry : Rep C.K C.ca θ F y w) (e : eqDeep s.o x y = some k) :
    ∃ d e, RdV C.K H d v ∧ RdV C.K H e w ∧ SeqAt.shaped d = true ∧ SeqAt.shaped e = true ∧ PyData.eqv d e = k := by
  unfold eqDeep at e
  split at e
  · rename_i a c e1 e2
    split at e
    · rename_i hs
      cases e
      have rr : ∀ {d : D} {u : V}, Rep C.K C.ca θ F d u → Rep C.K C.ca θ H (res s.o (res s.o d)) u := fun h => res_rep b.now b.now.fh (Same.refl _) (res_rep b.now (Same.refl _) b.now.fh h)
      exact ⟨a, c, toPy_rd (rr rx) e1, toPy_rd (rr ry) e2, hs.1, hs.2, rfl⟩
    · cases e
  · cases e
theorem rd_eq : RdOp C (rEqA C.K) eqD := by
  intro σ H F θ s x y v w Q b rx ry p
  unfold eqD at p
  split at p
  · rename_i k e
    have q := fun H' (h : H' = H) => h ▸ po_val p b (v := .bl k) (rep_bl.mpr rfl)
    have q := q H rfl
    unfold eqB at e
    split at e
    · rename_i i j
      cases e
      cases rep_int.mp rx; cases rep_int.mp ry
      exact .inl ⟨rfl, by rw [dec_int, Bool.beq_eq_decide_eq]; exact q⟩
    · cases e
      cases rep_str.mp rx; cases rep_str.mp ry
      exact .inl ⟨rfl, by rw [dec_str, Bool.beq_eq_decide_eq]; exact q⟩
    · cases e
      cases rep_bl.mp rx; cases rep_bl.mp ry
      exact .inl ⟨rfl, by rw [dec_bl, Bool.beq_eq_decide_eq]; exact q⟩
    · cases e
      cases rep_non.mp rx; cases rep_non.mp ry
      exact .inl ⟨rfl, by simpa using q⟩
    · obtain ⟨d, e', h1, h2, h3, h4, h5⟩ := eqDeep_rd b rx ry e
      exact .inr ⟨d, e', h1, h2, h3, h4, by rw [h5]; exact q⟩
  · exact False.elim p
theorem rd_ne : RdOp C (rNeA C.K) neD := by
  intro σ H F θ s x y v w Q b rx ry p
  unfold neD at p
  split at p
  · rename_i k e
    have q := po_val p b (v := .bl (!k)) (rep_bl.mpr rfl)
    unfold eqB at e
    split at e
    · rename_i i j
      cases e
      cases rep_int.mp rx; cases rep_int.mp ry
      exact .inl ⟨rfl, by rw [dec_int, Bool.beq_eq_decide_eq]; exact q⟩
    · cases e
      cases rep_str.mp rx; cases rep_str.mp ry
      exact .inl ⟨rfl, by rw [dec_str, Bool.beq_eq_decide_eq]; exact q⟩
    · cases e
      cases rep_bl.mp rx; cases rep_bl.mp ry
      exact .inl ⟨rfl, by rw [dec_bl, Bool.beq_eq_decide_eq]; exact q⟩
    · cases e
      cases rep_non.mp rx; cases rep_non.mp ry
      exact .inl ⟨rfl, by simpa using q⟩
    · obtain ⟨d, e', h1, h2, h3, h4, h5⟩ := eqDeep_rd b rx ry e
      exact .inr ⟨d, e', h1, h2, h3, h4, by rw [h5]; exact q⟩
  · exact False.elim p
def ixD : Op2 := fun O x y => match y with
  | .int i => match x with
    | .tup ds => match atI ds i with
      | some d => .ok d
      | none => .bad
    | .str z => if z.length ≤ 16777216 then (match atI z.cps.toList i with
      | some c => .ok (.str ⟨#[c]⟩)
      | none => .bad) else .bad
    | x => match lsD O x with
      | some ds => match atI ds i with
        | some d => .ok d
        | none => .bad
      | none => .bad
  | _ => .bad
theorem reps_at {K ca θ F} {ds : List D} {xs : List V} {i : Int} {d : D} (r : Reps K ca θ F ds xs) (e : atI ds i = some d) : ∃ v, atI xs i = some v ∧ Rep K ca θ F d v := by
  unfold atI at e ⊢
  rw [r.length]
  cases q : ixN ds.length i with
  | none => rw [q] at e; cases e
  | some j =>
    rw [q] at e
    exact r.get e
theorem rd_ix : RdOp C (rIx C.K) ixD := by
  intro σ H F θ s x y v w Q b rx ry p
  unfold ixD at p
  split at p
  · rename_i i
    split at p
    · rename_i ds
      obtain ⟨a, xs, rfl, hs, hr⟩ := tp_rep b rx
      split at p
      · rename_i d e
        obtain ⟨u, e1, r1⟩ := reps_at hr e
        exact .inr (.inl ⟨a, xs, i, u, rfl, rep_int.mp ry, hs, e1, po_val p b r1⟩)
      · exact False.elim p
    · rename_i z
      split at p
      · rename_i hz
        split at p
        · rename_i c e
          exact .inr (.inr ⟨z, i, c, rep_str.mp rx, rep_int.mp ry, hz, e, po_val p b (rep_str.mpr rfl)⟩)
        · exact False.elim p
      · exact False.elim p
    · split at p
      · rename_i ds e0
        obtain ⟨a, xs, rfl, hs, hr⟩ := ls_rep b rx e0
        split at p
        · rename_i d e
          obtain ⟨u, e1, r1⟩ := reps_at hr e
          exact .inl ⟨a, xs, i, u, rfl, rep_int.mp ry, hs, e1, po_val p b r1⟩
        · exact False.elim p
      · exact False.elim p
  · exact False.elim p
abbrev OM := S → Res (Option Int × S)
def RdO (C : Ct) (t : TO) (m : OM) : Prop := ∀ σ H F θ s Q, BS C.K C.ca σ H F θ s → PoR C H F θ (m s) (fun y H1 F1 θ1 => BS C.K C.ca σ H1 F1 θ1 y.2 → Q y.1 H1) → t σ H Q
def noPart : OM := fun s => .ok (none, s)
def part (m : EM) : OM := fun s => (m s).bind fun x => match x.1 with
  | .int i => .ok (some i, x.2)
  | _ => .bad
theorem rd_noPart : RdO C tNoPart noPart := fun σ H F θ s Q b p => p H F θ .refl b
theorem rd_part {t : TE} {m : EM} (h : RdE C t m) : RdO C (tPart t) (part m) := by
  intro σ H F θ s Q b p
  refine h σ H F θ s _ b (PoR.bind p ?_)
  rintro ⟨x, s1⟩ H1 F1 θ1 _ st1 p1 b1 v r1
  cases x <;> first | exact False.elim p1 | skip
  rename_i i _
  exact ⟨i, rep_int.mp r1, p1 _ _ _ .refl b1⟩
def cutD (ds : List D) (lo hi : Option Int) : List D := (ds.drop (HT.sIx ds.length 0 lo)).take (HT.sIx ds.length ds.length hi - HT.sIx ds.length 0 lo)
theorem cut_rep {K ca θ F} {ds : List D} {xs : List V} {lo hi : Option Int} (r : Reps K ca θ F ds xs) : Reps K ca θ F (cutD ds lo hi) (cutV xs lo hi) := by
  unfold cutD cutV
  rw [r.length]
  exact (r.drop _).take _
def slM (me : EM) (ml mh : OM) : EM := fun s => (me s).bind fun x => (ml x.2).bind fun l => (mh l.2).bind fun h => match lsD h.2.o x.1 with
  | some ds => .ok (.lst (cutD ds l.1 h.1), h.2)
  | none => .bad
theorem rd_sl {te : TE} {tl th : TO} {me : EM} {ml mh : OM} (he : RdE C te me) (hl : RdO C tl ml) (hh : RdO C th mh) : RdE C (tSl (rSlL C.K) te tl th) (slM me ml mh) := by
  intro σ H F θ s Q b p
  refine he σ H F θ s _ b (PoR.bind p ?_)
  rintro ⟨x, s1⟩ H1 F1 θ1 _ st1 p1 b1 v r1
  refine hl σ H1 F1 θ1 s1 _ b1 (PoR.bind p1 ?_)
  rintro ⟨l, s2⟩ H2 F2 θ2 _ st2 p2 b2
  refine hh σ H2 F2 θ2 s2 _ b2 (PoR.bind p2 ?_)
  rintro ⟨h, s3⟩ H3 F3 θ3 _ st3 p3 b3
  dsimp only at p3 ⊢
  split at p3
  · rename_i ds e
    obtain ⟨a, xs, rfl, hs, hr⟩ := ls_rep b3 ((r1.mono st2.ff st2.pre).mono st3.ff st3.pre) e
    exact ⟨a, xs, rfl, hs, po_lst (ds := cutD ds l h) p3 b3 (cut_rep hr)⟩
  · exact False.elim p3
def lenD : OpN := fun O xs => match xs with
  | [.str z] => if z.length ≤ 16777216 then .ok (.int z.length) else .bad
  | [.tup ds] => .ok (.int ds.length)
  | [x] => match lsD O x with
    | some ds => .ok (.int ds.length)
    | none => .bad
  | _ => .bad
theorem reps1 {K ca θ F} {x : D} {vs : List V} (h : Reps K ca θ F [x] vs) : ∃ v, vs = [v] ∧ Rep K ca θ F x v := by
  unfold Reps at h
  obtain ⟨v, r, rfl, h1, h2⟩ := h
  unfold Reps at h2
  rw [h2]
  exact ⟨v, rfl, h1⟩
theorem reps2 {K ca θ F} {x y : D} {vs : List V} (h : Reps K ca θ F [x, y] vs) : ∃ v w, vs = [v, w] ∧ Rep K ca θ F x v ∧ Rep K ca θ F y w := by
  unfold Reps at h
  obtain ⟨v, r, rfl, h1, h2⟩ := h
  obtain ⟨w, rfl, h3⟩ := reps1 h2
  exact ⟨v, w, rfl, h1, h3⟩
theorem rd_len : RdCall C (fun xs H Q => ∃ x n, xs = [x] ∧ LenV C.K x H n ∧ Q (.int n) H) lenD := by
  intro σ H F θ s xs vs Q b r p
  unfold lenD at p
  split at p
  · rename_i z
    obtain ⟨v, rfl, r1⟩ := reps1 r
    cases rep_str.mp r1
    split at p
    · rename_i hz
      exact ⟨.str z, z.length, rfl, ⟨hz, rfl⟩, po_val p b (rep_int.mpr rfl)⟩
    · exact False.elim p
  · rename_i ds
    obtain ⟨v, rfl, r1⟩ := reps1 r
    obtain ⟨a, xs, rfl, hs, hr⟩ := tp_rep b r1
    exact ⟨.ref a, ds.length, rfl, .inr ⟨xs, hs, by rw [hr.length]⟩, po_val p b (rep_int.mpr rfl)⟩
  · rename_i x _ _
    obtain ⟨v, rfl, r1⟩ := reps1 r
    split at p
    · rename_i ds e
      obtain ⟨a, xs, rfl, hs, hr⟩ := ls_rep b r1 e
      exact ⟨.ref a, ds.length, rfl, .inl ⟨xs, hs, by rw [hr.length]⟩, po_val p b (rep_int.mpr rfl)⟩
    · exact False.elim p
  · exact False.elim p
def listD : OpN := fun O xs => match xs with
  | [.tup ds] => .ok (.lst ds)
  | [x] => match lsD O x with
    | some ds => .ok (.lst ds)
    | none => .bad
  | _ => .bad
theorem rd_listF : RdCall C (fun xs H Q => ∃ p ys, xs = [.ref p] ∧ (SqL C.K H p ys ∨ SqT C.K H p ys) ∧ ∀ l, H l = none → Q (.ref l) (upd H l (.lst ys))) listD := by
  intro σ H F θ s xs vs Q b r p
  unfold listD at p
  split at p
  · rename_i ds
    obtain ⟨v, rfl, r1⟩ := reps1 r
    obtain ⟨a, xs, rfl, hs, hr⟩ := tp_rep b r1
    exact ⟨a, xs, rfl, .inr hs, po_lst p b hr⟩
  · obtain ⟨v, rfl, r1⟩ := reps1 r
    split at p
    · rename_i ds e
      obtain ⟨a, xs, rfl, hs, hr⟩ := ls_rep b r1 e
      exact ⟨a, xs, rfl, .inl hs, po_lst p b hr⟩
    · exact False.elim p
  · exact False.elim p
def absD : OpN := fun _ xs => match xs with
  | [.int i] => .ok (.int (if i < 0 then -i else i))
  | _ => .bad
theorem rd_abs : RdCall C (fun xs H Q => ∃ i, xs = [.int i] ∧ Q (.int (if i < 0 then -i else i)) H) absD := by
  intro σ H F θ s xs vs Q b r p
  unfold absD at p
  split at p
  · rename_i i
    exact ⟨i, reps_ints1 r, po_val p b (rep_int.mpr rfl)⟩
  · exact False.elim p
def intOf : OpN := fun _ xs => match xs with
  | [.int i] => .ok (.int i)
  | [.bl k] => .ok (.int (if k then 1 else 0))
  | _ => .bad
theorem rd_intOf : RdCall C (fun xs H Q => (∃ i, xs = [.int i] ∧ Q (.int i) H) ∨ ∃ k, xs = [.bl k] ∧ Q (.int (if k then 1 else 0)) H) intOf := by
  intro σ H F θ s xs vs Q b r p
  unfold intOf at p
  split at p
  · rename_i i
    exact .inl ⟨i, reps_ints1 r, po_val p b (rep_int.mpr rfl)⟩
  · rename_i k
    obtain ⟨v, rfl, r1⟩ := reps1 r
    cases rep_bl.mp r1
    exact .inr ⟨k, rfl, po_val p b (rep_int.mpr rfl)⟩
  · exact False.elim p
def tyD (O : Store) : D → Option String
  | .non => some "NoneType"
  | .bl _ => some "bool"
  | .int _ => some "int"
  | .str _ => some "str"
  | .lst _ => some "list"
  | .tup _ => some "tuple"
  | .ptr k => match O[k]? with
    | some (.lst _) => some "list"
    | _ => none
  | .obj _ _ _ => none
  | .exn _ => none
def isSub (t c : String) : Bool := t == c || (t == "bool" && c == "int")
def isiD (c : String) : Op1 := fun O x => match tyD O x with
  | some t => .ok (.bl (isSub t c))
  | none => .bad
def plainTy (c : String) : Prop := ∀ K : PySem.W.Frag, ∀ t ∈ ["NoneType", "bool", "int", "str", "list", "tuple"], PySem.W.kitOne K (.type t) (.type c) = some (isSub t c)
theorem ty_int : plainTy "int" := by
  intro K t ht
  simp only [List.mem_cons, List.mem_nil_iff, or_false] at ht
  rcases ht with rfl | rfl | rfl | rfl | rfl | rfl <;> rfl
theorem ty_bool : plainTy "bool" := by
  intro K t ht
  simp only [List.mem_cons, List.mem_nil_iff, or_false] at ht
  rcases ht with rfl | rfl | rfl | rfl | rfl | rfl <;> rfl
theorem ty_list : plainTy "list" := by
  intro K t ht
  simp only [List.mem_cons, List.mem_nil_iff, or_false] at ht
  rcases ht with rfl | rfl | rfl | rfl | rfl | rfl <;> rfl
theorem rd_isi {c : String} {te : TE} {m : EM} (hc : plainTy c) (h : RdE C te m) : RdE C (tCB (rIsi C.K) (tCons te (tCons (tC (.ty c)) tNil))) (unM (isiD c) m) := by
  intro σ H F θ s Q b p
  refine h σ H F θ s _ b (PoR.bind p ?_)
  rintro ⟨x, s1⟩ H1 F1 θ1 _ st1 p1 b1 v r1
  dsimp only at p1 b1 r1
  show rIsi C.K [v, .ty c] H1 Q
  unfold isiD at p1
  split at p1
  · rename_i t e
    have q := po_val p1 b1 (v := .bl (isSub t c)) (rep_bl.mpr rfl)
    refine ⟨v, c, t, isSub t c, rfl, ?_, ?_, q⟩
    · cases x <;> first | (unfold tyD at e; cases e; done) | skip
      · unfold tyD at e; cases e; rw [rep_non.mp r1]; rfl
      · unfold tyD at e; cases e; rw [rep_bl.mp r1]; rfl
      · unfold tyD at e; cases e; rw [rep_int.mp r1]; rfl
      · unfold tyD at e; cases e; rw [rep_str.mp r1]; rfl
      · unfold tyD at e; cases e
        unfold Rep at r1
        obtain ⟨a, xs, rfl, hs, hr⟩ := r1
        exact .inl ⟨rfl, xs, b1.now.fh.seq hs⟩
      · unfold tyD at e; cases e
        unfold Rep at r1
        obtain ⟨a, xs, rfl, hs, hr⟩ := r1
        exact .inr ⟨rfl, xs, Same.seqT b1.now.fh hs⟩
      · rename_i k _
        unfold tyD at e
        dsimp only at e
        split at e
        · rename_i ds ek
          cases e
          obtain ⟨a, xs, rfl, hs, hr⟩ := ls_rep b1 r1 (ds := ds) (by unfold lsD; simp only [ek])
          exact .inl ⟨rfl, xs, hs⟩
        · cases e
    · refine hc C.K t ?_
      cases x <;> unfold tyD at e <;> dsimp only at e <;> first | (cases e; simp; done) | (cases e; done) | skip
      split at e
      · cases e; simp
      · cases e
  · exact False.elim p1
theorem nodup_at {α : Type} {l : List α} (h : l.Nodup) {i j : Nat} {x : α} (a : l[i]? = some x) (b : l[j]? = some x) : i = j := by
  obtain ⟨h1, e1⟩ := List.getElem?_eq_some_iff.mp a
  obtain ⟨h2, e2⟩ := List.getElem?_eq_some_iff.mp b
  exact (List.getElem_inj h).mp (e1.trans e2.symm)
theorem BS.setC {K : PySem.W.Frag} {ca : Nat → Addr} {σ : L2.St} {H F : Hp} {θ : List Addr} {s : S} (b : BS K ca σ H F θ s) {k : Nat} {a : Addr} {c : Cell} (hk : θ[k]? = some a) (hc : s.o[k]? = some c) (hF : F a = none) {ds : List D} {xs : List V} (hr : Reps K ca θ F ds xs) :
    Stp H F θ (upd H a (.lst xs)) F θ ∧ BS K ca σ (upd H a (.lst xs)) F θ ⟨s.r, s.o.set k (.lst ds)⟩ := by
  have hm : a ∈ θ := List.mem_of_getElem? hk
  refine ⟨⟨Same.refl _, ⟨[], by simp, by simp⟩, fun e o he hb => ?_, fun e o he => ?_, fun e o he => .inl he⟩, ⟨⟨fun e o he => ?_, b.now.nd, by simpa using b.now.ln, fun j a' c' e1 e2 => ?_⟩, b.len, b.sl⟩⟩
  · have ne : e ≠ a := fun z => hb (by rw [z]; exact hm)
    rw [upd_ne ne]; exact he
  · by_cases z : e = a
    · subst z; exact ⟨_, upd_same⟩
    · exact ⟨o, by rw [upd_ne z]; exact he⟩
  · have ne : e ≠ a := fun z => by rw [z, hF] at he; cases he
    rw [upd_ne ne]
    exact b.now.fh _ _ he
  · by_cases hj : k = j
    · subst hj
      rw [hk] at e1; cases e1
      have : k < s.o.length := (List.getElem?_eq_some_iff.mp hc).1
      rw [List.getElem?_set_self this] at e2
      cases e2
      exact ⟨hF, xs, upd_same, hr⟩
    · rw [List.getElem?_set_ne hj] at e2
      have q := b.now.ce j a' c' e1 e2
      have ne : a' ≠ a := fun z => by
        subst z
        exact hj (nodup_at b.now.nd hk e1)
      cases c' with
      | dead => obtain ⟨o, ho⟩ := q; exact ⟨o, by rw [upd_ne ne]; exact ho⟩
      | lst ds => obtain ⟨q1, ys, q2, q3⟩ := q; exact ⟨q1, ys, by rw [upd_ne ne]; exact q2, q3⟩
      | ins c ns ds => obtain ⟨q1, dx, ys, q2, q3⟩ := q; exact ⟨q1, dx, ys, by rw [upd_ne ne]; exact q2, q3⟩
theorem ptr_rep {σ : L2.St} {H F : Hp} {θ : List Addr} {s : S} {k : Nat} {ds : List D} {v : V} (b : BS C.K C.ca σ H F θ s) (r : Rep C.K C.ca θ F (.ptr k) v) (e : s.o[k]? = some (.lst ds)) :
    ∃ a xs, v = .ref a ∧ θ[k]? = some a ∧ F a = none ∧ H a = some (.lst xs) ∧ Reps C.K C.ca θ F ds xs := by
  unfold Rep at r
  obtain ⟨a, rfl, hk⟩ := r
  obtain ⟨h0, xs, h1, h2⟩ : CellOk C.K C.ca H F θ a (.lst ds) := b.now.ce k a _ hk e
  exact ⟨a, xs, rfl, hk, h0, h1, h2⟩
def celD (O : Store) : D → Option (Nat × List D)
  | .ptr k => match O[k]? with
    | some (.lst ds) => some (k, ds)
    | _ => none
  | _ => none
theorem cel_eq {O : Store} {d : D} {k : Nat} {ds : List D} (h : celD O d = some (k, ds)) : d = .ptr k ∧ O[k]? = some (.lst ds) := by
  cases d <;> first | (simp [celD] at h; done) | skip
  rename_i j
  unfold celD at h
  dsimp only at h
  split at h
  · rename_i es e
    cases h
    exact ⟨rfl, e⟩
  · cases h
def appM (mo me : EM) : EM := fun s => (mo s).bind fun x => match celD x.2.o x.1 with
  | some _ => (me x.2).bind fun y => match celD y.2.o x.1 with
    | some (k, ds) => if ds.length < 16777216 then .ok (.non, ⟨y.2.r, y.2.o.set k (.lst (ds ++ [y.1]))⟩) else .bad
    | none => .bad
  | none => .bad
theorem rd_app {to te : TE} {mo me : EM} (ho : RdE C to mo) (he : RdE C te me) : RdE C (tBM C.K "list" rAppend to (tCons te tNil)) (appM mo me) := by
  intro σ H F θ s Q b p
  refine ho σ H F θ s _ b (PoR.bind p ?_)
  rintro ⟨x, s1⟩ H1 F1 θ1 _ st1 p1 b1 v r1
  dsimp only at p1 b1 r1
  split at p1
  · rename_i kd e
    obtain ⟨rfl, e'⟩ := cel_eq (k := kd.1) (ds := kd.2) e
    obtain ⟨a, xs, rfl, hk, _, h1, _⟩ := ptr_rep b1 r1 e'
    refine ⟨.inl ⟨rfl, xs, SqL.of h1⟩, he σ H1 F1 θ1 s1 _ b1 (PoR.bind p1 ?_)⟩
    rintro ⟨y, s2⟩ H2 F2 θ2 _ st2 p2 b2 w r2
    dsimp only at p2 b2 r2
    split at p2
    · rename_i k ds e2
      obtain ⟨ek, e2⟩ := cel_eq e2
      cases ek
      obtain ⟨a', ys, ea, hk2, hF, h2, hr⟩ := ptr_rep b2 (r1.mono st2.ff st2.pre) e2
      cases ea
      split at p2
      · rename_i hl
        obtain ⟨st3, b3⟩ := b2.setC hk2 e2 hF (hr.append (Reps.one r2))
        exact ⟨a, ys, w, rfl, rfl, h2, by rw [hr.length]; exact hl, p2 _ _ _ st3 b3 _ (rep_non.mpr rfl)⟩
      · exact False.elim p2
    · exact False.elim p2
  · exact False.elim p1
def met0M (f : List D → Option (List D × D)) (mo : EM) : EM := fun s => (mo s).bind fun x => match celD x.2.o x.1 with
  | some (k, ds) => match f ds with
    | some (es, r) => .ok (r, ⟨x.2.r, x.2.o.set k (.lst es)⟩)
    | none => .bad
  | none => .bad
theorem rd_met0 {f : List D → Option (List D × D)} {r : V → List V → Hp → VK → Prop} {to : TE} {mo : EM} (ho : RdE C to mo)
    (hr : ∀ K ca θ F ds xs es d, Reps K ca θ F ds xs → f ds = some (es, d) → ∃ ys v, Reps K ca θ F es ys ∧ Rep K ca θ F d v ∧ ∀ a (H : Hp) (Q : VK), H a = some (.lst xs) → Q v (upd H a (.lst ys)) → r (.ref a) [] H Q) :
    RdE C (tBM0 C.K "list" r to) (met0M f mo) := by
  intro σ H F θ s Q b p
  refine ho σ H F θ s _ b (PoR.bind p ?_)
  rintro ⟨x, s1⟩ H1 F1 θ1 _ st1 p1 b1 v r1
  dsimp only at p1 b1 r1
  split at p1
  · rename_i k ds e
    obtain ⟨rfl, e'⟩ := cel_eq e
    obtain ⟨a, xs, rfl, hk, hF, h1, h2⟩ := ptr_rep b1 r1 e'
    split at p1
    · rename_i es d ef
      obtain ⟨ys, u, q1, q2, q3⟩ := hr _ _ _ _ _ _ _ _ h2 ef
      obtain ⟨st3, b3⟩ := b1.setC hk e' hF q1
      exact ⟨.inl ⟨rfl, xs, SqL.of h1⟩, q3 a H1 Q h1 (p1 _ _ _ st3 b3 _ q2)⟩
    · exact False.elim p1
  · exact False.elim p1
def clrF : List D → Option (List D × D) := fun _ => some ([], .non)
theorem rd_clear {to : TE} {mo : EM} (ho : RdE C to mo) : RdE C (tBM0 C.K "list" rClear to) (met0M clrF mo) := rd_met0 ho fun K ca θ F ds xs es d r e => by
  cases e
  exact ⟨[], .non, Reps.nil, rep_non.mpr rfl, fun a H Q h q => ⟨a, xs, rfl, rfl, h, q⟩⟩
def putG (mo mi : EM) : GM := fun d s => (mo s).bind fun x => (mi x.2).bind fun y => match y.1 with
  | .int i => match celD y.2.o x.1 with
    | some (k, ds) => match ixN ds.length i with
      | some j => .ok ⟨y.2.r, y.2.o.set k (.lst (ds.set j d))⟩
      | none => .bad
    | none => .bad
  | _ => .bad
theorem rd_put {to ti : TE} {mo mi : EM} (ho : RdE C to mo) (hi : RdE C ti mi) : RdG C (gSub to ti rSetL) (putG mo mi) := by
  intro σ H F θ s d v Q b rd p
  refine ho σ H F θ s _ b (PoR.bind p ?_)
  rintro ⟨x, s1⟩ H1 F1 θ1 _ st1 p1 b1 ov r1
  refine hi σ H1 F1 θ1 s1 _ b1 (PoR.bind p1 ?_)
  rintro ⟨y, s2⟩ H2 F2 θ2 _ st2 p2 b2 iv r2
  dsimp only at p2 b2 r2
  split at p2
  · rename_i i _
    split at p2
    · rename_i k ds e
      obtain ⟨ek, e'⟩ := cel_eq e
      subst ek
      obtain ⟨a, xs, rfl, hk, hF, h1, h2⟩ := ptr_rep b2 (r1.mono st2.ff st2.pre) e'
      split at p2
      · rename_i j ej
        obtain ⟨st3, b3⟩ := b2.setC hk e' hF (Reps.set ((rd.mono st1.ff st1.pre).mono st2.ff st2.pre) j h2)
        exact ⟨a, xs, i, j, rfl, rep_int.mp r2, h1, by rw [h2.length]; exact ej, p2 _ _ _ st3 _ b3⟩
      · exact False.elim p2
    · exact False.elim p2
  · exact False.elim p2
theorem BS.frz {K : PySem.W.Frag} {ca : Nat → Addr} {σ : L2.St} {H F : Hp} {θ : List Addr} {s : S} (b : BS K ca σ H F θ s) {k : Nat} {a : Addr} {ds : List D} {xs : List V} (hk : θ[k]? = some a) (hc : s.o[k]? = some (.lst ds)) (hF : F a = none) (hH : H a = some (.lst xs)) (hr : Reps K ca θ F ds xs) :
    Stp H F θ H (upd F a (.lst xs)) θ ∧ BS K ca σ H (upd F a (.lst xs)) θ ⟨s.r, s.o.set k .dead⟩ ∧ Rep K ca θ (upd F a (.lst xs)) (.lst ds) (.ref a) := by
  have hm : a ∈ θ := List.mem_of_getElem? hk
  have sF : Same F (upd F a (.lst xs)) := fun e o he => by
    rw [upd_ne (fun z => by rw [z, hF] at he; cases he)]; exact he
  refine ⟨⟨sF, ⟨[], by simp, by simp⟩, fun e o he _ => he, fun e o he => ⟨o, he⟩, fun e o he => ?_⟩, ⟨⟨fun e o he => ?_, b.now.nd, by simpa using b.now.ln, fun j a' c' e1 e2 => ?_⟩, b.len, fun i d e => ?_⟩, ?_⟩
  · by_cases z : e = a
    · exact .inr (.inr (by rw [z]; exact hm))
    · rw [upd_ne z] at he; exact .inl he
  · by_cases z : e = a
    · subst z; rw [upd_same] at he; rw [hH]; exact he
    · rw [upd_ne z] at he; exact b.now.fh _ _ he
  · by_cases hj : k = j
    · subst hj
      rw [hk] at e1; cases e1
      have : k < s.o.length := (List.getElem?_eq_some_iff.mp hc).1
      rw [List.getElem?_set_self this] at e2
      cases e2
      exact ⟨_, hH⟩
    · rw [List.getElem?_set_ne hj] at e2
      have q := b.now.ce j a' c' e1 e2
      have ne : a' ≠ a := fun z => by
        subst z
        exact hj (nodup_at b.now.nd hk e1)
      cases c' with
      | dead => exact q
      | lst ds => obtain ⟨q1, ys, q2, q3⟩ := q; exact ⟨by rw [upd_ne ne]; exact q1, ys, q2, q3.mono sF ⟨[], by simp⟩⟩
      | ins c ns ds => obtain ⟨q1, dx, ys, q2, q3, q4⟩ := q; exact ⟨by rw [upd_ne ne]; exact q1, dx, ys, q2, q3, q4.mono sF ⟨[], by simp⟩⟩
  · obtain ⟨v, h1, h2⟩ := b.sl i d e
    exact ⟨v, h1, h2.mono sF ⟨[], by simp⟩⟩
  · unfold Rep
    exact ⟨a, xs, rfl, SqL.of upd_same, hr.mono sF ⟨[], by simp⟩⟩
def frzM (m : EM) : EM := fun s => (m s).bind fun x => match celD x.2.o x.1 with
  | some (k, ds) => .ok (.lst ds, ⟨x.2.r, x.2.o.set k .dead⟩)
  | none => .bad
theorem rd_frz {t : TE} {m : EM} (h : RdE C t m) : RdE C t (frzM m) := by
  intro σ H F θ s Q b p
  refine h σ H F θ s _ b (PoR.bind p ?_)
  rintro ⟨x, s1⟩ H1 F1 θ1 _ st1 p1 b1 v r1
  dsimp only at p1 b1 r1
  split at p1
  · rename_i k ds e
    obtain ⟨rfl, e'⟩ := cel_eq e
    obtain ⟨a, xs, rfl, hk, hF, h1, h2⟩ := ptr_rep b1 r1 e'
    obtain ⟨st2, b2, r2⟩ := b1.frz hk e' hF h1 h2
    exact p1 _ _ _ st2 b2 _ r2
  · exact False.elim p1
def capM (m : Nat) (caps : List Nat) (r : List (Option D)) : List (Option D) := List.replicate m none ++ caps.map fun i => (r[i]?).getD none
theorem bs_cap {K : PySem.W.Frag} {ca : Nat → Addr} {σ : L2.St} {H F : Hp} {θ : List Addr} {s : S} (b : BS K ca σ H F θ s) (m : Nat) (caps : List Nat) : BS K ca (capSt m caps σ) H F θ ⟨capM m caps s.r, s.o⟩ := by
  refine ⟨b.now, by unfold capSt capM; simp, fun i d e => ?_⟩
  unfold capM at e
  dsimp only at e
  by_cases hi : i < m
  · rw [List.getElem?_append_left (by simpa using hi), List.getElem?_replicate] at e
    split at e <;> cases e
  · rw [List.getElem?_append_right (by simpa using hi)] at e
    simp only [List.length_replicate, List.getElem?_map] at e
    cases q : caps[i - m]? with
    | none => rw [q] at e; cases e
    | some j =>
      rw [q] at e
      simp only [Option.map_some, Option.some.injEq] at e
      have e' : s.r[j]? = some (some d) := by
        cases z : s.r[j]? with
        | none => rw [z] at e; simp at e
        | some od => rw [z] at e; simp at e; rw [e]
      obtain ⟨v, h1, h2⟩ := b.sl j d e'
      refine ⟨v, ?_, h2⟩
      unfold capSt
      rw [List.getElem?_append_right (by simpa using hi)]
      simp only [List.length_replicate, List.getElem?_map, q, Option.map_some, h1, Option.getD_some]
def trueT : TM := fun s => .ok (true, s)
theorem rd_true : RdT C tTrue trueT := fun σ H F θ s Q b p => p H F θ .refl b
open Classical in
noncomputable def compGo (ok : Store → Prop) (g : GM) (c : TM) (e : EM) : List D → List D → S → Res (List D × S)
  | [], acc, s => if ok s.o then .ok (acc, s) else .bad
  | d :: ds, acc, s => if ok s.o ∧ acc.length < 16777216 then (g d s).bind fun s1 => (c s1).bind fun x => if x.1 then (e x.2).bind fun y => compGo ok g c e ds (acc ++ [y.1]) y.2 else compGo ok g c e ds acc x.2 else .bad
noncomputable def compM (m : Nat) (caps : List Nat) (im : IM) (g : GM) (c : TM) (e : EM) : S → Res (List D × S) := fun s => (im s).bind fun y =>
  (compGo (okC y.1.1 y.1.2) g c e y.1.1 [] ⟨capM m caps y.2.r, y.2.o⟩).bind fun z => .ok (z.1, ⟨y.2.r, z.2.o⟩)
theorem rd_comp0 {m : Nat} {caps : List Nat} {wi : TI} {g : TG} {tc : TT} {te : TE} {im : IM} {gm : GM} {c : TM} {e : EM} (hi : RdI C wi im) (hg : RdG C g gm) (hc : RdT C tc c) (he : RdE C te e)
    {σ : L2.St} {H F : Hp} {θ : List Addr} {s : S} {Q : VK} (b : BS C.K C.ca σ H F θ s)
    (p : PoR C H F θ (compM m caps im gm c e s) fun y H1 F1 θ1 => BS C.K C.ca σ H1 F1 θ1 y.2 → ∀ q xs, H q = none → H1 q = some (.lst xs) → F1 q = none → q ∉ θ1 → Reps C.K C.ca θ1 F1 y.1 xs → Q (.ref q) H1) : tComp m caps wi g tc te σ H Q := by
  refine hi σ H F θ s _ b (PoR.bind p ?_)
  rintro ⟨⟨ds, k⟩, s1⟩ H1 F1 θ1 _ st1 p1 b1 J it q hq
  dsimp only at p1 b1 it
  have st2 : Stp H1 F1 θ1 (upd H1 q (.lst [])) F1 θ1 := by
    have nm : ∀ a u, H1 a = some u → a ≠ q := fun a u e z => by rw [z, hq] at e; cases e
    exact ⟨Same.refl _, ⟨[], by simp, by simp⟩, fun a u h _ => by rw [upd_ne (nm a u h)]; exact h, fun a u h => ⟨u, by rw [upd_ne (nm a u h)]; exact h⟩, fun a u h => .inl h⟩
  have qθ : q ∉ θ1 := fun h => by obtain ⟨u, hu⟩ := b1.now.there h; rw [hq] at hu; cases hu
  have qF : F1 q = none := by
    cases e : F1 q with
    | none => rfl
    | some u => rw [b1.now.fh q u e] at hq; cases hq
  have hqH : H q = none := by
    cases e : H q with
    | none => rfl
    | some u => obtain ⟨u', e'⟩ := st1.al q u e; rw [hq] at e'; cases e'
  have keep : ∀ {H2 F2 H3 F3 : Hp} {θ2 θ3 : List Addr} {o : HO}, Stp H2 F2 θ2 H3 F3 θ3 → H2 q = some o → F2 q = none → q ∉ θ2 → H3 q = some o ∧ F3 q = none ∧ q ∉ θ3 := fun {H2 F2 H3 F3 θ2 θ3 o} st h1 h2 h3 => by
    refine ⟨st.kp q o h1 h3, ?_, ?_⟩
    · cases e : F3 q with
      | none => rfl
      | some u =>
        rcases st.nf q u e with z | z | z
        · rw [h2] at z; cases z
        · rw [h1] at z; cases z
        · exact absurd z h3
    · obtain ⟨r, rfl, hr⟩ := st.th
      intro hm
      rcases List.mem_append.mp hm with z | z
      · exact h3 z
      · rw [hr q z] at h1; cases h1
  have bs2 : ∀ {σ' : L2.St} {H2 F2 : Hp} {θ2 : List Addr} {s2 : S} (o : HO), BS C.K C.ca σ' H2 F2 θ2 s2 → F2 q = none → q ∉ θ2 → BS C.K C.ca σ' (upd H2 q o) F2 θ2 s2 := fun {σ' H2 F2 θ2 s2} o b h1 h2 => by
    have ne : ∀ a, a ∈ θ2 → a ≠ q := fun a h z => h2 (z ▸ h)
    refine ⟨⟨fun a u h => ?_, b.now.nd, b.now.ln, fun j a c e1 e2 => ?_⟩, b.len, b.sl⟩
    · have : a ≠ q := fun z => by rw [z, h1] at h; cases h
      rw [upd_ne this]; exact b.now.fh a u h
    · have hm := ne a (List.mem_of_getElem? e1)
      have w := b.now.ce j a c e1 e2
      cases c with
      | dead => obtain ⟨u, hu⟩ := w; exact ⟨u, by rw [upd_ne hm]; exact hu⟩
      | lst ds => obtain ⟨q1, ys, q2, q3⟩ := w; exact ⟨q1, ys, by rw [upd_ne hm]; exact q2, q3⟩
      | ins c ns ds => obtain ⟨q1, dx, ys, q2, q3, q4⟩ := w; exact ⟨q1, dx, ys, by rw [upd_ne hm]; exact q2, q3, q4⟩
  have stq : ∀ {H2 F2 : Hp} {θ2 : List Addr} (o : HO), Stp H1 F1 θ1 H2 F2 θ2 → Stp H1 F1 θ1 (upd H2 q o) F2 θ2 := fun {H2 F2 θ2} o st => by
    have nm : ∀ a u, H1 a = some u → a ≠ q := fun a u e z => by rw [z, hq] at e; cases e
    exact ⟨st.ff, st.th, fun a u h1 h2 => by rw [upd_ne (nm a u h1)]; exact st.kp a u h1 h2, fun a u h1 => by rw [upd_ne (nm a u h1)]; exact st.al a u h1, st.nf⟩
  refine ⟨fun i n acc σ' H' => n = ds.length - i ∧ i ≤ ds.length ∧ ∃ F' θ' s' as, Stp H1 F1 θ1 H' F' θ' ∧ H' q = some (.lst acc) ∧ F' q = none ∧ q ∉ θ' ∧ BS C.K C.ca σ' H' F' θ' s' ∧ Reps C.K C.ca θ' F' as acc ∧
      PoR C H1 F1 θ1 ((compGo (okC ds k) gm c e (ds.drop i) as s').bind fun z => .ok (z.1, (⟨s1.r, z.2.o⟩ : S))) (fun y H1 F1 θ1 => BS C.K C.ca σ H1 F1 θ1 y.2 → ∀ q xs, H q = none → H1 q = some (.lst xs) → F1 q = none → q ∉ θ1 → Reps C.K C.ca θ1 F1 y.1 xs → Q (.ref q) H1),
    ⟨ds.length, by simp, Nat.zero_le _, F1, θ1, ⟨capM m caps s1.r, s1.o⟩, [], st2, upd_same, qF, qθ, bs2 _ (bs_cap b1 m caps) qF qθ, Reps.nil, by simpa using p1⟩, ?_⟩
  rintro i n acc σ' H' ⟨rfl, hil, F', θ', s', as, st, hq', qF', qθ', bs, hacc, po⟩
  by_cases lt : i < ds.length
  · right
    rw [List.drop_eq_getElem_cons lt, compGo] at po
    split at po
    · rename_i hok
      refine ⟨it.go i H' F' θ' s'.o lt st bs.now hok.1, ?_⟩
      intro x H3 hy
      obtain ⟨F3, st3, b3, rp⟩ := it.yl i ds[i] σ' H' F' θ' s' x H3 (List.getElem?_eq_getElem lt) st bs hok.1 hy
      obtain ⟨k1, k2, k3⟩ := keep st3 hq' qF' qθ'
      have st13 := st.trans st3
      have po3 := PoR.after st13 po
      have w1 : PoG C H3 F3 θ' (gm ds[i] s') (fun σ4 H4 => tc σ4 H4 fun b H4 => if b = true then
          te σ4 H4 fun y H5 => H5 q = some (.lst acc) ∧ acc.length < sizeLine ∧ ∃ k', k' < ds.length - i ∧ (k' = ds.length - (i + 1) ∧ i + 1 ≤ ds.length ∧ ∃ F' θ' s' as, Stp H1 F1 θ1 (upd H5 q (.lst (acc ++ [y]))) F' θ' ∧ (upd H5 q (.lst (acc ++ [y]))) q = some (.lst (acc ++ [y])) ∧ F' q = none ∧ q ∉ θ' ∧ BS C.K C.ca σ4 (upd H5 q (.lst (acc ++ [y]))) F' θ' s' ∧ Reps C.K C.ca θ' F' as (acc ++ [y]) ∧
            PoR C H1 F1 θ1 ((compGo (okC ds k) gm c e (ds.drop (i + 1)) as s').bind fun z => .ok (z.1, (⟨s1.r, z.2.o⟩ : S))) (fun y H1 F1 θ1 => BS C.K C.ca σ H1 F1 θ1 y.2 → ∀ q xs, H q = none → H1 q = some (.lst xs) → F1 q = none → q ∉ θ1 → Reps C.K C.ca θ1 F1 y.1 xs → Q (.ref q) H1))
          else ∃ k', k' < ds.length - i ∧ (k' = ds.length - (i + 1) ∧ i + 1 ≤ ds.length ∧ ∃ F' θ' s' as, Stp H1 F1 θ1 H4 F' θ' ∧ H4 q = some (.lst acc) ∧ F' q = none ∧ q ∉ θ' ∧ BS C.K C.ca σ4 H4 F' θ' s' ∧ Reps C.K C.ca θ' F' as acc ∧
            PoR C H1 F1 θ1 ((compGo (okC ds k) gm c e (ds.drop (i + 1)) as s').bind fun z => .ok (z.1, (⟨s1.r, z.2.o⟩ : S))) (fun y H1 F1 θ1 => BS C.K C.ca σ H1 F1 θ1 y.2 → ∀ q xs, H q = none → H1 q = some (.lst xs) → F1 q = none → q ∉ θ1 → Reps C.K C.ca θ1 F1 y.1 xs → Q (.ref q) H1))) := by
        cases e1 : gm ds[i] s' with
        | bad => rw [e1] at po3; exact po3
        | exc a1 a2 a3 => rw [e1] at po3; exact po3
        | ok s4 =>
          rw [e1] at po
          intro H4 F4 θ4 st4 σ4 b4
          obtain ⟨l1, l2, l3⟩ := keep st4 k1 k2 k3
          refine hc σ4 H4 F4 θ4 s4 _ b4 ?_
          cases e2 : c s4 with
          | bad => rw [bind_ok, e2] at po; exact po
          | exc a1 a2 a3 => rw [bind_ok, e2] at po; exact PoR.after (st13.trans st4) po
          | ok x5 =>
            obtain ⟨kk, s5⟩ := x5
            rw [bind_ok, e2, bind_ok] at po
            intro H5 F5 θ5 st5 b5
            obtain ⟨m1, m2, m3⟩ := keep st5 l1 l2 l3
            have hacc5 := ((hacc.mono st3.ff st3.pre).mono st4.ff st4.pre).mono st5.ff st5.pre
            cases kk with
            | false =>
              exact iteF ⟨ds.length - (i + 1), by omega, rfl, by omega, F5, θ5, s5, as, st13.trans (st4.trans st5), m1, m2, m3, b5, hacc5, by simpa using po⟩
            | true =>
              refine iteT (he σ4 H5 F5 θ5 s5 _ b5 ?_)
              dsimp only [if_true] at po
              cases e3 : e s5 with
              | bad => rw [e3] at po; exact po
              | exc a1 a2 a3 => rw [e3] at po; exact PoR.after (st13.trans (st4.trans st5)) po
              | ok x6 =>
                obtain ⟨y, s6⟩ := x6
                rw [e3, bind_ok] at po
                intro H6 F6 θ6 st6 b6 w r6
                obtain ⟨n1, n2, n3⟩ := keep st6 m1 m2 m3
                exact ⟨n1, by rw [hacc.length]; exact hok.2, ds.length - (i + 1), by omega, rfl, by omega, F6, θ6, s6, as ++ [y], stq _ (st13.trans (st4.trans (st5.trans st6))), upd_same, n2, n3, bs2 _ b6 n2 n3, (hacc5.mono st6.ff st6.pre).append (Reps.one r6), po⟩
      exact hg σ' H3 F3 θ' s' ds[i] x _ b3 rp w1
    · exact False.elim po
  · left
    rw [List.drop_eq_nil_of_le (by omega), compGo] at po
    split at po
    · rename_i hok
      refine ⟨it.st i H' F' θ' s'.o (by omega) st bs.now hok, hq', ?_⟩
      refine po H' F' θ' st ⟨bs.now, b1.len, fun j d e => ?_⟩ q acc hqH hq' qF' qθ' hacc
      obtain ⟨v, h1, h2⟩ := b1.sl j d e
      exact ⟨v, h1, h2.mono st.ff st.pre⟩
    · exact False.elim po
noncomputable def compF (m : Nat) (caps : List Nat) (im : IM) (g : GM) (c : TM) (e : EM) : EM := fun s => (compM m caps im g c e s).bind fun y => .ok (.lst y.1, y.2)
theorem rd_comp {m : Nat} {caps : List Nat} {wi : TI} {g : TG} {tc : TT} {te : TE} {im : IM} {gm : GM} {c : TM} {e : EM} (hi : RdI C wi im) (hg : RdG C g gm) (hc : RdT C tc c) (he : RdE C te e) : RdE C (tComp m caps wi g tc te) (compF m caps im gm c e) := by
  intro σ H F θ s Q b p
  refine rd_comp0 hi hg hc he b ?_
  unfold compF at p
  cases e1 : compM m caps im gm c e s with
  | bad => rw [e1] at p; exact p
  | exc a1 a2 a3 => rw [e1] at p; exact p
  | ok y =>
    rw [e1, bind_ok] at p
    intro H1 F1 θ1 st1 b1 q xs h0 h1 h2 h3 hr
    have sF : Same F1 (upd F1 q (.lst xs)) := fun a u h => by
      rw [upd_ne (fun z => by rw [z, h2] at h; cases h)]; exact h
    refine p H1 (upd F1 q (.lst xs)) θ1 ⟨st1.ff.trans sF, st1.th, st1.kp, st1.al, fun a u h => ?_⟩ ⟨⟨fun a u h => ?_, b1.now.nd, b1.now.ln, fun j a c e2 e3 => ?_⟩, b1.len, fun i d e2 => ?_⟩ (.ref q) ?_
    · by_cases z : a = q
      · subst z; exact .inr (.inl h0)
      · rw [upd_ne z] at h; exact st1.nf a u h
    · by_cases z : a = q
      · subst z; rw [upd_same] at h; rw [h1]; exact h
      · rw [upd_ne z] at h; exact b1.now.fh a u h
    · have ne : a ≠ q := fun z => h3 (z ▸ List.mem_of_getElem? e2)
      have w := b1.now.ce j a c e2 e3
      cases c with
      | dead => exact w
      | lst ds => obtain ⟨q1, ys, q2, q3⟩ := w; exact ⟨by rw [upd_ne ne]; exact q1, ys, q2, q3.mono sF ⟨[], by simp⟩⟩
      | ins c ns ds => obtain ⟨q1, dx, ys, q2, q3, q4⟩ := w; exact ⟨by rw [upd_ne ne]; exact q1, dx, ys, q2, q3, q4.mono sF ⟨[], by simp⟩⟩
    · obtain ⟨v, w1, w2⟩ := b1.sl i d e2
      exact ⟨v, w1, w2.mono sF ⟨[], by simp⟩⟩
    · unfold Rep
      exact ⟨q, xs, rfl, SqL.of upd_same, hr.mono sF ⟨[], by simp⟩⟩
noncomputable def compC (m : Nat) (caps : List Nat) (im : IM) (g : GM) (c : TM) (e : EM) : EM := fun s => (compM m caps im g c e s).bind fun y => .ok (.ptr y.2.o.length, ⟨y.2.r, y.2.o ++ [.lst y.1]⟩)
theorem rd_compC {m : Nat} {caps : List Nat} {wi : TI} {g : TG} {tc : TT} {te : TE} {im : IM} {gm : GM} {c : TM} {e : EM} (hi : RdI C wi im) (hg : RdG C g gm) (hc : RdT C tc c) (he : RdE C te e) : RdE C (tComp m caps wi g tc te) (compC m caps im gm c e) := by
  intro σ H F θ s Q b p
  refine rd_comp0 hi hg hc he b ?_
  unfold compC at p
  cases e1 : compM m caps im gm c e s with
  | bad => rw [e1] at p; exact p
  | exc a1 a2 a3 => rw [e1] at p; exact p
  | ok y =>
    rw [e1, bind_ok] at p
    intro H1 F1 θ1 st1 b1 q xs h0 h1 h2 h3 hr
    obtain ⟨r, er, hr0⟩ := st1.th
    refine p H1 F1 (θ1 ++ [q]) ⟨st1.ff, ⟨r ++ [q], by rw [er, List.append_assoc], fun a ha => ?_⟩, st1.kp, st1.al, st1.nf⟩ ⟨⟨b1.now.fh, ?_, by simp [b1.now.ln], fun k a c e2 e3 => ?_⟩, b1.len, fun i d e2 => ?_⟩ (.ref q) ?_
    · rcases List.mem_append.mp ha with z | z
      · exact hr0 a z
      · rw [List.mem_singleton.mp z]; exact h0
    · refine List.nodup_append.mpr ⟨b1.now.nd, by simp, fun a ha x hx => ?_⟩
      rw [List.mem_singleton.mp hx]
      rintro rfl
      exact h3 ha
    · by_cases hk : k < θ1.length
      · rw [List.getElem?_append_left hk] at e2
        dsimp only at e3
        rw [List.getElem?_append_left (by rw [← b1.now.ln]; exact hk)] at e3
        have w := b1.now.ce k a c e2 e3
        cases c with
        | dead => exact w
        | lst ds => obtain ⟨q1, ys, q2, q3⟩ := w; exact ⟨q1, ys, q2, q3.mono (Same.refl _) ⟨[q], rfl⟩⟩
        | ins c ns ds => obtain ⟨q1, dx, ys, q2, q3, q4⟩ := w; exact ⟨q1, dx, ys, q2, q3, q4.mono (Same.refl _) ⟨[q], rfl⟩⟩
      · have hk1 : k < (θ1 ++ [q]).length := (List.getElem?_eq_some_iff.mp e2).1
        have hk2 : k = θ1.length := by simp at hk1; omega
        subst hk2
        rw [List.getElem?_append_right (Nat.le_refl _)] at e2
        dsimp only at e3
        rw [List.getElem?_append_right (by rw [b1.now.ln]; exact Nat.le_refl _), b1.now.ln] at e3
        simp at e2 e3
        subst e2; subst e3
        exact ⟨h2, xs, h1, hr.mono (Same.refl _) ⟨[q], rfl⟩⟩
    · obtain ⟨v, w1, w2⟩ := b1.sl i d e2
      exact ⟨v, w1, w2.mono (Same.refl _) ⟨[q], rfl⟩⟩
    · unfold Rep
      exact ⟨q, rfl, by rw [← b1.now.ln]; simp⟩
end
end M
set_option maxRecDepth 100000
set_option maxHeartbeats 4000000
namespace M
open PySem PySem.Spec PyProof.Rows L2
section
variable {C : Ct}
theorem po_cel {σ : L2.St} {H F : Hp} {θ : List Addr} {s : S} {ds : List D} {Q : VK} (p : PoE C σ H F θ (.ok (.ptr s.o.length, (⟨s.r, s.o ++ [.lst ds]⟩ : S))) Q) (b : BS C.K C.ca σ H F θ s) {xs : List V} (r : Reps C.K C.ca θ F ds xs) :
    ∀ q, H q = none → Q (.ref q) (upd H q (.lst xs)) := fun q hq => by
  obtain ⟨st, b2, rp⟩ := b.newC hq r
  exact p _ _ _ st b2 _ rp
def seqOf (O : Store) : D → Option (List D)
  | .tup ds => some ds
  | x => lsD O x
def listC (m : EM) : EM := fun s => (m s).bind fun x => match seqOf x.2.o x.1 with
  | some ds => .ok (.ptr x.2.o.length, ⟨x.2.r, x.2.o ++ [.lst ds]⟩)
  | none => .bad
theorem rd_listC {t : TE} {m : EM} (h : RdE C t m) : RdE C (tCB (fun xs H Q => ∃ p ys, xs = [.ref p] ∧ (SqL C.K H p ys ∨ SqT C.K H p ys) ∧ ∀ l, H l = none → Q (.ref l) (upd H l (.lst ys))) (tCons t tNil)) (listC m) := by
  intro σ H F θ s Q b p
  refine h σ H F θ s _ b (PoR.bind p ?_)
  rintro ⟨x, s1⟩ H1 F1 θ1 _ st1 p1 b1 v r1
  dsimp only at p1 b1 r1
  split at p1
  · rename_i ds e
    cases x with
    | tup es =>
      cases e
      obtain ⟨a, xs, rfl, hs, hr⟩ := tp_rep b1 r1
      exact ⟨a, xs, rfl, .inr hs, po_cel p1 b1 hr⟩
    | _ =>
      obtain ⟨a, xs, rfl, hs, hr⟩ := ls_rep b1 r1 e
      exact ⟨a, xs, rfl, .inl hs, po_cel p1 b1 hr⟩
  · exact False.elim p1
mutual
def shD (n : Nat) : D → D
  | .lst ds => .lst (shDs n ds)
  | .tup ds => .tup (shDs n ds)
  | .ptr k => .ptr (n + k)
  | .obj c ns ds => .obj c ns (shDs n ds)
  | .exn c => .exn c
  | .non => .non
  | .bl b => .bl b
  | .int i => .int i
  | .str x => .str x
def shDs (n : Nat) : List D → List D
  | [] => []
  | d :: ds => shD n d :: shDs n ds
end
def shC (n : Nat) : Cell → Cell
  | .dead => .dead
  | .lst ds => .lst (shDs n ds)
  | .ins c ns ds => .ins c ns (shDs n ds)
section
variable {K : PySem.W.Frag} {ca : Nat → Addr} {F : Hp} {θ θ1 : List Addr}
mutual
theorem sh_rep : ∀ {d : D} {v : V}, Rep K ca θ1 F d v → Rep K ca (θ ++ θ1) F (shD θ.length d) v
  | .non, _, h => by unfold shD; exact h
  | .bl _, _, h => by unfold shD; exact h
  | .int _, _, h => by unfold shD; exact h
  | .str _, _, h => by unfold shD; exact h
  | .lst ds, _, h => by
    unfold shD
    unfold Rep at h ⊢
    obtain ⟨a, xs, e, hs, hr⟩ := h
    exact ⟨a, xs, e, hs, shs_rep hr⟩
  | .tup ds, _, h => by
    unfold shD
    unfold Rep at h ⊢
    obtain ⟨a, xs, e, hs, hr⟩ := h
    exact ⟨a, xs, e, hs, shs_rep hr⟩
  | .ptr k, _, h => by
    unfold shD
    unfold Rep at h ⊢
    obtain ⟨a, e, hk⟩ := h
    exact ⟨a, e, by rw [List.getElem?_append_right (Nat.le_add_right _ _), Nat.add_sub_cancel_left]; exact hk⟩
  | .obj c ns ds, _, h => by
    unfold shD
    unfold Rep at h ⊢
    obtain ⟨a, dx, xs, e, ha, hl, hr⟩ := h
    exact ⟨a, dx, xs, e, ha, hl, shs_rep hr⟩
  | .exn c, _, h => by
    unfold shD
    unfold Rep at h ⊢
    exact h
theorem shs_rep : ∀ {ds : List D} {xs : List V}, Reps K ca θ1 F ds xs → Reps K ca (θ ++ θ1) F (shDs θ.length ds) xs
  | [], _, h => by unfold shDs; exact h
  | d :: ds, _, h => by
    unfold shDs
    unfold Reps at h ⊢
    obtain ⟨v, r, e, h1, h2⟩ := h
    exact ⟨v, r, e, sh_rep h1, shs_rep h2⟩
end
end
theorem BS.calledO {K : PySem.W.Frag} {ca : Nat → Addr} {σ : L2.St} {H F H1 F1 : Hp} {θ θ1 : List Addr} {s : S} {O1 : Store} (b : BS K ca σ H F θ s) (st : Stp H F [] H1 F1 θ1) (n : Now K ca H1 F1 θ1 O1) :
    Stp H F θ H1 F1 (θ ++ θ1) ∧ BS K ca σ H1 F1 (θ ++ θ1) ⟨s.r, s.o ++ O1.map (shC s.o.length)⟩ := by
  obtain ⟨st0, b0⟩ := b.called st n
  obtain ⟨r, er, hr⟩ := st.th
  rw [List.nil_append] at er
  subst er
  refine ⟨⟨st0.ff, ⟨θ1, rfl, hr⟩, st0.kp, st0.al, st0.nf⟩, ⟨⟨n.fh, List.nodup_append.mpr ⟨b.now.nd, n.nd, fun a ha x hx => ?_⟩, by simp [b.now.ln, n.ln], fun k a c e1 e2 => ?_⟩, b.len, fun i d e => ?_⟩⟩
  · rintro rfl
    obtain ⟨u, hu⟩ := b.now.there ha
    rw [hr a hx] at hu
    cases hu
  · by_cases hk : k < θ.length
    · rw [List.getElem?_append_left hk] at e1
      dsimp only at e2
      rw [List.getElem?_append_left (by rw [← b.now.ln]; exact hk)] at e2
      have w := b0.now.ce k a c e1 e2
      cases c with
      | dead => exact w
      | lst ds => obtain ⟨q1, ys, q2, q3⟩ := w; exact ⟨q1, ys, q2, q3.mono (Same.refl _) ⟨θ1, rfl⟩⟩
      | ins c ns ds => obtain ⟨q1, dx, ys, q2, q3, q4⟩ := w; exact ⟨q1, dx, ys, q2, q3, q4.mono (Same.refl _) ⟨θ1, rfl⟩⟩
    · rw [List.getElem?_append_right (by omega)] at e1
      dsimp only at e2
      rw [List.getElem?_append_right (by rw [← b.now.ln]; omega), List.getElem?_map, ← b.now.ln] at e2
      cases e3 : O1[k - θ.length]? with
      | none => rw [e3] at e2; cases e2
      | some c' =>
        rw [e3] at e2
        cases e2
        have w := n.ce _ a c' e1 e3
        cases c' with
        | dead => exact w
        | lst ds => obtain ⟨q1, ys, q2, q3⟩ := w; exact ⟨q1, ys, q2, shs_rep q3⟩
        | ins c ns ds => obtain ⟨q1, dx, ys, q2, q3, q4⟩ := w; exact ⟨q1, dx, ys, q2, q3, shs_rep q4⟩
  · obtain ⟨v, h1, h2⟩ := b0.sl i d e
    exact ⟨v, h1, h2.mono (Same.refl _) ⟨θ1, rfl⟩⟩
def callO (n : Nat) (f : FM) (ma : AM) : EM := fun s => (ma s).bind fun x => if pureDs x.1 = true ∧ x.1.length = n then (match f x.1 [] with
  | .ok (d, O1) => .ok (shD x.2.o.length d, ⟨x.2.r, x.2.o ++ O1.map (shC x.2.o.length)⟩)
  | _ => .bad) else .bad
theorem rd_callO {n : Nat} {f : FM} {ta : TA} {ma : AM} {E : XK} (ha : RdA C ta ma) : RdE C (tCall (spM C.K C.ca n f) [] E ta) (callO n f ma) := by
  intro σ H F θ s Q b p
  refine ha σ H F θ s _ b (PoR.bind p ?_)
  rintro ⟨x, s1⟩ H1 F1 θ1 _ st1 p1 b1 v r1
  dsimp only at p1 b1 r1 ⊢
  split at p1
  · rename_i hp
    rw [List.append_nil]
    refine ⟨F1, [], x, [], Now.nil b1.now.fh, r1.pure hp.1, hp.2, ?_⟩
    split at p1
    · rename_i d O1 e
      rw [e]
      intro v H2 F2 θ2 st2 n2 rv
      obtain ⟨st3, b3⟩ := b1.calledO st2 n2
      refine p1 H2 F2 _ st3 b3 v ?_
      rw [← b1.now.ln]
      exact sh_rep rv
    · exact False.elim p1
  · exact False.elim p1
def callV (n : Nat) (f : FM) (ma : AM) : EM := fun s => (ma s).bind fun x => if pureDs (ress x.2.o (ress x.2.o x.1)) = true ∧ x.1.length = n then (match f (ress x.2.o (ress x.2.o x.1)) [] with
  | .ok (d, _) => if scalD d = true then .ok (d, x.2) else .bad
  | _ => .bad) else .bad
theorem ress_length (O : Store) : ∀ ds : List D, (ress O ds).length = ds.length
  | [] => by unfold ress; rfl
  | d :: ds => by unfold ress; rw [List.length_cons, List.length_cons, ress_length O ds]
theorem rd_callV {n : Nat} {f : FM} {ta : TA} {ma : AM} {E : XK} (ha : RdA C ta ma) : RdE C (tCall (spM C.K C.ca n f) [] E ta) (callV n f ma) := by
  intro σ H F θ s Q b p
  refine ha σ H F θ s _ b (PoR.bind p ?_)
  rintro ⟨x, s1⟩ H1 F1 θ1 _ st1 p1 b1 v r1
  dsimp only at p1 b1 r1 ⊢
  split at p1
  · rename_i hp
    rw [List.append_nil]
    have rr : Reps C.K C.ca θ1 H1 (ress s1.o (ress s1.o x)) v := ress_rep b1.now b1.now.fh (Same.refl _) (ress_rep b1.now (Same.refl _) b1.now.fh r1)
    refine ⟨H1, [], ress s1.o (ress s1.o x), [], Now.nil (Same.refl _), rr.pure hp.1, by rw [ress_length, ress_length]; exact hp.2, ?_⟩
    split at p1
    · rename_i d O1 e
      rw [e]
      intro v H2 F2 θ2 st2 n2 rv
      split at p1
      · rename_i sd
        have kp : ∀ a o, H1 a = some o → H2 a = some o := fun a o h => st2.kp a o h (by simp)
        refine p1 H2 F1 θ1 ⟨Same.refl _, ⟨[], by simp, by simp⟩, fun a o h _ => kp a o h, st2.al, fun a o h => .inl h⟩ ⟨⟨fun a o h => kp a o (b1.now.fh a o h), b1.now.nd, b1.now.ln, fun k a c e1 e2 => ?_⟩, b1.len, b1.sl⟩ v (rv.scal sd)
        have w := b1.now.ce k a c e1 e2
        cases c with
        | dead => obtain ⟨o, ho⟩ := w; exact ⟨o, kp a o ho⟩
        | lst ds => obtain ⟨q1, ys, q2, q3⟩ := w; exact ⟨q1, ys, kp _ _ q2, q3⟩
        | ins c ns ds => obtain ⟨q1, dx, ys, q2, q3, q4⟩ := w; exact ⟨q1, dx, ys, kp _ _ q2, q3, q4⟩
      · exact False.elim p1
    · exact False.elim p1
  · exact False.elim p1
end
end M
set_option maxRecDepth 100000
set_option maxHeartbeats 4000000
namespace M
open PySem PySem.Spec PyProof.Rows L2
def DefAt (P : Program) (w : World) (K : PySem.W.Frag) (mg : Str → Option Value) (base : Heap) (ca : Nat → Addr) (lv : Nat) (x : Str) (ps : List Str) (f : FM) (a : Addr) (fd : FuncData) : Prop :=
  FnOk P w K mg base (CXE P w) lv a fd ps (spM K ca ps.length f) ∧ mg x = some (.ref a) ∧ PySem.W.keepIn K (.ref a) = true ∧ Binds K fd ps []
def DefIn (P : Program) (w : World) (K : PySem.W.Frag) (mg : Str → Option Value) (base : Heap) (ca : Nat → Addr) (lv : Nat) (x : Str) (ps : List Str) (f : FM) : Prop := ∃ a fd, DefAt P w K mg base ca lv x ps f a fd
theorem DefAt.in {P : Program} {w : World} {K : PySem.W.Frag} {mg : Str → Option Value} {base : Heap} {ca : Nat → Addr} {lv : Nat} {x : Str} {ps : List Str} {f : FM} {a : Addr} {fd : FuncData} (h : DefAt P w K mg base ca lv x ps f a fd) : DefIn P w K mg base ca lv x ps f := ⟨a, fd, h⟩
theorem reps_ints {K : PySem.W.Frag} {ca : Nat → Addr} {θ : List Addr} {F : Hp} : ∀ ns : List Int, Reps K ca θ F (ns.map D.int) (ns.map V.int)
  | [] => Reps.nil
  | _ :: ns => Reps.cons (rep_int.mpr rfl) (reps_ints ns)
theorem law_sp {K : PySem.W.Frag} {ca : Nat → Addr} {H : Hp} {a : Addr} {ns : List Int} {f : FM} {E : XK} (hS : SqL K H a (ns.map V.int)) (h : ∃ O, f [.lst (ns.map D.int)] [] = .ok (.bl true, O)) : spM K ca 1 f [.ref a] H (fun v _ => v = .bl true) E := by
  obtain ⟨O, h⟩ := h
  refine ⟨H, [], [.lst (ns.map D.int)], [], Now.nil (Same.refl _), Reps.one ?_, rfl, ?_⟩
  · unfold Rep
    exact ⟨a, ns.map V.int, rfl, hS, reps_ints ns⟩
  · rw [h]
    intro v H1 F1 θ1 _ _ r
    exact rep_bl.mp r
theorem dp_of {k : Nat} {A : Around} (hr : Room k A) (hk : 32 ≤ k) : A.depth + 100 < recursionLimit := by
  have := hr.dp
  omega
def gcdFuel (i : Nat) (s : S) : Nat := match s.r[i]? with
  | some (some (.int j)) => j.natAbs + 1
  | _ => 0
end M
set_option maxRecDepth 100000
set_option maxHeartbeats 4000000
namespace M
open PySem PySem.Spec PyProof.Rows L2
section
variable {C : Ct}
def zipD (as bs : List D) : List D := List.zipWith (fun a b => .tup [a, b]) as bs
def zipI (m : AM) : IM := fun s => (m s).bind fun x => match x.1 with
  | [.lst as, .lst bs] => .ok ((zipD as bs, none), x.2)
  | _ => .bad
theorem zipD_get {as bs : List D} {i : Nat} {d : D} (h : (zipD as bs)[i]? = some d) : ∃ x y, as[i]? = some x ∧ bs[i]? = some y ∧ d = .tup [x, y] := by
  unfold zipD at h
  rw [List.getElem?_zipWith] at h
  cases h1 : as[i]? with
  | none => rw [h1] at h; cases h
  | some x =>
    cases h2 : bs[i]? with
    | none => rw [h1, h2] at h; cases h
    | some y =>
      rw [h1, h2] at h
      cases h
      exact ⟨x, y, rfl, rfl, rfl⟩
theorem it_zip {a b : Addr} {xs ys : List V} {as bs : List D} {H F : Hp} {θ : List Addr} (h1 : SqL C.K F a xs) (h2 : SqL C.K F b ys) (r1 : Reps C.K C.ca θ F as xs) (r2 : Reps C.K C.ca θ F bs ys) :
    ItIs C (Itz C.K a b) (zipD as bs) (okC (zipD as bs) none) H F θ where
  go := fun i H2 F2 θ2 O2 hi st n _ => by
    obtain ⟨x, y, e1, e2, _⟩ := zipD_get (List.getElem?_eq_getElem hi)
    obtain ⟨v, q1, _⟩ := r1.get e1
    obtain ⟨w, q2, _⟩ := r2.get e2
    exact ⟨xs, ys, v, w, n.fh.seq (st.ff.seq h1), n.fh.seq (st.ff.seq h2), q1, q2⟩
  yl := fun i d σ H2 F2 θ2 s2 x H3 hd st b _ hy => by
    obtain ⟨T, v, w, hT, rfl, rfl, hv, hw⟩ := hy
    obtain ⟨x, y, e1, e2, rfl⟩ := zipD_get hd
    obtain ⟨v', q1, k1⟩ := r1.get e1
    obtain ⟨w', q2, k2⟩ := r2.get e2
    have := hv xs (b.now.fh.seq (st.ff.seq h1))
    rw [q1] at this
    cases this
    have := hw ys (b.now.fh.seq (st.ff.seq h2))
    rw [q2] at this
    cases this
    obtain ⟨st3, b3, sF, e3⟩ := b.newF hT (.tup [v, w])
    refine ⟨_, st3, b3, ?_⟩
    unfold Rep
    exact ⟨T, [v, w], rfl, SqT.of e3, Reps.cons ((k1.mono st.ff st.pre).mono st3.ff st3.pre) (Reps.one ((k2.mono st.ff st.pre).mono st3.ff st3.pre))⟩
  st := fun i H2 F2 θ2 O2 hi st n _ => by
    refine ⟨xs, ys, n.fh.seq (st.ff.seq h1), n.fh.seq (st.ff.seq h2), ?_⟩
    unfold zipD at hi
    rw [List.length_zipWith] at hi
    rw [r1.length, r2.length]
    omega
theorem rd_zip {ta : TA} {m : AM} (h : RdA C ta m) : RdI C (iZip C.K ta) (zipI m) := by
  intro σ H F θ s R b p
  refine h σ H F θ s _ b (PoR.bind p ?_)
  rintro ⟨x, s1⟩ H1 F1 θ1 _ st1 p1 b1 v r1
  dsimp only at p1 b1 r1
  split at p1
  · rename_i as bs
    obtain ⟨v1, v2, rfl, k1, k2⟩ := reps2 r1
    unfold Rep at k1 k2
    obtain ⟨a, xs, rfl, hs, hr⟩ := k1
    obtain ⟨b', ys, rfl, hs', hr'⟩ := k2
    exact ⟨a, b', rfl, ⟨xs, b1.now.fh.seq hs⟩, ⟨ys, b1.now.fh.seq hs'⟩, p1 _ _ _ .refl b1 _ (it_zip hs hs' hr hr')⟩
  · exact False.elim p1
def enumD (ds : List D) : List D := ds.mapIdx fun i d => .tup [.int (i : Nat), d]
def enumerateI (m : AM) : IM := fun s => (m s).bind fun x => match x.1 with
  | [.lst as] => .ok ((enumD as, none), x.2)
  | _ => .bad
theorem enumD_get {as : List D} {i : Nat} {d : D} (h : (enumD as)[i]? = some d) : ∃ x, as[i]? = some x ∧ d = .tup [.int (i : Nat), x] := by
  unfold enumD at h
  rw [List.getElem?_mapIdx] at h
  cases h1 : as[i]? with
  | none => rw [h1] at h; cases h
  | some x =>
    rw [h1] at h
    cases h
    exact ⟨x, rfl, rfl⟩
theorem it_enum {a : Addr} {xs : List V} {as : List D} {H F : Hp} {θ : List Addr} (h1 : SqL C.K F a xs) (r1 : Reps C.K C.ca θ F as xs) : ItIs C (Ite C.K a) (enumD as) (okC (enumD as) none) H F θ where
  go := fun i H2 F2 θ2 O2 hi st n _ => by
    obtain ⟨x, e1, _⟩ := enumD_get (List.getElem?_eq_getElem hi)
    obtain ⟨v, q1, _⟩ := r1.get e1
    exact ⟨xs, v, n.fh.seq (st.ff.seq h1), q1⟩
  yl := fun i d σ H2 F2 θ2 s2 x H3 hd st b _ hy => by
    obtain ⟨T, v, hT, rfl, rfl, hv⟩ := hy
    obtain ⟨x, e1, rfl⟩ := enumD_get hd
    obtain ⟨v', q1, k1⟩ := r1.get e1
    have := hv xs (b.now.fh.seq (st.ff.seq h1))
    rw [q1] at this
    cases this
    obtain ⟨st3, b3, sF, e3⟩ := b.newF hT (.tup [.int (i : Nat), v])
    refine ⟨_, st3, b3, ?_⟩
    unfold Rep
    exact ⟨T, [.int (i : Nat), v], rfl, SqT.of e3, Reps.cons (rep_int.mpr rfl) (Reps.one ((k1.mono st.ff st.pre).mono st3.ff st3.pre))⟩
  st := fun i H2 F2 θ2 O2 hi st n _ => by
    refine ⟨xs, n.fh.seq (st.ff.seq h1), ?_⟩
    unfold enumD at hi
    rw [List.length_mapIdx] at hi
    rw [r1.length]
    exact hi
theorem rd_enumerate {ta : TA} {m : AM} (h : RdA C ta m) : RdI C (iEnum C.K ta) (enumerateI m) := by
  intro σ H F θ s R b p
  refine h σ H F θ s _ b (PoR.bind p ?_)
  rintro ⟨x, s1⟩ H1 F1 θ1 _ st1 p1 b1 v r1
  dsimp only at p1 b1 r1
  split at p1
  · rename_i as
    obtain ⟨v1, rfl, k1⟩ := reps1 r1
    unfold Rep at k1
    obtain ⟨a, xs, rfl, hs, hr⟩ := k1
    exact ⟨a, rfl, ⟨xs, b1.now.fh.seq hs⟩, p1 _ _ _ .refl b1 _ (it_enum hs hr)⟩
  · exact False.elim p1
def signsD (x : Str) : List D := x.cps.toList.map fun c => .str ⟨#[c]⟩
def strI (m : EM) : IM := fun s => (m s).bind fun x => match x.1 with
  | .str z => .ok ((signsD z, none), x.2)
  | _ => .bad
def asInts : List D → Option (List Int)
  | [] => some []
  | .int i :: r => (asInts r).map (i :: ·)
  | _ => none
def asBools : List D → Option (List Bool)
  | [] => some []
  | .bl i :: r => (asBools r).map (i :: ·)
  | _ => none
theorem asInts_rep {K : PySem.W.Frag} {ca : Nat → Addr} {θ : List Addr} {F : Hp} : ∀ {ds : List D} {ns : List Int} {xs : List V}, asInts ds = some ns → Reps K ca θ F ds xs → xs = ns.map V.int
  | [], ns, xs, e, r => by cases e; unfold Reps at r; rw [r]; rfl
  | d :: ds, ns, xs, e, r => by
    cases d <;> first | (cases e; done) | skip
    rename_i i
    unfold asInts at e
    cases e2 : asInts ds with
    | none => rw [e2] at e; cases e
    | some ms =>
      rw [e2] at e
      cases e
      unfold Reps at r
      obtain ⟨v, w, rfl, h1, h2⟩ := r
      rw [asInts_rep e2 h2, rep_int.mp h1]; rfl
theorem asBools_rep {K : PySem.W.Frag} {ca : Nat → Addr} {θ : List Addr} {F : Hp} : ∀ {ds : List D} {ns : List Bool} {xs : List V}, asBools ds = some ns → Reps K ca θ F ds xs → xs = ns.map V.bl
  | [], ns, xs, e, r => by cases e; unfold Reps at r; rw [r]; rfl
  | d :: ds, ns, xs, e, r => by
    cases d <;> first | (cases e; done) | skip
    rename_i i
    unfold asBools at e
    cases e2 : asBools ds with
    | none => rw [e2] at e; cases e
    | some ms =>
      rw [e2] at e
      cases e
      unfold Reps at r
      obtain ⟨v, w, rfl, h1, h2⟩ := r
      rw [asBools_rep e2 h2, rep_bl.mp h1]; rfl
def ofInts (f : List Int → D) : OpN := fun O xs => match xs with
  | [x] => match lsD O x with
    | some ds => match asInts ds with
      | some ns => .ok (f ns)
      | none => .bad
    | none => .bad
  | _ => .bad
def ofBools (f : List Bool → D) : OpN := fun O xs => match xs with
  | [x] => match lsD O x with
    | some ds => match asBools ds with
      | some ns => .ok (f ns)
      | none => .bad
    | none => .bad
  | _ => .bad
def sumD : OpN := ofInts fun ns => .int ns.sum
def allD : OpN := ofBools fun bs => .bl (bs.all id)
def anyD : OpN := ofBools fun bs => .bl (bs.any id)
theorem rd_ofInts {f : List Int → D} {g : List Int → V} (h : ∀ K ca θ F ns, Rep K ca θ F (f ns) (g ns)) : RdCall C (fun xs H Q => ∃ (p : Addr) (ns : List Int), xs = [.ref p] ∧ SqL C.K H p (ns.map V.int) ∧ Q (g ns) H) (ofInts f) := by
  intro σ H F θ s xs vs Q b r p
  unfold ofInts at p
  split at p
  · obtain ⟨v, rfl, r1⟩ := reps1 r
    split at p
    · rename_i ds e
      obtain ⟨a, ys, rfl, hs, hr⟩ := ls_rep b r1 e
      split at p
      · rename_i ns e2
        have := asInts_rep e2 hr
        subst this
        exact ⟨a, ns, rfl, hs, po_val p b (h ..)⟩
      · exact False.elim p
    · exact False.elim p
  · exact False.elim p
theorem rd_ofBools {f : List Bool → D} {g : List Bool → V} (h : ∀ K ca θ F ns, Rep K ca θ F (f ns) (g ns)) : RdCall C (fun xs H Q => ∃ (p : Addr) (ns : List Bool), xs = [.ref p] ∧ SqL C.K H p (ns.map V.bl) ∧ Q (g ns) H) (ofBools f) := by
  intro σ H F θ s xs vs Q b r p
  unfold ofBools at p
  split at p
  · obtain ⟨v, rfl, r1⟩ := reps1 r
    split at p
    · rename_i ds e
      obtain ⟨a, ys, rfl, hs, hr⟩ := ls_rep b r1 e
      split at p
      · rename_i ns e2
        have := asBools_rep e2 hr
        subst this
        exact ⟨a, ns, rfl, hs, po_val p b (h ..)⟩
      · exact False.elim p
    · exact False.elim p
  · exact False.elim p
theorem rd_sum : RdCall C (fun xs H Q => ∃ (p : Addr) (ns : List Int), xs = [.ref p] ∧ SqL C.K H p (ns.map V.int) ∧ Q (.int ns.sum) H) sumD := rd_ofInts fun _ _ _ _ _ => rep_int.mpr rfl
theorem rd_all : RdCall C (fun xs H Q => ∃ (p : Addr) (bs : List Bool), xs = [.ref p] ∧ SqL C.K H p (bs.map V.bl) ∧ Q (.bl (bs.all id)) H) allD := rd_ofBools fun _ _ _ _ _ => rep_bl.mpr rfl
def nonB : D → Bool
  | .non => true
  | _ => false
def isD : Op2 := fun _ x y => match x, y with
  | .bl a, .bl b => .ok (.bl (a == b))
  | x, .non => .ok (.bl (nonB x))
  | _, _ => .bad
def isnotD : Op2 := fun _ x y => match y with
  | .non => .ok (.bl (!nonB x))
  | _ => .bad
def chainM (f g : Op2) (a b c : EM) : EM := fun s => (a s).bind fun x => (b x.2).bind fun y => (f y.2.o x.1 y.1).bind fun z => match z with
  | .bl true => (c y.2).bind fun w => (g w.2.o y.1 w.1).bind fun d => .ok (d, w.2)
  | .bl false => .ok (.bl false, y.2)
  | _ => .bad
def orD : Op2 := intD fun i j => .ok (.int (Builtin.bitOr i j))
theorem rd_bor : RdOp C (rI0 fun i j => .int (Builtin.bitOr i j)) orD := rd_rI0 fun _ _ _ _ _ _ => rep_int.mpr rfl
theorem Reps.erase {K : PySem.W.Frag} {ca : Nat → Addr} {θ : List Addr} {F : Hp} : ∀ {ds : List D} {xs : List V} (i : Nat), Reps K ca θ F ds xs → Reps K ca θ F (ds.eraseIdx i) (xs.eraseIdx i)
  | [], _, _, k => by unfold Reps at k; rw [k]; exact Reps.nil
  | _ :: _, _, 0, k => by
    unfold Reps at k
    obtain ⟨v, r, rfl, h1, h2⟩ := k
    exact h2
  | _ :: _, _, i + 1, k => by
    unfold Reps at k
    obtain ⟨v, r, rfl, h1, h2⟩ := k
    exact Reps.cons h1 (Reps.erase i h2)
def callS (n : Nat) (f : FM) (ma : AM) : EM := fun s => (ma s).bind fun x => if x.1.length = n then (match f x.1 x.2.o with
  | .ok (d, O1) => .ok (d, ⟨x.2.r, O1⟩)
  | _ => .bad) else .bad
theorem rd_callS {n : Nat} {f : FM} {ta : TA} {ma : AM} {E : XK} (ha : RdA C ta ma) : RdE C (tCall (spM C.K C.ca n f) [] E ta) (callS n f ma) := by
  intro σ H F θ s Q b p
  refine ha σ H F θ s _ b (PoR.bind p ?_)
  rintro ⟨x, s1⟩ H1 F1 θ1 _ st1 p1 b1 v r1
  dsimp only at p1 b1 r1 ⊢
  split at p1
  · rename_i hp
    rw [List.append_nil]
    refine ⟨F1, θ1, x, s1.o, b1.now, r1, hp, ?_⟩
    split at p1
    · rename_i d O1 e
      rw [e]
      intro v H2 F2 θ2 st2 n2 rv
      exact p1 H2 F2 θ2 st2 ⟨n2, b1.len, fun i d e => by
        obtain ⟨v, h1, h2⟩ := b1.sl i d e
        exact ⟨v, h1, h2.mono st2.ff st2.pre⟩⟩ v rv
    · exact False.elim p1
  · exact False.elim p1
def repL (k : Int) (ds : List D) : List D := (List.replicate k.toNat ds).flatten
def repM (fin : S → List D → Res (D × S)) (ma : AM) (mk : EM) : EM := fun s => (ma s).bind fun x => if x.1.length ≤ 16777216 then (mk x.2).bind fun y => match y.1 with
    | .int k => if (-(2 ^ 63) ≤ k ∧ k < 2 ^ 63) ∧ x.1.length * k.toNat ≤ 16777216 then fin y.2 (repL k x.1) else .bad
    | _ => .bad
  else .bad
def finF : S → List D → Res (D × S) := fun s ds => .ok (.lst ds, s)
def finC : S → List D → Res (D × S) := fun s ds => .ok (.ptr s.o.length, ⟨s.r, s.o ++ [.lst ds]⟩)
theorem rep_flat {K ca θ F} {ds : List D} {xs : List V} (r : Reps K ca θ F ds xs) : ∀ k : Nat, Reps K ca θ F (List.replicate k ds).flatten (List.replicate k xs).flatten
  | 0 => Reps.nil
  | k + 1 => by
    rw [List.replicate_succ, List.replicate_succ, List.flatten_cons, List.flatten_cons]
    exact r.append (rep_flat r k)
theorem rd_rep {fin : S → List D → Res (D × S)} {ta : TA} {tk : TE} {ma : AM} {mk : EM} (ha : RdA C ta ma) (hk : RdE C tk mk)
    (hf : ∀ σ H F θ s ds xs Q, BS C.K C.ca σ H F θ s → Reps C.K C.ca θ F ds xs → PoE C σ H F θ (fin s ds) Q → ∀ q, H q = none → Q (.ref q) (upd H q (.lst xs))) : RdE C (tOp rRep (tLst ta) tk) (repM fin ma mk) := by
  intro σ H F θ s Q b p
  refine ha σ H F θ s _ b (PoR.bind p ?_)
  rintro ⟨x, s1⟩ H1 F1 θ1 _ st1 p1 b1 v r1
  dsimp only at p1
  split at p1
  · rename_i hl
    refine ⟨by rw [r1.length]; exact hl, fun q hq => ?_⟩
    obtain ⟨st, b2, sF, e⟩ := b1.newF hq (.lst v)
    refine hk σ _ _ _ s1 _ b2 (PoR.bind (PoR.after st p1) ?_)
    rintro ⟨y, s2⟩ H2 F2 θ2 _ st2 p2 b3 w r2
    dsimp only at p2 r2
    split at p2
    · rename_i k _
      split at p2
      · rename_i hk
        rw [rep_int.mp r2]
        refine ⟨q, k, v, rfl, rfl, b3.now.fh _ _ (st2.ff _ _ e), hk.1.1, hk.1.2, by rw [r1.length]; exact hk.2, ?_⟩
        exact hf σ H2 F2 θ2 s2 _ _ Q b3 (rep_flat (((r1.mono sF ⟨[], by simp⟩).mono st2.ff st2.pre)) k.toNat) p2
      · exact False.elim p2
    · exact False.elim p2
  · exact False.elim p1
theorem rd_repC {ta : TA} {tk : TE} {ma : AM} {mk : EM} (ha : RdA C ta ma) (hk : RdE C tk mk) : RdE C (tOp rRep (tLst ta) tk) (repM finC ma mk) := rd_rep ha hk fun σ H F θ s ds xs Q b r p => po_cel p b r
def truM (m : EM) : TM := fun s => (m s).bind fun x => match lsD x.2.o x.1 with
  | some ds => .ok (!ds.isEmpty, x.2)
  | none => .bad
end
end M
set_option maxRecDepth 100000
set_option maxHeartbeats 4000000
namespace M
open PySem PySem.Spec PyProof.Rows L2
section
variable {C : Ct}
theorem Reps.places {K : PySem.W.Frag} {ca : Nat → Addr} {θ : List Addr} {F : Hp} {ds : List D} {xs : List V} (r : Reps K ca θ F ds xs) : ∀ js : List Nat, Reps K ca θ F (js.filterMap (ds[·]?)) (js.filterMap (xs[·]?))
  | [] => Reps.nil
  | j :: js => by
    have ih := Reps.places r js
    cases hn : ds[j]? with
    | some d =>
      obtain ⟨v, hv, rv⟩ := r.get hn
      simp only [List.filterMap_cons, hn, hv]
      exact Reps.cons rv ih
    | none =>
      have hv : xs[j]? = none := by
        rw [List.getElem?_eq_none_iff] at hn ⊢
        rw [r.length]; exact hn
      simp only [List.filterMap_cons, hn, hv]
      exact ih
end
end M
set_option maxRecDepth 100000
set_option maxHeartbeats 4000000
namespace M
open PySem PySem.Spec PyProof.Rows L2
section
variable {C : Ct}
end
end M
set_option maxRecDepth 100000
set_option maxHeartbeats 4000000
namespace M
open PySem PySem.Spec PyProof.Rows L2
section
variable {C : Ct}
end
end M
set_option maxRecDepth 100000
set_option maxHeartbeats 4000000
namespace M
open PySem PySem.Spec PyProof.Rows L2
section
variable {C : Ct}
theorem reps_intsV {K : PySem.W.Frag} {ca : Nat → Addr} {θ : List Addr} {F : Hp} : ∀ {zs : List Int} {xs : List V}, Reps K ca θ F (zs.map D.int) xs → xs = zs.map V.int
  | [], xs, h => by unfold Reps at h; exact h
  | z :: zs, xs, h => by
    rw [List.map_cons] at h
    unfold Reps at h
    obtain ⟨v, r, rfl, h1, h2⟩ := h
    rw [rep_int.mp h1, reps_intsV h2]; rfl
end
end M
set_option maxRecDepth 100000
set_option maxHeartbeats 4000000
namespace M
open PySem PySem.Spec PyProof.Rows L2
section
variable {C : Ct}
end
end M
set_option maxRecDepth 100000
set_option maxHeartbeats 4000000
namespace M
open PySem PySem.Spec PyProof.Rows L2
section
variable {K : PySem.W.Frag} {ca : Nat → Addr} {θ : List Addr} {F G : Hp}
end
section
variable {C : Ct}
end
section
variable {C : Ct}
end
end M
set_option maxRecDepth 100000
set_option maxHeartbeats 4000000
namespace M
open PySem PySem.Spec PyProof.Rows L2
section
variable {C : Ct} {Es : L2.St → XK}
end
theorem passN {P : Program} {w : World} {X : Cx} : Passes (CXE P w) X E0 := fun _ _ _ _ _ _ _ ⟨_, _, _, _, _, _, _, _, _, z⟩ => z.elim
end M
set_option maxRecDepth 100000
set_option maxHeartbeats 4000000
namespace M
open PySem PySem.Spec PyProof.Rows L2
section
variable {C : Ct}
end
end M
set_option maxRecDepth 100000
set_option maxHeartbeats 4000000
namespace M
open PySem PySem.Spec PyProof.Rows L2
def flatD : D → Bool
  | .non => true | .bl _ => true | .int _ => true | .str _ => true | .ptr _ => true | _ => false
def flatC : Cell → Bool
  | .dead => true
  | .lst ds => ds.all flatD
  | _ => false
theorem flat_rep {K : PySem.W.Frag} {ca : Nat → Addr} {F G : Hp} {θ θ1 : List Addr} {d : D} {v : V} (h : flatD d = true) (r : Rep K ca θ1 F d v) : Rep K ca (θ ++ θ1) G (shD θ.length d) v := by
  cases d with
  | non => unfold shD; unfold Rep at r ⊢; exact r
  | bl b => unfold shD; unfold Rep at r ⊢; exact r
  | int i => unfold shD; unfold Rep at r ⊢; exact r
  | str z => unfold shD; unfold Rep at r ⊢; exact r
  | ptr k =>
    unfold shD
    unfold Rep at r ⊢
    obtain ⟨a, e, hk⟩ := r
    exact ⟨a, e, by rw [List.getElem?_append_right (Nat.le_add_right _ _), Nat.add_sub_cancel_left]; exact hk⟩
  | lst ds => cases h
  | tup ds => cases h
  | obj c ns ds => cases h
  | exn c => cases h
theorem flats_rep {K : PySem.W.Frag} {ca : Nat → Addr} {F G : Hp} {θ θ1 : List Addr} : ∀ {ds : List D} {xs : List V}, ds.all flatD = true → Reps K ca θ1 F ds xs → Reps K ca (θ ++ θ1) G (shDs θ.length ds) xs
  | [], _, _, h => by unfold shDs; unfold Reps at h ⊢; exact h
  | d :: ds, _, hf, h => by
    rw [List.all_cons, Bool.and_eq_true] at hf
    unfold shDs
    unfold Reps at h ⊢
    obtain ⟨v, r, e, h1, h2⟩ := h
    exact ⟨v, r, e, flat_rep hf.1 h1, flats_rep hf.2 h2⟩
section
variable {C : Ct}
def callN (n : Nat) (f : FM) (ma : AM) : EM := fun s => (ma s).bind fun x => if pureDs (ress x.2.o (ress x.2.o x.1)) = true ∧ x.1.length = n then (match f (ress x.2.o (ress x.2.o x.1)) [] with
  | .ok (d, O1) => if flatD d = true ∧ O1.all flatC = true then .ok (shD x.2.o.length d, ⟨x.2.r, x.2.o ++ O1.map (shC x.2.o.length)⟩) else .bad
  | _ => .bad) else .bad
theorem rd_callN {n : Nat} {f : FM} {ta : TA} {ma : AM} {E : XK} (ha : RdA C ta ma) : RdE C (tCall (spM C.K C.ca n f) [] E ta) (callN n f ma) := by
  intro σ H F θ s Q b p
  refine ha σ H F θ s _ b (PoR.bind p ?_)
  rintro ⟨x, s1⟩ H1 F1 θ1 _ st1 p1 b1 v r1
  dsimp only at p1 b1 r1 ⊢
  split at p1
  · rename_i hp
    rw [List.append_nil]
    have rr : Reps C.K C.ca θ1 H1 (ress s1.o (ress s1.o x)) v := ress_rep b1.now b1.now.fh (Same.refl _) (ress_rep b1.now (Same.refl _) b1.now.fh r1)
    refine ⟨H1, [], ress s1.o (ress s1.o x), [], Now.nil (Same.refl _), rr.pure hp.1, by rw [ress_length, ress_length]; exact hp.2, ?_⟩
    split at p1
    · rename_i d O1 e
      rw [e]
      intro v H2 F2 θ2 st2 n2 rv
      split at p1
      · rename_i sd
        have kp : ∀ a o, H1 a = some o → H2 a = some o := fun a o h => st2.kp a o h (by simp)
        obtain ⟨r, er, hr⟩ := st2.th
        rw [List.nil_append] at er
        subst er
        refine p1 H2 F1 (θ1 ++ θ2) ⟨Same.refl _, ⟨θ2, rfl, hr⟩, fun a o h _ => kp a o h, st2.al, fun a o h => .inl h⟩ ⟨⟨fun a o h => kp a o (b1.now.fh a o h), List.nodup_append.mpr ⟨b1.now.nd, n2.nd, fun a ha x hx => ?_⟩, by simp [b1.now.ln, n2.ln], fun k a c e1 e2 => ?_⟩, b1.len, fun i d e => ?_⟩ v ?_
        · rintro rfl
          obtain ⟨u, hu⟩ := b1.now.there ha
          rw [hr a hx] at hu
          cases hu
        · by_cases hk : k < θ1.length
          · rw [List.getElem?_append_left hk] at e1
            dsimp only at e2
            rw [List.getElem?_append_left (by rw [← b1.now.ln]; exact hk)] at e2
            have w := b1.now.ce k a c e1 e2
            cases c with
            | dead => obtain ⟨o, ho⟩ := w; exact ⟨o, kp a o ho⟩
            | lst ds => obtain ⟨q1, ys, q2, q3⟩ := w; exact ⟨q1, ys, kp _ _ q2, q3.mono (Same.refl _) ⟨θ2, rfl⟩⟩
            | ins c ns ds => obtain ⟨q1, dx, ys, q2, q3, q4⟩ := w; exact ⟨q1, dx, ys, kp _ _ q2, q3, q4.mono (Same.refl _) ⟨θ2, rfl⟩⟩
          · rw [List.getElem?_append_right (by omega)] at e1
            dsimp only at e2
            rw [List.getElem?_append_right (by rw [← b1.now.ln]; omega), List.getElem?_map, ← b1.now.ln] at e2
            cases e3 : O1[k - θ1.length]? with
            | none => rw [e3] at e2; cases e2
            | some c' =>
              rw [e3] at e2
              cases e2
              have w := n2.ce _ a c' e1 e3
              have fc : flatC c' = true := (List.all_eq_true.mp sd.2) c' (List.mem_of_getElem? e3)
              have hF1 : F1 a = none := by
                cases ea : F1 a with
                | none => rfl
                | some o =>
                  have h1 := b1.now.fh a o ea
                  have h2 := hr a (List.mem_of_getElem? e1)
                  rw [h2] at h1; cases h1
              cases c' with
              | dead => exact w
              | lst ds => obtain ⟨q1, ys, q2, q3⟩ := w; exact ⟨hF1, ys, q2, flats_rep fc q3⟩
              | ins c ns ds => cases fc
        · obtain ⟨v, h1, h2⟩ := b1.sl i d e
          exact ⟨v, h1, h2.mono (Same.refl _) ⟨θ2, rfl⟩⟩
        · rw [← b1.now.ln]
          exact flat_rep sd.1 rv
      · exact False.elim p1
    · exact False.elim p1
  · exact False.elim p1
end
end M
set_option maxRecDepth 100000
set_option maxHeartbeats 4000000
namespace M
open PySem PySem.Spec PyProof.Rows L2
section
variable {C : Ct}
end
end M
set_option maxRecDepth 100000
set_option maxHeartbeats 4000000
namespace M
open PySem PySem.Spec PyProof.Rows L2
section
variable {C : Ct}
end
end M
set_option maxRecDepth 100000
set_option maxHeartbeats 1000000
namespace M
open PySem PySem.Spec PyProof.Rows L2
section
variable {C : Ct}
def toInts : List D → Option (List Int)
  | [] => some []
  | .int i :: r => match toInts r with
    | some l => some (i :: l)
    | none => none
  | _ => none
theorem toInts_eq : ∀ {ds : List D} {ns : List Int}, toInts ds = some ns → ds = ns.map D.int
  | [], ns, h => by cases h; rfl
  | d :: ds, ns, h => by
    cases d <;> first | (simp [toInts] at h; done) | skip
    rename_i i
    unfold toInts at h
    split at h
    · rename_i l e
      cases h
      rw [toInts_eq e]; rfl
    · cases h
theorem toInts_map : ∀ ns : List Int, toInts (ns.map D.int) = some ns
  | [] => rfl
  | n :: ns => by
    rw [List.map_cons]
    unfold toInts
    rw [toInts_map ns]
def cellI (O : Store) (d : D) : Option (List Int) := match lsD O d with
  | some ds => toInts ds
  | none => none
theorem cellI_rep {σ : L2.St} {H F : Hp} {θ : List Addr} {s : S} {d : D} {ns : List Int} {v : V} (b : BS C.K C.ca σ H F θ s) (r : Rep C.K C.ca θ F d v) (e : cellI s.o d = some ns) : ∃ a, v = .ref a ∧ SqL C.K H a (ns.map V.int) := by
  unfold cellI at e
  split at e
  · rename_i ds el
    obtain ⟨a, xs, rfl, hs, hr⟩ := ls_rep b r el
    rw [toInts_eq e] at hr
    rw [reps_intsV hr] at hs
    exact ⟨a, rfl, hs⟩
  · cases e
def keyed (O : Store) : List D → Option (List (D × List Int))
  | [] => some []
  | d :: ds => match cellI O d, keyed O ds with
    | some ns, some r => some ((d, ns) :: r)
    | _, _ => none
theorem keyed_rep {σ : L2.St} {H F : Hp} {θ : List Addr} {s : S} (b : BS C.K C.ca σ H F θ s) : ∀ {ds : List D} {kd : List (D × List Int)} {xs : List V}, keyed s.o ds = some kd → Reps C.K C.ca θ F ds xs →
    ∃ l3 : List ((Addr × D) × List Int), kd = l3.map (fun x => (x.1.2, x.2)) ∧ xs = l3.map (fun x => V.ref x.1.1) ∧ ∀ x ∈ l3, SqL C.K H x.1.1 (x.2.map V.int) ∧ Rep C.K C.ca θ F x.1.2 (.ref x.1.1)
  | [], kd, xs, e, r => by
    cases e
    unfold Reps at r
    subst r
    exact ⟨[], rfl, rfl, fun x hx => by cases hx⟩
  | d :: ds, kd, xs, e, r => by
    unfold keyed at e
    split at e
    · rename_i ns k2 e1 e2
      cases e
      unfold Reps at r
      obtain ⟨v, xs', rfl, h1, h2⟩ := r
      obtain ⟨a, rfl, hs⟩ := cellI_rep b h1 e1
      obtain ⟨l3, q1, q2, q3⟩ := keyed_rep b e2 h2
      refine ⟨((a, d), ns) :: l3, by rw [q1]; rfl, by rw [q2]; rfl, fun x hx => ?_⟩
      rcases List.mem_cons.mp hx with rfl | hx
      · exact ⟨hs, h1⟩
      · exact q3 x hx
    · cases e
theorem reps_of {K : PySem.W.Frag} {ca : Nat → Addr} {θ : List Addr} {F : Hp} : ∀ {l3 : List ((Addr × D) × List Int)}, (∀ x ∈ l3, Rep K ca θ F x.1.2 (.ref x.1.1)) → Reps K ca θ F (l3.map fun x => x.1.2) (l3.map fun x => V.ref x.1.1)
  | [], _ => Reps.nil
  | x :: l3, h => Reps.cons (h x List.mem_cons_self) (reps_of fun y hy => h y (List.mem_cons_of_mem _ hy))
def sortM (fin : S → List D → Res (D × S)) (me : EM) : EM := fun s => (me s).bind fun x => match lsD x.2.o x.1 with
  | some ds => match keyed x.2.o ds with
    | some kd => if kd.length < 64 ∧ (kd.map (·.2)).Nodup then fin x.2 ((sortK kd).map (·.1)) else .bad
    | none => .bad
  | none => .bad
theorem rd_sort {fin : S → List D → Res (D × S)} {te : TE} {me : EM} (he : RdE C te me)
    (hf : ∀ σ H F θ s ds xs Q, BS C.K C.ca σ H F θ s → Reps C.K C.ca θ F ds xs → PoE C σ H F θ (fin s ds) Q → ∀ q, H q = none → Q (.ref q) (upd H q (.lst xs))) : RdE C (tCB (rSortedL C.K) (tCons te tNil)) (sortM fin me) := by
  intro σ H F θ s Q b p
  refine he σ H F θ s _ b (PoR.bind p ?_)
  rintro ⟨x, s1⟩ H1 F1 θ1 _ st1 p1 b1 v r1
  dsimp only at p1 b1 r1
  split at p1
  · rename_i ds el
    split at p1
    · rename_i kd ek
      split at p1
      · rename_i hc
        obtain ⟨a, xs, rfl, hs, hr⟩ := ls_rep b1 r1 el
        obtain ⟨l3, rfl, rfl, q3⟩ := keyed_rep b1 ek hr
        have n1 : ∀ l : List ((Addr × D) × List Int), sortK (l.map fun x => (x.1.1, x.2)) = (sortK l).map fun x => (x.1.1, x.2) := sortK_map fun _ => rfl
        have n2 : ∀ l : List ((Addr × D) × List Int), sortK (l.map fun x => (x.1.2, x.2)) = (sortK l).map fun x => (x.1.2, x.2) := sortK_map fun _ => rfl
        refine ⟨a, l3.map fun x => (x.1.1, x.2), rfl, by rw [List.map_map]; exact hs, fun y hy => ?_, by have := hc.1; rw [List.length_map] at this ⊢; exact this, by have := hc.2; rw [List.map_map] at this ⊢; exact this, ?_⟩
        · obtain ⟨x, hx, rfl⟩ := List.mem_map.mp hy
          exact (q3 x hx).1
        · rw [n2, List.map_map] at p1
          rw [n1, List.map_map]
          exact hf σ H1 F1 θ1 s1 _ _ Q b1 (reps_of fun x hx => (q3 x ((sortK_perm l3).mem_iff.mp hx)).2) p1
      · exact False.elim p1
    · exact False.elim p1
  · exact False.elim p1
theorem rd_sortF {te : TE} {me : EM} (he : RdE C te me) : RdE C (tCB (rSortedL C.K) (tCons te tNil)) (sortM finF me) := rd_sort he fun σ H F θ s ds xs Q b r p => po_lst p b r
theorem rd_sortC {te : TE} {me : EM} (he : RdE C te me) : RdE C (tCB (rSortedL C.K) (tCons te tNil)) (sortM finC me) := rd_sort he fun σ H F θ s ds xs Q b r p => po_cel p b r
def minL (n : Int) (ns : List Int) : Int := ns.foldl (fun a b => if b < a then b else a) n
theorem minL_le : ∀ (ns : List Int) (n : Int), minL n ns ≤ n ∧ ∀ x ∈ ns, minL n ns ≤ x
  | [], n => ⟨Int.le_refl _, fun x hx => by cases hx⟩
  | b :: ns, n => by
    obtain ⟨h1, h2⟩ := minL_le ns (if b < n then b else n)
    have e : minL n (b :: ns) = minL (if b < n then b else n) ns := rfl
    rw [e]
    have le : (if b < n then b else n) ≤ n ∧ (if b < n then b else n) ≤ b := by split <;> omega
    generalize (if b < n then b else n) = c at h1 h2 le
    refine ⟨Int.le_trans h1 le.1, fun x hx => ?_⟩
    rcases List.mem_cons.mp hx with rfl | hx
    · exact Int.le_trans h1 le.2
    · exact h2 x hx
theorem minL_mem : ∀ (ns : List Int) (n : Int), minL n ns ∈ n :: ns
  | [], n => List.mem_cons_self
  | b :: ns, n => by
    have h := minL_mem ns (if b < n then b else n)
    have e : minL n (b :: ns) = minL (if b < n then b else n) ns := rfl
    rw [e]
    rcases List.mem_cons.mp h with h | h
    · rw [h]
      split
      · exact List.mem_cons_of_mem _ List.mem_cons_self
      · exact List.mem_cons_self
    · exact List.mem_cons_of_mem _ (List.mem_cons_of_mem _ h)
def minDM (me md : EM) : EM := fun s => (me s).bind fun x => (md x.2).bind fun y => match cellI y.2.o x.1 with
  | some (n :: ns) => .ok (.int (minL n ns), y.2)
  | _ => .bad
theorem rd_minD {te td : TE} {me md : EM} (he : RdE C te me) (hd : RdE C td md) : RdE C (tMinD C.K te td) (minDM me md) := by
  intro σ H F θ s Q b p
  refine he σ H F θ s _ b (PoR.bind p ?_)
  rintro ⟨x, s1⟩ H1 F1 θ1 _ st1 p1 b1 v r1
  refine hd σ H1 F1 θ1 s1 _ b1 (PoR.bind p1 ?_)
  rintro ⟨y, s2⟩ H2 F2 θ2 _ st2 p2 b2 w r2
  dsimp only at p2 b2 r1
  split at p2
  · rename_i n ns e
    obtain ⟨a, rfl, hs⟩ := cellI_rep b2 (r1.mono st2.ff st2.pre) e
    refine ⟨a, n :: ns, rfl, hs, by simp, fun m hm hl => ?_⟩
    have e1 : m = minL n ns := by
      have h1 := hl _ (minL_mem ns n)
      have h2 := minL_le ns n
      rcases List.mem_cons.mp hm with rfl | hm
      · omega
      · have := h2.2 m hm; omega
    rw [e1]
    exact p2 _ _ _ .refl b2 _ (rep_int.mpr rfl)
  · exact False.elim p2
end
end M
set_option maxRecDepth 100000
set_option maxHeartbeats 4000000
namespace M
open PySem PySem.Spec PyProof.Rows L2
@[simp] theorem okC_none (ds : List D) (O : Store) : okC ds none O = True := rfl
@[simp] theorem okC_some (ds : List D) (k : Nat) (O : Store) : okC ds (some k) O = (O[k]? = some (.lst ds)) := rfl
theorem bits_of {n : Nat} {i : Int} (h : i.natAbs < 2 ^ n) : Builtin.Int.intBits i ≤ n := by
  unfold Builtin.Int.intBits
  split
  · exact Nat.zero_le _
  · rename_i h0
    have hp : i.natAbs ≠ 0 := by
      intro z
      apply h0
      simpa using z
    have := (Nat.log2_lt hp).mpr h
    omega
def Sz (n : Nat) (i : Int) : Prop := i.natAbs < 2 ^ n
theorem Sz.mono {m n : Nat} {i : Int} (h : Sz m i) (hmn : m ≤ n) : Sz n i := Nat.lt_of_lt_of_le h (Nat.pow_le_pow_right (by decide) hmn)
theorem mul_ok {m n : Nat} (hm : m ≤ 60000000) (hn : n ≤ 60000000) {i j : Int} (h : Sz m i) (h' : Sz n j) : IntMulOk i j := by
  have h1 := bits_of h
  have h2 := bits_of h'
  have e : Builtin.Int.intTooBig (Builtin.Int.intBits i + Builtin.Int.intBits j) = false := by
    unfold Builtin.Int.intTooBig
    rw [bitsLine_eq]
    exact decide_eq_false (by omega)
  unfold IntMulOk
  rw [e]
  simp
theorem mul_small {i j : Int} (h : i.natAbs < 2 ^ 64 ∨ j.natAbs < 2 ^ 64) : IntMulOk i j := by
  rcases h with h | h
  · exact .of_left (intBits_le_64 (by omega) (by omega))
  · exact .of_right (intBits_le_64 (by omega) (by omega))
theorem Sz.mul {m n : Nat} {i j : Int} (h : Sz m i) (h' : Sz n j) : Sz (m + n) (i * j) := by
  unfold Sz at *
  rw [Int.natAbs_mul, Nat.pow_add]
  exact Nat.mul_lt_mul'' h h'
theorem Sz.add {m n : Nat} {i j : Int} (h : Sz m i) (h' : Sz n j) : Sz (max m n + 1) (i + j) := by
  unfold Sz at *
  have h1 := Nat.lt_of_lt_of_le h (Nat.pow_le_pow_right (by decide) (Nat.le_max_left m n))
  have h2 := Nat.lt_of_lt_of_le h' (Nat.pow_le_pow_right (by decide) (Nat.le_max_right m n))
  have h3 : (i + j).natAbs ≤ i.natAbs + j.natAbs := Int.natAbs_add_le i j
  rw [Nat.pow_succ]
  omega
theorem fdiv_pos {i j : Int} (h : 0 < j) : i.fdiv j = i / j := Int.fdiv_eq_ediv_of_nonneg i (Int.le_of_lt h)
theorem fmod_pos {i j : Int} (h : 0 < j) : i.fmod j = i % j := Int.fmod_eq_emod_of_nonneg i (Int.le_of_lt h)
section
variable {O : Store}
@[simp] theorem subD_int (i j : Int) : subD O (.int i) (.int j) = .ok (.int (i - j)) := rfl
@[simp] theorem addD_int (i j : Int) : addD O (.int i) (.int j) = .ok (.int (i + j)) := rfl
@[simp] theorem addI_int (i j : Int) : addI O (.int i) (.int j) = .ok (.int (i + j)) := rfl
@[simp] theorem ltD_int (i j : Int) : ltD O (.int i) (.int j) = .ok (.bl (decide (i < j))) := rfl
@[simp] theorem leD_int (i j : Int) : leD O (.int i) (.int j) = .ok (.bl (decide (i ≤ j))) := rfl
@[simp] theorem gtD_int (i j : Int) : gtD O (.int i) (.int j) = .ok (.bl (decide (j < i))) := rfl
@[simp] theorem geD_int (i j : Int) : geD O (.int i) (.int j) = .ok (.bl (decide (j ≤ i))) := rfl
@[simp] theorem negD_int (i : Int) : negD O (.int i) = .ok (.int (-i)) := rfl
@[simp] theorem eqD_int (i j : Int) : eqD O (.int i) (.int j) = .ok (.bl (decide (i = j))) := rfl
@[simp] theorem neD_int (i j : Int) : neD O (.int i) (.int j) = .ok (.bl (!decide (i = j))) := rfl
@[simp] theorem eqD_str (i j : Str) : eqD O (.str i) (.str j) = .ok (.bl (decide (i = j))) := rfl
@[simp] theorem neD_str (i j : Str) : neD O (.str i) (.str j) = .ok (.bl (!decide (i = j))) := rfl
@[simp] theorem eqD_bl (i j : Bool) : eqD O (.bl i) (.bl j) = .ok (.bl (decide (i = j))) := rfl
@[simp] theorem neD_bl (i j : Bool) : neD O (.bl i) (.bl j) = .ok (.bl (!decide (i = j))) := rfl
theorem mulD_int {i j : Int} (h : IntMulOk i j) : mulD O (.int i) (.int j) = .ok (.int (i * j)) := if_pos h
theorem fdivD_int {i j : Int} (h : j ≠ 0) : fdivD O (.int i) (.int j) = .ok (.int (i.fdiv j)) := if_pos h
theorem fdivD_small {i : Int} {j : Int} (h : 0 < j) (h2 : j < 1073741824) : fdivD O (.int i) (.int j) = .ok (.int (i / j)) := by
  rw [fdivD_int (by omega), fdiv_pos h]
theorem modD_pos {i j : Int} (h : 0 < j) : modD O (.int i) (.int j) = .ok (.int (i % j)) := by
  rw [← fmod_pos h]; exact if_pos (by omega)
theorem powD_int {i j : Int} (h : 0 ≤ j) (h2 : j ≤ 1000000) (h3 : i.natAbs < 2 ^ 64) : powD O (.int i) (.int j) = .ok (.int (i ^ j.toNat)) := if_pos ⟨h, h2, h3⟩
@[simp] theorem absD_int (i : Int) : absD O [.int i] = .ok (.int (i.natAbs : Int)) := by
  show Res.ok (D.int (if i < 0 then -i else i)) = _
  congr 2
  split <;> omega
@[simp] theorem lenD_lst (ds : List D) : lenD O [.lst ds] = .ok (.int ds.length) := rfl
@[simp] theorem lenD_tup (ds : List D) : lenD O [.tup ds] = .ok (.int ds.length) := rfl
@[simp] theorem listD_lst (ds : List D) : listD O [.lst ds] = .ok (.lst ds) := rfl
@[simp] theorem listD_tup (ds : List D) : listD O [.tup ds] = .ok (.lst ds) := rfl
@[simp] theorem intOf_int (i : Int) : intOf O [.int i] = .ok (.int i) := rfl
@[simp] theorem intOf_bl (b : Bool) : intOf O [.bl b] = .ok (.int (if b then 1 else 0)) := rfl
@[simp] theorem isi_int (c : String) (i : Int) : isiD c O (.int i) = .ok (.bl (isSub "int" c)) := rfl
@[simp] theorem isi_bl (c : String) (i : Bool) : isiD c O (.bl i) = .ok (.bl (isSub "bool" c)) := rfl
@[simp] theorem isi_str (c : String) (i : Str) : isiD c O (.str i) = .ok (.bl (isSub "str" c)) := rfl
@[simp] theorem isi_lst (c : String) (i : List D) : isiD c O (.lst i) = .ok (.bl (isSub "list" c)) := rfl
@[simp] theorem isi_tup (c : String) (i : List D) : isiD c O (.tup i) = .ok (.bl (isSub "tuple" c)) := rfl
@[simp] theorem isi_non (c : String) : isiD c O .non = .ok (.bl (isSub "NoneType" c)) := rfl
@[simp] theorem sub_ii : isSub "int" "int" = true := by decide
@[simp] theorem sub_ib : isSub "int" "bool" = false := by decide
@[simp] theorem sub_bb : isSub "bool" "bool" = true := by decide
@[simp] theorem sub_bi : isSub "bool" "int" = true := by decide
@[simp] theorem sub_ll : isSub "list" "list" = true := by decide
@[simp] theorem sub_tt : isSub "tuple" "tuple" = true := by decide
@[simp] theorem sub_lt : isSub "list" "tuple" = false := by decide
@[simp] theorem sub_tl : isSub "tuple" "list" = false := by decide
@[simp] theorem sub_si : isSub "str" "int" = false := by decide
@[simp] theorem sub_ni : isSub "NoneType" "int" = false := by decide
theorem ixD_lst {ds : List D} {i : Int} {d : D} (h : atI ds i = some d) : ixD O (.lst ds) (.int i) = .ok d := by
  show (match lsD O (D.lst ds) with
      | some ds => match atI ds i with
        | some d => Res.ok d
        | none => .bad
      | none => .bad) = _
  rw [lsD_lst]
  dsimp only
  rw [h]
theorem ixD_tup {ds : List D} {i : Int} {d : D} (h : atI ds i = some d) : ixD O (.tup ds) (.int i) = .ok d := by
  show (match atI ds i with
        | some d => Res.ok d
        | none => .bad) = _
  rw [h]
theorem atI_ok {α : Type} {l : List α} {i : Int} (h0 : 0 ≤ i) (h1 : i < l.length) : atI l i = some (l[i.toNat]'(by omega)) := by
  unfold atI ixN
  rw [if_pos h0, if_pos h1]
  show l[i.toNat]? = _
  exact List.getElem?_eq_getElem _
theorem toPys_ints : ∀ ns : List Int, toPys (ns.map D.int) = some (ns.map PyData.int)
  | [] => by simp [toPys]
  | n :: ns => by simp [toPys, toPy, toPys_ints ns]
theorem ress_ints : ∀ ns : List Int, ress O (ns.map D.int) = ns.map D.int
  | [] => by simp [ress]
  | n :: ns => by simp [ress, res, ress_ints ns]
theorem canLay_ints : ∀ ns : List Int, PyData.canLayAll0 (ns.map PyData.int) = true
  | [] => by simp [PyData.canLayAll0]
  | n :: ns => by simp [PyData.canLayAll0, PyData.canLay0, canLay_ints ns]
theorem depth_ints : ∀ ns : List Int, PyData.depthAll (ns.map PyData.int) = 0
  | [] => by simp [PyData.depthAll]
  | n :: ns => by simp [PyData.depthAll, PyData.depth, depth_ints ns]
theorem shaped_ints (ns : List Int) : SeqAt.shaped (.list (ns.map PyData.int)) = true := by
  simp [SeqAt.shaped, PyData.canLay0, canLay_ints, PyData.depth, depth_ints]
theorem eqv_ints : ∀ ns ms : List Int, PyData.eqvAll (ns.map PyData.int) (ms.map PyData.int) = decide (ns = ms)
  | [], [] => by simp [PyData.eqvAll]
  | [], _ :: _ => by simp [PyData.eqvAll]
  | _ :: _, [] => by simp [PyData.eqvAll]
  | a :: r, b :: t => by
    simp only [List.map_cons, PyData.eqvAll, PyData.eqv, eqv_ints r t]
    by_cases h : a = b <;> by_cases h' : r = t <;> simp [h, h']
theorem eqB_ints (ns ms : List Int) : eqB O (.lst (ns.map D.int)) (.lst (ms.map D.int)) = some (decide (ns = ms)) := by
  show eqDeep O _ _ = _
  unfold eqDeep
  simp only [res, ress_ints, toPy, toPys_ints, Option.map_some]
  rw [if_pos ⟨shaped_ints ns, shaped_ints ms⟩]
  simp only [PyData.eqv, eqv_ints]
@[simp] theorem eqD_ints (ns ms : List Int) : eqD O (.lst (ns.map D.int)) (.lst (ms.map D.int)) = .ok (.bl (decide (ns = ms))) := by unfold eqD; rw [eqB_ints]
@[simp] theorem neD_ints (ns ms : List Int) : neD O (.lst (ns.map D.int)) (.lst (ms.map D.int)) = .ok (.bl (!decide (ns = ms))) := by unfold neD; rw [eqB_ints]
theorem pure_ints : ∀ ns : List Int, pureDs (ns.map D.int) = true
  | [] => by simp [pureDs]
  | n :: ns => by simp [pureDs, pureD, pure_ints ns]
@[simp] theorem pureD_ints (ns : List Int) : pureD (.lst (ns.map D.int)) = true := by simp [pureD, pure_ints]
end
end M
set_option maxRecDepth 100000
set_option maxHeartbeats 4000000
namespace M
open PySem PySem.Spec PyProof.Rows L2
noncomputable def gcdBody : SM := seqM (setM 2 (binM modD (varM 0) (varM 1))) (seqM (setM 0 (varM 1)) (setM 1 (varM 2)))
theorem gcd_body {a b : Int} {x : Option D} {O : Store} (hb : 0 < b) : gcdBody ⟨[some (.int a), some (.int b), x], O⟩ = .next ⟨[some (.int b), some (.int (a % b)), some (.int (a % b))], O⟩ := by
  simp [gcdBody, seqM, setM, asgM, nameG, binM, varM, modD_pos hb]
theorem gcd_while {c : TM} (hc : ∀ (a b : Int) x O, 0 ≤ b → c ⟨[some (.int a), some (.int b), x], O⟩ = .ok (decide (b ≠ 0), ⟨[some (.int a), some (.int b), x], O⟩)) :
    ∀ (n : Nat) (a b : Int) x O, 0 ≤ a → 0 ≤ b → b.natAbs < n → ∃ y, whileGo c gcdBody n ⟨[some (.int a), some (.int b), x], O⟩ = .next ⟨[some (.int (Nat.gcd a.natAbs b.natAbs : Nat)), some (.int 0), y], O⟩
  | 0, _, _, _, _, _, _, h => by omega
  | n + 1, a, b, x, O, ha, hb, hn => by
    rw [whileGo, hc a b x O hb, out_ok]
    by_cases h : b = 0
    · subst h
      refine ⟨x, ?_⟩
      have e : ((Nat.gcd a.natAbs (0 : Int).natAbs : Nat) : Int) = a := by
        rw [Int.natAbs_zero, Nat.gcd_zero_right]
        omega
      rw [e]
      simp
    · have hb' : 0 < b := by omega
      have h1 : 0 ≤ a % b := Int.emod_nonneg a h
      have h2 : a % b < b := Int.emod_lt_of_pos a hb'
      obtain ⟨y, e⟩ := gcd_while hc n b (a % b) (some (.int (a % b))) O hb h1 (by omega)
      refine ⟨y, ?_⟩
      simp only [h, ne_eq, not_false_eq_true, decide_true, if_true, gcd_body hb']
      rw [e]
      have e2 : (a % b).natAbs = a.natAbs % b.natAbs := by
        have : ((a % b).natAbs : Int) = ((a.natAbs % b.natAbs : Nat) : Int) := by
          rw [Int.natAbs_of_nonneg h1, Int.natCast_emod, Int.natAbs_of_nonneg ha, Int.natAbs_of_nonneg hb]
        omega
      rw [e2, ← Nat.gcd_rec' a.natAbs b.natAbs]
where Nat.gcd_rec' (m n : Nat) : Nat.gcd m n = Nat.gcd n (m % n) := by
        rw [Nat.gcd_comm m n, Nat.gcd_rec n m, Nat.gcd_comm]
noncomputable def gcdNe : SM := seqM (setM 0 (calM absD (consM (varM 0) nilM))) (seqM (setM 1 (calM absD (consM (varM 1) nilM))) (seqM (whileM (fun s => gcdFuel 1 s) (tstM (binM neD (varM 1) (cstM (.int 0)))) gcdBody) (retM (varM 0))))
theorem gcdNe_ok (a b : Int) (O : Store) : ∃ s, gcdNe ⟨[some (.int a), some (.int b), none], O⟩ = .ret (.int (Int.gcd a b : Nat)) s ∧ s.o = O := by
  obtain ⟨y, e⟩ := gcd_while (c := tstM (binM neD (varM 1) (cstM (.int 0)))) (fun a b x O h => by simp [tstM, binM, varM, cstM]) (b.natAbs + 1) (a.natAbs : Int) (b.natAbs : Int) none O (by omega) (by omega) (by omega)
  refine ⟨⟨[some (.int (Int.gcd a b : Nat)), some (.int 0), y], O⟩, ?_, rfl⟩
  simp only [Int.natAbs_natCast] at e
  simp [gcdNe, seqM, setM, asgM, nameG, calM, consM, nilM, varM, whileM, gcdFuel, e, retM, Int.gcd]
theorem runM_ret {n : Nat} {m : SM} {ds : List D} {O : Store} {d : D} {s : S} (h : m ⟨ds.map some ++ List.replicate (n - ds.length) none, O⟩ = .ret d s) : runM n m ds O = .ok (d, s.o) := by
  unfold runM; rw [h]
theorem gcdNe_run (a b : Int) : runM 3 gcdNe [.int a, .int b] [] = .ok (.int (Int.gcd a b : Nat), []) := by
  obtain ⟨s, e, eo⟩ := gcdNe_ok a b []
  rw [runM_ret (s := s) (by exact e), eo]
def gcdL (ns : List Int) : Nat := ns.foldl (fun c n => Nat.gcd c n.natAbs) 0
theorem gcdL_fold_dvd : ∀ (ns : List Int) (c : Nat), ns.foldl (fun c n => Nat.gcd c n.natAbs) c ∣ c ∧ ∀ n ∈ ns, ns.foldl (fun c n => Nat.gcd c n.natAbs) c ∣ n.natAbs
  | [], c => ⟨Nat.dvd_refl _, by simp⟩
  | m :: ns, c => by
    obtain ⟨h1, h2⟩ := gcdL_fold_dvd ns (Nat.gcd c m.natAbs)
    rw [List.foldl_cons]
    refine ⟨Nat.dvd_trans h1 (Nat.gcd_dvd_left _ _), fun n hn => ?_⟩
    rcases List.mem_cons.mp hn with rfl | hn
    · exact Nat.dvd_trans h1 (Nat.gcd_dvd_right _ _)
    · exact h2 n hn
theorem gcdL_dvd {ns : List Int} {n : Int} (h : n ∈ ns) : ((gcdL ns : Nat) : Int) ∣ n := Int.natAbs_dvd_natAbs.mp (by rw [Int.natAbs_natCast]; exact (gcdL_fold_dvd ns 0).2 n h)
theorem gcdL_fold_div (g : Nat) (hg : 0 < g) : ∀ (ns : List Int) (c : Nat), g ∣ c → (∀ n ∈ ns, (g : Int) ∣ n) →
    (ns.map (· / (g : Int))).foldl (fun c n => Nat.gcd c n.natAbs) (c / g) = ns.foldl (fun c n => Nat.gcd c n.natAbs) c / g
  | [], c, _, _ => rfl
  | m :: ns, c, hc, h => by
    have hm : g ∣ m.natAbs := by
      have := Int.natAbs_dvd_natAbs.mpr (h m List.mem_cons_self)
      rwa [Int.natAbs_natCast] at this
    have e : (m / (g : Int)).natAbs = m.natAbs / g := by
      obtain ⟨k, rfl⟩ := h m List.mem_cons_self
      rw [Int.mul_ediv_cancel_left _ (by omega : (g : Int) ≠ 0), Int.natAbs_mul, Int.natAbs_natCast, Nat.mul_div_cancel_left _ hg]
    rw [List.map_cons, List.foldl_cons, List.foldl_cons, e, Nat.gcd_div hc hm]
    exact gcdL_fold_div g hg ns _ (Nat.dvd_gcd hc hm) fun n hn => h n (List.mem_cons_of_mem _ hn)
theorem gcdL_low {ns : List Int} (h : 0 < gcdL ns) : gcdL (ns.map (· / (gcdL ns : Int))) = 1 := by
  have := gcdL_fold_div (gcdL ns) h ns 0 (Nat.dvd_zero _) fun n hn => gcdL_dvd hn
  rw [Nat.zero_div] at this
  rw [show gcdL (ns.map (· / (gcdL ns : Int))) = (ns.map (· / (gcdL ns : Int))).foldl (fun c n => Nat.gcd c n.natAbs) 0 from rfl, this]
  exact Nat.div_self h
end M
set_option maxRecDepth 100000
set_option maxHeartbeats 4000000
namespace M
open PySem PySem.Spec PyProof.Rows L2
section
variable {s s1 : S} {d : D}
@[simp] theorem varM_ev {i : Nat} (h : s.r[i]? = some (some d)) : varM i s = .ok (d, s) := by unfold varM; rw [h]
@[simp] theorem cstM_ev (d : D) (s : S) : cstM d s = .ok (d, s) := rfl
@[simp] theorem binM_ev (f : Op2) (a b : EM) (s : S) : binM f a b s = (a s).bind fun x => (b x.2).bind fun y => (f y.2.o x.1 y.1).bind fun d => .ok (d, y.2) := rfl
@[simp] theorem unM_ev (f : Op1) (a : EM) (s : S) : unM f a s = (a s).bind fun x => (f x.2.o x.1).bind fun d => .ok (d, x.2) := rfl
@[simp] theorem nilM_ev (s : S) : nilM s = .ok ([], s) := rfl
@[simp] theorem consM_ev (m : EM) (r : AM) (s : S) : consM m r s = (m s).bind fun x => (r x.2).bind fun y => .ok (x.1 :: y.1, y.2) := rfl
@[simp] theorem calM_ev (f : OpN) (m : AM) (s : S) : calM f m s = (m s).bind fun x => (f x.2.o x.1).bind fun d => .ok (d, x.2) := rfl
@[simp] theorem tupM_ev (m : AM) (s : S) : tupM m s = (m s).bind fun x => if x.1.length ≤ 16777216 then .ok (.tup x.1, x.2) else .bad := rfl
@[simp] theorem lstM_ev (m : AM) (s : S) : lstM m s = (m s).bind fun x => if x.1.length ≤ 16777216 then .ok (.lst x.1, x.2) else .bad := rfl
@[simp] theorem lstC_ev (m : AM) (s : S) : lstC m s = (m s).bind fun x => if x.1.length ≤ 16777216 then .ok (.ptr x.2.o.length, ⟨x.2.r, x.2.o ++ [.lst x.1]⟩) else .bad := rfl
@[simp] theorem tstM_ev (m : EM) (s : S) : tstM m s = (m s).bind fun x => match x.1 with
  | .bl b => .ok (b, x.2)
  | _ => .bad := rfl
@[simp] theorem andT_ev (a b : TM) (s : S) : andT a b s = (a s).bind fun x => if x.1 then b x.2 else .ok (false, x.2) := rfl
@[simp] theorem orT_ev (a b : TM) (s : S) : orT a b s = (a s).bind fun x => if x.1 then .ok (true, x.2) else b x.2 := rfl
@[simp] theorem notT_ev (a : TM) (s : S) : notT a s = (a s).bind fun x => .ok (!x.1, x.2) := rfl
@[simp] theorem andV_ev (a b : EM) (s : S) : andV a b s = (a s).bind fun x => match x.1 with
  | .bl true => b x.2
  | .bl false => .ok (.bl false, x.2)
  | _ => .bad := rfl
@[simp] theorem orV_ev (a b : EM) (s : S) : orV a b s = (a s).bind fun x => match x.1 with
  | .bl true => .ok (.bl true, x.2)
  | .bl false => b x.2
  | _ => .bad := rfl
@[simp] theorem notV_ev (a : EM) (s : S) : notV a s = (a s).bind fun x => match x.1 with
  | .bl k => .ok (.bl (!k), x.2)
  | _ => .bad := rfl
@[simp] theorem seqM_ev (a b : SM) (s : S) : seqM a b s = (a s).then b := rfl
@[simp] theorem skipM_ev (s : S) : skipM s = .next s := rfl
@[simp] theorem dropM_ev (m : EM) (s : S) : dropM m s = (m s).out fun x => .next x.2 := rfl
@[simp] theorem retM_ev (m : EM) (s : S) : retM m s = (m s).out fun x => .ret x.1 x.2 := rfl
@[simp] theorem ret0_ev (s : S) : ret0 s = .ret .non s := rfl
@[simp] theorem ifS_ev (c : TM) (a b : SM) (s : S) : ifS c a b s = (c s).out fun x => if x.1 then a x.2 else b x.2 := rfl
@[simp] theorem ifM_ev (c : TM) (a b : EM) (s : S) : ifM c a b s = (c s).bind fun x => if x.1 then a x.2 else b x.2 := rfl
@[simp] theorem nameG_ev (i : Nat) (d : D) (s : S) : nameG i d s = .ok ⟨s.r.set i (some d), s.o⟩ := rfl
@[simp] theorem asgM_ev (m : EM) (g : GM) (s : S) : asgM m g s = ((m s).bind fun x => g x.1 x.2).out fun s => .next s := rfl
@[simp] theorem augM_ev (i : Nat) (f : Op2) (m : EM) (s : S) : augM i f m s = asgM (binM f (varM i) m) (nameG i) s := rfl
@[simp] theorem trueT_ev (s : S) : trueT s = .ok (true, s) := rfl
@[simp] theorem noPart_ev (s : S) : noPart s = .ok (none, s) := rfl
@[simp] theorem part_ev (m : EM) (s : S) : part m s = (m s).bind fun x => match x.1 with
  | .int i => .ok (some i, x.2)
  | _ => .bad := rfl
@[simp] theorem slM_ev (me : EM) (ml mh : OM) (s : S) : slM me ml mh s = (me s).bind fun x => (ml x.2).bind fun l => (mh l.2).bind fun h => match lsD h.2.o x.1 with
  | some ds => .ok (.lst (cutD ds l.1 h.1), h.2)
  | none => .bad := rfl
@[simp] theorem listI_ev (m : EM) (s : S) : listI m s = (m s).bind fun x => (itemsOf x.2.o x.1).bind fun y => .ok (y, x.2) := rfl
@[simp] theorem itemsOf_lst (O : Store) (ds : List D) : itemsOf O (.lst ds) = .ok (ds, none) := rfl
theorem forS_ev (im : IM) (g : GM) (body : SM) (s : S) : forS im g body s = (im s).out fun y => forGo (okC y.1.1 y.1.2) g body y.1.1 y.2 := rfl
theorem compM_ev (m : Nat) (caps : List Nat) (im : IM) (g : GM) (c : TM) (e : EM) (s : S) : compM m caps im g c e s = (im s).bind fun y =>
  (compGo (okC y.1.1 y.1.2) g c e y.1.1 [] ⟨capM m caps y.2.r, y.2.o⟩).bind fun z => .ok (z.1, ⟨y.2.r, z.2.o⟩) := rfl
theorem compF_ev (m : Nat) (caps : List Nat) (im : IM) (g : GM) (c : TM) (e : EM) (s : S) : compF m caps im g c e s = (compM m caps im g c e s).bind fun y => .ok (.lst y.1, y.2) := rfl
theorem compC_ev (m : Nat) (caps : List Nat) (im : IM) (g : GM) (c : TM) (e : EM) (s : S) : compC m caps im g c e s = (compM m caps im g c e s).bind fun y => .ok (.ptr y.2.o.length, ⟨y.2.r, y.2.o ++ [.lst y.1]⟩) := rfl
@[simp] theorem callP_ev (n : Nat) (f : FM) (m : AM) (s : S) : callP n f m s = (m s).bind fun x => if pureDs x.1 = true ∧ x.1.length = n then (match f x.1 [] with
  | .ok (d, _) => if pureD d = true then .ok (d, x.2) else .bad
  | _ => .bad) else .bad := rfl
@[simp] theorem callO_ev (n : Nat) (f : FM) (m : AM) (s : S) : callO n f m s = (m s).bind fun x => if pureDs x.1 = true ∧ x.1.length = n then (match f x.1 [] with
  | .ok (d, O1) => .ok (shD x.2.o.length d, ⟨x.2.r, x.2.o ++ O1.map (shC x.2.o.length)⟩)
  | _ => .bad) else .bad := rfl
@[simp] theorem callV_ev (n : Nat) (f : FM) (m : AM) (s : S) : callV n f m s = (m s).bind fun x => if pureDs (ress x.2.o (ress x.2.o x.1)) = true ∧ x.1.length = n then (match f (ress x.2.o (ress x.2.o x.1)) [] with
  | .ok (d, _) => if scalD d = true then .ok (d, x.2) else .bad
  | _ => .bad) else .bad := rfl
@[simp] theorem listC_ev (m : EM) (s : S) : listC m s = (m s).bind fun x => match seqOf x.2.o x.1 with
  | some ds => .ok (.ptr x.2.o.length, ⟨x.2.r, x.2.o ++ [.lst ds]⟩)
  | none => .bad := rfl
@[simp] theorem frzM_ev (m : EM) (s : S) : frzM m s = (m s).bind fun x => match celD x.2.o x.1 with
  | some (k, ds) => .ok (.lst ds, ⟨x.2.r, x.2.o.set k .dead⟩)
  | none => .bad := rfl
@[simp] theorem appM_ev (mo me : EM) (s : S) : appM mo me s = (mo s).bind fun x => match celD x.2.o x.1 with
  | some _ => (me x.2).bind fun y => match celD y.2.o x.1 with
    | some (k, ds) => if ds.length < 16777216 then .ok (.non, ⟨y.2.r, y.2.o.set k (.lst (ds ++ [y.1]))⟩) else .bad
    | none => .bad
  | none => .bad := rfl
@[simp] theorem lsD_ptr {O : Store} {k : Nat} {ds : List D} (h : O[k]? = some (.lst ds)) : lsD O (.ptr k) = some ds := by unfold lsD; simp only [h]
@[simp] theorem celD_ptr {O : Store} {k : Nat} {ds : List D} (h : O[k]? = some (.lst ds)) : celD O (.ptr k) = some (k, ds) := by unfold celD; simp only [h]
@[simp] theorem seqOf_lst (O : Store) (ds : List D) : seqOf O (.lst ds) = some ds := rfl
@[simp] theorem seqOf_tup (O : Store) (ds : List D) : seqOf O (.tup ds) = some ds := rfl
@[simp] theorem seqOf_ptr {O : Store} {k : Nat} {ds : List D} (h : O[k]? = some (.lst ds)) : seqOf O (.ptr k) = some ds := by show lsD O (.ptr k) = _; exact lsD_ptr h
@[simp] theorem itemsOf_ptr {O : Store} {k : Nat} {ds : List D} (h : O[k]? = some (.lst ds)) : itemsOf O (.ptr k) = .ok (ds, some k) := by unfold itemsOf; simp only [h]
@[simp] theorem shD_ptr (n k : Nat) : shD n (.ptr k) = .ptr (n + k) := by unfold shD; rfl
@[simp] theorem pureDs_nil : pureDs [] = true := by unfold pureDs; rfl
@[simp] theorem pureDs_cons (d : D) (ds : List D) : pureDs (d :: ds) = (pureD d && pureDs ds) := by conv => lhs; unfold pureDs
@[simp] theorem pureD_int (i : Int) : pureD (.int i) = true := by unfold pureD; rfl
@[simp] theorem pureD_bl (i : Bool) : pureD (.bl i) = true := by unfold pureD; rfl
@[simp] theorem pureD_str (i : Str) : pureD (.str i) = true := by unfold pureD; rfl
@[simp] theorem pureD_non : pureD .non = true := by unfold pureD; rfl
@[simp] theorem pureD_lst (ds : List D) : pureD (.lst ds) = pureDs ds := by conv => lhs; unfold pureD
@[simp] theorem pureD_tup (ds : List D) : pureD (.tup ds) = pureDs ds := by conv => lhs; unfold pureD
@[simp] theorem pureDs_ints (ns : List Int) : pureDs (ns.map D.int) = true := pure_ints ns
@[simp] theorem res_int (O : Store) (i : Int) : res O (.int i) = .int i := by unfold res; rfl
@[simp] theorem res_bl (O : Store) (i : Bool) : res O (.bl i) = .bl i := by unfold res; rfl
@[simp] theorem res_str (O : Store) (i : Str) : res O (.str i) = .str i := by unfold res; rfl
@[simp] theorem res_non (O : Store) : res O .non = .non := by unfold res; rfl
@[simp] theorem res_lst (O : Store) (ds : List D) : res O (.lst ds) = .lst (ress O ds) := by conv => lhs; unfold res
@[simp] theorem res_tup (O : Store) (ds : List D) : res O (.tup ds) = .tup (ress O ds) := by conv => lhs; unfold res
@[simp] theorem res_ptr {O : Store} {k : Nat} {ds : List D} (h : O[k]? = some (.lst ds)) : res O (.ptr k) = .lst ds := by conv => lhs; unfold res; simp only [h]
@[simp] theorem ress_nil (O : Store) : ress O [] = [] := by unfold ress; rfl
@[simp] theorem ress_cons (O : Store) (d : D) (ds : List D) : ress O (d :: ds) = res O d :: ress O ds := by conv => lhs; unfold ress
@[simp] theorem ress_ints' (O : Store) (ns : List Int) : ress O (ns.map D.int) = ns.map D.int := ress_ints ns
@[simp] theorem scalD_bl (b : Bool) : scalD (.bl b) = true := rfl
@[simp] theorem scalD_int (b : Int) : scalD (.int b) = true := rfl
@[simp] theorem scalD_str (b : Str) : scalD (.str b) = true := rfl
@[simp] theorem isi_ptr {O : Store} {k : Nat} {ds : List D} (h : O[k]? = some (.lst ds)) (c : String) : isiD c O (.ptr k) = .ok (.bl (isSub "list" c)) := by
  unfold isiD tyD; simp only [h]
@[simp] theorem shDs_ints (n : Nat) : ∀ ns : List Int, shDs n (ns.map D.int) = ns.map D.int
  | [] => by simp [shDs]
  | m :: ns => by simp [shDs, shD, shDs_ints n ns]
@[simp] theorem shC_lst (n : Nat) (ds : List D) : shC n (.lst ds) = .lst (shDs n ds) := rfl
theorem runM_ex {n : Nat} {m : SM} {ds : List D} {O : Store} {d : D} (h : ∃ s, m ⟨ds.map some ++ List.replicate (n - ds.length) none, O⟩ = .ret d s) : ∃ O1, runM n m ds O = .ok (d, O1) := by
  obtain ⟨s, h⟩ := h
  exact ⟨s.o, runM_ret h⟩
end
mutual
theorem res_pure {O : Store} : ∀ {d : D}, pureD d = true → res O d = d
  | .non, _ => by unfold res; rfl
  | .bl _, _ => by unfold res; rfl
  | .int _, _ => by unfold res; rfl
  | .str _, _ => by unfold res; rfl
  | .lst ds, h => by rw [res_lst, ress_pure (by simpa using h)]
  | .tup ds, h => by rw [res_tup, ress_pure (by simpa using h)]
  | .ptr _, h => by unfold pureD at h; cases h
  | .obj c ns ds, h => by unfold res; rfl
  | .exn c, h => by unfold res; rfl
theorem ress_pure {O : Store} : ∀ {ds : List D}, pureDs ds = true → ress O ds = ds
  | [], _ => ress_nil O
  | d :: ds, h => by
    rw [pureDs_cons, Bool.and_eq_true] at h
    rw [ress_cons, res_pure h.1, ress_pure h.2]
end
theorem eqB_ptr {O : Store} {k : Nat} {ds : List D} (h : O[k]? = some (.lst ds)) (hp : pureDs ds = true) (es : List D) : eqB O (.ptr k) (.lst es) = eqB O (.lst ds) (.lst es) := by
  show eqDeep O _ _ = eqDeep O _ _
  unfold eqDeep
  simp only [res_ptr h, res_lst, ress_pure hp]
@[simp] theorem eqD_ptr {O : Store} {k : Nat} {ds : List D} (h : O[k]? = some (.lst ds)) (hp : pureDs ds = true) (es : List D) : eqD O (.ptr k) (.lst es) = eqD O (.lst ds) (.lst es) := by unfold eqD; rw [eqB_ptr h hp]
@[simp] theorem neD_ptr {O : Store} {k : Nat} {ds : List D} (h : O[k]? = some (.lst ds)) (hp : pureDs ds = true) (es : List D) : neD O (.ptr k) (.lst es) = neD O (.lst ds) (.lst es) := by unfold neD; rw [eqB_ptr h hp]
theorem cutD_take {ms : List Int} {n : Nat} : cutD (ms.map D.int) none (some (n : Int)) = (ms.take n).map D.int := by
  unfold cutD
  rw [HT.sIx_none, HT.sIx_nat, List.drop_zero, Nat.sub_zero, List.length_map, ← List.map_take]
  congr 1
  by_cases h : n ≤ ms.length
  · rw [Nat.min_eq_left h]
  · rw [Nat.min_eq_right (by omega), List.take_of_length_le (Nat.le_refl _), List.take_of_length_le (by omega)]
end M
set_option maxRecDepth 100000
set_option maxHeartbeats 4000000
namespace M
open PySem PySem.Spec PyProof.Rows L2
theorem forGo_pre {ok : Store → Prop} {g : GM} {body : SM} (P : List D → S → Prop) (hok : ∀ pre s, P pre s → ok s.o) : ∀ (ds pre : List D),
    (∀ pre' d rest, pre ++ ds = pre' ++ d :: rest → ∀ s, P pre' s → ∃ s1 s2, g d s = .ok s1 ∧ (body s1 = .next s2 ∨ body s1 = .cnt s2) ∧ P (pre' ++ [d]) s2) → ∀ s, P pre s → ∃ s', forGo ok g body ds s = .next s' ∧ P (pre ++ ds) s'
  | [], pre, _, s, h => ⟨s, by rw [forGo, if_pos (hok _ _ h)], by simpa using h⟩
  | d :: ds, pre, step, s, h => by
    obtain ⟨s1, s2, e1, e2, h2⟩ := step pre d ds rfl s h
    obtain ⟨s', e3, h3⟩ := forGo_pre P hok ds (pre ++ [d]) (fun pre' d' rest e => step pre' d' rest (by simpa using e)) s2 h2
    refine ⟨s', ?_, by simpa using h3⟩
    rw [forGo, if_pos (hok _ _ h), e1, out_ok]
    rcases e2 with e2 | e2 <;> (rw [e2]; exact e3)
theorem forS_of {im : IM} {g : GM} {body : SM} {s s1 : S} {ds : List D} {k : Option Nat} (h : im s = .ok ((ds, k), s1)) : forS im g body s = forGo (okC ds k) g body ds s1 := by rw [forS_ev, h, out_ok]
theorem rng1_nat {m : AM} {s s1 : S} {n : Nat} (h : m s = .ok ([.int (n : Int)], s1)) (hn : n ≤ 1000000) : rng1 m s = .ok ((rangeD 0 (n : Int), none), s1) := by
  show (m s).bind _ = _
  rw [h, bind_ok]
  dsimp only
  rw [if_pos (by constructor <;> omega)]
section
variable {O : Store}
@[simp] theorem ixT0 (d : D) (ds : List D) : ixD O (.tup (d :: ds)) (.int 0) = .ok d := ixD_tup (by rw [atI_ok (by decide) (by simp)]; rfl)
@[simp] theorem ixT1 (d e : D) (ds : List D) : ixD O (.tup (d :: e :: ds)) (.int 1) = .ok e := ixD_tup (by rw [atI_ok (by decide) (by simp; omega)]; rfl)
@[simp] theorem ixL0 (d : D) (ds : List D) : ixD O (.lst (d :: ds)) (.int 0) = .ok d := ixD_lst (by rw [atI_ok (by decide) (by simp)]; rfl)
@[simp] theorem ixL1 (d e : D) (ds : List D) : ixD O (.lst (d :: e :: ds)) (.int 1) = .ok e := ixD_lst (by rw [atI_ok (by decide) (by simp; omega)]; rfl)
theorem shaped_tints (ns : List Int) : SeqAt.shaped (.tuple (ns.map PyData.int)) = true := by
  simp [SeqAt.shaped, PyData.canLay0, canLay_ints, PyData.depth, depth_ints]
theorem eqB_tints (ns ms : List Int) : eqB O (.tup (ns.map D.int)) (.tup (ms.map D.int)) = some (decide (ns = ms)) := by
  show eqDeep O _ _ = _
  unfold eqDeep
  simp only [res, ress_ints, toPy, toPys_ints, Option.map_some]
  rw [if_pos ⟨shaped_tints ns, shaped_tints ms⟩]
  simp only [PyData.eqv, eqv_ints]
@[simp] theorem eqD_t2 (a b c d : Int) : eqD O (.tup [.int a, .int b]) (.tup [.int c, .int d]) = .ok (.bl (decide (a = c ∧ b = d))) := by
  have := eqB_tints (O := O) [a, b] [c, d]
  unfold eqD
  rw [show eqB O (.tup [.int a, .int b]) (.tup [.int c, .int d]) = _ from this]
  simp
@[simp] theorem neD_t2 (a b c d : Int) : neD O (.tup [.int a, .int b]) (.tup [.int c, .int d]) = .ok (.bl (!decide (a = c ∧ b = d))) := by
  have := eqB_tints (O := O) [a, b] [c, d]
  unfold neD
  rw [show eqB O (.tup [.int a, .int b]) (.tup [.int c, .int d]) = _ from this]
  simp
end
theorem Sz.sub {m n : Nat} {i j : Int} (h : Sz m i) (h' : Sz n j) : Sz (max m n + 1) (i - j) := by
  rw [Int.sub_eq_add_neg]
  refine Sz.add h ?_
  unfold Sz at *
  rw [Int.natAbs_neg]; exact h'
theorem Sz.neg {m : Nat} {i : Int} (h : Sz m i) : Sz m (-i) := by
  unfold Sz at *
  rw [Int.natAbs_neg]; exact h
end M
set_option maxRecDepth 100000
set_option maxHeartbeats 4000000
namespace M
def sumN : Nat → (Nat → Int) → Int
  | 0, _ => 0
  | n + 1, f => sumN n f + f n
theorem sumN_congr {n : Nat} {f g : Nat → Int} (h : ∀ i, i < n → f i = g i) : sumN n f = sumN n g := by
  induction n with
  | zero => rfl
  | succ n ih => rw [sumN, sumN, ih fun i hi => h i (by omega), h n (by omega)]
theorem sumN_zero {n : Nat} {f : Nat → Int} (h : ∀ i, i < n → f i = 0) : sumN n f = 0 := by
  induction n with
  | zero => rfl
  | succ n ih => rw [sumN, ih fun i hi => h i (by omega), h n (by omega)]; rfl
theorem sumN_add (n : Nat) (f g : Nat → Int) : sumN n (fun i => f i + g i) = sumN n f + sumN n g := by
  induction n with
  | zero => rfl
  | succ n ih => simp only [sumN, ih]; omega
theorem sumN_mul (n : Nat) (c : Int) (f : Nat → Int) : sumN n (fun i => c * f i) = c * sumN n f := by
  induction n with
  | zero => simp [sumN]
  | succ n ih => simp only [sumN, ih, Int.mul_add]
def nth (r : List Int) (i : Nat) : Int := r.getD i 0
def dotN (n : Nat) (r : List Int) (x : Nat → Int) : Int := sumN n fun i => nth r i * x i
def Null (n : Nat) (R : List (List Int)) (x : Nat → Int) : Prop := ∀ r ∈ R, dotN n r x = 0
def low (ns : List Int) : List Int := if gcdL ns = 0 then ns else ns.map (· / (gcdL ns : Int))
theorem low_length (ns : List Int) : (low ns).length = ns.length := by unfold low; split <;> simp
theorem nth_map {f : Int → Int} (h0 : f 0 = 0) (r : List Int) (i : Nat) : nth (r.map f) i = f (nth r i) := by
  unfold nth
  rw [List.getD_eq_getElem?_getD, List.getD_eq_getElem?_getD, List.getElem?_map]
  cases r[i]? with
  | none => exact h0.symm
  | some a => rfl
theorem nth_mem {r : List Int} {i : Nat} (h : i < r.length) : nth r i ∈ r := by
  unfold nth
  rw [List.getD_eq_getElem?_getD, List.getElem?_eq_getElem h]
  exact List.getElem_mem h
theorem nth_out {r : List Int} {i : Nat} (h : r.length ≤ i) : nth r i = 0 := by
  unfold nth
  rw [List.getD_eq_getElem?_getD, List.getElem?_eq_none h]
  rfl
theorem gcdL_dvd_nth (r : List Int) (i : Nat) : ((gcdL r : Nat) : Int) ∣ nth r i := by
  by_cases h : i < r.length
  · exact gcdL_dvd (nth_mem h)
  · rw [nth_out (by omega)]; exact Int.dvd_zero _
def lowBy (r : List Int) : Int := if gcdL r = 0 then 1 else (gcdL r : Int)
theorem lowBy_pos (r : List Int) : 0 < lowBy r := by unfold lowBy; split <;> omega
theorem low_nth (r : List Int) (i : Nat) : nth r i = lowBy r * nth (low r) i := by
  unfold low lowBy
  split
  · omega
  · rw [nth_map (by simp), Int.mul_ediv_cancel' (gcdL_dvd_nth r i)]
theorem gcdL_eq_zero {r : List Int} (h : gcdL r = 0) (i : Nat) : nth r i = 0 := by
  have := gcdL_dvd_nth r i
  rw [h] at this
  simpa using this
theorem low_gcd {r : List Int} {i : Nat} (h : nth r i ≠ 0) : gcdL (low r) = 1 := by
  have h0 : gcdL r ≠ 0 := fun e => h (gcdL_eq_zero e i)
  unfold low
  rw [if_neg h0]
  exact gcdL_low (Nat.pos_of_ne_zero h0)
def mixL (one : List Int) (v : Int) (other : List Int) (w : Int) : List Int := List.zipWith (fun a b => a * w - b * v) one other
def offL (one : List Int) (v : Int) (other : List Int) (w : Int) : List Int := low (mixL one v other w)
theorem mixL_length {one other : List Int} (h : one.length = other.length) (v w : Int) : (mixL one v other w).length = one.length := by
  unfold mixL; rw [List.length_zipWith, ← h, Nat.min_self]
theorem mixL_nth {one other : List Int} (h : one.length = other.length) (v w : Int) (i : Nat) : nth (mixL one v other w) i = nth one i * w - nth other i * v := by
  by_cases hi : i < one.length
  · unfold mixL nth
    simp only [List.getD_eq_getElem?_getD, List.getElem?_zipWith, List.getElem?_eq_getElem hi, List.getElem?_eq_getElem (h ▸ hi : i < other.length)]
    rfl
  · rw [nth_out (by rw [mixL_length h]; omega), nth_out (r := one) (by omega), nth_out (r := other) (by omega)]
    simp
theorem offL_length {one other : List Int} (h : one.length = other.length) (v w : Int) : (offL one v other w).length = one.length := by
  unfold offL; rw [low_length, mixL_length h]
theorem offL_nth {one other : List Int} (h : one.length = other.length) (v w : Int) : ∃ g : Int, 0 < g ∧ ∀ i, g * nth (offL one v other w) i = nth one i * w - nth other i * v := by
  refine ⟨lowBy (mixL one v other w), lowBy_pos _, fun i => ?_⟩
  unfold offL
  rw [← low_nth, mixL_nth h]
theorem dotN_lin {n : Nat} {a b c : List Int} {g u v : Int} (h : ∀ i, g * nth c i = u * nth a i + v * nth b i) (x : Nat → Int) : g * dotN n c x = u * dotN n a x + v * dotN n b x := by
  unfold dotN
  rw [← sumN_mul, ← sumN_mul, ← sumN_mul, ← sumN_add]
  refine sumN_congr fun i _ => ?_
  have := h i
  grind
theorem dotN_scale {n : Nat} {a c : List Int} {g : Int} (h : ∀ i, nth a i = g * nth c i) (x : Nat → Int) : dotN n a x = g * dotN n c x := by
  unfold dotN
  rw [← sumN_mul]
  refine sumN_congr fun i _ => ?_
  rw [h i, Int.mul_assoc]
theorem dotN_off {n : Nat} {one other : List Int} (h : one.length = other.length) (v w : Int) (x : Nat → Int) : ∃ g : Int, 0 < g ∧ g * dotN n (offL one v other w) x = w * dotN n one x - v * dotN n other x := by
  obtain ⟨g, hg, e⟩ := offL_nth h v w
  refine ⟨g, hg, ?_⟩
  have := dotN_lin (n := n) (c := offL one v other w) (a := one) (b := other) (g := g) (u := w) (v := -v) (fun i => by rw [e i]; grind) x
  rw [this]; grind
theorem dotN_low (n : Nat) (r : List Int) (x : Nat → Int) : dotN n (low r) x = 0 ↔ dotN n r x = 0 := by
  rw [dotN_scale (fun i => low_nth r i) x]
  have := lowBy_pos r
  constructor
  · intro h; rw [h]; simp
  · intro h
    rcases Int.mul_eq_zero.mp h with z | z
    · omega
    · exact z
end M
set_option maxRecDepth 100000
set_option maxHeartbeats 4000000
namespace M
def firstNN : List Int → Option Nat
  | [] => none
  | a :: r => if a ≠ 0 then some 0 else (firstNN r).map (· + 1)
theorem firstNN_none : ∀ {l : List Int}, firstNN l = none → ∀ a ∈ l, a = 0
  | [], _, _, h => by simp at h
  | b :: r, e, a, h => by
    unfold firstNN at e
    split at e
    · cases e
    · rename_i hb
      rcases List.mem_cons.mp h with rfl | h
      · simpa using hb
      · exact firstNN_none (by simpa using e) a h
theorem firstNN_some : ∀ {l : List Int} {k : Nat}, firstNN l = some k → k < l.length ∧ nth l k ≠ 0 ∧ ∀ i, i < k → nth l i = 0
  | [], _, e => by cases e
  | b :: r, k, e => by
    unfold firstNN at e
    split at e
    · rename_i hb
      cases e
      exact ⟨by simp, hb, fun i hi => by omega⟩
    · rename_i hb
      cases e2 : firstNN r with
      | none => rw [e2] at e; cases e
      | some j =>
        rw [e2] at e
        cases e
        obtain ⟨h1, h2, h3⟩ := firstNN_some e2
        refine ⟨by simp; omega, by simpa [nth] using h2, fun i hi => ?_⟩
        cases i with
        | zero => simpa [nth] using hb
        | succ i => simpa [nth] using h3 i (Nat.lt_of_succ_lt_succ hi)
def sgnL (row : List Int) (at_ : Nat) : List Int := if nth row at_ > 0 then row else row.map (- ·)
def clrL (lead : List Int) (at_ : Nat) (row : List Int) : List Int := if nth row at_ = 0 then row else offL row (nth row at_) lead (nth lead at_)
def plainStep (s : List (List Int) × List (List Int)) (at_ : Nat) : List (List Int) × List (List Int) :=
  match firstNN (s.1.map (nth · at_)) with
  | none => s
  | some k => ((s.1.eraseIdx k).map (clrL (sgnL (s.1.getD k []) at_) at_), s.2.map (clrL (sgnL (s.1.getD k []) at_) at_) ++ [sgnL (s.1.getD k []) at_])
def plainL (rows : List (List Int)) (n : Nat) : List (List Int) := ((List.range n).foldl plainStep (rows.map low, [])).2
structure Good (n : Nat) (p : Nat × List Int) : Prop where
  len : p.2.length = n
  lt : p.1 < n
  pos : 0 < nth p.2 p.1
  zero : ∀ i, i < p.1 → nth p.2 i = 0
  one : gcdL p.2 = 1
structure Pl (n : Nat) (P : List (Nat × List Int)) : Prop where
  good : ∀ p ∈ P, Good n p
  pw : P.Pairwise fun p q => p.1 < q.1 ∧ nth p.2 q.1 = 0
def Lowd (r : List Int) : Prop := ∀ i, nth r i ≠ 0 → gcdL r = 1
theorem low_lowd (r : List Int) : Lowd (low r) := fun i h => low_gcd (i := i) fun z => by
  have := low_nth r i
  rw [z] at this
  rcases Int.mul_eq_zero.mp this.symm with q | q
  · have := lowBy_pos r; omega
  · exact h q
theorem gcdL_neg (r : List Int) : gcdL (r.map (- ·)) = gcdL r := by
  unfold gcdL
  have : ∀ (l : List Int) (c : Nat), (l.map (- ·)).foldl (fun c n => Nat.gcd c n.natAbs) c = l.foldl (fun c n => Nat.gcd c n.natAbs) c := by
    intro l
    induction l with
    | nil => intro c; rfl
    | cons a l ih => intro c; simp only [List.map_cons, List.foldl_cons, Int.natAbs_neg]; exact ih _
  exact this r 0
theorem sgnL_length (row : List Int) (a : Nat) : (sgnL row a).length = row.length := by unfold sgnL; split <;> simp
theorem sgnL_nth (row : List Int) (a : Nat) : ∃ g : Int, (g = 1 ∨ g = -1) ∧ ∀ i, nth (sgnL row a) i = g * nth row i := by
  unfold sgnL
  split
  · exact ⟨1, .inl rfl, fun i => by omega⟩
  · exact ⟨-1, .inr rfl, fun i => by rw [nth_map (by simp)]; omega⟩
theorem sgnL_lowd {row : List Int} {a : Nat} (h : Lowd row) : Lowd (sgnL row a) := by
  unfold sgnL
  split
  · exact h
  · intro i hi
    rw [gcdL_neg]
    refine h i fun z => hi ?_
    rw [nth_map (by simp), z]; rfl
theorem sgnL_pos {row : List Int} {a : Nat} (h : nth row a ≠ 0) : 0 < nth (sgnL row a) a := by
  unfold sgnL
  split
  · assumption
  · rw [nth_map (by simp)]; omega
theorem dot_sgn (n : Nat) (row : List Int) (a : Nat) (x : Nat → Int) : dotN n (sgnL row a) x = 0 ↔ dotN n row x = 0 := by
  obtain ⟨g, hg, e⟩ := sgnL_nth row a
  have := dotN_scale (n := n) (a := sgnL row a) (c := row) e x
  rw [this]
  rcases hg with rfl | rfl <;> omega
section
variable {lead row : List Int} {a : Nat}
theorem clrL_length (h : row.length = lead.length) : (clrL lead a row).length = row.length := by
  unfold clrL; split
  · rfl
  · exact offL_length h _ _
theorem clrL_nth (hl : 0 < nth lead a) (h : row.length = lead.length) : ∃ g u : Int, 0 < g ∧ 0 < u ∧ ∃ v : Int, (nth row a = 0 → v = 0) ∧ ∀ i, g * nth (clrL lead a row) i = u * nth row i - v * nth lead i := by
  unfold clrL
  split
  · exact ⟨1, 1, by omega, by omega, 0, fun _ => rfl, fun i => by omega⟩
  · rename_i hz
    obtain ⟨g, hg, e⟩ := offL_nth h (nth row a) (nth lead a)
    exact ⟨g, nth lead a, hg, hl, nth row a, fun z => absurd z hz, fun i => by rw [e i]; grind⟩
theorem clrL_at (hl : 0 < nth lead a) (h : row.length = lead.length) : nth (clrL lead a row) a = 0 := by
  unfold clrL
  split
  · assumption
  · obtain ⟨g, hg, e⟩ := offL_nth h (nth row a) (nth lead a)
    have := e a
    have : g * nth (offL row (nth row a) lead (nth lead a)) a = 0 := by rw [this]; grind
    rcases Int.mul_eq_zero.mp this with z | z
    · omega
    · exact z
theorem clrL_lowd (h : Lowd row) : Lowd (clrL lead a row) := by
  unfold clrL
  split
  · exact h
  · exact low_lowd _
theorem clrL_zero (hl : 0 < nth lead a) (h : row.length = lead.length) {i : Nat} (h1 : nth row i = 0) (h2 : nth lead i = 0) : nth (clrL lead a row) i = 0 := by
  obtain ⟨g, u, hg, hu, v, _, e⟩ := clrL_nth hl h
  have := e i
  rw [h1, h2] at this
  have : g * nth (clrL lead a row) i = 0 := by rw [this]; grind
  rcases Int.mul_eq_zero.mp this with z | z
  · omega
  · exact z
theorem clrL_pos (hl : 0 < nth lead a) (h : row.length = lead.length) {i : Nat} (h1 : 0 < nth row i) (h2 : nth lead i = 0) : 0 < nth (clrL lead a row) i := by
  obtain ⟨g, u, hg, hu, v, _, e⟩ := clrL_nth hl h
  have e' := e i
  rw [h2] at e'
  have : 0 < g * nth (clrL lead a row) i := by
    rw [e']
    have := Int.mul_pos hu h1
    omega
  by_cases hn : nth (clrL lead a row) i ≤ 0
  · have := Int.mul_nonpos_of_nonneg_of_nonpos (show 0 ≤ g by omega) hn
    omega
  · omega
theorem dot_clr (n : Nat) (hl : 0 < nth lead a) (h : row.length = lead.length) {x : Nat → Int} (hx : dotN n lead x = 0) : dotN n (clrL lead a row) x = 0 ↔ dotN n row x = 0 := by
  obtain ⟨g, u, hg, hu, v, _, e⟩ := clrL_nth hl h
  have := dotN_lin (n := n) (c := clrL lead a row) (a := row) (b := lead) (g := g) (u := u) (v := -v) (fun i => by rw [e i]; grind) x
  rw [hx] at this
  constructor
  · intro z
    rw [z] at this
    have : u * dotN n row x = 0 := by omega
    rcases Int.mul_eq_zero.mp this with q | q
    · omega
    · exact q
  · intro z
    rw [z] at this
    have : g * dotN n (clrL lead a row) x = 0 := by omega
    rcases Int.mul_eq_zero.mp this with q | q
    · omega
    · exact q
end
structure PSt (n a : Nat) (left : List (List Int)) (P : List (Nat × List Int)) : Prop where
  ll : ∀ r ∈ left, r.length = n
  lz : ∀ r ∈ left, ∀ i, i < a → nth r i = 0
  lw : ∀ r ∈ left, Lowd r
  pl : Pl n P
  pa : ∀ p ∈ P, p.1 < a
theorem nth_map_col (left : List (List Int)) (a k : Nat) : nth (left.map (nth · a)) k = nth (left.getD k []) a := by
  unfold nth
  simp only [List.getD_eq_getElem?_getD, List.getElem?_map]
  cases left[k]? with
  | none => rfl
  | some r => rfl
theorem getD_mem {left : List (List Int)} {k : Nat} (h : k < left.length) : left.getD k [] ∈ left := by
  rw [List.getD_eq_getElem?_getD, List.getElem?_eq_getElem h]
  exact List.getElem_mem h
theorem perm_erase : ∀ {l : List (List Int)} {k : Nat} (h : k < l.length), l.Perm (l[k] :: l.eraseIdx k)
  | [], k, h => by simp at h
  | a :: l, 0, h => by simp
  | a :: l, k + 1, h => by
    have := perm_erase (l := l) (k := k) (by simpa using h)
    simp only [List.getElem_cons_succ, List.eraseIdx_cons_succ]
    exact (this.cons a).trans (List.Perm.swap _ _ _)
theorem step_ok {n a : Nat} (ha : a < n) {left : List (List Int)} {P : List (Nat × List Int)} (h : PSt n a left P) :
    ∃ left' P', plainStep (left, P.map (·.2)) a = (left', P'.map (·.2)) ∧ PSt n (a + 1) left' P' ∧ left'.length + P'.length = left.length + P.length ∧ ∀ x, Null n (P'.map (·.2) ++ left') x ↔ Null n (P.map (·.2) ++ left) x := by
  unfold plainStep
  dsimp only
  split
  · rename_i e
    refine ⟨left, P, rfl, ⟨h.ll, fun r hr i hi => ?_, h.lw, h.pl, fun p hp => Nat.lt_succ_of_lt (h.pa p hp)⟩, rfl, fun x => Iff.rfl⟩
    by_cases hia : i = a
    · subst hia
      exact firstNN_none e _ (List.mem_map.mpr ⟨r, hr, rfl⟩)
    · exact h.lz r hr i (by omega)
  · rename_i k e
    obtain ⟨k1, k2, _⟩ := firstNN_some e
    rw [List.length_map] at k1
    rw [nth_map_col] at k2
    have hm : left.getD k [] ∈ left := getD_mem k1
    have hperm : left.Perm (left.getD k [] :: left.eraseIdx k) := by
      rw [List.getD_eq_getElem?_getD, List.getElem?_eq_getElem k1]
      exact perm_erase k1
    generalize left.getD k [] = row at *
    generalize hld : sgnL row a = lead at *
    have ll : lead.length = n := by rw [← hld, sgnL_length]; exact h.ll row hm
    have lp : 0 < nth lead a := by rw [← hld]; exact sgnL_pos k2
    have lz : ∀ i, i < a → nth lead i = 0 := fun i hi => by
      obtain ⟨g, _, e⟩ := sgnL_nth row a
      rw [← hld, e, h.lz row hm i hi]; omega
    have lw : Lowd lead := by rw [← hld]; exact sgnL_lowd (h.lw row hm)
    have sub : ∀ r ∈ left.eraseIdx k, r ∈ left := fun r hr => List.mem_of_mem_eraseIdx hr
    refine ⟨(left.eraseIdx k).map (clrL lead a), P.map (fun p => (p.1, clrL lead a p.2)) ++ [(a, lead)], ?_, ⟨?_, ?_, ?_, ⟨?_, ?_⟩, ?_⟩, ?_, ?_⟩
    · simp [Function.comp_def]
    · intro r hr
      obtain ⟨q, hq, rfl⟩ := List.mem_map.mp hr
      rw [clrL_length (by rw [ll, h.ll q (sub q hq)]), h.ll q (sub q hq)]
    · intro r hr i hi
      obtain ⟨q, hq, rfl⟩ := List.mem_map.mp hr
      have hql : q.length = lead.length := by rw [ll, h.ll q (sub q hq)]
      by_cases hia : i = a
      · subst hia; exact clrL_at lp hql
      · exact clrL_zero lp hql (h.lz q (sub q hq) i (by omega)) (lz i (by omega))
    · intro r hr
      obtain ⟨q, hq, rfl⟩ := List.mem_map.mp hr
      exact clrL_lowd (h.lw q (sub q hq))
    · intro p hp
      rcases List.mem_append.mp hp with hp | hp
      · obtain ⟨q, hq, rfl⟩ := List.mem_map.mp hp
        have g := h.pl.good q hq
        have hql : q.2.length = lead.length := by rw [ll, g.len]
        have pp := clrL_pos lp hql g.pos (lz q.1 (h.pa q hq))
        exact ⟨by rw [clrL_length hql]; exact g.len, g.lt, pp, fun i hi => clrL_zero lp hql (g.zero i hi) (lz i (Nat.lt_trans hi (h.pa q hq))), clrL_lowd (fun i _ => g.one) q.1 (by omega)⟩
      · rw [List.mem_singleton.mp hp]
        exact ⟨ll, ha, lp, lz, lw a (by omega)⟩
    · rw [List.pairwise_append]
      refine ⟨?_, by simp, fun p hp q hq => ?_⟩
      · rw [List.pairwise_map]
        refine List.Pairwise.imp_of_mem (fun {p q} hp hq hpq => ?_) h.pl.pw
        refine ⟨hpq.1, ?_⟩
        have g := h.pl.good p hp
        exact clrL_zero lp (by rw [ll, g.len]) hpq.2 (lz q.1 (h.pa q hq))
      · obtain ⟨p', hp', rfl⟩ := List.mem_map.mp hp
        rw [List.mem_singleton.mp hq]
        exact ⟨h.pa p' hp', clrL_at lp (by rw [ll, (h.pl.good p' hp').len])⟩
    · intro p hp
      rcases List.mem_append.mp hp with hp | hp
      · obtain ⟨q, hq, rfl⟩ := List.mem_map.mp hp
        exact Nat.lt_succ_of_lt (h.pa q hq)
      · rw [List.mem_singleton.mp hp]; exact Nat.lt_succ_self a
    · have := hperm.length_eq
      simp only [List.length_map, List.length_append, List.length_cons, List.length_nil] at *
      omega
    · intro x
      have hlead : dotN n lead x = 0 ↔ dotN n row x = 0 := by rw [← hld]; exact dot_sgn n row a x
      constructor
      · intro hx r hr
        have h0 : dotN n lead x = 0 := hx lead (by simp)
        rcases List.mem_append.mp hr with hr | hr
        · obtain ⟨p, hp, rfl⟩ := List.mem_map.mp hr
          exact (dot_clr n lp (by rw [ll, (h.pl.good p hp).len]) h0).mp (hx _ (List.mem_append_left _ (List.mem_map.mpr ⟨(p.1, clrL lead a p.2), by simp; exact .inl ⟨p.1, p.2, hp, rfl, rfl⟩, rfl⟩)))
        · rcases List.mem_cons.mp (hperm.mem_iff.mp hr) with rfl | hr
          · exact hlead.mp h0
          · exact (dot_clr n lp (by rw [ll, h.ll r (sub r hr)]) h0).mp (hx _ (List.mem_append_right _ (List.mem_map.mpr ⟨r, hr, rfl⟩)))
      · intro hx r hr
        have h0 : dotN n lead x = 0 := hlead.mpr (hx row (List.mem_append_right _ hm))
        rcases List.mem_append.mp hr with hr | hr
        · obtain ⟨q, hq, rfl⟩ := List.mem_map.mp hr
          rcases List.mem_append.mp hq with hq | hq
          · obtain ⟨p, hp, rfl⟩ := List.mem_map.mp hq
            exact (dot_clr n lp (by rw [ll, (h.pl.good p hp).len]) h0).mpr (hx _ (List.mem_append_left _ (List.mem_map.mpr ⟨p, hp, rfl⟩)))
          · rw [List.mem_singleton.mp hq]; exact h0
        · obtain ⟨q, hq, rfl⟩ := List.mem_map.mp hr
          exact (dot_clr n lp (by rw [ll, h.ll q (sub q hq)]) h0).mpr (hx _ (List.mem_append_right _ (sub q hq)))
theorem steps_ok {n : Nat} {left : List (List Int)} (hl : ∀ r ∈ left, r.length = n) (hw : ∀ r ∈ left, Lowd r) : ∀ a, a ≤ n →
    ∃ left' P', (List.range a).foldl plainStep (left, []) = (left', P'.map (·.2)) ∧ PSt n a left' P' ∧ left'.length + P'.length = left.length ∧ ∀ x, Null n (P'.map (·.2) ++ left') x ↔ Null n left x
  | 0, _ => ⟨left, [], rfl, ⟨hl, fun _ _ i hi => by omega, hw, ⟨by simp, by simp⟩, by simp⟩, by simp, fun x => by simp⟩
  | a + 1, ha => by
    obtain ⟨l1, P1, e1, s1, c1, n1⟩ := steps_ok hl hw a (by omega)
    obtain ⟨l2, P2, e2, s2, c2, n2⟩ := step_ok (by omega) s1
    refine ⟨l2, P2, ?_, s2, by omega, fun x => (n2 x).trans (n1 x)⟩
    rw [List.range_succ, List.foldl_append, e1]
    exact e2
end M
set_option maxRecDepth 100000
set_option maxHeartbeats 4000000
namespace M
def dotF (n : Nat) (f g : Nat → Int) : Int := sumN n fun i => f i * g i
theorem dotF_comm (n : Nat) (f g : Nat → Int) : dotF n f g = dotF n g f := sumN_congr fun i _ => Int.mul_comm _ _
theorem dotN_F (n : Nat) (r : List Int) (x : Nat → Int) : dotN n r x = dotF n (nth r) x := rfl
theorem dotF_lin {n : Nat} {a b c : Nat → Int} {g u v : Int} (h : ∀ i, i < n → g * c i = u * a i + v * b i) (x : Nat → Int) : g * dotF n c x = u * dotF n a x + v * dotF n b x := by
  unfold dotF
  rw [← sumN_mul, ← sumN_mul, ← sumN_mul, ← sumN_add]
  refine sumN_congr fun i hi => ?_
  have := h i hi
  grind
theorem dotF_lin2 {n : Nat} {a b : Nat → Int} {u v : Int} (x : Nat → Int) : dotF n x (fun i => u * a i + v * b i) = u * dotF n x a + v * dotF n x b := by
  rw [dotF_comm n x a, dotF_comm n x b, dotF_comm, ← dotF_lin (g := 1) (c := fun i => u * a i + v * b i) (fun i _ => by omega) x]
  omega
theorem dotF_congr {n : Nat} {a b : Nat → Int} (h : ∀ i, i < n → a i = b i) (x : Nat → Int) : dotF n a x = dotF n b x := sumN_congr fun i hi => by rw [h i hi]
def combN (T : List Int) (R : List (List Int)) (i : Nat) : Int := sumN R.length fun j => nth T j * nth (R.getD j []) i
theorem sumN_comm (m n : Nat) (f : Nat → Nat → Int) : sumN m (fun i => sumN n fun j => f i j) = sumN n fun j => sumN m fun i => f i j := by
  induction m with
  | zero => rw [sumN_zero (n := n) (f := fun j => sumN 0 fun i => f i j) fun _ _ => rfl]; rfl
  | succ m ih => simp only [sumN]; rw [sumN_add, ih]
theorem dot_comb (n : Nat) (T : List Int) (R : List (List Int)) (x : Nat → Int) : dotF n (combN T R) x = sumN R.length fun j => nth T j * dotN n (R.getD j []) x := by
  unfold dotF combN
  have : ∀ i, (sumN R.length fun j => nth T j * nth (R.getD j []) i) * x i = sumN R.length fun j => nth T j * (nth (R.getD j []) i * x i) := fun i => by
    rw [Int.mul_comm, ← sumN_mul]
    refine sumN_congr fun j _ => by grind
  rw [sumN_congr fun i _ => this i, sumN_comm]
  refine sumN_congr fun j _ => ?_
  unfold dotN
  rw [← sumN_mul]
theorem dot_comb_null {n : Nat} {T : List Int} {R : List (List Int)} {x : Nat → Int} (h : Null n R x) : dotF n (combN T R) x = 0 := by
  rw [dot_comb]
  refine sumN_zero fun j hj => ?_
  rw [h _ (getD_mem hj)]
  omega
def Spanned (n : Nat) (R : List (List Int)) (x : Nat → Int) : Prop := ∃ k : Int, k ≠ 0 ∧ ∃ T : List Int, T.length = R.length ∧ ∀ i, i < n → k * x i = combN T R i
theorem Spanned.dot {n : Nat} {R : List (List Int)} {x y : Nat → Int} (h : Spanned n R x) (hy : Null n R y) : dotF n x y = 0 := by
  obtain ⟨k, hk, T, _, e⟩ := h
  have h1 : k * dotF n x y = 1 * dotF n (combN T R) y + 0 * dotF n x y := dotF_lin (g := k) (c := x) (a := combN T R) (b := x) (u := 1) (v := 0) (fun i hi => by rw [e i hi]; omega) y
  rw [dot_comb_null hy] at h1
  have : k * dotF n x y = 0 := by omega
  rcases Int.mul_eq_zero.mp this with z | z
  · exact absurd z hk
  · exact z
def unitL (n a : Nat) : List Int := (List.replicate n 0).set a 1
theorem unitL_nth {n a : Nat} (ha : a < n) (i : Nat) : nth (unitL n a) i = if i = a then 1 else 0 := by
  unfold unitL nth
  rw [List.getD_eq_getElem?_getD, List.getElem?_set]
  by_cases h : a = i
  · subst h; simp [ha]
  · rw [if_neg h, if_neg (fun z => h z.symm)]
    rw [List.getElem?_replicate]
    split <;> rfl
def unitsL (n : Nat) : List (List Int) := (List.range n).map (unitL n)
def dotL (a b : List Int) : Int := (List.zipWith (· * ·) a b).sum
def stillStep (lists : List (List Int)) (row : List Int) : List (List Int) :=
  match firstNN (lists.map (dotL row)) with
  | none => lists
  | some k => (lists.eraseIdx k).map fun one => offL one (dotL row one) (lists.getD k []) (dotL row (lists.getD k []))
theorem dotL_sum : ∀ (a b : List Int), dotL a b = sumN b.length fun i => nth a i * nth b i
  | _, [] => by unfold dotL; simp [sumN]
  | [], b :: r => by
    unfold dotL
    rw [sumN_zero fun i _ => by unfold nth; simp]
    simp
  | a :: l, b :: r => by
    have ih := dotL_sum l r
    unfold dotL at *
    rw [List.zipWith_cons_cons, List.sum_cons, ih, List.length_cons]
    have : ∀ (n : Nat) (f : Nat → Int), sumN (n + 1) f = f 0 + sumN n fun i => f (i + 1) := by
      intro n f
      induction n with
      | zero => simp [sumN]
      | succ n ih2 => rw [sumN, ih2, sumN]; omega
    rw [this]
    congr 1
theorem dotL_F {n : Nat} {a b : List Int} (hb : b.length = n) : dotL a b = dotF n (nth a) (nth b) := by rw [dotL_sum, hb]; rfl
structure SSt (n : Nat) (R lists : List (List Int)) : Prop where
  len : ∀ l ∈ lists, l.length = n
  nul : ∀ r ∈ R, ∀ l ∈ lists, dotF n (nth r) (nth l) = 0
  spn : ∀ x, Null n lists x → Spanned n R x
end M
set_option maxRecDepth 100000
set_option maxHeartbeats 4000000
namespace M
theorem Pl.other {n : Nat} {P : List (Nat × List Int)} (pl : Pl n P) : ∀ {p q : Nat × List Int}, p ∈ P → q ∈ P → p.1 ≠ q.1 → nth p.2 q.1 = 0 := by
  intro p q hp hq hne
  by_cases h : q.1 < p.1
  · exact (pl.good p hp).zero _ h
  · have : ∀ {P : List (Nat × List Int)}, P.Pairwise (fun p q => p.1 < q.1 ∧ nth p.2 q.1 = 0) → p ∈ P → q ∈ P → p.1 < q.1 → nth p.2 q.1 = 0 := by
      intro P pw hp hq hlt
      induction P with
      | nil => cases hp
      | cons r P ih =>
        have h0 := List.pairwise_cons.mp pw
        rcases List.mem_cons.mp hp with rfl | hp
        · rcases List.mem_cons.mp hq with rfl | hq
          · omega
          · exact (h0.1 q hq).2
        · rcases List.mem_cons.mp hq with rfl | hq
          · have := (h0.1 p (by assumption)).1; omega
          · exact ih h0.2 hp hq
    exact this pl.pw hp hq (by omega)
theorem gcdL_mul (a : Int) (r : List Int) : gcdL (r.map (a * ·)) = a.natAbs * gcdL r := by
  unfold gcdL
  have : ∀ (l : List Int) (c : Nat), (l.map (a * ·)).foldl (fun c n => Nat.gcd c n.natAbs) (a.natAbs * c) = a.natAbs * l.foldl (fun c n => Nat.gcd c n.natAbs) c := by
    intro l
    induction l with
    | nil => intro c; rfl
    | cons b l ih => intro c; simp only [List.map_cons, List.foldl_cons, Int.natAbs_mul, Nat.gcd_mul_left]; exact ih _
  exact this r 0
theorem list_ext_nth {r s : List Int} (hl : r.length = s.length) (h : ∀ i, i < r.length → nth r i = nth s i) : r = s := by
  refine List.ext_getElem hl fun i h1 h2 => ?_
  have := h i h1
  unfold nth at this
  simpa [List.getD_eq_getElem?_getD, h1, h2] using this
theorem prop_eq {r s : List Int} (hl : r.length = s.length) (h1 : gcdL r = 1) (h2 : gcdL s = 1) {a b : Int} (ha : 0 < a) (hb : 0 < b) (h : ∀ i, i < r.length → a * nth r i = b * nth s i) : r = s := by
  have e : r.map (a * ·) = s.map (b * ·) := list_ext_nth (by simp [hl]) fun i hi => by
    rw [nth_map (by simp), nth_map (by simp)]; exact h i (by simpa using hi)
  have e2 := gcdL_mul a r
  rw [e, gcdL_mul, h1, h2] at e2
  have hab : a = b := by omega
  subst hab
  exact list_ext_nth hl fun i hi => Int.eq_of_mul_eq_mul_left (by omega) (h i hi)
end M
set_option maxRecDepth 100000
set_option maxHeartbeats 4000000
namespace M
def SzL (b : Nat) (r : List Int) : Prop := ∀ x ∈ r, Sz b x
def SzLL (b : Nat) (R : List (List Int)) : Prop := ∀ r ∈ R, SzL b r
theorem SzL.mono {b c : Nat} {r : List Int} (h : SzL b r) (hbc : b ≤ c) : SzL c r := fun x hx => (h x hx).mono hbc
theorem SzLL.mono {b c : Nat} {r : List (List Int)} (h : SzLL b r) (hbc : b ≤ c) : SzLL c r := fun x hx => (h x hx).mono hbc
theorem Sz.zero (b : Nat) : Sz b 0 := by unfold Sz; simp; exact Nat.two_pow_pos b
theorem SzL.nth {b : Nat} {r : List Int} (h : SzL b r) (i : Nat) : Sz b (M.nth r i) := by
  by_cases hi : i < r.length
  · exact h _ (nth_mem hi)
  · rw [nth_out (by omega)]; exact Sz.zero b
theorem SzL.low {b : Nat} {r : List Int} (h : SzL b r) : SzL b (M.low r) := by
  intro x hx
  unfold M.low at hx
  split at hx
  · exact h x hx
  · obtain ⟨y, hy, rfl⟩ := List.mem_map.mp hx
    exact Nat.lt_of_le_of_lt (Int.natAbs_ediv_le_natAbs y _) (h y hy)
theorem SzL.mix {b1 b2 bv bw : Nat} {one other : List Int} {v w : Int} (h1 : SzL b1 one) (h2 : SzL b2 other) (hv : Sz bv v) (hw : Sz bw w) : SzL (max (b1 + bw) (b2 + bv) + 1) (mixL one v other w) := by
  intro x hx
  unfold mixL at hx
  obtain ⟨i, hi, e⟩ := List.getElem_of_mem hx
  rw [List.getElem_zipWith] at e
  subst e
  exact Sz.sub (Sz.mul (h1 _ (List.getElem_mem _)) hw) (Sz.mul (h2 _ (List.getElem_mem _)) hv)
theorem SzL.off {b1 b2 bv bw : Nat} {one other : List Int} {v w : Int} (h1 : SzL b1 one) (h2 : SzL b2 other) (hv : Sz bv v) (hw : Sz bw w) : SzL (max (b1 + bw) (b2 + bv) + 1) (offL one v other w) := (SzL.mix h1 h2 hv hw).low
theorem SzL.sgn {b : Nat} {r : List Int} (h : SzL b r) (a : Nat) : SzL b (sgnL r a) := by
  unfold sgnL
  split
  · exact h
  · intro x hx
    obtain ⟨y, hy, rfl⟩ := List.mem_map.mp hx
    exact (h y hy).neg
theorem SzL.clr {b : Nat} {row lead : List Int} (h1 : SzL b row) (h2 : SzL b lead) (a : Nat) : SzL (2 * b + 1) (clrL lead a row) := by
  unfold clrL
  split
  · exact h1.mono (by omega)
  · exact (SzL.off h1 h2 (h1.nth a) (h2.nth a)).mono (by omega)
theorem plainStep_sz {b a : Nat} {left done : List (List Int)} (h1 : SzLL b left) (h2 : SzLL b done) : SzLL (2 * b + 1) (plainStep (left, done) a).1 ∧ SzLL (2 * b + 1) (plainStep (left, done) a).2 := by
  unfold plainStep
  dsimp only
  split
  · exact ⟨h1.mono (by omega), h2.mono (by omega)⟩
  · rename_i k e
    have k1 := (firstNN_some e).1
    rw [List.length_map] at k1
    have hl : SzL b (sgnL (left.getD k []) a) := SzL.sgn (h1 _ (getD_mem k1)) a
    refine ⟨fun r hr => ?_, fun r hr => ?_⟩
    · obtain ⟨q, hq, rfl⟩ := List.mem_map.mp hr
      exact SzL.clr (h1 q (List.mem_of_mem_eraseIdx hq)) hl a
    · rcases List.mem_append.mp hr with hr | hr
      · obtain ⟨q, hq, rfl⟩ := List.mem_map.mp hr
        exact SzL.clr (h2 q hq) hl a
      · rw [List.mem_singleton.mp hr]; exact hl.mono (by omega)
def grow (b p : Nat) : Nat := 2 ^ p * (b + 1) - 1
theorem grow_zero (b : Nat) : grow b 0 = b := by unfold grow; simp
theorem grow_succ (b p : Nat) : 2 * grow b p + 1 = grow b (p + 1) := by
  unfold grow
  have h : 0 < 2 ^ p * (b + 1) := Nat.mul_pos (Nat.two_pow_pos p) (Nat.succ_pos b)
  have e : 2 ^ (p + 1) * (b + 1) = 2 * (2 ^ p * (b + 1)) := by rw [Nat.pow_succ, Nat.mul_comm (2 ^ p) 2, Nat.mul_assoc]
  rw [e]
  omega
theorem plainStep_len {a : Nat} {left done : List (List Int)} : ((plainStep (left, done) a) = (left, done)) ∨ (plainStep (left, done) a).2.length = done.length + 1 := by
  unfold plainStep
  dsimp only
  split
  · exact .inl rfl
  · exact .inr (by simp)
structure PSz (n b a : Nat) (rows : List (List Int)) (left done : List (List Int)) : Prop where
  eq : (List.range a).foldl plainStep (rows.map low, []) = (left, done)
  ll : ∀ r ∈ left, r.length = n
  dl : ∀ r ∈ done, r.length = n
  cnt : left.length + done.length = rows.length
  ls : SzLL (grow b done.length) left
  ds : SzLL (grow b done.length) done
theorem PSz.start {n b : Nat} {rows : List (List Int)} (hl : ∀ r ∈ rows, r.length = n) (hs : SzLL b rows) : PSz n b 0 rows (rows.map low) [] := by
  refine ⟨rfl, fun r hr => ?_, by simp, by simp, fun r hr => ?_, fun r hr => by cases hr⟩
  · obtain ⟨q, hq, rfl⟩ := List.mem_map.mp hr
    rw [low_length]; exact hl q hq
  · obtain ⟨q, hq, rfl⟩ := List.mem_map.mp hr
    rw [List.length_nil, grow_zero]
    exact (hs q hq).low
theorem PSz.step {n b a : Nat} {rows left done : List (List Int)} (h : PSz n b a rows left done) (hl : ∀ r ∈ rows, r.length = n) (ha : a < n) : PSz n b (a + 1) rows (plainStep (left, done) a).1 (plainStep (left, done) a).2 := by
  have eq' : (List.range (a + 1)).foldl plainStep (rows.map low, []) = plainStep (left, done) a := by
    rw [List.range_succ, List.foldl_append, h.eq]; rfl
  obtain ⟨l', P', e, s, c, _⟩ := steps_ok (n := n) (left := rows.map low) (fun r hr => by
    obtain ⟨q, hq, rfl⟩ := List.mem_map.mp hr
    rw [low_length]; exact hl q hq) (fun r hr => by
    obtain ⟨q, hq, rfl⟩ := List.mem_map.mp hr
    exact low_lowd q) (a + 1) (by omega)
  rw [eq'] at e
  refine ⟨eq', fun r hr => ?_, fun r hr => ?_, ?_, ?_, ?_⟩
  · rw [e] at hr; exact s.ll r hr
  · rw [e] at hr
    obtain ⟨p, hp, rfl⟩ := List.mem_map.mp hr
    exact (s.pl.good p hp).len
  · rw [e]; simp; simpa using c
  · rcases plainStep_len (a := a) (left := left) (done := done) with q | q
    · rw [q]; exact h.ls
    · rw [q, ← grow_succ]; exact (plainStep_sz h.ls h.ds).1
  · rcases plainStep_len (a := a) (left := left) (done := done) with q | q
    · rw [q]; exact h.ds
    · rw [q, ← grow_succ]; exact (plainStep_sz h.ls h.ds).2
theorem PSz.done {n b : Nat} {rows left done : List (List Int)} (h : PSz n b n rows left done) : plainL rows n = done := by unfold plainL; rw [h.eq]
end M
set_option maxRecDepth 100000
set_option maxHeartbeats 4000000
namespace M
open PySem PySem.Spec PyProof.Rows L2
section
variable {s s1 : S} {d : D}
@[simp] theorem zipI_ev (m : AM) (s : S) : zipI m s = (m s).bind fun x => match x.1 with
  | [.lst as, .lst bs] => .ok ((zipD as bs, none), x.2)
  | _ => .bad := rfl
@[simp] theorem enumerateI_ev (m : AM) (s : S) : enumerateI m s = (m s).bind fun x => match x.1 with
  | [.lst as] => .ok ((enumD as, none), x.2)
  | _ => .bad := rfl
@[simp] theorem strI_ev (m : EM) (s : S) : strI m s = (m s).bind fun x => match x.1 with
  | .str z => .ok ((signsD z, none), x.2)
  | _ => .bad := rfl
@[simp] theorem chainM_ev (f g : Op2) (a b c : EM) (s : S) : chainM f g a b c s = (a s).bind fun x => (b x.2).bind fun y => (f y.2.o x.1 y.1).bind fun z => match z with
  | .bl true => (c y.2).bind fun w => (g w.2.o y.1 w.1).bind fun d => .ok (d, w.2)
  | .bl false => .ok (.bl false, y.2)
  | _ => .bad := rfl
@[simp] theorem callS_ev (n : Nat) (f : FM) (m : AM) (s : S) : callS n f m s = (m s).bind fun x => if x.1.length = n then (match f x.1 x.2.o with
  | .ok (d, O1) => .ok (d, ⟨x.2.r, O1⟩)
  | _ => .bad) else .bad := rfl
@[simp] theorem truM_ev (m : EM) (s : S) : truM m s = (m s).bind fun x => match lsD x.2.o x.1 with
  | some ds => .ok (!ds.isEmpty, x.2)
  | none => .bad := rfl
@[simp] theorem repM_ev (fin : S → List D → Res (D × S)) (ma : AM) (mk : EM) (s : S) : repM fin ma mk s = (ma s).bind fun x => if x.1.length ≤ 16777216 then (mk x.2).bind fun y => match y.1 with
    | .int k => if (-(2 ^ 63) ≤ k ∧ k < 2 ^ 63) ∧ x.1.length * k.toNat ≤ 16777216 then fin y.2 (repL k x.1) else .bad
    | _ => .bad
  else .bad := rfl
@[simp] theorem finF_ev (s : S) (ds : List D) : finF s ds = .ok (.lst ds, s) := rfl
@[simp] theorem finC_ev (s : S) (ds : List D) : finC s ds = .ok (.ptr s.o.length, ⟨s.r, s.o ++ [.lst ds]⟩) := rfl
@[simp] theorem isD_non (O : Store) : isD O .non .non = .ok (.bl true) := rfl
@[simp] theorem isD_int (O : Store) (i : Int) : isD O (.int i) .non = .ok (.bl false) := rfl
@[simp] theorem isD_lst (O : Store) (i : List D) : isD O (.lst i) .non = .ok (.bl false) := rfl
@[simp] theorem isD_tup (O : Store) (i : List D) : isD O (.tup i) .non = .ok (.bl false) := rfl
@[simp] theorem isnotD_non (O : Store) : isnotD O .non .non = .ok (.bl false) := rfl
@[simp] theorem isnotD_int (O : Store) (i : Int) : isnotD O (.int i) .non = .ok (.bl true) := rfl
@[simp] theorem isnotD_lst (O : Store) (i : List D) : isnotD O (.lst i) .non = .ok (.bl true) := rfl
@[simp] theorem isnotD_tup (O : Store) (i : List D) : isnotD O (.tup i) .non = .ok (.bl true) := rfl
@[simp] theorem tupG2_ev (g h : GM) (a b : D) (s : S) : tupG (consG g (consG h nilG)) 2 (.tup [a, b]) s = (g a s).bind fun s1 => h b s1 := by
  show (g a s).bind (fun s1 => (h b s1).bind fun s2 => .ok s2) = _
  congr 1
  funext s1
  cases h b s1 <;> rfl
@[simp] theorem asInts_ints (ns : List Int) : asInts (ns.map D.int) = some ns := by
  induction ns with
  | nil => rfl
  | cons n ns ih => rw [List.map_cons, asInts, ih]; rfl
@[simp] theorem asBools_bls (ns : List Bool) : asBools (ns.map D.bl) = some ns := by
  induction ns with
  | nil => rfl
  | cons n ns ih => rw [List.map_cons, asBools, ih]; rfl
@[simp] theorem sumD_ints (O : Store) (ns : List Int) : sumD O [.lst (ns.map D.int)] = .ok (.int ns.sum) := by
  show (match asInts (ns.map D.int) with
      | some ns => Res.ok (D.int ns.sum)
      | none => .bad) = _
  rw [asInts_ints]
@[simp] theorem allD_bls (O : Store) (ns : List Bool) : allD O [.lst (ns.map D.bl)] = .ok (.bl (ns.all id)) := by
  show (match asBools (ns.map D.bl) with
      | some ns => Res.ok (D.bl (ns.all id))
      | none => .bad) = _
  rw [asBools_bls]
@[simp] theorem anyD_bls (O : Store) (ns : List Bool) : anyD O [.lst (ns.map D.bl)] = .ok (.bl (ns.any id)) := by
  show (match asBools (ns.map D.bl) with
      | some ns => Res.ok (D.bl (ns.any id))
      | none => .bad) = _
  rw [asBools_bls]
end
theorem compGo_pure {α : Type} {ok : Store → Prop} {g : GM} {c : TM} {e : EM} {O : Store} (hok : ok O) (item : α → D) (P : S → Prop) (hP : ∀ s, P s → s.o = O) (l : List α) (p : α → Bool) (out : α → D)
    (step : ∀ a ∈ l, ∀ s, P s → ∃ s1 s2, g (item a) s = .ok s1 ∧ c s1 = .ok (p a, s2) ∧ (p a = false → P s2) ∧ (p a = true → ∃ s3, e s2 = .ok (out a, s3) ∧ P s3)) :
    ∀ (acc : List D) (s : S), acc.length + l.length ≤ 16777216 → P s → ∃ s', compGo ok g c e (l.map item) acc s = .ok (acc ++ (l.filter p).map out, s') ∧ P s' := by
  induction l with
  | nil =>
    intro acc s _ h
    exact ⟨s, by rw [List.map_nil, compGo, if_pos (by rw [hP s h]; exact hok)]; simp, h⟩
  | cons a l ih =>
    intro acc s hl h
    rw [List.length_cons] at hl
    obtain ⟨s1, s2, e1, e2, h2, h3⟩ := step a List.mem_cons_self s h
    rw [List.map_cons, compGo, if_pos ⟨by rw [hP s h]; exact hok, by omega⟩, e1, bind_ok, e2, bind_ok]
    cases hp : p a with
    | false =>
      obtain ⟨s', e3, h4⟩ := ih (fun b hb => step b (List.mem_cons_of_mem _ hb)) acc s2 (by omega) (h2 hp)
      refine ⟨s', ?_, h4⟩
      rw [List.filter_cons_of_neg (by simp [hp])]
      simpa using e3
    | true =>
      obtain ⟨s3, e3, h4⟩ := h3 hp
      obtain ⟨s', e5, h5⟩ := ih (fun b hb => step b (List.mem_cons_of_mem _ hb)) (acc ++ [out a]) s3 (by rw [List.length_append, List.length_singleton]; omega) h4
      refine ⟨s', ?_, h5⟩
      rw [List.filter_cons_of_pos hp]
      simp only [if_true, e3, bind_ok, e5]
      simp
section
variable {α : Type} {caps : List Nat} {im : IM} {c : TM} {e : EM} {s : S} {k : Option Nat} {l : List α} {item out : α → D} {p : α → Bool}
theorem compM1 (him : im s = .ok ((l.map item, k), s)) (hok : okC (l.map item) k s.o) (hl : l.length ≤ 16777216)
    (hc : ∀ a ∈ l, c ⟨some (item a) :: caps.map (fun i => (s.r[i]?).getD none), s.o⟩ = .ok (p a, ⟨some (item a) :: caps.map (fun i => (s.r[i]?).getD none), s.o⟩))
    (he : ∀ a ∈ l, p a = true → e ⟨some (item a) :: caps.map (fun i => (s.r[i]?).getD none), s.o⟩ = .ok (out a, ⟨some (item a) :: caps.map (fun i => (s.r[i]?).getD none), s.o⟩)) :
    compM 1 caps im (nameG 0) c e s = .ok ((l.filter p).map out, s) := by
  obtain ⟨s', e1, x, h1⟩ := compGo_pure (ok := okC (l.map item) k) (g := nameG 0) (c := c) (e := e) (O := s.o) hok item (fun s2 => ∃ x, s2 = ⟨x :: caps.map (fun i => (s.r[i]?).getD none), s.o⟩) (by rintro _ ⟨_, rfl⟩; rfl) l p out (by
    rintro a ha _ ⟨x, rfl⟩
    exact ⟨_, _, rfl, hc a ha, fun _ => ⟨_, rfl⟩, fun hp => ⟨_, he a ha hp, _, rfl⟩⟩) [] ⟨capM 1 caps s.r, s.o⟩ (by simpa using hl) ⟨none, rfl⟩
  rw [compM_ev, him, bind_ok]
  dsimp only
  rw [e1, bind_ok]
  subst h1
  rfl
theorem compM2 {f g : α → D} (him : im s = .ok ((l.map (fun a => D.tup [f a, g a]), k), s)) (hok : okC (l.map (fun a => D.tup [f a, g a])) k s.o) (hl : l.length ≤ 16777216)
    (hc : ∀ a ∈ l, c ⟨some (f a) :: some (g a) :: caps.map (fun i => (s.r[i]?).getD none), s.o⟩ = .ok (p a, ⟨some (f a) :: some (g a) :: caps.map (fun i => (s.r[i]?).getD none), s.o⟩))
    (he : ∀ a ∈ l, p a = true → e ⟨some (f a) :: some (g a) :: caps.map (fun i => (s.r[i]?).getD none), s.o⟩ = .ok (out a, ⟨some (f a) :: some (g a) :: caps.map (fun i => (s.r[i]?).getD none), s.o⟩)) :
    compM 2 caps im (tupG (consG (nameG 0) (consG (nameG 1) nilG)) 2) c e s = .ok ((l.filter p).map out, s) := by
  obtain ⟨s', e1, x, y, h1⟩ := compGo_pure (ok := okC (l.map (fun a => D.tup [f a, g a])) k) (g := tupG (consG (nameG 0) (consG (nameG 1) nilG)) 2) (c := c) (e := e) (O := s.o) hok (fun a => D.tup [f a, g a]) (fun s2 => ∃ x y, s2 = ⟨x :: y :: caps.map (fun i => (s.r[i]?).getD none), s.o⟩) (by rintro _ ⟨_, _, rfl⟩; rfl) l p out (by
    rintro a ha _ ⟨x, y, rfl⟩
    exact ⟨_, _, by simp, hc a ha, fun _ => ⟨_, _, rfl⟩, fun hp => ⟨_, he a ha hp, _, _, rfl⟩⟩) [] ⟨capM 2 caps s.r, s.o⟩ (by simpa using hl) ⟨none, none, rfl⟩
  rw [compM_ev, him, bind_ok]
  dsimp only
  rw [e1, bind_ok]
  subst h1
  rfl
theorem filter_true (l : List α) : l.filter (fun _ => true) = l := by simp
theorem compF1 (him : im s = .ok ((l.map item, k), s)) (hok : okC (l.map item) k s.o) (hl : l.length ≤ 16777216)
    (he : ∀ a ∈ l, e ⟨some (item a) :: caps.map (fun i => (s.r[i]?).getD none), s.o⟩ = .ok (out a, ⟨some (item a) :: caps.map (fun i => (s.r[i]?).getD none), s.o⟩)) :
    compF 1 caps im (nameG 0) trueT e s = .ok (.lst (l.map out), s) := by
  rw [compF_ev, compM1 (p := fun _ => true) him hok hl (fun _ _ => rfl) (fun a ha _ => he a ha), bind_ok, filter_true]
theorem compF1c (him : im s = .ok ((l.map item, k), s)) (hok : okC (l.map item) k s.o) (hl : l.length ≤ 16777216)
    (hc : ∀ a ∈ l, c ⟨some (item a) :: caps.map (fun i => (s.r[i]?).getD none), s.o⟩ = .ok (p a, ⟨some (item a) :: caps.map (fun i => (s.r[i]?).getD none), s.o⟩))
    (he : ∀ a ∈ l, p a = true → e ⟨some (item a) :: caps.map (fun i => (s.r[i]?).getD none), s.o⟩ = .ok (out a, ⟨some (item a) :: caps.map (fun i => (s.r[i]?).getD none), s.o⟩)) :
    compF 1 caps im (nameG 0) c e s = .ok (.lst ((l.filter p).map out), s) := by
  rw [compF_ev, compM1 him hok hl hc he, bind_ok]
theorem compF2 {f g : α → D} (him : im s = .ok ((l.map (fun a => D.tup [f a, g a]), k), s)) (hok : okC (l.map (fun a => D.tup [f a, g a])) k s.o) (hl : l.length ≤ 16777216)
    (he : ∀ a ∈ l, e ⟨some (f a) :: some (g a) :: caps.map (fun i => (s.r[i]?).getD none), s.o⟩ = .ok (out a, ⟨some (f a) :: some (g a) :: caps.map (fun i => (s.r[i]?).getD none), s.o⟩)) :
    compF 2 caps im (tupG (consG (nameG 0) (consG (nameG 1) nilG)) 2) trueT e s = .ok (.lst (l.map out), s) := by
  rw [compF_ev, compM2 (p := fun _ => true) him hok hl (fun _ _ => rfl) (fun a ha _ => he a ha), bind_ok, filter_true]
theorem compF2c {f g : α → D} (him : im s = .ok ((l.map (fun a => D.tup [f a, g a]), k), s)) (hok : okC (l.map (fun a => D.tup [f a, g a])) k s.o) (hl : l.length ≤ 16777216)
    (hc : ∀ a ∈ l, c ⟨some (f a) :: some (g a) :: caps.map (fun i => (s.r[i]?).getD none), s.o⟩ = .ok (p a, ⟨some (f a) :: some (g a) :: caps.map (fun i => (s.r[i]?).getD none), s.o⟩))
    (he : ∀ a ∈ l, p a = true → e ⟨some (f a) :: some (g a) :: caps.map (fun i => (s.r[i]?).getD none), s.o⟩ = .ok (out a, ⟨some (f a) :: some (g a) :: caps.map (fun i => (s.r[i]?).getD none), s.o⟩)) :
    compF 2 caps im (tupG (consG (nameG 0) (consG (nameG 1) nilG)) 2) c e s = .ok (.lst ((l.filter p).map out), s) := by
  rw [compF_ev, compM2 him hok hl hc he, bind_ok]
theorem compC1 (him : im s = .ok ((l.map item, k), s)) (hok : okC (l.map item) k s.o) (hl : l.length ≤ 16777216)
    (he : ∀ a ∈ l, e ⟨some (item a) :: caps.map (fun i => (s.r[i]?).getD none), s.o⟩ = .ok (out a, ⟨some (item a) :: caps.map (fun i => (s.r[i]?).getD none), s.o⟩)) :
    compC 1 caps im (nameG 0) trueT e s = .ok (.ptr s.o.length, ⟨s.r, s.o ++ [.lst (l.map out)]⟩) := by
  rw [compC_ev, compM1 (p := fun _ => true) him hok hl (fun _ _ => rfl) (fun a ha _ => he a ha), bind_ok, filter_true]
end
abbrev vI (r : List Int) : D := .lst (r.map .int)
abbrev vII (R : List (List Int)) : D := .lst (R.map vI)
@[simp] theorem pureDs_vI (R : List (List Int)) : pureDs (R.map vI) = true := by
  induction R with
  | nil => rfl
  | cons r R ih => simp [ih]
theorem zipD_ints (as bs : List Int) : zipD (as.map D.int) (bs.map D.int) = (as.zip bs).map fun p => .tup [.int p.1, .int p.2] := by
  unfold zipD
  rw [List.zipWith_map, List.zip_eq_zipWith, List.map_zipWith]
theorem ix_vI {O : Store} {r : List Int} {i : Nat} (h : i < r.length) : ixD O (vI r) (.int (i : Int)) = .ok (.int (nth r i)) := by
  refine ixD_lst ?_
  rw [atI_ok (by omega) (by simpa using h)]
  simp [nth, List.getD_eq_getElem?_getD, h]
theorem rangeD0 (n : Nat) : rangeD 0 (n : Int) = (List.range n).map fun i => .int (i : Int) := by
  unfold rangeD
  simp
theorem le_line {n : Nat} (h : n ≤ 1000000) : n ≤ 16777216 := Nat.le_trans h (by decide)
theorem zip_map {f : Int → Int → Int} : ∀ (a b : List Int), (a.zip b).map (fun p => f p.1 p.2) = List.zipWith f a b
  | [], _ => by simp
  | _ :: _, [] => by simp
  | x :: a, y :: b => by simp [zip_map a b]
theorem zip_mul (a b : List Int) : (a.zip b).map (fun p => p.1 * p.2) = List.zipWith (· * ·) a b := zip_map a b
theorem repL_zero (n : Nat) : repL (n : Int) [.int 0] = (List.replicate n (0 : Int)).map D.int := by
  unfold repL
  rw [show (n : Int).toNat = n from Int.toNat_natCast n]
  induction n with
  | zero => rfl
  | succ n ih => rw [List.replicate_succ, List.flatten_cons, ih]; simp [List.replicate_succ]
theorem putG_nat {mo mi : EM} {d : D} {s s1 s2 : S} {k a : Nat} {ds : List D} (h1 : mo s = .ok (.ptr k, s1)) (h2 : mi s1 = .ok (.int (a : Int), s2)) (h3 : s2.o[k]? = some (.lst ds)) (ha : a < ds.length) :
    putG mo mi d s = .ok ⟨s2.r, s2.o.set k (.lst (ds.set a d))⟩ := by
  unfold putG
  rw [h1, bind_ok]
  dsimp only
  rw [h2, bind_ok]
  dsimp only
  rw [celD_ptr h3]
  dsimp only
  have e : ixN ds.length (a : Int) = some a := by
    unfold ixN
    rw [if_pos (by omega), if_pos (by omega)]
    simp
  rw [e]
theorem setM_eq {m : EM} {i : Nat} {s s' : S} {d : D} (h : m s = .ok (d, s')) : setM i m s = .next ⟨s'.r.set i (some d), s'.o⟩ := by
  show ((m s).bind _).out _ = _
  rw [h]; rfl
theorem retM_eq {m : EM} {s s' : S} {d : D} (h : m s = .ok (d, s')) : retM m s = .ret d s' := by
  show (m s).out _ = _
  rw [h]; rfl
theorem ifS_T {c : TM} {a b : SM} {s s' : S} (h : c s = .ok (true, s')) : ifS c a b s = a s' := by
  show (c s).out _ = _
  rw [h]; rfl
theorem ifS_F {c : TM} {a b : SM} {s s' : S} (h : c s = .ok (false, s')) : ifS c a b s = b s' := by
  show (c s).out _ = _
  rw [h]; rfl
theorem seqM_eq {a b : SM} {s s' : S} (h : a s = .next s') : seqM a b s = b s' := by
  show (a s).then b = _
  rw [h]; rfl
theorem seqM_ret {a b : SM} {s s' : S} {d : D} (h : a s = .ret d s') : seqM a b s = .ret d s' := by
  show (a s).then b = _
  rw [h]; rfl
theorem repM0 {fin : S → List D → Res (D × S)} {mk : EM} {s : S} {n : Nat} (h : mk s = .ok (.int (n : Int), s)) (hn : n ≤ 1000000) : repM fin (consM (cstM (.int 0)) nilM) mk s = fin s ((List.replicate n (0 : Int)).map D.int) := by
  rw [repM_ev, consM_ev, cstM_ev, bind_ok, nilM_ev, bind_ok, bind_ok]
  dsimp only
  rw [if_pos (by decide), h, bind_ok]
  dsimp only
  rw [if_pos ⟨⟨by omega, by omega⟩, by simp; omega⟩, repL_zero]
theorem callP_eq {n : Nat} {f : FM} {ma : AM} {s s' : S} {ds : List D} {d : D} {O : Store} (h : ma s = .ok (ds, s')) (hp : pureDs ds = true) (hl : ds.length = n) (hf : f ds [] = .ok (d, O)) (hd : pureD d = true) : callP n f ma s = .ok (d, s') := by
  rw [callP_ev, h, bind_ok, if_pos ⟨hp, hl⟩]
  dsimp only
  rw [hf]
  dsimp only
  rw [if_pos hd]
theorem callS_eq {n : Nat} {f : FM} {ma : AM} {s s' : S} {ds : List D} {d : D} {O : Store} (h : ma s = .ok (ds, s')) (hl : ds.length = n) (hf : f ds s'.o = .ok (d, O)) : callS n f ma s = .ok (d, ⟨s'.r, O⟩) := by
  rw [callS_ev, h, bind_ok, if_pos hl]
  dsimp only
  rw [hf]
theorem appM_eq {mo me : EM} {s s1 s2 : S} {k : Nat} {ds0 ds : List D} {d : D} (h1 : mo s = .ok (.ptr k, s1)) (c1 : s1.o[k]? = some (.lst ds0)) (h2 : me s1 = .ok (d, s2)) (c2 : s2.o[k]? = some (.lst ds)) (hb : ds.length ≤ 1000000) :
    appM mo me s = .ok (.non, ⟨s2.r, s2.o.set k (.lst (ds ++ [d]))⟩) := by
  rw [appM_ev, h1, bind_ok]
  dsimp only
  rw [celD_ptr c1]
  dsimp only
  rw [h2, bind_ok]
  dsimp only
  rw [celD_ptr c2]
  dsimp only
  rw [if_pos (by omega)]
theorem dropM_eq {m : EM} {s s' : S} {d : D} (h : m s = .ok (d, s')) : dropM m s = .next s' := by
  show (m s).out _ = _
  rw [h]; rfl
theorem frzM_eq {m : EM} {s s' : S} {k : Nat} {ds : List D} (h : m s = .ok (.ptr k, s')) (c : s'.o[k]? = some (.lst ds)) : frzM m s = .ok (.lst ds, ⟨s'.r, s'.o.set k .dead⟩) := by
  rw [frzM_ev, h, bind_ok]
  dsimp only
  rw [celD_ptr c]
theorem listI_ptr {m : EM} {s s' : S} {k : Nat} {ds : List D} (h : m s = .ok (.ptr k, s')) (c : s'.o[k]? = some (.lst ds)) : listI m s = .ok ((ds, some k), s') := by
  rw [listI_ev, h, bind_ok]
  dsimp only
  rw [itemsOf_ptr c, bind_ok]
theorem get_set_ne {O : Store} {k j : Nat} {c : Cell} (h : k ≠ j) : (O.set k c)[j]? = O[j]? := List.getElem?_set_ne h
theorem get_set_eq {O : Store} {k : Nat} {c c' : Cell} (h : O[k]? = some c') : (O.set k c)[k]? = some c := by
  rw [List.getElem?_set_self (List.getElem?_eq_some_iff.mp h).1]
theorem get_app_l {O E : Store} {k : Nat} {c : Cell} (h : O[k]? = some c) : (O ++ E)[k]? = some c := by
  rw [List.getElem?_append_left (List.getElem?_eq_some_iff.mp h).1]; exact h
theorem get_app_r {O : Store} {c : Cell} : (O ++ [c])[O.length]? = some c := by simp
theorem get_lt {O : Store} {k : Nat} {c : Cell} (h : O[k]? = some c) : k < O.length := (List.getElem?_eq_some_iff.mp h).1
theorem pureDs1 (r : List Int) : pureDs [vI r] = true := by simp
theorem sum_sz {b : Nat} : ∀ (l : List Int) (k : Nat), (∀ x ∈ l, x.natAbs < 2 ^ b) → l.length ≤ 2 ^ k → l.sum.natAbs ≤ l.length * 2 ^ b := by
  intro l k h _
  induction l with
  | nil => simp
  | cons a l ih =>
    rw [List.sum_cons, List.length_cons, Nat.succ_mul]
    have h1 := h a List.mem_cons_self
    have h2 := ih (fun x hx => h x (List.mem_cons_of_mem _ hx)) (by simp at *; omega)
    have := Int.natAbs_add_le a l.sum
    omega
theorem dot_sz {b c : Nat} {row l : List Int} (hr : SzL c row) (hl : SzL b l) (hn : row.length ≤ 1000) : Sz (b + c + 10) (dotL row l) := by
  unfold dotL
  have h : ∀ x ∈ List.zipWith (· * ·) row l, x.natAbs < 2 ^ (c + b) := fun x hx => by
    obtain ⟨i, hi, e⟩ := List.getElem_of_mem hx
    rw [List.getElem_zipWith] at e
    subst e
    exact Sz.mul (hr _ (List.getElem_mem _)) (hl _ (List.getElem_mem _))
  have h2 := sum_sz (List.zipWith (· * ·) row l) 10 h (by rw [List.length_zipWith]; simp; omega)
  unfold Sz
  have h3 : (List.zipWith (· * ·) row l).length ≤ 1000 := by rw [List.length_zipWith]; omega
  have h4 : (List.zipWith (· * ·) row l).length * 2 ^ (c + b) ≤ 1000 * 2 ^ (c + b) := Nat.mul_le_mul_right _ h3
  have h5 : 2 ^ (b + c + 10) = 1024 * 2 ^ (c + b) := by rw [Nat.pow_add, Nat.add_comm b c, Nat.mul_comm]
  have h6 : 0 < 2 ^ (c + b) := Nat.two_pow_pos _
  rw [h5]
  omega
theorem compGo_ex {ok : Store → Prop} {g : GM} {c : TM} {e : EM} (P : S → Prop) (G : D → Prop) (hok : ∀ s, P s → ok s.o) : ∀ (ds acc : List D) (s : S),
    (∀ d ∈ ds, ∀ s, P s → ∃ s1 s2 y s3, g d s = .ok s1 ∧ c s1 = .ok (true, s2) ∧ e s2 = .ok (y, s3) ∧ G y ∧ P s3) → acc.length + ds.length ≤ 16777216 → P s →
    ∃ outs s', compGo ok g c e ds acc s = .ok (acc ++ outs, s') ∧ outs.length = ds.length ∧ (∀ y ∈ outs, G y) ∧ P s'
  | [], acc, s, _, _, h => ⟨[], s, by rw [compGo, if_pos (hok _ h)]; simp, rfl, by simp, h⟩
  | d :: ds, acc, s, step, hl, h => by
    obtain ⟨s1, s2, y, s3, e1, e2, e3, gy, h3⟩ := step d List.mem_cons_self s h
    rw [List.length_cons] at hl
    rw [compGo, if_pos ⟨hok _ h, by omega⟩, e1, bind_ok, e2, bind_ok]
    obtain ⟨outs, s', e4, h4, h5, h6⟩ := compGo_ex P G hok ds (acc ++ [y]) s3 (fun d hd => step d (List.mem_cons_of_mem _ hd)) (by rw [List.length_append, List.length_singleton]; omega) h3
    refine ⟨y :: outs, s', ?_, by simp [h4], ?_, h6⟩
    · simp only [if_true, e3, bind_ok, e4]
      simp
    · intro z hz
      rcases List.mem_cons.mp hz with rfl | hz
      · exact gy
      · exact h5 z hz
theorem ints_of {Q : Int → Prop} : ∀ {outs : List D}, (∀ y ∈ outs, ∃ r, y = .int r ∧ Q r) → ∃ ns : List Int, outs = ns.map D.int ∧ ∀ n ∈ ns, Q n
  | [], _ => ⟨[], rfl, by simp⟩
  | y :: outs, h => by
    obtain ⟨r, rfl, hr⟩ := h y List.mem_cons_self
    obtain ⟨ns, rfl, hn⟩ := ints_of (outs := outs) fun z hz => h z (List.mem_cons_of_mem _ hz)
    exact ⟨r :: ns, rfl, fun n hn' => by
      rcases List.mem_cons.mp hn' with rfl | q
      · exact hr
      · exact hn n q⟩
theorem compF1_ex {caps : List Nat} {im : IM} {e : EM} {s : S} {ds : List D} {k : Option Nat} (PO : Store → Prop) (Q : Int → Prop) (him : im s = .ok ((ds, k), s)) (hok : ∀ O, PO O → okC ds k O) (h0 : PO s.o) (hl : ds.length ≤ 1000000)
    (he : ∀ d ∈ ds, ∀ O, PO O → ∃ r O', e ⟨some d :: caps.map (fun i => (s.r[i]?).getD none), O⟩ = .ok (.int r, ⟨some d :: caps.map (fun i => (s.r[i]?).getD none), O'⟩) ∧ Q r ∧ PO O') :
    ∃ (ns : List Int) (O' : Store), compF 1 caps im (nameG 0) trueT e s = .ok (vI ns, ⟨s.r, O'⟩) ∧ ns.length = ds.length ∧ (∀ n ∈ ns, Q n) ∧ PO O' := by
  obtain ⟨outs, s', e1, h1, h2, x, O', h3, h4⟩ := compGo_ex (ok := okC ds k) (g := nameG 0) (c := trueT) (e := e) (fun s2 => ∃ x O', s2 = ⟨x :: caps.map (fun i => (s.r[i]?).getD none), O'⟩ ∧ PO O') (fun y => ∃ r, y = .int r ∧ Q r) (by rintro _ ⟨_, O', rfl, h⟩; exact hok O' h) ds [] ⟨capM 1 caps s.r, s.o⟩ (by
    rintro d hd _ ⟨x, O', rfl, h⟩
    obtain ⟨r, O2, q1, q2, q3⟩ := he d hd O' h
    exact ⟨_, _, .int r, _, rfl, rfl, q1, ⟨r, rfl, q2⟩, _, O2, rfl, q3⟩) (by simpa using le_line hl) ⟨none, s.o, rfl, h0⟩
  obtain ⟨ns, rfl, hn⟩ := ints_of h2
  refine ⟨ns, O', ?_, by simpa using h1, hn, h4⟩
  rw [compF_ev, compM_ev, him, bind_ok]
  dsimp only
  rw [e1, bind_ok, bind_ok]
  subst h3
  rfl
theorem callO_eq {n : Nat} {f : FM} {ma : AM} {s s' : S} {ds : List D} {d : D} {O1 : Store} (h : ma s = .ok (ds, s')) (hp : pureDs ds = true) (hl : ds.length = n) (hf : f ds [] = .ok (d, O1)) : callO n f ma s = .ok (shD s'.o.length d, ⟨s'.r, s'.o ++ O1.map (shC s'.o.length)⟩) := by
  rw [callO_ev, h, bind_ok, if_pos ⟨hp, hl⟩]
  dsimp only
  rw [hf]
theorem ix_ptr {O : Store} {k : Nat} {ds : List D} {i : Int} {d : D} (h : O[k]? = some (.lst ds)) (hi : atI ds i = some d) : ixD O (.ptr k) (.int i) = .ok d := by
  show (match lsD O (D.ptr k) with
      | some ds => match atI ds i with
        | some d => Res.ok d
        | none => .bad
      | none => .bad) = _
  rw [lsD_ptr h]
  dsimp only
  rw [hi]
theorem atI_nat' {α : Type} {l : List α} {i : Nat} (h : i < l.length) : atI l (i : Int) = some l[i] := by
  rw [atI_ok (by omega) (by omega)]
  simp
theorem atI_neg {α : Type} {l : List α} {i : Nat} (h0 : 1 ≤ i) (h : i ≤ l.length) : atI l (-(i : Int)) = some (l[l.length - i]'(by omega)) := by
  unfold atI ixN
  have e : (-(i : Int) + (l.length : Int)).toNat = l.length - i := by omega
  rw [if_neg (by omega), if_pos (by omega), e]
  exact List.getElem?_eq_getElem _
theorem lenD_ptr {O : Store} {k : Nat} {ds : List D} (h : O[k]? = some (.lst ds)) : lenD O [.ptr k] = .ok (.int ds.length) := by
  unfold lenD
  simp only [lsD_ptr h]
theorem gt_test {m : EM} {s s' : S} {i j : Int} (h : m s = .ok (.int i, s')) : tstM (binM gtD m (cstM (.int j))) s = .ok (decide (j < i), s') := by
  rw [tstM_ev, binM_ev, h, bind_ok, cstM_ev, bind_ok, gtD_int, bind_ok, bind_ok]
theorem eq_test {m : EM} {s s' : S} {i j : Int} (h : m s = .ok (.int i, s')) : tstM (binM eqD m (cstM (.int j))) s = .ok (decide (i = j), s') := by
  rw [tstM_ev, binM_ev, h, bind_ok, cstM_ev, bind_ok, eqD_int, bind_ok, bind_ok]
theorem addD_lst {O : Store} {a b : List D} (h : a.length + b.length ≤ 1000000) : addD O (.lst a) (.lst b) = .ok (.lst (a ++ b)) := by
  show (if a.length + b.length ≤ 16777216 then Res.ok (D.lst (a ++ b)) else .bad) = _
  rw [if_pos (le_line h)]
theorem cutD_from {ms : List Int} {n : Nat} (h : n ≤ ms.length) : cutD (ms.map D.int) (some (n : Int)) none = (ms.drop n).map D.int := by
  unfold cutD
  rw [HT.sIx_none, HT.sIx_nat, List.length_map, Nat.min_eq_left h, ← List.map_drop, List.take_of_length_le (by simp)]
end M
set_option maxRecDepth 100000
set_option maxHeartbeats 4000000
namespace M
def tk (c e : Nat) : Nat := 2 ^ e * (c + 12) - (c + 11)
theorem tk_ge (c e : Nat) : c + 12 ≤ 2 ^ e * (c + 12) := Nat.le_mul_of_pos_left _ (Nat.two_pow_pos e)
theorem tk_zero (c : Nat) : tk c 0 = 1 := by unfold tk; simp
theorem tk_succ (c e : Nat) : 2 * tk c e + c + 11 = tk c (e + 1) := by
  unfold tk
  have h := tk_ge c e
  have e2 : 2 ^ (e + 1) * (c + 12) = 2 * (2 ^ e * (c + 12)) := by rw [Nat.pow_succ, Nat.mul_comm (2 ^ e) 2, Nat.mul_assoc]
  rw [e2]
  omega
structure StSz (n c : Nat) (R lists : List (List Int)) (e : Nat) : Prop where
  eq : R.foldl stillStep (unitsL n) = lists
  ll : ∀ l ∈ lists, l.length = n
  cnt : lists.length + e = n
  sz : SzLL (tk c e) lists
theorem unit_sz (n a : Nat) : SzL 1 (unitL n a) := by
  intro x hx
  unfold unitL at hx
  rcases List.mem_or_eq_of_mem_set hx with h | h
  · rw [List.eq_of_mem_replicate h]; exact Sz.zero 1
  · rw [h]; unfold Sz; decide
theorem StSz.start (n c : Nat) : StSz n c [] (unitsL n) 0 := by
  refine ⟨rfl, fun l hl => ?_, by unfold unitsL; simp, fun l hl => ?_⟩
  · obtain ⟨a, _, rfl⟩ := List.mem_map.mp hl
    unfold unitL; simp
  · obtain ⟨a, _, rfl⟩ := List.mem_map.mp hl
    rw [tk_zero]; exact unit_sz n a
theorem StSz.step {n c e : Nat} {R lists : List (List Int)} {row : List Int} (h : StSz n c R lists e) (hr : row.length = n) (hs : SzL c row) (hn : n ≤ 1000) : ∃ e', StSz n c (R ++ [row]) (stillStep lists row) e' := by
  have eq' : (R ++ [row]).foldl stillStep (unitsL n) = stillStep lists row := by rw [List.foldl_append, h.eq]; rfl
  unfold stillStep at *
  split
  · rename_i e0
    rw [e0] at eq'
    exact ⟨e, eq', h.ll, h.cnt, h.sz⟩
  · rename_i k e0
    rw [e0] at eq'
    have k1 := (firstNN_some e0).1
    rw [List.length_map] at k1
    have hm := getD_mem k1
    refine ⟨e + 1, eq', fun l hl => ?_, ?_, fun l hl => ?_⟩
    · obtain ⟨q, hq, rfl⟩ := List.mem_map.mp hl
      have hq' := List.mem_of_mem_eraseIdx hq
      rw [offL_length (by rw [h.ll q hq', h.ll _ hm]), h.ll q hq']
    · rw [List.length_map, List.length_eraseIdx_of_lt k1]
      have := h.cnt
      omega
    · obtain ⟨q, hq, rfl⟩ := List.mem_map.mp hl
      have hq' := List.mem_of_mem_eraseIdx hq
      have hz : ∀ l ∈ lists, Sz (tk c e + c + 10) (dotL row l) := fun l h' => dot_sz hs (h.sz l h') (by rw [hr]; exact hn)
      exact (SzL.off (h.sz q hq') (h.sz _ hm) (hz q hq') (hz _ hm)).mono (by rw [← tk_succ]; omega)
end M
set_option maxRecDepth 100000
set_option maxHeartbeats 4000000
namespace M
end M
set_option maxRecDepth 100000
set_option maxHeartbeats 4000000
namespace M
structure Fit (n : Nat) (R : List (List Int)) (x : List Int) : Prop where
  len : x.length = n
  nn : ∀ i, 0 ≤ nth x i
  st : ∀ r ∈ R, dotF n (nth r) (nth x) = 0
  nz : ∃ i, nth x i ≠ 0
def Sub (x y : List Int) : Prop := ∀ i, nth x i ≠ 0 → nth y i ≠ 0
structure Lone (n : Nat) (R : List (List Int)) (x : List Int) : Prop where
  fit : Fit n R x
  one : gcdL x = 1
  min : ∀ y, Fit n R y → Sub y x → Sub x y
theorem Sub.refl (x : List Int) : Sub x x := fun _ h => h
theorem Sub.trans {x y z : List Int} (a : Sub x y) (b : Sub y z) : Sub x z := fun i h => b i (a i h)
theorem Fit.lt {n : Nat} {R : List (List Int)} {x : List Int} (f : Fit n R x) {i : Nat} (h : nth x i ≠ 0) : i < n := by
  by_cases hi : i < n
  · exact hi
  · exact absurd (nth_out (by rw [f.len]; omega)) h
theorem Fit.low {n : Nat} {R : List (List Int)} {x : List Int} (f : Fit n R x) : Fit n R (low x) ∧ gcdL (M.low x) = 1 ∧ Sub (M.low x) x ∧ Sub x (M.low x) := by
  have hp := lowBy_pos x
  have hi : ∀ i, nth (M.low x) i ≠ 0 ↔ nth x i ≠ 0 := fun i => by
    rw [low_nth x i]
    constructor
    · exact fun h => Int.mul_ne_zero (by omega) h
    · intro h z; rw [z] at h; exact h (by omega)
  obtain ⟨j, hj⟩ := f.nz
  refine ⟨⟨by rw [low_length, f.len], fun i => ?_, fun r hr => ?_, ⟨j, (hi j).mpr hj⟩⟩, low_gcd hj, fun i => (hi i).mp, fun i => (hi i).mpr⟩
  · have := f.nn i
    rw [low_nth x i] at this
    by_cases h : 0 ≤ nth (M.low x) i
    · exact h
    · have := Int.mul_neg_of_pos_of_neg hp (by omega : nth (M.low x) i < 0); omega
  · have := f.st r hr
    rw [dotF_comm]
    rw [dotF_comm] at this
    exact (dotN_low n x (nth r)).mpr this
theorem ratio_trans {a b c d e f : Int} (hb : 0 < b) (hd : 0 < d) (hf : 0 < f) (h1 : a * d ≤ c * b) (h2 : c * f ≤ e * d) : a * f ≤ e * b := by
  have e1 : a * d * f ≤ c * b * f := Int.mul_le_mul_of_nonneg_right h1 (by omega)
  have e2 : c * f * b ≤ e * d * b := Int.mul_le_mul_of_nonneg_right h2 (by omega)
  have : (a * f) * d ≤ (e * b) * d := by
    have q1 : a * d * f = (a * f) * d := by grind
    have q2 : c * b * f = c * f * b := by grind
    have q3 : e * d * b = (e * b) * d := by grind
    omega
  exact Int.le_of_mul_le_mul_right this hd
theorem argmin (a b : Nat → Int) (hb : ∀ i, 0 ≤ b i) : ∀ n, (∃ i, i < n ∧ b i ≠ 0) → ∃ m, m < n ∧ b m ≠ 0 ∧ ∀ i, i < n → b i ≠ 0 → a m * b i ≤ a i * b m
  | 0, h => by obtain ⟨i, hi, _⟩ := h; omega
  | n + 1, h => by
    by_cases hn : ∃ i, i < n ∧ b i ≠ 0
    · obtain ⟨m, hm, hz, hl⟩ := argmin a b hb n hn
      by_cases hbn : b n = 0
      · refine ⟨m, by omega, hz, fun i hi hi0 => ?_⟩
        by_cases e : i = n
        · subst e; exact absurd hbn hi0
        · exact hl i (by omega) hi0
      · by_cases hc : a m * b n ≤ a n * b m
        · refine ⟨m, by omega, hz, fun i hi hi0 => ?_⟩
          by_cases e : i = n
          · subst e; exact hc
          · exact hl i (by omega) hi0
        · refine ⟨n, by omega, hbn, fun i hi hi0 => ?_⟩
          by_cases e : i = n
          · subst e; omega
          · have := hb n; have := hb m; have := hb i
            exact ratio_trans (by omega) (by omega : 0 < b m) (by omega) (by omega) (hl i (by omega) hi0)
    · obtain ⟨i, hi, hi0⟩ := h
      have e : i = n := by
        by_cases e : i = n
        · exact e
        · exact absurd ⟨i, by omega, hi0⟩ hn
      subst e
      refine ⟨i, by omega, hi0, fun j hj hj0 => ?_⟩
      by_cases e : j = i
      · subst e; omega
      · exact absurd ⟨j, by omega, hj0⟩ hn
theorem take_off {n : Nat} {R : List (List Int)} {x y : List Int} (fx : Fit n R x) (fy : Fit n R y) (hs : Sub y x) :
    ∃ z : List Int, z.length = n ∧ (∀ i, 0 ≤ nth z i) ∧ Sub z x ∧ ∃ c d : Int, 0 < c ∧ 0 < d ∧ (∀ i, nth z i = c * nth x i - d * nth y i) ∧ ∃ m, nth y m ≠ 0 ∧ nth z m = 0 := by
  obtain ⟨j, hj⟩ := fy.nz
  obtain ⟨m, hm, hz, hl⟩ := argmin (nth x) (nth y) fy.nn n ⟨j, fy.lt hj, hj⟩
  have hlen : x.length = y.length := by rw [fx.len, fy.len]
  have hxm := fx.nn m
  have hym := fy.nn m
  have hxm0 := hs m hz
  have hnth : ∀ i, nth (mixL x (nth x m) y (nth y m)) i = nth y m * nth x i - nth x m * nth y i := fun i => by rw [mixL_nth hlen]; grind
  refine ⟨mixL x (nth x m) y (nth y m), by rw [mixL_length hlen, fx.len], fun i => ?_, fun i hi => ?_, nth y m, nth x m, by omega, by omega, hnth, m, hz, by rw [hnth]; grind⟩
  · rw [hnth]
    by_cases hy : nth y i = 0
    · rw [hy]
      have := Int.mul_nonneg hym (fx.nn i)
      omega
    · have := hl i (fy.lt hy) hy
      have : nth y m * nth x i = nth x i * nth y m := Int.mul_comm _ _
      omega
  · rw [hnth] at hi
    intro z
    apply hi
    have : nth y i = 0 := by
      by_cases hy : nth y i = 0
      · exact hy
      · exact absurd z (hs i hy)
    rw [z, this]; omega
theorem dot_off {n : Nat} {x y z : List Int} {c d : Int} (h : ∀ i, nth z i = c * nth x i - d * nth y i) (r : Nat → Int) : dotF n r (nth z) = c * dotF n r (nth x) - d * dotF n r (nth y) := by
  have := dotF_lin2 (n := n) (a := nth x) (b := nth y) (u := c) (v := -d) r
  rw [dotF_comm, dotF_congr (b := fun i => c * nth x i + -d * nth y i) (fun i _ => by rw [h i]; grind), dotF_comm, this]
  grind
theorem fit_off {n : Nat} {R : List (List Int)} {x y z : List Int} (fx : Fit n R x) (fy : Fit n R y) (hl : z.length = n) (hn : ∀ i, 0 ≤ nth z i) {c d : Int} (h : ∀ i, nth z i = c * nth x i - d * nth y i) (hz : ∃ i, nth z i ≠ 0) : Fit n R z :=
  ⟨hl, hn, fun r hr => by rw [dot_off h, fx.st r hr, fy.st r hr]; omega, hz⟩
theorem Lone.prop {n : Nat} {R : List (List Int)} {x y : List Int} (l : Lone n R x) (fy : Fit n R y) (hs : Sub y x) : ∃ a b : Int, 0 < a ∧ 0 < b ∧ ∀ i, a * nth x i = b * nth y i := by
  obtain ⟨z, zl, zn, zs, c, d, hc, hd, h, m, hm, hzm⟩ := take_off l.fit fy hs
  by_cases hz : ∃ i, nth z i ≠ 0
  · have fz := fit_off l.fit fy zl zn h hz
    exact absurd hzm (l.min z fz zs m (hs m hm))
  · refine ⟨c, d, hc, hd, fun i => ?_⟩
    have : nth z i = 0 := by
      by_cases e : nth z i = 0
      · exact e
      · exact absurd ⟨i, e⟩ hz
    rw [h i] at this
    omega
theorem Lone.eq {n : Nat} {R : List (List Int)} {x y : List Int} (l : Lone n R x) (fy : Fit n R y) (h1 : gcdL y = 1) (hs : Sub y x) : x = y := by
  obtain ⟨a, b, ha, hb, h⟩ := l.prop fy hs
  exact prop_eq (by rw [l.fit.len, fy.len]) l.one h1 ha hb fun i _ => h i
def cnt (x : List Int) : Nat := (x.filter (· ≠ 0)).length
theorem cnt_le : ∀ {x y : List Int}, x.length = y.length → Sub x y → cnt x ≤ cnt y
  | [], [], _, _ => Nat.le_refl _
  | a :: x, b :: y, hl, hs => by
    have ih := cnt_le (x := x) (y := y) (by simpa using hl) fun i h => hs (i + 1) h
    have h0 : a ≠ 0 → b ≠ 0 := hs 0
    unfold cnt at *
    by_cases ha : a = 0
    · rw [List.filter_cons_of_neg (by simpa using ha)]
      by_cases hb : b = 0
      · rw [List.filter_cons_of_neg (by simpa using hb)]; exact ih
      · rw [List.filter_cons_of_pos (by simpa using hb), List.length_cons]; omega
    · rw [List.filter_cons_of_pos (by simpa using ha), List.filter_cons_of_pos (by simpa using h0 ha), List.length_cons, List.length_cons]; omega
theorem cnt_lt : ∀ {x y : List Int} {m : Nat}, x.length = y.length → Sub x y → nth y m ≠ 0 → nth x m = 0 → cnt x < cnt y
  | [], [], m, _, _, h, _ => by simp [nth] at h
  | a :: x, b :: y, 0, hl, hs, h, h' => by
    have ih := cnt_le (x := x) (y := y) (by simpa using hl) fun i h => hs (i + 1) h
    have ha : a = 0 := h'
    have hb : b ≠ 0 := h
    unfold cnt at *
    rw [List.filter_cons_of_neg (by simpa using ha), List.filter_cons_of_pos (by simpa using hb), List.length_cons]; omega
  | a :: x, b :: y, m + 1, hl, hs, h, h' => by
    have ih := cnt_lt (x := x) (y := y) (m := m) (by simpa using hl) (fun i h => hs (i + 1) h) h h'
    have h0 : a ≠ 0 → b ≠ 0 := hs 0
    unfold cnt at *
    by_cases ha : a = 0
    · rw [List.filter_cons_of_neg (by simpa using ha)]
      by_cases hb : b = 0
      · rw [List.filter_cons_of_neg (by simpa using hb)]; exact ih
      · rw [List.filter_cons_of_pos (by simpa using hb), List.length_cons]; omega
    · rw [List.filter_cons_of_pos (by simpa using ha), List.filter_cons_of_pos (by simpa using h0 ha), List.length_cons, List.length_cons]; omega
theorem lone_in {n : Nat} {R : List (List Int)} : ∀ (k : Nat) {x : List Int}, cnt x ≤ k → Fit n R x → ∃ l, Lone n R l ∧ Sub l x := by
  intro k
  induction k with
  | zero =>
    intro x hk f
    obtain ⟨i, hi⟩ := f.nz
    have : cnt (List.replicate n (0 : Int)) < cnt x := cnt_lt (m := i) (by rw [f.len]; simp) (fun j h => by
      exfalso; apply h
      unfold nth
      rw [List.getD_eq_getElem?_getD, List.getElem?_replicate]
      split <;> rfl) hi (by
      unfold nth
      rw [List.getD_eq_getElem?_getD, List.getElem?_replicate]
      split <;> rfl)
    omega
  | succ k ih =>
    intro x hk f
    by_cases h : ∃ y, Fit n R y ∧ Sub y x ∧ ¬ Sub x y
    · obtain ⟨y, fy, h1, h2⟩ := h
      have : ∃ m, nth x m ≠ 0 ∧ nth y m = 0 := by
        apply Classical.byContradiction
        intro hn
        exact h2 fun i hi => fun z => hn ⟨i, hi, z⟩
      obtain ⟨m, hm, hm0⟩ := this
      have := cnt_lt (by rw [fy.len, f.len]) h1 hm hm0
      obtain ⟨l, hl, hs⟩ := ih (x := y) (by omega) fy
      exact ⟨l, hl, hs.trans h1⟩
    · obtain ⟨q1, q2, q3, q4⟩ := f.low
      refine ⟨low x, ⟨q1, q2, fun y fy hs => ?_⟩, q3⟩
      apply Classical.byContradiction
      intro hn
      exact h ⟨y, fy, hs.trans q3, fun z => hn (q3.trans z)⟩
theorem lone_above {n : Nat} {R : List (List Int)} (r : List Int) : ∀ (k : Nat) {x : List Int}, cnt x ≤ k → Fit n R x → 0 < dotF n (nth r) (nth x) → ∃ l, Lone n R l ∧ Sub l x ∧ 0 < dotF n (nth r) (nth l) := by
  intro k
  induction k with
  | zero =>
    intro x hk f hv
    obtain ⟨l, hl, hs⟩ := lone_in 0 hk f
    obtain ⟨i, hi⟩ := f.nz
    have : cnt (List.replicate n (0 : Int)) < cnt x := cnt_lt (m := i) (by rw [f.len]; simp) (fun j h => by
      exfalso; apply h
      unfold nth
      rw [List.getD_eq_getElem?_getD, List.getElem?_replicate]
      split <;> rfl) hi (by
      unfold nth
      rw [List.getD_eq_getElem?_getD, List.getElem?_replicate]
      split <;> rfl)
    omega
  | succ k ih =>
    intro x hk f hv
    obtain ⟨l, hl, hs⟩ := lone_in (k + 1) hk f
    by_cases hp : 0 < dotF n (nth r) (nth l)
    · exact ⟨l, hl, hs, hp⟩
    · obtain ⟨z, zl, zn, zs, c, d, hc, hd, h, m, hm, hzm⟩ := take_off f hl.fit hs
      have ev := dot_off (n := n) h (nth r)
      have h1 := Int.mul_pos hc hv
      have h2 := Int.mul_nonpos_of_nonneg_of_nonpos (show 0 ≤ d by omega) (show dotF n (nth r) (nth l) ≤ 0 by omega)
      have hz : ∃ i, nth z i ≠ 0 := by
        apply Classical.byContradiction
        intro hn
        have : dotF n (nth r) (nth z) = 0 := sumN_zero fun i _ => by
          have : nth z i = 0 := by
            by_cases e : nth z i = 0
            · exact e
            · exact absurd ⟨i, e⟩ hn
          rw [this]; omega
        omega
      have fz := fit_off f hl.fit zl zn h hz
      have := cnt_lt (by rw [zl, f.len]) zs (hs m hm) hzm
      obtain ⟨l', q1, q2, q3⟩ := ih (x := z) (by omega) fz (by omega)
      exact ⟨l', q1, q2.trans zs, q3⟩
theorem dot_neg_row (n : Nat) (r x : List Int) : dotF n (nth (r.map (- ·))) (nth x) = -dotF n (nth r) (nth x) := by
  have := dotN_scale (n := n) (a := r.map (- ·)) (c := r) (g := -1) (fun i => by rw [nth_map (by simp)]; omega) (nth x)
  rw [← dotN_F, this, dotN_F]; omega
theorem lone_below {n : Nat} {R : List (List Int)} (r : List Int) {x : List Int} (f : Fit n R x) (hv : dotF n (nth r) (nth x) < 0) : ∃ l, Lone n R l ∧ Sub l x ∧ dotF n (nth r) (nth l) < 0 := by
  obtain ⟨l, h1, h2, h3⟩ := lone_above (r.map (- ·)) _ (Nat.le_refl _) f (by rw [dot_neg_row]; omega)
  rw [dot_neg_row] at h3
  exact ⟨l, h1, h2, by omega⟩
theorem lone_zero {n : Nat} {R : List (List Int)} (r : List Int) {x : List Int} (f : Fit n R x) (hv : dotF n (nth r) (nth x) = 0) :
    (∃ l, Lone n R l ∧ Sub l x ∧ dotF n (nth r) (nth l) = 0) ∨ ∃ h w, Lone n R h ∧ Lone n R w ∧ Sub h x ∧ Sub w x ∧ 0 < dotF n (nth r) (nth h) ∧ dotF n (nth r) (nth w) < 0 := by
  obtain ⟨l, hl, hs⟩ := lone_in _ (Nat.le_refl _) f
  by_cases h0 : dotF n (nth r) (nth l) = 0
  · exact .inl ⟨l, hl, hs, h0⟩
  · obtain ⟨z, zl, zn, zs, c, d, hc, hd, h, m, hm, hzm⟩ := take_off f hl.fit hs
    have ev := dot_off (n := n) h (nth r)
    rw [hv] at ev
    have hne : dotF n (nth r) (nth z) ≠ 0 := by
      rw [ev]
      have := Int.mul_ne_zero (show d ≠ 0 by omega) h0
      omega
    have hz : ∃ i, nth z i ≠ 0 := by
      apply Classical.byContradiction
      intro hn
      exact hne (sumN_zero fun i _ => by
        have : nth z i = 0 := by
          by_cases e : nth z i = 0
          · exact e
          · exact absurd ⟨i, e⟩ hn
        rw [this]; omega)
    have fz := fit_off f hl.fit zl zn h hz
    by_cases hp : 0 < dotF n (nth r) (nth l)
    · have := Int.mul_pos hd hp
      obtain ⟨w, w1, w2, w3⟩ := lone_below r fz (by omega)
      exact .inr ⟨l, w, hl, w1, hs, w2.trans zs, hp, w3⟩
    · have := Int.mul_neg_of_pos_of_neg hd (show dotF n (nth r) (nth l) < 0 by omega)
      obtain ⟨w, w1, w2, w3⟩ := lone_above r _ (Nat.le_refl _) fz (by omega)
      exact .inr ⟨w, l, w1, hl, w2.trans zs, hs, w3, by omega⟩
end M
set_option maxRecDepth 100000
set_option maxHeartbeats 4000000
namespace M
def subB (n : Nat) (l h w : List Int) : Bool := (List.range n).all fun i => decide (nth l i = 0) || decide (nth h i ≠ 0) || decide (nth w i ≠ 0)
def nbB (n : Nat) (L : List (List Int)) (h w : List Int) : Bool := (L.filter fun l => subB n l h w).length == 2
def loneStep (n : Nat) (L : List (List Int)) (r : List Int) : List (List Int) :=
  (L.filter fun l => decide (dotL r l = 0)) ++ (L.filter fun l => decide (0 < dotL r l)).flatMap fun h => ((L.filter fun l => decide (dotL r l < 0)).filter fun w => nbB n L h w).map fun w => offL w (dotL r w) h (dotL r h)
theorem subB_iff {n : Nat} {l h w : List Int} (hl : l.length = n) : subB n l h w = true ↔ ∀ i, nth l i ≠ 0 → nth h i ≠ 0 ∨ nth w i ≠ 0 := by
  unfold subB
  rw [List.all_eq_true]
  constructor
  · intro H i hi
    have lt : i < n := by
      by_cases e : i < n
      · exact e
      · exact absurd (nth_out (by omega)) hi
    have := H i (List.mem_range.mpr lt)
    simp only [Bool.or_eq_true, decide_eq_true_eq] at this
    rcases this with (z | z) | z
    · exact absurd z hi
    · exact .inl z
    · exact .inr z
  · intro H i _
    simp only [Bool.or_eq_true, decide_eq_true_eq]
    by_cases e : nth l i = 0
    · exact .inl (.inl e)
    · rcases H i e with z | z
      · exact .inl (.inr z)
      · exact .inr z
theorem two_of_len {α : Type} {L : List α} (hd : L.Nodup) (hl : L.length = 2) {h w : α} (hh : h ∈ L) (hw : w ∈ L) (hne : h ≠ w) : ∀ l ∈ L, l = h ∨ l = w := by
  match L, hl with
  | [a, b], _ =>
    intro l hl
    simp only [List.mem_cons, List.not_mem_nil, or_false] at hh hw hl
    rcases hh with rfl | rfl <;> rcases hw with rfl | rfl <;> rcases hl with rfl | rfl <;> first | exact .inl rfl | exact .inr rfl | exact absurd rfl hne
theorem len_of_two {α : Type} {L : List α} (hd : L.Nodup) {h w : α} (hh : h ∈ L) (hw : w ∈ L) (hne : h ≠ w) (ha : ∀ l ∈ L, l = h ∨ l = w) : L.length = 2 := by
  have h1 : L.length ≤ 2 := by
    match L, hd with
    | [], _ => simp
    | [_], _ => simp
    | [_, _], _ => simp
    | a :: b :: c :: r, hd =>
      exfalso
      have ha1 := ha a (by simp); have hb1 := ha b (by simp); have hc1 := ha c (by simp)
      simp only [List.nodup_cons, List.mem_cons, not_or] at hd
      rcases ha1 with e1 | e1 <;> rcases hb1 with e2 | e2 <;> rcases hc1 with e3 | e3 <;> simp_all
  match L, hh, hw, h1 with
  | [a], hh, hw, _ =>
    simp only [List.mem_singleton] at hh hw
    exact absurd (hh.trans hw.symm) hne
  | [a, b], _, _, _ => rfl
section
variable {n : Nat} {R L : List (List Int)} {r : List Int}
structure Know (n : Nat) (R L : List (List Int)) : Prop where
  all : ∀ x, x ∈ L ↔ Lone n R x
  nd : L.Nodup
theorem Know.dot (k : Know n R L) {l : List Int} (h : l ∈ L) (r : List Int) : dotL r l = dotF n (nth r) (nth l) := dotL_F ((k.all l).mp h).fit.len
theorem nb_iff (k : Know n R L) {h w : List Int} (hh : h ∈ L) (hw : w ∈ L) (hne : h ≠ w) : nbB n L h w = true ↔ ∀ l ∈ L, (∀ i, nth l i ≠ 0 → nth h i ≠ 0 ∨ nth w i ≠ 0) → l = h ∨ l = w := by
  have mem : ∀ l, l ∈ L.filter (fun l => subB n l h w) ↔ l ∈ L ∧ ∀ i, nth l i ≠ 0 → nth h i ≠ 0 ∨ nth w i ≠ 0 := fun l => by
    rw [List.mem_filter]
    constructor
    · exact fun ⟨a, b⟩ => ⟨a, (subB_iff ((k.all l).mp a).fit.len).mp b⟩
    · exact fun ⟨a, b⟩ => ⟨a, (subB_iff ((k.all l).mp a).fit.len).mpr b⟩
  have nd : (L.filter (fun l => subB n l h w)).Nodup := k.nd.filter _
  have m1 : h ∈ L.filter (fun l => subB n l h w) := (mem h).mpr ⟨hh, fun i hi => .inl hi⟩
  have m2 : w ∈ L.filter (fun l => subB n l h w) := (mem w).mpr ⟨hw, fun i hi => .inr hi⟩
  unfold nbB
  rw [beq_iff_eq]
  constructor
  · exact fun hl l h1 h2 => two_of_len nd hl m1 m2 hne l ((mem l).mpr ⟨h1, h2⟩)
  · exact fun ha => len_of_two nd m1 m2 hne fun l hl => let ⟨a, b⟩ := (mem l).mp hl; ha l a b
theorem off_fit (hr : r.length = n) {h w : List Int} (fh : Fit n R h) (fw : Fit n R w) (vh : 0 < dotL r h) (vw : dotL r w < 0) :
    Fit n (R ++ [r]) (offL w (dotL r w) h (dotL r h)) ∧ gcdL (offL w (dotL r w) h (dotL r h)) = 1 ∧ (∀ i, nth (offL w (dotL r w) h (dotL r h)) i ≠ 0 ↔ nth h i ≠ 0 ∨ nth w i ≠ 0) ∧
    ∃ g : Int, 0 < g ∧ ∀ i, g * nth (offL w (dotL r w) h (dotL r h)) i = nth w i * dotL r h + nth h i * (-(dotL r w)) := by
  have hlen : w.length = h.length := by rw [fw.len, fh.len]
  obtain ⟨g, hg, e⟩ := offL_nth hlen (dotL r w) (dotL r h)
  have e' : ∀ i, g * nth (offL w (dotL r w) h (dotL r h)) i = nth w i * dotL r h + nth h i * (-(dotL r w)) := fun i => by rw [e i]; grind
  have nz : ∀ i, nth (offL w (dotL r w) h (dotL r h)) i ≠ 0 ↔ nth h i ≠ 0 ∨ nth w i ≠ 0 := fun i => by
    have h1 := Int.mul_nonneg (fw.nn i) (show 0 ≤ dotL r h by omega)
    have h2 := Int.mul_nonneg (fh.nn i) (show 0 ≤ -(dotL r w) by omega)
    constructor
    · intro hz
      apply Classical.byContradiction
      intro hn
      have q1 : nth h i = 0 := by
        by_cases q : nth h i = 0
        · exact q
        · exact absurd (.inl q) hn
      have q2 : nth w i = 0 := by
        by_cases q : nth w i = 0
        · exact q
        · exact absurd (.inr q) hn
      have := e' i
      rw [q1, q2] at this
      have : g * nth (offL w (dotL r w) h (dotL r h)) i = 0 := by rw [this]; omega
      rcases Int.mul_eq_zero.mp this with z | z
      · omega
      · exact hz z
    · intro hor z
      have := e' i
      rw [z] at this
      have hs : nth w i * dotL r h + nth h i * (-(dotL r w)) = 0 := by omega
      rcases hor with q | q
      · have := Int.mul_pos (show 0 < nth h i by have := fh.nn i; omega) (show 0 < -(dotL r w) by omega); omega
      · have := Int.mul_pos (show 0 < nth w i by have := fw.nn i; omega) vh; omega
  have one : gcdL (offL w (dotL r w) h (dotL r h)) = 1 := by
    obtain ⟨i, hi⟩ := fh.nz
    have q : nth (offL w (dotL r w) h (dotL r h)) i ≠ 0 := (nz i).mpr (.inl hi)
    exact low_lowd _ i q
  refine ⟨⟨by rw [offL_length hlen, fw.len], fun i => ?_, fun q hq => ?_, ?_⟩, one, nz, g, hg, e'⟩
  · have h1 := Int.mul_nonneg (fw.nn i) (show 0 ≤ dotL r h by omega)
    have h2 := Int.mul_nonneg (fh.nn i) (show 0 ≤ -(dotL r w) by omega)
    have := e' i
    by_cases z : 0 ≤ nth (offL w (dotL r w) h (dotL r h)) i
    · exact z
    · have := Int.mul_neg_of_pos_of_neg hg (show nth (offL w (dotL r w) h (dotL r h)) i < 0 by omega); omega
  · obtain ⟨g', hg', ed⟩ := dotN_off (n := n) hlen (dotL r w) (dotL r h) (nth q)
    simp only [dotN_F] at ed
    rw [dotF_comm]
    have z : g' * dotF n (nth (offL w (dotL r w) h (dotL r h))) (nth q) = 0 := by
      rw [ed, dotF_comm n (nth w), dotF_comm n (nth h)]
      rcases List.mem_append.mp hq with hq | hq
      · rw [fw.st q hq, fh.st q hq]; omega
      · rw [List.mem_singleton.mp hq, ← dotL_F fw.len, ← dotL_F fh.len]; grind
    rcases Int.mul_eq_zero.mp z with z | z
    · omega
    · exact z
  · obtain ⟨i, hi⟩ := fh.nz
    exact ⟨i, (nz i).mpr (.inl hi)⟩
theorem Fit.less {R S : List (List Int)} {x : List Int} (f : Fit n (R ++ S) x) : Fit n R x := ⟨f.len, f.nn, fun r hr => f.st r (List.mem_append_left _ hr), f.nz⟩
theorem Fit.more (f : Fit n R x) (h : dotF n (nth r) (nth x) = 0) : Fit n (R ++ [r]) x := ⟨f.len, f.nn, fun q hq => by
  rcases List.mem_append.mp hq with z | z
  · exact f.st q z
  · rw [List.mem_singleton.mp z]; exact h, f.nz⟩
theorem Lone.same {x y : List Int} (a : Lone n R x) (b : Lone n R y) (h : Sub y x) : x = y := a.eq b.fit b.one h
theorem same_of_off (hr : r.length = n) {h l w x : List Int} (lh : Lone n R h) (ll : Lone n R l) (lw : Lone n R w) (lx : Lone n (R ++ [r]) x) (vh : 0 < dotL r h) (vl : 0 < dotL r l) (vw : dotL r w < 0) (sh : Sub h x) (sl : Sub l x) (sw : Sub w x) : l = h := by
  obtain ⟨f1, g1, z1, a, ha, e1⟩ := off_fit hr lh.fit lw.fit vh vw
  obtain ⟨f2, g2, z2, b, hb, e2⟩ := off_fit hr ll.fit lw.fit vl vw
  have x1 := lx.eq f1 g1 fun i hi => ((z1 i).mp hi).elim (sh i) (sw i)
  have x2 := lx.eq f2 g2 fun i hi => ((z2 i).mp hi).elim (sl i) (sw i)
  rw [← x1] at e1
  rw [← x2] at e2
  have key : ∀ i, b * (nth h i * (-(dotL r w))) + (b * dotL r h - a * dotL r l) * nth w i = a * (nth l i * (-(dotL r w))) := fun i => by
    have q1 := e1 i
    have q2 := e2 i
    have : b * (a * nth x i) = a * (b * nth x i) := by grind
    rw [q1, q2] at this
    grind
  have hu : 0 < -(dotL r w) := by omega
  by_cases hm : 0 ≤ b * dotL r h - a * dotL r l
  · refine (Lone.same ll lh fun i hi => ?_)
    intro z
    have q := key i
    rw [z] at q
    have h1 := Int.mul_pos hb (Int.mul_pos (show 0 < nth h i by have := lh.fit.nn i; omega) hu)
    have h2 := Int.mul_nonneg hm (lw.fit.nn i)
    have h3 : a * (0 * (-(dotL r w))) = 0 := by simp
    omega
  · refine (Lone.same lh ll fun i hi => ?_).symm
    intro z
    have q := key i
    rw [z] at q
    have h1 := Int.mul_pos ha (Int.mul_pos (show 0 < nth l i by have := ll.fit.nn i; omega) hu)
    have h2 := Int.mul_nonpos_of_nonpos_of_nonneg (show b * dotL r h - a * dotL r l ≤ 0 by omega) (lw.fit.nn i)
    have h3 : b * (0 * (-(dotL r w))) = 0 := by simp
    omega
theorem dotL_neg {l : List Int} (hl : l.length = n) : dotL (r.map (- ·)) l = -(dotL r l) := by rw [dotL_F hl, dotL_F hl, dot_neg_row]
theorem Lone.neg {x : List Int} (l : Lone n (R ++ [r]) x) : Lone n (R ++ [r.map (- ·)]) x := by
  have tr : ∀ y, Fit n (R ++ [r]) y ↔ Fit n (R ++ [r.map (- ·)]) y := fun y => by
    constructor
    · refine fun f => Fit.more f.less ?_
      rw [dot_neg_row, f.st r (by simp)]; rfl
    · refine fun f => Fit.more f.less ?_
      have := f.st (r.map (- ·)) (by simp)
      rw [dot_neg_row] at this; omega
  exact ⟨(tr x).mp l.fit, l.one, fun y fy => l.min y ((tr y).mpr fy)⟩
theorem same_of_off' (hr : r.length = n) {h l w x : List Int} (lh : Lone n R h) (ll : Lone n R l) (lw : Lone n R w) (lx : Lone n (R ++ [r]) x) (vh : 0 < dotL r h) (vl : dotL r l < 0) (vw : dotL r w < 0) (sh : Sub h x) (sl : Sub l x) (sw : Sub w x) : l = w :=
  same_of_off (r := r.map (- ·)) (h := w) (l := l) (w := h) (by simpa using hr) lw ll lh lx.neg (by rw [dotL_neg lw.fit.len]; omega) (by rw [dotL_neg ll.fit.len]; omega) (by rw [dotL_neg lh.fit.len]; omega) sw sl sh
theorem mem_loneStep {x : List Int} : x ∈ loneStep n L r ↔ (x ∈ L ∧ dotL r x = 0) ∨ ∃ h w, h ∈ L ∧ w ∈ L ∧ 0 < dotL r h ∧ dotL r w < 0 ∧ nbB n L h w = true ∧ x = offL w (dotL r w) h (dotL r h) := by
  unfold loneStep
  rw [List.mem_append]
  constructor
  · rintro (h | h)
    · rw [List.mem_filter, decide_eq_true_eq] at h; exact .inl h
    · obtain ⟨h', q1, q2⟩ := List.mem_flatMap.mp h
      obtain ⟨w, q3, rfl⟩ := List.mem_map.mp q2
      rw [List.mem_filter, decide_eq_true_eq] at q1
      rw [List.mem_filter, List.mem_filter, decide_eq_true_eq] at q3
      exact .inr ⟨h', w, q1.1, q3.1.1, q1.2, q3.1.2, q3.2, rfl⟩
  · rintro (h | ⟨h', w, q1, q2, q3, q4, q5, rfl⟩)
    · exact .inl (by rw [List.mem_filter, decide_eq_true_eq]; exact h)
    · refine .inr (List.mem_flatMap.mpr ⟨h', by rw [List.mem_filter, decide_eq_true_eq]; exact ⟨q1, q3⟩, List.mem_map.mpr ⟨w, ?_, rfl⟩⟩)
      rw [List.mem_filter, List.mem_filter, decide_eq_true_eq]; exact ⟨⟨q2, q4⟩, q5⟩
theorem loneStep_all (hr : r.length = n) (k : Know n R L) (x : List Int) : x ∈ loneStep n L r ↔ Lone n (R ++ [r]) x := by
  rw [mem_loneStep]
  constructor
  · rintro (⟨hx, v⟩ | ⟨h, w, hh, hw, vh, vw, nb, rfl⟩)
    · have l := (k.all x).mp hx
      rw [k.dot hx] at v
      exact ⟨l.fit.more v, l.one, fun y fy => l.min y fy.less⟩
    · have lh := (k.all h).mp hh
      have lw := (k.all w).mp hw
      have hne : h ≠ w := fun e => by rw [e] at vh; omega
      obtain ⟨f1, g1, z1, _⟩ := off_fit hr lh.fit lw.fit vh vw
      refine ⟨f1, g1, fun y fy sy => ?_⟩
      have nb' := (nb_iff k hh hw hne).mp nb
      rcases lone_zero r fy.less (fy.st r (by simp)) with ⟨l, ll, sl, v⟩ | ⟨h', w', lh', lw', sh', sw', vh', vw'⟩
      · have hl := (k.all l).mpr ll
        have := nb' l hl fun i hi => (z1 i).mp (sy i (sl i hi))
        rw [← k.dot hl] at v
        rcases this with rfl | rfl <;> omega
      · have hh' := (k.all h').mpr lh'
        have hw' := (k.all w').mpr lw'
        rw [← k.dot hh'] at vh'
        rw [← k.dot hw'] at vw'
        have e1 : h' = h := by
          rcases nb' h' hh' fun i hi => (z1 i).mp (sy i (sh' i hi)) with e | e
          · exact e
          · rw [e] at vh'; omega
        have e2 : w' = w := by
          rcases nb' w' hw' fun i hi => (z1 i).mp (sy i (sw' i hi)) with e | e
          · rw [e] at vw'; omega
          · exact e
        subst e1 e2
        exact fun i hi => ((z1 i).mp hi).elim (sh' i) (sw' i)
  · intro lx
    by_cases hz : ∃ l, Lone n R l ∧ Sub l x ∧ dotF n (nth r) (nth l) = 0
    · obtain ⟨l, ll, sl, v⟩ := hz
      have e := lx.eq (ll.fit.more v) ll.one sl
      subst e
      have hl := (k.all x).mpr ll
      exact .inl ⟨hl, by rw [k.dot hl]; exact v⟩
    · rcases lone_zero r lx.fit.less (lx.fit.st r (by simp)) with h0 | ⟨h, w, lh, lw, sh, sw, vh, vw⟩
      · exact absurd h0 hz
      · have hh := (k.all h).mpr lh
        have hw := (k.all w).mpr lw
        rw [← k.dot hh] at vh
        rw [← k.dot hw] at vw
        have hne : h ≠ w := fun e => by rw [e] at vh; omega
        obtain ⟨f1, g1, z1, _⟩ := off_fit hr lh.fit lw.fit vh vw
        refine .inr ⟨h, w, hh, hw, vh, vw, (nb_iff k hh hw hne).mpr fun l hl sl => ?_, lx.eq f1 g1 fun i hi => ((z1 i).mp hi).elim (sh i) (sw i)⟩
        have ll := (k.all l).mp hl
        have slx : Sub l x := fun i hi => (sl i hi).elim (sh i) (sw i)
        by_cases v0 : dotL r l = 0
        · exact absurd ⟨l, ll, slx, by rw [← k.dot hl]; exact v0⟩ hz
        · by_cases vp : 0 < dotL r l
          · exact .inl (same_of_off hr lh ll lw lx vh vp vw sh slx sw)
          · exact .inr (same_of_off' hr lh ll lw lx vh (by omega) vw sh slx sw)
end
end M
set_option maxRecDepth 100000
set_option maxHeartbeats 4000000
namespace M
section
variable {n : Nat} {R L : List (List Int)} {r : List Int}
theorem off_inj (hr : r.length = n) (k : Know n R L) {h w h' w' : List Int} (hh : h ∈ L) (hw : w ∈ L) (vh : 0 < dotL r h) (vw : dotL r w < 0) (nb : nbB n L h w = true)
    (hh' : h' ∈ L) (hw' : w' ∈ L) (vh' : 0 < dotL r h') (vw' : dotL r w' < 0) (e : offL w (dotL r w) h (dotL r h) = offL w' (dotL r w') h' (dotL r h')) : h = h' ∧ w = w' := by
  have hne : h ≠ w := fun e => by rw [e] at vh; omega
  obtain ⟨_, _, z1, _⟩ := off_fit hr ((k.all h).mp hh).fit ((k.all w).mp hw).fit vh vw
  obtain ⟨_, _, z2, _⟩ := off_fit hr ((k.all h').mp hh').fit ((k.all w').mp hw').fit vh' vw'
  rw [e] at z1
  have nb' := (nb_iff k hh hw hne).mp nb
  constructor
  · rcases nb' h' hh' fun i hi => (z1 i).mp ((z2 i).mpr (.inl hi)) with q | q
    · exact q.symm
    · rw [q] at vh'; omega
  · rcases nb' w' hw' fun i hi => (z1 i).mp ((z2 i).mpr (.inr hi)) with q | q
    · rw [q] at vw'; omega
    · exact q.symm
theorem loneStep_nd (hr : r.length = n) (k : Know n R L) : (loneStep n L r).Nodup := by
  unfold loneStep
  rw [List.nodup_append]
  refine ⟨k.nd.filter _, ?_, fun x hx y hy e => ?_⟩
  · unfold List.Nodup
    rw [List.pairwise_flatMap]
    constructor
    · intro h hh
      rw [List.mem_filter, decide_eq_true_eq] at hh
      rw [List.pairwise_map]
      refine List.Pairwise.imp_of_mem (fun {w w'} hw hw' hne => ?_) ((k.nd.filter _).filter _)
      rw [List.mem_filter, List.mem_filter, decide_eq_true_eq] at hw hw'
      exact fun e => hne (off_inj hr k hh.1 hw.1.1 hh.2 hw.1.2 hw.2 hh.1 hw'.1.1 hh.2 hw'.1.2 e).2
    · refine List.Pairwise.imp_of_mem (fun {h h'} hh hh' hne x hx y hy => ?_) (k.nd.filter _)
      rw [List.mem_filter, decide_eq_true_eq] at hh hh'
      obtain ⟨w, hw, rfl⟩ := List.mem_map.mp hx
      obtain ⟨w', hw', rfl⟩ := List.mem_map.mp hy
      rw [List.mem_filter, List.mem_filter, decide_eq_true_eq] at hw hw'
      exact fun e => hne (off_inj hr k hh.1 hw.1.1 hh.2 hw.1.2 hw.2 hh'.1 hw'.1.1 hh'.2 hw'.1.2 e).1
  · subst e
    rw [List.mem_filter, decide_eq_true_eq] at hx
    obtain ⟨h, hh, hy⟩ := List.mem_flatMap.mp hy
    obtain ⟨w, hw, e⟩ := List.mem_map.mp hy
    rw [List.mem_filter, decide_eq_true_eq] at hh
    rw [List.mem_filter, List.mem_filter, decide_eq_true_eq] at hw
    have hne : h ≠ w := fun e => by rw [e] at hh; omega
    obtain ⟨_, _, z1, _⟩ := off_fit hr ((k.all h).mp hh.1).fit ((k.all w).mp hw.1.1).fit hh.2 hw.1.2
    rw [e] at z1
    rcases (nb_iff k hh.1 hw.1.1 hne).mp hw.2 x hx.1 fun i hi => (z1 i).mp hi with q | q
    · rw [q] at hx; omega
    · rw [q] at hx; omega
theorem Know.step (hr : r.length = n) (k : Know n R L) : Know n (R ++ [r]) (loneStep n L r) := ⟨loneStep_all hr k, loneStep_nd hr k⟩
theorem gcdL_unit {a : Nat} (ha : a < n) : gcdL (unitL n a) = 1 := by
  have := gcdL_dvd_nth (unitL n a) a
  rw [unitL_nth ha, if_pos rfl] at this
  have : (gcdL (unitL n a) : Int).natAbs ∣ (1 : Int).natAbs := Int.natAbs_dvd_natAbs.mpr this
  simpa using this
theorem unit_fit {a : Nat} (ha : a < n) : Fit n [] (unitL n a) := by
  refine ⟨by unfold unitL; simp, fun i => ?_, by simp, ⟨a, ?_⟩⟩
  · rw [unitL_nth ha]; split <;> omega
  · rw [unitL_nth ha, if_pos rfl]; decide
theorem unit_lone {a : Nat} (ha : a < n) : Lone n [] (unitL n a) := by
  refine ⟨unit_fit ha, gcdL_unit ha, fun y fy sy => fun i hi => ?_⟩
  rw [unitL_nth ha] at hi
  by_cases e : i = a
  · subst e
    obtain ⟨j, hj⟩ := fy.nz
    have := sy j hj
    rw [unitL_nth ha] at this
    by_cases e : j = i
    · rw [← e]; exact hj
    · rw [if_neg e] at this; exact absurd rfl this
  · rw [if_neg e] at hi; exact absurd rfl hi
theorem units_know (n : Nat) : Know n [] (unitsL n) := by
  refine ⟨fun x => ⟨fun hx => ?_, fun l => ?_⟩, ?_⟩
  · obtain ⟨a, ha, rfl⟩ := List.mem_map.mp hx
    exact unit_lone (List.mem_range.mp ha)
  · obtain ⟨i, hi⟩ := l.fit.nz
    have lt := l.fit.lt hi
    have := l.eq (unit_fit lt) (gcdL_unit lt) fun j hj => by
      rw [unitL_nth lt] at hj
      by_cases e : j = i
      · rw [e]; exact hi
      · rw [if_neg e] at hj; exact absurd rfl hj
    rw [this]
    exact List.mem_map.mpr ⟨i, List.mem_range.mpr lt, rfl⟩
  · unfold unitsL List.Nodup
    rw [List.pairwise_map]
    refine List.Pairwise.imp_of_mem (fun {a b} ha hb hne e => hne ?_) List.nodup_range
    have h1 := unitL_nth (List.mem_range.mp ha) a
    rw [e, unitL_nth (List.mem_range.mp hb), if_pos rfl] at h1
    by_cases q : a = b
    · exact q
    · rw [if_neg q] at h1; cases h1
theorem fold_know : ∀ {rows : List (List Int)}, (∀ r ∈ rows, r.length = n) → ∀ {R L : List (List Int)}, Know n R L → Know n (R ++ rows) (rows.foldl (loneStep n) L)
  | [], _, R, L, k => by simpa using k
  | row :: rows, h, R, L, k => by
    have := fold_know (rows := rows) (fun r hr => h r (List.mem_cons_of_mem _ hr)) (k.step (h row List.mem_cons_self))
    simpa using this
def loneLs (rows : List (List Int)) (n : Nat) : List (List Int) := rows.foldl (loneStep n) (unitsL n)
theorem lone_know {rows : List (List Int)} (h : ∀ r ∈ rows, r.length = n) : Know n rows (loneLs rows n) := by
  have := fold_know h (units_know n)
  rw [List.nil_append] at this
  exact this
theorem Know.perm {L' : List (List Int)} (k : Know n R L) (p : L'.Perm L) : Know n R L' := ⟨fun x => (p.mem_iff).trans (k.all x), p.nodup_iff.mpr k.nd⟩
end
end M
set_option maxRecDepth 100000
set_option maxHeartbeats 4000000
namespace M
section
variable {n : Nat} {R L : List (List Int)}
theorem fit_nn {c : List Int} (h : ∀ l, Lone n R l → 0 ≤ dotF n (nth c) (nth l)) {y : List Int} (fy : Fit n R y) : 0 ≤ dotF n (nth c) (nth y) := by
  by_cases hv : 0 ≤ dotF n (nth c) (nth y)
  · exact hv
  · obtain ⟨l, h1, _, h3⟩ := lone_below c fy (by omega)
    have := h l h1
    omega
end
end M
set_option maxRecDepth 100000
set_option maxHeartbeats 1000000
namespace M
theorem nodup_lt : ∀ (N : Nat) (l : List Nat), l.Nodup → (∀ x ∈ l, x < N) → l.length ≤ N
  | 0, l, _, h => by
    cases l with
    | nil => exact Nat.le_refl _
    | cons a l => exact absurd (h a List.mem_cons_self) (by omega)
  | N + 1, l, nd, h => by
    by_cases hm : N ∈ l
    · have := nodup_lt N (l.erase N) (nd.erase N) (fun x hx => by
        have h1 := (nd.mem_erase_iff.mp hx)
        have := h x h1.2
        have := h1.1
        omega)
      rw [List.length_erase_of_mem hm] at this
      omega
    · have := nodup_lt N l nd (fun x hx => by
        have h1 := h x hx
        have : x ≠ N := fun e => hm (e ▸ hx)
        omega)
      omega
def at0 (x : List Int) (i : Nat) : Bool := decide (nth x i ≠ 0)
def cl3 (a b c : Bool) : Nat := match a, b, c with
  | false, true, _ => 1
  | false, false, true => 2
  | true, false, true => 2
  | _, _, _ => 0
theorem cl3_le (a b c : Bool) : cl3 a b c ≤ 2 := by revert a b c; decide
theorem cl3_chain : ∀ a b c a' b' c' : Bool, cl3 a b c = cl3 a' b' c' → ((a = true → a' = true) ∧ (b = true → b' = true) ∧ (c = true → c' = true)) ∨ ((a' = true → a = true) ∧ (b' = true → b = true) ∧ (c' = true → c = true)) := by decide
def clsN (x : List Int) : Nat := 3 * ((at0 x 3).toNat + 2 * (at0 x 4).toNat + 4 * (at0 x 5).toNat + 8 * (at0 x 6).toNat) + cl3 (at0 x 0) (at0 x 1) (at0 x 2)
theorem toNat_le (b : Bool) : b.toNat ≤ 1 := by cases b <;> decide
theorem toNat_inj {a b : Bool} (h : a.toNat = b.toNat) : a = b := by revert a b; decide
theorem clsN_lt (x : List Int) : clsN x < 48 := by
  have := cl3_le (at0 x 0) (at0 x 1) (at0 x 2)
  have := toNat_le (at0 x 3)
  have := toNat_le (at0 x 4)
  have := toNat_le (at0 x 5)
  have := toNat_le (at0 x 6)
  unfold clsN
  omega
theorem sub_of {x y : List Int} (hx : x.length ≤ 7) (h : ∀ i, i < 7 → at0 x i = true → at0 y i = true) : Sub x y := fun i hi => by
  by_cases h7 : i < 7
  · exact of_decide_eq_true (h i h7 (decide_eq_true hi))
  · exact absurd (nth_out (by omega)) hi
theorem cls_one {n : Nat} {R : List (List Int)} {x y : List Int} (hn : n ≤ 7) (lx : Lone n R x) (ly : Lone n R y) (h : clsN x = clsN y) : x = y := by
  have a1 := cl3_le (at0 x 0) (at0 x 1) (at0 x 2)
  have a2 := cl3_le (at0 y 0) (at0 y 1) (at0 y 2)
  have b3 := toNat_le (at0 x 3); have c3 := toNat_le (at0 y 3)
  have b4 := toNat_le (at0 x 4); have c4 := toNat_le (at0 y 4)
  have b5 := toNat_le (at0 x 5); have c5 := toNat_le (at0 y 5)
  have b6 := toNat_le (at0 x 6); have c6 := toNat_le (at0 y 6)
  unfold clsN at h
  have e3 : at0 x 3 = at0 y 3 := toNat_inj (by omega)
  have e4 : at0 x 4 = at0 y 4 := toNat_inj (by omega)
  have e5 : at0 x 5 = at0 y 5 := toNat_inj (by omega)
  have e6 : at0 x 6 = at0 y 6 := toNat_inj (by omega)
  have e : cl3 (at0 x 0) (at0 x 1) (at0 x 2) = cl3 (at0 y 0) (at0 y 1) (at0 y 2) := by omega
  have lenx : x.length ≤ 7 := by rw [lx.fit.len]; exact hn
  have leny : y.length ≤ 7 := by rw [ly.fit.len]; exact hn
  rcases cl3_chain _ _ _ _ _ _ e with ⟨q0, q1, q2⟩ | ⟨q0, q1, q2⟩
  · refine (ly.same lx (sub_of lenx fun i hi ht => ?_)).symm
    have : i = 0 ∨ i = 1 ∨ i = 2 ∨ i = 3 ∨ i = 4 ∨ i = 5 ∨ i = 6 := by omega
    rcases this with rfl | rfl | rfl | rfl | rfl | rfl | rfl
    · exact q0 ht
    · exact q1 ht
    · exact q2 ht
    · rw [← e3]; exact ht
    · rw [← e4]; exact ht
    · rw [← e5]; exact ht
    · rw [← e6]; exact ht
  · refine lx.same ly (sub_of leny fun i hi ht => ?_)
    have : i = 0 ∨ i = 1 ∨ i = 2 ∨ i = 3 ∨ i = 4 ∨ i = 5 ∨ i = 6 := by omega
    rcases this with rfl | rfl | rfl | rfl | rfl | rfl | rfl
    · exact q0 ht
    · exact q1 ht
    · exact q2 ht
    · rw [e3]; exact ht
    · rw [e4]; exact ht
    · rw [e5]; exact ht
    · rw [e6]; exact ht
theorem map_nodup {α β : Type} {f : α → β} : ∀ {l : List α}, l.Nodup → (∀ x ∈ l, ∀ y ∈ l, f x = f y → x = y) → (l.map f).Nodup
  | [], _, _ => List.nodup_nil
  | a :: l, nd, h => by
    rw [List.map_cons, List.nodup_cons]
    rw [List.nodup_cons] at nd
    refine ⟨fun hm => ?_, map_nodup nd.2 fun x hx y hy => h x (List.mem_cons_of_mem _ hx) y (List.mem_cons_of_mem _ hy)⟩
    obtain ⟨b, hb, e⟩ := List.mem_map.mp hm
    exact nd.1 (h b (List.mem_cons_of_mem _ hb) a List.mem_cons_self e ▸ hb)
theorem Know.few {n : Nat} {R L : List (List Int)} (k : Know n R L) (hn : n ≤ 7) : L.length < 64 := by
  have := nodup_lt 48 (L.map clsN) (map_nodup k.nd fun x hx y hy e => cls_one hn ((k.all x).mp hx) ((k.all y).mp hy) e) fun c hc => by
    obtain ⟨x, _, rfl⟩ := List.mem_map.mp hc
    exact clsN_lt x
  rw [List.length_map] at this
  omega
theorem step_szL {n b c : Nat} {L : List (List Int)} {r : List Int} (hr : SzL c r) (hl : r.length ≤ 1000) (hL : SzLL b L) : SzLL (2 * b + c + 12) (loneStep n L r) := by
  intro x hx
  rcases mem_loneStep.mp hx with ⟨h, _⟩ | ⟨h, w, hh, hw, _, _, _, rfl⟩
  · exact (hL x h).mono (by omega)
  · exact (SzL.off (hL w hw) (hL h hh) (dot_sz hr (hL w hw) hl) (dot_sz hr (hL h hh) hl)).mono (by omega)
def lgrow (c : Nat) : Nat → Nat → Nat
  | 0, b => b
  | m + 1, b => lgrow c m (2 * b + c + 12)
theorem fold_szL {n c : Nat} : ∀ (rows : List (List Int)) (b : Nat) (L : List (List Int)), (∀ r ∈ rows, SzL c r ∧ r.length ≤ 1000) → SzLL b L → SzLL (lgrow c rows.length b) (rows.foldl (loneStep n) L)
  | [], b, L, _, h => h
  | r :: rows, b, L, hr, h => fold_szL rows _ _ (fun q hq => hr q (List.mem_cons_of_mem _ hq)) (step_szL (hr r List.mem_cons_self).1 (hr r List.mem_cons_self).2 h)
theorem lgrow_le (c : Nat) : ∀ (m b : Nat), b ≤ lgrow c m b
  | 0, _ => Nat.le_refl _
  | m + 1, b => Nat.le_trans (by omega) (lgrow_le c m (2 * b + c + 12))
theorem lgrow_len (c : Nat) : ∀ (m m' b : Nat), m ≤ m' → lgrow c m b ≤ lgrow c m' b
  | 0, m', b, _ => lgrow_le c m' b
  | m + 1, 0, b, h => absurd h (by omega)
  | m + 1, m' + 1, b, h => lgrow_len c m m' _ (by omega)
def bitsN (x : List Int) : Nat := x.foldl (fun b y => b * 2 + if 0 < y then 1 else 0) 0
theorem bits_go : ∀ (x : List Int) (b i : Nat), (x.foldl (fun b y => b * 2 + if 0 < y then 1 else 0) b).testBit i = if i < x.length then decide (0 < nth x (x.length - 1 - i)) else b.testBit (i - x.length)
  | [], b, i => by simp
  | y :: x, b, i => by
    rw [List.foldl_cons, bits_go x]
    have c1 : (if 0 < y then 1 else 0 : Nat) ≤ 1 := by split <;> omega
    have c2 : decide ((if 0 < y then 1 else 0 : Nat) = 1) = decide (0 < y) := by
      by_cases hy : 0 < y
      · rw [if_pos hy, decide_eq_true hy]; rfl
      · rw [if_neg hy, decide_eq_false hy]; rfl
    generalize (if 0 < y then 1 else 0 : Nat) = c at c1 c2
    by_cases h : i < x.length
    · rw [if_pos h, if_pos (by simp; omega)]
      congr 2
      show nth x (x.length - 1 - i) = nth (y :: x) (x.length + 1 - 1 - i)
      rw [show x.length + 1 - 1 - i = (x.length - 1 - i) + 1 by omega]
      rfl
    · rw [if_neg h]
      by_cases h2 : i = x.length
      · subst h2
        rw [if_pos (by simp), Nat.sub_self, Nat.testBit_zero]
        show _ = decide (0 < nth (y :: x) (x.length + 1 - 1 - x.length))
        rw [show x.length + 1 - 1 - x.length = 0 by omega]
        show _ = decide (0 < y)
        rw [← c2]
        congr 1
        rw [eq_iff_iff]
        omega
      · rw [if_neg (by simp; omega), List.length_cons, show i - x.length = (i - (x.length + 1)) + 1 by omega, Nat.testBit_succ]
        congr 1
        omega
theorem bits_at (x : List Int) (i : Nat) : (bitsN x).testBit i = decide (i < x.length ∧ 0 < nth x (x.length - 1 - i)) := by
  unfold bitsN
  rw [bits_go]
  by_cases h : i < x.length
  · rw [if_pos h]
    by_cases h2 : 0 < nth x (x.length - 1 - i)
    · rw [decide_eq_true h2, decide_eq_true ⟨h, h2⟩]
    · rw [decide_eq_false h2, decide_eq_false (fun z => h2 z.2)]
  · rw [if_neg h, decide_eq_false (fun z => h z.1), Nat.zero_testBit]
theorem or_eq_iff {a b : Nat} : a ||| b = b ↔ ∀ i, a.testBit i = true → b.testBit i = true := by
  constructor
  · intro h i hi
    rw [← h, Nat.testBit_or, hi, Bool.true_or]
  · intro h
    refine Nat.eq_of_testBit_eq fun i => ?_
    rw [Nat.testBit_or]
    cases ha : a.testBit i with
    | true => rw [h i ha]; rfl
    | false => rw [Bool.false_or]
theorem bits_sub {n : Nat} {l h w : List Int} (hl : l.length = n) (hh : h.length = n) (hw : w.length = n) (nl : ∀ i, 0 ≤ nth l i) (nh : ∀ i, 0 ≤ nth h i) (nw : ∀ i, 0 ≤ nth w i) : decide (bitsN l ||| (bitsN h ||| bitsN w) = bitsN h ||| bitsN w) = subB n l h w := by
  rw [Bool.eq_iff_iff, decide_eq_true_eq, or_eq_iff, subB_iff hl]
  constructor
  · intro H i hi
    have lt : i < n := by
      by_cases e : i < n
      · exact e
      · exact absurd (nth_out (by omega)) hi
    have := H (n - 1 - i) (by
      rw [bits_at]
      refine decide_eq_true ⟨by omega, ?_⟩
      rw [hl, show n - 1 - (n - 1 - i) = i by omega]
      have := nl i
      omega)
    rw [Nat.testBit_or, Bool.or_eq_true, bits_at, bits_at, decide_eq_true_eq, decide_eq_true_eq, hh, hw, show n - 1 - (n - 1 - i) = i by omega] at this
    rcases this with z | z
    · exact .inl (by omega)
    · exact .inr (by omega)
  · intro H i hi
    rw [bits_at, decide_eq_true_eq, hl] at hi
    rw [Nat.testBit_or, Bool.or_eq_true, bits_at, bits_at, decide_eq_true_eq, decide_eq_true_eq, hh, hw]
    rcases H (n - 1 - i) (by omega) with z | z
    · have := nh (n - 1 - i)
      exact .inl ⟨hi.1, by omega⟩
    · have := nw (n - 1 - i)
      exact .inr ⟨hi.1, by omega⟩
end M
set_option maxRecDepth 100000
set_option maxHeartbeats 4000000
namespace M
open PySem PySem.Spec PyProof.Rows L2
abbrev pyL (r : List Int) : PyData := .list (r.map PyData.int)
theorem toPys_vI : ∀ A : List (List Int), toPys (A.map vI) = some (A.map pyL)
  | [] => by simp [toPys]
  | r :: A => by simp [toPys, toPy, toPys_ints, toPys_vI A]
theorem ress_vI {O : Store} : ∀ A : List (List Int), ress O (A.map vI) = A.map vI
  | [] => by simp [ress]
  | r :: A => by simp [ress, res, ress_ints, ress_vI A]
theorem canLay_pyL : ∀ A : List (List Int), PyData.canLayAll0 (A.map pyL) = true
  | [] => by simp [PyData.canLayAll0]
  | r :: A => by simp [PyData.canLayAll0, PyData.canLay0, canLay_ints, canLay_pyL A]
theorem depth_pyL : ∀ A : List (List Int), PyData.depthAll (A.map pyL) ≤ 1
  | [] => by simp [PyData.depthAll]
  | r :: A => by
    have := depth_pyL A
    simp [PyData.depthAll, PyData.depth, depth_ints]
    omega
theorem shaped_pyL (A : List (List Int)) : SeqAt.shaped (.list (A.map pyL)) = true := by
  have := depth_pyL A
  simp [SeqAt.shaped, PyData.canLay0, canLay_pyL, PyData.depth]
  omega
theorem eqv_pyL : ∀ A B : List (List Int), PyData.eqvAll (A.map pyL) (B.map pyL) = decide (A = B)
  | [], [] => by simp [PyData.eqvAll]
  | [], _ :: _ => by simp [PyData.eqvAll]
  | _ :: _, [] => by simp [PyData.eqvAll]
  | a :: r, b :: t => by
    simp only [List.map_cons, PyData.eqvAll, PyData.eqv, eqv_ints, eqv_pyL r t]
    by_cases h : a = b <;> by_cases h' : r = t <;> simp [h, h']
theorem eqB_vII {O : Store} (A B : List (List Int)) : eqB O (vII A) (vII B) = some (decide (A = B)) := by
  show eqDeep O _ _ = _
  unfold eqDeep
  simp only [res, ress_vI, toPy, toPys_vI, Option.map_some]
  rw [if_pos ⟨shaped_pyL A, shaped_pyL B⟩]
  simp only [PyData.eqv, eqv_pyL]
theorem neD_vII {O : Store} (A B : List (List Int)) : neD O (vII A) (vII B) = .ok (.bl (!decide (A = B))) := by unfold neD; rw [eqB_vII]
theorem cutD_mid (ms : List Int) (lo hi : Nat) : ∃ ks : List Int, cutD (ms.map D.int) (some (lo : Int)) (some (hi : Int)) = ks.map D.int ∧ ks.length ≤ hi - lo := by
  refine ⟨(ms.drop (min lo ms.length)).take (min hi ms.length - min lo ms.length), ?_, ?_⟩
  · unfold cutD
    rw [HT.sIx_nat, HT.sIx_nat, List.length_map, List.map_take, List.map_drop]
  · rw [List.length_take, List.length_drop]
    omega
theorem forGo_step {ok : Store → Prop} {g : GM} {body : SM} {d : D} {ds : List D} {s s1 s2 : S} (hok : ok s.o) (hg : g d s = .ok s1) (hb : body s1 = .next s2) : forGo ok g body (d :: ds) s = forGo ok g body ds s2 := by
  rw [forGo, if_pos hok, hg, out_ok, hb]
end M
set_option maxRecDepth 100000
set_option maxHeartbeats 4000000
namespace M
open PySem PySem.Spec PyProof.Rows L2
end M
set_option maxRecDepth 100000
set_option maxHeartbeats 4000000
namespace M
open PySem PySem.Spec PyProof.Rows L2
end M
set_option maxRecDepth 100000
set_option maxHeartbeats 4000000
namespace M
open PySem PySem.Spec PyProof.Rows L2
section
variable {s s1 s2 : S} {R R' : List (Option D)} {O O' : Store} {d x y : D} {xs ys : List D}
theorem x_bin {f : Op2} {ma mb : EM} (ha : ma s = .ok (x, s1)) (hb : mb s1 = .ok (y, s2)) (hf : f s2.o x y = .ok d) : binM f ma mb s = .ok (d, s2) := by
  rw [binM_ev, ha, bind_ok]; dsimp only; rw [hb, bind_ok]; dsimp only; rw [hf, bind_ok]
theorem x_un {f : Op1} {ma : EM} (ha : ma s = .ok (x, s1)) (hf : f s1.o x = .ok d) : unM f ma s = .ok (d, s1) := by
  rw [unM_ev, ha, bind_ok]; dsimp only; rw [hf, bind_ok]
theorem x_cal {f : OpN} {ma : AM} (ha : ma s = .ok (xs, s1)) (hf : f s1.o xs = .ok d) : calM f ma s = .ok (d, s1) := by
  rw [calM_ev, ha, bind_ok]; dsimp only; rw [hf, bind_ok]
theorem x_cons {m : EM} {r : AM} (ha : m s = .ok (x, s1)) (hb : r s1 = .ok (ys, s2)) : consM m r s = .ok (x :: ys, s2) := by
  rw [consM_ev, ha, bind_ok]; dsimp only; rw [hb, bind_ok]
theorem x_lst {ma : AM} (ha : ma s = .ok (xs, s1)) (hl : xs.length ≤ 16777216) : lstM ma s = .ok (.lst xs, s1) := by
  rw [lstM_ev, ha, bind_ok]; dsimp only; rw [if_pos hl]
theorem x_lstC {ma : AM} {n : Nat} (ha : ma s = .ok (xs, ⟨R, O⟩)) (hl : xs.length ≤ 16777216) (hn : O.length = n) (hO : O ++ [.lst xs] = O') : lstC ma s = .ok (.ptr n, ⟨R, O'⟩) := by
  rw [lstC_ev, ha, bind_ok]; dsimp only; rw [if_pos hl, hn, hO]
theorem x_tst {m : EM} {b : Bool} (h : m s = .ok (.bl b, s1)) : tstM m s = .ok (b, s1) := by
  rw [tstM_ev, h, bind_ok]
theorem x_not {m : TM} {b : Bool} (h : m s = .ok (b, s1)) : notT m s = .ok (!b, s1) := by
  rw [notT_ev, h, bind_ok]
theorem x_orF {a b : TM} {p q : Bool} (h : a s = .ok (p, s1)) (hp : p = false) (h2 : b s1 = .ok (q, s2)) : orT a b s = .ok (q, s2) := by
  subst hp; rw [orT_ev, h, bind_ok]; exact h2
theorem x_and {a b : TM} {p q : Bool} (h : a s = .ok (p, s1)) (h2 : b s1 = .ok (q, s1)) : andT a b s = .ok (p && q, s1) := by
  rw [andT_ev, h, bind_ok]; dsimp only; cases p
  · rfl
  · rw [if_pos rfl, h2]; rfl
theorem x_andT {a b : TM} {p q : Bool} (h : a s = .ok (p, s1)) (hp : p = true) (h2 : b s1 = .ok (q, s2)) : andT a b s = .ok (q, s2) := by
  subst hp; rw [andT_ev, h, bind_ok]; exact h2
theorem x_andF {a b : TM} {p : Bool} (h : a s = .ok (p, s1)) (hp : p = false) : andT a b s = .ok (false, s1) := by
  subst hp; rw [andT_ev, h, bind_ok]; rfl
theorem x_set {m : EM} {i : Nat} (h : m s = .ok (d, ⟨R, O⟩)) (hR : R.set i (some d) = R') : setM i m s = .next ⟨R', O⟩ := by
  subst hR; exact setM_eq h
theorem x_app {mo me : EM} {k : Nat} {ds0 ds : List D} (h1 : mo s = .ok (.ptr k, s1)) (c1 : s1.o[k]? = some (.lst ds0)) (h2 : me s1 = .ok (d, ⟨R, O⟩)) (c2 : O[k]? = some (.lst ds)) (hb : ds.length ≤ 1000000) (hO : O.set k (.lst (ds ++ [d])) = O') : appM mo me s = .ok (.non, ⟨R, O'⟩) := by
  subst hO; exact appM_eq (s2 := ⟨R, O⟩) h1 c1 h2 c2 hb
theorem x_frz {m : EM} {k : Nat} {ds : List D} (h : m s = .ok (.ptr k, ⟨R, O⟩)) (c : O[k]? = some (.lst ds)) (hO : O.set k .dead = O') : frzM m s = .ok (.lst ds, ⟨R, O'⟩) := by
  subst hO; exact frzM_eq h c
theorem x_met0 {f : List D → Option (List D × D)} {mo : EM} {k : Nat} {ds es : List D} (h : mo s = .ok (.ptr k, ⟨R, O⟩)) (hc : O[k]? = some (.lst ds)) (hf : f ds = some (es, d)) (hO : O.set k (.lst es) = O') : met0M f mo s = .ok (d, ⟨R, O'⟩) := by
  subst hO
  unfold met0M
  rw [h, bind_ok]
  dsimp only
  rw [celD_ptr hc]
  dsimp only
  rw [hf]
theorem x_listC {m : EM} {n : Nat} {ds : List D} (h : m s = .ok (x, ⟨R, O⟩)) (hs : seqOf O x = some ds) (hn : O.length = n) (hO : O ++ [.lst ds] = O') : listC m s = .ok (.ptr n, ⟨R, O'⟩) := by
  rw [listC_ev, h, bind_ok]; dsimp only; rw [hs]; dsimp only; rw [hn, hO]
theorem x_callP {n : Nat} {f : FM} {ma : AM} {ds : List D} {O1 : Store} (h : ma s = .ok (ds, s1)) (hf : f ds [] = .ok (d, O1)) (hp : pureDs ds = true) (hl : ds.length = n) (hd : pureD d = true) : callP n f ma s = .ok (d, s1) := callP_eq h hp hl hf hd
theorem x_callO {n : Nat} {f : FM} {ma : AM} {ds : List D} {O1 : Store} (h : ma s = .ok (ds, ⟨R, O⟩)) (hf : f ds [] = .ok (x, O1)) (hp : pureDs ds = true) (hl : ds.length = n) (hx : shD O.length x = y) (hO : O ++ O1.map (shC O.length) = O') : callO n f ma s = .ok (y, ⟨R, O'⟩) := by
  subst hx; subst hO; exact callO_eq h hp hl hf
theorem x_callV {n : Nat} {f : FM} {ma : AM} {ds rs : List D} {O1 : Store} (h : ma s = .ok (ds, s1)) (hr : ress s1.o (ress s1.o ds) = rs) (hf : f rs [] = .ok (d, O1)) (hp : pureDs rs = true) (hl : ds.length = n) (hd : scalD d = true) : callV n f ma s = .ok (d, s1) := by
  unfold callV
  rw [h, bind_ok]
  dsimp only
  rw [hr, if_pos ⟨hp, hl⟩, hf]
  dsimp only
  rw [if_pos hd]
theorem x_callS {n : Nat} {f : FM} {ma : AM} {ds : List D} {O1 : Store} (h : ma s = .ok (ds, ⟨R, O⟩)) (hf : f ds O = .ok (d, O1)) (hl : ds.length = n) : callS n f ma s = .ok (d, ⟨R, O1⟩) := callS_eq h hl hf
theorem x_ifT {c : TM} {A B : SM} {p : Bool} (h : c s = .ok (p, s1)) (hp : p = true) : ifS c A B s = A s1 := by subst hp; exact ifS_T h
theorem x_ifF {c : TM} {A B : SM} {p : Bool} (h : c s = .ok (p, s1)) (hp : p = false) : ifS c A B s = B s1 := by subst hp; exact ifS_F h
theorem x_noPart (s : S) : noPart s = .ok (none, s) := rfl
theorem x_part {m : EM} {i : Int} (h : m s = .ok (.int i, s1)) : part m s = .ok (some i, s1) := by rw [part_ev, h, bind_ok]
theorem x_sl {me : EM} {ml mh : OM} {lo hi : Option Int} {s3 : S} {ds es : List D} (h : me s = .ok (x, s1)) (hl : ml s1 = .ok (lo, s2)) (hh : mh s2 = .ok (hi, s3)) (hd : lsD s3.o x = some ds) (he : cutD ds lo hi = es) : slM me ml mh s = .ok (.lst es, s3) := by
  rw [slM_ev, h, bind_ok]; dsimp only; rw [hl, bind_ok]; dsimp only; rw [hh, bind_ok]; dsimp only; rw [hd]; dsimp only; rw [he]
end
section
variable {s s1 : S} {o : Out}
theorem q_seq {a b : SM} (h : a s = .next s1) (k : b s1 = o) : seqM a b s = o := (seqM_eq h).trans k
theorem q_ifT {c : TM} {A B : SM} {p : Bool} (h : c s = .ok (p, s1)) (hp : p = true) (k : A s1 = o) : ifS c A B s = o := (x_ifT h hp).trans k
theorem q_ifF {c : TM} {A B : SM} {p : Bool} (h : c s = .ok (p, s1)) (hp : p = false) (k : B s1 = o) : ifS c A B s = o := (x_ifF h hp).trans k
theorem q_run {n : Nat} {m : SM} {ds : List D} {O O1 : Store} {d : D} {R : List (Option D)} (h : m ⟨ds.map some ++ List.replicate (n - ds.length) none, O⟩ = .ret d ⟨R, O1⟩) : runM n m ds O = .ok (d, O1) := runM_ret h
end
end M
set_option maxRecDepth 100000
set_option maxHeartbeats 4000000
namespace M
open PySem PySem.Spec PyProof.Rows L2
section
variable {s s1 s2 : S} {c : Nat} {a : D} {o : Out}
end
end M
set_option maxRecDepth 100000
set_option maxHeartbeats 4000000
namespace M
open PySem PySem.Spec PyProof.Rows L2
theorem x_callN {n : Nat} {f : FM} {ma : AM} {s : S} {R : List (Option D)} {O O1 O' : Store} {x y : D} {ds rs : List D} (h : ma s = .ok (ds, ⟨R, O⟩)) (hr : ress O (ress O ds) = rs) (hf : f rs [] = .ok (x, O1)) (hp : pureDs rs = true) (hl : ds.length = n) (hd : flatD x = true) (hO1 : O1.all flatC = true) (hx : shD O.length x = y) (hO : O ++ O1.map (shC O.length) = O') : callN n f ma s = .ok (y, ⟨R, O'⟩) := by
  subst hx; subst hO
  unfold callN
  rw [h, bind_ok]
  dsimp only
  rw [hr, if_pos ⟨hp, hl⟩, hf]
  dsimp only
  rw [if_pos ⟨hd, hO1⟩]
abbrev ptrs (L : List (Nat × List Int)) : List D := L.map fun p => .ptr p.1
def Sto (O : Store) (L : List (Nat × List Int)) : Prop := ∀ p ∈ L, O[p.1]? = some (.lst (p.2.map D.int))
theorem Sto.app {O : Store} {L : List (Nat × List Int)} (h : Sto O L) (E : Store) : Sto (O ++ E) L := fun p hp => get_app_l (h p hp)
theorem Sto.set {O : Store} {L : List (Nat × List Int)} (h : Sto O L) {k : Nat} (hk : ∀ p ∈ L, p.1 ≠ k) (c : Cell) : Sto (O.set k c) L := fun p hp => by rw [get_set_ne fun z => hk p hp z.symm]; exact h p hp
theorem Sto.lt {O : Store} {L : List (Nat × List Int)} (h : Sto O L) {p : Nat × List Int} (hp : p ∈ L) : p.1 < O.length := get_lt (h p hp)
theorem compGo_sto {α : Type} {ok : Store → Prop} {e : EM} {cap : List (Option D)} {item : α → D} {f : α → List Int} {T : α → Nat → Prop} (I : Store → Prop) (hI : ∀ O E, I O → I (O ++ E)) (hok : ∀ O, I O → ok O) :
    ∀ (l : List α) (acc : List D) (x : Option D) (O : Store), I O → acc.length + l.length ≤ 16777216 →
    (∀ a ∈ l, ∀ O, I O → ∃ q E, e ⟨some (item a) :: cap, O⟩ = .ok (.ptr q, ⟨some (item a) :: cap, O ++ E⟩) ∧ (O ++ E)[q]? = some (.lst ((f a).map D.int)) ∧ (T a q ∨ O.length ≤ q)) →
    ∃ (L : List (Nat × List Int)) (E : Store) (x' : Option D), compGo ok (nameG 0) trueT e (l.map item) acc ⟨x :: cap, O⟩ = .ok (acc ++ ptrs L, ⟨x' :: cap, O ++ E⟩) ∧ L.map (·.2) = l.map f ∧ Sto (O ++ E) L ∧ ∀ p ∈ L, (∃ a ∈ l, T a p.1) ∨ O.length ≤ p.1
  | [], acc, x, O, h, _, _ => ⟨[], [], x, by rw [List.map_nil, compGo, if_pos (hok _ h)]; simp, rfl, (fun p hp => by cases hp), (fun p hp => by cases hp)⟩
  | a :: l, acc, x, O, h, hl, he => by
    obtain ⟨q, E, e1, e2, e3⟩ := he a List.mem_cons_self O h
    rw [List.length_cons] at hl
    obtain ⟨L, E', x', e4, e5, e6, e7⟩ := compGo_sto (T := T) I hI hok l (acc ++ [.ptr q]) (some (item a)) (O ++ E) (hI O E h) (by simp; omega) (fun a ha => he a (List.mem_cons_of_mem _ ha))
    refine ⟨(q, f a) :: L, E ++ E', x', ?_, by simp [e5], fun p hp => ?_, fun p hp => ?_⟩
    · rw [List.map_cons, compGo, if_pos ⟨hok _ h, by omega⟩, nameG_ev, bind_ok, trueT_ev, bind_ok]
      dsimp only
      rw [if_pos rfl, show (⟨List.set (x :: cap) 0 (some (item a)), O⟩ : S) = ⟨some (item a) :: cap, O⟩ from rfl, e1, bind_ok]
      dsimp only
      rw [e4]
      simp
    · rw [← List.append_assoc]
      rcases List.mem_cons.mp hp with rfl | hp
      · exact get_app_l e2
      · exact e6 p hp
    · rcases List.mem_cons.mp hp with rfl | hp
      · rcases e3 with e3 | e3
        · exact .inl ⟨a, List.mem_cons_self, e3⟩
        · exact .inr e3
      · rcases e7 p hp with ⟨b, hb, z⟩ | z
        · exact .inl ⟨b, List.mem_cons_of_mem _ hb, z⟩
        · exact .inr (by rw [List.length_append] at z; omega)
end M
set_option maxRecDepth 100000
set_option maxHeartbeats 4000000
namespace M
open PySem PySem.Spec PyProof.Rows L2
section
variable {α β : Type} (f g : α → β)
end
end M
set_option maxRecDepth 100000
set_option maxHeartbeats 4000000
namespace Lk17
open PySem PySem.Spec PyProof.Rows L2 M
def top (i : Nat) : Stmt := PySem.Challenge.pw_modeyard_k17_lone_lists.main.body.getD i (.Pass ⟨0, 0, 0, 0⟩)
abbrev s_measure_of_two : Stmt := top 1
abbrev s_measure : Stmt := top 2
abbrev s_lowest : Stmt := top 3
abbrev s_sum_of_products : Stmt := top 5
abbrev s_unit : Stmt := top 6
abbrev s_units : Stmt := top 7
abbrev s_offset : Stmt := top 8
abbrev s_places_of : Stmt := top 10
abbrev s_is_among : Stmt := top 11
abbrev s_are_neighbours : Stmt := top 12
abbrev s_lone_by_one_more : Stmt := top 13
abbrev s_lone : Stmt := top 14
abbrev s_law_cell : Stmt := top 16
abbrev s_law_bag : Stmt := top 17
abbrev s_law_draw : Stmt := top 18
abbrev s_law_number : Stmt := top 19
abbrev s_law_product : Stmt := top 20
abbrev s_law_whole : Stmt := top 21
abbrev s_law_is_list : Stmt := top 22
abbrev s_law_measure : Stmt := top 23
abbrev s_law_free : Stmt := top 24
abbrev s_law_fit : Stmt := top 25
abbrev s_law_closed : Stmt := top 26
abbrev s_law_turned : Stmt := top 27
abbrev s_law_places : Stmt := top 28
abbrev s_law_is_lone : Stmt := top 29
abbrev s_law_apart : Stmt := top 30
abbrev s_law : Stmt := top 31
noncomputable def b_measure_of_two_1 : SM :=
 (seqM (setM 2 (binM modD (varM 0) (varM 1)))
 (seqM (setM 0 (varM 1))
 (setM 1 (varM 2))))
noncomputable def m_measure_of_two : SM :=
 (seqM (setM 0 (calM absD (consM (varM 0) nilM)))
 (seqM (setM 1 (calM absD (consM (varM 1) nilM)))
 (seqM (whileM (fun s => gcdFuel 1 s) (tstM (binM neD (varM 1) (cstM (.int 0))))
 b_measure_of_two_1)
 (retM (varM 0)))))
noncomputable def f_measure_of_two : FM := runM 3 m_measure_of_two
noncomputable def b_measure_1 : SM :=
 (setM 1 (callP 2 f_measure_of_two (consM (varM 1) (consM (varM 2) nilM))))
noncomputable def m_measure : SM :=
 (seqM (setM 1 (cstM (.int 0)))
 (seqM (forS (listI (varM 0)) (nameG 2)
 b_measure_1)
 (retM (varM 1))))
noncomputable def f_measure : FM := runM 3 m_measure
noncomputable def m_lowest : SM :=
 (seqM (setM 1 (callP 1 f_measure (consM (varM 0) nilM)))
 (seqM (ifS (tstM (binM eqD (varM 1) (cstM (.int 0))))
 (retM (listC (varM 0)))
 skipM)
 (retM (compC 1 [1] (listI (varM 0)) (nameG 0) trueT (binM fdivD (varM 0) (varM 1))))))
noncomputable def f_lowest : FM := runM 2 m_lowest
noncomputable def m_sum_of_products : SM :=
 (retM (calM sumD (consM (compF 2 [] (zipI (consM (varM 0) (consM (varM 1) nilM))) (tupG (consG (nameG 0) (consG (nameG 1) nilG)) 2) trueT (binM mulD (varM 0) (varM 1))) nilM)))
noncomputable def f_sum_of_products : FM := runM 2 m_sum_of_products
noncomputable def m_unit : SM :=
 (seqM (setM 2 (repM finC (consM (cstM (.int 0)) nilM) (varM 1)))
 (seqM (asgM (cstM (.int 1)) (putG (varM 2) (varM 0)))
 (retM (varM 2))))
noncomputable def f_unit : FM := runM 3 m_unit
noncomputable def m_units : SM :=
 (retM (compF 1 [0] (rng1 (consM (varM 0) nilM)) (nameG 0) trueT (callO 2 f_unit (consM (varM 0) (consM (varM 1) nilM)))))
noncomputable def f_units : FM := runM 1 m_units
noncomputable def m_offset : SM :=
 (seqM (setM 4 (compF 2 [1, 3] (zipI (consM (varM 0) (consM (varM 2) nilM))) (tupG (consG (nameG 0) (consG (nameG 1) nilG)) 2) trueT (binM subD (binM mulD (varM 0) (varM 3)) (binM mulD (varM 1) (varM 2)))))
 (retM (callO 1 f_lowest (consM (varM 4) nilM))))
noncomputable def f_offset : FM := runM 5 m_offset
noncomputable def b_places_of_1 : SM :=
 (seqM (setM 1 (binM mulD (varM 1) (cstM (.int 2))))
 (ifS (tstM (binM gtD (varM 2) (cstM (.int 0))))
 (setM 1 (binM addD (varM 1) (cstM (.int 1))))
 skipM))
noncomputable def m_places_of : SM :=
 (seqM (setM 1 (cstM (.int 0)))
 (seqM (forS (listI (varM 0)) (nameG 2)
 b_places_of_1)
 (retM (varM 1))))
noncomputable def f_places_of : FM := runM 3 m_places_of
noncomputable def m_is_among : SM :=
 (retM (binM eqD (binM orD (varM 0) (varM 1)) (varM 1)))
noncomputable def f_is_among : FM := runM 2 m_is_among
noncomputable def m_are_neighbours : SM :=
 (seqM (setM 3 (binM orD (varM 0) (varM 1)))
 (retM (binM eqD (calM lenD (consM (compF 1 [3] (listI (varM 2)) (nameG 0) (tstM (callP 2 f_is_among (consM (varM 0) (consM (varM 1) nilM)))) (varM 0)) nilM)) (cstM (.int 2)))))
noncomputable def f_are_neighbours : FM := runM 4 m_are_neighbours
noncomputable def b_lone_by_one_more_1 : SM :=
 (ifS (tstM (callP 3 f_are_neighbours (consM (binM ixD (varM 3) (varM 7)) (consM (binM ixD (varM 3) (varM 8)) (consM (varM 3) nilM)))))
 (dropM (appM (varM 4) (callN 4 f_offset (consM (binM ixD (varM 0) (varM 8)) (consM (binM ixD (varM 2) (varM 8)) (consM (binM ixD (varM 0) (varM 7)) (consM (binM ixD (varM 2) (varM 7)) nilM)))))))
 skipM)
noncomputable def b_lone_by_one_more_2 : SM :=
 (forS (listI (varM 6)) (nameG 8)
 b_lone_by_one_more_1)
noncomputable def m_lone_by_one_more : SM :=
 (seqM (setM 2 (compF 1 [1] (listI (varM 0)) (nameG 0) trueT (callV 2 f_sum_of_products (consM (varM 1) (consM (varM 0) nilM)))))
 (seqM (setM 3 (compF 1 [] (listI (varM 0)) (nameG 0) trueT (callV 1 f_places_of (consM (varM 0) nilM))))
 (seqM (setM 4 (compC 2 [] (zipI (consM (varM 0) (consM (varM 2) nilM))) (tupG (consG (nameG 0) (consG (nameG 1) nilG)) 2) (tstM (binM eqD (varM 1) (cstM (.int 0)))) (varM 0)))
 (seqM (setM 5 (compF 2 [] (enumerateI (consM (varM 2) nilM)) (tupG (consG (nameG 0) (consG (nameG 1) nilG)) 2) (tstM (binM gtD (varM 1) (cstM (.int 0)))) (varM 0)))
 (seqM (setM 6 (compF 2 [] (enumerateI (consM (varM 2) nilM)) (tupG (consG (nameG 0) (consG (nameG 1) nilG)) 2) (tstM (binM ltD (varM 1) (cstM (.int 0)))) (varM 0)))
 (seqM (forS (listI (varM 5)) (nameG 7)
 b_lone_by_one_more_2)
 (retM (frzM (varM 4)))))))))
noncomputable def f_lone_by_one_more : FM := runM 9 m_lone_by_one_more
noncomputable def b_lone_1 : SM :=
 (setM 2 (callS 2 f_lone_by_one_more (consM (varM 2) (consM (varM 3) nilM))))
noncomputable def m_lone : SM :=
 (seqM (setM 2 (callS 1 f_units (consM (varM 1) nilM)))
 (seqM (forS (listI (varM 0)) (nameG 3)
 b_lone_1)
 (retM (sortM finC (varM 2)))))
noncomputable def f_lone : FM := runM 4 m_lone
noncomputable def m_law_cell : SM :=
 (seqM (ifS (tstM (binM ltD (varM 1) (calM lenD (consM (varM 0) nilM))))
 (retM (binM ixD (varM 0) (varM 1)))
 skipM)
 (retM (cstM (.int 0))))
noncomputable def f_law_cell : FM := runM 2 m_law_cell
noncomputable def m_law_bag : SM :=
 (retM (lstC (consM (binM mulD (binM modD (binM fdivD (varM 0) (cstM (.int 2))) (binM powD (cstM (.int 10)) (cstM (.int 60)))) (binM modD (varM 0) (cstM (.int 2)))) (consM (binM modD (binM fdivD (varM 0) (cstM (.int 2))) (cstM (.int 2147483647))) nilM))))
noncomputable def f_law_bag : FM := runM 1 m_law_bag
noncomputable def m_law_draw : SM :=
 (seqM (ifS (tstM (binM gtD (binM ixD (varM 0) (cstM (.int 0))) (cstM (.int 0))))
 (seqM (setM 2 (binM modD (binM ixD (varM 0) (cstM (.int 0))) (varM 1)))
 (seqM (asgM (binM fdivD (binM ixD (varM 0) (cstM (.int 0))) (varM 1)) (putG (varM 0) (cstM (.int 0))))
 (retM (varM 2))))
 skipM)
 (seqM (asgM (binM modD (binM addD (binM mulD (binM ixD (varM 0) (cstM (.int 1))) (cstM (.int 48271))) (cstM (.int 4099))) (cstM (.int 2147483647))) (putG (varM 0) (cstM (.int 1))))
 (retM (binM modD (binM fdivD (binM modD (binM mulD (binM ixD (varM 0) (cstM (.int 1))) (binM addD (binM fdivD (binM ixD (varM 0) (cstM (.int 1))) (cstM (.int 65536))) (cstM (.int 7)))) (cstM (.int 2147483629))) (cstM (.int 32))) (varM 1)))))
noncomputable def f_law_draw : FM := runM 3 m_law_draw
noncomputable def m_law_number : SM :=
 (seqM (setM 2 (callS 2 f_law_draw (consM (varM 0) (consM (cstM (.int 6)) nilM))))
 (seqM (ifS (tstM (binM eqD (varM 2) (cstM (.int 4))))
 (retM (cstM (.int 0)))
 skipM)
 (seqM (ifS (tstM (binM eqD (varM 2) (cstM (.int 5))))
 (retM (binM subD (binM modD (binM addD (binM mulD (callS 2 f_law_draw (consM (varM 0) (consM (cstM (.int 1000)) nilM))) (binM powD (cstM (.int 10)) (cstM (.int 6)))) (callS 2 f_law_draw (consM (varM 0) (consM (binM powD (cstM (.int 10)) (cstM (.int 6))) nilM)))) (varM 1)) (callS 2 f_law_draw (consM (varM 0) (consM (cstM (.int 9)) nilM)))))
 skipM)
 (retM (binM subD (callS 2 f_law_draw (consM (varM 0) (consM (cstM (.int 7)) nilM))) (cstM (.int 3)))))))
noncomputable def f_law_number : FM := runM 3 m_law_number
noncomputable def m_law_product : SM :=
 (retM (calM sumD (consM (compF 2 [] (zipI (consM (varM 0) (consM (varM 1) nilM))) (tupG (consG (nameG 0) (consG (nameG 1) nilG)) 2) trueT (binM mulD (varM 0) (varM 1))) nilM)))
noncomputable def f_law_product : FM := runM 2 m_law_product
noncomputable def m_law_whole : SM :=
 (retM (andV (unM (isiD "int") (varM 0)) (notV (unM (isiD "bool") (varM 0)))))
noncomputable def f_law_whole : FM := runM 1 m_law_whole
noncomputable def m_law_is_list : SM :=
 (retM (andV (unM (isiD "list") (varM 0)) (andV (binM eqD (calM lenD (consM (varM 0) nilM)) (varM 1)) (calM allD (consM (compF 1 [] (listI (varM 0)) (nameG 0) trueT (callP 1 f_law_whole (consM (varM 0) nilM))) nilM)))))
noncomputable def f_law_is_list : FM := runM 2 m_law_is_list
noncomputable def b_law_measure_1 : SM :=
 (seqM (setM 4 (binM modD (varM 1) (varM 3)))
 (seqM (setM 1 (varM 3))
 (setM 3 (varM 4))))
noncomputable def b_law_measure_2 : SM :=
 (seqM (setM 3 (calM absD (consM (varM 2) nilM)))
 (whileM (fun s => gcdFuel 3 s) (tstM (binM gtD (varM 3) (cstM (.int 0))))
 b_law_measure_1))
noncomputable def m_law_measure : SM :=
 (seqM (setM 1 (cstM (.int 0)))
 (seqM (forS (listI (varM 0)) (nameG 2)
 b_law_measure_2)
 (retM (varM 1))))
noncomputable def f_law_measure : FM := runM 5 m_law_measure
noncomputable def m_law_free : SM :=
 (seqM (setM 3 (callO 1 f_law_bag (consM (varM 0) nilM)))
 (retM (compF 1 [3, 2] (rng1 (consM (varM 1) nilM)) (nameG 0) trueT (callS 2 f_law_number (consM (varM 1) (consM (varM 2) nilM))))))
noncomputable def f_law_free : FM := runM 4 m_law_free
noncomputable def b_law_fit_1 : SM :=
 (seqM (setM 4 (callS 2 f_law_draw (consM (varM 0) (consM (cstM (.int 8)) nilM))))
 (seqM (setM 5 (cstM (.int 0)))
 (seqM (ifS (tstM (binM ltD (varM 4) (cstM (.int 4))))
 (setM 5 (binM addD (callS 2 f_law_draw (consM (varM 0) (consM (cstM (.int 4)) nilM))) (cstM (.int 1))))
 skipM)
 (seqM (ifS (tstM (binM eqD (varM 4) (cstM (.int 7))))
 (setM 5 (callS 2 f_law_draw (consM (varM 0) (consM (binM powD (cstM (.int 10)) (cstM (.int 6))) nilM))))
 skipM)
 (dropM (appM (varM 2) (varM 5)))))))
noncomputable def m_law_fit : SM :=
 (seqM (setM 2 (lstC (consM (cstM (.int 1)) nilM)))
 (seqM (forS (rng1 (consM (binM subD (varM 1) (cstM (.int 1))) nilM)) (nameG 3)
 b_law_fit_1)
 (retM (frzM (varM 2)))))
noncomputable def f_law_fit : FM := runM 6 m_law_fit
noncomputable def b_law_closed_1 : SM :=
 (seqM (setM 6 (callO 1 f_law_bag (consM (binM addD (binM ixD (varM 0) (binM modD (varM 5) (calM lenD (consM (varM 0) nilM)))) (binM mulD (cstM (.int 500009)) (binM fdivD (varM 5) (calM lenD (consM (varM 0) nilM))))) nilM)))
 (seqM (setM 7 (compC 1 [6, 3] (listI (varM 1)) (nameG 0) trueT (callS 2 f_law_number (consM (varM 1) (consM (varM 2) nilM)))))
 (seqM (ifS (andT (tstM (binM eqD (callS 2 f_law_draw (consM (varM 6) (consM (cstM (.int 7)) nilM))) (cstM (.int 6)))) (tstM (binM gtD (calM lenD (consM (varM 4) nilM)) (cstM (.int 0)))))
 (setM 7 (compC 1 [] (listI (binM ixD (varM 4) (unM negD (cstM (.int 1))))) (nameG 0) trueT (binM mulD (cstM (.int 3)) (varM 0))))
 skipM)
 (seqM (asgM (unM negD (calM sumD (consM (compF 1 [1, 7] (rng2 (consM (cstM (.int 1)) (consM (calM lenD (consM (varM 1) nilM)) nilM))) (nameG 0) trueT (binM mulD (binM ixD (varM 2) (varM 0)) (binM ixD (varM 1) (varM 0)))) nilM))) (putG (varM 7) (cstM (.int 0))))
 (dropM (appM (varM 4) (frzM (varM 7))))))))
noncomputable def m_law_closed : SM :=
 (seqM (setM 4 (lstC nilM))
 (seqM (forS (rng1 (consM (varM 2) nilM)) (nameG 5)
 b_law_closed_1)
 (retM (frzM (varM 4)))))
noncomputable def f_law_closed : FM := runM 8 m_law_closed
noncomputable def m_law_turned : SM :=
 (retM (compF 1 [1] (listI (varM 0)) (nameG 0) trueT (binM addD (slM (varM 0) (part (varM 1)) noPart) (slM (varM 0) noPart (part (varM 1))))))
noncomputable def f_law_turned : FM := runM 2 m_law_turned
noncomputable def m_law_places : SM :=
 (retM (compF 1 [0] (rng1 (consM (calM lenD (consM (varM 0) nilM)) nilM)) (nameG 0) (tstM (binM neD (binM ixD (varM 1) (varM 0)) (cstM (.int 0)))) (varM 0)))
noncomputable def f_law_places : FM := runM 1 m_law_places
noncomputable def m_law_is_lone : SM :=
 (seqM (ifS (orT (notT (tstM (callP 2 f_law_is_list (consM (varM 0) (consM (varM 2) nilM))))) (orT (tstM (binM ltD (minDM (varM 0) (unM negD (cstM (.int 1)))) (cstM (.int 0)))) (tstM (binM neD (callP 1 f_law_measure (consM (varM 0) nilM)) (cstM (.int 1))))))
 (retM (cstM (.bl false)))
 skipM)
 (retM (calM allD (consM (compF 1 [0] (listI (varM 1)) (nameG 0) trueT (binM eqD (callP 2 f_law_product (consM (varM 0) (consM (varM 1) nilM))) (cstM (.int 0)))) nilM))))
noncomputable def f_law_is_lone : FM := runM 3 m_law_is_lone
noncomputable def b_law_apart_1 : SM :=
 (ifS (andT (tstM (binM neD (varM 1) (varM 2))) (tstM (calM allD (consM (compF 1 [2] (listI (callP 1 f_law_places (consM (varM 1) nilM))) (nameG 0) trueT (binM gtD (binM ixD (varM 1) (varM 0)) (cstM (.int 0)))) nilM))))
 (retM (cstM (.bl false)))
 skipM)
noncomputable def b_law_apart_2 : SM :=
 (forS (listI (varM 0)) (nameG 2)
 b_law_apart_1)
noncomputable def m_law_apart : SM :=
 (seqM (forS (listI (varM 0)) (nameG 1)
 b_law_apart_2)
 (retM (cstM (.bl true))))
noncomputable def f_law_apart : FM := runM 3 m_law_apart
noncomputable def b_law_1 : SM :=
 (dropM (appM (varM 7) (cstM (.int 1))))
noncomputable def m_law : SM :=
 (seqM (setM 1 (binM addD (cstM (.int 1)) (binM modD (callP 2 f_law_cell (consM (varM 0) (consM (cstM (.int 0)) nilM))) (cstM (.int 6)))))
 (seqM (ifS (tstM (binM eqD (binM modD (binM fdivD (callP 2 f_law_cell (consM (varM 0) (consM (cstM (.int 0)) nilM))) (cstM (.int 6))) (cstM (.int 8))) (cstM (.int 1))))
 (setM 1 (cstM (.int 7)))
 skipM)
 (seqM (setM 2 (binM addD (lstM (consM (callP 2 f_law_cell (consM (varM 0) (consM (cstM (.int 1)) nilM))) nilM)) (slM (varM 0) (part (cstM (.int 3))) (part (cstM (.int 8))))))
 (seqM (setM 3 (callO 1 f_law_bag (consM (callP 2 f_law_cell (consM (varM 0) (consM (cstM (.int 2)) nilM))) nilM)))
 (seqM (setM 4 (binM ltD (callS 2 f_law_draw (consM (varM 3) (consM (cstM (.int 4)) nilM))) (cstM (.int 3))))
 (seqM (setM 5 (callP 4 f_law_closed (consM (varM 2) (consM (callS 2 f_law_fit (consM (varM 3) (consM (varM 1) nilM))) (consM (calM lenD (consM (slM (varM 0) (part (cstM (.int 3))) (part (cstM (.int 8)))) nilM)) (consM (binM ixD (lstM (consM (cstM (.int 4)) (consM (binM powD (cstM (.int 10)) (cstM (.int 9))) nilM))) (binM mulD (calM intOf (consM (binM ltD (varM 1) (cstM (.int 5))) nilM)) (callS 2 f_law_draw (consM (varM 3) (consM (cstM (.int 2)) nilM))))) nilM))))))
 (seqM (setM 6 (callS 2 f_law_draw (consM (varM 3) (consM (varM 1) nilM))))
 (seqM (ifS (notT (tstM (varM 4)))
 (setM 5 (compF 1 [1] (listI (slM (varM 0) (part (cstM (.int 3))) (part (cstM (.int 8))))) (nameG 0) trueT (callP 3 f_law_free (consM (varM 0) (consM (varM 1) (consM (binM ixD (lstM (consM (cstM (.int 4)) (consM (binM powD (cstM (.int 10)) (cstM (.int 9))) nilM))) (calM intOf (consM (binM ltD (varM 1) (cstM (.int 5))) nilM))) nilM))))))
 skipM)
 (seqM (setM 5 (callP 2 f_law_turned (consM (varM 5) (consM (varM 6) nilM))))
 (seqM (setM 8 (compF 1 [] (listI (varM 5)) (nameG 0) trueT (calM listD (consM (varM 0) nilM))))
 (seqM (setM 9 (callO 2 f_lone (consM (varM 8) (consM (varM 1) nilM))))
 (seqM (ifS (orT (notT (tstM (unM (isiD "list") (varM 9)))) (orT (tstM (binM neD (varM 8) (varM 5))) (andT (tstM (varM 4)) (tstM (binM eqD (calM lenD (consM (varM 9) nilM)) (cstM (.int 0)))))))
 (retM (cstM (.bl false)))
 skipM)
 (seqM (ifS (orT (notT (tstM (calM allD (consM (compF 1 [1, 5] (listI (varM 9)) (nameG 0) trueT (callV 3 f_law_is_lone (consM (varM 0) (consM (varM 2) (consM (varM 1) nilM))))) nilM)))) (orT (tstM (binM neD (sortM finF (varM 9)) (varM 9))) (notT (tstM (callV 1 f_law_apart (consM (varM 9) nilM))))))
 (retM (cstM (.bl false)))
 skipM)
 (seqM (setM 10 (compF 1 [] (listI (varM 9)) (nameG 0) trueT (calM listD (consM (varM 0) nilM))))
 (seqM (forS (listI (varM 9)) (nameG 7)
 b_law_1)
 (seqM (dropM (met0M clrF (varM 9)))
 (retM (binM eqD (frzM (callO 2 f_lone (consM (varM 8) (consM (varM 1) nilM)))) (varM 10)))))))))))))))))))
noncomputable def f_law : FM := runM 11 m_law
end Lk17
set_option maxRecDepth 100000
set_option maxHeartbeats 4000000
namespace Lk17
open PySem PySem.Spec PyProof.Rows L2 M
section
variable {P : Program} {w : World} {K : PySem.W.Frag} {mg : Str → Option Value} {base : Heap} {ca : Nat → Addr}
theorem sc_measure_of_two : FnScope ["one", "other", "rest"] ["one", "other"] (defScope s_measure_of_two) := ⟨rfl, rfl, rfl, by decide +kernel, rfl, by decide +kernel, by decide +kernel⟩
theorem ok_measure_of_two {a : Addr} {fd : FuncData} (F : Fun K "measure_of_two" "measure_of_two" s_measure_of_two a fd) (hm : mg "measure_of_two" = some (.ref a)) (hpt : P.given.tree = none) (n_abs : mg "abs" = none) : DefAt P w K mg base ca 35 "measure_of_two" ["one", "other"] f_measure_of_two a fd := by
  refine ⟨def_ok F sc_measure_of_two rfl fun cdv A outer s H E hr => ?_, hm, F.kp, F.binds fun _ _ _ _ _ _ us hl => match us, hl with | [_, _], _ => rfl⟩
  have hu := hr.units
  have hdp := dp_of hr (by decide)
  exact ⟨_, (pss_cons (ps_set (i := 0) sc_measure_of_two.nd rfl (Or.inl rfl) (pe_callB call_abs rfl n_abs Boot.«abs» (pa_cons (pv 0) pa_nil)))
 (pss_cons (ps_set (i := 1) sc_measure_of_two.nd rfl (Or.inl rfl) (pe_callB call_abs rfl n_abs Boot.«abs» (pa_cons (pv 1) pa_nil)))
 (pss_cons (ps_while PassesOwn.never (pt_cmpR (o_ne hu) (pv 1) pe_int (nomark _))
 (pss_cons (ps_set (i := 2) sc_measure_of_two.nd rfl (Or.inl rfl) (pe_op op_modN (pv 0) (pv 1)))
 (pss_cons (ps_set (i := 0) sc_measure_of_two.nd rfl (Or.inl rfl) (pv 1))
 (pss_one (ps_set (i := 1) sc_measure_of_two.nd rfl (Or.inl rfl) (pv 2))))))
 (pss_one (ps_ret (pv 0)))))),
   (rd_seq (rd_set (rd_callB rd_abs (rd_cons (rd_var 0) rd_nil)))
 (rd_seq (rd_set (rd_callB rd_abs (rd_cons (rd_var 1) rd_nil)))
 (rd_seq (rd_while (rd_tst (rd_bin rd_ne (rd_var 1) (rd_int 0)))
 (rd_seq (rd_set (rd_bin rd_mod (rd_var 0) (rd_var 1)))
 (rd_seq (rd_set (rd_var 1))
 (rd_set (rd_var 2)))))
 (rd_ret (rd_var 0)))))⟩
theorem sc_measure : FnScope ["numbers", "common", "number"] ["numbers"] (defScope s_measure) := ⟨rfl, rfl, rfl, by decide +kernel, rfl, by decide +kernel, by decide +kernel⟩
theorem ok_measure {a : Addr} {fd : FuncData} (F : Fun K "measure" "measure" s_measure a fd) (hm : mg "measure" = some (.ref a)) (hpt : P.given.tree = none) (D_measure_of_two : DefIn P w K mg base ca 35 "measure_of_two" ["one", "other"] f_measure_of_two) : DefAt P w K mg base ca 36 "measure" ["numbers"] f_measure a fd := by
  obtain ⟨a_measure_of_two, fd_measure_of_two, G_measure_of_two, m_measure_of_two, k_measure_of_two, b_measure_of_two⟩ := D_measure_of_two
  refine ⟨def_ok F sc_measure rfl fun cdv A outer s H E hr => ?_, hm, F.kp, F.binds fun _ _ _ _ _ _ us hl => match us, hl with | [_], _ => rfl⟩
  have hu := hr.units
  have hdp := dp_of hr (by decide)
  exact ⟨_, (pss_cons (ps_set (i := 1) sc_measure.nd rfl (Or.inl rfl) pe_int)
 (pss_cons (ps_for PassesOwn.never rfl (pi_list (pv 0)) (pg_name (i := 2) sc_measure.nd rfl (Or.inl rfl))
 (pss_one (ps_set (i := 1) sc_measure.nd rfl (Or.inl rfl) (pe_call G_measure_of_two (hr.mono (by decide)) rfl m_measure_of_two k_measure_of_two b_measure_of_two .nil passN (pa_cons (pv 1) (pa_cons (pv 2) pa_nil))))))
 (pss_one (ps_ret (pv 1))))),
   (rd_seq (rd_set (rd_int 0))
 (rd_seq (rd_for (rd_list (rd_var 0)) (rd_gname 2)
 (rd_set (rd_callP (n := 2) (f := f_measure_of_two) (rd_cons (rd_var 1) (rd_cons (rd_var 2) rd_nil)))))
 (rd_ret (rd_var 1))))⟩
theorem sc_lowest : FnScope ["numbers", "common"] ["numbers"] (defScope s_lowest) := ⟨rfl, rfl, rfl, by decide +kernel, rfl, by decide +kernel, by decide +kernel⟩
theorem ok_lowest {a : Addr} {fd : FuncData} (F : Fun K "lowest" "lowest" s_lowest a fd) (hm : mg "lowest" = some (.ref a)) (hpt : P.given.tree = none) (n_list : mg "list" = none) (D_measure : DefIn P w K mg base ca 36 "measure" ["numbers"] f_measure) : DefAt P w K mg base ca 37 "lowest" ["numbers"] f_lowest a fd := by
  obtain ⟨a_measure, fd_measure, G_measure, m_measure, k_measure, b_measure⟩ := D_measure
  refine ⟨def_ok F sc_lowest rfl fun cdv A outer s H E hr => ?_, hm, F.kp, F.binds fun _ _ _ _ _ _ us hl => match us, hl with | [_], _ => rfl⟩
  have hu := hr.units
  have hdp := dp_of hr (by decide)
  exact ⟨_, (pss_cons (ps_set (i := 1) sc_lowest.nd rfl (Or.inr rfl) (pe_call G_measure (hr.mono (by decide)) rfl m_measure k_measure b_measure .nil passN (pa_cons (pv 0) pa_nil)))
 (pss_cons (ps_if (pt_cmpR (o_eq hu) (pv 1) pe_int (nomark _))
 (pss_one (ps_ret (pe_callTy call_list_of rfl n_list Boot.«list» (pa_cons (pv 0) pa_nil))))
 pss_nil)
 (pss_one (ps_ret (pe_comp (own := ["number"]) (cap := ["common"]) (caps := [1]) rfl ⟨rfl, by decide +kernel, by decide +kernel, by decide +kernel, ⟨rfl, Or.inl rfl, rfl, trivial⟩, by decide +kernel⟩ (pi_list (pv 0)) (fun _ _ _ => (pg_name (i := 0) (show ((["number"] : List Str) ++ (["common"] : List Str)).Nodup from by decide +kernel) rfl (Or.inl rfl))) (fun _ _ _ => pts_nil) (fun _ _ _ => (pe_op (o_fdiv hdp hpt ⟨_, _, rfl, rfl, rfl, rfl, rfl⟩) (pv 0) (pv 1)))))))),
   (rd_seq (rd_set (rd_callP (n := 1) (f := f_measure) (rd_cons (rd_var 0) rd_nil)))
 (rd_seq (rd_if (rd_tst (rd_bin rd_eq (rd_var 1) (rd_int 0)))
 (rd_ret (rd_listC (rd_var 0)))
 rd_next)
 (rd_ret (rd_compC (m := 1) (caps := [1]) (rd_list (rd_var 0)) (rd_gname 0) rd_true (rd_bin rd_fdiv (rd_var 0) (rd_var 1))))))⟩
theorem sc_sum_of_products : FnScope ["numbers", "others"] ["numbers", "others"] (defScope s_sum_of_products) := ⟨rfl, rfl, rfl, by decide +kernel, rfl, by decide +kernel, by decide +kernel⟩
theorem ok_sum_of_products {a : Addr} {fd : FuncData} (F : Fun K "sum_of_products" "sum_of_products" s_sum_of_products a fd) (hm : mg "sum_of_products" = some (.ref a)) (hpt : P.given.tree = none) (n_zip : mg "zip" = none) (n_sum : mg "sum" = none) : DefAt P w K mg base ca 35 "sum_of_products" ["numbers", "others"] f_sum_of_products a fd := by
  refine ⟨def_ok F sc_sum_of_products rfl fun cdv A outer s H E hr => ?_, hm, F.kp, F.binds fun _ _ _ _ _ _ us hl => match us, hl with | [_, _], _ => rfl⟩
  have hu := hr.units
  have hdp := dp_of hr (by decide)
  exact ⟨_, (pss_one (ps_ret (pe_callB (call_sumL rfl) rfl n_sum Boot.«sum» (pa_cons (pe_comp (own := ["number", "other"]) (cap := []) (caps := []) rfl ⟨rfl, by decide +kernel, by decide +kernel, by decide +kernel, trivial, by decide +kernel⟩ (pi_zip rfl n_zip (pa_cons (pv 0) (pa_cons (pv 1) pa_nil))) (fun _ _ _ => (pg_tup rfl (pgs_cons (pg_name (i := 0) (show ((["number", "other"] : List Str) ++ ([] : List Str)).Nodup from by decide +kernel) rfl (Or.inl rfl)) (pgs_cons (pg_name (i := 1) (show ((["number", "other"] : List Str) ++ ([] : List Str)).Nodup from by decide +kernel) rfl (Or.inl rfl)) pgs_nil)))) (fun _ _ _ => pts_nil) (fun _ _ _ => (pe_op o_mul (pv 0) (pv 1)))) pa_nil)))),
   (rd_ret (rd_callB rd_sum (rd_cons (rd_comp (m := 2) (caps := []) (rd_zip (rd_cons (rd_var 0) (rd_cons (rd_var 1) rd_nil))) (rd_gtup (rd_gcons (rd_gname 0) (rd_gcons (rd_gname 1) rd_gnil))) rd_true (rd_bin rd_mul (rd_var 0) (rd_var 1))) rd_nil)))⟩
theorem sc_unit : FnScope ["at", "many", "told"] ["at", "many"] (defScope s_unit) := ⟨rfl, rfl, rfl, by decide +kernel, rfl, by decide +kernel, by decide +kernel⟩
theorem ok_unit {a : Addr} {fd : FuncData} (F : Fun K "unit" "unit" s_unit a fd) (hm : mg "unit" = some (.ref a)) (hpt : P.given.tree = none) : DefAt P w K mg base ca 35 "unit" ["at", "many"] f_unit a fd := by
  refine ⟨def_ok F sc_unit rfl fun cdv A outer s H E hr => ?_, hm, F.kp, F.binds fun _ _ _ _ _ _ us hl => match us, hl with | [_, _], _ => rfl⟩
  have hu := hr.units
  have hdp := dp_of hr (by decide)
  exact ⟨_, (pss_cons (ps_set (i := 2) sc_unit.nd rfl (Or.inl rfl) (pe_op op_rep (pe_lst (pa_cons pe_int pa_nil)) (pv 1)))
 (pss_cons (ps_asg pe_int (pg_sub (pv 2) (pv 0) set_list))
 (pss_one (ps_ret (pv 2))))),
   (rd_seq (rd_set (rd_repC (rd_cons (rd_int 0) rd_nil) (rd_var 1)))
 (rd_seq (rd_asg (rd_int 1) (rd_put (rd_var 2) (rd_var 0)))
 (rd_ret (rd_var 2))))⟩
theorem sc_units : FnScope ["many"] ["many"] (defScope s_units) := ⟨rfl, rfl, rfl, by decide +kernel, rfl, by decide +kernel, by decide +kernel⟩
theorem ok_units {a : Addr} {fd : FuncData} (F : Fun K "units" "units" s_units a fd) (hm : mg "units" = some (.ref a)) (hpt : P.given.tree = none) (n_range : mg "range" = none) (D_unit : DefIn P w K mg base ca 35 "unit" ["at", "many"] f_unit) : DefAt P w K mg base ca 36 "units" ["many"] f_units a fd := by
  obtain ⟨a_unit, fd_unit, G_unit, m_unit, k_unit, b_unit⟩ := D_unit
  refine ⟨def_ok F sc_units rfl fun cdv A outer s H E hr => ?_, hm, F.kp, F.binds fun _ _ _ _ _ _ us hl => match us, hl with | [_], _ => rfl⟩
  have hu := hr.units
  have hdp := dp_of hr (by decide)
  exact ⟨_, (pss_one (ps_ret (pe_comp (own := ["at"]) (cap := ["many"]) (caps := [0]) rfl ⟨rfl, by decide +kernel, by decide +kernel, by decide +kernel, ⟨rfl, Or.inl rfl, rfl, trivial⟩, by decide +kernel⟩ (pi_range1 rfl n_range (pa_cons (pv 0) pa_nil)) (fun _ _ _ => (pg_name (i := 0) (show ((["at"] : List Str) ++ (["many"] : List Str)).Nodup from by decide +kernel) rfl (Or.inl rfl))) (fun _ _ _ => pts_nil) (fun _ _ _ => (pe_call G_unit (hr.mono (by decide)) rfl m_unit k_unit b_unit .nil passN (pa_cons (pv 0) (pa_cons (pv 1) pa_nil))))))),
   (rd_ret (rd_comp (m := 1) (caps := [0]) (rd_rng1 (rd_cons (rd_var 0) rd_nil)) (rd_gname 0) rd_true (rd_callO (n := 2) (f := f_unit) (rd_cons (rd_var 0) (rd_cons (rd_var 1) rd_nil)))))⟩
theorem sc_offset : FnScope ["one", "one_value", "other", "other_value", "mixed"] ["one", "one_value", "other", "other_value"] (defScope s_offset) := ⟨rfl, rfl, rfl, by decide +kernel, rfl, by decide +kernel, by decide +kernel⟩
theorem ok_offset {a : Addr} {fd : FuncData} (F : Fun K "offset" "offset" s_offset a fd) (hm : mg "offset" = some (.ref a)) (hpt : P.given.tree = none) (n_zip : mg "zip" = none) (D_lowest : DefIn P w K mg base ca 37 "lowest" ["numbers"] f_lowest) : DefAt P w K mg base ca 38 "offset" ["one", "one_value", "other", "other_value"] f_offset a fd := by
  obtain ⟨a_lowest, fd_lowest, G_lowest, m_lowest, k_lowest, b_lowest⟩ := D_lowest
  refine ⟨def_ok F sc_offset rfl fun cdv A outer s H E hr => ?_, hm, F.kp, F.binds fun _ _ _ _ _ _ us hl => match us, hl with | [_, _, _, _], _ => rfl⟩
  have hu := hr.units
  have hdp := dp_of hr (by decide)
  exact ⟨_, (pss_cons (ps_setcomp (i := 4) (own := ["number", "other_number"]) (cap := ["one_value", "other_value"]) (caps := [1, 3]) rfl ⟨rfl, by decide +kernel, by decide +kernel, by decide +kernel, ⟨rfl, Or.inl rfl, rfl, ⟨rfl, Or.inl rfl, rfl, trivial⟩⟩, by decide +kernel⟩ (pi_zip rfl n_zip (pa_cons (pv 0) (pa_cons (pv 2) pa_nil))) (fun _ _ _ => (pg_tup rfl (pgs_cons (pg_name (i := 0) (show ((["number", "other_number"] : List Str) ++ (["one_value", "other_value"] : List Str)).Nodup from by decide +kernel) rfl (Or.inl rfl)) (pgs_cons (pg_name (i := 1) (show ((["number", "other_number"] : List Str) ++ (["one_value", "other_value"] : List Str)).Nodup from by decide +kernel) rfl (Or.inl rfl)) pgs_nil)))) (fun _ _ _ => pts_nil) (fun _ _ _ => (pe_op op_sub (pe_op o_mul (pv 0) (pv 3)) (pe_op o_mul (pv 1) (pv 2)))) sc_offset.nd rfl (Or.inl rfl) rfl)
 (pss_one (ps_ret (pe_call G_lowest (hr.mono (by decide)) rfl m_lowest k_lowest b_lowest .nil passN (pa_cons (pv 4) pa_nil))))),
   (rd_seq (rd_set (rd_comp (m := 2) (caps := [1, 3]) (rd_zip (rd_cons (rd_var 0) (rd_cons (rd_var 2) rd_nil))) (rd_gtup (rd_gcons (rd_gname 0) (rd_gcons (rd_gname 1) rd_gnil))) rd_true (rd_bin rd_sub (rd_bin rd_mul (rd_var 0) (rd_var 3)) (rd_bin rd_mul (rd_var 1) (rd_var 2)))))
 (rd_ret (rd_callO (n := 1) (f := f_lowest) (rd_cons (rd_var 4) rd_nil))))⟩
theorem sc_places_of : FnScope ["numbers", "bits", "number"] ["numbers"] (defScope s_places_of) := ⟨rfl, rfl, rfl, by decide +kernel, rfl, by decide +kernel, by decide +kernel⟩
theorem ok_places_of {a : Addr} {fd : FuncData} (F : Fun K "places_of" "places_of" s_places_of a fd) (hm : mg "places_of" = some (.ref a)) (hpt : P.given.tree = none) : DefAt P w K mg base ca 35 "places_of" ["numbers"] f_places_of a fd := by
  refine ⟨def_ok F sc_places_of rfl fun cdv A outer s H E hr => ?_, hm, F.kp, F.binds fun _ _ _ _ _ _ us hl => match us, hl with | [_], _ => rfl⟩
  have hu := hr.units
  have hdp := dp_of hr (by decide)
  exact ⟨_, (pss_cons (ps_set (i := 1) sc_places_of.nd rfl (Or.inl rfl) pe_int)
 (pss_cons (ps_for PassesOwn.never rfl (pi_list (pv 0)) (pg_name (i := 2) sc_places_of.nd rfl (Or.inl rfl))
 (pss_cons (ps_set (i := 1) sc_places_of.nd rfl (Or.inl rfl) (pe_op o_mul (pv 1) pe_int))
 (pss_one (ps_if (pt_cmpR op_gt (pv 2) pe_int (nomark _))
 (pss_one (ps_set (i := 1) sc_places_of.nd rfl (Or.inl rfl) (pe_op o_add (pv 1) pe_int)))
 pss_nil))))
 (pss_one (ps_ret (pv 1))))),
   (rd_seq (rd_set (rd_int 0))
 (rd_seq (rd_for (rd_list (rd_var 0)) (rd_gname 2)
 (rd_seq (rd_set (rd_bin rd_mul (rd_var 1) (rd_int 2)))
 (rd_if (rd_tst (rd_bin rd_gt (rd_var 2) (rd_int 0)))
 (rd_set (rd_bin rd_add (rd_var 1) (rd_int 1)))
 rd_next)))
 (rd_ret (rd_var 1))))⟩
theorem sc_is_among : FnScope ["places", "others"] ["places", "others"] (defScope s_is_among) := ⟨rfl, rfl, rfl, by decide +kernel, rfl, by decide +kernel, by decide +kernel⟩
theorem ok_is_among {a : Addr} {fd : FuncData} (F : Fun K "is_among" "is_among" s_is_among a fd) (hm : mg "is_among" = some (.ref a)) (hpt : P.given.tree = none) : DefAt P w K mg base ca 35 "is_among" ["places", "others"] f_is_among a fd := by
  refine ⟨def_ok F sc_is_among rfl fun cdv A outer s H E hr => ?_, hm, F.kp, F.binds fun _ _ _ _ _ _ us hl => match us, hl with | [_, _], _ => rfl⟩
  have hu := hr.units
  have hdp := dp_of hr (by decide)
  exact ⟨_, (pss_one (ps_ret (pe_cmpR (o_eq hu) (pe_op op_or (pv 0) (pv 1)) (pv 1) (nomark _)))),
   (rd_ret (rd_bin rd_eq (rd_bin rd_bor (rd_var 0) (rd_var 1)) (rd_var 1)))⟩
theorem sc_are_neighbours : FnScope ["one", "other", "all_places", "both"] ["one", "other", "all_places"] (defScope s_are_neighbours) := ⟨rfl, rfl, rfl, by decide +kernel, rfl, by decide +kernel, by decide +kernel⟩
theorem ok_are_neighbours {a : Addr} {fd : FuncData} (F : Fun K "are_neighbours" "are_neighbours" s_are_neighbours a fd) (hm : mg "are_neighbours" = some (.ref a)) (hpt : P.given.tree = none) (n_len : mg "len" = none) (D_is_among : DefIn P w K mg base ca 35 "is_among" ["places", "others"] f_is_among) : DefAt P w K mg base ca 36 "are_neighbours" ["one", "other", "all_places"] f_are_neighbours a fd := by
  obtain ⟨a_is_among, fd_is_among, G_is_among, m_is_among, k_is_among, b_is_among⟩ := D_is_among
  refine ⟨def_ok F sc_are_neighbours rfl fun cdv A outer s H E hr => ?_, hm, F.kp, F.binds fun _ _ _ _ _ _ us hl => match us, hl with | [_, _, _], _ => rfl⟩
  have hu := hr.units
  have hdp := dp_of hr (by decide)
  exact ⟨_, (pss_cons (ps_set (i := 3) sc_are_neighbours.nd rfl (Or.inr rfl) (pe_op op_or (pv 0) (pv 1)))
 (pss_one (ps_ret (pe_cmpR (o_eq hu) (pe_callB call_len rfl n_len Boot.«len» (pa_cons (pe_comp (own := ["places"]) (cap := ["both"]) (caps := [3]) rfl ⟨rfl, by decide +kernel, by decide +kernel, by decide +kernel, ⟨rfl, Or.inl rfl, rfl, trivial⟩, by decide +kernel⟩ (pi_list (pv 2)) (fun _ _ _ => (pg_name (i := 0) (show ((["places"] : List Str) ++ (["both"] : List Str)).Nodup from by decide +kernel) rfl (Or.inl rfl))) (fun _ _ _ => (pts_one (pt_val (pe_call G_is_among (hr.mono (by decide)) rfl m_is_among k_is_among b_is_among .nil passN (pa_cons (pv 0) (pa_cons (pv 1) pa_nil)))))) (fun _ _ _ => (pv 0))) pa_nil)) pe_int (nomark _))))),
   (rd_seq (rd_set (rd_bin rd_bor (rd_var 0) (rd_var 1)))
 (rd_ret (rd_bin rd_eq (rd_callB rd_len (rd_cons (rd_comp (m := 1) (caps := [3]) (rd_list (rd_var 2)) (rd_gname 0) (rd_tB (rd_callP (n := 2) (f := f_is_among) (rd_cons (rd_var 0) (rd_cons (rd_var 1) rd_nil)))) (rd_var 0)) rd_nil)) (rd_int 2))))⟩
theorem sc_lone_by_one_more : FnScope ["lists", "row", "values", "places", "told", "above", "below", "high", "low"] ["lists", "row"] (defScope s_lone_by_one_more) := ⟨rfl, rfl, rfl, by decide +kernel, rfl, by decide +kernel, by decide +kernel⟩
theorem ok_lone_by_one_more {a : Addr} {fd : FuncData} (F : Fun K "lone_by_one_more" "lone_by_one_more" s_lone_by_one_more a fd) (hm : mg "lone_by_one_more" = some (.ref a)) (hpt : P.given.tree = none) (n_zip : mg "zip" = none) (n_enumerate : mg "enumerate" = none) (D_sum_of_products : DefIn P w K mg base ca 35 "sum_of_products" ["numbers", "others"] f_sum_of_products) (D_places_of : DefIn P w K mg base ca 35 "places_of" ["numbers"] f_places_of) (D_are_neighbours : DefIn P w K mg base ca 36 "are_neighbours" ["one", "other", "all_places"] f_are_neighbours) (D_offset : DefIn P w K mg base ca 38 "offset" ["one", "one_value", "other", "other_value"] f_offset) : DefAt P w K mg base ca 39 "lone_by_one_more" ["lists", "row"] f_lone_by_one_more a fd := by
  obtain ⟨a_sum_of_products, fd_sum_of_products, G_sum_of_products, m_sum_of_products, k_sum_of_products, b_sum_of_products⟩ := D_sum_of_products
  obtain ⟨a_places_of, fd_places_of, G_places_of, m_places_of, k_places_of, b_places_of⟩ := D_places_of
  obtain ⟨a_are_neighbours, fd_are_neighbours, G_are_neighbours, m_are_neighbours, k_are_neighbours, b_are_neighbours⟩ := D_are_neighbours
  obtain ⟨a_offset, fd_offset, G_offset, m_offset, k_offset, b_offset⟩ := D_offset
  refine ⟨def_ok F sc_lone_by_one_more rfl fun cdv A outer s H E hr => ?_, hm, F.kp, F.binds fun _ _ _ _ _ _ us hl => match us, hl with | [_, _], _ => rfl⟩
  have hu := hr.units
  have hdp := dp_of hr (by decide)
  exact ⟨_, (pss_cons (ps_setcomp (i := 2) (own := ["one"]) (cap := ["row"]) (caps := [1]) rfl ⟨rfl, by decide +kernel, by decide +kernel, by decide +kernel, ⟨rfl, Or.inl rfl, rfl, trivial⟩, by decide +kernel⟩ (pi_list (pv 0)) (fun _ _ _ => (pg_name (i := 0) (show ((["one"] : List Str) ++ (["row"] : List Str)).Nodup from by decide +kernel) rfl (Or.inl rfl))) (fun _ _ _ => pts_nil) (fun _ _ _ => (pe_call G_sum_of_products (hr.mono (by decide)) rfl m_sum_of_products k_sum_of_products b_sum_of_products .nil passN (pa_cons (pv 1) (pa_cons (pv 0) pa_nil)))) sc_lone_by_one_more.nd rfl (Or.inl rfl) rfl)
 (pss_cons (ps_setcomp (i := 3) (own := ["one"]) (cap := []) (caps := []) rfl ⟨rfl, by decide +kernel, by decide +kernel, by decide +kernel, trivial, by decide +kernel⟩ (pi_list (pv 0)) (fun _ _ _ => (pg_name (i := 0) (show ((["one"] : List Str) ++ ([] : List Str)).Nodup from by decide +kernel) rfl (Or.inl rfl))) (fun _ _ _ => pts_nil) (fun _ _ _ => (pe_call G_places_of (hr.mono (by decide)) rfl m_places_of k_places_of b_places_of .nil passN (pa_cons (pv 0) pa_nil))) sc_lone_by_one_more.nd rfl (Or.inl rfl) rfl)
 (pss_cons (ps_setcomp (i := 4) (own := ["one", "value"]) (cap := []) (caps := []) rfl ⟨rfl, by decide +kernel, by decide +kernel, by decide +kernel, trivial, by decide +kernel⟩ (pi_zip rfl n_zip (pa_cons (pv 0) (pa_cons (pv 2) pa_nil))) (fun _ _ _ => (pg_tup rfl (pgs_cons (pg_name (i := 0) (show ((["one", "value"] : List Str) ++ ([] : List Str)).Nodup from by decide +kernel) rfl (Or.inl rfl)) (pgs_cons (pg_name (i := 1) (show ((["one", "value"] : List Str) ++ ([] : List Str)).Nodup from by decide +kernel) rfl (Or.inl rfl)) pgs_nil)))) (fun _ _ _ => (pts_one (pt_cmpR (o_eq hu) (pv 1) pe_int (nomark _)))) (fun _ _ _ => (pv 0)) sc_lone_by_one_more.nd rfl (Or.inl rfl) rfl)
 (pss_cons (ps_setcomp (i := 5) (own := ["at", "value"]) (cap := []) (caps := []) rfl ⟨rfl, by decide +kernel, by decide +kernel, by decide +kernel, trivial, by decide +kernel⟩ (pi_enum rfl n_enumerate (pa_cons (pv 2) pa_nil)) (fun _ _ _ => (pg_tup rfl (pgs_cons (pg_name (i := 0) (show ((["at", "value"] : List Str) ++ ([] : List Str)).Nodup from by decide +kernel) rfl (Or.inl rfl)) (pgs_cons (pg_name (i := 1) (show ((["at", "value"] : List Str) ++ ([] : List Str)).Nodup from by decide +kernel) rfl (Or.inl rfl)) pgs_nil)))) (fun _ _ _ => (pts_one (pt_cmpR op_gt (pv 1) pe_int (nomark _)))) (fun _ _ _ => (pv 0)) sc_lone_by_one_more.nd rfl (Or.inl rfl) rfl)
 (pss_cons (ps_setcomp (i := 6) (own := ["at", "value"]) (cap := []) (caps := []) rfl ⟨rfl, by decide +kernel, by decide +kernel, by decide +kernel, trivial, by decide +kernel⟩ (pi_enum rfl n_enumerate (pa_cons (pv 2) pa_nil)) (fun _ _ _ => (pg_tup rfl (pgs_cons (pg_name (i := 0) (show ((["at", "value"] : List Str) ++ ([] : List Str)).Nodup from by decide +kernel) rfl (Or.inl rfl)) (pgs_cons (pg_name (i := 1) (show ((["at", "value"] : List Str) ++ ([] : List Str)).Nodup from by decide +kernel) rfl (Or.inl rfl)) pgs_nil)))) (fun _ _ _ => (pts_one (pt_cmpR op_lt (pv 1) pe_int (nomark _)))) (fun _ _ _ => (pv 0)) sc_lone_by_one_more.nd rfl (Or.inl rfl) rfl)
 (pss_cons (ps_for PassesOwn.never rfl (pi_list (pv 5)) (pg_name (i := 7) sc_lone_by_one_more.nd rfl (Or.inl rfl))
 (pss_one (ps_for PassesOwn.never rfl (pi_list (pv 6)) (pg_name (i := 8) sc_lone_by_one_more.nd rfl (Or.inl rfl))
 (pss_one (ps_if (pt_val (pe_call G_are_neighbours (hr.mono (by decide)) rfl m_are_neighbours k_are_neighbours b_are_neighbours .nil passN (pa_cons (pe_ix ix_seq (pv 3) (pv 7) (fun _ _ => rfl)) (pa_cons (pe_ix ix_seq (pv 3) (pv 8) (fun _ _ => rfl)) (pa_cons (pv 3) pa_nil)))))
 (pss_one (ps_expr (pe_bm PySem.F.plainAttrs_list PySem.F.slot_list_append PySem.F.type_list_append mt_append (pv 4) (pa_cons (pe_call G_offset (hr.mono (by decide)) rfl m_offset k_offset b_offset .nil passN (pa_cons (pe_ix ix_seq (pv 0) (pv 8) (fun _ _ => rfl)) (pa_cons (pe_ix ix_seq (pv 2) (pv 8) (fun _ _ => rfl)) (pa_cons (pe_ix ix_seq (pv 0) (pv 7) (fun _ _ => rfl)) (pa_cons (pe_ix ix_seq (pv 2) (pv 7) (fun _ _ => rfl)) pa_nil))))) pa_nil))))
 pss_nil)))))
 (pss_one (ps_ret (pv 4))))))))),
   (rd_seq (rd_set (rd_comp (m := 1) (caps := [1]) (rd_list (rd_var 0)) (rd_gname 0) rd_true (rd_callV (n := 2) (f := f_sum_of_products) (rd_cons (rd_var 1) (rd_cons (rd_var 0) rd_nil)))))
 (rd_seq (rd_set (rd_comp (m := 1) (caps := []) (rd_list (rd_var 0)) (rd_gname 0) rd_true (rd_callV (n := 1) (f := f_places_of) (rd_cons (rd_var 0) rd_nil))))
 (rd_seq (rd_set (rd_compC (m := 2) (caps := []) (rd_zip (rd_cons (rd_var 0) (rd_cons (rd_var 2) rd_nil))) (rd_gtup (rd_gcons (rd_gname 0) (rd_gcons (rd_gname 1) rd_gnil))) (rd_tst (rd_bin rd_eq (rd_var 1) (rd_int 0))) (rd_var 0)))
 (rd_seq (rd_set (rd_comp (m := 2) (caps := []) (rd_enumerate (rd_cons (rd_var 2) rd_nil)) (rd_gtup (rd_gcons (rd_gname 0) (rd_gcons (rd_gname 1) rd_gnil))) (rd_tst (rd_bin rd_gt (rd_var 1) (rd_int 0))) (rd_var 0)))
 (rd_seq (rd_set (rd_comp (m := 2) (caps := []) (rd_enumerate (rd_cons (rd_var 2) rd_nil)) (rd_gtup (rd_gcons (rd_gname 0) (rd_gcons (rd_gname 1) rd_gnil))) (rd_tst (rd_bin rd_lt (rd_var 1) (rd_int 0))) (rd_var 0)))
 (rd_seq (rd_for (rd_list (rd_var 5)) (rd_gname 7)
 (rd_for (rd_list (rd_var 6)) (rd_gname 8)
 (rd_if (rd_tB (rd_callP (n := 3) (f := f_are_neighbours) (rd_cons (rd_bin rd_ix (rd_var 3) (rd_var 7)) (rd_cons (rd_bin rd_ix (rd_var 3) (rd_var 8)) (rd_cons (rd_var 3) rd_nil)))))
 (rd_drop (rd_app (rd_var 4) (rd_callN (n := 4) (f := f_offset) (rd_cons (rd_bin rd_ix (rd_var 0) (rd_var 8)) (rd_cons (rd_bin rd_ix (rd_var 2) (rd_var 8)) (rd_cons (rd_bin rd_ix (rd_var 0) (rd_var 7)) (rd_cons (rd_bin rd_ix (rd_var 2) (rd_var 7)) rd_nil)))))))
 rd_next)))
 (rd_ret (rd_frz (rd_var 4)))))))))⟩
theorem sc_lone : FnScope ["rows", "many", "lists", "row"] ["rows", "many"] (defScope s_lone) := ⟨rfl, rfl, rfl, by decide +kernel, rfl, by decide +kernel, by decide +kernel⟩
theorem ok_lone {a : Addr} {fd : FuncData} (F : Fun K "lone" "lone" s_lone a fd) (hm : mg "lone" = some (.ref a)) (hpt : P.given.tree = none) (n_sorted : mg "sorted" = none) (D_units : DefIn P w K mg base ca 36 "units" ["many"] f_units) (D_lone_by_one_more : DefIn P w K mg base ca 39 "lone_by_one_more" ["lists", "row"] f_lone_by_one_more) : DefAt P w K mg base ca 40 "lone" ["rows", "many"] f_lone a fd := by
  obtain ⟨a_units, fd_units, G_units, m_units, k_units, b_units⟩ := D_units
  obtain ⟨a_lone_by_one_more, fd_lone_by_one_more, G_lone_by_one_more, m_lone_by_one_more, k_lone_by_one_more, b_lone_by_one_more⟩ := D_lone_by_one_more
  refine ⟨def_ok F sc_lone rfl fun cdv A outer s H E hr => ?_, hm, F.kp, F.binds fun _ _ _ _ _ _ us hl => match us, hl with | [_, _], _ => rfl⟩
  have hu := hr.units
  have hdp := dp_of hr (by decide)
  exact ⟨_, (pss_cons (ps_set (i := 2) sc_lone.nd rfl (Or.inl rfl) (pe_call G_units (hr.mono (by decide)) rfl m_units k_units b_units .nil passN (pa_cons (pv 1) pa_nil)))
 (pss_cons (ps_for PassesOwn.never rfl (pi_list (pv 0)) (pg_name (i := 3) sc_lone.nd rfl (Or.inl rfl))
 (pss_one (ps_set (i := 2) sc_lone.nd rfl (Or.inl rfl) (pe_call G_lone_by_one_more (hr.mono (by decide)) rfl m_lone_by_one_more k_lone_by_one_more b_lone_by_one_more .nil passN (pa_cons (pv 2) (pa_cons (pv 3) pa_nil))))))
 (pss_one (ps_ret (pe_callB (call_sortedL hu) rfl n_sorted Boot.«sorted» (pa_cons (pv 2) pa_nil)))))),
   (rd_seq (rd_set (rd_callS (n := 1) (f := f_units) (rd_cons (rd_var 1) rd_nil)))
 (rd_seq (rd_for (rd_list (rd_var 0)) (rd_gname 3)
 (rd_set (rd_callS (n := 2) (f := f_lone_by_one_more) (rd_cons (rd_var 2) (rd_cons (rd_var 3) rd_nil)))))
 (rd_ret (rd_sortC (rd_var 2)))))⟩
theorem sc_law_cell : FnScope ["_law_script", "_law_k"] ["_law_script", "_law_k"] (defScope s_law_cell) := ⟨rfl, rfl, rfl, by decide +kernel, rfl, by decide +kernel, by decide +kernel⟩
theorem ok_law_cell {a : Addr} {fd : FuncData} (F : Fun K "_law_cell" "_law_cell" s_law_cell a fd) (hm : mg "_law_cell" = some (.ref a)) (hpt : P.given.tree = none) (n_len : mg "len" = none) : DefAt P w K mg base ca 35 "_law_cell" ["_law_script", "_law_k"] f_law_cell a fd := by
  refine ⟨def_ok F sc_law_cell rfl fun cdv A outer s H E hr => ?_, hm, F.kp, F.binds fun _ _ _ _ _ _ us hl => match us, hl with | [_, _], _ => rfl⟩
  have hu := hr.units
  have hdp := dp_of hr (by decide)
  exact ⟨_, (pss_cons (ps_if (pt_cmpR op_lt (pv 1) (pe_callB call_len rfl n_len Boot.«len» (pa_cons (pv 0) pa_nil)) (nomark _))
 (pss_one (ps_ret (pe_ix ix_seq (pv 0) (pv 1) (fun _ _ => rfl))))
 pss_nil)
 (pss_one (ps_ret pe_int))),
   (rd_seq (rd_if (rd_tst (rd_bin rd_lt (rd_var 1) (rd_callB rd_len (rd_cons (rd_var 0) rd_nil))))
 (rd_ret (rd_bin rd_ix (rd_var 0) (rd_var 1)))
 rd_next)
 (rd_ret (rd_int 0)))⟩
theorem sc_law_bag : FnScope ["_law_cell_here"] ["_law_cell_here"] (defScope s_law_bag) := ⟨rfl, rfl, rfl, by decide +kernel, rfl, by decide +kernel, by decide +kernel⟩
theorem ok_law_bag {a : Addr} {fd : FuncData} (F : Fun K "_law_bag" "_law_bag" s_law_bag a fd) (hm : mg "_law_bag" = some (.ref a)) (hpt : P.given.tree = none) : DefAt P w K mg base ca 35 "_law_bag" ["_law_cell_here"] f_law_bag a fd := by
  refine ⟨def_ok F sc_law_bag rfl fun cdv A outer s H E hr => ?_, hm, F.kp, F.binds fun _ _ _ _ _ _ us hl => match us, hl with | [_], _ => rfl⟩
  have hu := hr.units
  have hdp := dp_of hr (by decide)
  exact ⟨_, (pss_one (ps_ret (pe_lst (pa_cons (pe_op o_mul (pe_op op_modN (pe_op (o_fdiv hdp hpt ⟨_, _, rfl, rfl, rfl, rfl, rfl⟩) (pv 0) pe_int) (pe_op op_pow pe_int pe_int)) (pe_op op_modN (pv 0) pe_int)) (pa_cons (pe_op op_modN (pe_op (o_fdiv hdp hpt ⟨_, _, rfl, rfl, rfl, rfl, rfl⟩) (pv 0) pe_int) pe_int) pa_nil))))),
   (rd_ret (rd_lstC (rd_cons (rd_bin rd_mul (rd_bin rd_mod (rd_bin rd_fdiv (rd_var 0) (rd_int 2)) (rd_bin rd_pow (rd_int 10) (rd_int 60))) (rd_bin rd_mod (rd_var 0) (rd_int 2))) (rd_cons (rd_bin rd_mod (rd_bin rd_fdiv (rd_var 0) (rd_int 2)) (rd_int 2147483647)) rd_nil))))⟩
theorem sc_law_draw : FnScope ["_law_bag_here", "_law_many", "_law_found"] ["_law_bag_here", "_law_many"] (defScope s_law_draw) := ⟨rfl, rfl, rfl, by decide +kernel, rfl, by decide +kernel, by decide +kernel⟩
theorem ok_law_draw {a : Addr} {fd : FuncData} (F : Fun K "_law_draw" "_law_draw" s_law_draw a fd) (hm : mg "_law_draw" = some (.ref a)) (hpt : P.given.tree = none) : DefAt P w K mg base ca 35 "_law_draw" ["_law_bag_here", "_law_many"] f_law_draw a fd := by
  refine ⟨def_ok F sc_law_draw rfl fun cdv A outer s H E hr => ?_, hm, F.kp, F.binds fun _ _ _ _ _ _ us hl => match us, hl with | [_, _], _ => rfl⟩
  have hu := hr.units
  have hdp := dp_of hr (by decide)
  exact ⟨_, (pss_cons (ps_if (pt_cmpR op_gt (pe_ix ix_seq (pv 0) pe_int (fun _ _ => rfl)) pe_int (nomark _))
 (pss_cons (ps_set (i := 2) sc_law_draw.nd rfl (Or.inl rfl) (pe_op op_modN (pe_ix ix_seq (pv 0) pe_int (fun _ _ => rfl)) (pv 1)))
 (pss_cons (ps_asg (pe_op (o_fdiv hdp hpt ⟨_, _, rfl, rfl, rfl, rfl, rfl⟩) (pe_ix ix_seq (pv 0) pe_int (fun _ _ => rfl)) (pv 1)) (pg_sub (pv 0) pe_int set_list))
 (pss_one (ps_ret (pv 2)))))
 pss_nil)
 (pss_cons (ps_asg (pe_op op_modN (pe_op o_add (pe_op o_mul (pe_ix ix_seq (pv 0) pe_int (fun _ _ => rfl)) pe_int) pe_int) pe_int) (pg_sub (pv 0) pe_int set_list))
 (pss_one (ps_ret (pe_op op_modN (pe_op (o_fdiv hdp hpt ⟨_, _, rfl, rfl, rfl, rfl, rfl⟩) (pe_op op_modN (pe_op o_mul (pe_ix ix_seq (pv 0) pe_int (fun _ _ => rfl)) (pe_op o_add (pe_op (o_fdiv hdp hpt ⟨_, _, rfl, rfl, rfl, rfl, rfl⟩) (pe_ix ix_seq (pv 0) pe_int (fun _ _ => rfl)) pe_int) pe_int)) pe_int) pe_int) (pv 1)))))),
   (rd_seq (rd_if (rd_tst (rd_bin rd_gt (rd_bin rd_ix (rd_var 0) (rd_int 0)) (rd_int 0)))
 (rd_seq (rd_set (rd_bin rd_mod (rd_bin rd_ix (rd_var 0) (rd_int 0)) (rd_var 1)))
 (rd_seq (rd_asg (rd_bin rd_fdiv (rd_bin rd_ix (rd_var 0) (rd_int 0)) (rd_var 1)) (rd_put (rd_var 0) (rd_int 0)))
 (rd_ret (rd_var 2))))
 rd_next)
 (rd_seq (rd_asg (rd_bin rd_mod (rd_bin rd_add (rd_bin rd_mul (rd_bin rd_ix (rd_var 0) (rd_int 1)) (rd_int 48271)) (rd_int 4099)) (rd_int 2147483647)) (rd_put (rd_var 0) (rd_int 1)))
 (rd_ret (rd_bin rd_mod (rd_bin rd_fdiv (rd_bin rd_mod (rd_bin rd_mul (rd_bin rd_ix (rd_var 0) (rd_int 1)) (rd_bin rd_add (rd_bin rd_fdiv (rd_bin rd_ix (rd_var 0) (rd_int 1)) (rd_int 65536)) (rd_int 7))) (rd_int 2147483629)) (rd_int 32)) (rd_var 1)))))⟩
theorem sc_law_number : FnScope ["_law_bag_here", "_law_wide", "_law_way"] ["_law_bag_here", "_law_wide"] (defScope s_law_number) := ⟨rfl, rfl, rfl, by decide +kernel, rfl, by decide +kernel, by decide +kernel⟩
theorem ok_law_number {a : Addr} {fd : FuncData} (F : Fun K "_law_number" "_law_number" s_law_number a fd) (hm : mg "_law_number" = some (.ref a)) (hpt : P.given.tree = none) (D_law_draw : DefIn P w K mg base ca 35 "_law_draw" ["_law_bag_here", "_law_many"] f_law_draw) : DefAt P w K mg base ca 36 "_law_number" ["_law_bag_here", "_law_wide"] f_law_number a fd := by
  obtain ⟨a_law_draw, fd_law_draw, G_law_draw, m_law_draw, k_law_draw, b_law_draw⟩ := D_law_draw
  refine ⟨def_ok F sc_law_number rfl fun cdv A outer s H E hr => ?_, hm, F.kp, F.binds fun _ _ _ _ _ _ us hl => match us, hl with | [_, _], _ => rfl⟩
  have hu := hr.units
  have hdp := dp_of hr (by decide)
  exact ⟨_, (pss_cons (ps_set (i := 2) sc_law_number.nd rfl (Or.inl rfl) (pe_call G_law_draw (hr.mono (by decide)) rfl m_law_draw k_law_draw b_law_draw .nil passN (pa_cons (pv 0) (pa_cons pe_int pa_nil))))
 (pss_cons (ps_if (pt_cmpR (o_eq hu) (pv 2) pe_int (nomark _))
 (pss_one (ps_ret pe_int))
 pss_nil)
 (pss_cons (ps_if (pt_cmpR (o_eq hu) (pv 2) pe_int (nomark _))
 (pss_one (ps_ret (pe_op op_sub (pe_op op_modN (pe_op o_add (pe_op o_mul (pe_call G_law_draw (hr.mono (by decide)) rfl m_law_draw k_law_draw b_law_draw .nil passN (pa_cons (pv 0) (pa_cons pe_int pa_nil))) (pe_op op_pow pe_int pe_int)) (pe_call G_law_draw (hr.mono (by decide)) rfl m_law_draw k_law_draw b_law_draw .nil passN (pa_cons (pv 0) (pa_cons (pe_op op_pow pe_int pe_int) pa_nil)))) (pv 1)) (pe_call G_law_draw (hr.mono (by decide)) rfl m_law_draw k_law_draw b_law_draw .nil passN (pa_cons (pv 0) (pa_cons pe_int pa_nil))))))
 pss_nil)
 (pss_one (ps_ret (pe_op op_sub (pe_call G_law_draw (hr.mono (by decide)) rfl m_law_draw k_law_draw b_law_draw .nil passN (pa_cons (pv 0) (pa_cons pe_int pa_nil))) pe_int)))))),
   (rd_seq (rd_set (rd_callS (n := 2) (f := f_law_draw) (rd_cons (rd_var 0) (rd_cons (rd_int 6) rd_nil))))
 (rd_seq (rd_if (rd_tst (rd_bin rd_eq (rd_var 2) (rd_int 4)))
 (rd_ret (rd_int 0))
 rd_next)
 (rd_seq (rd_if (rd_tst (rd_bin rd_eq (rd_var 2) (rd_int 5)))
 (rd_ret (rd_bin rd_sub (rd_bin rd_mod (rd_bin rd_add (rd_bin rd_mul (rd_callS (n := 2) (f := f_law_draw) (rd_cons (rd_var 0) (rd_cons (rd_int 1000) rd_nil))) (rd_bin rd_pow (rd_int 10) (rd_int 6))) (rd_callS (n := 2) (f := f_law_draw) (rd_cons (rd_var 0) (rd_cons (rd_bin rd_pow (rd_int 10) (rd_int 6)) rd_nil)))) (rd_var 1)) (rd_callS (n := 2) (f := f_law_draw) (rd_cons (rd_var 0) (rd_cons (rd_int 9) rd_nil)))))
 rd_next)
 (rd_ret (rd_bin rd_sub (rd_callS (n := 2) (f := f_law_draw) (rd_cons (rd_var 0) (rd_cons (rd_int 7) rd_nil))) (rd_int 3))))))⟩
theorem sc_law_product : FnScope ["_law_one", "_law_other"] ["_law_one", "_law_other"] (defScope s_law_product) := ⟨rfl, rfl, rfl, by decide +kernel, rfl, by decide +kernel, by decide +kernel⟩
theorem ok_law_product {a : Addr} {fd : FuncData} (F : Fun K "_law_product" "_law_product" s_law_product a fd) (hm : mg "_law_product" = some (.ref a)) (hpt : P.given.tree = none) (n_zip : mg "zip" = none) (n_sum : mg "sum" = none) : DefAt P w K mg base ca 35 "_law_product" ["_law_one", "_law_other"] f_law_product a fd := by
  refine ⟨def_ok F sc_law_product rfl fun cdv A outer s H E hr => ?_, hm, F.kp, F.binds fun _ _ _ _ _ _ us hl => match us, hl with | [_, _], _ => rfl⟩
  have hu := hr.units
  have hdp := dp_of hr (by decide)
  exact ⟨_, (pss_one (ps_ret (pe_callB (call_sumL rfl) rfl n_sum Boot.«sum» (pa_cons (pe_comp (own := ["_law_low", "_law_high"]) (cap := []) (caps := []) rfl ⟨rfl, by decide +kernel, by decide +kernel, by decide +kernel, trivial, by decide +kernel⟩ (pi_zip rfl n_zip (pa_cons (pv 0) (pa_cons (pv 1) pa_nil))) (fun _ _ _ => (pg_tup rfl (pgs_cons (pg_name (i := 0) (show ((["_law_low", "_law_high"] : List Str) ++ ([] : List Str)).Nodup from by decide +kernel) rfl (Or.inl rfl)) (pgs_cons (pg_name (i := 1) (show ((["_law_low", "_law_high"] : List Str) ++ ([] : List Str)).Nodup from by decide +kernel) rfl (Or.inl rfl)) pgs_nil)))) (fun _ _ _ => pts_nil) (fun _ _ _ => (pe_op o_mul (pv 0) (pv 1)))) pa_nil)))),
   (rd_ret (rd_callB rd_sum (rd_cons (rd_comp (m := 2) (caps := []) (rd_zip (rd_cons (rd_var 0) (rd_cons (rd_var 1) rd_nil))) (rd_gtup (rd_gcons (rd_gname 0) (rd_gcons (rd_gname 1) rd_gnil))) rd_true (rd_bin rd_mul (rd_var 0) (rd_var 1))) rd_nil)))⟩
theorem sc_law_whole : FnScope ["_law_found"] ["_law_found"] (defScope s_law_whole) := ⟨rfl, rfl, rfl, by decide +kernel, rfl, by decide +kernel, by decide +kernel⟩
theorem ok_law_whole {a : Addr} {fd : FuncData} (F : Fun K "_law_whole" "_law_whole" s_law_whole a fd) (hm : mg "_law_whole" = some (.ref a)) (hpt : P.given.tree = none) (n_isinstance : mg "isinstance" = none) (n_int : mg "int" = none) (n_bool : mg "bool" = none) : DefAt P w K mg base ca 35 "_law_whole" ["_law_found"] f_law_whole a fd := by
  refine ⟨def_ok F sc_law_whole rfl fun cdv A outer s H E hr => ?_, hm, F.kp, F.binds fun _ _ _ _ _ _ us hl => match us, hl with | [_], _ => rfl⟩
  have hu := hr.units
  have hdp := dp_of hr (by decide)
  exact ⟨_, (pss_one (ps_ret (pe_and (pe_callB call_isi rfl n_isinstance Boot.«isinstance» (pa_cons (pv 0) (pa_cons (pe_bltn (v := .ty "int") rfl n_int Boot.«int» rfl) pa_nil))) (pe_one (pe_not (pe_callB call_isi rfl n_isinstance Boot.«isinstance» (pa_cons (pv 0) (pa_cons (pe_bltn (v := .ty "bool") rfl n_bool Boot.«bool» rfl) pa_nil)))))))),
   (rd_ret (rd_andV (rd_isi ty_int (rd_var 0)) (rd_notV (rd_isi ty_bool (rd_var 0)))))⟩
theorem sc_law_is_list : FnScope ["_law_found", "_law_many"] ["_law_found", "_law_many"] (defScope s_law_is_list) := ⟨rfl, rfl, rfl, by decide +kernel, rfl, by decide +kernel, by decide +kernel⟩
theorem ok_law_is_list {a : Addr} {fd : FuncData} (F : Fun K "_law_is_list" "_law_is_list" s_law_is_list a fd) (hm : mg "_law_is_list" = some (.ref a)) (hpt : P.given.tree = none) (n_isinstance : mg "isinstance" = none) (n_list : mg "list" = none) (n_len : mg "len" = none) (n_all : mg "all" = none) (D_law_whole : DefIn P w K mg base ca 35 "_law_whole" ["_law_found"] f_law_whole) : DefAt P w K mg base ca 36 "_law_is_list" ["_law_found", "_law_many"] f_law_is_list a fd := by
  obtain ⟨a_law_whole, fd_law_whole, G_law_whole, m_law_whole, k_law_whole, b_law_whole⟩ := D_law_whole
  refine ⟨def_ok F sc_law_is_list rfl fun cdv A outer s H E hr => ?_, hm, F.kp, F.binds fun _ _ _ _ _ _ us hl => match us, hl with | [_, _], _ => rfl⟩
  have hu := hr.units
  have hdp := dp_of hr (by decide)
  exact ⟨_, (pss_one (ps_ret (pe_and (pe_callB call_isi rfl n_isinstance Boot.«isinstance» (pa_cons (pv 0) (pa_cons (pe_bltn (v := .ty "list") rfl n_list Boot.«list» rfl) pa_nil))) (pe_and (pe_cmpR (o_eq hu) (pe_callB call_len rfl n_len Boot.«len» (pa_cons (pv 0) pa_nil)) (pv 1) (nomark _)) (pe_one (pe_callB (call_allL rfl) rfl n_all Boot.«all» (pa_cons (pe_comp (own := ["_law_number_here"]) (cap := []) (caps := []) rfl ⟨rfl, by decide +kernel, by decide +kernel, by decide +kernel, trivial, by decide +kernel⟩ (pi_list (pv 0)) (fun _ _ _ => (pg_name (i := 0) (show ((["_law_number_here"] : List Str) ++ ([] : List Str)).Nodup from by decide +kernel) rfl (Or.inl rfl))) (fun _ _ _ => pts_nil) (fun _ _ _ => (pe_call G_law_whole (hr.mono (by decide)) rfl m_law_whole k_law_whole b_law_whole .nil passN (pa_cons (pv 0) pa_nil)))) pa_nil))))))),
   (rd_ret (rd_andV (rd_isi ty_list (rd_var 0)) (rd_andV (rd_bin rd_eq (rd_callB rd_len (rd_cons (rd_var 0) rd_nil)) (rd_var 1)) (rd_callB rd_all (rd_cons (rd_comp (m := 1) (caps := []) (rd_list (rd_var 0)) (rd_gname 0) rd_true (rd_callP (n := 1) (f := f_law_whole) (rd_cons (rd_var 0) rd_nil))) rd_nil)))))⟩
theorem sc_law_measure : FnScope ["_law_numbers", "_law_found", "_law_number_here", "_law_other", "_law_rest"] ["_law_numbers"] (defScope s_law_measure) := ⟨rfl, rfl, rfl, by decide +kernel, rfl, by decide +kernel, by decide +kernel⟩
theorem ok_law_measure {a : Addr} {fd : FuncData} (F : Fun K "_law_measure" "_law_measure" s_law_measure a fd) (hm : mg "_law_measure" = some (.ref a)) (hpt : P.given.tree = none) (n_abs : mg "abs" = none) : DefAt P w K mg base ca 35 "_law_measure" ["_law_numbers"] f_law_measure a fd := by
  refine ⟨def_ok F sc_law_measure rfl fun cdv A outer s H E hr => ?_, hm, F.kp, F.binds fun _ _ _ _ _ _ us hl => match us, hl with | [_], _ => rfl⟩
  have hu := hr.units
  have hdp := dp_of hr (by decide)
  exact ⟨_, (pss_cons (ps_set (i := 1) sc_law_measure.nd rfl (Or.inl rfl) pe_int)
 (pss_cons (ps_for PassesOwn.never rfl (pi_list (pv 0)) (pg_name (i := 2) sc_law_measure.nd rfl (Or.inl rfl))
 (pss_cons (ps_set (i := 3) sc_law_measure.nd rfl (Or.inl rfl) (pe_callB call_abs rfl n_abs Boot.«abs» (pa_cons (pv 2) pa_nil)))
 (pss_one (ps_while PassesOwn.never (pt_cmpR op_gt (pv 3) pe_int (nomark _))
 (pss_cons (ps_set (i := 4) sc_law_measure.nd rfl (Or.inl rfl) (pe_op op_modN (pv 1) (pv 3)))
 (pss_cons (ps_set (i := 1) sc_law_measure.nd rfl (Or.inl rfl) (pv 3))
 (pss_one (ps_set (i := 3) sc_law_measure.nd rfl (Or.inl rfl) (pv 4)))))))))
 (pss_one (ps_ret (pv 1))))),
   (rd_seq (rd_set (rd_int 0))
 (rd_seq (rd_for (rd_list (rd_var 0)) (rd_gname 2)
 (rd_seq (rd_set (rd_callB rd_abs (rd_cons (rd_var 2) rd_nil)))
 (rd_while (rd_tst (rd_bin rd_gt (rd_var 3) (rd_int 0)))
 (rd_seq (rd_set (rd_bin rd_mod (rd_var 1) (rd_var 3)))
 (rd_seq (rd_set (rd_var 3))
 (rd_set (rd_var 4)))))))
 (rd_ret (rd_var 1))))⟩
theorem sc_law_free : FnScope ["_law_cell_here", "_law_many", "_law_wide", "_law_bag_here"] ["_law_cell_here", "_law_many", "_law_wide"] (defScope s_law_free) := ⟨rfl, rfl, rfl, by decide +kernel, rfl, by decide +kernel, by decide +kernel⟩
theorem ok_law_free {a : Addr} {fd : FuncData} (F : Fun K "_law_free" "_law_free" s_law_free a fd) (hm : mg "_law_free" = some (.ref a)) (hpt : P.given.tree = none) (n_range : mg "range" = none) (D_law_bag : DefIn P w K mg base ca 35 "_law_bag" ["_law_cell_here"] f_law_bag) (D_law_number : DefIn P w K mg base ca 36 "_law_number" ["_law_bag_here", "_law_wide"] f_law_number) : DefAt P w K mg base ca 37 "_law_free" ["_law_cell_here", "_law_many", "_law_wide"] f_law_free a fd := by
  obtain ⟨a_law_bag, fd_law_bag, G_law_bag, m_law_bag, k_law_bag, b_law_bag⟩ := D_law_bag
  obtain ⟨a_law_number, fd_law_number, G_law_number, m_law_number, k_law_number, b_law_number⟩ := D_law_number
  refine ⟨def_ok F sc_law_free rfl fun cdv A outer s H E hr => ?_, hm, F.kp, F.binds fun _ _ _ _ _ _ us hl => match us, hl with | [_, _, _], _ => rfl⟩
  have hu := hr.units
  have hdp := dp_of hr (by decide)
  exact ⟨_, (pss_cons (ps_set (i := 3) sc_law_free.nd rfl (Or.inr rfl) (pe_call G_law_bag (hr.mono (by decide)) rfl m_law_bag k_law_bag b_law_bag .nil passN (pa_cons (pv 0) pa_nil)))
 (pss_one (ps_ret (pe_comp (own := ["_law_k"]) (cap := ["_law_bag_here", "_law_wide"]) (caps := [3, 2]) rfl ⟨rfl, by decide +kernel, by decide +kernel, by decide +kernel, ⟨rfl, Or.inl rfl, rfl, ⟨rfl, Or.inl rfl, rfl, trivial⟩⟩, by decide +kernel⟩ (pi_range1 rfl n_range (pa_cons (pv 1) pa_nil)) (fun _ _ _ => (pg_name (i := 0) (show ((["_law_k"] : List Str) ++ (["_law_bag_here", "_law_wide"] : List Str)).Nodup from by decide +kernel) rfl (Or.inl rfl))) (fun _ _ _ => pts_nil) (fun _ _ _ => (pe_call G_law_number (hr.mono (by decide)) rfl m_law_number k_law_number b_law_number .nil passN (pa_cons (pv 1) (pa_cons (pv 2) pa_nil)))))))),
   (rd_seq (rd_set (rd_callO (n := 1) (f := f_law_bag) (rd_cons (rd_var 0) rd_nil)))
 (rd_ret (rd_comp (m := 1) (caps := [3, 2]) (rd_rng1 (rd_cons (rd_var 1) rd_nil)) (rd_gname 0) rd_true (rd_callS (n := 2) (f := f_law_number) (rd_cons (rd_var 1) (rd_cons (rd_var 2) rd_nil))))))⟩
theorem sc_law_fit : FnScope ["_law_bag_here", "_law_many", "_law_made", "_law_k", "_law_way", "_law_number_here"] ["_law_bag_here", "_law_many"] (defScope s_law_fit) := ⟨rfl, rfl, rfl, by decide +kernel, rfl, by decide +kernel, by decide +kernel⟩
theorem ok_law_fit {a : Addr} {fd : FuncData} (F : Fun K "_law_fit" "_law_fit" s_law_fit a fd) (hm : mg "_law_fit" = some (.ref a)) (hpt : P.given.tree = none) (n_range : mg "range" = none) (D_law_draw : DefIn P w K mg base ca 35 "_law_draw" ["_law_bag_here", "_law_many"] f_law_draw) : DefAt P w K mg base ca 36 "_law_fit" ["_law_bag_here", "_law_many"] f_law_fit a fd := by
  obtain ⟨a_law_draw, fd_law_draw, G_law_draw, m_law_draw, k_law_draw, b_law_draw⟩ := D_law_draw
  refine ⟨def_ok F sc_law_fit rfl fun cdv A outer s H E hr => ?_, hm, F.kp, F.binds fun _ _ _ _ _ _ us hl => match us, hl with | [_, _], _ => rfl⟩
  have hu := hr.units
  have hdp := dp_of hr (by decide)
  exact ⟨_, (pss_cons (ps_set (i := 2) sc_law_fit.nd rfl (Or.inl rfl) (pe_lst (pa_cons pe_int pa_nil)))
 (pss_cons (ps_for PassesOwn.never rfl (pi_range1 rfl n_range (pa_cons (pe_op op_sub (pv 1) pe_int) pa_nil)) (pg_name (i := 3) sc_law_fit.nd rfl (Or.inl rfl))
 (pss_cons (ps_set (i := 4) sc_law_fit.nd rfl (Or.inl rfl) (pe_call G_law_draw (hr.mono (by decide)) rfl m_law_draw k_law_draw b_law_draw .nil passN (pa_cons (pv 0) (pa_cons pe_int pa_nil))))
 (pss_cons (ps_set (i := 5) sc_law_fit.nd rfl (Or.inl rfl) pe_int)
 (pss_cons (ps_if (pt_cmpR op_lt (pv 4) pe_int (nomark _))
 (pss_one (ps_set (i := 5) sc_law_fit.nd rfl (Or.inl rfl) (pe_op o_add (pe_call G_law_draw (hr.mono (by decide)) rfl m_law_draw k_law_draw b_law_draw .nil passN (pa_cons (pv 0) (pa_cons pe_int pa_nil))) pe_int)))
 pss_nil)
 (pss_cons (ps_if (pt_cmpR (o_eq hu) (pv 4) pe_int (nomark _))
 (pss_one (ps_set (i := 5) sc_law_fit.nd rfl (Or.inl rfl) (pe_call G_law_draw (hr.mono (by decide)) rfl m_law_draw k_law_draw b_law_draw .nil passN (pa_cons (pv 0) (pa_cons (pe_op op_pow pe_int pe_int) pa_nil)))))
 pss_nil)
 (pss_one (ps_expr (pe_bm PySem.F.plainAttrs_list PySem.F.slot_list_append PySem.F.type_list_append mt_append (pv 2) (pa_cons (pv 5) pa_nil)))))))))
 (pss_one (ps_ret (pv 2))))),
   (rd_seq (rd_set (rd_lstC (rd_cons (rd_int 1) rd_nil)))
 (rd_seq (rd_for (rd_rng1 (rd_cons (rd_bin rd_sub (rd_var 1) (rd_int 1)) rd_nil)) (rd_gname 3)
 (rd_seq (rd_set (rd_callS (n := 2) (f := f_law_draw) (rd_cons (rd_var 0) (rd_cons (rd_int 8) rd_nil))))
 (rd_seq (rd_set (rd_int 0))
 (rd_seq (rd_if (rd_tst (rd_bin rd_lt (rd_var 4) (rd_int 4)))
 (rd_set (rd_bin rd_add (rd_callS (n := 2) (f := f_law_draw) (rd_cons (rd_var 0) (rd_cons (rd_int 4) rd_nil))) (rd_int 1)))
 rd_next)
 (rd_seq (rd_if (rd_tst (rd_bin rd_eq (rd_var 4) (rd_int 7)))
 (rd_set (rd_callS (n := 2) (f := f_law_draw) (rd_cons (rd_var 0) (rd_cons (rd_bin rd_pow (rd_int 10) (rd_int 6)) rd_nil))))
 rd_next)
 (rd_drop (rd_app (rd_var 2) (rd_var 5))))))))
 (rd_ret (rd_frz (rd_var 2)))))⟩
theorem sc_law_closed : FnScope ["_law_cells", "_law_fit_here", "_law_count", "_law_wide", "_law_made", "_law_at", "_law_bag_here", "_law_one"] ["_law_cells", "_law_fit_here", "_law_count", "_law_wide"] (defScope s_law_closed) := ⟨rfl, rfl, rfl, by decide +kernel, rfl, by decide +kernel, by decide +kernel⟩
theorem ok_law_closed {a : Addr} {fd : FuncData} (F : Fun K "_law_closed" "_law_closed" s_law_closed a fd) (hm : mg "_law_closed" = some (.ref a)) (hpt : P.given.tree = none) (n_range : mg "range" = none) (n_len : mg "len" = none) (n_sum : mg "sum" = none) (D_law_bag : DefIn P w K mg base ca 35 "_law_bag" ["_law_cell_here"] f_law_bag) (D_law_number : DefIn P w K mg base ca 36 "_law_number" ["_law_bag_here", "_law_wide"] f_law_number) (D_law_draw : DefIn P w K mg base ca 35 "_law_draw" ["_law_bag_here", "_law_many"] f_law_draw) : DefAt P w K mg base ca 37 "_law_closed" ["_law_cells", "_law_fit_here", "_law_count", "_law_wide"] f_law_closed a fd := by
  obtain ⟨a_law_bag, fd_law_bag, G_law_bag, m_law_bag, k_law_bag, b_law_bag⟩ := D_law_bag
  obtain ⟨a_law_number, fd_law_number, G_law_number, m_law_number, k_law_number, b_law_number⟩ := D_law_number
  obtain ⟨a_law_draw, fd_law_draw, G_law_draw, m_law_draw, k_law_draw, b_law_draw⟩ := D_law_draw
  refine ⟨def_ok F sc_law_closed rfl fun cdv A outer s H E hr => ?_, hm, F.kp, F.binds fun _ _ _ _ _ _ us hl => match us, hl with | [_, _, _, _], _ => rfl⟩
  have hu := hr.units
  have hdp := dp_of hr (by decide)
  exact ⟨_, (pss_cons (ps_set (i := 4) sc_law_closed.nd rfl (Or.inl rfl) (pe_lst pa_nil))
 (pss_cons (ps_for PassesOwn.never rfl (pi_range1 rfl n_range (pa_cons (pv 2) pa_nil)) (pg_name (i := 5) sc_law_closed.nd rfl (Or.inl rfl))
 (pss_cons (ps_set (i := 6) sc_law_closed.nd rfl (Or.inr rfl) (pe_call G_law_bag (hr.mono (by decide)) rfl m_law_bag k_law_bag b_law_bag .nil passN (pa_cons (pe_op o_add (pe_ix ix_seq (pv 0) (pe_op op_modN (pv 5) (pe_callB call_len rfl n_len Boot.«len» (pa_cons (pv 0) pa_nil))) (fun _ _ => rfl)) (pe_op o_mul pe_int (pe_op (o_fdiv hdp hpt ⟨_, _, rfl, rfl, rfl, rfl, rfl⟩) (pv 5) (pe_callB call_len rfl n_len Boot.«len» (pa_cons (pv 0) pa_nil))))) pa_nil)))
 (pss_cons (ps_set (i := 7) sc_law_closed.nd rfl (Or.inr rfl) (pe_comp (own := ["_law_k"]) (cap := ["_law_bag_here", "_law_wide"]) (caps := [6, 3]) rfl ⟨rfl, by decide +kernel, by decide +kernel, by decide +kernel, ⟨rfl, Or.inl rfl, rfl, ⟨rfl, Or.inl rfl, rfl, trivial⟩⟩, by decide +kernel⟩ (pi_list (pv 1)) (fun _ _ _ => (pg_name (i := 0) (show ((["_law_k"] : List Str) ++ (["_law_bag_here", "_law_wide"] : List Str)).Nodup from by decide +kernel) rfl (Or.inl rfl))) (fun _ _ _ => pts_nil) (fun _ _ _ => (pe_call G_law_number (hr.mono (by decide)) rfl m_law_number k_law_number b_law_number .nil passN (pa_cons (pv 1) (pa_cons (pv 2) pa_nil))))))
 (pss_cons (ps_if (PW.pt (pw_and (pt_cmpR (o_eq hu) (pe_call G_law_draw (hr.mono (by decide)) rfl m_law_draw k_law_draw b_law_draw .nil passN (pa_cons (pv 6) (pa_cons pe_int pa_nil))) pe_int (nomark _)) (pw_and1 (pt_cmpR op_gt (pe_callB call_len rfl n_len Boot.«len» (pa_cons (pv 4) pa_nil)) pe_int (nomark _)))))
 (pss_one (ps_set (i := 7) sc_law_closed.nd rfl (Or.inr rfl) (pe_comp (own := ["_law_number_here"]) (cap := []) (caps := []) rfl ⟨rfl, by decide +kernel, by decide +kernel, by decide +kernel, trivial, by decide +kernel⟩ (pi_list (pe_ix ix_seq (pv 4) (pe_un un_neg pe_int) (fun _ _ => rfl))) (fun _ _ _ => (pg_name (i := 0) (show ((["_law_number_here"] : List Str) ++ ([] : List Str)).Nodup from by decide +kernel) rfl (Or.inl rfl))) (fun _ _ _ => pts_nil) (fun _ _ _ => (pe_op o_mul pe_int (pv 0))))))
 pss_nil)
 (pss_cons (ps_asg (pe_un un_neg (pe_callB (call_sumL rfl) rfl n_sum Boot.«sum» (pa_cons (pe_comp (own := ["_law_k"]) (cap := ["_law_fit_here", "_law_one"]) (caps := [1, 7]) rfl ⟨rfl, by decide +kernel, by decide +kernel, by decide +kernel, ⟨rfl, Or.inl rfl, rfl, ⟨rfl, Or.inl rfl, rfl, trivial⟩⟩, by decide +kernel⟩ (pi_range2 rfl n_range (pa_cons pe_int (pa_cons (pe_callB call_len rfl n_len Boot.«len» (pa_cons (pv 1) pa_nil)) pa_nil))) (fun _ _ _ => (pg_name (i := 0) (show ((["_law_k"] : List Str) ++ (["_law_fit_here", "_law_one"] : List Str)).Nodup from by decide +kernel) rfl (Or.inl rfl))) (fun _ _ _ => pts_nil) (fun _ _ _ => (pe_op o_mul (pe_ix ix_seq (pv 2) (pv 0) (fun _ _ => rfl)) (pe_ix ix_seq (pv 1) (pv 0) (fun _ _ => rfl))))) pa_nil))) (pg_sub (pv 7) pe_int set_list))
 (pss_one (ps_expr (pe_bm PySem.F.plainAttrs_list PySem.F.slot_list_append PySem.F.type_list_append mt_append (pv 4) (pa_cons (pv 7) pa_nil)))))))))
 (pss_one (ps_ret (pv 4))))),
   (rd_seq (rd_set (rd_lstC rd_nil))
 (rd_seq (rd_for (rd_rng1 (rd_cons (rd_var 2) rd_nil)) (rd_gname 5)
 (rd_seq (rd_set (rd_callO (n := 1) (f := f_law_bag) (rd_cons (rd_bin rd_add (rd_bin rd_ix (rd_var 0) (rd_bin rd_mod (rd_var 5) (rd_callB rd_len (rd_cons (rd_var 0) rd_nil)))) (rd_bin rd_mul (rd_int 500009) (rd_bin rd_fdiv (rd_var 5) (rd_callB rd_len (rd_cons (rd_var 0) rd_nil))))) rd_nil)))
 (rd_seq (rd_set (rd_compC (m := 1) (caps := [6, 3]) (rd_list (rd_var 1)) (rd_gname 0) rd_true (rd_callS (n := 2) (f := f_law_number) (rd_cons (rd_var 1) (rd_cons (rd_var 2) rd_nil)))))
 (rd_seq (rd_if (rd_and (rd_tst (rd_bin rd_eq (rd_callS (n := 2) (f := f_law_draw) (rd_cons (rd_var 6) (rd_cons (rd_int 7) rd_nil))) (rd_int 6))) (rd_tst (rd_bin rd_gt (rd_callB rd_len (rd_cons (rd_var 4) rd_nil)) (rd_int 0))))
 (rd_set (rd_compC (m := 1) (caps := []) (rd_list (rd_bin rd_ix (rd_var 4) (rd_un rd_neg (rd_int 1)))) (rd_gname 0) rd_true (rd_bin rd_mul (rd_int 3) (rd_var 0))))
 rd_next)
 (rd_seq (rd_asg (rd_un rd_neg (rd_callB rd_sum (rd_cons (rd_comp (m := 1) (caps := [1, 7]) (rd_rng2 (rd_cons (rd_int 1) (rd_cons (rd_callB rd_len (rd_cons (rd_var 1) rd_nil)) rd_nil))) (rd_gname 0) rd_true (rd_bin rd_mul (rd_bin rd_ix (rd_var 2) (rd_var 0)) (rd_bin rd_ix (rd_var 1) (rd_var 0)))) rd_nil))) (rd_put (rd_var 7) (rd_int 0)))
 (rd_drop (rd_app (rd_var 4) (rd_frz (rd_var 7)))))))))
 (rd_ret (rd_frz (rd_var 4)))))⟩
theorem sc_law_turned : FnScope ["_law_some", "_law_turn"] ["_law_some", "_law_turn"] (defScope s_law_turned) := ⟨rfl, rfl, rfl, by decide +kernel, rfl, by decide +kernel, by decide +kernel⟩
theorem ok_law_turned {a : Addr} {fd : FuncData} (F : Fun K "_law_turned" "_law_turned" s_law_turned a fd) (hm : mg "_law_turned" = some (.ref a)) (hpt : P.given.tree = none) : DefAt P w K mg base ca 35 "_law_turned" ["_law_some", "_law_turn"] f_law_turned a fd := by
  refine ⟨def_ok F sc_law_turned rfl fun cdv A outer s H E hr => ?_, hm, F.kp, F.binds fun _ _ _ _ _ _ us hl => match us, hl with | [_, _], _ => rfl⟩
  have hu := hr.units
  have hdp := dp_of hr (by decide)
  exact ⟨_, (pss_one (ps_ret (pe_comp (own := ["_law_one"]) (cap := ["_law_turn"]) (caps := [1]) rfl ⟨rfl, by decide +kernel, by decide +kernel, by decide +kernel, ⟨rfl, Or.inl rfl, rfl, trivial⟩, by decide +kernel⟩ (pi_list (pv 0)) (fun _ _ _ => (pg_name (i := 0) (show ((["_law_one"] : List Str) ++ (["_law_turn"] : List Str)).Nodup from by decide +kernel) rfl (Or.inl rfl))) (fun _ _ _ => pts_nil) (fun _ _ _ => (pe_op o_add (pe_slice sl_list (pv 0) (po_some (pv 1)) po_none) (pe_slice sl_list (pv 0) po_none (po_some (pv 1)))))))),
   (rd_ret (rd_comp (m := 1) (caps := [1]) (rd_list (rd_var 0)) (rd_gname 0) rd_true (rd_bin rd_add (rd_sl (rd_var 0) (rd_part (rd_var 1)) rd_noPart) (rd_sl (rd_var 0) rd_noPart (rd_part (rd_var 1))))))⟩
theorem sc_law_places : FnScope ["_law_numbers"] ["_law_numbers"] (defScope s_law_places) := ⟨rfl, rfl, rfl, by decide +kernel, rfl, by decide +kernel, by decide +kernel⟩
theorem ok_law_places {a : Addr} {fd : FuncData} (F : Fun K "_law_places" "_law_places" s_law_places a fd) (hm : mg "_law_places" = some (.ref a)) (hpt : P.given.tree = none) (n_len : mg "len" = none) (n_range : mg "range" = none) : DefAt P w K mg base ca 35 "_law_places" ["_law_numbers"] f_law_places a fd := by
  refine ⟨def_ok F sc_law_places rfl fun cdv A outer s H E hr => ?_, hm, F.kp, F.binds fun _ _ _ _ _ _ us hl => match us, hl with | [_], _ => rfl⟩
  have hu := hr.units
  have hdp := dp_of hr (by decide)
  exact ⟨_, (pss_one (ps_ret (pe_comp (own := ["_law_at"]) (cap := ["_law_numbers"]) (caps := [0]) rfl ⟨rfl, by decide +kernel, by decide +kernel, by decide +kernel, ⟨rfl, Or.inl rfl, rfl, trivial⟩, by decide +kernel⟩ (pi_range1 rfl n_range (pa_cons (pe_callB call_len rfl n_len Boot.«len» (pa_cons (pv 0) pa_nil)) pa_nil)) (fun _ _ _ => (pg_name (i := 0) (show ((["_law_at"] : List Str) ++ (["_law_numbers"] : List Str)).Nodup from by decide +kernel) rfl (Or.inl rfl))) (fun _ _ _ => (pts_one (pt_cmpR (o_ne hu) (pe_ix ix_seq (pv 1) (pv 0) (fun _ _ => rfl)) pe_int (nomark _)))) (fun _ _ _ => (pv 0))))),
   (rd_ret (rd_comp (m := 1) (caps := [0]) (rd_rng1 (rd_cons (rd_callB rd_len (rd_cons (rd_var 0) rd_nil)) rd_nil)) (rd_gname 0) (rd_tst (rd_bin rd_ne (rd_bin rd_ix (rd_var 1) (rd_var 0)) (rd_int 0))) (rd_var 0)))⟩
theorem sc_law_is_lone : FnScope ["_law_found", "_law_some", "_law_many"] ["_law_found", "_law_some", "_law_many"] (defScope s_law_is_lone) := ⟨rfl, rfl, rfl, by decide +kernel, rfl, by decide +kernel, by decide +kernel⟩
theorem ok_law_is_lone {a : Addr} {fd : FuncData} (F : Fun K "_law_is_lone" "_law_is_lone" s_law_is_lone a fd) (hm : mg "_law_is_lone" = some (.ref a)) (hpt : P.given.tree = none) (n_min : mg "min" = none) (n_all : mg "all" = none) (D_law_is_list : DefIn P w K mg base ca 36 "_law_is_list" ["_law_found", "_law_many"] f_law_is_list) (D_law_measure : DefIn P w K mg base ca 35 "_law_measure" ["_law_numbers"] f_law_measure) (D_law_product : DefIn P w K mg base ca 35 "_law_product" ["_law_one", "_law_other"] f_law_product) : DefAt P w K mg base ca 37 "_law_is_lone" ["_law_found", "_law_some", "_law_many"] f_law_is_lone a fd := by
  obtain ⟨a_law_is_list, fd_law_is_list, G_law_is_list, m_law_is_list, k_law_is_list, b_law_is_list⟩ := D_law_is_list
  obtain ⟨a_law_measure, fd_law_measure, G_law_measure, m_law_measure, k_law_measure, b_law_measure⟩ := D_law_measure
  obtain ⟨a_law_product, fd_law_product, G_law_product, m_law_product, k_law_product, b_law_product⟩ := D_law_product
  refine ⟨def_ok F sc_law_is_lone rfl fun cdv A outer s H E hr => ?_, hm, F.kp, F.binds fun _ _ _ _ _ _ us hl => match us, hl with | [_, _, _], _ => rfl⟩
  have hu := hr.units
  have hdp := dp_of hr (by decide)
  exact ⟨_, (pss_cons (ps_if (PW.pt (pw_or (pt_not (pt_val (pe_call G_law_is_list (hr.mono (by decide)) rfl m_law_is_list k_law_is_list b_law_is_list .nil passN (pa_cons (pv 0) (pa_cons (pv 2) pa_nil))))) (pw_or (pt_cmpR op_lt (pe_minD rfl rfl n_min Boot.«min» (pv 0) (pe_un un_neg pe_int)) pe_int (nomark _)) (pw_or1 (pt_cmpR (o_ne hu) (pe_call G_law_measure (hr.mono (by decide)) rfl m_law_measure k_law_measure b_law_measure .nil passN (pa_cons (pv 0) pa_nil)) pe_int (nomark _))))))
 (pss_one (ps_ret pe_bl))
 pss_nil)
 (pss_one (ps_ret (pe_callB (call_allL rfl) rfl n_all Boot.«all» (pa_cons (pe_comp (own := ["_law_one"]) (cap := ["_law_found"]) (caps := [0]) rfl ⟨rfl, by decide +kernel, by decide +kernel, by decide +kernel, ⟨rfl, Or.inl rfl, rfl, trivial⟩, by decide +kernel⟩ (pi_list (pv 1)) (fun _ _ _ => (pg_name (i := 0) (show ((["_law_one"] : List Str) ++ (["_law_found"] : List Str)).Nodup from by decide +kernel) rfl (Or.inl rfl))) (fun _ _ _ => pts_nil) (fun _ _ _ => (pe_cmpR (o_eq hu) (pe_call G_law_product (hr.mono (by decide)) rfl m_law_product k_law_product b_law_product .nil passN (pa_cons (pv 0) (pa_cons (pv 1) pa_nil))) pe_int (nomark _)))) pa_nil))))),
   (rd_seq (rd_if (rd_or (rd_not (rd_tB (rd_callP (n := 2) (f := f_law_is_list) (rd_cons (rd_var 0) (rd_cons (rd_var 2) rd_nil))))) (rd_or (rd_tst (rd_bin rd_lt (rd_minD (rd_var 0) (rd_un rd_neg (rd_int 1))) (rd_int 0))) (rd_tst (rd_bin rd_ne (rd_callP (n := 1) (f := f_law_measure) (rd_cons (rd_var 0) rd_nil)) (rd_int 1)))))
 (rd_ret (rd_bl false))
 rd_next)
 (rd_ret (rd_callB rd_all (rd_cons (rd_comp (m := 1) (caps := [0]) (rd_list (rd_var 1)) (rd_gname 0) rd_true (rd_bin rd_eq (rd_callP (n := 2) (f := f_law_product) (rd_cons (rd_var 0) (rd_cons (rd_var 1) rd_nil))) (rd_int 0))) rd_nil))))⟩
theorem sc_law_apart : FnScope ["_law_found", "_law_one", "_law_other"] ["_law_found"] (defScope s_law_apart) := ⟨rfl, rfl, rfl, by decide +kernel, rfl, by decide +kernel, by decide +kernel⟩
theorem ok_law_apart {a : Addr} {fd : FuncData} (F : Fun K "_law_apart" "_law_apart" s_law_apart a fd) (hm : mg "_law_apart" = some (.ref a)) (hpt : P.given.tree = none) (n_all : mg "all" = none) (D_law_places : DefIn P w K mg base ca 35 "_law_places" ["_law_numbers"] f_law_places) : DefAt P w K mg base ca 36 "_law_apart" ["_law_found"] f_law_apart a fd := by
  obtain ⟨a_law_places, fd_law_places, G_law_places, m_law_places, k_law_places, b_law_places⟩ := D_law_places
  refine ⟨def_ok F sc_law_apart rfl fun cdv A outer s H E hr => ?_, hm, F.kp, F.binds fun _ _ _ _ _ _ us hl => match us, hl with | [_], _ => rfl⟩
  have hu := hr.units
  have hdp := dp_of hr (by decide)
  exact ⟨_, (pss_cons (ps_for PassesOwn.never rfl (pi_list (pv 0)) (pg_name (i := 1) sc_law_apart.nd rfl (Or.inl rfl))
 (pss_one (ps_for PassesOwn.never rfl (pi_list (pv 0)) (pg_name (i := 2) sc_law_apart.nd rfl (Or.inr rfl))
 (pss_one (ps_if (PW.pt (pw_and (pt_cmpR (o_ne hu) (pv 1) (pv 2) (nomark _)) (pw_and1 (pt_val (pe_callB (call_allL rfl) rfl n_all Boot.«all» (pa_cons (pe_comp (own := ["_law_at"]) (cap := ["_law_other"]) (caps := [2]) rfl ⟨rfl, by decide +kernel, by decide +kernel, by decide +kernel, ⟨rfl, Or.inl rfl, rfl, trivial⟩, by decide +kernel⟩ (pi_list (pe_call G_law_places (hr.mono (by decide)) rfl m_law_places k_law_places b_law_places .nil passN (pa_cons (pv 1) pa_nil))) (fun _ _ _ => (pg_name (i := 0) (show ((["_law_at"] : List Str) ++ (["_law_other"] : List Str)).Nodup from by decide +kernel) rfl (Or.inl rfl))) (fun _ _ _ => pts_nil) (fun _ _ _ => (pe_cmpR op_gt (pe_ix ix_seq (pv 1) (pv 0) (fun _ _ => rfl)) pe_int (nomark _)))) pa_nil))))))
 (pss_one (ps_ret pe_bl))
 pss_nil)))))
 (pss_one (ps_ret pe_bl))),
   (rd_seq (rd_for (rd_list (rd_var 0)) (rd_gname 1)
 (rd_for (rd_list (rd_var 0)) (rd_gname 2)
 (rd_if (rd_and (rd_tst (rd_bin rd_ne (rd_var 1) (rd_var 2))) (rd_tB (rd_callB rd_all (rd_cons (rd_comp (m := 1) (caps := [2]) (rd_list (rd_callP (n := 1) (f := f_law_places) (rd_cons (rd_var 1) rd_nil))) (rd_gname 0) rd_true (rd_bin rd_gt (rd_bin rd_ix (rd_var 1) (rd_var 0)) (rd_int 0))) rd_nil))))
 (rd_ret (rd_bl false))
 rd_next)))
 (rd_ret (rd_bl true)))⟩
theorem sc_law : FnScope ["_law_script", "_law_many", "_law_cells", "_law_bag_here", "_law_closing", "_law_some", "_law_turn", "_law_one", "_law_handed", "_law_found", "_law_held"] ["_law_script"] (defScope s_law) := ⟨rfl, rfl, rfl, by decide +kernel, rfl, by decide +kernel, by decide +kernel⟩
theorem ok_law {a : Addr} {fd : FuncData} (F : Fun K "law" "law" s_law a fd) (hm : mg "law" = some (.ref a)) (hpt : P.given.tree = none) (n_len : mg "len" = none) (n_int : mg "int" = none) (n_list : mg "list" = none) (n_isinstance : mg "isinstance" = none) (n_all : mg "all" = none) (n_sorted : mg "sorted" = none) (D_law_cell : DefIn P w K mg base ca 35 "_law_cell" ["_law_script", "_law_k"] f_law_cell) (D_law_bag : DefIn P w K mg base ca 35 "_law_bag" ["_law_cell_here"] f_law_bag) (D_law_draw : DefIn P w K mg base ca 35 "_law_draw" ["_law_bag_here", "_law_many"] f_law_draw) (D_law_closed : DefIn P w K mg base ca 37 "_law_closed" ["_law_cells", "_law_fit_here", "_law_count", "_law_wide"] f_law_closed) (D_law_fit : DefIn P w K mg base ca 36 "_law_fit" ["_law_bag_here", "_law_many"] f_law_fit) (D_law_free : DefIn P w K mg base ca 37 "_law_free" ["_law_cell_here", "_law_many", "_law_wide"] f_law_free) (D_law_turned : DefIn P w K mg base ca 35 "_law_turned" ["_law_some", "_law_turn"] f_law_turned) (D_lone : DefIn P w K mg base ca 40 "lone" ["rows", "many"] f_lone) (D_law_is_lone : DefIn P w K mg base ca 37 "_law_is_lone" ["_law_found", "_law_some", "_law_many"] f_law_is_lone) (D_law_apart : DefIn P w K mg base ca 36 "_law_apart" ["_law_found"] f_law_apart) : DefAt P w K mg base ca 41 "law" ["_law_script"] f_law a fd := by
  obtain ⟨a_law_cell, fd_law_cell, G_law_cell, m_law_cell, k_law_cell, b_law_cell⟩ := D_law_cell
  obtain ⟨a_law_bag, fd_law_bag, G_law_bag, m_law_bag, k_law_bag, b_law_bag⟩ := D_law_bag
  obtain ⟨a_law_draw, fd_law_draw, G_law_draw, m_law_draw, k_law_draw, b_law_draw⟩ := D_law_draw
  obtain ⟨a_law_closed, fd_law_closed, G_law_closed, m_law_closed, k_law_closed, b_law_closed⟩ := D_law_closed
  obtain ⟨a_law_fit, fd_law_fit, G_law_fit, m_law_fit, k_law_fit, b_law_fit⟩ := D_law_fit
  obtain ⟨a_law_free, fd_law_free, G_law_free, m_law_free, k_law_free, b_law_free⟩ := D_law_free
  obtain ⟨a_law_turned, fd_law_turned, G_law_turned, m_law_turned, k_law_turned, b_law_turned⟩ := D_law_turned
  obtain ⟨a_lone, fd_lone, G_lone, m_lone, k_lone, b_lone⟩ := D_lone
  obtain ⟨a_law_is_lone, fd_law_is_lone, G_law_is_lone, m_law_is_lone, k_law_is_lone, b_law_is_lone⟩ := D_law_is_lone
  obtain ⟨a_law_apart, fd_law_apart, G_law_apart, m_law_apart, k_law_apart, b_law_apart⟩ := D_law_apart
  refine ⟨def_ok F sc_law rfl fun cdv A outer s H E hr => ?_, hm, F.kp, F.binds fun _ _ _ _ _ _ us hl => match us, hl with | [_], _ => rfl⟩
  have hu := hr.units
  have hdp := dp_of hr (by decide)
  exact ⟨_, (pss_cons (ps_set (i := 1) sc_law.nd rfl (Or.inr rfl) (pe_op o_add pe_int (pe_op op_modN (pe_call G_law_cell (hr.mono (by decide)) rfl m_law_cell k_law_cell b_law_cell .nil passN (pa_cons (pv 0) (pa_cons pe_int pa_nil))) pe_int)))
 (pss_cons (ps_if (pt_cmpR (o_eq hu) (pe_op op_modN (pe_op (o_fdiv hdp hpt ⟨_, _, rfl, rfl, rfl, rfl, rfl⟩) (pe_call G_law_cell (hr.mono (by decide)) rfl m_law_cell k_law_cell b_law_cell .nil passN (pa_cons (pv 0) (pa_cons pe_int pa_nil))) pe_int) pe_int) pe_int (nomark _))
 (pss_one (ps_set (i := 1) sc_law.nd rfl (Or.inr rfl) pe_int))
 pss_nil)
 (pss_cons (ps_set (i := 2) sc_law.nd rfl (Or.inl rfl) (pe_op o_add (pe_lst (pa_cons (pe_call G_law_cell (hr.mono (by decide)) rfl m_law_cell k_law_cell b_law_cell .nil passN (pa_cons (pv 0) (pa_cons pe_int pa_nil))) pa_nil)) (pe_slice sl_list (pv 0) (po_some pe_int) (po_some pe_int))))
 (pss_cons (ps_set (i := 3) sc_law.nd rfl (Or.inl rfl) (pe_call G_law_bag (hr.mono (by decide)) rfl m_law_bag k_law_bag b_law_bag .nil passN (pa_cons (pe_call G_law_cell (hr.mono (by decide)) rfl m_law_cell k_law_cell b_law_cell .nil passN (pa_cons (pv 0) (pa_cons pe_int pa_nil))) pa_nil)))
 (pss_cons (ps_set (i := 4) sc_law.nd rfl (Or.inl rfl) (pe_cmpR op_lt (pe_call G_law_draw (hr.mono (by decide)) rfl m_law_draw k_law_draw b_law_draw .nil passN (pa_cons (pv 3) (pa_cons pe_int pa_nil))) pe_int (nomark _)))
 (pss_cons (ps_set (i := 5) sc_law.nd rfl (Or.inr rfl) (pe_call G_law_closed (hr.mono (by decide)) rfl m_law_closed k_law_closed b_law_closed .nil passN (pa_cons (pv 2) (pa_cons (pe_call G_law_fit (hr.mono (by decide)) rfl m_law_fit k_law_fit b_law_fit .nil passN (pa_cons (pv 3) (pa_cons (pv 1) pa_nil))) (pa_cons (pe_callB call_len rfl n_len Boot.«len» (pa_cons (pe_slice sl_list (pv 0) (po_some pe_int) (po_some pe_int)) pa_nil)) (pa_cons (pe_ix ix_seq (pe_lst (pa_cons pe_int (pa_cons (pe_op op_pow pe_int pe_int) pa_nil))) (pe_op o_mul (pe_callTy call_int1 rfl n_int Boot.«int» (pa_cons (pe_cmpR op_lt (pv 1) pe_int (nomark _)) pa_nil)) (pe_call G_law_draw (hr.mono (by decide)) rfl m_law_draw k_law_draw b_law_draw .nil passN (pa_cons (pv 3) (pa_cons pe_int pa_nil)))) (fun _ _ => rfl)) pa_nil))))))
 (pss_cons (ps_set (i := 6) sc_law.nd rfl (Or.inl rfl) (pe_call G_law_draw (hr.mono (by decide)) rfl m_law_draw k_law_draw b_law_draw .nil passN (pa_cons (pv 3) (pa_cons (pv 1) pa_nil))))
 (pss_cons (ps_if (pt_not (pt_val (pv 4)))
 (pss_one (ps_set (i := 5) sc_law.nd rfl (Or.inr rfl) (pe_comp (own := ["_law_cell_here"]) (cap := ["_law_many"]) (caps := [1]) rfl ⟨rfl, by decide +kernel, by decide +kernel, by decide +kernel, ⟨rfl, Or.inl rfl, rfl, trivial⟩, by decide +kernel⟩ (pi_list (pe_slice sl_list (pv 0) (po_some pe_int) (po_some pe_int))) (fun _ _ _ => (pg_name (i := 0) (show ((["_law_cell_here"] : List Str) ++ (["_law_many"] : List Str)).Nodup from by decide +kernel) rfl (Or.inl rfl))) (fun _ _ _ => pts_nil) (fun _ _ _ => (pe_call G_law_free (hr.mono (by decide)) rfl m_law_free k_law_free b_law_free .nil passN (pa_cons (pv 0) (pa_cons (pv 1) (pa_cons (pe_ix ix_seq (pe_lst (pa_cons pe_int (pa_cons (pe_op op_pow pe_int pe_int) pa_nil))) (pe_callTy call_int1 rfl n_int Boot.«int» (pa_cons (pe_cmpR op_lt (pv 1) pe_int (nomark _)) pa_nil)) (fun _ _ => rfl)) pa_nil))))))))
 pss_nil)
 (pss_cons (ps_set (i := 5) sc_law.nd rfl (Or.inr rfl) (pe_call G_law_turned (hr.mono (by decide)) rfl m_law_turned k_law_turned b_law_turned .nil passN (pa_cons (pv 5) (pa_cons (pv 6) pa_nil))))
 (pss_cons (ps_setcomp (i := 8) (own := ["_law_one"]) (cap := []) (caps := []) rfl ⟨rfl, by decide +kernel, by decide +kernel, by decide +kernel, trivial, by decide +kernel⟩ (pi_list (pv 5)) (fun _ _ _ => (pg_name (i := 0) (show ((["_law_one"] : List Str) ++ ([] : List Str)).Nodup from by decide +kernel) rfl (Or.inl rfl))) (fun _ _ _ => pts_nil) (fun _ _ _ => (pe_callTy call_list_of rfl n_list Boot.«list» (pa_cons (pv 0) pa_nil))) sc_law.nd rfl (Or.inl rfl) rfl)
 (pss_cons (ps_set (i := 9) sc_law.nd rfl (Or.inl rfl) (pe_call G_lone (hr.mono (by decide)) rfl m_lone k_lone b_lone .nil passN (pa_cons (pv 8) (pa_cons (pv 1) pa_nil))))
 (pss_cons (ps_if (PW.pt (pw_or (pt_not (pt_val (pe_callB call_isi rfl n_isinstance Boot.«isinstance» (pa_cons (pv 9) (pa_cons (pe_bltn (v := .ty "list") rfl n_list Boot.«list» rfl) pa_nil))))) (pw_or (pt_cmpR (o_ne hu) (pv 8) (pv 5) (nomark _)) (pw_or1 (PW.pt (pw_and (pt_val (pv 4)) (pw_and1 (pt_cmpR (o_eq hu) (pe_callB call_len rfl n_len Boot.«len» (pa_cons (pv 9) pa_nil)) pe_int (nomark _)))))))))
 (pss_one (ps_ret pe_bl))
 pss_nil)
 (pss_cons (ps_if (PW.pt (pw_or (pt_not (pt_val (pe_callB (call_allL rfl) rfl n_all Boot.«all» (pa_cons (pe_comp (own := ["_law_one"]) (cap := ["_law_many", "_law_some"]) (caps := [1, 5]) rfl ⟨rfl, by decide +kernel, by decide +kernel, by decide +kernel, ⟨rfl, Or.inl rfl, rfl, ⟨rfl, Or.inl rfl, rfl, trivial⟩⟩, by decide +kernel⟩ (pi_list (pv 9)) (fun _ _ _ => (pg_name (i := 0) (show ((["_law_one"] : List Str) ++ (["_law_many", "_law_some"] : List Str)).Nodup from by decide +kernel) rfl (Or.inl rfl))) (fun _ _ _ => pts_nil) (fun _ _ _ => (pe_call G_law_is_lone (hr.mono (by decide)) rfl m_law_is_lone k_law_is_lone b_law_is_lone .nil passN (pa_cons (pv 0) (pa_cons (pv 2) (pa_cons (pv 1) pa_nil)))))) pa_nil)))) (pw_or (pt_cmpR (o_ne hu) (pe_callB (call_sortedL hu) rfl n_sorted Boot.«sorted» (pa_cons (pv 9) pa_nil)) (pv 9) (nomark _)) (pw_or1 (pt_not (pt_val (pe_call G_law_apart (hr.mono (by decide)) rfl m_law_apart k_law_apart b_law_apart .nil passN (pa_cons (pv 9) pa_nil))))))))
 (pss_one (ps_ret pe_bl))
 pss_nil)
 (pss_cons (ps_setcomp (i := 10) (own := ["_law_one"]) (cap := []) (caps := []) rfl ⟨rfl, by decide +kernel, by decide +kernel, by decide +kernel, trivial, by decide +kernel⟩ (pi_list (pv 9)) (fun _ _ _ => (pg_name (i := 0) (show ((["_law_one"] : List Str) ++ ([] : List Str)).Nodup from by decide +kernel) rfl (Or.inl rfl))) (fun _ _ _ => pts_nil) (fun _ _ _ => (pe_callTy call_list_of rfl n_list Boot.«list» (pa_cons (pv 0) pa_nil))) sc_law.nd rfl (Or.inl rfl) rfl)
 (pss_cons (ps_for PassesOwn.never rfl (pi_list (pv 9)) (pg_name (i := 7) sc_law.nd rfl (Or.inl rfl))
 (pss_one (ps_expr (pe_bm PySem.F.plainAttrs_list PySem.F.slot_list_append PySem.F.type_list_append mt_append (pv 7) (pa_cons pe_int pa_nil)))))
 (pss_cons (ps_expr (pe_bm0 PySem.F.plainAttrs_list PySem.F.slot_list_clear PySem.F.type_list_clear mt_clear (pv 9)))
 (pss_one (ps_ret (pe_cmpR (o_eq hu) (pe_call G_lone (hr.mono (by decide)) rfl m_lone k_lone b_lone .nil passN (pa_cons (pv 8) (pa_cons (pv 1) pa_nil))) (pv 10) (nomark _)))))))))))))))))))),
   (rd_seq (rd_set (rd_bin rd_add (rd_int 1) (rd_bin rd_mod (rd_callP (n := 2) (f := f_law_cell) (rd_cons (rd_var 0) (rd_cons (rd_int 0) rd_nil))) (rd_int 6))))
 (rd_seq (rd_if (rd_tst (rd_bin rd_eq (rd_bin rd_mod (rd_bin rd_fdiv (rd_callP (n := 2) (f := f_law_cell) (rd_cons (rd_var 0) (rd_cons (rd_int 0) rd_nil))) (rd_int 6)) (rd_int 8)) (rd_int 1)))
 (rd_set (rd_int 7))
 rd_next)
 (rd_seq (rd_set (rd_bin rd_add (rd_lst (rd_cons (rd_callP (n := 2) (f := f_law_cell) (rd_cons (rd_var 0) (rd_cons (rd_int 1) rd_nil))) rd_nil)) (rd_sl (rd_var 0) (rd_part (rd_int 3)) (rd_part (rd_int 8)))))
 (rd_seq (rd_set (rd_callO (n := 1) (f := f_law_bag) (rd_cons (rd_callP (n := 2) (f := f_law_cell) (rd_cons (rd_var 0) (rd_cons (rd_int 2) rd_nil))) rd_nil)))
 (rd_seq (rd_set (rd_bin rd_lt (rd_callS (n := 2) (f := f_law_draw) (rd_cons (rd_var 3) (rd_cons (rd_int 4) rd_nil))) (rd_int 3)))
 (rd_seq (rd_set (rd_callP (n := 4) (f := f_law_closed) (rd_cons (rd_var 2) (rd_cons (rd_callS (n := 2) (f := f_law_fit) (rd_cons (rd_var 3) (rd_cons (rd_var 1) rd_nil))) (rd_cons (rd_callB rd_len (rd_cons (rd_sl (rd_var 0) (rd_part (rd_int 3)) (rd_part (rd_int 8))) rd_nil)) (rd_cons (rd_bin rd_ix (rd_lst (rd_cons (rd_int 4) (rd_cons (rd_bin rd_pow (rd_int 10) (rd_int 9)) rd_nil))) (rd_bin rd_mul (rd_callB rd_intOf (rd_cons (rd_bin rd_lt (rd_var 1) (rd_int 5)) rd_nil)) (rd_callS (n := 2) (f := f_law_draw) (rd_cons (rd_var 3) (rd_cons (rd_int 2) rd_nil))))) rd_nil))))))
 (rd_seq (rd_set (rd_callS (n := 2) (f := f_law_draw) (rd_cons (rd_var 3) (rd_cons (rd_var 1) rd_nil))))
 (rd_seq (rd_if (rd_not (rd_tB (rd_var 4)))
 (rd_set (rd_comp (m := 1) (caps := [1]) (rd_list (rd_sl (rd_var 0) (rd_part (rd_int 3)) (rd_part (rd_int 8)))) (rd_gname 0) rd_true (rd_callP (n := 3) (f := f_law_free) (rd_cons (rd_var 0) (rd_cons (rd_var 1) (rd_cons (rd_bin rd_ix (rd_lst (rd_cons (rd_int 4) (rd_cons (rd_bin rd_pow (rd_int 10) (rd_int 9)) rd_nil))) (rd_callB rd_intOf (rd_cons (rd_bin rd_lt (rd_var 1) (rd_int 5)) rd_nil))) rd_nil))))))
 rd_next)
 (rd_seq (rd_set (rd_callP (n := 2) (f := f_law_turned) (rd_cons (rd_var 5) (rd_cons (rd_var 6) rd_nil))))
 (rd_seq (rd_set (rd_comp (m := 1) (caps := []) (rd_list (rd_var 5)) (rd_gname 0) rd_true (rd_callB rd_listF (rd_cons (rd_var 0) rd_nil))))
 (rd_seq (rd_set (rd_callO (n := 2) (f := f_lone) (rd_cons (rd_var 8) (rd_cons (rd_var 1) rd_nil))))
 (rd_seq (rd_if (rd_or (rd_not (rd_tB (rd_isi ty_list (rd_var 9)))) (rd_or (rd_tst (rd_bin rd_ne (rd_var 8) (rd_var 5))) (rd_and (rd_tB (rd_var 4)) (rd_tst (rd_bin rd_eq (rd_callB rd_len (rd_cons (rd_var 9) rd_nil)) (rd_int 0))))))
 (rd_ret (rd_bl false))
 rd_next)
 (rd_seq (rd_if (rd_or (rd_not (rd_tB (rd_callB rd_all (rd_cons (rd_comp (m := 1) (caps := [1, 5]) (rd_list (rd_var 9)) (rd_gname 0) rd_true (rd_callV (n := 3) (f := f_law_is_lone) (rd_cons (rd_var 0) (rd_cons (rd_var 2) (rd_cons (rd_var 1) rd_nil))))) rd_nil)))) (rd_or (rd_tst (rd_bin rd_ne (rd_sortF (rd_var 9)) (rd_var 9))) (rd_not (rd_tB (rd_callV (n := 1) (f := f_law_apart) (rd_cons (rd_var 9) rd_nil))))))
 (rd_ret (rd_bl false))
 rd_next)
 (rd_seq (rd_set (rd_comp (m := 1) (caps := []) (rd_list (rd_var 9)) (rd_gname 0) rd_true (rd_callB rd_listF (rd_cons (rd_var 0) rd_nil))))
 (rd_seq (rd_for (rd_list (rd_var 9)) (rd_gname 7)
 (rd_drop (rd_app (rd_var 7) (rd_int 1))))
 (rd_seq (rd_drop (rd_clear (rd_var 9)))
 (rd_ret (rd_bin rd_eq (rd_frz (rd_callO (n := 2) (f := f_lone) (rd_cons (rd_var 8) (rd_cons (rd_var 1) rd_nil)))) (rd_var 10)))))))))))))))))))⟩
end
end Lk17
set_option maxRecDepth 100000
set_option maxHeartbeats 4000000
namespace Lk17
open PySem PySem.Spec PyProof.Rows L2 M
theorem mot (a b : Int) : f_measure_of_two [.int a, .int b] [] = .ok (.int (Int.gcd a b : Nat), []) := gcdNe_run a b
theorem measure_ok (ns : List Int) : f_measure [vI ns] [] = .ok (.int (gcdL ns : Nat), []) := by
  obtain ⟨s', e, c, x, h1, h2⟩ := forGo_pre (ok := okC (ns.map D.int) none) (g := nameG 2) (body := b_measure_1)
    (fun pre s => ∃ (ms : List Int) (x : Option D), pre = ms.map D.int ∧ s = ⟨[some (vI ns), some (.int (ms.foldl (fun c n => Nat.gcd c n.natAbs) 0 : Nat)), x], []⟩) (fun _ _ _ => trivial) (ns.map D.int) [] (by
      rintro pre d rest e s ⟨ms, x, rfl, rfl⟩
      have hd : d ∈ ns.map D.int := by rw [List.nil_append] at e; rw [e]; simp
      obtain ⟨m, _, rfl⟩ := List.mem_map.mp hd
      refine ⟨_, _, rfl, .inl ?_, ms ++ [m], some (.int m), by simp, rfl⟩
      simp [b_measure_1, mot, Int.gcd]) ⟨[some (vI ns), some (.int 0), none], []⟩ ⟨[], none, rfl, rfl⟩
  rw [List.nil_append] at h1
  have hc : c = ns := (List.map_inj_right (fun a b h => by cases h; rfl)).mp h1.symm
  subst hc
  have hf := forS_of (im := listI (varM 0)) (g := nameG 2) (body := b_measure_1) (s := ⟨[some (vI c), some (.int 0), none], []⟩) (ds := c.map D.int) (k := none) (s1 := ⟨[some (vI c), some (.int 0), none], []⟩) (by simp)
  rw [e] at hf
  have q := runM_ret (n := 3) (m := m_measure) (ds := [vI c]) (O := []) (d := .int (gcdL c : Nat)) (s := s') (by
    show m_measure ⟨[some (vI c), none, none], []⟩ = _
    rw [m_measure, seqM_ev]
    rw [show setM 1 (cstM (.int 0)) ⟨[some (vI c), none, none], []⟩ = .next ⟨[some (vI c), some (.int 0), none], []⟩ by simp]
    rw [then_next, seqM_ev, hf, then_next, h2]
    simp [gcdL])
  rw [h2] at q
  exact q
theorem sop_ok {a b : List Int} (hl : a.length ≤ 1000000) (hm : ∀ p ∈ a.zip b, IntMulOk p.1 p.2) : f_sum_of_products [vI a, vI b] [] = .ok (.int (dotL a b), []) := by
  have hz : (a.zip b).length ≤ 1000000 := by rw [List.length_zip]; omega
  have hc := compF2 (l := a.zip b) (f := fun p => .int p.1) (g := fun p => .int p.2) (out := fun p => .int (p.1 * p.2)) (caps := []) (im := zipI (consM (varM 0) (consM (varM 1) nilM))) (e := binM mulD (varM 0) (varM 1)) (k := none) (s := ⟨[some (vI a), some (vI b)], []⟩) (by simp [zipD_ints]) trivial (by omega) (fun p hp => by
    simp [mulD_int (hm p hp)])
  rw [show (a.zip b).map (fun p => D.int (p.1 * p.2)) = (List.zipWith (· * ·) a b).map D.int by rw [← zip_mul]; simp] at hc
  refine runM_ret (s := ⟨[some (vI a), some (vI b)], []⟩) ?_
  show m_sum_of_products ⟨[some (vI a), some (vI b)], []⟩ = _
  rw [m_sum_of_products]
  refine retM_eq ?_
  rw [calM_ev, consM_ev, hc, bind_ok, nilM_ev, bind_ok, bind_ok]
  dsimp only
  rw [sumD_ints, bind_ok]
  rfl
theorem lowest_st (ns : List Int) (hl : ns.length ≤ 1000000) : f_lowest [vI ns] [] = .ok (.ptr 0, [.lst ((low ns).map D.int)]) := by
  have e1 : setM 1 (callP 1 f_measure (consM (varM 0) nilM)) ⟨[some (vI ns), none], []⟩ = .next ⟨[some (vI ns), some (.int (gcdL ns : Nat))], []⟩ := x_set (callP_eq (x_cons (varM_ev rfl) (nilM_ev _)) (pureDs1 _) rfl (measure_ok ns) (by simp)) rfl
  by_cases h : gcdL ns = 0
  · refine q_run (R := [some (vI ns), some (.int (gcdL ns : Nat))]) ?_
    show m_lowest ⟨[some (vI ns), none], []⟩ = _
    rw [m_lowest]
    refine q_seq e1 (seqM_ret (q_ifT (eq_test (varM_ev rfl)) (decide_eq_true (by omega)) (retM_eq (x_listC (varM_ev rfl) (seqOf_lst _ _) rfl ?_))))
    rw [show low ns = ns by unfold low; rw [if_pos h]]
    rfl
  · have hc := compC1 (l := ns) (item := D.int) (out := fun n => .int (n / (gcdL ns : Int))) (caps := [1]) (im := listI (varM 0)) (e := binM fdivD (varM 0) (varM 1)) (k := none) (s := ⟨[some (vI ns), some (.int (gcdL ns : Nat))], []⟩) (by simp) trivial (by omega) (fun a _ => by
      simp [fdivD_int (show (gcdL ns : Int) ≠ 0 by omega), fdiv_pos (show (0 : Int) < gcdL ns by omega)])
    refine q_run (R := [some (vI ns), some (.int (gcdL ns : Nat))]) ?_
    show m_lowest ⟨[some (vI ns), none], []⟩ = _
    rw [m_lowest]
    refine q_seq e1 (q_seq (q_ifF (eq_test (varM_ev rfl)) (decide_eq_false (by omega)) (skipM_ev _)) (retM_eq (hc.trans ?_)))
    rw [show (low ns).map D.int = ns.map fun n => .int (n / (gcdL ns : Int)) by unfold low; rw [if_neg h, List.map_map]; rfl]
    rfl
theorem offset_st {one other : List Int} {v w : Int} (hl : one.length ≤ 1000000) (h1 : ∀ a ∈ one, IntMulOk a w) (h2 : ∀ b ∈ other, IntMulOk b v) : f_offset [vI one, .int v, vI other, .int w] [] = .ok (.ptr 0, [.lst ((offL one v other w).map D.int)]) := by
  have hz : (one.zip other).length ≤ 1000000 := by rw [List.length_zip]; omega
  have hc := compF2 (l := one.zip other) (f := fun p => .int p.1) (g := fun p => .int p.2) (out := fun p => .int (p.1 * w - p.2 * v)) (caps := [1, 3]) (im := zipI (consM (varM 0) (consM (varM 2) nilM))) (e := binM subD (binM mulD (varM 0) (varM 3)) (binM mulD (varM 1) (varM 2))) (k := none) (s := ⟨[some (vI one), some (.int v), some (vI other), some (.int w), none], []⟩) (by simp [zipD_ints]) trivial (by omega) (fun p hp => by
    have hp' := List.of_mem_zip hp
    simp [mulD_int (h1 p.1 hp'.1), mulD_int (h2 p.2 hp'.2)])
  rw [show (one.zip other).map (fun p => D.int (p.1 * w - p.2 * v)) = (mixL one v other w).map D.int by rw [mixL, ← zip_map]; simp] at hc
  have hll : (mixL one v other w).length ≤ 1000000 := by unfold mixL; rw [List.length_zipWith]; omega
  refine q_run (R := [some (vI one), some (.int v), some (vI other), some (.int w), some (vI (mixL one v other w))]) ?_
  show m_offset ⟨[some (vI one), some (.int v), some (vI other), some (.int w), none], []⟩ = _
  rw [m_offset]
  exact q_seq (setM_eq hc) (retM_eq (x_callO (x_cons (varM_ev rfl) (nilM_ev _)) (lowest_st _ hll) (pureDs1 _) rfl (shD_ptr _ _) (by
    simp only [List.map_cons, List.map_nil, List.nil_append, shC_lst, shDs_ints]
    rfl)))
theorem or_nat {O : Store} (a b : Nat) : orD O (.int (a : Int)) (.int (b : Int)) = .ok (.int ((a ||| b : Nat) : Int)) := by
  have e : Builtin.bitOr (a : Int) (b : Int) = ((a ||| b : Nat) : Int) := by
    unfold Builtin.bitOr Builtin.bitAnd Builtin.bitNot
    rw [decide_eq_false (show ¬ (0 : Int) ≤ -(a : Int) - 1 by omega), decide_eq_false (show ¬ (0 : Int) ≤ -(b : Int) - 1 by omega)]
    dsimp only
    rw [show (-(-(a : Int) - 1) - 1).toNat = a by omega, show (-(-(b : Int) - 1) - 1).toNat = b by omega]
    omega
  show Res.ok (D.int (Builtin.bitOr (a : Int) (b : Int))) = _
  rw [e]
theorem among_ok (a b : Nat) : f_is_among [.int (a : Int), .int (b : Int)] [] = .ok (.bl (decide (a ||| b = b)), []) := by
  refine q_run (R := [some (.int (a : Int)), some (.int (b : Int))]) ?_
  show m_is_among ⟨[some (.int (a : Int)), some (.int (b : Int))], []⟩ = _
  rw [m_is_among]
  refine retM_eq (x_bin (x_bin (varM_ev rfl) (varM_ev rfl) (or_nat a b)) (varM_ev rfl) ?_)
  rw [eqD_int]
  congr 3
  rw [eq_iff_iff]
  omega
abbrev vN (l : List Nat) : D := .lst (l.map fun x : Nat => D.int (x : Int))
theorem pure_vN (l : List Nat) : pureDs (l.map fun x : Nat => D.int (x : Int)) = true := by
  induction l with
  | nil => simp
  | cons a l ih => simp [ih]
theorem neigh_ok {a b : Nat} {pl : List Nat} (hl : pl.length ≤ 1000) : f_are_neighbours [.int (a : Int), .int (b : Int), vN pl] [] = .ok (.bl ((pl.filter fun x => decide (x ||| (a ||| b) = a ||| b)).length == 2), []) := by
  have hc := compF1c (l := pl) (item := fun x : Nat => D.int (x : Int)) (out := fun x : Nat => D.int (x : Int)) (p := fun x => decide (x ||| (a ||| b) = a ||| b)) (caps := [3]) (im := listI (varM 2)) (c := tstM (callP 2 f_is_among (consM (varM 0) (consM (varM 1) nilM)))) (e := varM 0) (k := none) (s := ⟨[some (.int (a : Int)), some (.int (b : Int)), some (vN pl), some (.int ((a ||| b : Nat) : Int))], []⟩) (by
    rw [listI_ev, varM_ev (i := 2) rfl, bind_ok]; rfl) trivial (by omega) (fun x _ => x_tst (x_callP (x_cons (varM_ev rfl) (x_cons (varM_ev rfl) (nilM_ev _))) (among_ok x (a ||| b)) (by simp) rfl (by simp))) (fun x _ _ => varM_ev rfl)
  refine q_run (R := [some (.int (a : Int)), some (.int (b : Int)), some (vN pl), some (.int ((a ||| b : Nat) : Int))]) ?_
  show m_are_neighbours ⟨[some (.int (a : Int)), some (.int (b : Int)), some (vN pl), none], []⟩ = _
  rw [m_are_neighbours]
  refine q_seq (x_set (x_bin (varM_ev rfl) (varM_ev rfl) (or_nat a b)) rfl) (retM_eq (x_bin (x_cal (x_cons hc (nilM_ev _)) (lenD_lst _)) (cstM_ev _ _) ?_))
  rw [eqD_int, List.length_map]
  congr 2
  rw [Bool.eq_iff_iff, decide_eq_true_eq, beq_iff_eq]
  omega
theorem places_ok {x : List Int} : f_places_of [vI x] [] = .ok (.int (bitsN x : Nat), []) := by
  have go : ∀ (l : List Int) (b : Nat) (z : Option D), ∃ z', forGo (okC (x.map D.int) none) (nameG 2) b_places_of_1 (l.map D.int) ⟨[some (vI x), some (.int (b : Int)), z], []⟩ = .next ⟨[some (vI x), some (.int ((l.foldl (fun b y => b * 2 + if 0 < y then 1 else 0) b : Nat) : Int)), z'], []⟩ := by
    intro l
    induction l with
    | nil => intro b z; exact ⟨z, by rw [List.map_nil, forGo, if_pos (show okC (x.map D.int) none _ from trivial)]; rfl⟩
    | cons y l ih =>
      intro b z
      obtain ⟨z', e⟩ := ih (b * 2 + if 0 < y then 1 else 0) (some (.int y))
      refine ⟨z', ?_⟩
      rw [List.map_cons, List.foldl_cons]
      refine Eq.trans (forGo_step (s1 := ⟨[some (vI x), some (.int (b : Int)), some (.int y)], []⟩) (s2 := ⟨[some (vI x), some (.int ((b * 2 + if 0 < y then 1 else 0 : Nat) : Int)), some (.int y)], []⟩) trivial rfl ?_) e
      rw [b_places_of_1]
      refine q_seq (x_set (R' := [some (vI x), some (.int ((b : Int) * 2)), some (.int y)]) (x_bin (varM_ev rfl) (cstM_ev _ _) (mulD_int (mul_small (.inr (by decide))))) rfl) ?_
      by_cases hy : 0 < y
      · refine q_ifT (gt_test (varM_ev rfl)) (decide_eq_true hy) (x_set (d := .int ((b * 2 + if 0 < y then 1 else 0 : Nat) : Int)) (R := [some (vI x), some (.int ((b : Int) * 2)), some (.int y)]) (x_bin (varM_ev rfl) (cstM_ev _ _) ?_) rfl)
        rw [addD_int, if_pos hy]
        congr 2
      · refine q_ifF (gt_test (varM_ev rfl)) (decide_eq_false hy) ((skipM_ev _).trans ?_)
        rw [if_neg hy, show ((b * 2 + 0 : Nat) : Int) = (b : Int) * 2 by omega]
  obtain ⟨z', e⟩ := go x 0 none
  refine q_run (R := [some (vI x), some (.int (bitsN x : Nat)), z']) ?_
  show m_places_of ⟨[some (vI x), none, none], []⟩ = _
  rw [m_places_of]
  refine q_seq (x_set (R' := [some (vI x), some (.int ((0 : Nat) : Int)), none]) (cstM_ev _ _) rfl) (q_seq ?_ (retM_eq (varM_ev rfl)))
  exact (forS_of (im := listI (varM 0)) (ds := x.map D.int) (k := none) (s1 := ⟨[some (vI x), some (.int ((0 : Nat) : Int)), none], []⟩) (by rw [listI_ev, varM_ev (i := 0) rfl, bind_ok]; rfl)).trans e
theorem ix_of {α : Type} {O : Store} {f : α → D} {l : List α} {i : Nat} {a : α} (h : l[i]? = some a) : ixD O (.lst (l.map f)) (.int (i : Int)) = .ok (f a) := by
  have hi : i < l.length := by
    by_cases z : i < l.length
    · exact z
    · rw [List.getElem?_eq_none (by omega)] at h; cases h
  refine ixD_lst ?_
  rw [atI_nat' (by simpa using hi)]
  rw [List.getElem?_eq_getElem hi] at h
  cases h
  simp
structure Wrk (n : Nat) (L : List (Nat × List Int)) (row : List Int) (b : Nat) : Prop where
  len : ∀ p ∈ L, p.2.length = n
  nn : ∀ p ∈ L, ∀ i, 0 ≤ nth p.2 i
  few : L.length < 64
  rl : row.length = n
  n7 : n ≤ 1000
  sz : SzLL b (L.map (·.2))
  rz : SzL b row
  bb : 2 * b + 20 ≤ 60000000
theorem Wrk.dz {n : Nat} {L : List (Nat × List Int)} {row : List Int} {b : Nat} (h : Wrk n L row b) {p : Nat × List Int} (hp : p ∈ L) : Sz (b + b + 10) (dotL row p.2) := dot_sz h.rz (h.sz _ (List.mem_map_of_mem hp)) (by rw [h.rl]; exact h.n7)
theorem nb_eq {n : Nat} {L : List (Nat × List Int)} {row : List Int} {b : Nat} (h : Wrk n L row b) {p q : Nat × List Int} (hp : p ∈ L) (hq : q ∈ L) : (((L.map fun x => bitsN x.2).filter fun x => decide (x ||| (bitsN p.2 ||| bitsN q.2) = bitsN p.2 ||| bitsN q.2)).length == 2) = nbB n (L.map (·.2)) p.2 q.2 := by
  unfold nbB
  rw [List.filter_map, List.length_map, List.filter_map, List.length_map]
  congr 2
  refine List.filter_congr fun x hx => ?_
  show decide (bitsN x.2 ||| (bitsN p.2 ||| bitsN q.2) = bitsN p.2 ||| bitsN q.2) = subB n x.2 p.2 q.2
  exact bits_sub (h.len x hx) (h.len p hp) (h.len q hq) (h.nn x hx) (h.nn p hp) (h.nn q hq)
structure Iv (L T : List (Nat × List Int)) (t : Nat) (O : Store) : Prop where
  told : O[t]? = some (.lst (ptrs T))
  l : Sto O L
  s : Sto O T
  tn : ∀ p ∈ T, p.1 ≠ t
  ln : ∀ p ∈ L, p.1 ≠ t
abbrev mR (L : List (Nat × List Int)) (row : List Int) (t : Nat) (ab bl : List Nat) (x7 x8 : Option D) : List (Option D) := [some (.lst (ptrs L)), some (vI row), some (.lst (L.map fun p => .int (dotL row p.2))), some (vN (L.map fun p => bitsN p.2)), some (.ptr t), some (vN ab), some (vN bl), x7, x8]
theorem low_go {n : Nat} {L : List (Nat × List Int)} {row : List Int} {b t : Nat} {ab bl : List Nat} (h : Wrk n L row b) {qh : (Nat × List Int) × Nat} (hh : L[qh.2]? = some qh.1) (K : List D) : ∀ (Bs : List ((Nat × List Int) × Nat)) (T : List (Nat × List Int)) (O : Store) (x8 : Option D), (∀ q ∈ Bs, L[q.2]? = some q.1) → T.length + Bs.length ≤ 100000 → Iv L T t O →
    ∃ T' O' y8, forGo (okC K none) (nameG 8) b_lone_by_one_more_1 (Bs.map fun q => D.int (q.2 : Int)) ⟨mR L row t ab bl (some (.int (qh.2 : Int))) x8, O⟩ = .next ⟨mR L row t ab bl (some (.int (qh.2 : Int))) y8, O'⟩ ∧ Iv L T' t O' ∧ T'.length ≤ T.length + Bs.length ∧
      T'.map (·.2) = T.map (·.2) ++ ((Bs.filter fun q => nbB n (L.map (·.2)) qh.1.2 q.1.2).map fun q => offL q.1.2 (dotL row q.1.2) qh.1.2 (dotL row qh.1.2))
  | [], T, O, x8, _, _, iv => ⟨T, O, x8, by rw [List.map_nil, forGo, if_pos (show okC K none _ from trivial)], iv, by simp, by simp⟩
  | q :: Bs, T, O, x8, hb, hl, iv => by
    have hq := hb q List.mem_cons_self
    have mh : qh.1 ∈ L := List.mem_of_getElem? hh
    have mq : q.1 ∈ L := List.mem_of_getElem? hq
    have hb' := fun z hz => hb z (List.mem_cons_of_mem _ hz)
    rw [List.length_cons] at hl
    have tst : tstM (callP 3 f_are_neighbours (consM (binM ixD (varM 3) (varM 7)) (consM (binM ixD (varM 3) (varM 8)) (consM (varM 3) nilM)))) ⟨mR L row t ab bl (some (.int (qh.2 : Int))) (some (.int (q.2 : Int))), O⟩ = .ok (nbB n (L.map (·.2)) qh.1.2 q.1.2, ⟨mR L row t ab bl (some (.int (qh.2 : Int))) (some (.int (q.2 : Int))), O⟩) := by
      rw [← nb_eq h mh mq]
      refine x_tst (x_callP (x_cons (x_bin (varM_ev rfl) (varM_ev rfl) (ix_of (f := fun x : Nat => D.int (x : Int)) (l := L.map fun p => bitsN p.2) (a := bitsN qh.1.2) (by rw [List.getElem?_map, hh]; rfl))) (x_cons (x_bin (varM_ev rfl) (varM_ev rfl) (ix_of (f := fun x : Nat => D.int (x : Int)) (l := L.map fun p => bitsN p.2) (a := bitsN q.1.2) (by rw [List.getElem?_map, hq]; rfl))) (x_cons (varM_ev rfl) (nilM_ev _)))) (neigh_ok (by rw [List.length_map]; have := h.few; omega)) ?_ rfl (by simp))
      rw [pureDs_cons, pureDs_cons, pureDs_cons, pureDs_nil, pureD_int, pureD_int, pureD_lst, pure_vN]; rfl
    rw [List.map_cons]
    cases hn : nbB n (L.map (·.2)) qh.1.2 q.1.2 with
    | false =>
      obtain ⟨T', O', y8, e, a1, a2, a3⟩ := low_go h hh K Bs T O (some (.int (q.2 : Int))) hb' (by omega) iv
      refine ⟨T', O', y8, ?_, a1, by rw [List.length_cons]; omega, by rw [a3, List.filter_cons_of_neg (by rw [hn]; decide)]⟩
      refine Eq.trans (forGo_step (s1 := ⟨mR L row t ab bl (some (.int (qh.2 : Int))) (some (.int (q.2 : Int))), O⟩) (s2 := ⟨mR L row t ab bl (some (.int (qh.2 : Int))) (some (.int (q.2 : Int))), O⟩) trivial rfl ?_) e
      rw [b_lone_by_one_more_1]
      exact q_ifF tst hn (skipM_ev _)
    | true =>
      have zq := h.sz _ (List.mem_map_of_mem (f := (·.2)) mq)
      have zh := h.sz _ (List.mem_map_of_mem (f := (·.2)) mh)
      have off := offset_st (one := q.1.2) (other := qh.1.2) (v := dotL row q.1.2) (w := dotL row qh.1.2) (by rw [h.len _ mq]; have := h.n7; omega) (fun a ha => mul_ok (by have := h.bb; omega) (by have := h.bb; omega) (zq a ha) (h.dz mh)) (fun a ha => mul_ok (by have := h.bb; omega) (by have := h.bb; omega) (zh a ha) (h.dz mq))
      have call : callN 4 f_offset (consM (binM ixD (varM 0) (varM 8)) (consM (binM ixD (varM 2) (varM 8)) (consM (binM ixD (varM 0) (varM 7)) (consM (binM ixD (varM 2) (varM 7)) nilM)))) ⟨mR L row t ab bl (some (.int (qh.2 : Int))) (some (.int (q.2 : Int))), O⟩ = .ok (.ptr O.length, ⟨mR L row t ab bl (some (.int (qh.2 : Int))) (some (.int (q.2 : Int))), O ++ [.lst ((offL q.1.2 (dotL row q.1.2) qh.1.2 (dotL row qh.1.2)).map D.int)]⟩) := by
        refine x_callN (x_cons (x_bin (varM_ev rfl) (varM_ev rfl) (ix_of (f := fun p : Nat × List Int => D.ptr p.1) hq)) (x_cons (x_bin (varM_ev rfl) (varM_ev rfl) (ix_of (f := fun p : Nat × List Int => D.int (dotL row p.2)) hq)) (x_cons (x_bin (varM_ev rfl) (varM_ev rfl) (ix_of (f := fun p : Nat × List Int => D.ptr p.1) hh)) (x_cons (x_bin (varM_ev rfl) (varM_ev rfl) (ix_of (f := fun p : Nat × List Int => D.int (dotL row p.2)) hh)) (nilM_ev _))))) (rs := [vI q.1.2, .int (dotL row q.1.2), vI qh.1.2, .int (dotL row qh.1.2)]) ?_ off (by simp) rfl rfl ?_ (shD_ptr _ _) ?_
        · simp only [ress_cons, ress_nil, res_ptr (iv.l _ mq), res_ptr (iv.l _ mh), res_int, res_lst, ress_ints']
        · simp [flatC, flatD]
        · simp
      have iv' : Iv L (T ++ [(O.length, offL q.1.2 (dotL row q.1.2) qh.1.2 (dotL row qh.1.2))]) t ((O ++ [Cell.lst ((offL q.1.2 (dotL row q.1.2) qh.1.2 (dotL row qh.1.2)).map D.int)]).set t (Cell.lst (ptrs T ++ [D.ptr O.length]))) := by
        have tl := get_lt iv.told
        have told' : (O ++ [Cell.lst ((offL q.1.2 (dotL row q.1.2) qh.1.2 (dotL row qh.1.2)).map D.int)])[t]? = some (.lst (ptrs T)) := get_app_l iv.told
        refine ⟨by rw [get_set_eq told']; simp [ptrs], (iv.l.app _).set iv.ln _, fun p hp => ?_, fun p hp => ?_, iv.ln⟩
        · rcases List.mem_append.mp hp with hp | hp
          · exact ((iv.s.app _).set iv.tn _) p hp
          · rw [List.mem_singleton.mp hp]
            dsimp only
            rw [get_set_ne (by omega)]
            simp
        · rcases List.mem_append.mp hp with hp | hp
          · exact iv.tn p hp
          · rw [List.mem_singleton.mp hp]; dsimp only; omega
      obtain ⟨T', O', y8, e, a1, a2, a3⟩ := low_go h hh K Bs (T ++ [(O.length, offL q.1.2 (dotL row q.1.2) qh.1.2 (dotL row qh.1.2))]) _ (some (.int (q.2 : Int))) hb' (by rw [List.length_append, List.length_singleton]; omega) iv'
      refine ⟨T', O', y8, ?_, a1, by rw [List.length_append, List.length_singleton] at a2; rw [List.length_cons]; omega, by rw [a3, List.filter_cons_of_pos (p := fun q : (Nat × List Int) × Nat => nbB n (L.map (·.2)) qh.1.2 q.1.2) (a := q) (l := Bs) hn, List.map_append, List.map_cons, List.append_assoc]; rfl⟩
      refine Eq.trans (forGo_step (s1 := ⟨mR L row t ab bl (some (.int (qh.2 : Int))) (some (.int (q.2 : Int))), O⟩) (s2 := ⟨mR L row t ab bl (some (.int (qh.2 : Int))) (some (.int (q.2 : Int))), (O ++ [Cell.lst ((offL q.1.2 (dotL row q.1.2) qh.1.2 (dotL row qh.1.2)).map D.int)]).set t (Cell.lst (ptrs T ++ [D.ptr O.length]))⟩) trivial rfl ?_) e
      rw [b_lone_by_one_more_1]
      exact q_ifT tst hn (dropM_eq (x_app (varM_ev rfl) iv.told call (get_app_l iv.told) (by rw [List.length_map]; omega) rfl))
theorem high_go {n : Nat} {L : List (Nat × List Int)} {row : List Int} {b t : Nat} {ab : List Nat} {Bs : List ((Nat × List Int) × Nat)} (h : Wrk n L row b) (hB : ∀ q ∈ Bs, L[q.2]? = some q.1) (hBl : Bs.length ≤ 64) (K : List D) : ∀ (As : List ((Nat × List Int) × Nat)) (T : List (Nat × List Int)) (O : Store) (x7 x8 : Option D), (∀ q ∈ As, L[q.2]? = some q.1) → T.length + As.length * 64 ≤ 10000 → Iv L T t O →
    ∃ T' O' y7 y8, forGo (okC K none) (nameG 7) b_lone_by_one_more_2 (As.map fun q => D.int (q.2 : Int)) ⟨mR L row t ab (Bs.map (·.2)) x7 x8, O⟩ = .next ⟨mR L row t ab (Bs.map (·.2)) y7 y8, O'⟩ ∧ Iv L T' t O' ∧
      T'.map (·.2) = T.map (·.2) ++ As.flatMap fun a => (Bs.filter fun q => nbB n (L.map (·.2)) a.1.2 q.1.2).map fun q => offL q.1.2 (dotL row q.1.2) a.1.2 (dotL row a.1.2)
  | [], T, O, x7, x8, _, _, iv => ⟨T, O, x7, x8, by rw [List.map_nil, forGo, if_pos (show okC K none _ from trivial)], iv, by simp⟩
  | a :: As, T, O, x7, x8, hA, hl, iv => by
    rw [List.length_cons] at hl
    obtain ⟨T1, O1, y8, e1, i1, l1, m1⟩ := low_go (ab := ab) (bl := Bs.map (·.2)) h (hA a List.mem_cons_self) ((Bs.map (·.2)).map fun x : Nat => D.int (x : Int)) Bs T O x8 hB (by omega) iv
    obtain ⟨T2, O2, z7, z8, e2, i2, m2⟩ := high_go (ab := ab) h hB hBl K As T1 O1 (some (.int (a.2 : Int))) y8 (fun q hq => hA q (List.mem_cons_of_mem _ hq)) (by omega) i1
    refine ⟨T2, O2, z7, z8, ?_, i2, by rw [m2, m1, List.flatMap_cons, List.append_assoc]⟩
    rw [List.map_cons]
    refine Eq.trans (forGo_step (s1 := ⟨mR L row t ab (Bs.map (·.2)) (some (.int (a.2 : Int))) x8, O⟩) (s2 := ⟨mR L row t ab (Bs.map (·.2)) (some (.int (a.2 : Int))) y8, O1⟩) trivial rfl ?_) e2
    rw [b_lone_by_one_more_2]
    refine (forS_of (im := listI (varM 6)) (ds := (Bs.map (·.2)).map fun x : Nat => D.int (x : Int)) (k := none) (s1 := ⟨mR L row t ab (Bs.map (·.2)) (some (.int (a.2 : Int))) x8, O⟩) (by rw [listI_ev, varM_ev (i := 6) rfl, bind_ok]; rfl)).trans ?_
    rw [List.map_map] at e1 ⊢
    exact e1
theorem compC2c {α : Type} {caps : List Nat} {im : IM} {c : TM} {e : EM} {s : S} {k : Option Nat} {l : List α} {p : α → Bool} {out : α → D} {f g : α → D} (him : im s = .ok ((l.map (fun a => D.tup [f a, g a]), k), s)) (hok : okC (l.map (fun a => D.tup [f a, g a])) k s.o) (hl : l.length ≤ 16777216)
    (hc : ∀ a ∈ l, c ⟨some (f a) :: some (g a) :: caps.map (fun i => (s.r[i]?).getD none), s.o⟩ = .ok (p a, ⟨some (f a) :: some (g a) :: caps.map (fun i => (s.r[i]?).getD none), s.o⟩))
    (he : ∀ a ∈ l, p a = true → e ⟨some (f a) :: some (g a) :: caps.map (fun i => (s.r[i]?).getD none), s.o⟩ = .ok (out a, ⟨some (f a) :: some (g a) :: caps.map (fun i => (s.r[i]?).getD none), s.o⟩)) :
    compC 2 caps im (tupG (consG (nameG 0) (consG (nameG 1) nilG)) 2) c e s = .ok (.ptr s.o.length, ⟨s.r, s.o ++ [.lst ((l.filter p).map out)]⟩) := by
  rw [compC_ev, compM2 him hok hl hc he, bind_ok]
theorem zip_self {α : Type} (f g : α → D) : ∀ l : List α, zipD (l.map f) (l.map g) = l.map fun a => .tup [f a, g a] := fun l => by
  unfold zipD
  rw [List.zipWith_map, List.zipWith_self]
theorem filt_fst {α : Type} (p : α → Bool) (l : List α) : (l.zipIdx.filter fun q => p q.1).map (·.1) = l.filter p := by
  have h : (l.zipIdx.map (·.1)) = l := by simp
  conv => rhs; rw [← h, List.filter_map]
  rfl
theorem more_ok {n : Nat} {L : List (Nat × List Int)} {row : List Int} {b : Nat} {O : Store} (h : Wrk n L row b) (hs : Sto O L) : ∃ L' O', f_lone_by_one_more [.lst (ptrs L), vI row] O = .ok (.lst (ptrs L'), O') ∧ L'.map (·.2) = loneStep n (L.map (·.2)) row ∧ Sto O' L' := by
  have few := h.few
  have dz : ∀ p ∈ L, f_sum_of_products [vI row, vI p.2] [] = .ok (.int (dotL row p.2), []) := fun p hp => sop_ok (by rw [h.rl]; have := h.n7; omega) fun q hq => mul_ok (by have := h.bb; omega) (by have := h.bb; omega) (h.rz _ (List.of_mem_zip hq).1) (h.sz _ (List.mem_map_of_mem hp) _ (List.of_mem_zip hq).2)
  have v2 := compF1 (l := L) (item := fun p => .ptr p.1) (out := fun p => .int (dotL row p.2)) (caps := [1]) (im := listI (varM 0)) (e := callV 2 f_sum_of_products (consM (varM 1) (consM (varM 0) nilM))) (k := none) (s := ⟨[some (.lst (ptrs L)), some (vI row), none, none, none, none, none, none, none], O⟩) (by rw [listI_ev, varM_ev (i := 0) rfl, bind_ok]; rfl) trivial (by omega)
    (fun p hp => x_callV (x_cons (varM_ev rfl) (x_cons (varM_ev rfl) (nilM_ev _))) (rs := [vI row, vI p.2]) (by simp only [ress_cons, ress_nil, res_ptr (hs p hp), res_lst, ress_ints']) (dz p hp) (by simp) rfl rfl)
  have v3 := compF1 (l := L) (item := fun p => .ptr p.1) (out := fun p => .int (bitsN p.2 : Nat)) (caps := []) (im := listI (varM 0)) (e := callV 1 f_places_of (consM (varM 0) nilM)) (k := none) (s := ⟨[some (.lst (ptrs L)), some (vI row), some (.lst (L.map fun p => .int (dotL row p.2))), none, none, none, none, none, none], O⟩) (by rw [listI_ev, varM_ev (i := 0) rfl, bind_ok]; rfl) trivial (by omega)
    (fun p hp => x_callV (x_cons (varM_ev rfl) (nilM_ev _)) (rs := [vI p.2]) (by simp only [ress_cons, ress_nil, res_ptr (hs p hp), res_lst, ress_ints']) places_ok (by simp) rfl rfl)
  rw [show (L.map fun p => D.int (bitsN p.2 : Nat)) = (L.map fun p => bitsN p.2).map (fun x : Nat => D.int (x : Int)) by rw [List.map_map]; rfl] at v3
  have v4 := compC2c (l := L) (f := fun p => .ptr p.1) (g := fun p => .int (dotL row p.2)) (p := fun p => decide (dotL row p.2 = 0)) (out := fun p => .ptr p.1) (caps := []) (im := zipI (consM (varM 0) (consM (varM 2) nilM))) (c := tstM (binM eqD (varM 1) (cstM (.int 0)))) (e := varM 0) (k := none) (s := ⟨[some (.lst (ptrs L)), some (vI row), some (.lst (L.map fun p => .int (dotL row p.2))), some (vN (L.map fun p => bitsN p.2)), none, none, none, none, none], O⟩) (by
    rw [zipI_ev, consM_ev, varM_ev (i := 0) rfl, bind_ok]
    dsimp only
    rw [consM_ev, varM_ev (i := 2) rfl, bind_ok]
    dsimp only
    rw [nilM_ev, bind_ok, bind_ok, bind_ok]
    dsimp only
    rw [zip_self]) trivial (by omega) (fun p _ => x_tst (x_bin (varM_ev rfl) (cstM_ev _ _) (eqD_int _ _))) (fun p _ _ => varM_ev rfl)
  have enum : ∀ (R : List (Option D)) (P : Store), R[2]? = some (some (.lst (L.map fun p => .int (dotL row p.2)))) → enumerateI (consM (varM 2) nilM) ⟨R, P⟩ = .ok ((L.zipIdx.map fun q => D.tup [.int (q.2 : Int), .int (dotL row q.1.2)], none), ⟨R, P⟩) := fun R P hR => by
    rw [enumerateI_ev, consM_ev, varM_ev (i := 2) hR, bind_ok]
    dsimp only
    rw [nilM_ev, bind_ok, bind_ok]
    dsimp only
    rw [show enumD (L.map fun p => D.int (dotL row p.2)) = L.zipIdx.map fun q => D.tup [.int (q.2 : Int), .int (dotL row q.1.2)] by
      unfold enumD
      rw [List.mapIdx_eq_zipIdx_map, List.zipIdx_map, List.map_map]
      rfl]
  have zl : L.zipIdx.length = L.length := by simp
  have vn : ∀ Z : List ((Nat × List Int) × Nat), (Z.map fun q => D.int (q.2 : Int)) = (Z.map (·.2)).map fun x : Nat => D.int (x : Int) := fun Z => by rw [List.map_map]; rfl
  have v5 := compF2c (l := L.zipIdx) (f := fun q => .int (q.2 : Int)) (g := fun q => .int (dotL row q.1.2)) (p := fun q => decide (0 < dotL row q.1.2)) (out := fun q => .int (q.2 : Int)) (caps := []) (im := enumerateI (consM (varM 2) nilM)) (c := tstM (binM gtD (varM 1) (cstM (.int 0)))) (e := varM 0) (k := none) (s := ⟨[some (.lst (ptrs L)), some (vI row), some (.lst (L.map fun p => .int (dotL row p.2))), some (vN (L.map fun p => bitsN p.2)), some (.ptr O.length), none, none, none, none], O ++ [.lst ((L.filter fun p => decide (dotL row p.2 = 0)).map fun p => .ptr p.1)]⟩) (enum _ _ rfl) trivial (by omega) (fun q _ => x_tst (x_bin (varM_ev rfl) (cstM_ev _ _) (gtD_int _ _))) (fun q _ _ => varM_ev rfl)
  generalize hA : (L.zipIdx.filter fun q => decide (0 < dotL row q.1.2)) = As at v5
  rw [vn] at v5
  have v6 := compF2c (l := L.zipIdx) (f := fun q => .int (q.2 : Int)) (g := fun q => .int (dotL row q.1.2)) (p := fun q => decide (dotL row q.1.2 < 0)) (out := fun q => .int (q.2 : Int)) (caps := []) (im := enumerateI (consM (varM 2) nilM)) (c := tstM (binM ltD (varM 1) (cstM (.int 0)))) (e := varM 0) (k := none) (s := ⟨[some (.lst (ptrs L)), some (vI row), some (.lst (L.map fun p => .int (dotL row p.2))), some (vN (L.map fun p => bitsN p.2)), some (.ptr O.length), some (vN (As.map (·.2))), none, none, none], O ++ [.lst ((L.filter fun p => decide (dotL row p.2 = 0)).map fun p => .ptr p.1)]⟩) (enum _ _ rfl) trivial (by omega) (fun q _ => x_tst (x_bin (varM_ev rfl) (cstM_ev _ _) (ltD_int _ _))) (fun q _ _ => varM_ev rfl)
  generalize hB : (L.zipIdx.filter fun q => decide (dotL row q.1.2 < 0)) = Bs at v6
  rw [vn] at v6
  have at_ : ∀ q ∈ L.zipIdx, L[q.2]? = some q.1 := fun q hq => List.mem_zipIdx_iff_getElem?.mp hq
  have mA : ∀ q ∈ As, L[q.2]? = some q.1 := fun q hq => at_ q (by rw [← hA] at hq; exact (List.mem_filter.mp hq).1)
  have mB : ∀ q ∈ Bs, L[q.2]? = some q.1 := fun q hq => at_ q (by rw [← hB] at hq; exact (List.mem_filter.mp hq).1)
  have lA : As.length ≤ L.length := by rw [← hA, ← zl]; exact List.length_filter_le _ _
  have lB : Bs.length ≤ L.length := by rw [← hB, ← zl]; exact List.length_filter_le _ _
  have sub : ∀ p ∈ L.filter (fun p => decide (dotL row p.2 = 0)), p ∈ L := fun p hp => (List.mem_filter.mp hp).1
  have lT : (L.filter fun p => decide (dotL row p.2 = 0)).length ≤ L.length := List.length_filter_le _ _
  have iv : Iv L (L.filter fun p => decide (dotL row p.2 = 0)) O.length (O ++ [.lst ((L.filter fun p => decide (dotL row p.2 = 0)).map fun p => .ptr p.1)]) := ⟨by simp, hs.app _, fun p hp => (hs.app _) p (sub p hp), fun p hp => Nat.ne_of_lt (hs.lt (sub p hp)), fun p hp => Nat.ne_of_lt (hs.lt hp)⟩
  obtain ⟨T', O', y7, y8, e7, i7, m7⟩ := high_go (ab := As.map (·.2)) h mB (by omega) ((As.map (·.2)).map fun x : Nat => D.int (x : Int)) As _ _ none none mA (by omega) iv
  refine ⟨T', O'.set O.length .dead, ?_, ?_, i7.s.set i7.tn _⟩
  · refine q_run (R := mR L row O.length (As.map (·.2)) (Bs.map (·.2)) y7 y8) ?_
    show m_lone_by_one_more ⟨[some (.lst (ptrs L)), some (vI row), none, none, none, none, none, none, none], O⟩ = _
    rw [m_lone_by_one_more]
    refine q_seq (x_set v2 rfl) (q_seq (x_set v3 rfl) (q_seq (x_set v4 rfl) (q_seq (x_set v5 rfl) (q_seq (x_set v6 rfl) (q_seq ?_ (retM_eq (x_frz (varM_ev rfl) i7.told rfl)))))))
    refine (forS_of (im := listI (varM 5)) (ds := (As.map (·.2)).map fun x : Nat => D.int (x : Int)) (k := none) (s1 := ⟨mR L row O.length (As.map (·.2)) (Bs.map (·.2)) none none, O ++ [.lst ((L.filter fun p => decide (dotL row p.2 = 0)).map fun p => .ptr p.1)]⟩) (by rw [listI_ev, varM_ev (i := 5) rfl, bind_ok]; rfl)).trans ?_
    rw [← vn]
    exact e7
  · rw [m7]
    unfold loneStep
    rw [List.filter_map, List.filter_map, List.filter_map]
    have eA := filt_fst (fun p : Nat × List Int => decide (0 < dotL row p.2)) L
    have eB := filt_fst (fun p : Nat × List Int => decide (dotL row p.2 < 0)) L
    rw [hA] at eA
    rw [hB] at eB
    show _ = (L.filter fun p => decide (dotL row p.2 = 0)).map (·.2) ++ ((L.filter fun p : Nat × List Int => decide (0 < dotL row p.2)).map (·.2)).flatMap fun h => (((L.filter fun p : Nat × List Int => decide (dotL row p.2 < 0)).map (·.2)).filter fun w => nbB n (L.map (·.2)) h w).map fun w => offL w (dotL row w) h (dotL row h)
    rw [← eA, ← eB]
    congr 1
    rw [List.flatMap_map, List.flatMap_map]
    refine congrArg (fun F => As.flatMap F) (funext fun a => ?_)
    rw [List.map_map, List.filter_map, List.map_map]
    rfl
theorem compF_sto {α : Type} {l : List α} {item : α → D} {f : α → List Int} {T : α → Nat → Prop} {caps : List Nat} {im : IM} {e : EM} {k : Option Nat} {R : List (Option D)} {O : Store} (I : Store → Prop) (hI : ∀ O E, I O → I (O ++ E)) (h0 : I O) (him : im ⟨R, O⟩ = .ok ((l.map item, k), ⟨R, O⟩)) (hok : ∀ O, I O → okC (l.map item) k O) (hl : l.length ≤ 1000000)
    (he : ∀ a ∈ l, ∀ O, I O → ∃ q E, e ⟨some (item a) :: caps.map (fun i => (R[i]?).getD none), O⟩ = .ok (.ptr q, ⟨some (item a) :: caps.map (fun i => (R[i]?).getD none), O ++ E⟩) ∧ (O ++ E)[q]? = some (.lst ((f a).map D.int)) ∧ (T a q ∨ O.length ≤ q)) :
    ∃ (L : List (Nat × List Int)) (E : Store), compF 1 caps im (nameG 0) trueT e ⟨R, O⟩ = .ok (.lst (ptrs L), ⟨R, O ++ E⟩) ∧ L.map (·.2) = l.map f ∧ Sto (O ++ E) L := by
  obtain ⟨L, E, x', e1, e2, e3, e4⟩ := compGo_sto (ok := okC (l.map item) k) (e := e) (cap := caps.map (fun i => (R[i]?).getD none)) (T := T) I hI hok l [] none O h0 (by simp; omega) he
  refine ⟨L, E, ?_, e2, e3⟩
  rw [compF_ev, compM_ev, him, bind_ok]
  dsimp only
  rw [show capM 1 caps R = none :: caps.map (fun i => (R[i]?).getD none) from rfl, e1, bind_ok, bind_ok]
  rfl
theorem unit_st {n a : Nat} (ha : a < n) (hn : n ≤ 1000000) : f_unit [.int (a : Int), .int (n : Int)] [] = .ok (.ptr 0, [.lst ((unitL n a).map D.int)]) := by
  have h1 := setM_eq (i := 2) (Eq.trans (repM0 (fin := finC) (mk := varM 1) (s := ⟨[some (.int (a : Int)), some (.int (n : Int)), none], []⟩) (n := n) (by simp) hn) (finC_ev _ _))
  have h2 : asgM (cstM (.int 1)) (putG (varM 2) (varM 0)) ⟨[some (.int (a : Int)), some (.int (n : Int)), some (.ptr 0)], [.lst ((List.replicate n (0 : Int)).map D.int)]⟩ = .next ⟨[some (.int (a : Int)), some (.int (n : Int)), some (.ptr 0)], [.lst ((unitL n a).map D.int)]⟩ := by
    rw [asgM_ev, cstM_ev, bind_ok, putG_nat (k := 0) (a := a) (ds := (List.replicate n (0 : Int)).map D.int) (s1 := ⟨[some (.int (a : Int)), some (.int (n : Int)), some (.ptr 0)], [.lst ((List.replicate n (0 : Int)).map D.int)]⟩) (s2 := ⟨[some (.int (a : Int)), some (.int (n : Int)), some (.ptr 0)], [.lst ((List.replicate n (0 : Int)).map D.int)]⟩) (by simp) (by simp) rfl (by simpa using ha)]
    simp [unitL, List.map_set]
  refine q_run (R := [some (.int (a : Int)), some (.int (n : Int)), some (.ptr 0)]) ?_
  show m_unit ⟨[some (.int (a : Int)), some (.int (n : Int)), none], []⟩ = _
  rw [m_unit, seqM_eq h1]
  exact q_seq h2 (retM_eq (varM_ev rfl))
theorem units_st {n : Nat} (hn : n ≤ 1000) (O : Store) : ∃ L E, f_units [.int (n : Int)] O = .ok (.lst (ptrs L), O ++ E) ∧ L.map (·.2) = unitsL n ∧ Sto (O ++ E) L := by
  obtain ⟨L, E, e, h1, h2⟩ := compF_sto (l := List.range n) (item := fun i : Nat => D.int (i : Int)) (f := unitL n) (T := fun _ _ => False) (caps := [0]) (im := rng1 (consM (varM 0) nilM)) (e := callO 2 f_unit (consM (varM 0) (consM (varM 1) nilM))) (k := none) (R := [some (.int (n : Int))]) (O := O) (fun _ => True) (fun _ _ _ => trivial) trivial (by
      rw [rng1_nat (n := n) (s1 := ⟨[some (.int (n : Int))], O⟩) (x_cons (varM_ev rfl) (nilM_ev _)) (by omega), rangeD0]) (fun _ _ => trivial) (by rw [List.length_range]; omega) (fun a ha P _ =>
      ⟨P.length, [.lst ((unitL n a).map D.int)], x_callO (x_cons (varM_ev rfl) (x_cons (varM_ev rfl) (nilM_ev _))) (unit_st (List.mem_range.mp ha) (by omega)) (by simp) rfl (shD_ptr _ _) (by simp), by simp, .inr (Nat.le_refl _)⟩)
  refine ⟨L, E, ?_, h1, h2⟩
  refine q_run (R := [some (.int (n : Int))]) ?_
  show m_units ⟨[some (.int (n : Int))], O⟩ = _
  rw [m_units]
  exact retM_eq e
theorem keyed_ptrs {O : Store} : ∀ {L : List (Nat × List Int)}, Sto O L → keyed O (ptrs L) = some (L.map fun p => (.ptr p.1, p.2))
  | [], _ => rfl
  | p :: L, h => by
    have e := keyed_ptrs (L := L) fun q hq => h q (List.mem_cons_of_mem _ hq)
    have c : cellI O (.ptr p.1) = some p.2 := by
      unfold cellI
      rw [lsD_ptr (h p List.mem_cons_self)]
      exact toInts_map _
    show keyed O (.ptr p.1 :: ptrs L) = _
    unfold keyed
    rw [c, e]
    rfl
theorem sort_ptrs (L : List (Nat × List Int)) : (sortK (L.map fun p => (D.ptr p.1, p.2))).map (·.1) = ptrs (sortK L) := by
  rw [sortK_map (g := fun p : Nat × List Int => (D.ptr p.1, p.2)) fun _ => rfl, List.map_map]
  rfl
theorem sort_run {O : Store} {L : List (Nat × List Int)} {fin : S → List D → Res (D × S)} {me : EM} {s s1 : S} {d : D} (he : me s = .ok (d, s1)) (hd : lsD s1.o d = some (ptrs L)) (hs : Sto s1.o L) (hl : L.length < 64) (nd : (L.map (·.2)).Nodup) : sortM fin me s = fin s1 (ptrs (sortK L)) := by
  unfold sortM
  rw [he, bind_ok]
  dsimp only
  rw [hd]
  dsimp only
  rw [keyed_ptrs hs]
  dsimp only
  rw [if_pos ⟨by rw [List.length_map]; exact hl, by rw [List.map_map]; exact nd⟩, sort_ptrs]
def sortV (V : List (List Int)) : List (List Int) := (sortK (V.map fun x => ((), x))).map (·.2)
theorem sort_vals (L : List (Nat × List Int)) : (sortK L).map (·.2) = sortV (L.map (·.2)) := by
  unfold sortV
  rw [List.map_map, show ((fun x : List Int => ((), x)) ∘ fun x : Nat × List Int => x.2) = fun p : Nat × List Int => ((), p.2) from rfl, sortK_map (g := fun p : Nat × List Int => ((), p.2)) fun _ => rfl, List.map_map]
  rfl
theorem units_szL (n : Nat) : SzLL 1 (unitsL n) := fun x hx => by
  unfold unitsL at hx
  obtain ⟨a, _, rfl⟩ := List.mem_map.mp hx
  exact unit_sz n a
structure RowsOk (n : Nat) (rows : List (List Int)) : Prop where
  len : ∀ r ∈ rows, r.length = n
  sz : SzLL 200 rows
  cnt : rows.length ≤ 5
  n7 : n ≤ 7
theorem big : lgrow 200 5 1 ≤ 8000 := by decide
theorem fold_sz' {n : Nat} {rows : List (List Int)} (h : RowsOk n rows) {rs : List (List Int)} (hr : ∀ r ∈ rs, r ∈ rows) (hl : rs.length ≤ 5) : SzLL 8000 (rs.foldl (loneStep n) (unitsL n)) := by
  refine (fold_szL rs 1 _ (fun r hr' => ⟨h.sz r (hr r hr'), by rw [h.len r (hr r hr')]; have := h.n7; omega⟩) (units_szL n)).mono ?_
  exact Nat.le_trans (lgrow_len 200 rs.length 5 1 hl) big
theorem lone_ok {n : Nat} {rows : List (List Int)} (h : RowsOk n rows) : ∃ k O Ls, f_lone [vII rows, .int (n : Int)] [] = .ok (.ptr k, O) ∧ O[k]? = some (.lst (ptrs Ls)) ∧ Sto O Ls ∧ (∀ p ∈ Ls, p.1 ≠ k) ∧ Ls = sortK Ls ∧ Ls.map (·.2) = sortV (loneLs rows n) := by
  have n7 := h.n7
  obtain ⟨L0, E0, e0, m0, s0⟩ := units_st (n := n) (by omega) []
  rw [List.nil_append] at e0 s0
  obtain ⟨s', el, rs, L, O, x3, hpre, hs', sto, ml⟩ := forGo_pre (ok := okC (rows.map vI) none) (g := nameG 3) (body := b_lone_1)
    (fun pre s => ∃ (rs : List (List Int)) (L : List (Nat × List Int)) (O : Store) (x3 : Option D), pre = rs.map vI ∧ s = ⟨[some (vII rows), some (.int (n : Int)), some (.lst (ptrs L)), x3], O⟩ ∧ Sto O L ∧ L.map (·.2) = rs.foldl (loneStep n) (unitsL n)) (fun _ _ _ => trivial) (rows.map vI) [] (by
      rintro pre d rest ed s ⟨rs, L, O, x3, rfl, rfl, sto, ml⟩
      rw [List.nil_append] at ed
      obtain ⟨l1, l2, e1, e2, e3⟩ := List.map_eq_append_iff.mp ed
      cases l2 with
      | nil => cases e3
      | cons r l2 =>
        rw [List.map_cons] at e3
        injection e3 with e3 e4
        subst e3
        have e5 : l1 = rs := (List.map_inj_right (fun a b h => by
          have : a.map D.int = b.map D.int := by injection h
          exact (List.map_inj_right (fun x y q => by cases q; rfl)).mp this)).mp e2
        subst e5
        have inR : ∀ q ∈ l1, q ∈ rows := fun q hq => by rw [e1]; exact List.mem_append_left _ hq
        have rR : r ∈ rows := by rw [e1]; simp
        have k : Know n l1 (loneLs l1 n) := lone_know fun q hq => h.len q (inR q hq)
        have cl : l1.length ≤ 5 := by have := h.cnt; rw [e1, List.length_append] at this; omega
        have mem : ∀ p ∈ L, Lone n l1 p.2 := fun p hp => (k.all p.2).mp (by
          show p.2 ∈ l1.foldl (loneStep n) (unitsL n)
          rw [← ml]; exact List.mem_map_of_mem hp)
        have wk : Wrk n L r 8000 := ⟨fun p hp => (mem p hp).fit.len, fun p hp => (mem p hp).fit.nn, by
          have := k.few n7
          have e : L.length = (loneLs l1 n).length := by show _ = (l1.foldl (loneStep n) (unitsL n)).length; rw [← ml, List.length_map]
          omega, h.len r rR, by omega, by rw [ml]; exact fold_sz' h inR cl, (h.sz r rR).mono (by decide), by decide⟩
        obtain ⟨L', O', e6, m6, s6⟩ := more_ok wk sto
        refine ⟨⟨[some (vII rows), some (.int (n : Int)), some (.lst (ptrs L)), some (vI r)], O⟩, ⟨[some (vII rows), some (.int (n : Int)), some (.lst (ptrs L')), some (vI r)], O'⟩, rfl, .inl ?_, l1 ++ [r], L', O', _, by simp, rfl, s6, by rw [m6, ml, List.foldl_append]; rfl⟩
        rw [b_lone_1]
        exact x_set (x_callS (x_cons (varM_ev rfl) (x_cons (varM_ev rfl) (nilM_ev _))) e6 rfl) rfl) ⟨[some (vII rows), some (.int (n : Int)), some (.lst (ptrs L0)), none], E0⟩ ⟨[], L0, E0, none, rfl, rfl, s0, m0⟩
  rw [List.nil_append] at hpre
  have e5 : rows = rs := (List.map_inj_right (fun a b h => by
    have : a.map D.int = b.map D.int := by injection h
    exact (List.map_inj_right (fun x y q => by cases q; rfl)).mp this)).mp hpre
  subst e5
  subst hs'
  have k : Know n rows (loneLs rows n) := lone_know h.len
  have ml' : L.map (·.2) = loneLs rows n := ml
  have nd : (L.map (·.2)).Nodup := by rw [ml']; exact k.nd
  have few : L.length < 64 := by have := k.few n7; rw [← ml', List.length_map] at this; exact this
  have so : sortM finC (varM 2) ⟨[some (vII rows), some (.int (n : Int)), some (.lst (ptrs L)), x3], O⟩ = .ok (.ptr O.length, ⟨[some (vII rows), some (.int (n : Int)), some (.lst (ptrs L)), x3], O ++ [.lst (ptrs (sortK L))]⟩) := (sort_run (O := O) (fin := finC) (varM_ev rfl) rfl sto few nd).trans (finC_ev _ _)
  have mem : ∀ p ∈ sortK L, p ∈ L := fun p hp => (sortK_perm L).mem_iff.mp hp
  refine ⟨O.length, O ++ [.lst (ptrs (sortK L))], sortK L, ?_, by simp, fun p hp => (sto.app _) p (mem p hp), fun p hp => Nat.ne_of_lt (sto.lt (mem p hp)), ?_, by rw [sort_vals, ml']⟩
  · refine q_run (R := [some (vII rows), some (.int (n : Int)), some (.lst (ptrs L)), x3]) ?_
    show m_lone ⟨[some (vII rows), some (.int (n : Int)), none, none], []⟩ = _
    rw [m_lone]
    refine q_seq (x_set (x_callS (x_cons (varM_ev rfl) (nilM_ev _)) e0 rfl) rfl) (q_seq ?_ (retM_eq so))
    exact (forS_of (im := listI (varM 0)) (ds := rows.map vI) (k := none) (s1 := ⟨[some (vII rows), some (.int (n : Int)), some (.lst (ptrs L0)), none], E0⟩) (by rw [listI_ev, varM_ev (i := 0) rfl, bind_ok]; rfl)).trans el
  · refine weak_one (sortK_perm _).symm ?_ (sortK_weak L) (sortK_weak _)
    exact ((sortK_perm L).map (·.2)).nodup_iff.mpr nd
theorem whole_ok (i : Int) : f_law_whole [.int i] [] = .ok (.bl true, []) := by
  refine runM_ret (s := ⟨[some (.int i)], []⟩) ?_
  simp [m_law_whole]
theorem is_list_ok {ts : List Int} {m : Nat} (h : ts.length = m) (hl : m ≤ 1000) : f_law_is_list [vI ts, .int (m : Int)] [] = .ok (.bl true, []) := by
  have hc := compF1 (l := ts) (item := D.int) (out := fun _ => .bl true) (caps := []) (im := listI (varM 0)) (e := callP 1 f_law_whole (consM (varM 0) nilM)) (k := none) (s := ⟨[some (vI ts), some (.int (m : Int))], []⟩) (by simp) trivial (by omega) (fun x _ =>
    callP_eq (ds := [.int x]) (by simp) (by simp) rfl (whole_ok x) (by simp))
  rw [show ts.map (fun _ => D.bl true) = (ts.map fun _ => true).map D.bl by rw [List.map_map]; rfl] at hc
  refine runM_ret (s := ⟨[some (vI ts), some (.int (m : Int))], []⟩) ?_
  show m_law_is_list ⟨[some (vI ts), some (.int (m : Int))], []⟩ = _
  have e1 : calM allD (consM (compF 1 [] (listI (varM 0)) (nameG 0) trueT (callP 1 f_law_whole (consM (varM 0) nilM))) nilM) ⟨[some (vI ts), some (.int (m : Int))], []⟩ = .ok (.bl true, ⟨[some (vI ts), some (.int (m : Int))], []⟩) := by
    rw [calM_ev, consM_ev, hc, bind_ok, nilM_ev, bind_ok, bind_ok]
    dsimp only
    rw [allD_bls, bind_ok]
    simp
  rw [m_law_is_list]
  refine retM_eq ?_
  rw [andV_ev, show unM (isiD "list") (varM 0) ⟨[some (vI ts), some (.int (m : Int))], []⟩ = .ok (.bl true, ⟨[some (vI ts), some (.int (m : Int))], []⟩) by simp, bind_ok]
  dsimp only
  rw [andV_ev, show binM eqD (calM lenD (consM (varM 0) nilM)) (varM 1) ⟨[some (vI ts), some (.int (m : Int))], []⟩ = .ok (.bl true, ⟨[some (vI ts), some (.int (m : Int))], []⟩) by simp [h], bind_ok]
  exact e1
theorem mea_while : ∀ (n : Nat) (a b : Int) (L z x : Option D) (O : Store), 0 ≤ a → 0 ≤ b → b.natAbs < n → ∃ y, whileGo (tstM (binM gtD (varM 3) (cstM (.int 0)))) b_law_measure_1 n ⟨[L, some (.int a), z, some (.int b), x], O⟩ = .next ⟨[L, some (.int (Nat.gcd a.natAbs b.natAbs : Nat)), z, some (.int 0), y], O⟩
  | 0, _, _, _, _, _, _, _, _, h => by omega
  | n + 1, a, b, L, z, x, O, ha, hb, hn => by
    have t : tstM (binM gtD (varM 3) (cstM (.int 0))) ⟨[L, some (.int a), z, some (.int b), x], O⟩ = .ok (decide (0 < b), ⟨[L, some (.int a), z, some (.int b), x], O⟩) := gt_test (varM_ev rfl)
    rw [whileGo, t, out_ok]
    by_cases h : b = 0
    · subst h
      refine ⟨x, ?_⟩
      have e : ((Nat.gcd a.natAbs (0 : Int).natAbs : Nat) : Int) = a := by
        rw [Int.natAbs_zero, Nat.gcd_zero_right]
        omega
      rw [e]
      rfl
    · have hb' : 0 < b := by omega
      have h1 : 0 ≤ a % b := Int.emod_nonneg a h
      have h2 : a % b < b := Int.emod_lt_of_pos a hb'
      obtain ⟨y, e⟩ := mea_while n b (a % b) L z (some (.int (a % b))) O hb h1 (by omega)
      refine ⟨y, ?_⟩
      have eb : b_law_measure_1 ⟨[L, some (.int a), z, some (.int b), x], O⟩ = .next ⟨[L, some (.int b), z, some (.int (a % b)), some (.int (a % b))], O⟩ := by
        rw [b_law_measure_1]
        exact q_seq (x_set (x_bin (varM_ev rfl) (varM_ev rfl) (modD_pos hb')) rfl) (q_seq (x_set (varM_ev rfl) rfl) (x_set (varM_ev rfl) rfl))
      rw [decide_eq_true hb', if_pos rfl, eb]
      dsimp only
      rw [e]
      have e2 : (a % b).natAbs = a.natAbs % b.natAbs := by
        have : ((a % b).natAbs : Int) = ((a.natAbs % b.natAbs : Nat) : Int) := by
          rw [Int.natAbs_of_nonneg h1, Int.natCast_emod, Int.natAbs_of_nonneg ha, Int.natAbs_of_nonneg hb]
        omega
      rw [e2, show Nat.gcd a.natAbs b.natAbs = Nat.gcd b.natAbs (a.natAbs % b.natAbs) by rw [Nat.gcd_comm a.natAbs, Nat.gcd_rec b.natAbs, Nat.gcd_comm]]
theorem mea_ok (ns : List Int) : f_law_measure [vI ns] [] = .ok (.int (gcdL ns : Nat), []) := by
  obtain ⟨s', e, c, x, y, z, h1, h2⟩ := forGo_pre (ok := okC (ns.map D.int) none) (g := nameG 2) (body := b_law_measure_2)
    (fun pre s => ∃ (ms : List Int) (x y z : Option D), pre = ms.map D.int ∧ s = ⟨[some (vI ns), some (.int (ms.foldl (fun c n => Nat.gcd c n.natAbs) 0 : Nat)), x, y, z], []⟩) (fun _ _ _ => trivial) (ns.map D.int) [] (by
      rintro pre d rest e s ⟨ms, x, y, z, rfl, rfl⟩
      have hd : d ∈ ns.map D.int := by rw [List.nil_append] at e; rw [e]; simp
      obtain ⟨m, _, rfl⟩ := List.mem_map.mp hd
      obtain ⟨w, ew⟩ := mea_while ((m.natAbs : Int).natAbs + 1) (ms.foldl (fun c n => Nat.gcd c n.natAbs) 0 : Nat) (m.natAbs : Int) (some (vI ns)) (some (.int m)) z [] (by omega) (by omega) (by omega)
      refine ⟨⟨[some (vI ns), some (.int (ms.foldl (fun c n => Nat.gcd c n.natAbs) 0 : Nat)), some (.int m), y, z], []⟩, ⟨[some (vI ns), some (.int (Nat.gcd (ms.foldl (fun c n => Nat.gcd c n.natAbs) 0) m.natAbs : Nat)), some (.int m), some (.int 0), w], []⟩, rfl, .inl ?_, ms ++ [m], some (.int m), some (.int 0), w, by simp, by rw [List.foldl_append]; rfl⟩
      rw [b_law_measure_2]
      exact q_seq (x_set (R := [some (vI ns), some (.int (ms.foldl (fun c n => Nat.gcd c n.natAbs) 0 : Nat)), some (.int m), y, z]) (O := []) (x_cal (x_cons (varM_ev rfl) (nilM_ev _)) (absD_int _)) rfl) (by exact ew)) ⟨[some (vI ns), some (.int 0), none, none, none], []⟩ ⟨[], none, none, none, rfl, rfl⟩
  rw [List.nil_append] at h1
  have hc : c = ns := (List.map_inj_right (fun a b h => by cases h; rfl)).mp h1.symm
  subst hc
  have hf := forS_of (im := listI (varM 0)) (g := nameG 2) (body := b_law_measure_2) (s := ⟨[some (vI c), some (.int 0), none, none, none], []⟩) (ds := c.map D.int) (k := none) (s1 := ⟨[some (vI c), some (.int 0), none, none, none], []⟩) (by simp)
  rw [e, h2] at hf
  refine q_run (R := [some (vI c), some (.int (gcdL c : Nat)), x, y, z]) ?_
  show m_law_measure ⟨[some (vI c), none, none, none, none], []⟩ = _
  rw [m_law_measure]
  exact q_seq (x_set (R' := [some (vI c), some (.int 0), none, none, none]) (cstM_ev _ _) rfl) (q_seq hf (retM_eq (varM_ev rfl)))
theorem prod_ok {a b : List Int} (hl : a.length ≤ 1000000) (hm : ∀ p ∈ a.zip b, IntMulOk p.1 p.2) : f_law_product [vI a, vI b] [] = .ok (.int (dotL a b), []) := by
  have hz : (a.zip b).length ≤ 1000000 := by rw [List.length_zip]; omega
  have hc := compF2 (l := a.zip b) (f := fun p => .int p.1) (g := fun p => .int p.2) (out := fun p => .int (p.1 * p.2)) (caps := []) (im := zipI (consM (varM 0) (consM (varM 1) nilM))) (e := binM mulD (varM 0) (varM 1)) (k := none) (s := ⟨[some (vI a), some (vI b)], []⟩) (by simp [zipD_ints]) trivial (by omega) (fun p hp => by
    simp [mulD_int (hm p hp)])
  rw [show (a.zip b).map (fun p => D.int (p.1 * p.2)) = (List.zipWith (· * ·) a b).map D.int by rw [← zip_mul]; simp] at hc
  refine runM_ret (s := ⟨[some (vI a), some (vI b)], []⟩) ?_
  show m_law_product ⟨[some (vI a), some (vI b)], []⟩ = _
  rw [m_law_product]
  refine retM_eq (x_cal (x_cons hc (nilM_ev _)) ?_)
  rw [sumD_ints]
  rfl
theorem minD_nn {x : List Int} {s : S} {me md : EM} {d : D} {e : D} (hm : me s = .ok (d, s)) (hd : md s = .ok (e, s)) (hl : lsD s.o d = some (x.map D.int)) (h0 : 0 < x.length) (hn : ∀ a ∈ x, 0 ≤ a) : ∃ m, minDM me md s = .ok (.int m, s) ∧ 0 ≤ m := by
  cases x with
  | nil => exact absurd h0 (by simp)
  | cons a x =>
    refine ⟨minL a x, ?_, hn _ (minL_mem x a)⟩
    unfold minDM
    rw [hm, bind_ok]
    dsimp only
    rw [hd, bind_ok]
    dsimp only
    have c : cellI s.o d = some (a :: x) := by
      unfold cellI
      rw [hl]
      exact toInts_map _
    rw [c]
theorem fit_nn {n : Nat} {R : List (List Int)} {x : List Int} (f : Fit n R x) : ∀ a ∈ x, 0 ≤ a := fun a ha => by
  obtain ⟨i, hi, rfl⟩ := List.getElem_of_mem ha
  have := f.nn i
  unfold nth at this
  simpa [List.getD_eq_getElem?_getD, List.getElem?_eq_getElem hi] using this
theorem is_lone_ok {n : Nat} {R : List (List Int)} {x : List Int} (l : Lone n R x) (n0 : 0 < n) (n7 : n ≤ 7) (hx : SzL 8000 x) (hR : SzLL 8000 R) (hc : R.length ≤ 1000) (rl : ∀ r ∈ R, r.length = n) : f_law_is_lone [vI x, vII R, .int (n : Int)] [] = .ok (.bl true, []) := by
  have len := l.fit.len
  obtain ⟨m, em, m0⟩ := minD_nn (x := x) (s := ⟨[some (vI x), some (vII R), some (.int (n : Int))], []⟩) (me := varM 0) (md := unM negD (cstM (.int 1))) (varM_ev rfl) (x_un (cstM_ev _ _) (negD_int _)) rfl (by omega) (fit_nn l.fit)
  have c1 : callP 2 f_law_is_list (consM (varM 0) (consM (varM 2) nilM)) ⟨[some (vI x), some (vII R), some (.int (n : Int))], []⟩ = .ok (.bl true, ⟨[some (vI x), some (vII R), some (.int (n : Int))], []⟩) := x_callP (x_cons (varM_ev rfl) (x_cons (varM_ev rfl) (nilM_ev _))) (is_list_ok (m := n) len (by omega)) (by simp) rfl rfl
  have c2 : callP 1 f_law_measure (consM (varM 0) nilM) ⟨[some (vI x), some (vII R), some (.int (n : Int))], []⟩ = .ok (.int (gcdL x : Nat), ⟨[some (vI x), some (vII R), some (.int (n : Int))], []⟩) := x_callP (x_cons (varM_ev rfl) (nilM_ev _)) (mea_ok x) (by simp) rfl rfl
  have hcp := compF1 (l := R) (item := vI) (out := fun _ => .bl true) (caps := [0]) (im := listI (varM 1)) (e := binM eqD (callP 2 f_law_product (consM (varM 0) (consM (varM 1) nilM))) (cstM (.int 0))) (k := none) (s := ⟨[some (vI x), some (vII R), some (.int (n : Int))], []⟩) (by rw [listI_ev, varM_ev (i := 1) rfl, bind_ok]; rfl) trivial (by omega) (fun r hr => by
    have rn := rl r hr
    refine x_bin (x_callP (x_cons (varM_ev rfl) (x_cons (varM_ev rfl) (nilM_ev _))) (prod_ok (a := r) (b := x) (by omega) (fun p hp => ?_)) (by simp) rfl rfl) (cstM_ev _ _) ?_
    · exact mul_ok (by decide) (by decide) (hR r hr _ (List.of_mem_zip (a := p.1) (b := p.2) hp).1) (hx _ (List.of_mem_zip (a := p.1) (b := p.2) hp).2)
    · rw [eqD_int, dotL_F len, l.fit.st r hr, decide_eq_true rfl])
  rw [show R.map (fun _ => D.bl true) = (R.map fun _ => true).map D.bl by rw [List.map_map]; rfl] at hcp
  refine q_run (R := [some (vI x), some (vII R), some (.int (n : Int))]) ?_
  show m_law_is_lone ⟨[some (vI x), some (vII R), some (.int (n : Int))], []⟩ = _
  rw [m_law_is_lone]
  refine q_seq (q_ifF (x_orF (x_not (x_tst c1)) rfl (x_orF (x_tst (x_bin em (cstM_ev _ _) (ltD_int _ _))) (decide_eq_false (by omega)) (x_tst (x_bin c2 (cstM_ev _ _) (neD_int _ _))))) (by rw [l.one]; rfl) (skipM_ev _)) (retM_eq (x_cal (x_cons hcp (nilM_ev _)) ?_))
  rw [allD_bls]
  simp
theorem places_at {x : List Int} (hx : x.length ≤ 1000) : f_law_places [vI x] [] = .ok (vN ((List.range x.length).filter fun i => decide (nth x i ≠ 0)), []) := by
  have hc := compF1c (l := List.range x.length) (item := fun i : Nat => D.int (i : Int)) (out := fun i : Nat => D.int (i : Int)) (p := fun i => decide (nth x i ≠ 0)) (caps := [0]) (im := rng1 (consM (calM lenD (consM (varM 0) nilM)) nilM)) (c := tstM (binM neD (binM ixD (varM 1) (varM 0)) (cstM (.int 0)))) (e := varM 0) (k := none) (s := ⟨[some (vI x)], []⟩) (by
    rw [rng1_nat (n := x.length) (s1 := ⟨[some (vI x)], []⟩) (by simp) (by omega), rangeD0]) trivial (by rw [List.length_range]; omega) (fun i hi => by
      refine x_tst (x_bin (x_bin (varM_ev rfl) (varM_ev rfl) (ix_vI (List.mem_range.mp hi))) (cstM_ev _ _) ?_)
      rw [neD_int]
      congr 2
      by_cases h : nth x i = 0
      · simp [h]
      · simp [h]) (fun i _ _ => varM_ev rfl)
  refine q_run (R := [some (vI x)]) ?_
  show m_law_places ⟨[some (vI x)], []⟩ = _
  rw [m_law_places]
  exact retM_eq hc
theorem apart_test {n : Nat} {R Ls : List (List Int)} {x y : List Int} {O : Store} (hx : Lone n R x) (hy : Lone n R y) (n7 : n ≤ 7) : andT (tstM (binM neD (varM 1) (varM 2))) (tstM (calM allD (consM (compF 1 [2] (listI (callP 1 f_law_places (consM (varM 1) nilM))) (nameG 0) trueT (binM gtD (binM ixD (varM 1) (varM 0)) (cstM (.int 0)))) nilM))) ⟨[some (vII Ls), some (vI x), some (vI y)], O⟩ = .ok (false, ⟨[some (vII Ls), some (vI x), some (vI y)], O⟩) := by
  by_cases h : x = y
  · refine x_andF (x_tst (x_bin (varM_ev rfl) (varM_ev rfl) (neD_ints _ _))) ?_
    rw [decide_eq_true h]; rfl
  · have lx := hx.fit.len
    have ly := hy.fit.len
    have ec : callP 1 f_law_places (consM (varM 1) nilM) ⟨[some (vII Ls), some (vI x), some (vI y)], O⟩ = .ok (vN ((List.range x.length).filter fun i => decide (nth x i ≠ 0)), ⟨[some (vII Ls), some (vI x), some (vI y)], O⟩) := x_callP (x_cons (varM_ev rfl) (nilM_ev _)) (places_at (x := x) (by omega)) (by simp) rfl (by rw [pureD_lst, pure_vN])
    have hc := compF1 (l := (List.range x.length).filter fun i => decide (nth x i ≠ 0)) (item := fun i : Nat => D.int (i : Int)) (out := fun i : Nat => .bl (decide (0 < nth y i))) (caps := [2]) (im := listI (callP 1 f_law_places (consM (varM 1) nilM))) (e := binM gtD (binM ixD (varM 1) (varM 0)) (cstM (.int 0))) (k := none) (s := ⟨[some (vII Ls), some (vI x), some (vI y)], O⟩) (by
      rw [listI_ev, ec, bind_ok]; rfl) trivial (by
        have := List.length_filter_le (fun i => decide (nth x i ≠ 0)) (List.range x.length)
        rw [List.length_range] at this; omega) (fun i hi => by
      have hi' := List.mem_range.mp (List.mem_filter.mp hi).1
      exact x_bin (x_bin (varM_ev rfl) (varM_ev rfl) (ix_vI (show i < y.length by omega))) (cstM_ev _ _) (gtD_int _ _))
    rw [show ((List.range x.length).filter fun i => decide (nth x i ≠ 0)).map (fun i : Nat => D.bl (decide (0 < nth y i))) = (((List.range x.length).filter fun i => decide (nth x i ≠ 0)).map fun i => decide (0 < nth y i)).map D.bl by rw [List.map_map]; rfl] at hc
    refine x_andT (x_tst (x_bin (varM_ev rfl) (varM_ev rfl) (neD_ints _ _))) (by rw [decide_eq_false h]; rfl) (x_tst (x_cal (x_cons hc (nilM_ev _)) ?_))
    rw [allD_bls]
    congr 2
    rw [Bool.eq_false_iff]
    intro ha
    refine h (hy.same hx fun i hi => ?_).symm
    have il := hx.fit.lt hi
    have := List.all_eq_true.mp ha (decide (0 < nth y i)) (List.mem_map.mpr ⟨i, List.mem_filter.mpr ⟨List.mem_range.mpr (by omega), decide_eq_true hi⟩, rfl⟩)
    have := of_decide_eq_true (p := 0 < nth y i) this
    omega
theorem apart_ok {n : Nat} {R Ls : List (List Int)} (h : ∀ x ∈ Ls, Lone n R x) (n7 : n ≤ 7) : f_law_apart [vII Ls] [] = .ok (.bl true, []) := by
  have inner : ∀ (l : List (List Int)), (∀ y ∈ l, y ∈ Ls) → ∀ {x : List Int}, x ∈ Ls → ∀ z : Option D, ∃ z', forGo (okC (Ls.map vI) none) (nameG 2) b_law_apart_1 (l.map vI) ⟨[some (vII Ls), some (vI x), z], []⟩ = .next ⟨[some (vII Ls), some (vI x), z'], []⟩ := by
    intro l
    induction l with
    | nil => exact fun _ x _ z => ⟨z, by rw [List.map_nil, forGo, if_pos (show okC (Ls.map vI) none _ from trivial)]⟩
    | cons y l ih =>
      intro hl x hx z
      obtain ⟨z', e⟩ := ih (fun q hq => hl q (List.mem_cons_of_mem _ hq)) hx (some (vI y))
      refine ⟨z', ?_⟩
      rw [List.map_cons]
      refine Eq.trans (forGo_step (s1 := ⟨[some (vII Ls), some (vI x), some (vI y)], []⟩) (s2 := ⟨[some (vII Ls), some (vI x), some (vI y)], []⟩) trivial rfl ?_) e
      rw [b_law_apart_1]
      exact q_ifF (apart_test (h x hx) (h y (hl y List.mem_cons_self)) n7) rfl (skipM_ev _)
  have outer : ∀ (l : List (List Int)), (∀ y ∈ l, y ∈ Ls) → ∀ w z : Option D, ∃ w' z', forGo (okC (Ls.map vI) none) (nameG 1) b_law_apart_2 (l.map vI) ⟨[some (vII Ls), w, z], []⟩ = .next ⟨[some (vII Ls), w', z'], []⟩ := by
    intro l
    induction l with
    | nil => exact fun _ w z => ⟨w, z, by rw [List.map_nil, forGo, if_pos (show okC (Ls.map vI) none _ from trivial)]⟩
    | cons x l ih =>
      intro hl w z
      have hx := hl x List.mem_cons_self
      obtain ⟨z1, e1⟩ := inner Ls (fun _ q => q) hx z
      obtain ⟨w', z', e⟩ := ih (fun q hq => hl q (List.mem_cons_of_mem _ hq)) (some (vI x)) z1
      refine ⟨w', z', ?_⟩
      rw [List.map_cons]
      refine Eq.trans (forGo_step (s1 := ⟨[some (vII Ls), some (vI x), z], []⟩) (s2 := ⟨[some (vII Ls), some (vI x), z1], []⟩) trivial rfl ?_) e
      rw [b_law_apart_2]
      exact (forS_of (im := listI (varM 0)) (ds := Ls.map vI) (k := none) (s1 := ⟨[some (vII Ls), some (vI x), z], []⟩) (by rw [listI_ev, varM_ev (i := 0) rfl, bind_ok]; rfl)).trans e1
  obtain ⟨w', z', e⟩ := outer Ls (fun _ q => q) none none
  refine q_run (R := [some (vII Ls), w', z']) ?_
  show m_law_apart ⟨[some (vII Ls), none, none], []⟩ = _
  rw [m_law_apart]
  exact q_seq ((forS_of (im := listI (varM 0)) (ds := Ls.map vI) (k := none) (s1 := ⟨[some (vII Ls), none, none], []⟩) (by rw [listI_ev, varM_ev (i := 0) rfl, bind_ok]; rfl)).trans e) (retM_eq (cstM_ev _ _))
theorem cell_ok (ns : List Int) (k : Nat) : ∃ c, f_law_cell [vI ns, .int (k : Int)] [] = .ok (.int c, []) ∧ (k < ns.length → c = nth ns k) := by
  by_cases h : k < ns.length
  · refine ⟨nth ns k, runM_ret (s := ⟨[some (vI ns), some (.int (k : Int))], []⟩) ?_, fun _ => rfl⟩
    have hk : ((k : Int) < (ns.length : Int)) := by omega
    simp [m_law_cell, hk, ix_vI h]
  · refine ⟨0, runM_ret (s := ⟨[some (vI ns), some (.int (k : Int))], []⟩) ?_, fun z => absurd z h⟩
    have hk : ¬ ((k : Int) < (ns.length : Int)) := by omega
    simp [m_law_cell, hk]
theorem bag_ok (z : Int) : ∃ a c, f_law_bag [.int z] [] = .ok (.ptr 0, [.lst [.int a, .int c]]) := by
  refine ⟨z / 2 % 10 ^ 60 * (z % 2), z / 2 % 2147483647, runM_ret (s := ⟨[some (.int z)], [.lst [.int (z / 2 % 10 ^ 60 * (z % 2)), .int (z / 2 % 2147483647)]]⟩) ?_⟩
  have hm : IntMulOk (z / 2 % 1000000000000000000000000000000000000000000000000000000000000) (z % 2) := mul_small (.inr (by omega))
  simp [m_law_bag, fdivD_small, modD_pos, powD_int, mulD_int hm]
theorem draw_ok {O : Store} {k : Nat} {a c m : Int} (hk : O[k]? = some (.lst [.int a, .int c])) (hm : 0 < m) : ∃ r a' c', f_law_draw [.ptr k, .int m] O = .ok (.int r, O.set k (.lst [.int a', .int c'])) ∧ 0 ≤ r ∧ r < m := by
  have h0 : ixD O (.ptr k) (.int 0) = .ok (.int a) := ix_ptr hk rfl
  have h1 : ixD O (.ptr k) (.int 1) = .ok (.int c) := ix_ptr hk rfl
  by_cases h : 0 < a
  · refine ⟨a % m, a / m, c, runM_ret (s := ⟨[some (.ptr k), some (.int m), some (.int (a % m))], O.set k (.lst [.int (a / m), .int c])⟩) ?_, Int.emod_nonneg _ (by omega), Int.emod_lt_of_pos _ hm⟩
    have e1 := setM_eq (i := 2) (m := binM modD (binM ixD (varM 0) (cstM (.int 0))) (varM 1)) (s := ⟨[some (.ptr k), some (.int m), none], O⟩) (s' := ⟨[some (.ptr k), some (.int m), none], O⟩) (d := .int (a % m)) (by simp [h0, modD_pos hm])
    have e2 : asgM (binM fdivD (binM ixD (varM 0) (cstM (.int 0))) (varM 1)) (putG (varM 0) (cstM (.int 0))) ⟨[some (.ptr k), some (.int m), some (.int (a % m))], O⟩ = .next ⟨[some (.ptr k), some (.int m), some (.int (a % m))], O.set k (.lst [.int (a / m), .int c])⟩ := by
      rw [asgM_ev, show binM fdivD (binM ixD (varM 0) (cstM (.int 0))) (varM 1) ⟨[some (.ptr k), some (.int m), some (.int (a % m))], O⟩ = .ok (.int (a / m), ⟨[some (.ptr k), some (.int m), some (.int (a % m))], O⟩) by simp [h0, fdivD_int (show m ≠ 0 by omega), fdiv_pos hm], bind_ok]
      rw [putG_nat (k := k) (a := 0) (ds := [.int a, .int c]) (varM_ev rfl) rfl hk (by simp)]
      rfl
    show m_law_draw ⟨[some (.ptr k), some (.int m), none], O⟩ = _
    rw [m_law_draw]
    refine seqM_ret (Eq.trans (ifS_T (s' := ⟨[some (.ptr k), some (.int m), none], O⟩) (by simp [h0, h])) ?_)
    rw [seqM_eq e1]
    refine Eq.trans (seqM_eq e2) ?_
    exact retM_eq (varM_ev rfl)
  · generalize hcc : (c * 48271 + 4099) % 2147483647 = c'
    have hc0 : 0 ≤ c' := by rw [← hcc]; exact Int.emod_nonneg _ (by decide)
    have hc1 : c' < 2147483647 := by rw [← hcc]; exact Int.emod_lt_of_pos _ (by decide)
    generalize hO : O.set k (.lst [.int a, .int c']) = O'
    have hk' : O'[k]? = some (.lst [.int a, .int c']) := by rw [← hO]; exact get_set_eq hk
    have h1' : ixD O' (.ptr k) (.int 1) = .ok (.int c') := ix_ptr hk' rfl
    refine ⟨c' * (c' / 65536 + 7) % 2147483629 / 32 % m, a, c', ?_, Int.emod_nonneg _ (by omega), Int.emod_lt_of_pos _ hm⟩
    rw [hO]
    refine runM_ret (s := ⟨[some (.ptr k), some (.int m), none], O'⟩) ?_
    have e2 : asgM (binM modD (binM addD (binM mulD (binM ixD (varM 0) (cstM (.int 1))) (cstM (.int 48271))) (cstM (.int 4099))) (cstM (.int 2147483647))) (putG (varM 0) (cstM (.int 1))) ⟨[some (.ptr k), some (.int m), none], O⟩ = .next ⟨[some (.ptr k), some (.int m), none], O'⟩ := by
      rw [asgM_ev, show binM modD (binM addD (binM mulD (binM ixD (varM 0) (cstM (.int 1))) (cstM (.int 48271))) (cstM (.int 4099))) (cstM (.int 2147483647)) ⟨[some (.ptr k), some (.int m), none], O⟩ = .ok (.int c', ⟨[some (.ptr k), some (.int m), none], O⟩) by
        rw [← hcc]
        simp [h1, mulD_int (mul_small (i := c) (j := 48271) (.inr (by decide))), modD_pos], bind_ok]
      rw [putG_nat (k := k) (a := 1) (ds := [.int a, .int c]) (varM_ev rfl) rfl hk (by simp), ← hO]
      rfl
    show m_law_draw ⟨[some (.ptr k), some (.int m), none], O⟩ = _
    rw [m_law_draw]
    refine Eq.trans (seqM_eq (s' := ⟨[some (.ptr k), some (.int m), none], O⟩) (Eq.trans (ifS_F (s' := ⟨[some (.ptr k), some (.int m), none], O⟩) (by simp [h0, h])) rfl)) ?_
    refine Eq.trans (seqM_eq e2) ?_
    refine retM_eq ?_
    have hmm : IntMulOk c' (c' / 65536 + 7) := mul_small (.inl (by omega))
    simp [h1', fdivD_small, mulD_int hmm, modD_pos, modD_pos hm]
theorem number_ok {O : Store} {k : Nat} {a c wide : Int} (hk : O[k]? = some (.lst [.int a, .int c])) (hw : 0 < wide) (hw2 : wide ≤ 1000000000) : ∃ r a' c', f_law_number [.ptr k, .int wide] O = .ok (.int r, O.set k (.lst [.int a', .int c'])) ∧ Sz 31 r := by
  obtain ⟨w, a1, c1, e1, w0, w1⟩ := draw_ok hk (m := 6) (by decide)
  have k1 : (O.set k (.lst [.int a1, .int c1]))[k]? = some (.lst [.int a1, .int c1]) := get_set_eq hk
  have s1 := setM_eq (i := 2) (m := callS 2 f_law_draw (consM (varM 0) (consM (cstM (.int 6)) nilM))) (s := ⟨[some (.ptr k), some (.int wide), none], O⟩) (callS_eq (n := 2) (ds := [.ptr k, .int 6]) (s' := ⟨[some (.ptr k), some (.int wide), none], O⟩) (by simp) rfl e1)
  generalize hO1 : O.set k (.lst [.int a1, .int c1]) = O1 at *
  have hset : ∀ x y : Int, O1.set k (.lst [.int x, .int y]) = O.set k (.lst [.int x, .int y]) := fun x y => by rw [← hO1, List.set_set]
  have head : ∀ T, m_law_number = T → f_law_number = runM 3 T := fun T h => by rw [f_law_number, h]
  by_cases h4 : w = 4
  · refine ⟨0, a1, c1, ?_, Sz.zero 31⟩
    rw [hO1]
    refine runM_ret (s := ⟨[some (.ptr k), some (.int wide), some (.int w)], O1⟩) ?_
    show m_law_number ⟨[some (.ptr k), some (.int wide), none], O⟩ = _
    rw [m_law_number, seqM_eq s1]
    exact seqM_ret (Eq.trans (ifS_T (s' := ⟨[some (.ptr k), some (.int wide), some (.int w)], O1⟩) (by simp [h4])) rfl)
  · have f4 : ifS (tstM (binM eqD (varM 2) (cstM (.int 4)))) (retM (cstM (.int 0))) skipM ⟨[some (.ptr k), some (.int wide), some (.int w)], O1⟩ = .next ⟨[some (.ptr k), some (.int wide), some (.int w)], O1⟩ := Eq.trans (ifS_F (s' := ⟨[some (.ptr k), some (.int wide), some (.int w)], O1⟩) (by simp [h4])) rfl
    by_cases h5 : w = 5
    · obtain ⟨r2, a2, c2, e2, p2, q2⟩ := draw_ok k1 (m := 1000) (by decide)
      have k2 : (O1.set k (.lst [.int a2, .int c2]))[k]? = some (.lst [.int a2, .int c2]) := get_set_eq k1
      rw [hset] at e2 k2
      obtain ⟨r3, a3, c3, e3, p3, q3⟩ := draw_ok k2 (m := 1000000) (by decide)
      have k3 : ((O.set k (.lst [.int a2, .int c2])).set k (.lst [.int a3, .int c3]))[k]? = some (.lst [.int a3, .int c3]) := get_set_eq k2
      rw [List.set_set] at e3 k3
      obtain ⟨r4, a4, c4, e4, p4, q4⟩ := draw_ok k3 (m := 9) (by decide)
      rw [List.set_set] at e4
      refine ⟨(r2 * 1000000 + r3) % wide - r4, a4, c4, ?_, ?_⟩
      · refine runM_ret (s := ⟨[some (.ptr k), some (.int wide), some (.int w)], O.set k (.lst [.int a4, .int c4])⟩) ?_
        show m_law_number ⟨[some (.ptr k), some (.int wide), none], O⟩ = _
        rw [m_law_number, seqM_eq s1]
        refine Eq.trans (seqM_eq f4) (seqM_ret (Eq.trans (ifS_T (s' := ⟨[some (.ptr k), some (.int wide), some (.int w)], O1⟩) (by simp [h5])) ?_))
        refine retM_eq ?_
        have t2 := callS_eq (n := 2) (f := f_law_draw) (ma := consM (varM 0) (consM (cstM (.int 1000)) nilM)) (s := ⟨[some (.ptr k), some (.int wide), some (.int w)], O1⟩) (s' := ⟨[some (.ptr k), some (.int wide), some (.int w)], O1⟩) (ds := [.ptr k, .int 1000]) (by simp) rfl e2
        have t3 := callS_eq (n := 2) (f := f_law_draw) (ma := consM (varM 0) (consM (binM powD (cstM (.int 10)) (cstM (.int 6))) nilM)) (s := ⟨[some (.ptr k), some (.int wide), some (.int w)], O.set k (.lst [.int a2, .int c2])⟩) (s' := ⟨[some (.ptr k), some (.int wide), some (.int w)], O.set k (.lst [.int a2, .int c2])⟩) (ds := [.ptr k, .int 1000000]) (by simp [powD_int]) rfl e3
        have t4 := callS_eq (n := 2) (f := f_law_draw) (ma := consM (varM 0) (consM (cstM (.int 9)) nilM)) (s := ⟨[some (.ptr k), some (.int wide), some (.int w)], O.set k (.lst [.int a3, .int c3])⟩) (s' := ⟨[some (.ptr k), some (.int wide), some (.int w)], O.set k (.lst [.int a3, .int c3])⟩) (ds := [.ptr k, .int 9]) (by simp) rfl e4
        have hmm : IntMulOk r2 1000000 := mul_small (.inr (by decide))
        have u1 : binM mulD (callS 2 f_law_draw (consM (varM 0) (consM (cstM (.int 1000)) nilM))) (binM powD (cstM (.int 10)) (cstM (.int 6))) ⟨[some (.ptr k), some (.int wide), some (.int w)], O1⟩ = .ok (.int (r2 * 1000000), ⟨[some (.ptr k), some (.int wide), some (.int w)], O.set k (.lst [.int a2, .int c2])⟩) := by
          rw [binM_ev, t2, bind_ok]
          simp [powD_int, mulD_int hmm]
        have u2 : binM addD (binM mulD (callS 2 f_law_draw (consM (varM 0) (consM (cstM (.int 1000)) nilM))) (binM powD (cstM (.int 10)) (cstM (.int 6)))) (callS 2 f_law_draw (consM (varM 0) (consM (binM powD (cstM (.int 10)) (cstM (.int 6))) nilM))) ⟨[some (.ptr k), some (.int wide), some (.int w)], O1⟩ = .ok (.int (r2 * 1000000 + r3), ⟨[some (.ptr k), some (.int wide), some (.int w)], O.set k (.lst [.int a3, .int c3])⟩) := by
          rw [binM_ev, u1, bind_ok]
          dsimp only
          rw [t3, bind_ok]
          rfl
        rw [binM_ev, binM_ev, u2, bind_ok]
        dsimp only
        rw [varM_ev (i := 1) rfl, bind_ok]
        dsimp only
        rw [modD_pos hw, bind_ok, bind_ok]
        dsimp only
        rw [t4, bind_ok]
        rfl
      · unfold Sz
        have g1 : 0 ≤ (r2 * 1000000 + r3) % wide := Int.emod_nonneg _ (by omega)
        have g2 : (r2 * 1000000 + r3) % wide < wide := Int.emod_lt_of_pos _ hw
        have : (2 : Nat) ^ 31 = 2147483648 := by decide
        omega
    · have f5 : ifS (tstM (binM eqD (varM 2) (cstM (.int 5)))) (retM (binM subD (binM modD (binM addD (binM mulD (callS 2 f_law_draw (consM (varM 0) (consM (cstM (.int 1000)) nilM))) (binM powD (cstM (.int 10)) (cstM (.int 6)))) (callS 2 f_law_draw (consM (varM 0) (consM (binM powD (cstM (.int 10)) (cstM (.int 6))) nilM)))) (varM 1)) (callS 2 f_law_draw (consM (varM 0) (consM (cstM (.int 9)) nilM))))) skipM ⟨[some (.ptr k), some (.int wide), some (.int w)], O1⟩ = .next ⟨[some (.ptr k), some (.int wide), some (.int w)], O1⟩ := Eq.trans (ifS_F (s' := ⟨[some (.ptr k), some (.int wide), some (.int w)], O1⟩) (by simp [h5])) rfl
      obtain ⟨r2, a2, c2, e2, p2, q2⟩ := draw_ok k1 (m := 7) (by decide)
      rw [hset] at e2
      refine ⟨r2 - 3, a2, c2, ?_, ?_⟩
      · refine runM_ret (s := ⟨[some (.ptr k), some (.int wide), some (.int w)], O.set k (.lst [.int a2, .int c2])⟩) ?_
        show m_law_number ⟨[some (.ptr k), some (.int wide), none], O⟩ = _
        rw [m_law_number, seqM_eq s1]
        refine Eq.trans (seqM_eq f4) (Eq.trans (seqM_eq f5) (retM_eq ?_))
        have t2 := callS_eq (n := 2) (f := f_law_draw) (ma := consM (varM 0) (consM (cstM (.int 7)) nilM)) (s := ⟨[some (.ptr k), some (.int wide), some (.int w)], O1⟩) (s' := ⟨[some (.ptr k), some (.int wide), some (.int w)], O1⟩) (ds := [.ptr k, .int 7]) (by simp) rfl e2
        rw [binM_ev, t2, bind_ok]
        rfl
      · unfold Sz
        have : (2 : Nat) ^ 31 = 2147483648 := by decide
        omega
def BagAt (O : Store) (j : Nat) : Prop := ∃ a c : Int, O[j]? = some (.lst [.int a, .int c])
theorem draw_bag {O : Store} {j : Nat} {m : Int} (h : BagAt O j) (hm : 0 < m) : ∃ r O', f_law_draw [.ptr j, .int m] O = .ok (.int r, O') ∧ 0 ≤ r ∧ r < m ∧ BagAt O' j ∧ ∀ i, i ≠ j → O'[i]? = O[i]? := by
  obtain ⟨a, c, h⟩ := h
  obtain ⟨r, a', c', e, h1, h2⟩ := draw_ok h hm
  exact ⟨r, _, e, h1, h2, ⟨a', c', get_set_eq h⟩, fun i hi => get_set_ne fun z => hi z.symm⟩
theorem number_bag {O : Store} {j : Nat} {wide : Int} (h : BagAt O j) (hw : 0 < wide) (hw2 : wide ≤ 1000000000) : ∃ r O', f_law_number [.ptr j, .int wide] O = .ok (.int r, O') ∧ Sz 31 r ∧ BagAt O' j ∧ ∀ i, i ≠ j → O'[i]? = O[i]? := by
  obtain ⟨a, c, h⟩ := h
  obtain ⟨r, a', c', e, h1⟩ := number_ok h hw hw2
  exact ⟨r, _, e, h1, ⟨a', c', get_set_eq h⟩, fun i hi => get_set_ne fun z => hi z.symm⟩
theorem pure2 (A : List (List Int)) {d : D} (h : pureD d = true) : pureDs [vII A, d] = true := by
  rw [pureDs_cons, pureDs_cons, pureD_lst, pureDs_vI, h]
  rfl
theorem ress_ptrs {O : Store} : ∀ {L : List (Nat × List Int)}, Sto O L → ress O (ptrs L) = (L.map (·.2)).map vI
  | [], _ => by simp
  | p :: L, h => by
    have e := ress_ptrs (L := L) fun q hq => h q (List.mem_cons_of_mem _ hq)
    have hp := h p List.mem_cons_self
    show ress O (.ptr p.1 :: ptrs L) = _
    rw [ress_cons, e, res_ptr hp]
    rfl
theorem res_deep {O : Store} {k : Nat} {L : List (Nat × List Int)} (hk : O[k]? = some (.lst (ptrs L))) (h : Sto O L) : res O (res O (.ptr k)) = vII (L.map (·.2)) := by
  rw [res_ptr hk, res_lst, ress_ptrs h]
theorem eqD_deep {O : Store} {L : List (Nat × List Int)} (h : Sto O L) (A : List (List Int)) : eqD O (.lst (ptrs L)) (vII A) = .ok (.bl (decide (L.map (·.2) = A))) := by
  have e : eqB O (.lst (ptrs L)) (vII A) = eqB O (vII (L.map (·.2))) (vII A) := by
    show eqDeep O _ _ = eqDeep O _ _
    unfold eqDeep
    rw [res_lst, ress_ptrs h]
    have q : res O (vII (L.map (·.2))) = vII (L.map (·.2)) := by rw [res_lst, ress_vI]
    rw [q, q]
  unfold eqD
  rw [e, eqB_vII]
theorem sh_ptrs (n : Nat) : ∀ L : List (Nat × List Int), shDs n (ptrs L) = ptrs (L.map fun p => (n + p.1, p.2))
  | [] => by simp [shDs]
  | p :: L => by
    show shDs n (.ptr p.1 :: ptrs L) = _
    unfold shDs
    rw [sh_ptrs n L, shD_ptr]
    rfl
theorem sto_sh {O S : Store} {L : List (Nat × List Int)} (h : Sto O L) : Sto (S ++ O.map (shC S.length)) (L.map fun p => (S.length + p.1, p.2)) := fun q hq => by
  obtain ⟨p, hp, rfl⟩ := List.mem_map.mp hq
  dsimp only
  rw [List.getElem?_append_right (by omega), Nat.add_sub_cancel_left, List.getElem?_map, h p hp]
  simp
theorem cell_sh {O S : Store} {k : Nat} {L : List (Nat × List Int)} (h : O[k]? = some (.lst (ptrs L))) : (S ++ O.map (shC S.length))[S.length + k]? = some (.lst (ptrs (L.map fun p => (S.length + p.1, p.2)))) := by
  rw [List.getElem?_append_right (by omega), Nat.add_sub_cancel_left, List.getElem?_map, h]
  simp only [Option.map_some, shC_lst, sh_ptrs]
theorem listD_cell {O : Store} {k : Nat} {r : List Int} (h : O[k]? = some (.lst (r.map D.int))) : listD O [.ptr k] = .ok (vI r) := by
  unfold listD
  simp only [lsD_ptr h]
theorem grow_go {body : SM} {g : GM} (mk : Option D → Store → S) (hmk : ∀ x O, (mk x O).o = O) {d : Nat} {L : List (Nat × List Int)} (hd : ∀ p ∈ L, p.1 ≠ d)
    (hg : ∀ y x O, g (.ptr y) (mk x O) = .ok (mk (some (.ptr y)) O)) (hb : ∀ y O xs, O[y]? = some (.lst xs) → xs.length ≤ 1000000 → body (mk (some (.ptr y)) O) = .next (mk (some (.ptr y)) (O.set y (.lst (xs ++ [.int 1]))))) :
    ∀ (rest : List (Nat × List Int)) (m : Nat) (x : Option D) (O : Store), (∀ p ∈ rest, p ∈ L) → m + rest.length ≤ 1000 → O[d]? = some (.lst (ptrs L)) → (∀ p ∈ L, ∃ xs, O[p.1]? = some (.lst xs) ∧ xs.length ≤ 1000 + m) →
    ∃ x' O', forGo (okC (ptrs L) (some d)) g body (ptrs rest) (mk x O) = .next (mk x' O') ∧ O'[d]? = some (.lst (ptrs L))
  | [], m, x, O, _, _, h, _ => ⟨x, O, by show forGo _ _ _ [] _ = _; rw [forGo, if_pos (by rw [hmk]; exact h)], h⟩
  | p :: rest, m, x, O, hsub, hm, h, hc => by
    have hp := hsub p List.mem_cons_self
    obtain ⟨xs, h1, h2⟩ := hc p hp
    rw [List.length_cons] at hm
    obtain ⟨x', O', e, h3⟩ := grow_go mk hmk hd hg hb rest (m + 1) (some (.ptr p.1)) (O.set p.1 (.lst (xs ++ [.int 1]))) (fun q hq => hsub q (List.mem_cons_of_mem _ hq)) (by omega) (by rw [get_set_ne (hd p hp)]; exact h) (fun q hq => by
      obtain ⟨ys, g1, g2⟩ := hc q hq
      by_cases he : p.1 = q.1
      · rw [← he, get_set_eq h1]
        exact ⟨_, rfl, by simp; omega⟩
      · rw [get_set_ne he]
        exact ⟨ys, g1, by omega⟩)
    refine ⟨x', O', ?_, h3⟩
    show forGo _ _ _ (.ptr p.1 :: ptrs rest) _ = _
    rw [forGo, if_pos (by rw [hmk]; exact h), hg, out_ok, hb _ _ _ h1 (by omega)]
    exact e
theorem fit_body {O : Store} {j k : Nat} {many : Int} {ns : List Int} {x3 x4 x5 : Option D} (hb : BagAt O j) (hk : O[k]? = some (.lst (ns.map D.int))) (hjk : k ≠ j) (hl : ns.length ≤ 1000) :
    ∃ (r : Int) (O' : Store) (y4 y5 : Option D), b_law_fit_1 ⟨[some (.ptr j), some (.int many), some (.ptr k), x3, x4, x5], O⟩ = .next ⟨[some (.ptr j), some (.int many), some (.ptr k), x3, y4, y5], O'⟩ ∧ BagAt O' j ∧ O'[k]? = some (.lst ((ns ++ [r]).map D.int)) ∧ 0 ≤ r ∧ r ≤ 1000000 := by
  obtain ⟨w, O1, e1, w0, w1, b1, k1⟩ := draw_bag hb (m := 8) (by decide)
  have h1 : setM 4 (callS 2 f_law_draw (consM (varM 0) (consM (cstM (.int 8)) nilM))) ⟨[some (.ptr j), some (.int many), some (.ptr k), x3, x4, x5], O⟩ = .next ⟨[some (.ptr j), some (.int many), some (.ptr k), x3, some (.int w), x5], O1⟩ := x_set (x_callS (x_cons (varM_ev rfl) (x_cons (cstM_ev _ _) (nilM_ev _))) e1 rfl) rfl
  have h2 : setM 5 (cstM (.int 0)) ⟨[some (.ptr j), some (.int many), some (.ptr k), x3, some (.int w), x5], O1⟩ = .next ⟨[some (.ptr j), some (.int many), some (.ptr k), x3, some (.int w), some (.int 0)], O1⟩ := x_set (cstM_ev _ _) rfl
  have h3 : ∃ r O2, ifS (tstM (binM ltD (varM 4) (cstM (.int 4)))) (setM 5 (binM addD (callS 2 f_law_draw (consM (varM 0) (consM (cstM (.int 4)) nilM))) (cstM (.int 1)))) skipM ⟨[some (.ptr j), some (.int many), some (.ptr k), x3, some (.int w), some (.int 0)], O1⟩ = .next ⟨[some (.ptr j), some (.int many), some (.ptr k), x3, some (.int w), some (.int r)], O2⟩ ∧ BagAt O2 j ∧ O2[k]? = O1[k]? ∧ 0 ≤ r ∧ r ≤ 1000000 := by
    have t : tstM (binM ltD (varM 4) (cstM (.int 4))) ⟨[some (.ptr j), some (.int many), some (.ptr k), x3, some (.int w), some (.int 0)], O1⟩ = .ok (decide (w < 4), ⟨[some (.ptr j), some (.int many), some (.ptr k), x3, some (.int w), some (.int 0)], O1⟩) := x_tst (x_bin (varM_ev rfl) (cstM_ev _ _) (ltD_int _ _))
    by_cases h : w < 4
    · obtain ⟨v, O2, e2, v0, v1, b2, k2⟩ := draw_bag b1 (m := 4) (by decide)
      exact ⟨v + 1, O2, q_ifT t (decide_eq_true h) (x_set (x_bin (x_callS (x_cons (varM_ev rfl) (x_cons (cstM_ev _ _) (nilM_ev _))) e2 rfl) (cstM_ev _ _) (addD_int _ _)) rfl), b2, k2 k hjk, by omega, by omega⟩
    · exact ⟨0, O1, q_ifF t (decide_eq_false h) (skipM_ev _), b1, rfl, by decide, by decide⟩
  obtain ⟨r, O2, h3, b2, k2, r0, r1⟩ := h3
  have h4 : ∃ r' O3, ifS (tstM (binM eqD (varM 4) (cstM (.int 7)))) (setM 5 (callS 2 f_law_draw (consM (varM 0) (consM (binM powD (cstM (.int 10)) (cstM (.int 6))) nilM)))) skipM ⟨[some (.ptr j), some (.int many), some (.ptr k), x3, some (.int w), some (.int r)], O2⟩ = .next ⟨[some (.ptr j), some (.int many), some (.ptr k), x3, some (.int w), some (.int r')], O3⟩ ∧ BagAt O3 j ∧ O3[k]? = O2[k]? ∧ 0 ≤ r' ∧ r' ≤ 1000000 := by
    have t : tstM (binM eqD (varM 4) (cstM (.int 7))) ⟨[some (.ptr j), some (.int many), some (.ptr k), x3, some (.int w), some (.int r)], O2⟩ = .ok (decide (w = 7), ⟨[some (.ptr j), some (.int many), some (.ptr k), x3, some (.int w), some (.int r)], O2⟩) := eq_test (varM_ev rfl)
    by_cases h : w = 7
    · obtain ⟨v, O3, e3, v0, v1, b3, k3⟩ := draw_bag b2 (m := 1000000) (by decide)
      exact ⟨v, O3, q_ifT t (decide_eq_true h) (x_set (x_callS (x_cons (varM_ev rfl) (x_cons (x_bin (cstM_ev _ _) (cstM_ev _ _) (show powD O2 (.int 10) (.int 6) = .ok (.int 1000000) from powD_int (by decide) (by decide) (by decide))) (nilM_ev _))) e3 rfl) rfl), b3, k3 k hjk, by omega, by omega⟩
    · exact ⟨r, O2, q_ifF t (decide_eq_false h) (skipM_ev _), b2, rfl, r0, r1⟩
  obtain ⟨r', O3, h4, b3, k3, p0, p1⟩ := h4
  have g3 : O3[k]? = some (.lst (ns.map D.int)) := by rw [k3, k2, k1 k hjk]; exact hk
  refine ⟨r', O3.set k (.lst (ns.map D.int ++ [.int r'])), some (.int w), some (.int r'), ?_, ?_, by rw [get_set_eq g3, List.map_append]; rfl, p0, p1⟩
  · rw [b_law_fit_1]
    exact q_seq h1 (q_seq h2 (q_seq h3 (q_seq h4 (dropM_eq (x_app (varM_ev rfl) g3 (varM_ev rfl) g3 (by rw [List.length_map]; omega) rfl)))))
  · obtain ⟨a, c, h⟩ := b3
    exact ⟨a, c, by rw [get_set_ne hjk]; exact h⟩
theorem fit_ok {O : Store} {j many : Nat} (hb : BagAt O j) (h1 : 1 ≤ many) (h7 : many ≤ 1000) : ∃ (ns : List Int) (O' : Store), f_law_fit [.ptr j, .int (many : Int)] O = .ok (vI (1 :: ns), O') ∧ ns.length + 1 = many ∧ (∀ a ∈ ns, 0 ≤ a ∧ a ≤ 1000000) ∧ BagAt O' j := by
  have jl : O.length ≠ j := by
    obtain ⟨a, c, h⟩ := hb
    have := get_lt h
    omega
  obtain ⟨s', el, ns, O1, x3, x4, x5, hl, hs', b1, g1, hn⟩ := forGo_pre (ok := okC (rangeD 0 ((many - 1 : Nat) : Int)) none) (g := nameG 3) (body := b_law_fit_1)
    (fun pre s => ∃ (ns : List Int) (O1 : Store) (x3 x4 x5 : Option D), pre.length = ns.length ∧ s = ⟨[some (.ptr j), some (.int (many : Int)), some (.ptr O.length), x3, x4, x5], O1⟩ ∧ BagAt O1 j ∧ O1[O.length]? = some (.lst ((1 :: ns).map D.int)) ∧ ∀ a ∈ ns, 0 ≤ a ∧ a ≤ 1000000) (fun _ _ _ => trivial) (rangeD 0 ((many - 1 : Nat) : Int)) [] (by
      rintro pre d rest ed s ⟨ns, O1, x3, x4, x5, hl, rfl, b1, g1, hn⟩
      have pl : pre.length + rest.length + 1 = many - 1 := by
        have := congrArg List.length ed
        rw [List.nil_append, rangeD_length, List.length_append, List.length_cons] at this
        omega
      obtain ⟨r, O2, y4, y5, e2, b2, g2, r0, r1⟩ := fit_body (many := (many : Int)) (x3 := some d) (x4 := x4) (x5 := x5) b1 g1 jl (by rw [List.length_cons]; omega)
      refine ⟨⟨[some (.ptr j), some (.int (many : Int)), some (.ptr O.length), some d, x4, x5], O1⟩, _, rfl, .inl e2, ns ++ [r], O2, _, _, _, by simp [hl], rfl, b2, g2, fun a ha => ?_⟩
      rcases List.mem_append.mp ha with q | q
      · exact hn a q
      · rw [List.mem_singleton.mp q]; exact ⟨r0, r1⟩) ⟨[some (.ptr j), some (.int (many : Int)), some (.ptr O.length), none, none, none], O ++ [.lst [.int 1]]⟩ ⟨[], _, none, none, none, rfl, rfl, by
        obtain ⟨a, c, h⟩ := hb
        exact ⟨a, c, get_app_l h⟩, by simp, by simp⟩
  rw [List.nil_append, rangeD_length] at hl
  subst hs'
  refine ⟨ns, O1.set O.length .dead, ?_, by omega, hn, ?_⟩
  · refine q_run (R := [some (.ptr j), some (.int (many : Int)), some (.ptr O.length), x3, x4, x5]) ?_
    show m_law_fit ⟨[some (.ptr j), some (.int (many : Int)), none, none, none, none], O⟩ = _
    rw [m_law_fit]
    refine q_seq (x_set (x_lstC (x_cons (cstM_ev _ _) (nilM_ev _)) (by simp) rfl rfl) rfl) (q_seq ?_ (retM_eq (x_frz (varM_ev rfl) g1 rfl)))
    refine (forS_of (im := rng1 (consM (binM subD (varM 1) (cstM (.int 1))) nilM)) (ds := rangeD 0 ((many - 1 : Nat) : Int)) (k := none) (s1 := ⟨[some (.ptr j), some (.int (many : Int)), some (.ptr O.length), none, none, none], O ++ [.lst [.int 1]]⟩) (rng1_nat (n := many - 1) (x_cons (x_bin (varM_ev rfl) (cstM_ev _ _) ?_) (nilM_ev _)) (by omega))).trans el
    rw [subD_int]
    congr 2
    omega
  · obtain ⟨a, c, h⟩ := b1
    exact ⟨a, c, by rw [get_set_ne jl]; exact h⟩
theorem compC1_ex {caps : List Nat} {im : IM} {e : EM} {s : S} {ds : List D} {k : Option Nat} (PO : Store → Prop) (Q : Int → Prop) (him : im s = .ok ((ds, k), s)) (hok : ∀ O, PO O → okC ds k O) (h0 : PO s.o) (hl : ds.length ≤ 1000000)
    (he : ∀ d ∈ ds, ∀ O, PO O → ∃ r O', e ⟨some d :: caps.map (fun i => (s.r[i]?).getD none), O⟩ = .ok (.int r, ⟨some d :: caps.map (fun i => (s.r[i]?).getD none), O'⟩) ∧ Q r ∧ PO O') :
    ∃ (ns : List Int) (O' : Store), compC 1 caps im (nameG 0) trueT e s = .ok (.ptr O'.length, ⟨s.r, O' ++ [.lst (ns.map D.int)]⟩) ∧ ns.length = ds.length ∧ (∀ n ∈ ns, Q n) ∧ PO O' := by
  obtain ⟨outs, s', e1, h1, h2, x, O', h3, h4⟩ := compGo_ex (ok := okC ds k) (g := nameG 0) (c := trueT) (e := e) (fun s2 => ∃ x O', s2 = ⟨x :: caps.map (fun i => (s.r[i]?).getD none), O'⟩ ∧ PO O') (fun y => ∃ r, y = .int r ∧ Q r) (by rintro _ ⟨_, O', rfl, h⟩; exact hok O' h) ds [] ⟨capM 1 caps s.r, s.o⟩ (by
    rintro d hd _ ⟨x, O', rfl, h⟩
    obtain ⟨r, O2, q1, q2, q3⟩ := he d hd O' h
    exact ⟨_, _, .int r, _, rfl, rfl, q1, ⟨r, rfl, q2⟩, _, O2, rfl, q3⟩) (by simpa using le_line hl) ⟨none, s.o, rfl, h0⟩
  obtain ⟨ns, rfl, hn⟩ := ints_of h2
  refine ⟨ns, O', ?_, by simpa using h1, hn, h4⟩
  rw [compC_ev, compM_ev, him, bind_ok]
  dsimp only
  rw [e1, bind_ok, bind_ok]
  subst h3
  rfl
theorem sumN_list (n : Nat) (f : Nat → Int) : ((List.range n).map f).sum = sumN n f := by
  induction n with
  | zero => rfl
  | succ n ih => rw [List.range_succ, List.map_append, List.sum_append, ih]; simp [sumN]
theorem rest_sum (os fs : List Int) : ((List.range fs.length).map fun k => nth os k * nth fs k).sum = dotL os fs := by
  rw [sumN_list, dotL_sum]
theorem dotL_cons (a b : Int) (x y : List Int) : dotL (a :: x) (b :: y) = a * b + dotL x y := by
  unfold dotL
  rw [List.zipWith_cons_cons, List.sum_cons]
theorem sz_3 {b : Nat} {x : Int} (h : Sz b x) : Sz (b + 2) (3 * x) := by
  unfold Sz at *
  rw [Nat.pow_add]
  omega
abbrev cloR (cs fs : List Int) (cnt wide : Int) (at_ : Nat) (x6 x7 : Option D) : List (Option D) := [some (vI cs), some (vI (1 :: fs)), some (.int cnt), some (.int wide), some (.ptr 0), some (.int (at_ : Int)), x6, x7]
theorem range1 (n : Nat) : rangeD 1 ((n + 1 : Nat) : Int) = (List.range n).map fun k : Nat => D.int ((k + 1 : Nat) : Int) := by
  unfold rangeD
  rw [show (((n + 1 : Nat) : Int) - 1).toNat = n by omega]
  refine List.map_congr_left fun k _ => ?_
  congr 1
  omega
theorem rng2_nat {m : AM} {s s1 : S} {n : Nat} (h : m s = .ok ([.int 1, .int (n : Int)], s1)) (hn : n ≤ 1000000) : rng2 m s = .ok ((rangeD 1 (n : Int), none), s1) := by
  unfold rng2
  rw [h, bind_ok]
  dsimp only
  rw [if_pos (by omega)]
theorem closed_body {cs fs : List Int} (hcs : 0 < cs.length) {at_ : Nat} {cnt wide : Int} {made : List (List Int)} {O : Store} {x6 x7 : Option D} (hO : O[0]? = some (.lst (made.map vI))) (hf : fs.length ≤ 100) (hfs : SzL 20 fs) (hc : made.length ≤ 100) (hw : 0 < wide) (hw2 : wide ≤ 1000000000)
    (hl : ∀ r ∈ made, r.length = fs.length + 1) (hs : SzLL (31 + 33 * made.length) made) :
    ∃ r O' y6 y7, b_law_closed_1 ⟨cloR cs fs cnt wide at_ x6 x7, O⟩ = .next ⟨cloR cs fs cnt wide at_ y6 y7, O'⟩ ∧ O'[0]? = some (.lst ((made ++ [r]).map vI)) ∧ r.length = fs.length + 1 ∧ SzL (31 + 33 * made.length + 33) r ∧ dotL r (1 :: fs) = 0 := by
  have hi : ((at_ : Int) % (cs.length : Int)) = ((at_ % cs.length : Nat) : Int) := by simp
  have hlt : at_ % cs.length < cs.length := Nat.mod_lt _ hcs
  have hO0 : 0 < O.length := get_lt hO
  obtain ⟨a0, c0, eb⟩ := bag_ok (nth cs (at_ % cs.length) + 500009 * ((at_ : Int) / (cs.length : Int)))
  have hmm : IntMulOk 500009 ((at_ : Int) / (cs.length : Int)) := mul_small (.inl (by decide))
  have hp : (0 : Int) < (cs.length : Int) := by omega
  have len0 : calM lenD (consM (varM 0) nilM) ⟨cloR cs fs cnt wide at_ x6 x7, O⟩ = .ok (.int (cs.length : Int), ⟨cloR cs fs cnt wide at_ x6 x7, O⟩) := by
    refine x_cal (x_cons (varM_ev rfl) (nilM_ev _)) ?_
    rw [lenD_lst, List.length_map]
  have e6 : setM 6 (callO 1 f_law_bag (consM (binM addD (binM ixD (varM 0) (binM modD (varM 5) (calM lenD (consM (varM 0) nilM)))) (binM mulD (cstM (.int 500009)) (binM fdivD (varM 5) (calM lenD (consM (varM 0) nilM))))) nilM)) ⟨cloR cs fs cnt wide at_ x6 x7, O⟩ = .next ⟨cloR cs fs cnt wide at_ (some (.ptr O.length)) x7, O ++ [.lst [.int a0, .int c0]]⟩ := by
    refine x_set (x_callO (x_cons (x_bin (x_bin (varM_ev rfl) (x_bin (varM_ev rfl) len0 (d := .int ((at_ % cs.length : Nat) : Int)) ?_) (ix_vI hlt)) (x_bin (cstM_ev _ _) (x_bin (varM_ev rfl) len0 (d := .int ((at_ : Int) / (cs.length : Int))) ?_) (mulD_int hmm)) (addD_int _ _)) (nilM_ev _)) eb (by simp) rfl (shD_ptr _ _) ?_) rfl
    · rw [modD_pos hp, hi]
    · rw [fdivD_int (show (cs.length : Int) ≠ 0 by omega), fdiv_pos hp]
    · simp [shC, shDs, shD]
  have b1 : BagAt (O ++ [.lst [.int a0, .int c0]]) O.length := ⟨a0, c0, get_app_r⟩
  have g1 : (O ++ [Cell.lst [.int a0, .int c0]])[0]? = some (.lst (made.map vI)) := get_app_l hO
  generalize hj : O.length = j at *
  generalize O ++ [Cell.lst [.int a0, .int c0]] = O1 at *
  have hne : (0 : Nat) ≠ j := by omega
  obtain ⟨one, O2, e7, l7, s7, b2, g2⟩ := compC1_ex (caps := [6, 3]) (im := listI (varM 1)) (e := callS 2 f_law_number (consM (varM 1) (consM (varM 2) nilM))) (s := ⟨cloR cs fs cnt wide at_ (some (.ptr j)) x7, O1⟩) (ds := (1 :: fs).map D.int) (k := none)
    (fun O' => BagAt O' j ∧ O'[0]? = some (.lst (made.map vI))) (Sz 31) (by rw [listI_ev, varM_ev (i := 1) rfl, bind_ok]; rfl) (fun _ _ => trivial) ⟨b1, g1⟩ (by simp; omega) (fun d _ O' ⟨hb, hg⟩ => by
      obtain ⟨r, O2, en, q1, q2, q3⟩ := number_bag hb hw hw2
      exact ⟨r, O2, x_callS (x_cons (varM_ev rfl) (x_cons (varM_ev rfl) (nilM_ev _))) en rfl, q1, q2, by rw [q3 0 hne]; exact hg⟩)
  have l7 : one.length = fs.length + 1 := by simpa using l7
  have e7 := x_set (i := 7) e7 rfl
  dsimp only at e7
  have jl : j < O2.length := by
    obtain ⟨a, c, h⟩ := b2
    exact get_lt h
  have b2' : BagAt (O2 ++ [.lst (one.map D.int)]) j := by
    obtain ⟨a, c, h⟩ := b2
    exact ⟨a, c, get_app_l h⟩
  have g2' : (O2 ++ [Cell.lst (one.map D.int)])[0]? = some (.lst (made.map vI)) := get_app_l g2
  have c2' : (O2 ++ [Cell.lst (one.map D.int)])[O2.length]? = some (.lst (one.map D.int)) := get_app_r
  generalize hk : O2.length = k at *
  generalize O2 ++ [Cell.lst (one.map D.int)] = O2' at *
  obtain ⟨w, O3, e8, w0, w1, b3, k3⟩ := draw_bag b2' (m := 7) (by decide)
  have g3 : O3[0]? = some (.lst (made.map vI)) := by rw [k3 0 hne]; exact g2'
  have c3 : O3[k]? = some (.lst (one.map D.int)) := by rw [k3 k (by omega)]; exact c2'
  have d8 : tstM (binM eqD (callS 2 f_law_draw (consM (varM 6) (consM (cstM (.int 7)) nilM))) (cstM (.int 6))) ⟨cloR cs fs cnt wide at_ (some (.ptr j)) (some (.ptr k)), O2'⟩ = .ok (decide (w = 6), ⟨cloR cs fs cnt wide at_ (some (.ptr j)) (some (.ptr k)), O3⟩) := eq_test (x_callS (x_cons (varM_ev rfl) (x_cons (cstM_ev _ _) (nilM_ev _))) e8 rfl)
  have d9 : tstM (binM gtD (calM lenD (consM (varM 4) nilM)) (cstM (.int 0))) ⟨cloR cs fs cnt wide at_ (some (.ptr j)) (some (.ptr k)), O3⟩ = .ok (decide (0 < ((made.map vI).length : Int)), ⟨cloR cs fs cnt wide at_ (some (.ptr j)) (some (.ptr k)), O3⟩) := gt_test (x_cal (x_cons (varM_ev rfl) (nilM_ev _)) (lenD_ptr g3))
  have st : ∃ two O4 k', ifS (andT (tstM (binM eqD (callS 2 f_law_draw (consM (varM 6) (consM (cstM (.int 7)) nilM))) (cstM (.int 6)))) (tstM (binM gtD (calM lenD (consM (varM 4) nilM)) (cstM (.int 0))))) (setM 7 (compC 1 [] (listI (binM ixD (varM 4) (unM negD (cstM (.int 1))))) (nameG 0) trueT (binM mulD (cstM (.int 3)) (varM 0)))) skipM ⟨cloR cs fs cnt wide at_ (some (.ptr j)) (some (.ptr k)), O2'⟩ = .next ⟨cloR cs fs cnt wide at_ (some (.ptr j)) (some (.ptr k')), O4⟩ ∧ O4[0]? = some (.lst (made.map vI)) ∧ O4[k']? = some (.lst (two.map D.int)) ∧ 0 ≠ k' ∧ two.length = fs.length + 1 ∧ SzL (31 + 33 * made.length + 2) two := by
    have keep : SzL (31 + 33 * made.length + 2) one := fun x hx => (s7 x hx).mono (by omega)
    by_cases h6 : w = 6
    · by_cases hm : 0 < ((made.map vI).length : Int)
      · have hm' : 0 < made.length := by rw [List.length_map] at hm; omega
        have a1 : atI (made.map vI) (-1) = some (vI (made[made.length - 1])) := by
          have := atI_neg (l := made.map vI) (i := 1) (by decide) (by simp; omega)
          rw [show (-((1 : Nat) : Int)) = -1 by rfl] at this
          rw [this]; simp
        have m1 : made[made.length - 1] ∈ made := List.getElem_mem _
        generalize made[made.length - 1] = p1 at a1 m1
        have q7 := compC1 (l := p1) (item := D.int) (out := fun x => .int (3 * x)) (caps := []) (im := listI (binM ixD (varM 4) (unM negD (cstM (.int 1))))) (e := binM mulD (cstM (.int 3)) (varM 0)) (k := none) (s := ⟨cloR cs fs cnt wide at_ (some (.ptr j)) (some (.ptr k)), O3⟩) (by
          rw [listI_ev, x_bin (s2 := ⟨cloR cs fs cnt wide at_ (some (.ptr j)) (some (.ptr k)), O3⟩) (varM_ev (i := 4) rfl) (x_un (cstM_ev _ _) (negD_int _)) (ix_ptr g3 a1), bind_ok]; rfl) trivial (by have := hl p1 m1; omega) (fun x _ => x_bin (cstM_ev _ _) (varM_ev rfl) (mulD_int (mul_small (.inl (by decide)))))
        rw [show p1.map (fun x => D.int (3 * x)) = (p1.map (3 * ·)).map D.int by rw [List.map_map]; rfl] at q7
        refine ⟨p1.map (3 * ·), _, _, q_ifT (x_andT d8 (decide_eq_true h6) d9) (decide_eq_true hm) (x_set q7 rfl), get_app_l g3, get_app_r, ?_, by rw [List.length_map]; exact hl p1 m1, fun x hx => ?_⟩
        · have := get_lt g3
          show 0 ≠ O3.length
          omega
        · obtain ⟨y, hy, rfl⟩ := List.mem_map.mp hx
          exact sz_3 (hs p1 m1 y hy)
      · exact ⟨one, O3, k, q_ifF (x_andT d8 (decide_eq_true h6) d9) (decide_eq_false hm) (skipM_ev _), g3, c3, by omega, l7, keep⟩
    · exact ⟨one, O3, k, q_ifF (x_andF d8 (decide_eq_false h6)) rfl (skipM_ev _), g3, c3, by omega, l7, keep⟩
  obtain ⟨two, O4, k', e9, g4, c4, n4, l4, s4⟩ := st
  cases two with
  | nil => exact absurd l4 (by simp)
  | cons o os =>
    have lo : os.length = fs.length := by simpa using l4
    have so : SzL (31 + 33 * made.length + 2) os := fun x hx => s4 x (List.mem_cons_of_mem _ hx)
    have hsum := compF1 (l := List.range fs.length) (item := fun k : Nat => D.int ((k + 1 : Nat) : Int)) (out := fun k => .int (nth os k * nth fs k)) (caps := [1, 7]) (im := rng2 (consM (cstM (.int 1)) (consM (calM lenD (consM (varM 1) nilM)) nilM))) (e := binM mulD (binM ixD (varM 2) (varM 0)) (binM ixD (varM 1) (varM 0))) (k := none) (s := ⟨cloR cs fs cnt wide at_ (some (.ptr j)) (some (.ptr k')), O4⟩) (by
      rw [rng2_nat (n := fs.length + 1) (s1 := ⟨cloR cs fs cnt wide at_ (some (.ptr j)) (some (.ptr k')), O4⟩) (x_cons (cstM_ev _ _) (x_cons (x_cal (x_cons (varM_ev rfl) (nilM_ev _)) (by rw [lenD_lst, List.length_map]; rfl)) (nilM_ev _))) (by omega), range1]) trivial (by rw [List.length_range]; omega) (fun i hi => by
        have hi' := List.mem_range.mp hi
        refine x_bin (x_bin (varM_ev rfl) (varM_ev rfl) (d := .int (nth os i)) (ix_ptr c4 ?_)) (x_bin (varM_ev rfl) (varM_ev rfl) (d := .int (nth fs i)) (ix_vI (r := 1 :: fs) (i := i + 1) (by simp; omega))) (mulD_int (mul_ok (m := 31 + 33 * made.length + 2) (n := 20) (by omega) (by decide) (so _ (nth_mem (by omega))) (hfs _ (nth_mem hi'))))
        rw [atI_nat' (by simp; omega)]
        simp [nth, List.getD_eq_getElem?_getD, lo, hi'])
    rw [show (List.range fs.length).map (fun k => D.int (nth os k * nth fs k)) = ((List.range fs.length).map fun k => nth os k * nth fs k).map D.int by rw [List.map_map]; rfl] at hsum
    have eput : asgM (unM negD (calM sumD (consM (compF 1 [1, 7] (rng2 (consM (cstM (.int 1)) (consM (calM lenD (consM (varM 1) nilM)) nilM))) (nameG 0) trueT (binM mulD (binM ixD (varM 2) (varM 0)) (binM ixD (varM 1) (varM 0)))) nilM))) (putG (varM 7) (cstM (.int 0))) ⟨cloR cs fs cnt wide at_ (some (.ptr j)) (some (.ptr k')), O4⟩ = .next ⟨cloR cs fs cnt wide at_ (some (.ptr j)) (some (.ptr k')), O4.set k' (.lst ((-(dotL os fs) :: os).map D.int))⟩ := by
      rw [asgM_ev, x_un (x_cal (x_cons hsum (nilM_ev _)) (sumD_ints _ _)) (negD_int _), bind_ok]
      dsimp only
      rw [putG_nat (k := k') (a := 0) (ds := (o :: os).map D.int) (s1 := ⟨cloR cs fs cnt wide at_ (some (.ptr j)) (some (.ptr k')), O4⟩) (s2 := ⟨cloR cs fs cnt wide at_ (some (.ptr j)) (some (.ptr k')), O4⟩) (varM_ev (i := 7) rfl) rfl c4 (by simp), rest_sum]
      rfl
    have c5 : (O4.set k' (Cell.lst ((-(dotL os fs) :: os).map D.int)))[k']? = some (.lst ((-(dotL os fs) :: os).map D.int)) := get_set_eq c4
    have g5 : (O4.set k' (Cell.lst ((-(dotL os fs) :: os).map D.int)))[0]? = some (.lst (made.map vI)) := by rw [get_set_ne (fun z => n4 z.symm)]; exact g4
    generalize O4.set k' (Cell.lst ((-(dotL os fs) :: os).map D.int)) = O5 at *
    have g6 : (O5.set k' Cell.dead)[0]? = some (.lst (made.map vI)) := by rw [get_set_ne (fun z => n4 z.symm)]; exact g5
    refine ⟨-(dotL os fs) :: os, (O5.set k' .dead).set 0 (.lst (made.map vI ++ [vI (-(dotL os fs) :: os)])), some (.ptr j), some (.ptr k'), ?_, by rw [get_set_eq g6, List.map_append]; rfl, by simp [lo], fun x hx => ?_, ?_⟩
    · rw [b_law_closed_1]
      exact q_seq e6 (q_seq e7 (q_seq e9 (q_seq eput (dropM_eq (x_app (varM_ev rfl) g5 (x_frz (varM_ev rfl) c5 rfl) g6 (by rw [List.length_map]; omega) rfl)))))
    · rcases List.mem_cons.mp hx with rfl | hx
      · exact ((dot_sz so hfs (by omega)).neg).mono (by omega)
      · exact (so x hx).mono (by omega)
    · rw [dotL_cons]; omega
theorem closed_ok {cs fs : List Int} (hcs : 0 < cs.length) {cnt : Nat} {wide : Int} (hf : fs.length ≤ 100) (hfs : SzL 20 fs) (hc : cnt ≤ 5) (hw : 0 < wide) (hw2 : wide ≤ 1000000000) :
    ∃ made O, f_law_closed [vI cs, vI (1 :: fs), .int (cnt : Int), .int wide] [] = .ok (vII made, O) ∧ made.length = cnt ∧ (∀ r ∈ made, r.length = fs.length + 1) ∧ SzLL 200 made ∧ ∀ r ∈ made, dotL r (1 :: fs) = 0 := by
  obtain ⟨s', el, made, O, x5, x6, x7, hpl, hs', h2, h3, h4, h5⟩ := forGo_pre (ok := okC (rangeD 0 (cnt : Int)) none) (g := nameG 5) (body := b_law_closed_1)
    (fun pre s => ∃ (made : List (List Int)) (O : Store) (x5 x6 x7 : Option D), made.length = pre.length ∧ s = ⟨[some (vI cs), some (vI (1 :: fs)), some (.int (cnt : Int)), some (.int wide), some (.ptr 0), x5, x6, x7], O⟩ ∧ O[0]? = some (.lst (made.map vI)) ∧ (∀ r ∈ made, r.length = fs.length + 1) ∧ SzLL (31 + 33 * made.length) made ∧ ∀ r ∈ made, dotL r (1 :: fs) = 0) (fun _ _ _ => trivial) (rangeD 0 (cnt : Int)) [] (by
      rintro pre d rest ed s ⟨made, O, x5, x6, x7, hl, rfl, h2, h3, h4, h5⟩
      have hd : d ∈ rangeD 0 (cnt : Int) := by rw [List.nil_append] at ed; rw [ed]; simp
      rw [rangeD0] at hd
      obtain ⟨i, _, rfl⟩ := List.mem_map.mp hd
      have pl : pre.length + rest.length + 1 = cnt := by
        have := congrArg List.length ed
        rw [List.nil_append, rangeD_length, List.length_append, List.length_cons] at this
        omega
      obtain ⟨r, O', y6, y7, eb, q1, q2, q3, q4⟩ := closed_body (at_ := i) (cnt := (cnt : Int)) (x6 := x6) (x7 := x7) hcs h2 hf hfs (by omega) hw hw2 h3 h4
      refine ⟨⟨cloR cs fs cnt wide i x6 x7, O⟩, _, rfl, .inl eb, made ++ [r], O', _, y6, y7, by simp [hl], rfl, q1, fun q hq => ?_, fun q hq => ?_, fun q hq => ?_⟩
      · rcases List.mem_append.mp hq with z | z
        · exact h3 q z
        · rw [List.mem_singleton.mp z]; exact q2
      · rcases List.mem_append.mp hq with z | z
        · exact (h4 q z).mono (by rw [List.length_append]; omega)
        · rw [List.mem_singleton.mp z]; exact q3.mono (by rw [List.length_append, List.length_singleton]; omega)
      · rcases List.mem_append.mp hq with z | z
        · exact h5 q z
        · rw [List.mem_singleton.mp z]; exact q4) ⟨[some (vI cs), some (vI (1 :: fs)), some (.int (cnt : Int)), some (.int wide), some (.ptr 0), none, none, none], [.lst []]⟩ ⟨[], _, none, none, none, rfl, rfl, rfl, by simp, (fun _ h => by cases h), by simp⟩
  rw [List.nil_append, rangeD_length] at hpl
  subst hs'
  refine ⟨made, O.set 0 .dead, ?_, by omega, h3, fun q hq => (h4 q hq).mono (by omega), h5⟩
  refine q_run (R := [some (vI cs), some (vI (1 :: fs)), some (.int (cnt : Int)), some (.int wide), some (.ptr 0), x5, x6, x7]) ?_
  show m_law_closed ⟨[some (vI cs), some (vI (1 :: fs)), some (.int (cnt : Int)), some (.int wide), none, none, none, none], []⟩ = _
  rw [m_law_closed]
  refine q_seq (x_set (x_lstC (nilM_ev _) (by simp) rfl rfl) rfl) (q_seq ?_ (retM_eq (x_frz (varM_ev rfl) h2 rfl)))
  exact (forS_of (im := rng1 (consM (varM 2) nilM)) (ds := rangeD 0 (cnt : Int)) (k := none) (s1 := ⟨[some (vI cs), some (vI (1 :: fs)), some (.int (cnt : Int)), some (.int wide), some (.ptr 0), none, none, none], [.lst []]⟩) (rng1_nat (n := cnt) (x_cons (varM_ev rfl) (nilM_ev _)) (by omega))).trans el
theorem free_ok (z : Int) {many : Nat} {wide : Int} (hm : many ≤ 1000) (hw : 0 < wide) (hw2 : wide ≤ 1000000000) : ∃ r O, f_law_free [.int z, .int (many : Int), .int wide] [] = .ok (vI r, O) ∧ r.length = many ∧ SzL 31 r := by
  obtain ⟨a, c, eb⟩ := bag_ok z
  have h1 : setM 3 (callO 1 f_law_bag (consM (varM 0) nilM)) ⟨[some (.int z), some (.int (many : Int)), some (.int wide), none], []⟩ = .next ⟨[some (.int z), some (.int (many : Int)), some (.int wide), some (.ptr 0)], [.lst [.int a, .int c]]⟩ := x_set (x_callO (x_cons (varM_ev rfl) (nilM_ev _)) eb (by simp) rfl (shD_ptr _ _) (by simp [shC, shDs, shD])) rfl
  obtain ⟨r, O, e, l, s, b⟩ := compF1_ex (caps := [3, 2]) (im := rng1 (consM (varM 1) nilM)) (e := callS 2 f_law_number (consM (varM 1) (consM (varM 2) nilM))) (s := ⟨[some (.int z), some (.int (many : Int)), some (.int wide), some (.ptr 0)], [.lst [.int a, .int c]]⟩) (ds := rangeD 0 (many : Int)) (k := none)
    (fun O' => BagAt O' 0) (Sz 31) (rng1_nat (x_cons (varM_ev rfl) (nilM_ev _)) (by omega)) (fun _ _ => trivial) ⟨a, c, rfl⟩ (by rw [rangeD_length]; omega) (fun d _ O' hb => by
      obtain ⟨r, O2, en, q1, q2, q3⟩ := number_bag hb hw hw2
      exact ⟨r, O2, x_callS (x_cons (varM_ev rfl) (x_cons (varM_ev rfl) (nilM_ev _))) en rfl, q1, q2⟩)
  rw [rangeD_length] at l
  refine ⟨r, O, ?_, by omega, s⟩
  refine q_run (R := [some (.int z), some (.int (many : Int)), some (.int wide), some (.ptr 0)]) ?_
  show m_law_free ⟨[some (.int z), some (.int (many : Int)), some (.int wide), none], []⟩ = _
  rw [m_law_free]
  exact q_seq h1 (retM_eq e)
def turnL (t : Nat) (r : List Int) : List Int := r.drop t ++ r.take t
theorem turned_ok {rows : List (List Int)} {t n : Nat} (hl : ∀ r ∈ rows, r.length = n) (ht : t ≤ n) (hn : n ≤ 1000) (hc : rows.length ≤ 1000) : f_law_turned [vII rows, .int (t : Int)] [] = .ok (vII (rows.map (turnL t)), []) := by
  have hcp := compF1 (l := rows) (item := vI) (out := fun r => vI (turnL t r)) (caps := [1]) (im := listI (varM 0)) (e := binM addD (slM (varM 0) (part (varM 1)) noPart) (slM (varM 0) noPart (part (varM 1)))) (k := none) (s := ⟨[some (vII rows), some (.int (t : Int))], []⟩) (by rw [listI_ev, varM_ev (i := 0) rfl, bind_ok]; rfl) trivial (by omega) (fun r hr => by
    have rl := hl r hr
    refine x_bin (x_sl (varM_ev rfl) (x_part (varM_ev rfl)) (x_noPart _) lsD_lst (cutD_from (by omega))) (x_sl (varM_ev rfl) (x_noPart _) (x_part (varM_ev rfl)) lsD_lst cutD_take) ?_
    rw [addD_lst (by simp; omega), ← List.map_append]
    rfl)
  rw [show rows.map (fun r => vI (turnL t r)) = (rows.map (turnL t)).map vI by rw [List.map_map]; rfl] at hcp
  refine q_run (R := [some (vII rows), some (.int (t : Int))]) ?_
  show m_law_turned ⟨[some (vII rows), some (.int (t : Int))], []⟩ = _
  rw [m_law_turned]
  exact retM_eq hcp
theorem turn_len {t : Nat} {r : List Int} (h : t ≤ r.length) : (turnL t r).length = r.length := by
  unfold turnL
  rw [List.length_append, List.length_drop, List.length_take]
  omega
theorem turn_mem {t : Nat} {r : List Int} {x : Int} : x ∈ turnL t r ↔ x ∈ r := by
  unfold turnL
  rw [List.mem_append, or_comm, ← List.mem_append, List.take_append_drop]
theorem dotL_app {a b c d : List Int} (h : a.length = c.length) : dotL (a ++ b) (c ++ d) = dotL a c + dotL b d := by
  unfold dotL
  rw [List.zipWith_append h, List.sum_append]
theorem turn_dot {t : Nat} {r x : List Int} (h : r.length = x.length) : dotL (turnL t r) (turnL t x) = dotL r x := by
  unfold turnL
  have e : dotL r x = dotL (r.take t ++ r.drop t) (x.take t ++ x.drop t) := by rw [List.take_append_drop, List.take_append_drop]
  rw [e, dotL_app (by rw [List.length_drop, List.length_drop, h]), dotL_app (by rw [List.length_take, List.length_take, h])]
  omega
theorem turn_fit {t n : Nat} {rows : List (List Int)} {fs : List Int} (hf : fs.length + 1 = n) (h0 : ∀ a ∈ fs, 0 ≤ a) (hl : ∀ r ∈ rows, r.length = n) (hd : ∀ r ∈ rows, dotL r (1 :: fs) = 0) (ht : t ≤ n) : Fit n (rows.map (turnL t)) (turnL t (1 :: fs)) := by
  have len : (turnL t (1 :: fs)).length = n := by rw [turn_len (by simp; omega)]; simpa using hf
  refine ⟨len, fun i => ?_, fun q hq => ?_, ?_⟩
  · by_cases hi : i < (turnL t (1 :: fs)).length
    · have := turn_mem.mp (nth_mem hi)
      rcases List.mem_cons.mp this with h | h
      · rw [h]; decide
      · exact h0 _ h
    · rw [nth_out (by omega)]; decide
  · obtain ⟨r, hr, rfl⟩ := List.mem_map.mp hq
    rw [← dotL_F len, turn_dot (by rw [hl r hr]; simp; omega), hd r hr]
  · have : (1 : Int) ∈ turnL t (1 :: fs) := turn_mem.mpr List.mem_cons_self
    obtain ⟨i, hi, e⟩ := List.getElem_of_mem this
    refine ⟨i, ?_⟩
    unfold nth
    rw [List.getD_eq_getElem?_getD, List.getElem?_eq_getElem hi, e]
    decide
theorem lists_of {Q : List Int → Prop} : ∀ {outs : List D}, (∀ y ∈ outs, ∃ r, y = vI r ∧ Q r) → ∃ R : List (List Int), outs = R.map vI ∧ ∀ r ∈ R, Q r
  | [], _ => ⟨[], rfl, by simp⟩
  | y :: outs, h => by
    obtain ⟨r, rfl, hr⟩ := h y List.mem_cons_self
    obtain ⟨R, rfl, hn⟩ := lists_of (outs := outs) fun z hz => h z (List.mem_cons_of_mem _ hz)
    exact ⟨r :: R, rfl, fun n hn' => by
      rcases List.mem_cons.mp hn' with rfl | q
      · exact hr
      · exact hn n q⟩
theorem compF1_exL {caps : List Nat} {im : IM} {e : EM} {s : S} {ds : List D} {k : Option Nat} (Q : List Int → Prop) (him : im s = .ok ((ds, k), s)) (hok : okC ds k s.o) (hl : ds.length ≤ 1000000)
    (he : ∀ d ∈ ds, ∃ r, e ⟨some d :: caps.map (fun i => (s.r[i]?).getD none), s.o⟩ = .ok (vI r, ⟨some d :: caps.map (fun i => (s.r[i]?).getD none), s.o⟩) ∧ Q r) :
    ∃ R : List (List Int), compF 1 caps im (nameG 0) trueT e s = .ok (vII R, s) ∧ R.length = ds.length ∧ ∀ r ∈ R, Q r := by
  obtain ⟨outs, s', e1, h1, h2, x, h3⟩ := compGo_ex (ok := okC ds k) (g := nameG 0) (c := trueT) (e := e) (fun s2 => ∃ x, s2 = ⟨x :: caps.map (fun i => (s.r[i]?).getD none), s.o⟩) (fun y => ∃ r, y = vI r ∧ Q r) (by rintro _ ⟨_, rfl⟩; exact hok) ds [] ⟨capM 1 caps s.r, s.o⟩ (by
    rintro d hd _ ⟨x, rfl⟩
    obtain ⟨r, q1, q2⟩ := he d hd
    exact ⟨_, _, vI r, _, rfl, rfl, q1, ⟨r, rfl, q2⟩, _, rfl⟩) (by simpa using le_line hl) ⟨none, rfl⟩
  obtain ⟨R, rfl, hn⟩ := lists_of h2
  refine ⟨R, ?_, by simpa using h1, hn⟩
  rw [compF_ev, compM_ev, him, bind_ok]
  dsimp only
  rw [e1, bind_ok, bind_ok]
  subst h3
  rfl
theorem neD_self {O : Store} {d : Nat} {L : List (Nat × List Int)} (hd : O[d]? = some (.lst (ptrs L))) (h : Sto O L) : neD O (.lst (ptrs L)) (.ptr d) = .ok (.bl false) := by
  have e : eqB O (.lst (ptrs L)) (.ptr d) = eqB O (vII (L.map (·.2))) (vII (L.map (·.2))) := by
    show eqDeep O _ _ = eqDeep O _ _
    unfold eqDeep
    have q : res O (vII (L.map (·.2))) = vII (L.map (·.2)) := by rw [res_lst, ress_vI]
    rw [res_deep hd h, res_lst, ress_ptrs h, q, q]
  unfold neD
  rw [e, eqB_vII]
  simp
theorem sortV_perm (V : List (List Int)) : (sortV V).Perm V := by
  unfold sortV
  have := (sortK_perm (V.map fun x => ((), x))).map (·.2)
  rw [List.map_map, show ((fun x : Unit × List Int => x.2) ∘ fun x => ((), x)) = id from rfl, List.map_id] at this
  exact this
theorem wide2 (many w : Int) (O : Store) (w0 : 0 ≤ w) (w1 : w < 2) : ∃ i wide, mulD O (.int (if decide (many < 5) = true then 1 else 0)) (.int w) = .ok (.int i) ∧ ixD O (.lst [.int 4, .int 1000000000]) (.int i) = .ok (.int wide) ∧ 0 < wide ∧ wide ≤ 1000000000 := by
  have h : w = 0 ∨ w = 1 := by omega
  rcases h with rfl | rfl
  · refine ⟨0, 4, ?_, ixL0 _ _, by decide, by decide⟩
    rw [mulD_int (mul_small (.inr (by decide))), Int.mul_zero]
  · by_cases h : many < 5
    · refine ⟨1, 1000000000, ?_, ixL1 _ _ _, by decide, by decide⟩
      rw [mulD_int (mul_small (.inr (by decide))), decide_eq_true h]; rfl
    · refine ⟨0, 4, ?_, ixL0 _ _, by decide, by decide⟩
      rw [mulD_int (mul_small (.inr (by decide))), decide_eq_false h]; rfl
theorem wide3 (many : Int) (O : Store) : ∃ wide, ixD O (.lst [.int 4, .int 1000000000]) (.int (if decide (many < 5) = true then 1 else 0)) = .ok (.int wide) ∧ 0 < wide ∧ wide ≤ 1000000000 := by
  by_cases h : many < 5
  · exact ⟨1000000000, by rw [decide_eq_true h]; exact ixL1 _ _ _, by decide, by decide⟩
  · exact ⟨4, by rw [decide_eq_false h]; exact ixL0 _ _, by decide, by decide⟩
theorem law_true (ns : List Int) (h : ns.length ≤ 63) : ∃ O, f_law [.lst (ns.map D.int)] [] = .ok (.bl true, O) := by
  obtain ⟨c0, k0, _⟩ := cell_ok ns 0
  obtain ⟨c1, k1, _⟩ := cell_ok ns 1
  obtain ⟨c2, k2, _⟩ := cell_ok ns 2
  have k0 : f_law_cell [vI ns, .int 0] [] = .ok (.int c0, []) := k0
  have k1 : f_law_cell [vI ns, .int 1] [] = .ok (.int c1, []) := k1
  have k2 : f_law_cell [vI ns, .int 2] [] = .ok (.int c2, []) := k2
  obtain ⟨ks, hcut, hks⟩ := cutD_mid ns 3 8
  have hks : ks.length ≤ 5 := by omega
  have pc : ∀ z : Int, pureDs [vI ns, .int z] = true := fun z => by simp
  have call : ∀ {z c : Int} {R : List (Option D)} {O : Store}, f_law_cell [vI ns, .int z] [] = .ok (.int c, []) → R[0]? = some (some (vI ns)) → callP 2 f_law_cell (consM (varM 0) (consM (cstM (.int z)) nilM)) ⟨R, O⟩ = .ok (.int c, ⟨R, O⟩) := fun hc hR => x_callP (x_cons (varM_ev hR) (x_cons (cstM_ev _ _) (nilM_ev _))) hc (pc _) rfl rfl
  have sl : ∀ {R : List (Option D)} {O : Store}, R[0]? = some (some (vI ns)) → slM (varM 0) (part (cstM (.int 3))) (part (cstM (.int 8))) ⟨R, O⟩ = .ok (vI ks, ⟨R, O⟩) := fun hR => x_sl (varM_ev hR) (x_part (cstM_ev _ _)) (x_part (cstM_ev _ _)) lsD_lst hcut
  have e1 : setM 1 (binM addD (cstM (.int 1)) (binM modD (callP 2 f_law_cell (consM (varM 0) (consM (cstM (.int 0)) nilM))) (cstM (.int 6)))) ⟨[some (vI ns), none, none, none, none, none, none, none, none, none, none], []⟩ = .next ⟨[some (vI ns), some (.int (1 + c0 % 6)), none, none, none, none, none, none, none, none, none], []⟩ := x_set (x_bin (cstM_ev _ _) (x_bin (call k0 rfl) (cstM_ev _ _) (modD_pos (by decide))) (addD_int _ _)) rfl
  have e2 : ∃ many : Nat, 0 < many ∧ many ≤ 7 ∧ ifS (tstM (binM eqD (binM modD (binM fdivD (callP 2 f_law_cell (consM (varM 0) (consM (cstM (.int 0)) nilM))) (cstM (.int 6))) (cstM (.int 8))) (cstM (.int 1)))) (setM 1 (cstM (.int 7))) skipM ⟨[some (vI ns), some (.int (1 + c0 % 6)), none, none, none, none, none, none, none, none, none], []⟩ = .next ⟨[some (vI ns), some (.int (many : Int)), none, none, none, none, none, none, none, none, none], []⟩ := by
    have t : tstM (binM eqD (binM modD (binM fdivD (callP 2 f_law_cell (consM (varM 0) (consM (cstM (.int 0)) nilM))) (cstM (.int 6))) (cstM (.int 8))) (cstM (.int 1))) ⟨[some (vI ns), some (.int (1 + c0 % 6)), none, none, none, none, none, none, none, none, none], []⟩ = .ok (decide (c0 / 6 % 8 = 1), ⟨[some (vI ns), some (.int (1 + c0 % 6)), none, none, none, none, none, none, none, none, none], []⟩) := eq_test (x_bin (x_bin (call k0 rfl) (cstM_ev _ _) (fdivD_small (by decide) (by decide))) (cstM_ev _ _) (modD_pos (by decide)))
    by_cases hq : c0 / 6 % 8 = 1
    · exact ⟨7, by decide, by decide, q_ifT t (decide_eq_true hq) (x_set (cstM_ev _ _) rfl)⟩
    · refine ⟨(1 + c0 % 6).toNat, by omega, by omega, q_ifF t (decide_eq_false hq) ((skipM_ev _).trans ?_)⟩
      rw [show (((1 + c0 % 6).toNat : Nat) : Int) = 1 + c0 % 6 by omega]
  obtain ⟨many, m0, m7, e2⟩ := e2
  have e3 : setM 2 (binM addD (lstM (consM (callP 2 f_law_cell (consM (varM 0) (consM (cstM (.int 1)) nilM))) nilM)) (slM (varM 0) (part (cstM (.int 3))) (part (cstM (.int 8))))) ⟨[some (vI ns), some (.int (many : Int)), none, none, none, none, none, none, none, none, none], []⟩ = .next ⟨[some (vI ns), some (.int (many : Int)), some (vI (c1 :: ks)), none, none, none, none, none, none, none, none], []⟩ := by
    refine x_set (x_bin (x_lst (x_cons (call k1 rfl) (nilM_ev _)) (by simp)) (sl rfl) ?_) rfl
    rw [addD_lst (by simp; omega)]
    rfl
  obtain ⟨a, c, eb⟩ := bag_ok c2
  have e4 : setM 3 (callO 1 f_law_bag (consM (callP 2 f_law_cell (consM (varM 0) (consM (cstM (.int 2)) nilM))) nilM)) ⟨[some (vI ns), some (.int (many : Int)), some (vI (c1 :: ks)), none, none, none, none, none, none, none, none], []⟩ = .next ⟨[some (vI ns), some (.int (many : Int)), some (vI (c1 :: ks)), some (.ptr 0), none, none, none, none, none, none, none], [.lst [.int a, .int c]]⟩ := x_set (x_callO (x_cons (call k2 rfl) (nilM_ev _)) eb (by simp) rfl (shD_ptr _ _) (by simp [shC, shDs, shD])) rfl
  have b0 : BagAt [Cell.lst [D.int a, .int c]] 0 := ⟨a, c, rfl⟩
  obtain ⟨w, O1, d1, w0, w1, b1, _⟩ := draw_bag b0 (m := 4) (by decide)
  have e5 : setM 4 (binM ltD (callS 2 f_law_draw (consM (varM 3) (consM (cstM (.int 4)) nilM))) (cstM (.int 3))) ⟨[some (vI ns), some (.int (many : Int)), some (vI (c1 :: ks)), some (.ptr 0), none, none, none, none, none, none, none], [.lst [.int a, .int c]]⟩ = .next ⟨[some (vI ns), some (.int (many : Int)), some (vI (c1 :: ks)), some (.ptr 0), some (.bl (decide (w < 3))), none, none, none, none, none, none], O1⟩ := x_set (x_bin (x_callS (x_cons (varM_ev rfl) (x_cons (cstM_ev _ _) (nilM_ev _))) d1 rfl) (cstM_ev _ _) (ltD_int _ _)) rfl
  generalize decide (w < 3) = cl at e5
  obtain ⟨fs, O2, d2, fl, f0, b2⟩ := fit_ok b1 (many := many) (by omega) (by omega)
  have fz : SzL 20 fs := fun x hx => by
    have := f0 x hx
    unfold Sz
    omega
  obtain ⟨v, O3, d3, v0, v1, b3, _⟩ := draw_bag b2 (m := 2) (by decide)
  obtain ⟨i, wide, i1, i2, wd0, wd1⟩ := wide2 (many : Int) v O3 v0 v1
  obtain ⟨made, Oc, ec, ml, mlen, msz, mst⟩ := closed_ok (cs := c1 :: ks) (fs := fs) (cnt := ks.length) (wide := wide) (by simp) (by omega) fz hks wd0 wd1
  have p10 : ∀ O, powD O (.int 10) (.int 9) = .ok (.int 1000000000) := fun O => powD_int (by decide) (by decide) (by decide)
  have e6 : setM 5 (callP 4 f_law_closed (consM (varM 2) (consM (callS 2 f_law_fit (consM (varM 3) (consM (varM 1) nilM))) (consM (calM lenD (consM (slM (varM 0) (part (cstM (.int 3))) (part (cstM (.int 8)))) nilM)) (consM (binM ixD (lstM (consM (cstM (.int 4)) (consM (binM powD (cstM (.int 10)) (cstM (.int 9))) nilM))) (binM mulD (calM intOf (consM (binM ltD (varM 1) (cstM (.int 5))) nilM)) (callS 2 f_law_draw (consM (varM 3) (consM (cstM (.int 2)) nilM))))) nilM))))) ⟨[some (vI ns), some (.int (many : Int)), some (vI (c1 :: ks)), some (.ptr 0), some (.bl cl), none, none, none, none, none, none], O1⟩ = .next ⟨[some (vI ns), some (.int (many : Int)), some (vI (c1 :: ks)), some (.ptr 0), some (.bl cl), some (vII made), none, none, none, none, none], O3⟩ := by
    refine x_set (x_callP (x_cons (varM_ev rfl) (x_cons (x_callS (x_cons (varM_ev rfl) (x_cons (varM_ev rfl) (nilM_ev _))) d2 rfl) (x_cons (x_cal (x_cons (sl rfl) (nilM_ev _)) (lenD_lst _)) (x_cons (x_bin (x_lst (x_cons (cstM_ev _ _) (x_cons (x_bin (cstM_ev _ _) (cstM_ev _ _) (p10 _)) (nilM_ev _))) (by simp)) (x_bin (x_cal (x_cons (x_bin (varM_ev rfl) (cstM_ev _ _) (ltD_int _ _)) (nilM_ev _)) (intOf_bl _)) (x_callS (x_cons (varM_ev rfl) (x_cons (cstM_ev _ _) (nilM_ev _))) d3 rfl) i1) i2) (nilM_ev _))))) (by rw [List.length_map]; exact ec) (by simp) rfl (by rw [pureD_lst, pureDs_vI])) rfl
  obtain ⟨t, O4, d4, t0, t1, b4, _⟩ := draw_bag b3 (m := (many : Int)) (by omega)
  obtain ⟨tn, rfl⟩ : ∃ tn : Nat, t = (tn : Int) := ⟨t.toNat, by omega⟩
  have e7 : setM 6 (callS 2 f_law_draw (consM (varM 3) (consM (varM 1) nilM))) ⟨[some (vI ns), some (.int (many : Int)), some (vI (c1 :: ks)), some (.ptr 0), some (.bl cl), some (vII made), none, none, none, none, none], O3⟩ = .next ⟨[some (vI ns), some (.int (many : Int)), some (vI (c1 :: ks)), some (.ptr 0), some (.bl cl), some (vII made), some (.int (tn : Int)), none, none, none, none], O4⟩ := x_set (x_callS (x_cons (varM_ev rfl) (x_cons (varM_ev rfl) (nilM_ev _))) d4 rfl) rfl
  have e8 : ∃ some_ : List (List Int), some_.length ≤ 5 ∧ (∀ r ∈ some_, r.length = many) ∧ SzLL 200 some_ ∧ (cl = true → ∀ r ∈ some_, dotL r (1 :: fs) = 0) ∧ ifS (notT (tstM (varM 4))) (setM 5 (compF 1 [1] (listI (slM (varM 0) (part (cstM (.int 3))) (part (cstM (.int 8))))) (nameG 0) trueT (callP 3 f_law_free (consM (varM 0) (consM (varM 1) (consM (binM ixD (lstM (consM (cstM (.int 4)) (consM (binM powD (cstM (.int 10)) (cstM (.int 9))) nilM))) (calM intOf (consM (binM ltD (varM 1) (cstM (.int 5))) nilM))) nilM)))))) skipM ⟨[some (vI ns), some (.int (many : Int)), some (vI (c1 :: ks)), some (.ptr 0), some (.bl cl), some (vII made), some (.int (tn : Int)), none, none, none, none], O4⟩ = .next ⟨[some (vI ns), some (.int (many : Int)), some (vI (c1 :: ks)), some (.ptr 0), some (.bl cl), some (vII some_), some (.int (tn : Int)), none, none, none, none], O4⟩ := by
    cases cl with
    | true => exact ⟨made, by omega, fun r hr => by rw [mlen r hr]; omega, msz, fun _ => mst, q_ifF (x_not (x_tst (varM_ev rfl))) rfl (skipM_ev _)⟩
    | false =>
      obtain ⟨wf, j2, wf0, wf1⟩ := wide3 (many : Int) O4
      obtain ⟨R, er, rl, rq⟩ := compF1_exL (caps := [1]) (im := listI (slM (varM 0) (part (cstM (.int 3))) (part (cstM (.int 8))))) (e := callP 3 f_law_free (consM (varM 0) (consM (varM 1) (consM (binM ixD (lstM (consM (cstM (.int 4)) (consM (binM powD (cstM (.int 10)) (cstM (.int 9))) nilM))) (calM intOf (consM (binM ltD (varM 1) (cstM (.int 5))) nilM))) nilM)))) (s := ⟨[some (vI ns), some (.int (many : Int)), some (vI (c1 :: ks)), some (.ptr 0), some (.bl false), some (vII made), some (.int (tn : Int)), none, none, none, none], O4⟩) (ds := ks.map D.int) (k := none) (fun r => r.length = many ∧ SzL 31 r) (by rw [listI_ev, sl rfl, bind_ok]; rfl) trivial (by simp; omega) (fun d hd => by
        obtain ⟨z, _, rfl⟩ := List.mem_map.mp hd
        obtain ⟨r, Of, ef, q1, q2⟩ := free_ok z (many := many) (wide := wf) (by omega) wf0 wf1
        exact ⟨r, x_callP (x_cons (varM_ev rfl) (x_cons (varM_ev rfl) (x_cons (x_bin (x_lst (x_cons (cstM_ev _ _) (x_cons (x_bin (cstM_ev _ _) (cstM_ev _ _) (p10 _)) (nilM_ev _))) (by simp)) (x_cal (x_cons (x_bin (varM_ev rfl) (cstM_ev _ _) (ltD_int _ _)) (nilM_ev _)) (intOf_bl _)) j2) (nilM_ev _)))) ef (by simp) rfl (by simp), q1, q2⟩)
      exact ⟨R, by rw [rl, List.length_map]; exact hks, fun r hr => (rq r hr).1, fun r hr => (rq r hr).2.mono (by decide), (fun z => by cases z), q_ifT (x_not (x_tst (varM_ev rfl))) rfl (x_set er rfl)⟩
  obtain ⟨some_, sl5, slen, ssz, sst, e8⟩ := e8
  have e9 : setM 5 (callP 2 f_law_turned (consM (varM 5) (consM (varM 6) nilM))) ⟨[some (vI ns), some (.int (many : Int)), some (vI (c1 :: ks)), some (.ptr 0), some (.bl cl), some (vII some_), some (.int (tn : Int)), none, none, none, none], O4⟩ = .next ⟨[some (vI ns), some (.int (many : Int)), some (vI (c1 :: ks)), some (.ptr 0), some (.bl cl), some (vII (some_.map (turnL tn))), some (.int (tn : Int)), none, none, none, none], O4⟩ := x_set (x_callP (x_cons (varM_ev rfl) (x_cons (varM_ev rfl) (nilM_ev _))) (turned_ok slen (by omega) (by omega) (by omega)) (by simp) rfl (by rw [pureD_lst, pureDs_vI])) rfl
  have rok : RowsOk many (some_.map (turnL tn)) := ⟨fun r hr => by
    obtain ⟨q, hq, rfl⟩ := List.mem_map.mp hr
    rw [turn_len (by rw [slen q hq]; omega), slen q hq], fun r hr x hx => by
    obtain ⟨q, hq, rfl⟩ := List.mem_map.mp hr
    exact ssz q hq x (turn_mem.mp hx), by rw [List.length_map]; exact sl5, m7⟩
  have rfit : cl = true → Fit many (some_.map (turnL tn)) (turnL tn (1 :: fs)) := fun hc => turn_fit (by omega) (fun a ha => (f0 a ha).1) slen (sst hc) (by omega)
  generalize some_.map (turnL tn) = rows at e9 rok rfit
  generalize turnL tn (1 :: fs) = fit at rfit
  have rcnt := rok.cnt
  have e10 := setM_eq (i := 8) (compF1 (l := rows) (item := vI) (out := vI) (caps := []) (im := listI (varM 5)) (e := calM listD (consM (varM 0) nilM)) (k := none) (s := ⟨[some (vI ns), some (.int (many : Int)), some (vI (c1 :: ks)), some (.ptr 0), some (.bl cl), some (vII rows), some (.int (tn : Int)), none, none, none, none], O4⟩) (by rw [listI_ev, varM_ev (i := 5) rfl, bind_ok]; rfl) trivial (by omega) (fun r _ => x_cal (x_cons (varM_ev rfl) (nilM_ev _)) (listD_lst _)))
  obtain ⟨d, Op, Q, ep, hd, sQ, nQ, qS, qV⟩ := lone_ok rok
  have know : Know many rows (loneLs rows many) := lone_know rok.len
  have perm : (Q.map (·.2)).Perm (loneLs rows many) := by rw [qV]; exact sortV_perm _
  have qlone : ∀ x ∈ Q.map (·.2), Lone many rows x := fun x hx => (know.all x).mp (perm.mem_iff.mp hx)
  have qsz : ∀ x ∈ Q.map (·.2), SzL 8000 x := fun x hx => fold_sz' rok (rs := rows) (fun _ q => q) rcnt x (perm.mem_iff.mp hx)
  have qnd : (Q.map (·.2)).Nodup := perm.nodup_iff.mpr know.nd
  have qfew : Q.length < 64 := by
    have := know.few m7
    rw [← perm.length_eq, List.length_map] at this
    exact this
  have qne : cl = true → Q.length ≠ 0 := fun hc hz => by
    obtain ⟨l, hl, _⟩ := lone_in (cnt fit) (Nat.le_refl _) (rfit hc)
    have := perm.mem_iff.mpr ((know.all l).mpr hl)
    rw [List.eq_nil_of_length_eq_zero hz] at this
    cases this
  have pa : pureDs [vII rows, .int (many : Int)] = true := pure2 _ rfl
  have e11 : setM 9 (callO 2 f_lone (consM (varM 8) (consM (varM 1) nilM))) ⟨[some (vI ns), some (.int (many : Int)), some (vI (c1 :: ks)), some (.ptr 0), some (.bl cl), some (vII rows), some (.int (tn : Int)), none, some (vII rows), none, none], O4⟩ = .next ⟨[some (vI ns), some (.int (many : Int)), some (vI (c1 :: ks)), some (.ptr 0), some (.bl cl), some (vII rows), some (.int (tn : Int)), none, some (vII rows), some (.ptr (O4.length + d)), none], O4 ++ Op.map (shC O4.length)⟩ :=
    x_set (x_callO (x_cons (varM_ev rfl) (x_cons (varM_ev rfl) (nilM_ev _))) ep pa rfl (shD_ptr _ _) rfl) rfl
  have hd1 : (O4 ++ Op.map (shC O4.length))[O4.length + d]? = some (.lst (ptrs (Q.map fun p => (O4.length + p.1, p.2)))) := cell_sh (S := O4) hd
  have sQ1 : Sto (O4 ++ Op.map (shC O4.length)) (Q.map fun p => (O4.length + p.1, p.2)) := sto_sh (S := O4) sQ
  have nQ1 : ∀ p ∈ Q.map (fun p => (O4.length + p.1, p.2)), p.1 ≠ O4.length + d := fun p hp => by
    obtain ⟨q, hq, rfl⟩ := List.mem_map.mp hp
    have := nQ q hq
    dsimp only
    omega
  have mQ1 : (Q.map fun p => (O4.length + p.1, p.2)).map (·.2) = Q.map (·.2) := by rw [List.map_map]; rfl
  have lQ1 : (Q.map fun p => (O4.length + p.1, p.2)).length = Q.length := List.length_map _
  have srt : sortK (Q.map fun p => (O4.length + p.1, p.2)) = Q.map fun p => (O4.length + p.1, p.2) := by
    rw [sortK_map (g := fun p : Nat × List Int => (O4.length + p.1, p.2)) fun _ => rfl, ← qS]
  generalize O4 ++ Op.map (shC O4.length) = O5 at *
  generalize hQ1 : (Q.map fun p => (O4.length + p.1, p.2)) = Q1 at *
  generalize O4.length + d = d1 at *
  have lone1 : ∀ p ∈ Q1, p.2 ∈ Q.map (·.2) := fun p hp => by rw [← mQ1]; exact List.mem_map_of_mem hp
  have e12 : ifS (orT (notT (tstM (unM (isiD "list") (varM 9)))) (orT (tstM (binM neD (varM 8) (varM 5))) (andT (tstM (varM 4)) (tstM (binM eqD (calM lenD (consM (varM 9) nilM)) (cstM (.int 0))))))) (retM (cstM (.bl false))) skipM ⟨[some (vI ns), some (.int (many : Int)), some (vI (c1 :: ks)), some (.ptr 0), some (.bl cl), some (vII rows), some (.int (tn : Int)), none, some (vII rows), some (.ptr d1), none], O5⟩ = .next ⟨[some (vI ns), some (.int (many : Int)), some (vI (c1 :: ks)), some (.ptr 0), some (.bl cl), some (vII rows), some (.int (tn : Int)), none, some (vII rows), some (.ptr d1), none], O5⟩ := by
    refine q_ifF (x_orF (x_not (x_tst (x_un (varM_ev rfl) (isi_ptr hd1 _)))) (by decide) (x_orF (x_tst (x_bin (varM_ev rfl) (varM_ev rfl) (neD_vII _ _))) (by simp) (x_and (x_tst (varM_ev rfl)) (eq_test (x_cal (x_cons (varM_ev rfl) (nilM_ev _)) (lenD_ptr hd1)))))) ?_ (skipM_ev _)
    cases cl with
    | false => rfl
    | true =>
      have := qne rfl
      rw [Bool.true_and, decide_eq_false]
      rw [List.length_map]
      omega
  have hcs := compF1 (l := Q1) (item := fun p => .ptr p.1) (out := fun _ => .bl true) (caps := [1, 5]) (im := listI (varM 9)) (e := callV 3 f_law_is_lone (consM (varM 0) (consM (varM 2) (consM (varM 1) nilM)))) (k := some d1) (s := ⟨[some (vI ns), some (.int (many : Int)), some (vI (c1 :: ks)), some (.ptr 0), some (.bl cl), some (vII rows), some (.int (tn : Int)), none, some (vII rows), some (.ptr d1), none], O5⟩) (listI_ptr (varM_ev rfl) hd1) hd1 (by omega) (fun p hp => by
    have il := is_lone_ok (qlone _ (lone1 p hp)) m0 m7 (qsz _ (lone1 p hp)) (rok.sz.mono (by decide)) (by omega) rok.len
    refine x_callV (x_cons (varM_ev rfl) (x_cons (varM_ev rfl) (x_cons (varM_ev rfl) (nilM_ev _)))) ?_ il (by simp) rfl rfl
    dsimp only
    simp only [ress_cons, ress_nil, res_ptr (sQ1 p hp), res_int, res_lst, ress_ints', ress_vI])
  rw [show Q1.map (fun _ => D.bl true) = (Q1.map fun _ => true).map D.bl by rw [List.map_map]; rfl] at hcs
  have e13 : ifS (orT (notT (tstM (calM allD (consM (compF 1 [1, 5] (listI (varM 9)) (nameG 0) trueT (callV 3 f_law_is_lone (consM (varM 0) (consM (varM 2) (consM (varM 1) nilM))))) nilM)))) (orT (tstM (binM neD (sortM finF (varM 9)) (varM 9))) (notT (tstM (callV 1 f_law_apart (consM (varM 9) nilM)))))) (retM (cstM (.bl false))) skipM ⟨[some (vI ns), some (.int (many : Int)), some (vI (c1 :: ks)), some (.ptr 0), some (.bl cl), some (vII rows), some (.int (tn : Int)), none, some (vII rows), some (.ptr d1), none], O5⟩ = .next ⟨[some (vI ns), some (.int (many : Int)), some (vI (c1 :: ks)), some (.ptr 0), some (.bl cl), some (vII rows), some (.int (tn : Int)), none, some (vII rows), some (.ptr d1), none], O5⟩ := by
    have so : sortM finF (varM 9) ⟨[some (vI ns), some (.int (many : Int)), some (vI (c1 :: ks)), some (.ptr 0), some (.bl cl), some (vII rows), some (.int (tn : Int)), none, some (vII rows), some (.ptr d1), none], O5⟩ = .ok (.lst (ptrs Q1), ⟨[some (vI ns), some (.int (many : Int)), some (vI (c1 :: ks)), some (.ptr 0), some (.bl cl), some (vII rows), some (.int (tn : Int)), none, some (vII rows), some (.ptr d1), none], O5⟩) := by
      have := sort_run (O := O5) (fin := finF) (L := Q1) (me := varM 9) (s := ⟨[some (vI ns), some (.int (many : Int)), some (vI (c1 :: ks)), some (.ptr 0), some (.bl cl), some (vII rows), some (.int (tn : Int)), none, some (vII rows), some (.ptr d1), none], O5⟩) (varM_ev rfl) (lsD_ptr hd1) sQ1 (by omega) (by rw [mQ1]; exact qnd)
      rw [this, srt]
      exact finF_ev _ _
    have ap := apart_ok (Ls := Q.map (·.2)) qlone m7
    refine q_ifF (x_orF (x_not (x_tst (x_cal (x_cons hcs (nilM_ev _)) (allD_bls _ _)))) (by simp) (x_orF (x_tst (x_bin so (varM_ev rfl) (neD_self hd1 sQ1))) rfl (x_not (x_tst (x_callV (x_cons (varM_ev rfl) (nilM_ev _)) ?_ ap (by rw [pureDs_cons, pureD_lst, pureDs_vI]; rfl) rfl rfl))))) rfl (skipM_ev _)
    rw [ress_cons, ress_nil, ress_cons, ress_nil, res_deep hd1 sQ1, mQ1]
  have e14 := setM_eq (i := 10) (compF1 (l := Q1) (item := fun p => .ptr p.1) (out := fun p => vI p.2) (caps := []) (im := listI (varM 9)) (e := calM listD (consM (varM 0) nilM)) (k := some d1) (s := ⟨[some (vI ns), some (.int (many : Int)), some (vI (c1 :: ks)), some (.ptr 0), some (.bl cl), some (vII rows), some (.int (tn : Int)), none, some (vII rows), some (.ptr d1), none], O5⟩) (listI_ptr (varM_ev rfl) hd1) hd1 (by omega) (fun p hp => x_cal (x_cons (varM_ev rfl) (nilM_ev _)) (listD_cell (sQ1 p hp))))
  rw [show Q1.map (fun p => vI p.2) = (Q.map (·.2)).map vI by rw [← mQ1, List.map_map]; rfl] at e14
  obtain ⟨x7, O6, eg, hd2⟩ := grow_go (body := b_law_1) (g := nameG 7) (fun x O => ⟨[some (vI ns), some (.int (many : Int)), some (vI (c1 :: ks)), some (.ptr 0), some (.bl cl), some (vII rows), some (.int (tn : Int)), x, some (vII rows), some (.ptr d1), some (vII (Q.map (·.2)))], O⟩) (fun _ _ => rfl) nQ1 (fun _ _ _ => rfl) (fun y O xs hy hl => by
    rw [b_law_1]
    exact dropM_eq (x_app (varM_ev rfl) hy (cstM_ev _ _) hy hl rfl)) Q1 0 none O5 (fun _ h => h) (by omega) hd1 (fun p hp => ⟨_, sQ1 p hp, by
      rw [List.length_map, (qlone _ (lone1 p hp)).fit.len]
      omega⟩)
  have hf := forS_of (im := listI (varM 9)) (g := nameG 7) (body := b_law_1) (s := ⟨[some (vI ns), some (.int (many : Int)), some (vI (c1 :: ks)), some (.ptr 0), some (.bl cl), some (vII rows), some (.int (tn : Int)), none, some (vII rows), some (.ptr d1), some (vII (Q.map (·.2)))], O5⟩) (ds := ptrs Q1) (k := some d1) (s1 := ⟨[some (vI ns), some (.int (many : Int)), some (vI (c1 :: ks)), some (.ptr 0), some (.bl cl), some (vII rows), some (.int (tn : Int)), none, some (vII rows), some (.ptr d1), some (vII (Q.map (·.2)))], O5⟩) (listI_ptr (varM_ev rfl) hd1)
  rw [eg] at hf
  have e16 : dropM (met0M clrF (varM 9)) ⟨[some (vI ns), some (.int (many : Int)), some (vI (c1 :: ks)), some (.ptr 0), some (.bl cl), some (vII rows), some (.int (tn : Int)), x7, some (vII rows), some (.ptr d1), some (vII (Q.map (·.2)))], O6⟩ = .next ⟨[some (vI ns), some (.int (many : Int)), some (vI (c1 :: ks)), some (.ptr 0), some (.bl cl), some (vII rows), some (.int (tn : Int)), x7, some (vII rows), some (.ptr d1), some (vII (Q.map (·.2)))], O6.set d1 (.lst [])⟩ :=
    dropM_eq (x_met0 (varM_ev rfl) hd2 rfl rfl)
  generalize O6.set d1 (.lst []) = O7 at *
  have hd3 := cell_sh (S := O7) hd
  have sQ3 := sto_sh (S := O7) sQ
  refine runM_ex ⟨⟨[some (vI ns), some (.int (many : Int)), some (vI (c1 :: ks)), some (.ptr 0), some (.bl cl), some (vII rows), some (.int (tn : Int)), x7, some (vII rows), some (.ptr d1), some (vII (Q.map (·.2)))], (O7 ++ Op.map (shC O7.length)).set (O7.length + d) .dead⟩, ?_⟩
  show m_law ⟨[some (vI ns), none, none, none, none, none, none, none, none, none, none], []⟩ = _
  rw [m_law]
  refine q_seq e1 (q_seq e2 (q_seq e3 (q_seq e4 (q_seq e5 (q_seq e6 (q_seq e7 (q_seq e8 (q_seq e9 (q_seq e10 (q_seq e11 (q_seq e12 (q_seq e13 (q_seq e14 (q_seq hf (q_seq e16 (retM_eq (x_bin (x_frz (x_callO (x_cons (varM_ev rfl) (x_cons (varM_ev rfl) (nilM_ev _))) ep pa rfl (shD_ptr _ _) rfl) hd3 rfl) (varM_ev rfl) ?_)))))))))))))))))
  have sQ4 : Sto ((O7 ++ Op.map (shC O7.length)).set (O7.length + d) .dead) (Q.map fun p => (O7.length + p.1, p.2)) := sQ3.set (fun p hp => by
    obtain ⟨q, hq, rfl⟩ := List.mem_map.mp hp
    have := nQ q hq
    dsimp only
    omega) _
  have := eqD_deep sQ4 (Q.map (·.2))
  rw [show (Q.map fun p => (O7.length + p.1, p.2)).map (·.2) = Q.map (·.2) by rw [List.map_map]; rfl, decide_eq_true rfl] at this
  exact this
end Lk17
namespace Lk17
open PySem PySem.Spec PyProof.Rows L2 M
theorem all_mk {l : PySem.W.OpenLaw} {w : World} {K : PySem.W.Frag} {h : Heap} {mg : Str → Option Value} {fa f0 f1 f2 f3 f4 f5 f6 f7 f8 f9 f10 f11 f12 f13 f14 f15 f16 f17 f18 f19 f20 f21 f22 f23 f24 f25 f26 f27 : Addr} (X : K.In h) (G : h.Ns mainGlobals mg) (hfa : mg "law" = some (.ref fa)) (hpt : l.prog.given.tree = none)
  {od0 an0 od1 an1 od2 an2 od3 an3 od4 an4 od5 an5 od6 an6 od7 an7 od8 an8 od9 an9 od10 an10 od11 an11 od12 an12 od13 an13 od14 an14 od15 an15 od16 an16 od17 an17 od18 an18 od19 an19 od20 an20 od21 an21 od22 an22 od23 an23 od24 an24 od25 an25 od26 an26 od27 an27 : Option Addr} {sl0 sl1 sl2 sl3 sl4 sl5 sl6 sl7 sl8 sl9 sl10 sl11 sl12 sl13 sl14 sl15 sl16 sl17 sl18 sl19 sl20 sl21 sl22 sl23 sl24 sl25 sl26 sl27 : Array (Option Value)} {oc0 kV0 dc0 pm0 cd0 ct0 oc1 kV1 dc1 pm1 cd1 ct1 oc2 kV2 dc2 pm2 cd2 ct2 oc3 kV3 dc3 pm3 cd3 ct3 oc4 kV4 dc4 pm4 cd4 ct4 oc5 kV5 dc5 pm5 cd5 ct5 oc6 kV6 dc6 pm6 cd6 ct6 oc7 kV7 dc7 pm7 cd7 ct7 oc8 kV8 dc8 pm8 cd8 ct8 oc9 kV9 dc9 pm9 cd9 ct9 oc10 kV10 dc10 pm10 cd10 ct10 oc11 kV11 dc11 pm11 cd11 ct11 oc12 kV12 dc12 pm12 cd12 ct12 oc13 kV13 dc13 pm13 cd13 ct13 oc14 kV14 dc14 pm14 cd14 ct14 oc15 kV15 dc15 pm15 cd15 ct15 oc16 kV16 dc16 pm16 cd16 ct16 oc17 kV17 dc17 pm17 cd17 ct17 oc18 kV18 dc18 pm18 cd18 ct18 oc19 kV19 dc19 pm19 cd19 ct19 oc20 kV20 dc20 pm20 cd20 ct20 oc21 kV21 dc21 pm21 cd21 ct21 oc22 kV22 dc22 pm22 cd22 ct22 oc23 kV23 dc23 pm23 cd23 ct23 oc24 kV24 dc24 pm24 cd24 ct24 oc25 kV25 dc25 pm25 cd25 ct25 oc26 kV26 dc26 pm26 cd26 ct26 oc27 kV27 dc27 pm27 cd27 ct27 : Value}
  (a0 : PySem.W.nsIn K mainGlobals "measure_of_two" = some (some (.ref f0)))
  (l0 : K.lookup f0 = some ⟨oc0, od0, .func (PySem.W.fnOf "measure_of_two" "measure_of_two" (defArgs s_measure_of_two) (defBody s_measure_of_two) (defScope s_measure_of_two) .none kV0 dc0 pm0 an0 cd0 ct0), sl0⟩)
  (c0 : PySem.W.codeIn K cd0 "measure_of_two" = true)
  (k0 : PySem.W.keepIn K (.ref f0) = true)
  (a1 : PySem.W.nsIn K mainGlobals "measure" = some (some (.ref f1)))
  (l1 : K.lookup f1 = some ⟨oc1, od1, .func (PySem.W.fnOf "measure" "measure" (defArgs s_measure) (defBody s_measure) (defScope s_measure) .none kV1 dc1 pm1 an1 cd1 ct1), sl1⟩)
  (c1 : PySem.W.codeIn K cd1 "measure" = true)
  (k1 : PySem.W.keepIn K (.ref f1) = true)
  (a2 : PySem.W.nsIn K mainGlobals "lowest" = some (some (.ref f2)))
  (l2 : K.lookup f2 = some ⟨oc2, od2, .func (PySem.W.fnOf "lowest" "lowest" (defArgs s_lowest) (defBody s_lowest) (defScope s_lowest) .none kV2 dc2 pm2 an2 cd2 ct2), sl2⟩)
  (c2 : PySem.W.codeIn K cd2 "lowest" = true)
  (k2 : PySem.W.keepIn K (.ref f2) = true)
  (a3 : PySem.W.nsIn K mainGlobals "sum_of_products" = some (some (.ref f3)))
  (l3 : K.lookup f3 = some ⟨oc3, od3, .func (PySem.W.fnOf "sum_of_products" "sum_of_products" (defArgs s_sum_of_products) (defBody s_sum_of_products) (defScope s_sum_of_products) .none kV3 dc3 pm3 an3 cd3 ct3), sl3⟩)
  (c3 : PySem.W.codeIn K cd3 "sum_of_products" = true)
  (k3 : PySem.W.keepIn K (.ref f3) = true)
  (a4 : PySem.W.nsIn K mainGlobals "unit" = some (some (.ref f4)))
  (l4 : K.lookup f4 = some ⟨oc4, od4, .func (PySem.W.fnOf "unit" "unit" (defArgs s_unit) (defBody s_unit) (defScope s_unit) .none kV4 dc4 pm4 an4 cd4 ct4), sl4⟩)
  (c4 : PySem.W.codeIn K cd4 "unit" = true)
  (k4 : PySem.W.keepIn K (.ref f4) = true)
  (a5 : PySem.W.nsIn K mainGlobals "units" = some (some (.ref f5)))
  (l5 : K.lookup f5 = some ⟨oc5, od5, .func (PySem.W.fnOf "units" "units" (defArgs s_units) (defBody s_units) (defScope s_units) .none kV5 dc5 pm5 an5 cd5 ct5), sl5⟩)
  (c5 : PySem.W.codeIn K cd5 "units" = true)
  (k5 : PySem.W.keepIn K (.ref f5) = true)
  (a6 : PySem.W.nsIn K mainGlobals "offset" = some (some (.ref f6)))
  (l6 : K.lookup f6 = some ⟨oc6, od6, .func (PySem.W.fnOf "offset" "offset" (defArgs s_offset) (defBody s_offset) (defScope s_offset) .none kV6 dc6 pm6 an6 cd6 ct6), sl6⟩)
  (c6 : PySem.W.codeIn K cd6 "offset" = true)
  (k6 : PySem.W.keepIn K (.ref f6) = true)
  (a7 : PySem.W.nsIn K mainGlobals "places_of" = some (some (.ref f7)))
  (l7 : K.lookup f7 = some ⟨oc7, od7, .func (PySem.W.fnOf "places_of" "places_of" (defArgs s_places_of) (defBody s_places_of) (defScope s_places_of) .none kV7 dc7 pm7 an7 cd7 ct7), sl7⟩)
  (c7 : PySem.W.codeIn K cd7 "places_of" = true)
  (k7 : PySem.W.keepIn K (.ref f7) = true)
  (a8 : PySem.W.nsIn K mainGlobals "is_among" = some (some (.ref f8)))
  (l8 : K.lookup f8 = some ⟨oc8, od8, .func (PySem.W.fnOf "is_among" "is_among" (defArgs s_is_among) (defBody s_is_among) (defScope s_is_among) .none kV8 dc8 pm8 an8 cd8 ct8), sl8⟩)
  (c8 : PySem.W.codeIn K cd8 "is_among" = true)
  (k8 : PySem.W.keepIn K (.ref f8) = true)
  (a9 : PySem.W.nsIn K mainGlobals "are_neighbours" = some (some (.ref f9)))
  (l9 : K.lookup f9 = some ⟨oc9, od9, .func (PySem.W.fnOf "are_neighbours" "are_neighbours" (defArgs s_are_neighbours) (defBody s_are_neighbours) (defScope s_are_neighbours) .none kV9 dc9 pm9 an9 cd9 ct9), sl9⟩)
  (c9 : PySem.W.codeIn K cd9 "are_neighbours" = true)
  (k9 : PySem.W.keepIn K (.ref f9) = true)
  (a10 : PySem.W.nsIn K mainGlobals "lone_by_one_more" = some (some (.ref f10)))
  (l10 : K.lookup f10 = some ⟨oc10, od10, .func (PySem.W.fnOf "lone_by_one_more" "lone_by_one_more" (defArgs s_lone_by_one_more) (defBody s_lone_by_one_more) (defScope s_lone_by_one_more) .none kV10 dc10 pm10 an10 cd10 ct10), sl10⟩)
  (c10 : PySem.W.codeIn K cd10 "lone_by_one_more" = true)
  (k10 : PySem.W.keepIn K (.ref f10) = true)
  (a11 : PySem.W.nsIn K mainGlobals "lone" = some (some (.ref f11)))
  (l11 : K.lookup f11 = some ⟨oc11, od11, .func (PySem.W.fnOf "lone" "lone" (defArgs s_lone) (defBody s_lone) (defScope s_lone) .none kV11 dc11 pm11 an11 cd11 ct11), sl11⟩)
  (c11 : PySem.W.codeIn K cd11 "lone" = true)
  (k11 : PySem.W.keepIn K (.ref f11) = true)
  (a12 : PySem.W.nsIn K mainGlobals "_law_cell" = some (some (.ref f12)))
  (l12 : K.lookup f12 = some ⟨oc12, od12, .func (PySem.W.fnOf "_law_cell" "_law_cell" (defArgs s_law_cell) (defBody s_law_cell) (defScope s_law_cell) .none kV12 dc12 pm12 an12 cd12 ct12), sl12⟩)
  (c12 : PySem.W.codeIn K cd12 "_law_cell" = true)
  (k12 : PySem.W.keepIn K (.ref f12) = true)
  (a13 : PySem.W.nsIn K mainGlobals "_law_bag" = some (some (.ref f13)))
  (l13 : K.lookup f13 = some ⟨oc13, od13, .func (PySem.W.fnOf "_law_bag" "_law_bag" (defArgs s_law_bag) (defBody s_law_bag) (defScope s_law_bag) .none kV13 dc13 pm13 an13 cd13 ct13), sl13⟩)
  (c13 : PySem.W.codeIn K cd13 "_law_bag" = true)
  (k13 : PySem.W.keepIn K (.ref f13) = true)
  (a14 : PySem.W.nsIn K mainGlobals "_law_draw" = some (some (.ref f14)))
  (l14 : K.lookup f14 = some ⟨oc14, od14, .func (PySem.W.fnOf "_law_draw" "_law_draw" (defArgs s_law_draw) (defBody s_law_draw) (defScope s_law_draw) .none kV14 dc14 pm14 an14 cd14 ct14), sl14⟩)
  (c14 : PySem.W.codeIn K cd14 "_law_draw" = true)
  (k14 : PySem.W.keepIn K (.ref f14) = true)
  (a15 : PySem.W.nsIn K mainGlobals "_law_number" = some (some (.ref f15)))
  (l15 : K.lookup f15 = some ⟨oc15, od15, .func (PySem.W.fnOf "_law_number" "_law_number" (defArgs s_law_number) (defBody s_law_number) (defScope s_law_number) .none kV15 dc15 pm15 an15 cd15 ct15), sl15⟩)
  (c15 : PySem.W.codeIn K cd15 "_law_number" = true)
  (k15 : PySem.W.keepIn K (.ref f15) = true)
  (a16 : PySem.W.nsIn K mainGlobals "_law_product" = some (some (.ref f16)))
  (l16 : K.lookup f16 = some ⟨oc16, od16, .func (PySem.W.fnOf "_law_product" "_law_product" (defArgs s_law_product) (defBody s_law_product) (defScope s_law_product) .none kV16 dc16 pm16 an16 cd16 ct16), sl16⟩)
  (c16 : PySem.W.codeIn K cd16 "_law_product" = true)
  (k16 : PySem.W.keepIn K (.ref f16) = true)
  (a17 : PySem.W.nsIn K mainGlobals "_law_whole" = some (some (.ref f17)))
  (l17 : K.lookup f17 = some ⟨oc17, od17, .func (PySem.W.fnOf "_law_whole" "_law_whole" (defArgs s_law_whole) (defBody s_law_whole) (defScope s_law_whole) .none kV17 dc17 pm17 an17 cd17 ct17), sl17⟩)
  (c17 : PySem.W.codeIn K cd17 "_law_whole" = true)
  (k17 : PySem.W.keepIn K (.ref f17) = true)
  (a18 : PySem.W.nsIn K mainGlobals "_law_is_list" = some (some (.ref f18)))
  (l18 : K.lookup f18 = some ⟨oc18, od18, .func (PySem.W.fnOf "_law_is_list" "_law_is_list" (defArgs s_law_is_list) (defBody s_law_is_list) (defScope s_law_is_list) .none kV18 dc18 pm18 an18 cd18 ct18), sl18⟩)
  (c18 : PySem.W.codeIn K cd18 "_law_is_list" = true)
  (k18 : PySem.W.keepIn K (.ref f18) = true)
  (a19 : PySem.W.nsIn K mainGlobals "_law_measure" = some (some (.ref f19)))
  (l19 : K.lookup f19 = some ⟨oc19, od19, .func (PySem.W.fnOf "_law_measure" "_law_measure" (defArgs s_law_measure) (defBody s_law_measure) (defScope s_law_measure) .none kV19 dc19 pm19 an19 cd19 ct19), sl19⟩)
  (c19 : PySem.W.codeIn K cd19 "_law_measure" = true)
  (k19 : PySem.W.keepIn K (.ref f19) = true)
  (a20 : PySem.W.nsIn K mainGlobals "_law_free" = some (some (.ref f20)))
  (l20 : K.lookup f20 = some ⟨oc20, od20, .func (PySem.W.fnOf "_law_free" "_law_free" (defArgs s_law_free) (defBody s_law_free) (defScope s_law_free) .none kV20 dc20 pm20 an20 cd20 ct20), sl20⟩)
  (c20 : PySem.W.codeIn K cd20 "_law_free" = true)
  (k20 : PySem.W.keepIn K (.ref f20) = true)
  (a21 : PySem.W.nsIn K mainGlobals "_law_fit" = some (some (.ref f21)))
  (l21 : K.lookup f21 = some ⟨oc21, od21, .func (PySem.W.fnOf "_law_fit" "_law_fit" (defArgs s_law_fit) (defBody s_law_fit) (defScope s_law_fit) .none kV21 dc21 pm21 an21 cd21 ct21), sl21⟩)
  (c21 : PySem.W.codeIn K cd21 "_law_fit" = true)
  (k21 : PySem.W.keepIn K (.ref f21) = true)
  (a22 : PySem.W.nsIn K mainGlobals "_law_closed" = some (some (.ref f22)))
  (l22 : K.lookup f22 = some ⟨oc22, od22, .func (PySem.W.fnOf "_law_closed" "_law_closed" (defArgs s_law_closed) (defBody s_law_closed) (defScope s_law_closed) .none kV22 dc22 pm22 an22 cd22 ct22), sl22⟩)
  (c22 : PySem.W.codeIn K cd22 "_law_closed" = true)
  (k22 : PySem.W.keepIn K (.ref f22) = true)
  (a23 : PySem.W.nsIn K mainGlobals "_law_turned" = some (some (.ref f23)))
  (l23 : K.lookup f23 = some ⟨oc23, od23, .func (PySem.W.fnOf "_law_turned" "_law_turned" (defArgs s_law_turned) (defBody s_law_turned) (defScope s_law_turned) .none kV23 dc23 pm23 an23 cd23 ct23), sl23⟩)
  (c23 : PySem.W.codeIn K cd23 "_law_turned" = true)
  (k23 : PySem.W.keepIn K (.ref f23) = true)
  (a24 : PySem.W.nsIn K mainGlobals "_law_places" = some (some (.ref f24)))
  (l24 : K.lookup f24 = some ⟨oc24, od24, .func (PySem.W.fnOf "_law_places" "_law_places" (defArgs s_law_places) (defBody s_law_places) (defScope s_law_places) .none kV24 dc24 pm24 an24 cd24 ct24), sl24⟩)
  (c24 : PySem.W.codeIn K cd24 "_law_places" = true)
  (k24 : PySem.W.keepIn K (.ref f24) = true)
  (a25 : PySem.W.nsIn K mainGlobals "_law_is_lone" = some (some (.ref f25)))
  (l25 : K.lookup f25 = some ⟨oc25, od25, .func (PySem.W.fnOf "_law_is_lone" "_law_is_lone" (defArgs s_law_is_lone) (defBody s_law_is_lone) (defScope s_law_is_lone) .none kV25 dc25 pm25 an25 cd25 ct25), sl25⟩)
  (c25 : PySem.W.codeIn K cd25 "_law_is_lone" = true)
  (k25 : PySem.W.keepIn K (.ref f25) = true)
  (a26 : PySem.W.nsIn K mainGlobals "_law_apart" = some (some (.ref f26)))
  (l26 : K.lookup f26 = some ⟨oc26, od26, .func (PySem.W.fnOf "_law_apart" "_law_apart" (defArgs s_law_apart) (defBody s_law_apart) (defScope s_law_apart) .none kV26 dc26 pm26 an26 cd26 ct26), sl26⟩)
  (c26 : PySem.W.codeIn K cd26 "_law_apart" = true)
  (k26 : PySem.W.keepIn K (.ref f26) = true)
  (a27 : PySem.W.nsIn K mainGlobals "law" = some (some (.ref f27)))
  (l27 : K.lookup f27 = some ⟨oc27, od27, .func (PySem.W.fnOf "law" "law" (defArgs s_law) (defBody s_law) (defScope s_law) .none kV27 dc27 pm27 an27 cd27 ct27), sl27⟩)
  (c27 : PySem.W.codeIn K cd27 "law" = true)
  (k27 : PySem.W.keepIn K (.ref f27) = true)
  (z_abs : PySem.W.nsIn K mainGlobals "abs" = some none)
  (z_list : PySem.W.nsIn K mainGlobals "list" = some none)
  (z_zip : PySem.W.nsIn K mainGlobals "zip" = some none)
  (z_sum : PySem.W.nsIn K mainGlobals "sum" = some none)
  (z_range : PySem.W.nsIn K mainGlobals "range" = some none)
  (z_len : PySem.W.nsIn K mainGlobals "len" = some none)
  (z_enumerate : PySem.W.nsIn K mainGlobals "enumerate" = some none)
  (z_sorted : PySem.W.nsIn K mainGlobals "sorted" = some none)
  (z_isinstance : PySem.W.nsIn K mainGlobals "isinstance" = some none)
  (z_int : PySem.W.nsIn K mainGlobals "int" = some none)
  (z_bool : PySem.W.nsIn K mainGlobals "bool" = some none)
  (z_all : PySem.W.nsIn K mainGlobals "all" = some none)
  (z_min : PySem.W.nsIn K mainGlobals "min" = some none) :
  ∃ fd : FuncData, (∀ (s : Shared) (v : Value), BindsTo s fd ⟨[v], []⟩ [("_law_script", v)]) ∧ ∀ base : Heap, K.In base → base.Ns mainGlobals mg → FnOk l.prog w K mg base (CXE l.prog w) 41 fa fd ["_law_script"] (spM K (fun _ => 0) 1 f_law) := by
  have e := hfa.symm.trans (PySem.W.mg_of X G a27)
  cases e
  have F0 := fun_mk (st := s_measure_of_two) l0 c0 k0
  have F1 := fun_mk (st := s_measure) l1 c1 k1
  have F2 := fun_mk (st := s_lowest) l2 c2 k2
  have F3 := fun_mk (st := s_sum_of_products) l3 c3 k3
  have F4 := fun_mk (st := s_unit) l4 c4 k4
  have F5 := fun_mk (st := s_units) l5 c5 k5
  have F6 := fun_mk (st := s_offset) l6 c6 k6
  have F7 := fun_mk (st := s_places_of) l7 c7 k7
  have F8 := fun_mk (st := s_is_among) l8 c8 k8
  have F9 := fun_mk (st := s_are_neighbours) l9 c9 k9
  have F10 := fun_mk (st := s_lone_by_one_more) l10 c10 k10
  have F11 := fun_mk (st := s_lone) l11 c11 k11
  have F12 := fun_mk (st := s_law_cell) l12 c12 k12
  have F13 := fun_mk (st := s_law_bag) l13 c13 k13
  have F14 := fun_mk (st := s_law_draw) l14 c14 k14
  have F15 := fun_mk (st := s_law_number) l15 c15 k15
  have F16 := fun_mk (st := s_law_product) l16 c16 k16
  have F17 := fun_mk (st := s_law_whole) l17 c17 k17
  have F18 := fun_mk (st := s_law_is_list) l18 c18 k18
  have F19 := fun_mk (st := s_law_measure) l19 c19 k19
  have F20 := fun_mk (st := s_law_free) l20 c20 k20
  have F21 := fun_mk (st := s_law_fit) l21 c21 k21
  have F22 := fun_mk (st := s_law_closed) l22 c22 k22
  have F23 := fun_mk (st := s_law_turned) l23 c23 k23
  have F24 := fun_mk (st := s_law_places) l24 c24 k24
  have F25 := fun_mk (st := s_law_is_lone) l25 c25 k25
  have F26 := fun_mk (st := s_law_apart) l26 c26 k26
  have F27 := fun_mk (st := s_law) l27 c27 k27
  refine ⟨PySem.W.fnOf "law" "law" (defArgs s_law) (defBody s_law) (defScope s_law) .none kV27 dc27 pm27 an27 cd27 ct27, fun s v => .of_eq rfl, fun base _ _ => ?_⟩
  have E_measure_of_two := ok_measure_of_two (P := l.prog) (w := w) (mg := mg) (base := base) (ca := fun _ => 0) F0 (PySem.W.mg_of X G a0) hpt (PySem.W.mg_none_of X G z_abs)
  have E_measure := ok_measure (P := l.prog) (w := w) (mg := mg) (base := base) (ca := fun _ => 0) F1 (PySem.W.mg_of X G a1) hpt E_measure_of_two.in
  have E_lowest := ok_lowest (P := l.prog) (w := w) (mg := mg) (base := base) (ca := fun _ => 0) F2 (PySem.W.mg_of X G a2) hpt (PySem.W.mg_none_of X G z_list) E_measure.in
  have E_sum_of_products := ok_sum_of_products (P := l.prog) (w := w) (mg := mg) (base := base) (ca := fun _ => 0) F3 (PySem.W.mg_of X G a3) hpt (PySem.W.mg_none_of X G z_zip) (PySem.W.mg_none_of X G z_sum)
  have E_unit := ok_unit (P := l.prog) (w := w) (mg := mg) (base := base) (ca := fun _ => 0) F4 (PySem.W.mg_of X G a4) hpt
  have E_units := ok_units (P := l.prog) (w := w) (mg := mg) (base := base) (ca := fun _ => 0) F5 (PySem.W.mg_of X G a5) hpt (PySem.W.mg_none_of X G z_range) E_unit.in
  have E_offset := ok_offset (P := l.prog) (w := w) (mg := mg) (base := base) (ca := fun _ => 0) F6 (PySem.W.mg_of X G a6) hpt (PySem.W.mg_none_of X G z_zip) E_lowest.in
  have E_places_of := ok_places_of (P := l.prog) (w := w) (mg := mg) (base := base) (ca := fun _ => 0) F7 (PySem.W.mg_of X G a7) hpt
  have E_is_among := ok_is_among (P := l.prog) (w := w) (mg := mg) (base := base) (ca := fun _ => 0) F8 (PySem.W.mg_of X G a8) hpt
  have E_are_neighbours := ok_are_neighbours (P := l.prog) (w := w) (mg := mg) (base := base) (ca := fun _ => 0) F9 (PySem.W.mg_of X G a9) hpt (PySem.W.mg_none_of X G z_len) E_is_among.in
  have E_lone_by_one_more := ok_lone_by_one_more (P := l.prog) (w := w) (mg := mg) (base := base) (ca := fun _ => 0) F10 (PySem.W.mg_of X G a10) hpt (PySem.W.mg_none_of X G z_zip) (PySem.W.mg_none_of X G z_enumerate) E_sum_of_products.in E_places_of.in E_are_neighbours.in E_offset.in
  have E_lone := ok_lone (P := l.prog) (w := w) (mg := mg) (base := base) (ca := fun _ => 0) F11 (PySem.W.mg_of X G a11) hpt (PySem.W.mg_none_of X G z_sorted) E_units.in E_lone_by_one_more.in
  have E_law_cell := ok_law_cell (P := l.prog) (w := w) (mg := mg) (base := base) (ca := fun _ => 0) F12 (PySem.W.mg_of X G a12) hpt (PySem.W.mg_none_of X G z_len)
  have E_law_bag := ok_law_bag (P := l.prog) (w := w) (mg := mg) (base := base) (ca := fun _ => 0) F13 (PySem.W.mg_of X G a13) hpt
  have E_law_draw := ok_law_draw (P := l.prog) (w := w) (mg := mg) (base := base) (ca := fun _ => 0) F14 (PySem.W.mg_of X G a14) hpt
  have E_law_number := ok_law_number (P := l.prog) (w := w) (mg := mg) (base := base) (ca := fun _ => 0) F15 (PySem.W.mg_of X G a15) hpt E_law_draw.in
  have E_law_product := ok_law_product (P := l.prog) (w := w) (mg := mg) (base := base) (ca := fun _ => 0) F16 (PySem.W.mg_of X G a16) hpt (PySem.W.mg_none_of X G z_zip) (PySem.W.mg_none_of X G z_sum)
  have E_law_whole := ok_law_whole (P := l.prog) (w := w) (mg := mg) (base := base) (ca := fun _ => 0) F17 (PySem.W.mg_of X G a17) hpt (PySem.W.mg_none_of X G z_isinstance) (PySem.W.mg_none_of X G z_int) (PySem.W.mg_none_of X G z_bool)
  have E_law_is_list := ok_law_is_list (P := l.prog) (w := w) (mg := mg) (base := base) (ca := fun _ => 0) F18 (PySem.W.mg_of X G a18) hpt (PySem.W.mg_none_of X G z_isinstance) (PySem.W.mg_none_of X G z_list) (PySem.W.mg_none_of X G z_len) (PySem.W.mg_none_of X G z_all) E_law_whole.in
  have E_law_measure := ok_law_measure (P := l.prog) (w := w) (mg := mg) (base := base) (ca := fun _ => 0) F19 (PySem.W.mg_of X G a19) hpt (PySem.W.mg_none_of X G z_abs)
  have E_law_free := ok_law_free (P := l.prog) (w := w) (mg := mg) (base := base) (ca := fun _ => 0) F20 (PySem.W.mg_of X G a20) hpt (PySem.W.mg_none_of X G z_range) E_law_bag.in E_law_number.in
  have E_law_fit := ok_law_fit (P := l.prog) (w := w) (mg := mg) (base := base) (ca := fun _ => 0) F21 (PySem.W.mg_of X G a21) hpt (PySem.W.mg_none_of X G z_range) E_law_draw.in
  have E_law_closed := ok_law_closed (P := l.prog) (w := w) (mg := mg) (base := base) (ca := fun _ => 0) F22 (PySem.W.mg_of X G a22) hpt (PySem.W.mg_none_of X G z_range) (PySem.W.mg_none_of X G z_len) (PySem.W.mg_none_of X G z_sum) E_law_bag.in E_law_number.in E_law_draw.in
  have E_law_turned := ok_law_turned (P := l.prog) (w := w) (mg := mg) (base := base) (ca := fun _ => 0) F23 (PySem.W.mg_of X G a23) hpt
  have E_law_places := ok_law_places (P := l.prog) (w := w) (mg := mg) (base := base) (ca := fun _ => 0) F24 (PySem.W.mg_of X G a24) hpt (PySem.W.mg_none_of X G z_len) (PySem.W.mg_none_of X G z_range)
  have E_law_is_lone := ok_law_is_lone (P := l.prog) (w := w) (mg := mg) (base := base) (ca := fun _ => 0) F25 (PySem.W.mg_of X G a25) hpt (PySem.W.mg_none_of X G z_min) (PySem.W.mg_none_of X G z_all) E_law_is_list.in E_law_measure.in E_law_product.in
  have E_law_apart := ok_law_apart (P := l.prog) (w := w) (mg := mg) (base := base) (ca := fun _ => 0) F26 (PySem.W.mg_of X G a26) hpt (PySem.W.mg_none_of X G z_all) E_law_places.in
  have E_law := ok_law (P := l.prog) (w := w) (mg := mg) (base := base) (ca := fun _ => 0) F27 (PySem.W.mg_of X G a27) hpt (PySem.W.mg_none_of X G z_len) (PySem.W.mg_none_of X G z_int) (PySem.W.mg_none_of X G z_list) (PySem.W.mg_none_of X G z_isinstance) (PySem.W.mg_none_of X G z_all) (PySem.W.mg_none_of X G z_sorted) E_law_cell.in E_law_bag.in E_law_draw.in E_law_closed.in E_law_fit.in E_law_free.in E_law_turned.in E_lone.in E_law_is_lone.in E_law_apart.in
  exact E_law.1
end Lk17
open PySem PySem.W PyProof.Rows
set_option maxRecDepth 100000 in
set_option maxHeartbeats 0 in
theorem PySem.Challenge.cw_modeyard_k17_lone_lists_holds : PySem.Challenge.rw_modeyard_k17_lone_lists.Holds := by
  w_on; o_law; k_head; (case hw => w_witness2)
  k_fill
  refine L2.walk_ofE (l := PySem.Challenge.rw_modeyard_k17_lone_lists) (n := 63) (k := 41) (x := "_law_script") (sp := fun K => M.spM K (fun _ => 0) 1 Lk17.f_law) rfl (by decide) rfl ⟨rfl, by decide, by decide⟩ (by decide +kernel) (fun w h Y => PySem.W.kIn_of Y) ?F ?S
  case F =>
    intro w mg fa h KX G hmg
    refine' Lk17.all_mk KX G hmg rfl ?a0 ?l0 ?c0 ?k0 ?a1 ?l1 ?c1 ?k1 ?a2 ?l2 ?c2 ?k2 ?a3 ?l3 ?c3 ?k3 ?a4 ?l4 ?c4 ?k4 ?a5 ?l5 ?c5 ?k5 ?a6 ?l6 ?c6 ?k6 ?a7 ?l7 ?c7 ?k7 ?a8 ?l8 ?c8 ?k8 ?a9 ?l9 ?c9 ?k9 ?a10 ?l10 ?c10 ?k10 ?a11 ?l11 ?c11 ?k11 ?a12 ?l12 ?c12 ?k12 ?a13 ?l13 ?c13 ?k13 ?a14 ?l14 ?c14 ?k14 ?a15 ?l15 ?c15 ?k15 ?a16 ?l16 ?c16 ?k16 ?a17 ?l17 ?c17 ?k17 ?a18 ?l18 ?c18 ?k18 ?a19 ?l19 ?c19 ?k19 ?a20 ?l20 ?c20 ?k20 ?a21 ?l21 ?c21 ?k21 ?a22 ?l22 ?c22 ?k22 ?a23 ?l23 ?c23 ?k23 ?a24 ?l24 ?c24 ?k24 ?a25 ?l25 ?c25 ?k25 ?a26 ?l26 ?c26 ?k26 ?a27 ?l27 ?c27 ?k27 ?z_abs ?z_list ?z_zip ?z_sum ?z_range ?z_len ?z_enumerate ?z_sorted ?z_isinstance ?z_int ?z_bool ?z_all ?z_min
    (case a0 => k_is)
    (case l0 => k_is)
    (case c0 => k_is)
    (case k0 => k_is)
    (case a1 => k_is)
    (case l1 => k_is)
    (case c1 => k_is)
    (case k1 => k_is)
    (case a2 => k_is)
    (case l2 => k_is)
    (case c2 => k_is)
    (case k2 => k_is)
    (case a3 => k_is)
    (case l3 => k_is)
    (case c3 => k_is)
    (case k3 => k_is)
    (case a4 => k_is)
    (case l4 => k_is)
    (case c4 => k_is)
    (case k4 => k_is)
    (case a5 => k_is)
    (case l5 => k_is)
    (case c5 => k_is)
    (case k5 => k_is)
    (case a6 => k_is)
    (case l6 => k_is)
    (case c6 => k_is)
    (case k6 => k_is)
    (case a7 => k_is)
    (case l7 => k_is)
    (case c7 => k_is)
    (case k7 => k_is)
    (case a8 => k_is)
    (case l8 => k_is)
    (case c8 => k_is)
    (case k8 => k_is)
    (case a9 => k_is)
    (case l9 => k_is)
    (case c9 => k_is)
    (case k9 => k_is)
    (case a10 => k_is)
    (case l10 => k_is)
    (case c10 => k_is)
    (case k10 => k_is)
    (case a11 => k_is)
    (case l11 => k_is)
    (case c11 => k_is)
    (case k11 => k_is)
    (case a12 => k_is)
    (case l12 => k_is)
    (case c12 => k_is)
    (case k12 => k_is)
    (case a13 => k_is)
    (case l13 => k_is)
    (case c13 => k_is)
    (case k13 => k_is)
    (case a14 => k_is)
    (case l14 => k_is)
    (case c14 => k_is)
    (case k14 => k_is)
    (case a15 => k_is)
    (case l15 => k_is)
    (case c15 => k_is)
    (case k15 => k_is)
    (case a16 => k_is)
    (case l16 => k_is)
    (case c16 => k_is)
    (case k16 => k_is)
    (case a17 => k_is)
    (case l17 => k_is)
    (case c17 => k_is)
    (case k17 => k_is)
    (case a18 => k_is)
    (case l18 => k_is)
    (case c18 => k_is)
    (case k18 => k_is)
    (case a19 => k_is)
    (case l19 => k_is)
    (case c19 => k_is)
    (case k19 => k_is)
    (case a20 => k_is)
    (case l20 => k_is)
    (case c20 => k_is)
    (case k20 => k_is)
    (case a21 => k_is)
    (case l21 => k_is)
    (case c21 => k_is)
    (case k21 => k_is)
    (case a22 => k_is)
    (case l22 => k_is)
    (case c22 => k_is)
    (case k22 => k_is)
    (case a23 => k_is)
    (case l23 => k_is)
    (case c23 => k_is)
    (case k23 => k_is)
    (case a24 => k_is)
    (case l24 => k_is)
    (case c24 => k_is)
    (case k24 => k_is)
    (case a25 => k_is)
    (case l25 => k_is)
    (case c25 => k_is)
    (case k25 => k_is)
    (case a26 => k_is)
    (case l26 => k_is)
    (case c26 => k_is)
    (case k26 => k_is)
    (case a27 => k_is)
    (case l27 => k_is)
    (case c27 => k_is)
    (case k27 => k_is)
    (case z_abs => k_is)
    (case z_list => k_is)
    (case z_zip => k_is)
    (case z_sum => k_is)
    (case z_range => k_is)
    (case z_len => k_is)
    (case z_enumerate => k_is)
    (case z_sorted => k_is)
    (case z_isinstance => k_is)
    (case z_int => k_is)
    (case z_bool => k_is)
    (case z_all => k_is)
    (case z_min => k_is)
  case S => exact fun K H a ns hl _ hS => M.law_sp hS (Lk17.law_true ns hl)
