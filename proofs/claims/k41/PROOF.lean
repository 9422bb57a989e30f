import PyProof.Rows.All
import Wide.All
import OpenK.AllK
import Wide.FinOn
import Lean
import PyProof.EqAt
import PyProof.EqKinds
import PyProof.TupleCall
import PySem.Challenge.RW_modeyard_k41_lists_and_ratios_written
set_option Elab.async false
set_option linter.all false
set_option maxRecDepth 100000
namespace L2
open PySem PySem.Spec PyProof.Rows
abbrev Key := Sum Int Str
def keyIs : Key → Value → Bool
  | .inl k, v => Value.isInt k v
  | .inr x, v => Value.isStrOf x v
def keyH (w : World) : Key → Int
  | .inl k => hashInt k
  | .inr x => hashStr w x
theorem keyIs_shape : ∀ {k : Key} {v : Value}, keyIs k v = true → (∃ i t, k = Sum.inl i ∧ v = Value.int i t) ∨ (∃ x t, k = Sum.inr x ∧ v = Value.str x t)
  | .inl i, v, h => by
    obtain ⟨t, e⟩ := Value.isInt_shape (k := i) (v := v) h
    exact .inl ⟨i, t, rfl, e⟩
  | .inr x, v, h => by
    obtain ⟨t, e⟩ := Value.isStrOf_shape (x := x) (v := v) h
    exact .inr ⟨x, t, rfl, e⟩
theorem key_ll (a b : Int) : decide ((Sum.inl a : Key) = Sum.inl b) = (a == b) := by
  by_cases e : a = b
  · subst e; simp
  · have h : ¬ (Sum.inl a : Key) = Sum.inl b := fun q => e (Sum.inl.inj q)
    rw [decide_eq_false h]
    exact (beq_eq_false_iff_ne.mpr e).symm
theorem key_rr (a b : Str) : decide ((Sum.inr a : Key) = Sum.inr b) = decide (a = b) := by
  by_cases e : a = b
  · subst e; simp
  · have h : ¬ (Sum.inr a : Key) = Sum.inr b := fun q => e (Sum.inr.inj q)
    rw [decide_eq_false h, decide_eq_false e]
theorem key_lr (a : Int) (b : Str) : decide ((Sum.inl a : Key) = Sum.inr b) = false := decide_eq_false (fun q => nomatch q)
theorem key_rl (a : Str) (b : Int) : decide ((Sum.inr a : Key) = Sum.inl b) = false := decide_eq_false (fun q => nomatch q)
def mixKind (prog : Program) (w : World) : PySem.KeyKind prog w Key where
  is := keyIs
  hash := keyH w
  inj := fun v a b ha hb => by
    rcases keyIs_shape ha with ⟨i, t, rfl, rfl⟩ | ⟨x, t, rfl, rfl⟩
    · rcases keyIs_shape hb with ⟨j, u, rfl, e⟩ | ⟨y, u, rfl, e⟩
      · injection e with e1 _; rw [e1]
      · exact nomatch e
    · rcases keyIs_shape hb with ⟨j, u, rfl, e⟩ | ⟨y, u, rfl, e⟩
      · exact nomatch e
      · injection e with e1 _; rw [e1]
  byValue := fun k v h => by
    rcases keyIs_shape h with ⟨i, t, rfl, rfl⟩ | ⟨x, t, rfl, rfl⟩ <;> rfl
  pyHash := fun hv h => by
    rcases keyIs_shape hv with ⟨i, t, rfl, rfl⟩ | ⟨x, t, rfl, rfl⟩
    · exact wpAny_pyHash_int h
    · exact wpAny_pyHash_str h
  eqBool := fun hu hv h => by
    rcases keyIs_shape hu with ⟨i, t, rfl, rfl⟩ | ⟨x, t, rfl, rfl⟩
    · rcases keyIs_shape hv with ⟨j, u, rfl, rfl⟩ | ⟨y, u, rfl, rfl⟩
      · rw [key_ll] at h; exact wpAny_eqBool_int h
      · rw [key_lr] at h; exact SeqAt.EqAt.int_str i t y u _ _ _ _ h
    · rcases keyIs_shape hv with ⟨j, u, rfl, rfl⟩ | ⟨y, u, rfl, rfl⟩
      · rw [key_rl] at h; exact SeqAt.EqAt.str_int x t j u _ _ _ _ h
      · rw [key_rr] at h; exact wpAny_eqBool_str h
  «strs» := fun k x t v h => by
    rcases keyIs_shape h with ⟨i, u, rfl, e⟩ | ⟨y, u, rfl, e⟩
    · exact nomatch e
    · injection e with e1 _
      subst e1
      cases v <;> rfl
end L2
namespace L2
open PySem PySem.Spec PyProof.Rows
inductive V where
  | non | bl (b : Bool) | int (i : Int) | str (x : Str) | byt (b : Array UInt8) | flt (b : UInt64) | ref (a : Addr) | ty (n : String)
  deriving DecidableEq
def RelV : V → Value → Prop
  | .non, u => u = Value.none
  | .bl b, u => u = Value.bool b
  | .int i, u => ∃ t, u = Value.int i t
  | .str x, u => ∃ t, u = Value.str x t
  | .byt b, u => ∃ t, u = Value.bytes b t
  | .flt b, u => ∃ t, u = Value.float b t
  | .ref a, u => u = Value.ref a
  | .ty n, u => u = Value.type n
abbrev Vals : List V → List Value → Prop := Paired RelV
theorem Vals.length {xs : List V} {us : List Value} (r : Vals xs us) : xs.length = us.length := Paired.length r
theorem Vals.get : ∀ {xs : List V} {us : List Value} {i : Nat} {x : V}, Vals xs us → xs[i]? = some x → ∃ u, us[i]? = some u ∧ RelV x u
  | _, _, _, _, .nil, e => by simp at e
  | _, _, 0, _, .cons r _, e => by simp at e; subst e; exact ⟨_, rfl, r⟩
  | _, _, i + 1, x, .cons _ t, e => by
    obtain ⟨u, h1, h2⟩ := Vals.get (i := i) (x := x) t (by simpa using e)
    exact ⟨u, by simpa using h1, h2⟩
theorem Vals.set {x : V} {u : Value} (r : RelV x u) : ∀ {xs : List V} {us : List Value} (i : Nat), Vals xs us → Vals (xs.set i x) (us.set i u)
  | _, _, _, .nil => .nil
  | _, _, 0, .cons _ t => .cons r t
  | _, _, i + 1, .cons q t => .cons q (Vals.set r i t)
theorem Vals.append : ∀ {xs ys : List V} {us ws : List Value}, Vals xs us → Vals ys ws → Vals (xs ++ ys) (us ++ ws)
  | _, _, _, _, .nil, s => s
  | _, _, _, _, .cons r t, s => .cons r (Vals.append t s)
theorem Vals.take : ∀ {xs : List V} {us : List Value} (n : Nat), Vals xs us → Vals (xs.take n) (us.take n)
  | _, _, 0, _ => .nil
  | _, _, _ + 1, .nil => .nil
  | _, _, n + 1, .cons r t => .cons r (Vals.take n t)
theorem Vals.drop : ∀ {xs : List V} {us : List Value} (n : Nat), Vals xs us → Vals (xs.drop n) (us.drop n)
  | _, _, 0, r => r
  | _, _, _ + 1, .nil => .nil
  | _, _, n + 1, .cons _ t => Vals.drop n t
def RelO : Option V → Option Value → Prop
  | some v, some u => RelV v u
  | none, none => True
  | _, _ => False
def KV {κ : Type} : List (κ × V) → List (κ × Value) → Prop := Paired fun (p : κ × V) (q : κ × Value) => p.1 = q.1 ∧ RelV p.2 q.2
def kV : Key → V
  | .inl i => .int i
  | .inr x => .str x
inductive HO where
    | lst (xs : List V)
    | tup (xs : List V)
    | dK (kvs : List (Key × V)) | dT (kvs : List (List Key × V))
    | set (S : Int → Bool) (n : Nat)
    | ins (C dx : Addr) (fs : List (Str × V))
    | own (x : Addr)
    | xd (fs : List (Str × V))
    | met (f x : Addr)
    | rng (lo hi : Int)
    | frz (o : Obj) (u : HO)
    | tbl (ps : Array Value)
    | ext (φ : Heap → Prop)
abbrev Hp := Addr → Option HO
def upd (H : Hp) (a : Addr) (o : HO) : Hp := fun b => if b = a then some o else H b
theorem upd_same {H : Hp} {a : Addr} {o : HO} : upd H a o a = some o := by unfold upd; rw [if_pos rfl]
theorem upd_ne {H : Hp} {a b : Addr} {o : HO} (h : b ≠ a) : upd H a o b = H b := by unfold upd; rw [if_neg h]
theorem ne_of_none {H : Hp} {a b : Addr} {o : HO} (h : H a = some o) (h' : H b = none) : a ≠ b := by
  intro e; subst e; rw [h] at h'; cases h'
section
variable (P : Program) (w : World)
def ObjOk (H : Hp) (h : Heap) (a : Addr) : HO → Prop
  | .lst xs => xs.length ≤ sizeLine ∧ ∃ (its : List Value) (n : Nat), Vals xs its ∧ h.get? a = some { cls := .type "list", data := .seq its.toArray n }
  | .tup xs => xs.length ≤ sizeLine ∧ ∃ its : List Value, Vals xs its ∧ IsTup h a its.toArray
  | .dK kvs => kvs.length ≤ sizeLine ∧ (a == sysModules) = false ∧ ∃ vs, KV kvs vs ∧ h.DictOf (mixKind P w) a vs
  | .dT kvs => kvs.length ≤ sizeLine ∧ (a == sysModules) = false ∧ ∃ xs : List (List Key × Addr × Value),
      Paired (fun (p : List Key × V) (q : List Key × Addr × Value) => p.1 = q.1 ∧ H q.2.1 = some (.tup (p.1.map kV)) ∧ RelV p.2 q.2.2) kvs xs ∧
      ∃ o es ep, h.get? a = some o ∧ o.ExactDict ∧ o.data = .dict es ep ∧ es.toList = xs.map (entryOfKey (tupleKind (mixKind P w))) ∧ (xs.map (·.1)).Nodup
  | .set S n => h.SetOf (intKind P w) a S n
  | .ins C dx fs => H dx = some (.own a) ∧ fs.length ≤ 1000 ∧ dx ≠ a ∧ h.get? a = some (PySem.W.instObj C dx) ∧
      ∃ mA, h.Ns1 dx mA ∧ (∀ f, RelO (fs.lookup f) (mA f)) ∧ PySem.Within mA (fs.map (·.1))
  | .own _ => ∃ o, h.get? a = some o
  | .xd fs => ∃ mA, h.Ns1 a mA ∧ ∀ f, RelO (fs.lookup f) (mA f)
  | .rng lo hi => ∃ t u v, h.get? a = some { cls := .type "range", data := .fields #[.int lo t, .int hi u, .int 1 v] }
  | .frz o u => h.get? a = some o ∧ ObjOk H h a u
  | .tbl ps => h.get? a = some { cls := .none, data := .fields ps }
  | .met f x => h.get? a = some (PySem.W.methodObj (.ref f) (.ref x))
  | .ext φ => φ h ∧ (∃ o, h.get? a = some o) ∧ ∀ h1 h2 : Heap, φ h1 → (∀ o, h1.get? a = some o → h2.get? a = some o) → φ h2
def HOk (H : Hp) (h : Heap) : Prop := ∀ a o, H a = some o → ObjOk P w H h a o
end
section
variable {P : Program} {w : World} {H H' : Hp} {h h' : Heap} {a : Addr} {o : HO}
theorem ObjOk.lt (x : ObjOk P w H h a o) : a < h.objs.size := by
  cases o with
  | lst xs => obtain ⟨_, _, _, _, e⟩ := x; exact Heap.lt_size e
  | tup xs => obtain ⟨_, _, _, p⟩ := x; exact p.lt
  | dK kvs => obtain ⟨_, _, _, _, o, _, _, e, _⟩ := x; exact Heap.lt_size e
  | dT kvs => obtain ⟨_, _, _, _, o, _, _, e, _⟩ := x; exact Heap.lt_size e
  | set S n => obtain ⟨o, _, _, _, e, _⟩ := x; exact Heap.lt_size e
  | ins C dx fs => obtain ⟨_, _, _, e, _⟩ := x; exact Heap.lt_size e
  | own y => obtain ⟨_, e⟩ := x; exact Heap.lt_size e
  | xd fs => obtain ⟨_, ⟨_, _, _, e, _⟩, _⟩ := x; exact Heap.lt_size e
  | rng lo hi => obtain ⟨_, _, _, e⟩ := x; exact Heap.lt_size e
  | frz ob u => obtain ⟨e, _⟩ := x; exact Heap.lt_size e
  | tbl ps => exact Heap.lt_size (show h.get? a = some _ from x)
  | met f y => exact Heap.lt_size (show h.get? a = some _ from x)
  | ext φ => obtain ⟨_, ⟨_, e⟩, _⟩ := x; exact Heap.lt_size e
theorem Paired.mapP {α β : Type} {F G : α → β → Prop} : ∀ {l₁ : List α} {l₂ : List β}, Paired F l₁ l₂ → (∀ a b, F a b → G a b) → Paired G l₁ l₂
  | _, _, .nil, _ => .nil
  | _, _, .cons r t, f => .cons (f _ _ r) (Paired.mapP t f)
theorem ObjOk.stay (x : ObjOk P w H h a o) (k : ∀ b u, (b = a ∨ H b = some (.own a)) → h.get? b = some u → h'.get? b = some u)
    (ho : ∀ b, H b = some (.own a) → H' b = some (.own a)) (ht : ∀ b xs, H b = some (.tup xs) → H' b = some (.tup xs)) : ObjOk P w H' h' a o := by
  induction o with
  | lst xs => obtain ⟨z, its, n, r, e⟩ := x; exact ⟨z, its, n, r, k _ _ (.inl rfl) e⟩
  | tup xs => obtain ⟨z, its, r, ob, e, c⟩ := x; exact ⟨z, its, r, ob, k _ _ (.inl rfl) e, c⟩
  | dK kvs => obtain ⟨z, y, vs, r, ob, es, ep, e, c⟩ := x; exact ⟨z, y, vs, r, ob, es, ep, k _ _ (.inl rfl) e, c⟩
  | dT kvs =>
    obtain ⟨z, y, xs, r, ob, es, ep, e, c⟩ := x
    exact ⟨z, y, xs, Paired.mapP r fun p q z => ⟨z.1, ht _ _ z.2.1, z.2.2⟩, ob, es, ep, k _ _ (.inl rfl) e, c⟩
  | set S n => obtain ⟨ob, es, ep, t, e, c⟩ := x; exact ⟨ob, es, ep, t, k _ _ (.inl rfl) e, c⟩
  | ins C dx fs =>
    obtain ⟨d, z, ne, e, mA, ⟨od, es, ep, e2, c⟩, r⟩ := x
    exact ⟨ho _ d, z, ne, k _ _ (.inl rfl) e, mA, ⟨od, es, ep, k _ _ (.inr d) e2, c⟩, r⟩
  | own y => obtain ⟨ob, e⟩ := x; exact ⟨ob, k _ _ (.inl rfl) e⟩
  | xd fs => obtain ⟨mA, ⟨od, es, ep, e, c⟩, r⟩ := x; exact ⟨mA, ⟨od, es, ep, k _ _ (.inl rfl) e, c⟩, r⟩
  | rng lo hi => obtain ⟨t, u, v, e⟩ := x; exact ⟨t, u, v, k _ _ (.inl rfl) e⟩
  | frz ob u ih => obtain ⟨e, q⟩ := x; exact ⟨k _ _ (.inl rfl) e, ih q⟩
  | tbl ps =>
    have e : h.get? a = some { cls := .none, data := .fields ps } := x
    show h'.get? a = some { cls := .none, data := .fields ps }
    exact k a _ (.inl rfl) e
  | met f y =>
    have e : h.get? a = some (PySem.W.methodObj (.ref f) (.ref y)) := x
    show h'.get? a = some (PySem.W.methodObj (.ref f) (.ref y))
    exact k a _ (.inl rfl) e
  | ext φ => obtain ⟨p, ⟨o, e⟩, st⟩ := x; exact ⟨st _ _ p fun o q => k _ _ (.inl rfl) q, ⟨o, k _ _ (.inl rfl) e⟩, st⟩
theorem HOk.lt (x : HOk P w H h) (e : H a = some o) : a < h.objs.size := (x a o e).lt
theorem HOk.fresh (x : HOk P w H h) (e : h.objs.size ≤ a) : H a = none := by
  cases q : H a with
  | none => rfl
  | some u => exact absurd (Nat.lt_of_lt_of_le (x.lt q) e) (Nat.lt_irrefl _)
theorem HOk.kept (x : HOk P w H h) (k : ∀ b u, h.get? b = some u → h'.get? b = some u) : HOk P w H h' := fun a o e =>
  (x a o e).stay (fun b u _ q => k b u q) (fun _ q => q) fun _ _ q => q
theorem HOk.laid (x : HOk P w H h) (k : ∀ b u, h.get? b = some u → h'.get? b = some u) (hp : h.objs.size ≤ a) (new : ObjOk P w (upd H a o) h' a o) : HOk P w (upd H a o) h' := fun b u e => by
  have hn := x.fresh hp
  by_cases hb : b = a
  · subst hb; rw [upd_same] at e; cases e; exact new
  · rw [upd_ne hb] at e
    exact (x b u e).stay (fun c v _ q => k c v q) (fun c q => by rw [upd_ne (ne_of_none q hn)]; exact q) fun c xs q => by rw [upd_ne (ne_of_none q hn)]; exact q
end
def Rd (H : Hp) (a : Addr) (u : HO) : Prop := H a = some u ∨ ∃ o, H a = some (.frz o u)
theorem Rd.of {H : Hp} {a : Addr} {u : HO} (h : H a = some u) : Rd H a u := .inl h
theorem Rd.ok {P : Program} {w : World} {H : Hp} {h : Heap} {a : Addr} {u : HO} (r : Rd H a u) (x : HOk P w H h) : ObjOk P w H h a u := by
  rcases r with r | ⟨o, r⟩
  · exact x a u r
  · obtain ⟨_, q⟩ := x a _ r
    exact q
def Mut : Option HO → Prop
  | some (.lst _) => True
  | some (.dK _) => True
  | some (.dT _) => True
  | some (.set _ _) => True
  | some (.ins _ _ _) => True
  | some (.ext _) => True
  | _ => False
section
variable {P : Program} {w : World} {H : Hp} {h h' : Heap} {x e : Addr} {o' : HO}
theorem HOk.write (ok : HOk P w H h) (mu : Mut (H x)) (he : e = x ∨ H e = some (.own x)) (k : ∀ b u, b ≠ e → h.get? b = some u → h'.get? b = some u) (heo : ∃ u, h'.get? e = some u)
    (new : ObjOk P w (upd H x o') h' x o') : HOk P w (upd H x o') h' := fun b u q => by
  have nown : ∀ c y, H c = some (.own y) → c ≠ x := fun c y r z => by subst z; rw [r] at mu; exact mu
  have ntup : ∀ c xs, H c = some (.tup xs) → c ≠ x := fun c xs r z => by subst z; rw [r] at mu; exact mu
  by_cases hb : b = x
  · subst hb; rw [upd_same] at q; cases q; exact new
  · rw [upd_ne hb] at q
    by_cases hbe : b = e
    · have q' : H b = some (.own x) := by
        rcases he with z | z
        · exact absurd (hbe.trans z) hb
        · rw [hbe]; exact z
      rw [q] at q'; cases q'
      obtain ⟨v, hv⟩ := heo
      exact ⟨v, by rw [hbe]; exact hv⟩
    · refine (ok b u q).stay (fun c v hc r => k c v ?_ r) (fun c r => by rw [upd_ne (nown c b r)]; exact r) fun c xs r => by rw [upd_ne (ntup c xs r)]; exact r
      rcases hc with rfl | hc
      · exact hbe
      · rintro rfl
        rcases he with z | z
        · exact nown c b hc z
        · rw [hc] at z; cases z; exact hb rfl
end
structure Un (fs ex : List Addr) (H H' : Hp) (h h' : Heap) : Prop where
  keep : ∀ b o, h.get? b = some o → H b = none → b ∉ fs → b ∉ ex → h'.get? b = some o
  slot : ∀ b o, h.get? b = some o → H b = none → b ∈ fs → b ∉ ex → ∃ sl, h'.get? b = some { o with slots := sl }
  free : ∀ b o, h.get? b = some o → H b = none → b ∉ ex → H' b = none
  there : ∀ b o, h.get? b = some o → b ∉ ex → ∃ o', h'.get? b = some o'
  tups : ∀ b xs, H b = some (.tup xs) → H' b = some (.tup xs)
  frzs : ∀ b o u, H b = some (.frz o u) → H' b = some (.frz o u)
  tbls : ∀ b ps, H b = some (.tbl ps) → ∃ more, H' b = some (.tbl (ps ++ more))
section
variable {fs fs' ex ex' : List Addr} {H H1 H2 : Hp} {h h1 h2 h' : Heap} {a x e : Addr} {o : HO}
theorem Un.any (u : Un fs ex H H1 h h1) {b : Addr} {ob : Obj} (q : h.get? b = some ob) (n : H b = none) (hx : b ∉ ex) : ∃ sl, h1.get? b = some { ob with slots := sl } := by
  by_cases hb : b ∈ fs
  · exact u.slot b ob q n hb hx
  · exact ⟨ob.slots, u.keep b ob q n hb hx⟩
theorem Un.trans (a : Un fs ex H H1 h h1) (b : Un fs ex H1 H2 h1 h2) : Un fs ex H H2 h h2 where
  keep := fun c ob q n hc hx => b.keep c ob (a.keep c ob q n hc hx) (a.free c ob q n hx) hc hx
  slot := fun c ob q n hc hx => by
    obtain ⟨sl, e1⟩ := a.slot c ob q n hc hx
    obtain ⟨sl', e2⟩ := b.slot c _ e1 (a.free c ob q n hx) hc hx
    exact ⟨sl', e2⟩
  free := fun c ob q n hx => by
    obtain ⟨o', e1⟩ := a.there c ob q hx
    exact b.free c o' e1 (a.free c ob q n hx) hx
  there := fun c ob q hx => by
    obtain ⟨o', e1⟩ := a.there c ob q hx
    exact b.there c o' e1 hx
  tups := fun c xs q => b.tups c xs (a.tups c xs q)
  frzs := fun c ob xs q => b.frzs c ob xs (a.frzs c ob xs q)
  tbls := fun c ps q => by
    obtain ⟨m1, e1⟩ := a.tbls c ps q
    obtain ⟨m2, e2⟩ := b.tbls c _ e1
    exact ⟨m1 ++ m2, by rw [e2, Array.append_assoc]⟩
theorem Un.kept (k : ∀ b u, h.get? b = some u → h'.get? b = some u) : Un fs ex H H h h' :=
  ⟨fun b ob q _ _ _ => k b ob q, fun b ob q _ _ _ => ⟨ob.slots, k b ob q⟩, fun _ _ _ n _ => n, fun b ob q _ => ⟨ob, k b ob q⟩, fun _ _ q => q, fun _ _ _ q => q, fun _ ps q => ⟨#[], by rw [q]; simp⟩⟩
theorem Un.refl : Un fs ex H H h h := Un.kept fun _ _ q => q
theorem Un.laid (k : ∀ b u, h.get? b = some u → h'.get? b = some u) (hp : h.objs.size ≤ a) (hn : H a = none) : Un fs ex H (upd H a o) h h' where
  keep := fun b u q _ _ _ => k b u q
  slot := fun b u q _ _ _ => ⟨u.slots, k b u q⟩
  free := fun b u q n _ => by rw [upd_ne (Nat.ne_of_lt (Nat.lt_of_lt_of_le (Heap.lt_size q) hp))]; exact n
  there := fun b u q _ => ⟨u, k b u q⟩
  tups := fun b xs q => by rw [upd_ne (ne_of_none q hn)]; exact q
  frzs := fun b u xs q => by rw [upd_ne (ne_of_none q hn)]; exact q
  tbls := fun b ps q => ⟨#[], by rw [upd_ne (ne_of_none q hn), q]; simp⟩
theorem Un.write (mu : Mut (H x)) (he : e = x ∨ H e = some (.own x)) (k : ∀ b u, b ≠ e → h.get? b = some u → h'.get? b = some u) (heo : ∃ u, h'.get? e = some u) : Un fs ex H (upd H x o) h h' := by
  have hx : ∀ b, H b = none → b ≠ x := fun b n z => by subst z; rw [n] at mu; exact mu
  have hb : ∀ b, H b = none → b ≠ e := fun b n z => by
    subst z
    rcases he with r | r
    · exact hx b n r
    · rw [n] at r; cases r
  have hm : ∀ b u, H b = some u → ¬ Mut (some u) → b ≠ x := fun b u q nm z => by subst z; rw [q] at mu; exact nm mu
  refine ⟨fun b u q n _ _ => k b u (hb b n) q, fun b u q n _ _ => ⟨u.slots, k b u (hb b n) q⟩, fun b u q n _ => by rw [upd_ne (hx b n)]; exact n, fun b u q _ => ?_,
    fun b xs q => by rw [upd_ne (hm b _ q fun z => z)]; exact q, fun b u xs q => by rw [upd_ne (hm b _ q fun z => z)]; exact q, fun b ps q => ⟨#[], by rw [upd_ne (hm b _ q fun z => z), q]; simp⟩⟩
  by_cases hbe : b = e
  · subst hbe; exact heo
  · exact ⟨u, k b u hbe q⟩
theorem Un.mono (u : Un fs ex H H1 h h1) (hs : ∀ b ∈ fs, b ∈ fs') (hx : ∀ b ∈ ex, b ∈ ex') : Un fs' ex' H H1 h h1 :=
  ⟨fun b ob q n hb he => u.keep b ob q n (fun z => hb (hs b z)) fun z => he (hx b z), fun _ _ q n _ he => u.any q n fun z => he (hx _ z), fun b ob q n he => u.free b ob q n fun z => he (hx b z), fun b ob q he => u.there b ob q fun z => he (hx b z), u.tups, u.frzs, u.tbls⟩
end
def trk (h : Heap) (H : Hp) : List Addr := (List.range h.objs.size).filter fun a => (H a).isSome
def hidT (h : Heap) (H : Hp) : Heap := PySem.W.hideAll h (trk h H)
theorem hidT_size (h : Heap) (H : Hp) : (hidT h H).objs.size = h.objs.size := PySem.W.hideAll_size _ _
theorem hidT_get {h : Heap} {H : Hp} {b : Addr} {o : Obj} (e : h.get? b = some o) (n : H b = none) : (hidT h H).get? b = some o :=
  PySem.W.hideAll_get _ e fun hm => by
    have q : (H b).isSome = true := (List.mem_filter.mp hm).2
    rw [n] at q; simp at q
theorem of_hidT {h : Heap} {H : Hp} {b : Addr} {o : Obj} (e : (hidT h H).get? b = some o) : h.get? b = some o ∧ H b = none := by
  have e' : h.get? b = some o := PySem.W.of_hideAll (trk h H) e
  refine ⟨e', ?_⟩
  cases q : H b with
  | none => rfl
  | some x =>
    have hm : b ∈ trk h H := List.mem_filter.mpr ⟨List.mem_range.mpr (Heap.lt_size e'), by simp [q]⟩
    have z : (hidT h H).get? b = none := PySem.W.hideAll_none (trk h H) hm
    rw [z] at e; cases e
def allNews (g h : Heap) (L : Addr) : List (Addr × Obj) := (List.range h.objs.size).filterMap fun a => if a = L ∨ (g.get? a).isSome = true then none else (h.get? a).map fun o => (a, o)
def rest (g h : Heap) (L d : Addr) : List (Addr × Obj) := (allNews g h L).filter fun p => decide (p.1 ≠ d)
end L2
namespace L2
open PySem PySem.Spec PyProof.Rows
structure Mod (K : PySem.W.Frag) (mg : Str → Option Value) (base : Heap) : Prop where
  kin : K.In base
  glob : base.Ns mainGlobals mg
  blt : ∃ mb, base.Ns builtinsNs mb ∧ ∀ x : Str, x ≠ "__name__" → mb x = bootBuiltins x
  nolimit : base.NoLimit
  seer : base.NoSeer
structure Cx where
  prog : Program
  w : World
  K : PySem.W.Frag
  mg : Str → Option Value
  base : Heap
  A : Around
  N : List Str
  s₀ : Shared
  H₀ : Hp
  env : Env
  outer : List Env
  stack : List Env
  ex : List Addr
  fn : Str → Bool
  calm : Bool
  pn : List (Addr × Obj)
  xe : Value → Shared → Prop
def frs (l : List Env) : List Addr := l.filterMap (·.frame)
abbrev Cx.fs (X : Cx) : List Addr := frs X.outer
def Vis (sc : Scope) (x : Str) : Prop := sc.names.lookup x = some .local ∨ sc.names.lookup x = some .cell ∨ sc.names.lookup x = some .free
def Loc (sc : Scope) (x : Str) : Prop := sc.names.lookup x = some .local ∨ sc.names.lookup x = some .cell
def Look (env : Env) (h : Heap) (m : Str → Option Value) (x : Str) (u : Value) : Prop :=
  (env.kindOf x = some .local ∧ m x = some u) ∨ ((env.kindOf x = some .cell ∨ env.kindOf x = some .free) ∧ ∃ c, env.cells.lookup x = some c ∧ h.IsCell c (some u))
structure Cx.Ok (X : Cx) : Prop where
  mod : Mod X.K X.mg X.base
  kind : X.env.scope.kind = .function
  glob : X.env.globals = mainGlobals
  blt : X.env.builtins = builtinsNs
  above : X.s₀.heap.objs.size ≤ X.env.locals
  inj : ∀ x y c, X.env.cells.lookup x = some c → X.env.cells.lookup y = some c → x = y
  has : ∀ x, (X.env.kindOf x = some .cell ∨ X.env.kindOf x = some .free) → ∃ c, X.env.cells.lookup x = some c
  cab : ∀ x c, X.fn x = true → X.env.cells.lookup x = some c → X.s₀.heap.objs.size ≤ c
  hd : X.calm = true → X.A.handled = none
  frames : X.A.frames = some X.stack
  stk : X.stack = X.outer ∨ (X.stack = X.env :: X.outer ∧ X.env.frame = some X.env.locals)
  exf : ∀ b ∈ X.ex, b ≠ X.env.locals ∧ ∀ x c, X.env.cells.lookup x = some c → c ≠ b
  bs : ∀ b o, X.base.get? b = some o → X.s₀.heap.get? b = some o ∧ X.H₀ b = none
  bsz : X.base.objs.size ≤ X.s₀.heap.objs.size
  noex : ∀ b o, X.base.get? b = some o → b ∉ X.ex
  exfs : ∀ b ∈ X.ex, b ∉ X.fs
  funs : X.s₀.heap.FunFrames X.base X.outer
  frf : ∀ b ∈ X.fs, X.H₀ b = none
structure Inv (X : Cx) (pins : List (Addr × Obj)) (σ : List (Option V)) (H : Hp) (s : Shared) : Prop where
  ok : X.Ok
  os : s.os = X.s₀.os
  bare : AllBare s.gens
  base : Un X.fs X.ex X.H₀ H X.s₀.heap s.heap
  loc : ∃ m, s.heap.Ns X.env.locals m ∧ ∀ (i : Nat) (x : Str) (v : V), X.N[i]? = some x → σ[i]? = some (some v) → Vis X.env.scope x → ∃ u, RelV v u ∧ Look X.env s.heap m x u
  cell : ∀ x c, X.env.cells.lookup x = some c → ∃ v, s.heap.IsCell c v
  free : H X.env.locals = none
  freeC : ∀ x c, X.env.cells.lookup x = some c → H c = none
  pin : ∀ p ∈ X.pn ++ pins, s.heap.get? p.1 = some p.2 ∧ H p.1 = none ∧ p.1 ≠ X.env.locals ∧ p.1 ∉ X.fs ∧ ∀ v, p.2.data ≠ .cell v
  hok : HOk X.prog X.w H s.heap
  len : σ.length = X.N.length
section
variable {X : Cx} {pins : List (Addr × Obj)} {σ : List (Option V)} {H H' : Hp} {s : Shared} {h' : Heap}
theorem Cx.Ok.nofr (ok : X.Ok) {b : Addr} {o : Obj} (e : X.base.get? b = some o) : b ∉ X.fs := fun hb => by
  have := (ok.funs.mem hb).1
  rw [e] at this; cases this
theorem Inv.bs (I : Inv X pins σ H s) : ∀ b o, X.base.get? b = some o → s.heap.get? b = some o ∧ H b = none := fun b o e =>
  ⟨I.base.keep b o (I.ok.bs b o e).1 (I.ok.bs b o e).2 (I.ok.nofr e) (I.ok.noex b o e), I.base.free b o (I.ok.bs b o e).1 (I.ok.bs b o e).2 (I.ok.noex b o e)⟩
theorem Inv.bk (I : Inv X pins σ H s) : ∀ b o, X.base.get? b = some o → s.heap.get? b = some o := fun b o e => (I.bs b o e).1
theorem Inv.mod (I : Inv X pins σ H s) : Mod X.K X.mg X.base := I.ok.mod
theorem Inv.kIn (I : Inv X pins σ H s) : X.K.In s.heap := I.ok.mod.kin.keeps I.bk
theorem Inv.nolimit (I : Inv X pins σ H s) : s.heap.NoLimit := I.ok.mod.nolimit.keeps I.bk
theorem Inv.noseer (I : Inv X pins σ H s) : s.heap.NoSeer := I.ok.mod.seer.keeps I.bk
theorem Inv.fr (I : Inv X pins σ H s) : ∃ m, Fr X.base X.env.locals s.heap m :=
  let ⟨m, hn, _⟩ := I.loc
  ⟨m, hn, I.bk, Nat.le_trans I.ok.bsz I.ok.above⟩
theorem Inv.lt (I : Inv X pins σ H s) : X.env.locals < s.heap.objs.size := let ⟨_, hn, _⟩ := I.loc; hn.lt
theorem Inv.sz (I : Inv X pins σ H s) : X.s₀.heap.objs.size ≤ s.heap.objs.size := Nat.le_trans I.ok.above (Nat.le_of_lt I.lt)
theorem Inv.nofs (I : Inv X pins σ H s) {a : Addr} (h : s.heap.objs.size ≤ a) : a ∉ X.fs := fun hb => by
  obtain ⟨_, o, ho, _⟩ := I.ok.funs.mem hb
  exact absurd (Nat.lt_of_lt_of_le (Heap.lt_size ho) (Nat.le_trans I.sz h)) (Nat.lt_irrefl _)
theorem Inv.cne (I : Inv X pins σ H s) : ∀ x c, X.env.cells.lookup x = some c → c ≠ X.env.locals := fun x c e z => by
  obtain ⟨v, o, ho, hd⟩ := I.cell x c e
  obtain ⟨m, ⟨o', es, ep, ho', hd', _⟩, _⟩ := I.loc
  rw [z, ho'] at ho; cases ho; rw [hd'] at hd; cases hd
theorem Inv.funs (I : Inv X pins σ H s) : s.heap.FunFrames X.base X.outer := by
  have all : ∀ (l : List Env), (∀ b ∈ frs l, b ∈ X.fs) → X.s₀.heap.FunFrames X.base l → s.heap.FunFrames X.base l := by
    intro l
    induction l with
    | nil => intro _ _; trivial
    | cons env r ih =>
      intro hs hl
      obtain ⟨hk, ⟨L, o, hf, hn, ho, hd⟩, hr⟩ := hl
      have hL : L ∈ X.fs := hs L (by unfold frs; rw [List.filterMap_cons, hf]; exact List.mem_cons_self)
      obtain ⟨sl, e⟩ := I.base.slot L o ho (I.ok.frf L hL) hL fun z => I.ok.exfs L z hL
      exact ⟨hk, ⟨L, _, hf, hn, e, hd⟩, ih (fun b hb => hs b (by unfold frs; rw [List.filterMap_cons, hf]; exact List.mem_cons_of_mem _ hb)) hr⟩
  exact all X.outer (fun _ hb => hb) I.ok.funs
theorem Inv.stack (I : Inv X pins σ H s) : s.heap.FunFrames X.base X.stack := by
  rcases I.ok.stk with e | ⟨e, hf⟩
  · rw [e]; exact I.funs
  · rw [e]
    obtain ⟨m, hn, _⟩ := I.loc
    refine .cons (by rw [I.ok.kind]; decide) hf hn ?_ I.funs
    exact Heap.get?_none_of_le (Nat.le_trans I.ok.bsz I.ok.above)
theorem Inv.stkSub (I : Inv X pins σ H s) : ∀ b ∈ frs X.stack, b ∈ X.env.locals :: X.fs := fun b hb => by
  rcases I.ok.stk with e | ⟨e, hf⟩
  · rw [e] at hb; exact List.mem_cons_of_mem _ hb
  · rw [e] at hb
    unfold frs at hb
    rw [List.filterMap_cons, hf] at hb
    exact hb
theorem Inv.stkFree (I : Inv X pins σ H s) : ∀ b ∈ frs X.stack, H b = none := fun b hb => by
  rcases List.mem_cons.mp (I.stkSub b hb) with e | hb
  · rw [e]; exact I.free
  · obtain ⟨_, o, ho, _⟩ := I.ok.funs.mem hb
    exact I.base.free b o ho (I.ok.frf b hb) fun z => I.ok.exfs b z hb
theorem Inv.step {g' : Array GenState} {t' : Nat} {d' : Drawn} {ch : List Addr} (I : Inv X pins σ H s)
    (hch : ∀ b ∈ ch, (b ∈ X.ex ∨ X.s₀.heap.objs.size ≤ b) ∧ b ≠ X.env.locals ∧ (∀ x c, X.env.cells.lookup x = some c → c ≠ b) ∧ ∀ p ∈ X.pn ++ pins, p.1 ≠ b)
    (keep : ∀ b o, b ≠ X.env.locals → b ∉ X.fs → b ∉ ch → s.heap.get? b = some o → H b = none → h'.get? b = some o)
    (slot : ∀ b o, b ≠ X.env.locals → b ∈ X.fs → b ∉ ch → s.heap.get? b = some o → H b = none → ∃ sl, h'.get? b = some { o with slots := sl }) (free : ∀ b o, b ∉ ch → s.heap.get? b = some o → H b = none → H' b = none)
    (there : ∀ b o, b ∉ ch → s.heap.get? b = some o → ∃ o', h'.get? b = some o')
    (tups : ∀ b xs, H b = some (.tup xs) → H' b = some (.tup xs)) (frzs : ∀ b o u, H b = some (.frz o u) → H' b = some (.frz o u)) (tbls : ∀ b ps, H b = some (.tbl ps) → ∃ more, H' b = some (.tbl (ps ++ more)))
    (ns : ∀ m, s.heap.Ns X.env.locals m → h'.Ns X.env.locals m) (hok : HOk X.prog X.w H' h') (hg : AllBare g') :
    Inv X pins σ H' { s with heap := h', gens := g', drawn := d', toks := t' } := by
  have neL : ∀ b o, X.s₀.heap.get? b = some o → b ≠ X.env.locals := fun b o e => Nat.ne_of_lt (Nat.lt_of_lt_of_le (Heap.lt_size e) I.ok.above)
  have neC : ∀ b o, X.s₀.heap.get? b = some o → b ∉ X.ex → b ∉ ch := fun b o e hx hb => by
    rcases (hch b hb).1 with z | z
    · exact hx z
    · exact absurd (Nat.lt_of_lt_of_le (Heap.lt_size e) z) (Nat.lt_irrefl _)
  have cellK : ∀ x c, X.env.cells.lookup x = some c → ∀ v, s.heap.IsCell c v → h'.IsCell c v := fun x c e v ⟨o, ho, hd⟩ => by
    have nch : c ∉ ch := fun z => (hch c z).2.2.1 x c e rfl
    by_cases hc : c ∈ X.fs
    · obtain ⟨sl, q⟩ := slot c o (I.cne x c e) hc nch ho (I.freeC x c e)
      exact ⟨_, q, hd⟩
    · exact ⟨o, keep c o (I.cne x c e) hc nch ho (I.freeC x c e), hd⟩
  refine ⟨I.ok, I.os, hg, ⟨fun b o e n hb hx => ?_, fun b o e n hb hx => ?_, fun b o e n hx => ?_, fun b o e hx => ?_, fun b xs e => tups b xs (I.base.tups b xs e), fun b o xs e => frzs b o xs (I.base.frzs b o xs e), fun b ps e => ?_⟩, ?_, fun x c e => ?_, ?_, fun x c e => ?_, fun p hp => ?_, hok, I.len⟩
  · exact keep b o (neL b o e) hb (neC b o e hx) (I.base.keep b o e n hb hx) (I.base.free b o e n hx)
  · obtain ⟨sl, e1⟩ := I.base.slot b o e n hb hx
    obtain ⟨sl', e2⟩ := slot b _ (neL b o e) hb (neC b o e hx) e1 (I.base.free b o e n hx)
    exact ⟨sl', e2⟩
  · obtain ⟨o', e1⟩ := I.base.there b o e hx
    exact free b o' (neC b o e hx) e1 (I.base.free b o e n hx)
  · obtain ⟨o', e1⟩ := I.base.there b o e hx
    exact there b o' (neC b o e hx) e1
  · obtain ⟨m1, e1⟩ := I.base.tbls b ps e
    obtain ⟨m2, e2⟩ := tbls b _ e1
    exact ⟨m1 ++ m2, by rw [e2, Array.append_assoc]⟩
  · obtain ⟨m, hn, hl⟩ := I.loc
    refine ⟨m, ns m hn, fun i x v e1 e2 e3 => ?_⟩
    obtain ⟨u, r, l⟩ := hl i x v e1 e2 e3
    refine ⟨u, r, ?_⟩
    rcases l with l | ⟨k, c, e, z⟩
    · exact .inl l
    · exact .inr ⟨k, c, e, cellK x c e _ z⟩
  · obtain ⟨v, z⟩ := I.cell x c e
    exact ⟨v, cellK x c e v z⟩
  · obtain ⟨m, ⟨o, _, _, ho, _⟩, _⟩ := I.loc
    exact free _ o (fun z => (hch _ z).2.1 rfl) ho I.free
  · obtain ⟨v, o, ho, hd⟩ := I.cell x c e
    exact free c o (fun z => (hch c z).2.2.1 x c e rfl) ho (I.freeC x c e)
  · obtain ⟨e, n, ne, nf, d⟩ := I.pin p hp
    have nch : p.1 ∉ ch := fun z => (hch p.1 z).2.2.2 p hp rfl
    exact ⟨keep p.1 p.2 ne nf nch e n, free p.1 p.2 nch e n, ne, nf, d⟩
theorem Inv.un {t' : Nat} (I : Inv X pins σ H s) (u : Un X.fs [] H H' s.heap h') (hok : HOk X.prog X.w H' h') : Inv X pins σ H' { s with heap := h', toks := t' } := by
  obtain ⟨m, ⟨o, es, ep, ho, r⟩, _⟩ := id I.loc
  obtain ⟨sl, hL⟩ := u.any ho I.free (by simp)
  exact I.step (g' := s.gens) (d' := s.drawn) (ch := []) (fun _ z => nomatch z) (fun b o _ hb _ e n => u.keep b o e n hb (by simp)) (fun b o _ hb _ e n => u.slot b o e n hb (by simp)) (fun b o _ e n => u.free b o e n (by simp)) (fun b o _ e => u.there b o e (by simp)) u.tups u.frzs u.tbls (fun m' hm => by
    obtain ⟨o', es', ep', ho', r'⟩ := hm
    rw [ho] at ho'; cases ho'
    exact ⟨_, es', ep', hL, r'⟩) hok I.bare
theorem Inv.call {g' : Array GenState} {t' : Nat} {d' : Drawn} {ch : List Addr} (I : Inv X pins σ H s) (u : Un (frs X.stack) ch H H' s.heap h') (hok : HOk X.prog X.w H' h') (hg : AllBare g')
    (hch : ∀ b ∈ ch, (b ∈ X.ex ∨ X.s₀.heap.objs.size ≤ b) ∧ b ≠ X.env.locals ∧ (∀ x c, X.env.cells.lookup x = some c → c ≠ b) ∧ ∀ p ∈ X.pn ++ pins, p.1 ≠ b) :
    Inv X pins σ H' { s with heap := h', gens := g', drawn := d', toks := t' } := by
  obtain ⟨m, ⟨o, es, ep, ho, r⟩, _⟩ := id I.loc
  obtain ⟨sl, hL⟩ := u.any ho I.free fun z => (hch _ z).2.1 rfl
  exact I.step (ch := ch) hch (fun b o hL hb hc e n => u.keep b o e n (fun z => (List.mem_cons.mp (I.stkSub b z)).elim hL hb) hc) (fun b o _ _ hc e n => u.any e n hc) (fun b o hc e n => u.free b o e n hc) (fun b o hc e => u.there b o e hc) u.tups u.frzs u.tbls (fun m' hm => by
    obtain ⟨o', es', ep', ho', r'⟩ := hm
    rw [ho] at ho'; cases ho'
    exact ⟨_, es', ep', hL, r'⟩) hok hg
theorem Inv.turned {t' : Nat} {it : Addr} (I : Inv X pins σ H s) (k : ∀ b o, b ≠ it → s.heap.get? b = some o → h'.get? b = some o) (hn : H it = none) (hL : it ≠ X.env.locals)
    (h1 : it ∈ X.ex ∨ X.s₀.heap.objs.size ≤ it) (h2 : ∀ x c, X.env.cells.lookup x = some c → c ≠ it) (h3 : ∀ p ∈ X.pn ++ pins, p.1 ≠ it) : Inv X pins σ H { s with heap := h', toks := t' } := by
  have nit : ∀ b u, H b = some u → b ≠ it := fun b u e z => by rw [z, hn] at e; cases e
  refine I.step (g' := s.gens) (d' := s.drawn) (ch := [it]) (fun b hb => ?_) (fun b o _ _ hc e _ => k b o (fun z => hc (by simp [z])) e) (fun b o _ _ hc e _ => ⟨o.slots, k b o (fun z => hc (by simp [z])) e⟩) (fun _ _ _ _ n => n)
    (fun b o hc e => ⟨o, k b o (fun z => hc (by simp [z])) e⟩) (fun _ _ e => e) (fun _ _ _ e => e) (fun b ps e => ⟨#[], by rw [e]; simp⟩) (fun m hm => ?_) (fun b u e => ?_) I.bare
  · have e : b = it := by simpa using hb
    subst e
    exact ⟨h1, hL, h2, h3⟩
  · obtain ⟨o, es, ep, ho, r⟩ := hm
    exact ⟨o, es, ep, k _ o (Ne.symm hL) ho, r⟩
  · refine (I.hok b u e).stay (fun c v hc q => k c v ?_ q) (fun _ q => q) fun _ _ q => q
    rcases hc with z | z
    · rw [z]; exact nit b u e
    · exact nit c _ z
theorem Inv.tok (I : Inv X pins σ H s) (t : Nat) : Inv X pins σ H { s with toks := t } := I.un (h' := s.heap) (t' := t) Un.refl I.hok
theorem Inv.kept {t' : Nat} (I : Inv X pins σ H s) (k : ∀ b u, s.heap.get? b = some u → h'.get? b = some u) : Inv X pins σ H { s with heap := h', toks := t' } := I.un (Un.kept k) (I.hok.kept k)
theorem Inv.laid {a : Addr} {o : HO} {t' : Nat} (I : Inv X pins σ H s) (k : ∀ b u, s.heap.get? b = some u → h'.get? b = some u) (hp : s.heap.objs.size ≤ a) (new : ObjOk X.prog X.w (upd H a o) h' a o) :
    Inv X pins σ (upd H a o) { s with heap := h', toks := t' } := I.un (Un.laid k hp (I.hok.fresh hp)) (I.hok.laid k hp new)
theorem Inv.write {x e : Addr} {o : HO} {t' : Nat} (I : Inv X pins σ H s) (mu : Mut (H x)) (he : e = x ∨ H e = some (.own x)) (k : ∀ b u, b ≠ e → s.heap.get? b = some u → h'.get? b = some u) (heo : ∃ u, h'.get? e = some u)
    (new : ObjOk X.prog X.w (upd H x o) h' x o) : Inv X pins σ (upd H x o) { s with heap := h', toks := t' } := I.un (Un.write mu he k heo) (I.hok.write mu he k heo new)
theorem Inv.pins_of {pins' : List (Addr × Obj)} (I : Inv X pins σ H s) (h : ∀ p ∈ pins', s.heap.get? p.1 = some p.2 ∧ H p.1 = none ∧ p.1 ≠ X.env.locals ∧ p.1 ∉ X.fs ∧ ∀ v, p.2.data ≠ .cell v) : Inv X pins' σ H s :=
  ⟨I.ok, I.os, I.bare, I.base, I.loc, I.cell, I.free, I.freeC, fun p hp => (List.mem_append.mp hp).elim (fun z => I.pin p (List.mem_append_left _ z)) (h p), I.hok, I.len⟩
theorem nodup_ix {N : List Str} (hN : N.Nodup) {i j : Nat} {x : Str} (a : N[i]? = some x) (b : N[j]? = some x) : i = j := by
  obtain ⟨h1, e1⟩ := List.getElem?_eq_some_iff.mp a
  obtain ⟨h2, e2⟩ := List.getElem?_eq_some_iff.mp b
  exact (List.getElem_inj hN).mp (e1.trans e2.symm)
theorem store_ok2 {M : Model} {A : Around} {E : Value → Shared → Prop} {i : Nat} {x : Str} {v : V} {u : Value} {Q : Unit → Shared → Prop} (I : Inv X pins σ H s) (hN : X.N.Nodup) (hi : X.N[i]? = some x) (hx : Loc X.env.scope x) (r : RelV v u)
    (h : ∀ s', Inv X pins (σ.set i (some v)) H s' → (∃ a, Heap.SameBut a s.heap s'.heap ∧ (a = X.env.locals ∨ X.env.cells.lookup x = some a)) → Q () s') (hf : X.fn x = true ∨ X.env.scope.names.lookup x = some .local := by first | exact .inl rfl | exact .inr rfl | assumption) : wpAny M A (storeName X.env x u) Q E s := by
  obtain ⟨m, hn, hl⟩ := id I.loc
  have hcls : (X.env.scope.kind == .class || (X.env.scope.kind == .module && X.env.locals != X.env.globals)) = false := by rw [I.ok.kind]; rfl
  have hiσ : i < σ.length := by rw [I.len]; exact (List.getElem?_eq_some_iff.mp hi).1
  have cne := I.cne
  have tracked : ∀ {a : Addr} {h' : Heap}, (∃ o, s.heap.get? a = some o ∧ H a = none) → Heap.SameBut a s.heap h' → HOk X.prog X.w H h' := fun {a h'} ha hs b ob e => by
    obtain ⟨_, _, hfree⟩ := ha
    refine (I.hok b ob e).stay (fun c w' hc q => (hs.2 c ?_).trans q) (fun _ q => q) fun _ _ q => q
    rintro rfl
    rcases hc with rfl | hc
    · rw [hfree] at e; cases e
    · rw [hfree] at hc; cases hc
  rcases hx with hk | hk
  · refine wpAny_storeName_local hk hn (fun h' hn' hs => ?_) hcls
    obtain ⟨oL, _, _, hoL, _⟩ := id hn
    refine h _ ⟨I.ok, I.os, I.bare, ⟨fun b o e n hb hx => ?_, fun b o e n hb hx => ?_, I.base.free, fun b o e hx => ?_, I.base.tups, I.base.frzs, I.base.tbls⟩, ⟨_, hn', fun j y v' e1 e2 e3 => ?_⟩, fun y c e => ?_, I.free, I.freeC, fun p hp => ?_, tracked ⟨oL, hoL, I.free⟩ hs, by simpa using I.len⟩ ⟨_, hs, .inl rfl⟩
    · exact (hs.2 b (Nat.ne_of_lt (Nat.lt_of_lt_of_le (Heap.lt_size e) I.ok.above))).trans (I.base.keep b o e n hb hx)
    · obtain ⟨sl, e1⟩ := I.base.slot b o e n hb hx
      exact ⟨sl, (hs.2 b (Nat.ne_of_lt (Nat.lt_of_lt_of_le (Heap.lt_size e) I.ok.above))).trans e1⟩
    · obtain ⟨o', e1⟩ := I.base.there b o e hx
      exact ⟨o', (hs.2 b (Nat.ne_of_lt (Nat.lt_of_lt_of_le (Heap.lt_size e) I.ok.above))).trans e1⟩
    · by_cases hj : j = i
      · subst hj
        rw [hi] at e1; cases e1
        rw [List.getElem?_set_self hiσ] at e2
        cases e2
        exact ⟨u, r, .inl ⟨hk, by simp⟩⟩
      · rw [List.getElem?_set_ne (Ne.symm hj)] at e2
        obtain ⟨u', r', q⟩ := hl j y v' e1 e2 e3
        refine ⟨u', r', ?_⟩
        rcases q with ⟨k, e⟩ | ⟨k, c, e, z⟩
        · refine .inl ⟨k, ?_⟩
          have : y ≠ x := fun e => hj (nodup_ix hN e1 (e ▸ hi))
          simp [this, e]
        · exact .inr ⟨k, c, e, z.sameBut hs (cne y c e)⟩
    · obtain ⟨w', z⟩ := I.cell y c e
      exact ⟨w', z.sameBut hs (cne y c e)⟩
    · obtain ⟨e, n, ne, nf, d⟩ := I.pin p hp
      exact ⟨(hs.2 p.1 ne).trans e, n, ne, nf, d⟩
  · have hfn : X.fn x = true := by
      rcases hf with z | z
      · exact z
      · rw [z] at hk; cases hk
    obtain ⟨c, hc⟩ := I.ok.has x (.inl hk)
    obtain ⟨w', z⟩ := I.cell x c hc
    refine wpAny_storeName_cell I.ok.kind hk hc z (fun h' hc' hs => ?_)
    obtain ⟨oc, hoc, hocd⟩ := id z
    refine h { s with heap := h' } ⟨I.ok, I.os, I.bare, ⟨fun b o e n hb hx => ?_, fun b o e n hb hx => ?_, I.base.free, fun b o e hx => ?_, I.base.tups, I.base.frzs, I.base.tbls⟩, ⟨m, hn.sameBut hs (Ne.symm (cne x c hc)), fun j y v' e1 e2 e3 => ?_⟩, fun y c' e => ?_, I.free, I.freeC, fun p hp => ?_, tracked ⟨oc, hoc, I.freeC x c hc⟩ hs, by simpa using I.len⟩ ⟨c, hs, .inr hc⟩
    · exact (hs.2 b (Nat.ne_of_lt (Nat.lt_of_lt_of_le (Heap.lt_size e) (I.ok.cab x c hfn hc)))).trans (I.base.keep b o e n hb hx)
    · obtain ⟨sl, e1⟩ := I.base.slot b o e n hb hx
      exact ⟨sl, (hs.2 b (Nat.ne_of_lt (Nat.lt_of_lt_of_le (Heap.lt_size e) (I.ok.cab x c hfn hc)))).trans e1⟩
    · obtain ⟨o', e1⟩ := I.base.there b o e hx
      exact ⟨o', (hs.2 b (Nat.ne_of_lt (Nat.lt_of_lt_of_le (Heap.lt_size e) (I.ok.cab x c hfn hc)))).trans e1⟩
    · by_cases hj : j = i
      · subst hj
        rw [hi] at e1; cases e1
        rw [List.getElem?_set_self hiσ] at e2
        cases e2
        exact ⟨u, r, .inr ⟨.inl hk, c, hc, hc'⟩⟩
      · rw [List.getElem?_set_ne (Ne.symm hj)] at e2
        obtain ⟨u', r', q⟩ := hl j y v' e1 e2 e3
        refine ⟨u', r', ?_⟩
        rcases q with q | ⟨k, c', e, z'⟩
        · exact .inl q
        · refine .inr ⟨k, c', e, z'.sameBut hs ?_⟩
          rintro rfl
          exact hj (nodup_ix hN e1 (I.ok.inj _ _ _ e hc ▸ hi))
    · by_cases hcc : c' = c
      · subst hcc; exact ⟨_, hc'⟩
      · obtain ⟨w2, z2⟩ := I.cell y c' e
        exact ⟨w2, z2.sameBut hs hcc⟩
    · obtain ⟨e, n, ne, nf, d⟩ := I.pin p hp
      refine ⟨(hs.2 p.1 ?_).trans e, n, ne, nf, d⟩
      intro q
      rw [q, hoc] at e
      have q' : oc = p.2 := Option.some.inj e
      exact d w' (by rw [← q']; exact hocd)
theorem store_ok {M : Model} {A : Around} {E : Value → Shared → Prop} {i : Nat} {x : Str} {v : V} {u : Value} {Q : Unit → Shared → Prop} (I : Inv X pins σ H s) (hN : X.N.Nodup) (hi : X.N[i]? = some x) (hx : Loc X.env.scope x) (r : RelV v u)
    (h : ∀ s', Inv X pins (σ.set i (some v)) H s' → Q () s') (hf : X.fn x = true ∨ X.env.scope.names.lookup x = some .local := by first | exact .inl rfl | exact .inr rfl | assumption) : wpAny M A (storeName X.env x u) Q E s :=
  store_ok2 I hN hi hx r (fun s' I' _ => h s' I') hf
theorem Inv.call' {s' : Shared} {ch : List Addr} (I : Inv X pins σ H s) (ho : s'.os = s.os) (u : Un (frs X.stack) ch H H' s.heap s'.heap) (hok : HOk X.prog X.w H' s'.heap) (hg : AllBare s'.gens)
    (hch : ∀ b ∈ ch, (b ∈ X.ex ∨ X.s₀.heap.objs.size ≤ b) ∧ b ≠ X.env.locals ∧ (∀ x c, X.env.cells.lookup x = some c → c ≠ b) ∧ ∀ p ∈ X.pn ++ pins, p.1 ≠ b) : Inv X pins σ H' s' := by
  obtain ⟨h', g', d', t', o'⟩ := s'
  have e : o' = s.os := ho
  subst e
  exact I.call (g' := g') (t' := t') (d' := d') u hok hg hch
end
abbrev XK := Value → Option Addr → Hp → Prop
abbrev St := List (Option V)
abbrev VK := V → Hp → Prop
abbrev TE := St → Hp → VK → Prop
abbrev TT := St → Hp → (Bool → Hp → Prop) → Prop
abbrev TA := St → Hp → (List V → Hp → Prop) → Prop
structure Ends where
  nx : St → Hp → Prop
  rt : VK
  bk : St → Hp → Prop := fun _ _ => False
  ct : St → Hp → Prop := fun _ _ => False
abbrev TS := Ends → St → Hp → Prop
def EP (X : Cx) (pins : List (Addr × Obj)) (σ : St) (Q : VK) (u : Value) (s' : Shared) : Prop := ∃ v H', Inv X pins σ H' s' ∧ RelV v u ∧ Q v H'
def TP (X : Cx) (pins : List (Addr × Obj)) (σ : St) (Q : Bool → Hp → Prop) (b : Bool) (s' : Shared) : Prop := ∃ H', Inv X pins σ H' s' ∧ Q b H'
def AP (X : Cx) (pins : List (Addr × Obj)) (σ : St) (Q : List V → Hp → Prop) (us : List Value) (s' : Shared) : Prop := ∃ vs H', Inv X pins σ H' s' ∧ Vals vs us ∧ Q vs H'
def SP (X : Cx) (pins : List (Addr × Obj)) (D : Ends) (f : Flow) (s' : Shared) : Prop :=
  match f with
  | .next => ∃ σ' H', Inv X pins σ' H' s' ∧ D.nx σ' H'
  | .brk => ∃ σ' H', Inv X pins σ' H' s' ∧ D.bk σ' H'
  | .cont => ∃ σ' H', Inv X pins σ' H' s' ∧ D.ct σ' H'
  | .ret u => ∃ v σ' H', Inv X pins σ' H' s' ∧ RelV v u ∧ D.rt v H'
def PE (X : Cx) (e : Expr) (t : TE) : Prop :=
  ∀ (pins : List (Addr × Obj)) (s : Shared) (σ : St) (H : Hp) (Q : VK), Inv X pins σ H s → t σ H Q → wpAny (model X.prog X.w) X.A (eval e X.env) (EP X pins σ Q) X.xe s
def PT (X : Cx) (e : Expr) (t : TT) : Prop :=
  ∀ (pins : List (Addr × Obj)) (s : Shared) (σ : St) (H : Hp) (Q : Bool → Hp → Prop), Inv X pins σ H s → t σ H Q → wpAny (model X.prog X.w) X.A (isTrue e X.env (eval e X.env)) (TP X pins σ Q) X.xe s
def PW (X : Cx) (e : Expr) (t : TT) : Prop :=
  ∀ (whole : Sem Value) (pins : List (Addr × Obj)) (s : Shared) (σ : St) (H : Hp) (Q : Bool → Hp → Prop), Inv X pins σ H s → t σ H Q → wpAny (model X.prog X.w) X.A (isTrue e X.env whole) (TP X pins σ Q) X.xe s
theorem PW.pt {X : Cx} {e : Expr} {t : TT} (h : PW X e t) : PT X e t := h _
def PA (X : Cx) (es : List Expr) (t : TA) : Prop :=
  ∀ (pos : Pos) (pins : List (Addr × Obj)) (s : Shared) (σ : St) (H : Hp) (Q : List V → Hp → Prop), Inv X pins σ H s → t σ H Q → wpAny (model X.prog X.w) X.A (spliced (backTo pos (starEach es X.env))) (AP X pins σ Q) X.xe s
def PS (X : Cx) (st : Stmt) (t : TS) : Prop :=
  ∀ (pins : List (Addr × Obj)) (s : Shared) (σ : St) (H : Hp) (D : Ends), Inv X pins σ H s → t D σ H → wpAny (model X.prog X.w) X.A (exec st X.env) (SP X pins D) X.xe s
def PSs (X : Cx) (st : List Stmt) (t : TS) : Prop :=
  ∀ (pins : List (Addr × Obj)) (s : Shared) (σ : St) (H : Hp) (D : Ends), Inv X pins σ H s → t D σ H → wpAny (model X.prog X.w) X.A (execs st X.env) (SP X pins D) X.xe s
theorem thn {α : Type} {t : Sem α} {Q Q' : α → Shared → Prop} {M : Model} {A : Around} {E : Value → Shared → Prop} {s : Shared} (h : wpAny M A t Q E s) (hQ : ∀ a s, Q a s → Q' a s) : wpAny M A t Q' E s := wpAny_mono h hQ fun _ _ x => x
end L2
namespace L2
open PySem PySem.Spec PyProof.Rows
section
variable {X : Cx}
theorem bin {a b : Expr} {ta tb : TE} (ha : PE X a ta) (hb : PE X b tb) {pins : List (Addr × Obj)} {s : Shared} {σ : St} {H : Hp} {R : V → V → Hp → Prop} (I : Inv X pins σ H s) (h : ta σ H fun x H1 => tb σ H1 fun y H2 => R x y H2)
    {α : Type} {Q : α → Shared → Prop} {f : Value → Value → Sem α}
    (hf : ∀ v u s2 x y H2, Inv X pins σ H2 s2 → RelV x v → RelV y u → R x y H2 → wpAny (model X.prog X.w) X.A (f v u) Q X.xe s2) :
    wpAny (model X.prog X.w) X.A (eval a X.env) (fun v s₁ => wpAny (model X.prog X.w) X.A (eval b X.env) (fun u s₂ => wpAny (model X.prog X.w) X.A (f v u) Q X.xe s₂) X.xe s₁) X.xe s := by
  refine thn (ha pins s σ H _ I h) fun v s1 ⟨x, H1, I1, r1, q1⟩ => ?_
  refine thn (hb pins s1 σ H1 _ I1 q1) fun u s2 ⟨y, H2, I2, r2, q2⟩ => ?_
  exact hf v u s2 x y H2 I2 r1 r2 q2
def tVar (i : Nat) : TE := fun σ H Q => ∃ v, σ[i]? = some (some v) ∧ Q v H
def tC (v : V) : TE := fun _ H Q => Q v H
theorem pe_var {i : Nat} {x : Str} {pos : Pos} (hN : X.N[i]? = some x) (hv : Vis X.env.scope x) (hd : (x == ("__debug__" : Str)) = false := by decide) (hcd : (x == ("__classdict__" : Str)) = false := by decide) : PE X (.Name x pos) (tVar i) := by
  intro pins s σ H Q I h
  obtain ⟨v, e, h⟩ := h
  obtain ⟨m, hn, hl⟩ := I.loc
  obtain ⟨u, r, l⟩ := hl i x v hN e hv
  have fin : EP X pins σ Q u s := ⟨v, H, I, r, h⟩
  rcases l with ⟨hk, hm⟩ | ⟨hk, c, hc, hcell⟩
  · exact wpAny_Name (wpAny_loadName_local I.ok.kind hk hn hm fin) hd
  · rcases hk with hk | hk
    · exact wpAny_Name (wpAny_loadName_cell I.ok.kind hk hc hcell fin) hd
    · exact wpAny_Name (wpAny_loadName_free I.ok.kind hk hc hcell fin hcd) hd
theorem pe_int {i j pos} : PE X (.Constant (.int i) j pos) (tC (.int i)) := fun _ _ _ H _ I h => wpAny_Constant_int ⟨.int i, H, I.tok _, ⟨_, rfl⟩, h⟩
theorem pe_bl {b j pos} : PE X (.Constant (.bool b) j pos) (tC (.bl b)) := fun _ _ _ H _ I h => Constant_bool ⟨.bl b, H, I, rfl, h⟩
theorem pe_str {x j pos} : PE X (.Constant (.str x) j pos) (tC (.str x)) := fun _ _ _ H _ I h => Calls.Constant_str ⟨.str x, H, I.tok _, ⟨_, rfl⟩, h⟩
def Gl (X : Cx) (x : Str) : Prop := X.env.kindOf x = some .globalImplicit
theorem ld_glob {E : Value → Shared → Prop} {pins : List (Addr × Obj)} {s : Shared} {σ : St} {H : Hp} {x : Str} {u : Value} {pos : Pos} {Q : Value → Shared → Prop} (I : Inv X pins σ H s) (hg : Gl X x) (hm : X.mg x = some u) (h : Q u s)
    (hd : (x == ("__debug__" : Str)) = false := by decide) : wpAny (model X.prog X.w) X.A (eval (.Name x pos) X.env) Q E s :=
  Calls.Name_function_global I.ok.kind hg (Calls.loadGlobal_global (by rw [I.ok.glob]; exact I.mod.glob.keeps I.bk) hm h) hd
theorem ld_blt {E : Value → Shared → Prop} {pins : List (Addr × Obj)} {s : Shared} {σ : St} {H : Hp} {x : Str} {u : Value} {pos : Pos} {Q : Value → Shared → Prop} (I : Inv X pins σ H s) (hg : Gl X x) (hm : X.mg x = none) (hv : bootBuiltins x = some u) (h : Q u s)
    (hn : x ≠ "__name__" := by decide) (hd : (x == ("__debug__" : Str)) = false := by decide) : wpAny (model X.prog X.w) X.A (eval (.Name x pos) X.env) Q E s := by
  obtain ⟨mb, h1, h2⟩ := I.mod.blt
  exact Calls.Name_function_global I.ok.kind hg (Calls.loadGlobal_builtin (by rw [I.ok.glob]; exact I.mod.glob.keeps I.bk) hm (by rw [I.ok.blt]; exact h1.keeps I.bk) ((h2 x hn).trans hv) h) hd
theorem pe_bltn {x : Str} {v : V} {u : Value} {pos : Pos} (hg : Gl X x) (hm : X.mg x = none) (hv : bootBuiltins x = some u) (r : RelV v u) (hn : x ≠ "__name__" := by decide) (hd : (x == ("__debug__" : Str)) = false := by decide) : PE X (.Name x pos) (tC v) :=
  fun _ _ _ H _ I h => ld_blt I hg hm hv ⟨v, H, I, r, h⟩ hn hd
variable {a b : Expr} {ta tb : TE} {pos : Pos}
def PC (X : Cx) (op : CmpOp) (a b : Expr) (t : TE) : Prop :=
  ∀ (pins : List (Addr × Obj)) (s : Shared) (σ : St) (H : Hp) (Q : VK), Inv X pins σ H s → t σ H Q →
    wpAny (model X.prog X.w) X.A (eval a X.env) (fun v s₁ => wpAny (model X.prog X.w) X.A (eval b X.env) (fun u s₂ => wpAny (model X.prog X.w) X.A (compareOp op v u) (EP X pins σ Q) X.xe s₂) X.xe s₁) X.xe s
theorem nobehind (b : Expr) {op : CmpOp} (h : op ≠ .In) (h2 : op ≠ .NotIn) : behindInMarks op b = false := by
  have e1 : (op == CmpOp.In) = false := by cases op <;> first | rfl | exact absurd rfl h
  have e2 : (op == CmpOp.NotIn) = false := by cases op <;> first | rfl | exact absurd rfl h2
  cases b <;> simp [behindInMarks, e1, e2]
def tB (t : TE) : TT := fun σ H Q => t σ H fun x H1 => ∃ c, x = .bl c ∧ Q c H1
theorem pt_cmp {op : CmpOp} {t : TE} (h : PC X op a b t) (h1 : behindInMarks op b = false := by first | exact nobehind _ (by decide) (by decide) | rfl) : PT X (.Compare a [op] [b] pos) (tB t) := by
  intro pins s σ H Q I hw
  refine wpAny_isTrue_Compare1 (thn (h pins s σ H _ I hw) fun v s1 h1 => thn h1 fun u s2 h2 => thn h2 fun c s3 ⟨x, H1, I1, r1, q1⟩ => ?_) h1
  obtain ⟨d, rfl, q⟩ := q1
  cases r1
  exact wpAny_truthy_bool ⟨H1, I1, q⟩
theorem pt_val {e : Expr} {t : TE} (h : PE X e t) (he : ∀ whole, isTrue e X.env whole = (do let v ← whole; standAt e.pos; holding [v] (truthy v)) := by intro _; rfl) : PT X e (tB t) := by
  intro pins s σ H Q I hw
  refine isTrue_plain (thn (h pins s σ H _ I hw) fun v s1 ⟨x, H1, I1, r1, q1⟩ => ?_) (he _)
  obtain ⟨d, rfl, q⟩ := q1
  cases r1
  exact wpAny_truthy_bool ⟨H1, I1, q⟩
variable {tA tB' : TT} {rest : List Expr}
def tOr (t u : TT) : TT := fun σ H Q => t σ H fun c H1 => if c = true then Q true H1 else u σ H1 Q
def tNot (t : TT) : TT := fun σ H Q => t σ H fun c H1 => Q (!c) H1
theorem pw_or1 (ha : PT X a tA) : PW X (.BoolOp .Or [a] pos) tA := by
  intro wh pins s σ H Q I h
  refine isTrue_or (thn (ha pins s σ H Q I h) fun c s1 e => ?_)
  cases c with
  | false => exact isTrue_or_nil e
  | true => exact e
theorem pw_or (ha : PT X a tA) (hb : PW X (.BoolOp .Or (b :: rest) pos) tB') : PW X (.BoolOp .Or (a :: b :: rest) pos) (tOr tA tB') := by
  intro wh pins s σ H Q I h
  refine isTrue_or (thn (ha pins s σ H _ I h) fun c s1 ⟨H1, I1, q1⟩ => ?_)
  cases c with
  | true => exact ⟨H1, I1, q1⟩
  | false => exact hb wh pins s1 σ H1 Q I1 q1
theorem pt_not (ha : PT X a tA) : PT X (.UnaryOp .Not a pos) (tNot tA) := by
  intro pins s σ H Q I h
  exact isTrue_not (ha pins s σ H (fun c H1 => Q (!c) H1) I h)
end
end L2
namespace L2
open PySem PySem.Spec PyProof.Rows
def SqL (K : PySem.W.Frag) (H : Hp) (a : Addr) (xs : List V) : Prop :=
  Rd H a (.lst xs) ∨
    ∃ (o : Obj) (its : Array Value) (n : Nat), K.lookup a = some o ∧ o.cls = .type "list" ∧ o.dict = none ∧ o.data = .seq its n ∧ its.size ≤ sizeLine ∧ Vals xs its.toList
def SqT (K : PySem.W.Frag) (H : Hp) (a : Addr) (xs : List V) : Prop :=
  Rd H a (.tup xs) ∨
    ∃ (o : Obj) (its : Array Value) (n : Nat), K.lookup a = some o ∧ o.cls = .type "tuple" ∧ o.data = .seq its n ∧ its.size ≤ sizeLine ∧ Vals xs its.toList
def absV : Value → Option V
  | .none => some .non
  | .bool b => some (.bl b)
  | .int i _ => some (.int i)
  | .str x _ => some (.str x)
  | .bytes b _ => some (.byt b)
  | .float b _ => some (.flt b)
  | .ref a => some (.ref a)
  | .type n => some (.ty n)
  | _ => none
theorem RelV.abs {x : V} {u : Value} (r : RelV x u) : absV u = some x := by
  cases x with
  | non => cases r; rfl
  | bl _ => cases r; rfl
  | int _ => obtain ⟨t, rfl⟩ := r; rfl
  | str _ => obtain ⟨t, rfl⟩ := r; rfl
  | byt _ => obtain ⟨t, rfl⟩ := r; rfl
  | flt _ => obtain ⟨t, rfl⟩ := r; rfl
  | ref _ => cases r; rfl
  | ty _ => cases r; rfl
theorem RelV.inj {x y : V} {u : Value} (r : RelV x u) (q : RelV y u) : x = y := Option.some.inj (r.abs.symm.trans q.abs)
theorem Vals.inj : ∀ {xs ys : List V} {us : List Value}, Vals xs us → Vals ys us → xs = ys
  | _, _, _, .nil, .nil => rfl
  | _, _, _, .cons r t, .cons r' t' => by rw [r.inj r', Vals.inj t t']
section
variable {X : Cx} {pins : List (Addr × Obj)} {σ : St} {H : Hp} {s : Shared} {a : Addr} {xs ys : List V}
theorem SqL.of {K : PySem.W.Frag} (h : H a = some (.lst xs)) : SqL K H a xs := .inl (.inl h)
theorem SqT.of {K : PySem.W.Frag} (h : H a = some (.tup xs)) : SqT K H a xs := .inl (.inl h)
theorem Inv.list (I : Inv X pins σ H s) (h : SqL X.K H a xs) : ∃ its : List Value, Vals xs its ∧ PlainL s.heap a its.toArray ∧ xs.length ≤ sizeLine := by
  rcases h with h | ⟨o, its, n, hk, hc, hd, hs, hz, r⟩
  · obtain ⟨z, its, n, r, e⟩ := h.ok I.hok
    exact ⟨its, r, ⟨_, n, e, rfl, rfl, rfl⟩, z⟩
  · refine ⟨its.toList, r, ⟨o, n, I.kIn a o hk, hc, hd, by simpa using hs⟩, ?_⟩
    have e := r.length
    simp only [Array.length_toList] at e
    omega
theorem Inv.tuple (I : Inv X pins σ H s) (h : SqT X.K H a xs) : ∃ its : List Value, Vals xs its ∧ IsTup s.heap a its.toArray ∧ xs.length ≤ sizeLine := by
  rcases h with h | ⟨o, its, n, hk, hc, hs, hz, r⟩
  · obtain ⟨z, its, r, p⟩ := h.ok I.hok
    exact ⟨its, r, p, z⟩
  · refine ⟨its.toList, r, ⟨o, I.kIn a o hk, hc, n, by simpa using hs⟩, ?_⟩
    have e := r.length
    simp only [Array.length_toList] at e
    omega
theorem Inv.list_inj (I : Inv X pins σ H s) (h : SqL X.K H a xs) (h' : SqL X.K H a ys) : xs = ys := by
  obtain ⟨its, r, ⟨o, n, e, _, _, d⟩, _⟩ := I.list h
  obtain ⟨its', r', ⟨o', n', e', _, _, d'⟩, _⟩ := I.list h'
  rw [e] at e'; cases e'
  rw [d] at d'
  injection d' with d1 _
  have : its = its' := by simpa using congrArg Array.toList d1
  subst this
  exact r.inj r'
end
abbrev Cx.wish (X : Cx) (E : Value → Shared → Prop) : Cx := { X with xe := E }
abbrev Cx.nox (X : Cx) : Cx := X.wish fun _ _ => False
theorem Cx.Ok.wish {X : Cx} (ok : X.Ok) (E : Value → Shared → Prop) : (X.wish E).Ok :=
  ⟨ok.mod, ok.kind, ok.glob, ok.blt, ok.above, ok.inj, ok.has, ok.cab, ok.hd, ok.frames, ok.stk, ok.exf, ok.bs, ok.bsz, ok.noex, ok.exfs, ok.funs, ok.frf⟩
theorem Cx.Ok.unwish {X : Cx} {E : Value → Shared → Prop} (ok : (X.wish E).Ok) : X.Ok :=
  ⟨ok.mod, ok.kind, ok.glob, ok.blt, ok.above, ok.inj, ok.has, ok.cab, ok.hd, ok.frames, ok.stk, ok.exf, ok.bs, ok.bsz, ok.noex, ok.exfs, ok.funs, ok.frf⟩
section
variable {X : Cx} {pins : List (Addr × Obj)} {σ : St} {H : Hp} {s : Shared} {E : Value → Shared → Prop}
theorem Inv.wish (I : Inv X pins σ H s) (E : Value → Shared → Prop) : Inv (X.wish E) pins σ H s := ⟨I.ok.wish E, I.os, I.bare, I.base, I.loc, I.cell, I.free, I.freeC, I.pin, I.hok, I.len⟩
theorem Inv.unwish (I : Inv (X.wish E) pins σ H s) : Inv X pins σ H s := ⟨I.ok.unwish, I.os, I.bare, I.base, I.loc, I.cell, I.free, I.freeC, I.pin, I.hok, I.len⟩
theorem SP.unwish {D : Ends} {f : Flow} {s' : Shared} (h : SP (X.wish E) pins D f s') : SP X pins D f s' := by
  cases f with
  | next => obtain ⟨σ', H', I, q⟩ := h; exact ⟨σ', H', I.unwish, q⟩
  | brk => obtain ⟨σ', H', I, q⟩ := h; exact ⟨σ', H', I.unwish, q⟩
  | cont => obtain ⟨σ', H', I, q⟩ := h; exact ⟨σ', H', I.unwish, q⟩
  | ret u => obtain ⟨v, σ', H', I, r, q⟩ := h; exact ⟨v, σ', H', I.unwish, r, q⟩
theorem PE.nox {e : Expr} {t : TE} (h : PE X.nox e t) : PE X e t := fun pins s σ H Q I hw =>
  wpAny_mono (h pins s σ H Q (I.wish _) hw) (fun _ _ ⟨v, H', I', r, q⟩ => ⟨v, H', I'.unwish, r, q⟩) fun _ _ z => False.elim z
theorem PT.nox {e : Expr} {t : TT} (h : PT X.nox e t) : PT X e t := fun pins s σ H Q I hw =>
  wpAny_mono (h pins s σ H Q (I.wish _) hw) (fun _ _ ⟨H', I', q⟩ => ⟨H', I'.unwish, q⟩) fun _ _ z => False.elim z
theorem PSs.nox {st : List Stmt} {t : TS} (h : PSs X.nox st t) : PSs X st t := fun pins s σ H D I hw =>
  wpAny_mono (h pins s σ H D (I.wish _) hw) (fun _ _ q => q.unwish) fun _ _ z => False.elim z
end
section
variable {X : Cx} {st : Stmt} {rest : List Stmt} {t u : TS} {e : Expr} {te : TE} {pos : Pos}
def tNext : TS := fun D σ H => D.nx σ H
def tSeq (t u : TS) : TS := fun D σ H => t { D with nx := u D } σ H
theorem pss_nil : PSs X [] tNext := fun _ _ σ H _ I h => wpAny_execs_nil ⟨σ, H, I, h⟩
theorem pss_cons (h1 : PS X st t) (h2 : PSs X rest u) : PSs X (st :: rest) (tSeq t u) := by
  intro pins s σ H D I h
  refine wpAny_execs_cons (thn (h1 pins s σ H { D with nx := u D } I h) fun f s1 q => ?_)
  cases f with
  | next =>
    obtain ⟨σ', H', I', q⟩ := q
    exact h2 pins s1 σ' H' D I' q
  | ret v => exact q
  | brk => exact q
  | cont => exact q
theorem pss_one (h1 : PS X st t) : PSs X [st] t := by
  intro pins s σ H D I h
  refine wpAny_execs_cons (thn (h1 pins s σ H D I h) fun f s1 q => ?_)
  cases f with
  | next => exact wpAny_execs_nil q
  | ret v => exact q
  | brk => exact q
  | cont => exact q
theorem Inv.quiet {pins : List (Addr × Obj)} {σ : St} {H : Hp} {s : Shared} (I : Inv X pins σ H s) : interactive X.env = false := by simp [interactive, I.ok.kind]
def tDrop (te : TE) : TS := fun D σ H => te σ H fun _ H1 => D.nx σ H1
theorem ps_expr (he : PE X e te) (hs : swapsWith e none pos.line X.env = pure false := by rfl) : PS X (.Expr e pos) (tDrop te) := by
  intro pins s σ H D I h
  exact wpAny_Expr_any (thn (he pins s σ H _ I h) fun v s1 ⟨x, H1, I1, r1, q1⟩ => ⟨σ, H1, I1, q1⟩) I.quiet hs
def tRet (te : TE) : TS := fun D σ H => te σ H D.rt
theorem ps_ret (he : PE X e te) : PS X (.Return (some e) pos) (tRet te) := by
  intro pins s σ H D I h
  exact wpAny_Return_some (thn (he pins s σ H _ I h) fun v s1 ⟨x, H1, I1, r1, q1⟩ => ⟨x, σ, H1, I1, r1, q1⟩)
def tIfS (c : TT) (t u : TS) : TS := fun D σ H => c σ H fun b H1 => if b = true then t D σ H1 else u D σ H1
theorem ps_if {c : Expr} {a b : List Stmt} {tc : TT} (hc : PT X c tc) (ha : PSs X a t) (hb : PSs X b u) : PS X (.If c a b pos) (tIfS tc t u) := by
  intro pins s σ H D I h
  refine wpAny_If (thn (hc pins s σ H _ I h) fun d s1 ⟨H1, I1, q1⟩ => ?_)
  cases d with
  | true => exact ha pins s1 σ H1 D I1 q1
  | false => exact hb pins s1 σ H1 D I1 q1
def tNever : TS := fun _ _ _ => False
theorem ps_never : PS X st tNever := fun _ _ _ _ _ _ h => h.elim
end
abbrev TG := V → St → Hp → (St → Hp → Prop) → Prop
abbrev TGs := List V → St → Hp → (St → Hp → Prop) → Prop
def PG (X : Cx) (target : Expr) (t : TG) : Prop :=
  ∀ (pins : List (Addr × Obj)) (s : Shared) (σ : St) (H : Hp) (v : V) (u : Value) (Q : St → Hp → Prop), Inv X pins σ H s → RelV v u → t v σ H Q →
    wpAny (model X.prog X.w) X.A (assign target X.env u) (fun _ s' => ∃ σ' H', Inv X pins σ' H' s' ∧ Q σ' H') X.xe s
def PGs (X : Cx) (ts : List Expr) (t : TGs) : Prop :=
  ∀ (pins : List (Addr × Obj)) (s : Shared) (σ : St) (H : Hp) (vs : List V) (us : List Value) (Q : St → Hp → Prop), Inv X pins σ H s → Vals vs us → t vs σ H Q →
    wpAny (model X.prog X.w) X.A (assignInOrder ((assignEach ts X.env).map (·.2)) us) (fun _ s' => ∃ σ' H', Inv X pins σ' H' s' ∧ Q σ' H') X.xe s
section
variable {X : Cx} {pos : Pos}
def gName (i : Nat) : TG := fun v σ H Q => Q (σ.set i (some v)) H
theorem pg_name {i : Nat} {x : Str} (hN : X.N.Nodup) (hi : X.N[i]? = some x) (hx : Loc X.env.scope x) (hf : X.fn x = true ∨ X.env.scope.names.lookup x = some .local := by first | exact .inl rfl | exact .inr rfl | assumption) : PG X (.Name x pos) (gName i) := by
  intro pins s σ H v u Q I r h
  exact wpAny_assign_Name (store_ok I hN hi hx r (fun s' I' => ⟨_, H, I', h⟩) hf)
def gNil : TGs := fun vs σ H Q => vs = [] ∧ Q σ H
def gCons (t : TG) (u : TGs) : TGs := fun vs σ H Q => ∃ v r, vs = v :: r ∧ t v σ H fun σ' H' => u r σ' H' Q
theorem pgs_nil : PGs X [] gNil := by
  intro pins s σ H vs us Q I r h
  obtain ⟨e, h⟩ := h
  subst e
  cases r
  exact assignInOrder_nil ⟨σ, H, I, h⟩
theorem pgs_cons {e : Expr} {es : List Expr} {t : TG} {u : TGs} (h1 : PG X e t) (h2 : PGs X es u)
    (hs : (assignEach (e :: es) X.env).map (·.2) = assign e X.env :: (assignEach es X.env).map (·.2) := by rfl) : PGs X (e :: es) (gCons t u) := by
  intro pins s σ H vs us Q I r h
  obtain ⟨v, vr, e1, h⟩ := h
  subst e1
  cases r with
  | cons r rr =>
    rw [hs]
    refine assignInOrder_cons (thn (h1 pins s σ H _ _ _ I r h) fun _ s1 ⟨σ1, H1, I1, q1⟩ => ?_)
    exact h2 pins s1 σ1 H1 _ _ Q I1 rr q1
def gTup (K : PySem.W.Frag) (n : Nat) (t : TGs) : TG := fun v σ H Q => ∃ a xs, v = .ref a ∧ SqT K H a xs ∧ xs.length = n ∧ t xs σ H Q
theorem pg_tup {es : List Expr} {k : Nat} {t : TGs} {n : Nat} (hc : X.calm = true) (h : PGs X es t)
    (hn : (assignEach es X.env).length = n := by rfl) (hst : (assignEach es X.env).findIdx? (·.1) = none := by rfl) : PG X (.Tuple es k pos) (gTup X.K n t) := by
  intro pins s σ H v u Q I r hw
  obtain ⟨a, xs, e1, hq, hl, hw⟩ := hw
  subst e1
  cases r
  obtain ⟨its, rv, ht, hz⟩ := I.tuple hq
  refine assign_Tuple_tuple (I.ok.hd hc) ht (by simp [hn, ← hl, rv.length]) hst fun h' hx => ?_
  have I1 : Inv X pins σ H { s with heap := h' } := I.kept (t' := s.toks) fun b o e => hx b o (Nat.ne_of_lt (Heap.lt_size e)) e
  exact h pins _ σ H xs _ Q I1 (by simpa using rv) hw
def tAsg (te : TE) (g : TG) : TS := fun D σ H => te σ H fun x H1 => g x σ H1 D.nx
theorem ps_set {i : Nat} {x : Str} {e : Expr} {te : TE} {pos' : Pos} (hN : X.N.Nodup) (hi : X.N[i]? = some x) (hx : Loc X.env.scope x) (he : PE X e te) (hs : swapsWith e (some (.Name x pos')) pos.line X.env = pure false := by rfl) (hf : X.fn x = true ∨ X.env.scope.names.lookup x = some .local := by first | exact .inl rfl | exact .inr rfl | assumption) :
    PS X (.Assign [.Name x pos'] e pos) (tAsg te (gName i)) := by
  intro pins s σ H D I h
  refine wpAny_Assign_Name (thn (he pins s σ H _ I h) fun v s1 ⟨y, H1, I1, r1, q1⟩ => ?_) hs
  exact store_ok I1 hN hi hx r1 (fun s2 I2 => ⟨_, H1, I2, q1⟩) hf
end
section
variable {X : Cx} {pos : Pos}
def tWhile (c : TT) (tb : TS) : TS := fun D σ H => ∃ W : Nat → St → Hp → Prop, (∃ m, W m σ H) ∧ ∀ m σ H, W m σ H →
  c σ H fun b H1 => if b = true then ∃ N : St → Hp → Prop, (∀ σ' H', N σ' H' → ∃ m', m' < m ∧ W m' σ' H') ∧ tb { D with nx := N, ct := N, bk := D.nx } σ H1 else D.nx σ H1
theorem ps_while {c : Expr} {body : List Stmt} {tc : TT} {tb : TS} (hp : PassesOwn (model X.prog X.w) X.A X.env X.xe) (hc : PT X c tc) (hb : PSs X body tb) : PS X (.While c body [] pos) (tWhile tc tb) := by
  intro pins s σ H D I h
  obtain ⟨W, ⟨m0, w0⟩, turn⟩ := h
  refine wpAny_While (codeAny_whileLoop (fun n s' => ∃ σ' H', Inv X pins σ' H' s' ∧ W n σ' H') ?_ m0 ⟨σ, H, I, w0⟩)
  rintro n s1 ⟨σ1, H1, I1, w1⟩
  refine wpAny_passesOwn hp (thn (hc pins s1 σ1 H1 _ I1 (turn n σ1 H1 w1)) fun b s2 ⟨H2, I2, q2⟩ => ?_)
  cases b with
  | true =>
    obtain ⟨N, hN, q2⟩ := q2
    rw [if_pos rfl]
    refine wpAny_passesOwn hp (thn (hb pins s2 σ1 H2 _ I2 q2) fun f s3 q3 => ?_)
    cases f with
    | next =>
      obtain ⟨σ3, H3, I3, n3⟩ := q3
      obtain ⟨m', hm, w3⟩ := hN σ3 H3 n3
      exact ⟨m', hm, σ3, H3, I3, w3⟩
    | cont =>
      obtain ⟨σ3, H3, I3, n3⟩ := q3
      obtain ⟨m', hm, w3⟩ := hN σ3 H3 n3
      exact ⟨m', hm, σ3, H3, I3, w3⟩
    | brk => exact q3
    | ret v => exact q3
  | false =>
    rw [if_neg Bool.false_ne_true]
    exact wpAny_execs_nil ⟨σ1, H2, I2, q2⟩
end
structure It where
  go : Nat → Hp → Prop
  yld : Nat → Hp → V → Hp → Prop
  stop : Nat → Hp → Prop
def FpOk (X : Cx) (pins : List (Addr × Obj)) (H : Hp) (b : Addr) : Prop :=
  H b = none ∧ b ≠ X.env.locals ∧ b ∉ X.fs ∧ (b ∈ X.ex ∨ X.s₀.heap.objs.size ≤ b) ∧ (∀ x c, X.env.cells.lookup x = some c → c ≠ b) ∧ ∀ p ∈ X.pn ++ pins, p.1 ≠ b
theorem Inv.fpOk {X : Cx} {pins : List (Addr × Obj)} {σ : St} {H H' : Hp} {s : Shared} {b : Addr} (I : Inv X pins σ H s) (hb : s.heap.objs.size ≤ b) (hn : H' b = none) : FpOk X pins H' b := by
  refine ⟨hn, Nat.ne_of_gt (Nat.lt_of_lt_of_le I.lt hb), I.nofs hb, .inr (Nat.le_trans I.sz hb), fun x c e z => ?_, fun p hp z => ?_⟩
  · obtain ⟨v, q⟩ := I.cell x c e
    exact absurd (Nat.lt_of_lt_of_le q.lt (by rw [z]; exact hb)) (Nat.lt_irrefl _)
  · exact absurd (Nat.lt_of_lt_of_le (Heap.lt_size (I.pin p hp).1) (by rw [z]; exact hb)) (Nat.lt_irrefl _)
structure Turn (P : Program) (w : World) (K : PySem.W.Frag) (tg : Expr) (J : It) (fp : List Addr) (it : Addr) (tn : Nat → Heap → Prop) : Prop where
  mem : it ∈ fp
  obj : ∀ i h, tn i h → ∀ b ∈ fp, ∃ o, h.get? b = some o ∧ ∀ v, o.data ≠ .cell v
  keep : ∀ i h h', tn i h → (∀ b ∈ fp, ∀ o, h.get? b = some o → h'.get? b = some o) → tn i h'
  item : ∀ (X : Cx), X.prog = P → X.w = w → X.K = K → X.calm = true → ∀ (i : Nat) (pins : List (Addr × Obj)) (s : Shared) (σ : St) (H : Hp) (E : Value → Shared → Prop), Inv X pins σ H s → (∀ b ∈ fp, FpOk X pins H b) → tn i s.heap → J.go i H →
    wpAny (model P w) X.A (pyNext (.ref it)) (fun r s1 => ∃ u, r = some u ∧
      wpAny (model P w) X.A (letOwnedTupleGo tg (.ref it) u) (fun _ s2 => ∃ x H', Inv X pins σ H' s2 ∧ RelV x u ∧ J.yld i H x H' ∧ tn (i + 1) s2.heap ∧ ∀ b ∈ fp, H' b = none) E s1) E s
  done : ∀ (X : Cx), X.prog = P → X.w = w → X.K = K → X.calm = true → ∀ (i : Nat) (pins : List (Addr × Obj)) (s : Shared) (σ : St) (H : Hp) (E : Value → Shared → Prop), Inv X pins σ H s → (∀ b ∈ fp, FpOk X pins H b) → tn i s.heap → J.stop i H →
    wpAny (model P w) X.A (pyNext (.ref it)) (fun r s1 => r = none ∧ Inv X pins σ H s1) E s
  self : ∀ (A : Around) (i : Nat) (s : Shared) (Q : Value → Shared → Prop) (E : Value → Shared → Prop), tn i s.heap → Q (.ref it) s → wpAny (model P w) A (pyIter (.ref it)) Q E s
abbrev TI := St → Hp → (It → Hp → Prop) → Prop
def PIE (X : Cx) (pins : List (Addr × Obj)) (σ : St) (tg : Expr) (R : It → Hp → Prop) (itv : Value) (s2 : Shared) : Prop :=
  ∃ (it : Addr) (fp : List Addr) (tn : Nat → Heap → Prop) (J : It) (H' : Hp), itv = .ref it ∧ Inv X pins σ H' s2 ∧ Turn X.prog X.w X.K tg J fp it tn ∧ tn 0 s2.heap ∧ (∀ b ∈ fp, FpOk X pins H' b) ∧ R J H'
def PI (X : Cx) (tg iter : Expr) (wi : TI) : Prop :=
  ∀ (pins : List (Addr × Obj)) (s : Shared) (σ : St) (H : Hp) (R : It → Hp → Prop), Inv X pins σ H s → wi σ H R →
    wpAny (model X.prog X.w) X.A (eval iter X.env) (fun v s1 => wpAny (model X.prog X.w) X.A (pyIter v) (PIE X pins σ tg R) X.xe s1) X.xe s
theorem go_of {M : Model} {A : Around} {E : Value → Shared → Prop} {s : Shared} {tg : Expr} {it : Addr} {u : Value} {o : Obj} {n : String} {vs : Array Value} {Q : Unit → Shared → Prop} (ho : s.heap.get? it = some o) (hc : o.cls = .type n) (hd : o.data = .fields vs)
    (hn : ["enumerate", "zip", "dict_itemiterator", "dict_reverseitemiterator", "odict_iterator", "itertools.zip_longest", "itertools.pairwise"].contains n = false) (hQ : Q () s) : wpAny M A (letOwnedTupleGo tg (.ref it) u) Q E s := by
  unfold letOwnedTupleGo
  cases tg <;> first
    | exact wpAny_pure hQ
    | (cases u <;> first
        | exact wpAny_pure hQ
        | (refine wpAny_bind (wpAny_load ho ?_)
           rw [hc, hd]
           show wpAny M A (if (["enumerate", "zip", "dict_itemiterator", "dict_reverseitemiterator", "odict_iterator", "itertools.zip_longest", "itertools.pairwise"].contains n && vs[0]? == some (rawInt _)) = true then _ else _) Q E s
           rw [if_neg (by intro h; rw [hn, Bool.false_and] at h; cases h)]
           exact wpAny_pure hQ))
def Itl (K : PySem.W.Frag) (a : Addr) : It :=
  ⟨fun i H => ∃ xs x, SqL K H a xs ∧ xs[i]? = some x, fun i H x H' => H' = H ∧ ∀ xs, SqL K H a xs → xs[i]? = some x, fun i H => ∃ xs, SqL K H a xs ∧ xs.length ≤ i⟩
def Itr (lo : Int) (n : Nat) : It := ⟨fun i _ => i < n, fun i H x H' => H' = H ∧ x = .int (lo + i), fun i _ => n ≤ i⟩
theorem turn_list {P : Program} {w : World} {K : PySem.W.Frag} {tg : Expr} (a it : Addr) : Turn P w K tg (Itl K a) [it] it (fun i h => h.IsListIter it a i) where
  mem := by simp
  obj := fun i h st b hb => by
    have e : b = it := by simpa using hb
    subst e
    obtain ⟨o, e, c, d⟩ := st
    exact ⟨o, e, fun v z => by rw [d] at z; cases z⟩
  keep := fun i h h' st k => st.at fun o e => k it (by simp) o e
  item := by
    intro X hP hw hK hc i pins s σ H E I hf st hg
    subst hP hw hK
    obtain ⟨xs, x, hq, hx⟩ := hg
    obtain ⟨its, rv, p, hz⟩ := I.list hq
    obtain ⟨u, hu, ru⟩ := rv.get hx
    obtain ⟨f0, f1, f2, f3, f4, f5⟩ := hf it (by simp)
    refine wpAny_pyNext_list_item st p.isList (x := u) (by simpa using hu) fun h' st' sb => ?_
    have I1 : Inv X pins σ H { s with heap := h' } := I.turned (t' := s.toks) (fun b o hb e => (sb.2 b hb).trans e) f0 f1 f3 f4 f5
    obtain ⟨o, e, c, d⟩ := id st'
    exact ⟨u, rfl, go_of (s := { s with heap := h' }) e c d (by decide) ⟨x, H, I1, ru, ⟨rfl, fun ys hy => by rw [I.list_inj hy hq]; exact hx⟩, st', fun b hb => (hf b hb).1⟩⟩
  done := by
    intro X hP hw hK hc i pins s σ H E I hf st hg
    subst hP hw hK
    obtain ⟨xs, hq, hx⟩ := hg
    obtain ⟨its, rv, p, hz⟩ := I.list hq
    obtain ⟨f0, f1, f2, f3, f4, f5⟩ := hf it (by simp)
    have hl := rv.length
    exact wpAny_pyNext_list_end (I.ok.hd hc) st p.isList (by simp; omega) fun h' eb => ⟨rfl, I.turned (t' := s.toks) (fun b o hb e => eb b o hb e) f0 f1 f3 f4 f5⟩
  self := fun _ _ _ _ _ st h => wpAny_pyIter_listiter st h
theorem turn_range {P : Program} {w : World} {K : PySem.W.Frag} {tg : Expr} (it : Addr) (lo : Int) (n : Nat) : Turn P w K tg (Itr lo n) [it] it (fun i h => IsRangeIter h it (lo + (i : Nat) * 1) ((n : Int) - (i : Nat)) 1) where
  mem := by simp
  obj := fun i h st b hb => by
    have e : b = it := by simpa using hb
    subst e
    exact ⟨_, st, fun v z => by
      have z' : Data.fields _ = Data.cell v := z
      cases z'⟩
  keep := fun i h h' st k => k it (by simp) _ st
  item := by
    intro X hP hw hK hc i pins s σ H E I hf st hg
    subst hP hw hK
    obtain ⟨f0, f1, f2, f3, f4, f5⟩ := hf it (by simp)
    have W := Walks.range (prog := X.prog) (w := X.w) (I.ok.hd hc) it lo 1 n
    refine W.item i s _ _ hg st fun v h' tk hv st' kk => ?_
    obtain ⟨t, rfl⟩ := hv
    have I1 : Inv X pins σ H { s with heap := h', toks := tk } := I.turned (fun b o hb e => kk b o (by simpa using hb) e) f0 f1 f3 f4 f5
    refine ⟨_, rfl, go_of (s := { s with heap := h', toks := tk }) (n := "range_iterator") st' rfl rfl (by decide) ⟨.int (lo + i), H, I1, ⟨t, ?_⟩, ⟨rfl, rfl⟩, st', fun b hb => (hf b hb).1⟩⟩
    rw [Int.mul_one]
  done := by
    intro X hP hw hK hc i pins s σ H E I hf st hg
    subst hP hw hK
    obtain ⟨f0, f1, f2, f3, f4, f5⟩ := hf it (by simp)
    exact wpAny_pyNext_range_end (I.ok.hd hc) st (by have : n ≤ i := hg; omega) fun h' eb => ⟨rfl, I.turned (t' := s.toks) (fun b o hb e => eb b o hb e) f0 f1 f3 f4 f5⟩
  self := fun _ _ _ _ _ st h => wpAny_pyIter_rangeiter st h
end L2
namespace L2
open PySem PySem.Spec PyProof.Rows
section
variable {X : Cx} {tg : Expr}
def iList (K : PySem.W.Frag) (tl : TE) : TI := fun σ H R => tl σ H fun x H1 => ∃ a, x = .ref a ∧ (∃ xs, SqL K H1 a xs) ∧ R (Itl K a) H1
theorem pi_list {l : Expr} {tl : TE} (hl : PE X l tl) : PI X tg l (iList X.K tl) := by
  intro pins s σ H R I h
  refine thn (hl pins s σ H _ I h) fun v s1 ⟨x, H1, I1, r1, q1⟩ => ?_
  obtain ⟨a, e, ⟨xs, hq⟩, q⟩ := q1
  subst e
  cases r1
  obtain ⟨its, rv, p, hz⟩ := I1.list hq
  refine wpAny_pyIter_list p.isList ?_
  refine ⟨s1.heap.objs.size, [s1.heap.objs.size], _, _, H1, rfl, I1.kept (t' := s1.toks) fun b o e => Heap.get?_push_of_some _ e, turn_list a _, ⟨_, Heap.get?_push_size _ rfl, rfl, rfl⟩, fun b hb => ?_, q⟩
  have e : b = s1.heap.objs.size := by simpa using hb
  subst e
  exact I1.fpOk (Nat.le_refl _) (I1.hok.fresh (Nat.le_refl _))
theorem range_it {pins : List (Addr × Obj)} {σ : St} {H : Hp} {s : Shared} {R : It → Hp → Prop} {E : Value → Shared → Prop} {lo hi : Int} {t u v : Tok} {tk : Nat} (I : Inv X pins σ H s) (h1 : -(2 ^ 62) ≤ lo) (h2 : lo < 2 ^ 62) (h3 : -(2 ^ 62) ≤ hi) (h4 : hi < 2 ^ 62)
    (q : R (Itr lo (hi - lo).toNat) H) : wpAny (model X.prog X.w) X.A (pyIter (.ref s.heap.objs.size)) (PIE X pins σ tg R) E { s with heap := s.heap.push { cls := .type "range", data := .fields #[.int lo t, .int hi u, .int 1 v] }, toks := tk } := by
  refine wpAny_pyIter_range (IsRange.new ..) (small_one h1 h2 h3 h4) ?_
  have I1 : Inv X pins σ H { s with heap := s.heap.push { cls := .type "range", data := .fields #[.int lo t, .int hi u, .int 1 v] }, toks := tk } := I.kept fun b o e => Heap.get?_push_of_some _ e
  refine ⟨(s.heap.push { cls := .type "range", data := .fields #[.int lo t, .int hi u, .int 1 v] }).objs.size, [(s.heap.push { cls := .type "range", data := .fields #[.int lo t, .int hi u, .int 1 v] }).objs.size], _, _, H, rfl,
    I1.kept (t' := tk) fun b o e => Heap.get?_push_of_some _ e, turn_range _ lo (hi - lo).toNat, ?_, fun b hb => ?_, q⟩
  · have e1 : lo + ((0 : Nat) : Int) * 1 = lo := by simp
    have e2 : (((hi - lo).toNat : Nat) : Int) - ((0 : Nat) : Int) = Builtin.Range.rangeSize lo hi 1 := by rw [rangeSize_one]; split <;> omega
    show IsRangeIter _ _ (lo + ((0 : Nat) : Int) * 1) ((((hi - lo).toNat : Nat) : Int) - ((0 : Nat) : Int)) 1
    rw [e1, e2]
    exact Heap.get?_push_size _ rfl
  · have e : b = (s.heap.push { cls := .type "range", data := .fields #[.int lo t, .int hi u, .int 1 v] }).objs.size := by simpa using hb
    subst e
    exact I1.fpOk (Nat.le_refl _) (I1.hok.fresh (Nat.le_refl _))
def iRng1 (ta : TA) : TI := fun σ H R => ta σ H fun vs H1 => ∃ j : Int, vs = [.int j] ∧ -(2 ^ 62) ≤ j ∧ j < 2 ^ 62 ∧ R (Itr 0 j.toNat) H1
theorem pi_range1 {a : Expr} {ta : TA} {p pos : Pos} (hg : Gl X "range") (hm : X.mg "range" = none) (ha : PA X [a] ta) (hs : starEach [a] X.env = [(false, eval a X.env)] := by rfl) : PI X tg (.Call (.Name "range" p) [a] [] pos) (iRng1 ta) := by
  intro pins s σ H R I h
  refine Call_ (ld_blt I hg hm boot_range (PyProof.Rows.callWith_type1 (thn (ha pos pins s σ H _ I h) fun us s1 ⟨vs, H1, I1, r1, q1⟩ => ?_) hs rfl))
  obtain ⟨j, e, q1, q2, q⟩ := q1
  subst e
  cases r1 with
  | cons r rr =>
    cases rr
    obtain ⟨t, rfl⟩ := r
    exact call_range_1 (range_it I1 (by omega) (by omega) q1 q2 (by simpa using q))
def tFor (wi : TI) (g : TG) (tb : TS) : TS := fun D σ H => wi σ H fun J H1 => ∃ W : Nat → Nat → St → Hp → Prop, (∃ m, W 0 m σ H1) ∧ ∀ i m σ H, W i m σ H →
  (J.stop i H ∧ D.nx σ H) ∨ (J.go i H ∧ ∃ N : St → Hp → Prop, (∀ σ' H', N σ' H' → ∃ m', m' < m ∧ W (i + 1) m' σ' H') ∧ ∀ x H', J.yld i H x H' → g x σ H' fun σ2 H2 => tb { D with nx := N, ct := N, bk := D.nx } σ2 H2)
def pinsAt (fp : List Addr) (h : Heap) : List (Addr × Obj) := fp.filterMap fun b => (h.get? b).map fun o => (b, o)
theorem mem_pinsAt {fp : List Addr} {h : Heap} {b : Addr} {o : Obj} (hb : b ∈ fp) (e : h.get? b = some o) : (b, o) ∈ pinsAt fp h := List.mem_filterMap.mpr ⟨b, hb, by rw [e]; rfl⟩
theorem of_pinsAt {fp : List Addr} {h : Heap} {p : Addr × Obj} (hp : p ∈ pinsAt fp h) : p.1 ∈ fp ∧ h.get? p.1 = some p.2 := by
  obtain ⟨b, hb, e⟩ := List.mem_filterMap.mp hp
  cases q : h.get? b with
  | none => rw [q] at e; cases e
  | some o =>
    rw [q] at e
    have e' : (b, o) = p := Option.some.inj e
    subst e'
    exact ⟨hb, q⟩
theorem Inv.pinned {pins : List (Addr × Obj)} {σ : St} {H : Hp} {s : Shared} {fp : List Addr} (I : Inv X pins σ H s) (hf : ∀ b ∈ fp, FpOk X pins H b) (ho : ∀ b ∈ fp, ∃ o, s.heap.get? b = some o ∧ ∀ v, o.data ≠ .cell v) : Inv X (pins ++ pinsAt fp s.heap) σ H s :=
  I.pins_of fun p hp => (List.mem_append.mp hp).elim (fun z => I.pin p (List.mem_append_right _ z)) fun z => by
    obtain ⟨hb, e⟩ := of_pinsAt z
    obtain ⟨f0, f1, f2, _⟩ := hf p.1 hb
    obtain ⟨o, e', d⟩ := ho p.1 hb
    rw [e] at e'; cases e'
    exact ⟨e, f0, f1, f2, d⟩
theorem Inv.unpinned {pins pl : List (Addr × Obj)} {σ : St} {H : Hp} {s : Shared} (I : Inv X (pins ++ pl) σ H s) : Inv X pins σ H s := I.pins_of fun p hp => I.pin p (List.mem_append_right _ (List.mem_append_left _ hp))
theorem ps_for {iter : Expr} {body : List Stmt} {wi : TI} {g : TG} {tb : TS} {pos : Pos} (hp : PassesOwn (model X.prog X.w) X.A X.env X.xe) (hc : X.calm = true) (hi : PI X tg iter wi) (hg : PG X tg g) (hb : PSs X body tb)
    (hs : ∀ x, foldedSetIterable iter X.env x = pure x := by intro _; rfl) : PS X (.For tg iter body [] pos) (tFor wi g tb) := by
  intro pins s σ H D I h
  refine wpAny_For (thn (hi pins s σ H _ I h) fun v s1 h1 => thn h1 fun itv s2 h2 => ?_) hs
  obtain ⟨it, fp, tn, J, H2, e, I2, T, st2, f2, W, ⟨m0, w0⟩, turn⟩ := h2
  subst e
  have stat : ∀ {H' : Hp}, (∀ b ∈ fp, H' b = none) → ∀ b ∈ fp, FpOk X pins H' b := fun hn b hb => ⟨hn b hb, (f2 b hb).2⟩
  refine codeAny_forLoop_any (fun n s' => ∃ i σ' H', Inv X pins σ' H' s' ∧ tn i s'.heap ∧ (∀ b ∈ fp, H' b = none) ∧ W i n σ' H') ?_ m0 ⟨0, σ, H2, I2, st2, fun b hb => (f2 b hb).1, w0⟩
  rintro n s3 ⟨i, σ3, H3, I3, st3, fr3, w3⟩
  rcases turn i n σ3 H3 w3 with ⟨stop, qn⟩ | ⟨go, N, hN, step⟩
  · refine wpAny_passesOwn hp (thn (T.done X rfl rfl rfl hc i pins s3 σ3 H3 X.xe I3 (stat fr3) st3 stop) fun r s4 ⟨hr, I4⟩ => ?_)
    subst hr
    exact wpAny_execs_nil ⟨σ3, H3, I4, qn⟩
  · refine wpAny_passesOwn hp (thn (T.item X rfl rfl rfl hc i pins s3 σ3 H3 X.xe I3 (stat fr3) st3 go) fun r s4 ⟨u, hr, h4⟩ => ?_)
    subst hr
    refine wpAny_passesOwn hp (thn h4 fun _ s5 ⟨x, H5, I5, r5, y5, st5, fr5⟩ => ?_)
    have I5' := I5.pinned (stat fr5) (T.obj _ _ st5)
    refine wpAny_passesOwn hp (thn (hg _ s5 σ3 H5 x u _ I5' r5 (step x H5 y5)) fun _ s6 ⟨σ6, H6, I6, q6⟩ => ?_)
    refine wpAny_passesOwn hp (thn (hb _ s6 σ6 H6 _ I6 q6) fun f s7 q7 => ?_)
    have again : ∀ {σ7 : St} {H7 : Hp}, Inv X (pins ++ pinsAt fp s5.heap) σ7 H7 s7 → N σ7 H7 → ∃ m, m < n ∧ ∃ i σ' H', Inv X pins σ' H' s7 ∧ tn i s7.heap ∧ (∀ b ∈ fp, H' b = none) ∧ W i m σ' H' := fun {σ7 H7} I7 n7 => by
      obtain ⟨m', hm, w7⟩ := hN σ7 H7 n7
      refine ⟨m', hm, i + 1, σ7, H7, I7.unpinned, T.keep _ _ _ st5 fun b hb o e => (I7.pin (b, o) (List.mem_append_right _ (List.mem_append_right _ (mem_pinsAt hb e)))).1, fun b hb => ?_, w7⟩
      obtain ⟨o, e, d⟩ := T.obj _ _ st5 b hb
      exact (I7.pin (b, o) (List.mem_append_right _ (List.mem_append_right _ (mem_pinsAt hb e)))).2.1
    cases f with
    | next => obtain ⟨σ7, H7, I7, n7⟩ := q7; exact again I7 n7
    | cont => obtain ⟨σ7, H7, I7, n7⟩ := q7; exact again I7 n7
    | brk => obtain ⟨σ7, H7, I7, q7⟩ := q7; exact ⟨σ7, H7, I7.unpinned, q7⟩
    | ret v => obtain ⟨x7, σ7, H7, I7, r7, q7⟩ := q7; exact ⟨x7, σ7, H7, I7.unpinned, r7, q7⟩
end
end L2
namespace L2
open PySem PySem.Spec PyProof.Rows
abbrev R2 := V → V → Hp → VK → Prop
def OpR (X : Cx) (f : Value → Value → Sem Value) (r : R2) : Prop :=
  ∀ (pins : List (Addr × Obj)) (s : Shared) (σ : St) (H : Hp) (x y : V) (v u : Value) (Q : VK), Inv X pins σ H s → RelV x v → RelV y u → r x y H Q →
    wpAny (model X.prog X.w) X.A (f v u) (EP X pins σ Q) X.xe s
def UnR (X : Cx) (f : Value → Sem Value) (r : V → Hp → VK → Prop) : Prop :=
  ∀ (pins : List (Addr × Obj)) (s : Shared) (σ : St) (H : Hp) (x : V) (v : Value) (Q : VK), Inv X pins σ H s → RelV x v → r x H Q →
    wpAny (model X.prog X.w) X.A (f v) (EP X pins σ Q) X.xe s
def CallR (X : Cx) (f : Value) (r : List V → Hp → VK → Prop) : Prop :=
  ∀ (pins : List (Addr × Obj)) (s : Shared) (σ : St) (H : Hp) (xs : List V) (us : List Value) (Q : VK), Inv X pins σ H s → Vals xs us → r xs H Q →
    wpAny (model X.prog X.w) X.A (call f us) (EP X pins σ Q) X.xe s
def TruR (X : Cx) (r : V → Hp → (Bool → Hp → Prop) → Prop) : Prop :=
  ∀ (pins : List (Addr × Obj)) (s : Shared) (σ : St) (H : Hp) (x : V) (v : Value) (Q : Bool → Hp → Prop), Inv X pins σ H s → RelV x v → r x H Q →
    wpAny (model X.prog X.w) X.A (truthy v) (TP X pins σ Q) X.xe s
def tOp (r : R2) (ta tb : TE) : TE := fun σ H Q => ta σ H fun x H1 => tb σ H1 fun y H2 => r x y H2 Q
def tUn (r : V → Hp → VK → Prop) (ta : TE) : TE := fun σ H Q => ta σ H fun x H1 => r x H1 Q
def rI (C : Int → Int → Prop) (g : Int → Int → V) : R2 := fun x y H Q => ∃ i j, x = .int i ∧ y = .int j ∧ C i j ∧ Q (g i j) H
def rI0 (g : Int → Int → V) : R2 := fun x y H Q => ∃ i j, x = .int i ∧ y = .int j ∧ Q (g i j) H
def rU (g : Int → V) : V → Hp → VK → Prop := fun x H Q => ∃ i, x = .int i ∧ Q (g i) H
section
variable {X : Cx} {a b c : Expr} {ta tb tc : TE} {pos : Pos}
theorem binT (ha : PE X a ta) (hb : PE X b tb) {pins : List (Addr × Obj)} {s : Shared} {σ : St} {H : Hp} {R : V → V → Hp → Prop} (I : Inv X pins σ H s)
    (h : ta σ H fun x H1 => tb σ H1 fun y H2 => R x y H2) {Q : Value → Shared → Prop} {f : Value → Value → Sem Value}
    (hf : ∀ v u s2 x y H2, Inv X pins σ H2 s2 → RelV x v → RelV y u → R x y H2 → wpAny (model X.prog X.w) X.A (f v u) Q X.xe s2) :
    wpAny (model X.prog X.w) X.A (eval a X.env) (fun v s₁ => wpAny (model X.prog X.w) X.A (eval b X.env) (fun u s₂ => wpAny (model X.prog X.w) X.A (f v u) Q X.xe s₂) X.xe s₁) X.xe s := by
  refine thn (ha pins s σ H _ I h) fun v s1 ⟨x, H1, I1, r1, q1⟩ => ?_
  refine thn (hb pins s1 σ H1 _ I1 q1) fun u s2 ⟨y, H2, I2, r2, q2⟩ => ?_
  exact hf v u s2 x y H2 I2 r1 r2 q2
theorem pe_op {op : Operator} {r : R2} (ho : OpR X (binaryOp op) r) (ha : PE X a ta) (hb : PE X b tb) : PE X (.BinOp a op b pos) (tOp r ta tb) := by
  intro pins s σ H Q I h
  exact wpAny_BinOp (binT ha hb I h fun v u s2 x y H2 I2 rx ry q => ho pins s2 σ H2 x y v u Q I2 rx ry q)
theorem pe_un {op : UnaryOp} {r : V → Hp → VK → Prop} (ho : UnR X (unaryOp op) r) (ha : PE X a ta) : PE X (.UnaryOp op a pos) (tUn r ta) := by
  intro pins s σ H Q I h
  exact UnaryOp_ (thn (ha pins s σ H _ I h) fun v s1 ⟨x, H1, I1, r1, q1⟩ => ho pins s1 σ H1 x v Q I1 r1 q1)
theorem opI {f : Value → Value → Sem Value} {C : Int → Int → Prop} {g : Int → Int → Int}
    (rule : ∀ (i j : Int) (t u : Tok) (s : Shared) (Q : Value → Shared → Prop) (E : Value → Shared → Prop), C i j → Q (.int (g i j) s.toks) { s with toks := s.toks + 1 } → wpAny (model X.prog X.w) X.A (f (.int i t) (.int j u)) Q E s) :
    OpR X f (rI C fun i j => .int (g i j)) := by
  intro pins s σ H x y v u Q I rx ry h
  obtain ⟨i, j, rfl, rfl, hc, q⟩ := h
  obtain ⟨t, rfl⟩ := rx
  obtain ⟨t', rfl⟩ := ry
  exact rule i j t t' s _ _ hc ⟨.int (g i j), H, I.tok _, ⟨_, rfl⟩, q⟩
theorem opI0 {f : Value → Value → Sem Value} {g : Int → Int → Int}
    (rule : ∀ (i j : Int) (t u : Tok) (s : Shared) (Q : Value → Shared → Prop) (E : Value → Shared → Prop), Q (.int (g i j) s.toks) { s with toks := s.toks + 1 } → wpAny (model X.prog X.w) X.A (f (.int i t) (.int j u)) Q E s) :
    OpR X f (rI0 fun i j => .int (g i j)) := by
  intro pins s σ H x y v u Q I rx ry h
  obtain ⟨i, j, rfl, rfl, q⟩ := h
  obtain ⟨t, rfl⟩ := rx
  obtain ⟨t', rfl⟩ := ry
  exact rule i j t t' s _ _ ⟨.int (g i j), H, I.tok _, ⟨_, rfl⟩, q⟩
theorem opB0 {f : Value → Value → Sem Value} {g : Int → Int → Bool}
    (rule : ∀ (i j : Int) (t u : Tok) (s : Shared) (Q : Value → Shared → Prop) (E : Value → Shared → Prop), Q (.bool (g i j)) s → wpAny (model X.prog X.w) X.A (f (.int i t) (.int j u)) Q E s) :
    OpR X f (rI0 fun i j => .bl (g i j)) := by
  intro pins s σ H x y v u Q I rx ry h
  obtain ⟨i, j, rfl, rfl, q⟩ := h
  obtain ⟨t, rfl⟩ := rx
  obtain ⟨t', rfl⟩ := ry
  exact rule i j t t' s _ _ ⟨.bl (g i j), H, I, rfl, q⟩
def CPow (i j : Int) : Prop := 0 ≤ j ∧ j ≤ 1000000 ∧ i.natAbs < 2 ^ 64
def CMul (i j : Int) : Prop := (-(2 ^ 64) < i ∧ i < 2 ^ 64) ∨ (-(2 ^ 64) < j ∧ j < 2 ^ 64)
theorem CMul.ok {i j : Int} (h : CMul i j) : IntMulOk i j := by
  rcases h with ⟨h1, h2⟩ | ⟨h1, h2⟩
  · exact .of_left (intBits_le_64 h1 h2)
  · exact .of_right (intBits_le_64 h1 h2)
theorem op_add : OpR X (binaryOp .Add) (rI0 fun i j => .int (i + j)) := opI0 fun _ _ _ _ _ _ _ q => add_int q
theorem op_sub : OpR X (binaryOp .Sub) (rI0 fun i j => .int (i - j)) := opI0 fun _ _ _ _ _ _ _ q => sub_int q
theorem op_modN : OpR X (binaryOp .Mod) (rI (fun _ j => j ≠ 0) fun i j => .int (i.fmod j)) := opI fun _ _ _ _ _ _ _ hc q => mod_int' hc q
theorem op_pow : OpR X (binaryOp .Pow) (rI CPow fun i j => .int (i ^ j.toNat)) := opI fun _ _ _ _ _ _ _ hc q => pow_int_small hc.1 hc.2.1 hc.2.2 q
theorem unI {f : Value → Sem Value} {g : Int → Int}
    (rule : ∀ (i : Int) (t : Tok) (s : Shared) (Q : Value → Shared → Prop) (E : Value → Shared → Prop), Q (.int (g i) s.toks) { s with toks := s.toks + 1 } → wpAny (model X.prog X.w) X.A (f (.int i t)) Q E s) :
    UnR X f (rU fun i => .int (g i)) := by
  intro pins s σ H x v Q I rx h
  obtain ⟨i, rfl, q⟩ := h
  obtain ⟨t, rfl⟩ := rx
  exact rule i t s _ _ ⟨.int (g i), H, I.tok _, ⟨_, rfl⟩, q⟩
theorem un_neg : UnR X (unaryOp .USub) (rU fun i => .int (-i)) := unI fun _ _ _ _ _ q => neg_int q
end
def scal : V → V → Bool
  | .non, .non => true | .non, .int _ => true | .int _, .non => true | .non, .bl _ => true | .bl _, .non => true | .non, .str _ => true | .str _, .non => true
  | .int _, .int _ => true | .bl _, .bl _ => true | .str _, .str _ => true | .byt _, .byt _ => true
  | .int _, .str _ => true | .str _, .int _ => true | .bl _, .str _ => true | .str _, .bl _ => true
  | _, _ => false
def rEq : R2 := fun x y H Q => scal x y = true ∧ Q (.bl (decide (x = y))) H
def rNe : R2 := fun x y H Q => scal x y = true ∧ Q (.bl (!decide (x = y))) H
theorem dec_int {i j : Int} : decide (V.int i = V.int j) = (i == j) := by
  rw [Bool.eq_iff_iff]
  simp
theorem dec_bl {i j : Bool} : decide (V.bl i = V.bl j) = (i == j) := by
  rw [Bool.eq_iff_iff]
  simp
theorem dec_str {i j : Str} : decide (V.str i = V.str j) = (i == j) := by
  rw [Bool.eq_iff_iff]
  simp
theorem dec_byt {i j : Array UInt8} : decide (V.byt i = V.byt j) = (i.toList == j.toList) := by
  rw [Bool.eq_iff_iff]
  cases i
  cases j
  simp
section
variable {X : Cx} {a b c : Expr} {ta tb tc : TE} {pos : Pos}
theorem fin_bl {pins : List (Addr × Obj)} {σ : St} {H : Hp} {s : Shared} {Q : VK} {k k' : Bool} (I : Inv X pins σ H s) (q : Q (.bl k) H) (e : k = k') : EP X pins σ Q (.bool k') s := by
  subst e
  exact ⟨.bl k, H, I, rfl, q⟩
theorem op_eq : OpR X (compareOp .Eq) rEq := by
  intro pins s σ H x y v u Q I rx ry h
  obtain ⟨hs, q⟩ := h
  cases x with
  | non =>
    cases rx
    cases y with
    | non => cases ry; exact PySem.EqNone.eq_none_none (fin_bl I q (by simp))
    | bl j => cases ry; exact PySem.EqNone.eq_none_bool (fin_bl I q (by simp))
    | int j => obtain ⟨t', rfl⟩ := ry; exact PySem.EqNone.eq_none_int (fin_bl I q (by simp))
    | str j => obtain ⟨t', rfl⟩ := ry; exact PySem.EqNone.eq_none_str (fin_bl I q (by simp))
    | _ => exact absurd (show false = true from hs) Bool.false_ne_true
  | bl i =>
    cases rx
    cases y with
    | non => cases ry; exact PySem.EqNone.eq_bool_none (fin_bl I q (by simp))
    | bl j => cases ry; exact eq_bool (fin_bl I q dec_bl)
    | str j => obtain ⟨t', rfl⟩ := ry; exact PySem.EqMixed.eq_bool_str (fin_bl I q (by simp))
    | _ => exact absurd (show false = true from hs) Bool.false_ne_true
  | int i =>
    obtain ⟨t, rfl⟩ := rx
    cases y with
    | non => cases ry; exact PySem.EqNone.eq_int_none (fin_bl I q (by simp))
    | int j => obtain ⟨t', rfl⟩ := ry; exact eq_int (fin_bl I q dec_int)
    | str j => obtain ⟨t', rfl⟩ := ry; exact PySem.EqMixed.eq_int_str (fin_bl I q (by simp))
    | _ => exact absurd (show false = true from hs) Bool.false_ne_true
  | str i =>
    obtain ⟨t, rfl⟩ := rx
    cases y with
    | non => cases ry; exact PySem.EqNone.eq_str_none (fin_bl I q (by simp))
    | bl j => cases ry; exact PySem.EqMixed.eq_str_bool (fin_bl I q (by simp))
    | int j => obtain ⟨t', rfl⟩ := ry; exact PySem.EqMixed.eq_str_int (fin_bl I q (by simp))
    | str j => obtain ⟨t', rfl⟩ := ry; exact eq_str (fin_bl I q dec_str)
    | _ => exact absurd (show false = true from hs) Bool.false_ne_true
  | byt i =>
    obtain ⟨t, rfl⟩ := rx
    cases y with
    | byt j => obtain ⟨t', rfl⟩ := ry; exact PySem.W.eq_bytes (fin_bl I q dec_byt)
    | _ => exact absurd (show false = true from hs) Bool.false_ne_true
  | _ => cases y <;> exact absurd (show false = true from hs) Bool.false_ne_true
theorem op_ne : OpR X (compareOp .NotEq) rNe := by
  intro pins s σ H x y v u Q I rx ry h
  obtain ⟨hs, q⟩ := h
  cases x with
  | non =>
    cases rx
    cases y with
    | non => cases ry; exact PySem.EqNone.ne_none_none (fin_bl I q (by simp))
    | bl j => cases ry; exact PySem.EqNone.ne_none_bool (fin_bl I q (by simp))
    | int j => obtain ⟨t', rfl⟩ := ry; exact PySem.EqNone.ne_none_int (fin_bl I q (by simp))
    | str j => obtain ⟨t', rfl⟩ := ry; exact PySem.EqNone.ne_none_str (fin_bl I q (by simp))
    | _ => exact absurd (show false = true from hs) Bool.false_ne_true
  | bl i =>
    cases rx
    cases y with
    | non => cases ry; exact PySem.EqNone.ne_bool_none (fin_bl I q (by simp))
    | bl j => cases ry; exact ne_bool (fin_bl I q (congrArg not dec_bl))
    | str j => obtain ⟨t', rfl⟩ := ry; exact PySem.EqMixed.ne_bool_str (fin_bl I q (by simp))
    | _ => exact absurd (show false = true from hs) Bool.false_ne_true
  | int i =>
    obtain ⟨t, rfl⟩ := rx
    cases y with
    | non => cases ry; exact PySem.EqNone.ne_int_none (fin_bl I q (by simp))
    | int j => obtain ⟨t', rfl⟩ := ry; exact ne_int (fin_bl I q (congrArg not dec_int))
    | str j => obtain ⟨t', rfl⟩ := ry; exact PySem.EqMixed.ne_int_str (fin_bl I q (by simp))
    | _ => exact absurd (show false = true from hs) Bool.false_ne_true
  | str i =>
    obtain ⟨t, rfl⟩ := rx
    cases y with
    | non => cases ry; exact PySem.EqNone.ne_str_none (fin_bl I q (by simp))
    | bl j => cases ry; exact PySem.EqMixed.ne_str_bool (fin_bl I q (by simp))
    | int j => obtain ⟨t', rfl⟩ := ry; exact PySem.EqMixed.ne_str_int (fin_bl I q (by simp))
    | str j => obtain ⟨t', rfl⟩ := ry; exact ne_str (fin_bl I q (congrArg not dec_str))
    | _ => exact absurd (show false = true from hs) Bool.false_ne_true
  | byt i =>
    obtain ⟨t, rfl⟩ := rx
    cases y with
    | byt j => obtain ⟨t', rfl⟩ := ry; exact PySem.W.ne_bytes (fin_bl I q (congrArg not dec_byt))
    | _ => exact absurd (show false = true from hs) Bool.false_ne_true
  | _ => cases y <;> exact absurd (show false = true from hs) Bool.false_ne_true
theorem op_lt : OpR X (compareOp .Lt) (rI0 fun i j => .bl (decide (i < j))) := opB0 fun _ _ _ _ _ _ _ q => lt_int q
theorem op_gt : OpR X (compareOp .Gt) (rI0 fun i j => .bl (decide (j < i))) := opB0 fun _ _ _ _ _ _ _ q => gt_int q
theorem op_ge : OpR X (compareOp .GtE) (rI0 fun i j => .bl (decide (j ≤ i))) := opB0 fun _ _ _ _ _ _ _ q => ge_int q
theorem OpR.or {f : Value → Value → Sem Value} {r r' : R2} (h : OpR X f r) (h' : OpR X f r') : OpR X f (fun x y H Q => r x y H Q ∨ r' x y H Q) := by
  intro pins s σ H x y v u Q I rx ry q
  rcases q with q | q
  · exact h pins s σ H x y v u Q I rx ry q
  · exact h' pins s σ H x y v u Q I rx ry q
theorem nomark (b : Expr) {op : CmpOp} (h : op ≠ .In := by decide) (h2 : op ≠ .NotIn := by decide) : behindInMarks op b = false := by
  have e1 : (op == CmpOp.In) = false := by cases op <;> first | rfl | exact absurd rfl h
  have e2 : (op == CmpOp.NotIn) = false := by cases op <;> first | rfl | exact absurd rfl h2
  cases b <;> simp [behindInMarks, e1, e2]
def tTest (t : TE) : TT := fun σ H Q => t σ H fun x H' => ∃ k, x = .bl k ∧ Q k H'
theorem pt_cmpR {op : CmpOp} {r : R2} (ho : OpR X (compareOp op) r) (ha : PE X a ta) (hb : PE X b tb) (hm : behindInMarks op b = false) : PT X (.Compare a [op] [b] pos) (tTest (tOp r ta tb)) := by
  intro pins s σ H Q I h
  refine wpAny_isTrue_Compare1 (thn (ha pins s σ H _ I h) fun v s1 ⟨x, H1, I1, r1, q1⟩ => thn (hb pins s1 σ H1 _ I1 q1) fun u s2 ⟨y, H2, I2, r2, q2⟩ =>
    thn (ho pins s2 σ H2 x y v u _ I2 r1 r2 q2) fun c s3 ⟨z, H3, I3, r3, k, e, q3⟩ => ?_) hm
  subst e
  cases r3
  exact wpAny_truthy_bool ⟨H3, I3, q3⟩
def TruV (K : PySem.W.Frag) (x : V) (H : Hp) (k : Bool) : Prop :=
  match x with
  | .non => k = false
  | .bl b => k = b
  | .int i => k = (i != 0)
  | .str y => y.length ≤ sizeLine ∧ k = ((y.length : Int) != 0)
  | .byt y => y.size ≤ sizeLine ∧ k = ((y.size : Int) != 0)
  | .ref p => (∃ xs, SqL K H p xs ∧ k = !xs.isEmpty) ∨ (∃ xs, SqT K H p xs ∧ k = !xs.isEmpty) ∨ ∃ kvs, H p = some (.dK kvs) ∧ k = !kvs.isEmpty
  | _ => False
theorem isEmpty_kv {κ : Type} {kvs : List (κ × V)} {vs : List (κ × Value)} (r : KV kvs vs) : (!vs.isEmpty) = !kvs.isEmpty := by
  cases r <;> rfl
theorem isEmpty_of {xs : List V} {its : List Value} (r : Vals xs its) : (!its.toArray.isEmpty) = !xs.isEmpty := by
  cases r <;> simp
theorem line63 : (sizeLine : Nat) < 2 ^ 63 := by rw [sizeLine_eq]; decide
theorem tru_ok : TruR X (fun x H Q => ∃ k, TruV X.K x H k ∧ Q k H) := by
  intro pins s σ H x v Q I rx h
  obtain ⟨k, e, q⟩ := h
  have hl := line63
  have hs : sizeLine = 16777216 := sizeLine_eq
  cases x with
  | non =>
    cases rx
    have e' : k = false := e
    subst e'
    exact truthy_none ⟨H, I, q⟩
  | bl b =>
    cases rx
    have e' : k = b := e
    subst e'
    exact wpAny_truthy_bool ⟨H, I, q⟩
  | int i =>
    obtain ⟨t, rfl⟩ := rx
    have e' : k = (i != 0) := e
    subst e'
    exact PySem.P.truthy_int ⟨H, I, q⟩
  | str y =>
    obtain ⟨t, rfl⟩ := rx
    obtain ⟨hy, e'⟩ : y.length ≤ sizeLine ∧ k = ((y.length : Int) != 0) := e
    subst e'
    exact PySem.P.truthy_str (by omega) ⟨H, I.tok _, q⟩
  | byt y =>
    obtain ⟨t, rfl⟩ := rx
    obtain ⟨hy, e'⟩ : y.size ≤ sizeLine ∧ k = ((y.size : Int) != 0) := e
    subst e'
    exact PySem.W.truthy_bytes (by omega) ⟨H, I.tok _, q⟩
  | ref p =>
    cases rx
    have e' : (∃ xs, SqL X.K H p xs ∧ k = !xs.isEmpty) ∨ (∃ xs, SqT X.K H p xs ∧ k = !xs.isEmpty) ∨ ∃ kvs, H p = some (.dK kvs) ∧ k = !kvs.isEmpty := e
    rcases e' with ⟨xs, hx, e'⟩ | ⟨xs, hx, e'⟩ | ⟨kvs, hx, e'⟩
    · subst e'
      obtain ⟨its, r, pl, hz⟩ := I.list hx
      have hlen := r.length
      exact wpAny_truthy_list pl.isList (by simp only [List.size_toArray]; omega) ⟨H, I.tok _, by rw [isEmpty_of r]; exact q⟩
    · subst e'
      obtain ⟨its, r, pl, hz⟩ := I.tuple hx
      have hlen := r.length
      exact truthy_tuple pl (by simp only [List.size_toArray]; omega) ⟨H, I.tok _, by rw [isEmpty_of r]; exact q⟩
    · subst e'
      obtain ⟨hz, hS, vs, r, m⟩ : kvs.length ≤ sizeLine ∧ (p == sysModules) = false ∧ ∃ vs, KV kvs vs ∧ s.heap.DictOf (mixKind X.prog X.w) p vs := I.hok p _ hx
      have hlen : kvs.length = vs.length := Paired.length r
      exact wpAny_truthy_dict hS m (by omega) ⟨H, I.tok _, by rw [isEmpty_kv r]; exact q⟩
  | _ => exact (show False from e).elim
theorem pt_truth (ha : PE X a ta) (he : ∀ whole, isTrue a X.env whole = (do let v ← whole; standAt a.pos; holding [v] (truthy v))) :
    PT X a (fun σ H Q => ta σ H fun x H' => ∃ k, TruV X.K x H' k ∧ Q k H') := by
  intro pins s σ H Q I h
  exact isTrue_plain (thn (ha pins s σ H _ I h) fun v s1 ⟨x, H1, I1, r1, q1⟩ => tru_ok pins s1 σ H1 x v Q I1 r1 q1) (he _)
theorem op_add_str : OpR X (binaryOp .Add) (fun x y H Q => ∃ i j, x = .str i ∧ y = .str j ∧ i.length + j.length ≤ sizeLine ∧ Q (.str (i ++ j)) H) := by
  intro pins s σ H x y v u Q I rx ry h
  obtain ⟨i, j, rfl, rfl, hz, q⟩ := h
  obtain ⟨t, rfl⟩ := rx
  obtain ⟨t', rfl⟩ := ry
  exact add_str (fun t' tk => ⟨.str (i ++ j), H, I.tok _, ⟨_, rfl⟩, q⟩) hz
theorem vals1 {x : V} {us : List Value} (r : Vals [x] us) : ∃ u, us = [u] ∧ RelV x u := by
  cases r with
  | cons r1 r2 => cases r2; exact ⟨_, rfl, r1⟩
theorem vals2 {x y : V} {us : List Value} (r : Vals [x, y] us) : ∃ u w', us = [u, w'] ∧ RelV x u ∧ RelV y w' := by
  cases r with
  | cons r1 r2 =>
    cases r2 with
    | cons r3 r4 => cases r4; exact ⟨_, _, rfl, r1, r3⟩
theorem call_abs : CallR X (.builtin "abs") (fun xs H Q => ∃ i, xs = [.int i] ∧ Q (.int (if i < 0 then -i else i)) H) := by
  intro pins s σ H xs us Q I r h
  obtain ⟨i, rfl, q⟩ := h
  obtain ⟨u, rfl, t, rfl⟩ := vals1 r
  exact call_abs_int fun u tk => ⟨.int (if i < 0 then -i else i), H, I.tok _, ⟨_, rfl⟩, q⟩
theorem call_max2 (hc : X.calm = true) : CallR X (.builtin "max") (fun xs H Q => ∃ i j, xs = [.int i, .int j] ∧ Q (.int (if j > i then j else i)) H) := by
  intro pins s σ H xs us Q I r h
  obtain ⟨i, j, rfl, q⟩ := h
  obtain ⟨u, w', rfl, ⟨t, rfl⟩, ⟨t', rfl⟩⟩ := vals2 r
  refine max_two_ints (I.ok.hd hc) fun h' tk k => ⟨_, H, I.kept k, ?_, q⟩
  by_cases hj : j > i
  · rw [if_pos hj, if_pos hj]; exact ⟨_, rfl⟩
  · rw [if_neg hj, if_neg hj]; exact ⟨_, rfl⟩
theorem call_min2 (hc : X.calm = true) : CallR X (.builtin "min") (fun xs H Q => ∃ i j, xs = [.int i, .int j] ∧ Q (.int (if j < i then j else i)) H) := by
  intro pins s σ H xs us Q I r h
  obtain ⟨i, j, rfl, q⟩ := h
  obtain ⟨u, w', rfl, ⟨t, rfl⟩, ⟨t', rfl⟩⟩ := vals2 r
  refine min_two_ints (I.ok.hd hc) fun h' tk k => ⟨_, H, I.kept k, ?_, q⟩
  by_cases hj : j < i
  · rw [if_pos hj, if_pos hj]; exact ⟨_, rfl⟩
  · rw [if_neg hj, if_neg hj]; exact ⟨_, rfl⟩
theorem call_str_int : CallR X (.type "str") (fun xs H Q => ∃ i, xs = [.int i] ∧ i.natAbs.log2 < 1920 ∧ Q (.str (toString i)) H) := by
  intro pins s σ H xs us Q I r h
  obtain ⟨i, rfl, hz, q⟩ := h
  obtain ⟨u, rfl, t, rfl⟩ := vals1 r
  exact PySem.P.str_of_int hz ⟨.str _, H, I.tok _, ⟨_, rfl⟩, q⟩
def LenV (K : PySem.W.Frag) (x : V) (H : Hp) (n : Nat) : Prop :=
  match x with
  | .str y => y.length ≤ sizeLine ∧ n = y.length
  | .byt y => y.size ≤ sizeLine ∧ n = y.size
  | .ref p => (∃ xs, SqL K H p xs ∧ n = xs.length) ∨ ∃ xs, SqT K H p xs ∧ n = xs.length
  | _ => False
theorem call_len : CallR X (.builtin "len") (fun xs H Q => ∃ x n, xs = [x] ∧ LenV X.K x H n ∧ Q (.int n) H) := by
  intro pins s σ H xs us Q I r h
  obtain ⟨x, n, rfl, e, q⟩ := h
  obtain ⟨u, rfl, rx⟩ := vals1 r
  have hl := line63
  have hs : sizeLine = 16777216 := sizeLine_eq
  cases x with
  | str y =>
    obtain ⟨t, rfl⟩ := rx
    obtain ⟨hy, e'⟩ : y.length ≤ sizeLine ∧ n = y.length := e
    subst e'
    exact len_str (by omega) ⟨.int _, H, I.tok _, ⟨_, rfl⟩, q⟩
  | byt y =>
    obtain ⟨t, rfl⟩ := rx
    obtain ⟨hy, e'⟩ : y.size ≤ sizeLine ∧ n = y.size := e
    subst e'
    exact PySem.W.len_bytes (by omega) ⟨.int _, H, I.tok _, ⟨_, rfl⟩, q⟩
  | ref p =>
    cases rx
    have e' : (∃ xs, SqL X.K H p xs ∧ n = xs.length) ∨ ∃ xs, SqT X.K H p xs ∧ n = xs.length := e
    rcases e' with ⟨xs, hx, e'⟩ | ⟨xs, hx, e'⟩
    · subst e'
      obtain ⟨its, r', pl, hz⟩ := I.list hx
      have hlen := r'.length
      exact Calls.call_len_list pl.isList (by simp only [List.size_toArray]; omega) ⟨.int xs.length, H, I.tok _, ⟨_, by simp only [List.size_toArray]; rw [hlen]⟩, q⟩
    · subst e'
      obtain ⟨its, r', pl, hz⟩ := I.tuple hx
      have hlen := r'.length
      exact len_tuple pl (by simp only [List.size_toArray]; omega) ⟨.int xs.length, H, I.tok _, ⟨_, by simp only [List.size_toArray]; rw [hlen]⟩, q⟩
  | _ => exact (show False from e).elim
end
end L2
namespace L2
open PySem PySem.Spec PyProof.Rows
structure ObjM (h : Heap) (x dx C : Addr) (mA : Str → Option Value) : Prop where
  obj : h.get? x = some (PySem.W.instObj C dx)
  ns : h.Ns1 dx mA
  ne : dx ≠ x
theorem lookIn_ns {h : Heap} {dx : Addr} {mA : Str → Option Value} (n : h.Ns1 dx mA) : ∃ od, h.get? dx = some od ∧ ∀ name, PySem.W.lookIn name od = some (mA name) := by
  obtain ⟨o, es, ep, ho, hd, hk, _, hm⟩ := n
  refine ⟨o, ho, fun name => ?_⟩
  have e := hm name
  unfold nsFind findBy at e
  rw [← Array.find?_toList] at e
  unfold PySem.W.lookIn
  rw [hd]
  dsimp only
  split
  · rename_i y q
    rw [q] at e
    exact congrArg some e
  · rename_i q
    rw [q] at e
    have a : es.toList.any (·.refKey) = false := by
      rw [List.any_eq_false]
      intro y hy
      obtain ⟨z, t, hkey⟩ := hk y (Array.mem_toList_iff.mp hy)
      simp [DictEntry.refKey, hkey]
    have a' : ¬ es.toList.any (·.refKey) = true := by rw [a]; exact Bool.false_ne_true
    rw [if_neg a']
    exact congrArg some e
theorem ObjM.look {h : Heap} {x dx C : Addr} {mA : Str → Option Value} (I : ObjM h x dx C mA) : ∃ od, PySem.W.InstAt h x (PySem.W.instObj C dx) C (some od) ∧ ∀ name, PySem.W.lookIn name od = some (mA name) :=
  let ⟨od, ho, hl⟩ := lookIn_ns I.ns
  ⟨od, ⟨I.obj, rfl, rfl, ho⟩, hl⟩
section
variable {prog : Program} {w : World} {A : Around} {E : Value → Shared → Prop} {s : Shared} {K : PySem.W.Frag} {x dx C f : Addr} {mA : Str → Option Value} {name : Str} {v : Value}
end
section
variable {P : Program} {w : World} {H H' : Hp} {h h' : Heap} {a C dx : Addr} {fs fs' : List (Str × V)}
end
structure Cls (K : PySem.W.Frag) (C : Addr) : Prop where
  pg : PySem.W.plainGet K C Str.empty = true
  hd : PySem.W.hasDictIn K C = true
  po : PySem.W.plainOver K C = true
  sa : PySem.W.findIn K (.ref C) "__setattr__" = some (some (.builtin "object.__setattr__"))
theorem Cls.get {K : PySem.W.Frag} {C : Addr} (c : Cls K C) (f : Str) : PySem.W.plainGet K C f = true := c.pg
structure Con (K : PySem.W.Frag) (C : Addr) (f : Str) (v : V) (u : Value) : Prop where
  at_ : PySem.W.findIn K (.ref C) f = some (some u)
  rel : RelV v u
  get : PySem.W.specialIn K u "__get__" = some none
  cp : PySem.W.copiedNames.contains f = false
structure Meth (K : PySem.W.Frag) (C : Addr) (m : Str) (f : Addr) : Prop where
  at_ : PySem.W.findIn K (.ref C) m = some (some (.ref f))
  fn : PySem.W.isFn K (.ref f) = true
  kp : PySem.W.keepIn K (.ref f) = true
section
variable {X : Cx} {pins : List (Addr × Obj)} {σ : St} {H : Hp} {s : Shared} {a C dx : Addr} {fs : List (Str × V)} {f : Str} {v : V} {A : Around} {E : Value → Shared → Prop}
end
section
variable {X : Cx} {o e value : Expr} {f : Str} {pos pos' tpos : Pos} {ta tv : TE}
end
section
variable {X : Cx} {pins : List (Addr × Obj)} {σ : St} {H : Hp} {s : Shared} {A : Around} {E : Value → Shared → Prop} {Q : Value → Shared → Prop} {c : Value} {b : Bool}
inductive TyOf (K : PySem.W.Frag) (H : Hp) : V → Value → Prop where
  | non : TyOf K H .non (.type "NoneType")
  | bl (x : Bool) : TyOf K H (.bl x) (.type "bool")
  | int (i : Int) : TyOf K H (.int i) (.type "int")
  | str (x : Str) : TyOf K H (.str x) (.type "str")
  | flt (x : UInt64) : TyOf K H (.flt x) (.type "float")
  | lst {a : Addr} {xs : List V} (e : H a = some (.lst xs)) : TyOf K H (.ref a) (.type "list")
  | frz {a : Addr} {o : Obj} {xs : List V} (e : H a = some (.frz o (.lst xs))) : TyOf K H (.ref a) (.type "list")
  | tup {a : Addr} {xs : List V} (e : H a = some (.tup xs)) : TyOf K H (.ref a) (.type "tuple")
  | dK {a : Addr} {kvs : List (Key × V)} (e : H a = some (.dK kvs)) : TyOf K H (.ref a) (.type "dict")
  | dT {a : Addr} {kvs : List (List Key × V)} (e : H a = some (.dT kvs)) : TyOf K H (.ref a) (.type "dict")
  | ins {a C dx : Addr} {fs : List (Str × V)} (e : H a = some (.ins C dx fs)) (cl : Cls K C) (ha : PySem.W.findIn K (.ref C) "__class__" = some (some (.builtin "object.__class__")))
      (hn : PySem.W.specialIn K (.builtin "object.__class__") "__get__" = some (some (.builtin "getset_descriptor.__get__"))) (htk : PySem.W.takesIn K (.builtin "object.__class__") = some true)
      (hm : PySem.W.mroIn K C (.type "object") = some true) : TyOf K H (.ref a) (.ref C)
end
end L2
namespace L2
open PySem PySem.Spec PyProof.Rows
structure Room (k : Nat) (A : Around) : Prop where
  hd : A.handled = none
  dp : A.depth + 3 * k + 5 < recursionLimit
  un : A.units + 16 * k + 200 < cLine
theorem Room.mono {j k : Nat} {A : Around} (r : Room k A) (h : j ≤ k) : Room j A := ⟨r.hd, by have := r.dp; omega, by have := r.un; omega⟩
theorem Room.deeper {k : Nat} {A : Around} (r : Room (k + 1) A) (env : Env) : Room k (A.deeper env) :=
  ⟨r.hd, by have := r.dp; show A.depth + 1 + 3 * k + 5 < _; omega, by have := r.un; show A.units + 3 + 16 * k + 200 < _; omega⟩
theorem Room.depth {k : Nat} {A : Around} (r : Room k A) : A.depth < recursionLimit := by have := r.dp; omega
theorem Room.units {k : Nat} {A : Around} (r : Room k A) : A.units + 64 < cLine := by have := r.un; omega
def tNil : TA := fun _ H Q => Q [] H
def tCons (ta : TE) (tr : TA) : TA := fun σ H Q => ta σ H fun x H1 => tr σ H1 fun xs H2 => Q (x :: xs) H2
section
variable {X : Cx} {e : Expr} {es : List Expr} {te : TE} {t : TA} {pos : Pos}
theorem pa_nil : PA X [] tNil := fun _ _ _ _ H Q I h => Calls.spliced_nil ⟨[], H, I, .nil, h⟩
theorem pa_cons (ha : PE X e te) (hr : PA X es t) (hs : starEach (e :: es) X.env = (false, eval e X.env) :: starEach es X.env := by rfl) : PA X (e :: es) (tCons te t) := by
  intro pos pins s σ H Q I h
  rw [hs]
  show wpAny _ _ (spliced ((false, eval e X.env) :: backTo pos (starEach es X.env))) _ _ s
  refine Calls.spliced_cons (thn (ha pins s σ H _ I h) fun u s1 ⟨x, H1, I1, r1, q1⟩ => ?_)
  exact thn (hr pos pins s1 σ H1 _ I1 q1) fun us s2 ⟨xs, H2, I2, r2, q2⟩ => ⟨x :: xs, H2, I2, .cons r1 r2, q2⟩
def tTup (t : TA) : TE := fun σ H Q => t σ H fun xs H1 => xs.length ≤ sizeLine ∧ ∀ p, H1 p = none → Q (.ref p) (upd H1 p (.tup xs))
def tLst (t : TA) : TE := fun σ H Q => t σ H fun xs H1 => xs.length ≤ sizeLine ∧ ∀ p, H1 p = none → Q (.ref p) (upd H1 p (.lst xs))
theorem pe_tup {x1} (h : PA X es t) : PE X (.Tuple es x1 pos) (tTup t) := by
  intro pins s σ H Q I hq
  refine wpAny_Tuple_spliced (thn (h pos pins s σ H _ I hq) fun us s1 ⟨xs, H1, I1, r, z, q⟩ => ⟨by rw [← r.length]; exact z, ?_⟩)
  have hf : H1 s1.heap.objs.size = none := I1.hok.fresh (Nat.le_refl _)
  refine ⟨.ref s1.heap.objs.size, upd H1 s1.heap.objs.size (.tup xs), I1.laid (t' := s1.toks) (fun b u e => Heap.get?_push_of_some _ e) (Nat.le_refl _) ?_, rfl, q _ hf⟩
  exact ⟨z, us, r, ⟨_, Heap.get?_push_size _ rfl, rfl, _, rfl⟩⟩
theorem pe_lst (h : PA X es t) : PE X (.List es pos) (tLst t) := by
  intro pins s σ H Q I hq
  refine wpAny_List_spliced (thn (h pos pins s σ H _ I hq) fun us s1 ⟨xs, H1, I1, r, z, q⟩ => ⟨by rw [← r.length]; exact z, ?_⟩)
  have hf : H1 s1.heap.objs.size = none := I1.hok.fresh (Nat.le_refl _)
  refine ⟨.ref s1.heap.objs.size, upd H1 s1.heap.objs.size (.lst xs), I1.laid (t' := s1.toks) (fun b u e => Heap.get?_push_of_some _ e) (Nat.le_refl _) ?_, rfl, q _ hf⟩
  exact ⟨z, us, 0, r, Heap.get?_push_size _ rfl⟩
end
abbrev Sp := List V → Hp → VK → XK → Prop
abbrev CXT := List Env → Hp → Shared → XK → Value → Shared → Prop
structure Env0 (P : Program) (w : World) (K : PySem.W.Frag) (mg : Str → Option Value) (base : Heap) (A : Around) (outer : List Env) (s : Shared) (H : Hp) : Prop where
  frames : A.frames = some outer
  mod : Mod K mg base
  bs : ∀ b o, base.get? b = some o → s.heap.get? b = some o ∧ H b = none
  bsz : base.objs.size ≤ s.heap.objs.size
  funs : s.heap.FunFrames base outer
  frf : ∀ b ∈ frs outer, H b = none
  hok : HOk P w H s.heap
  bare : AllBare s.gens
def CE (outer : List Env) (P : Program) (w : World) (H : Hp) (s : Shared) (Q : VK) (u : Value) (s' : Shared) : Prop :=
  ∃ v H', s'.os = s.os ∧ AllBare s'.gens ∧ Un (frs outer) [] H H' s.heap s'.heap ∧ HOk P w H' s'.heap ∧ RelV v u ∧ Q v H'
def CR (CX : CXT) (outer : List Env) (P : Program) (w : World) (H : Hp) (s : Shared) (Q : VK) (E : XK) (r : Result) (s' : Shared) : Prop :=
  match r with
  | .ok (.ret u) => CE outer P w H s Q u s'
  | .ok _ => False
  | .error e => CX outer H s E e s'
structure FnOk (P : Program) (w : World) (K : PySem.W.Frag) (mg : Str → Option Value) (base : Heap) (CX : CXT) (k : Nat) (f : Addr) (fd : FuncData) (ps : List Str) (sp : Sp) : Prop where
  len : ∀ vs H Q E, sp vs H Q E → vs.length = ps.length
  run : ∀ (A : Around) (outer : List Env) (s : Shared) (H : Hp) (args : Args) (us : List Value) (vs : List V) (Q : VK) (E : XK), Room k A → Env0 P w K mg base A outer s H → BindsTo s fd args (ps.zip us) → Vals vs us → sp vs H Q E →
    codeAny (model P w) A (.call (.ref f) args) (CR CX outer P w H s Q E) s
theorem FnOk.mono {P : Program} {w : World} {K : PySem.W.Frag} {mg : Str → Option Value} {base : Heap} {CX : CXT} {j k : Nat} {f : Addr} {fd : FuncData} {ps : List Str} {sp : Sp} (F : FnOk P w K mg base CX j f fd ps sp) (h : j ≤ k) :
    FnOk P w K mg base CX k f fd ps sp := ⟨F.len, fun A outer s H args us vs Q E hr => F.run A outer s H args us vs Q E (hr.mono h)⟩
theorem FnOk.imp {P : Program} {w : World} {K : PySem.W.Frag} {mg : Str → Option Value} {base : Heap} {CX : CXT} {k : Nat} {f : Addr} {fd : FuncData} {ps : List Str} {sp sp' : Sp} (F : FnOk P w K mg base CX k f fd ps sp)
    (h : ∀ vs H Q E, sp' vs H Q E → sp vs H Q E) : FnOk P w K mg base CX k f fd ps sp' :=
  ⟨fun vs H Q E q => F.len vs H Q E (h _ _ _ _ q), fun A outer s H args us vs Q E hr he hb hv hs => F.run A outer s H args us vs Q E hr he hb hv (h _ _ _ _ hs)⟩
section
variable {X : Cx} {pins : List (Addr × Obj)} {σ : St} {H : Hp} {s s' : Shared}
theorem Inv.env0 (I : Inv X pins σ H s) : Env0 X.prog X.w X.K X.mg X.base X.A X.stack s H :=
  ⟨I.ok.frames, I.ok.mod, I.bs, Nat.le_trans I.ok.bsz I.sz, I.stack, I.stkFree, I.hok, I.bare⟩
theorem Inv.after {Q : VK} {u : Value} (I : Inv X pins σ H s) (h : CE X.stack X.prog X.w H s Q u s') : EP X pins σ Q u s' := by
  obtain ⟨v, H', os, bare, un, hok, r, q⟩ := h
  obtain ⟨hh, g, d, t, os'⟩ := s'
  obtain rfl : os' = s.os := os
  exact ⟨v, H', I.call (h' := hh) (g' := g) (d' := d) (t' := t) (ch := []) un hok bare (fun b z => absurd z (by simp)), r, q⟩
end
def tCall (sp : Sp) (dvs : List V) (E : XK) (t : TA) : TE := fun σ H Q => t σ H fun vs H1 => sp (vs ++ dvs) H1 Q E
def Binds (K : PySem.W.Frag) (fd : FuncData) (ps : List Str) (ds : List Value) : Prop :=
  ∀ (s : Shared) (us : List Value), K.In s.heap → (us ++ ds).length = ps.length → BindsTo s fd ⟨us, []⟩ (ps.zip (us ++ ds))
theorem Binds.all {K : PySem.W.Frag} {fd : FuncData} {ps : List Str} (h : ∀ us : List Value, us.length = ps.length → bindArgs fd ⟨us, []⟩ = pure (ps.zip us)) : Binds K fd ps [] := fun s us _ hl => by
  rw [List.append_nil] at hl ⊢
  exact .of_eq (h us hl)
def Passes (CX : CXT) (X : Cx) (E : XK) : Prop := ∀ (pins : List (Addr × Obj)) (σ : St) (H : Hp) (s : Shared) (e : Value) (s' : Shared), Inv X pins σ H s → CX X.stack H s E e s' → X.xe e s'
section
variable {X : Cx} {CX : CXT} {k : Nat} {f C : Addr} {fd : FuncData} {ps : List Str} {sp : Sp} {dvs : List V} {ds : List Value} {E : XK} {x m : Str} {p pos apos : Pos} {e o : Expr} {es : List Expr} {ta : TE} {t : TA}
theorem run_fn {pins : List (Addr × Obj)} {σ : St} {H : Hp} {s : Shared} {Q : VK} {us : List Value} {vs : List V} (F : FnOk X.prog X.w X.K X.mg X.base CX k f fd ps sp) (hr : Room k X.A) (hb : Binds X.K fd ps ds) (hd : Vals dvs ds) (hx : Passes CX X E)
    (I : Inv X pins σ H s) (r : Vals vs us) (h : sp (vs ++ dvs) H Q E) : wpAny (model X.prog X.w) X.A (call (.ref f) us) (EP X pins σ Q) X.xe s := by
  have r2 : Vals (vs ++ dvs) (us ++ ds) := r.append hd
  have hl : (us ++ ds).length = ps.length := by rw [← r2.length]; exact F.len _ _ _ _ h
  refine wpAny_call (codeAny_mono (F.run X.A X.stack s H ⟨us, []⟩ (us ++ ds) (vs ++ dvs) Q E hr I.env0 (hb s us I.kIn hl) r2 h) fun r s' hq => ?_)
  cases r with
  | error e => exact hx pins σ H s e s' I hq
  | ok fl =>
    cases fl with
    | ret u => exact I.after hq
    | next => exact False.elim hq
    | brk => exact False.elim hq
    | cont => exact False.elim hq
theorem pe_call (F : FnOk X.prog X.w X.K X.mg X.base CX k f fd ps sp) (hr : Room k X.A) (hg : Gl X x) (hm : X.mg x = some (.ref f)) (hk : PySem.W.keepIn X.K (.ref f) = true) (hb : Binds X.K fd ps ds) (hd : Vals dvs ds) (hx : Passes CX X E)
    (ha : PA X (e :: es) t) (hdb : (x == ("__debug__" : Str)) = false := by decide) (he : starEach (e :: es) X.env = (false, eval e X.env) :: starEach es X.env := by rfl) (hpl : (backTo pos (starEach es X.env)).any (·.1) = false := by rfl) :
    PE X (.Call (.Name x p) (e :: es) [] pos) (tCall sp dvs E t) := by
  intro pins s σ H Q I h
  refine wpAny_Call_Name_kw (ld_glob I hg hm ?_ hdb)
  refine PySem.W.callWith_K (h₀ := X.base) I.ok.mod.kin hk (thn (ha pos pins s σ H _ I h) fun us s1 ⟨vs, H1, I1, r, q⟩ => ⟨I1.kIn, ?_⟩) he hpl
  exact run_fn F hr hb hd hx I1 r q
structure Mk (K : PySem.W.Frag) (C f : Addr) : Prop where
  makes : PySem.W.makesIn K C = true
  init : PySem.W.findIn K (.ref C) "__init__" = some (some (.ref f))
  fn : PySem.W.isFn K (.ref f) = true
  kp : PySem.W.keepIn K (.ref C) = true
end
section
variable {X : Cx} {CX : CXT} {k : Nat} {f C : Addr} {fd : FuncData} {ps ks : List Str} {sp : Sp} {E : XK} {x m : Str} {p pos apos kpos : Pos} {e o : Expr} {es : List Expr} {kws : List Keyword} {te ta : TE} {t tk : TA} {nm : Option Str}
structure KBinds (K : PySem.W.Frag) (fd : FuncData) (ps ks : List Str) (g : List Value → List Value → List Value) (gV : List V → List V → List V) : Prop where
  to : ∀ (s : Shared) (us ws : List Value), K.In s.heap → (g us ws).length = ps.length → BindsTo s fd ⟨us, ks.zip ws⟩ (ps.zip (g us ws))
  rel : ∀ {vs : List V} {us : List Value} {zs : List V} {ws : List Value}, Vals vs us → Vals zs ws → Vals (gV vs zs) (g us ws)
variable {g : List Value → List Value → List Value} {gV : List V → List V → List V}
end
structure FnScope (N P : List Str) (sc : Scope) : Prop where
  kind : sc.kind = .function
  co : sc.isCoroutine = false
  gen : sc.isGenerator = false
  nd : N.Nodup
  pre : N.take P.length = P
  par : ∀ x ∈ P, sc.names.lookup x = some .local ∨ sc.names.lookup x = some .cell
  nofree : ∀ y ∈ sc.names, y.2 ≠ .free
theorem bindL_out {kindOf : Str → Option NameKind} {x : Str} : ∀ {binds : List (Str × Value)} {m : Str → Option Value}, (∀ v, (x, v) ∉ binds) → bindL kindOf binds m x = m x
  | [], _, _ => rfl
  | (n, v) :: r, m, h => by
    unfold bindL
    rw [bindL_out fun w hw => h w (List.mem_cons_of_mem _ hw)]
    split
    · have : x ≠ n := by rintro rfl; exact h v List.mem_cons_self
      simp [this]
    · rfl
theorem bindC_out {kindOf : Str → Option NameKind} {x : Str} : ∀ {binds : List (Str × Value)} {m : Str → Option Value}, (∀ v, (x, v) ∉ binds) → bindC kindOf binds m x = m x
  | [], _, _ => rfl
  | (n, v) :: r, m, h => by
    unfold bindC
    rw [bindC_out fun w hw => h w (List.mem_cons_of_mem _ hw)]
    split
    · rfl
    · have : x ≠ n := by rintro rfl; exact h v List.mem_cons_self
      simp [this]
theorem bindL_get {kindOf : Str → Option NameKind} {x : Str} {v : Value} : ∀ {P : List Str} {vs : List Value} {i : Nat} {m : Str → Option Value}, P.Nodup → P[i]? = some x → vs[i]? = some v → kindOf x = some .local →
    bindL kindOf (P.zip vs) m x = some v
  | [], _, _, _, _, h, _, _ => by simp at h
  | _ :: _, [], _, _, _, _, h, _ => by simp at h
  | p :: P, w :: vs, 0, m, nd, h1, h2, hk => by
    simp at h1 h2; subst h1; subst h2
    show bindL kindOf ((p, w) :: P.zip vs) m p = _
    unfold bindL
    rw [bindL_out fun v hv => (List.nodup_cons.mp nd).1 (List.of_mem_zip hv).1, if_pos hk]
    simp
  | p :: P, w :: vs, i + 1, m, nd, h1, h2, hk => by
    show bindL kindOf ((p, w) :: P.zip vs) m x = _
    unfold bindL
    exact bindL_get (i := i) (List.nodup_cons.mp nd).2 (by simpa using h1) (by simpa using h2) hk
theorem bindC_get {kindOf : Str → Option NameKind} {x : Str} {v : Value} : ∀ {P : List Str} {vs : List Value} {i : Nat} {m : Str → Option Value}, P.Nodup → P[i]? = some x → vs[i]? = some v → kindOf x ≠ some .local →
    bindC kindOf (P.zip vs) m x = some v
  | [], _, _, _, _, h, _, _ => by simp at h
  | _ :: _, [], _, _, _, _, h, _ => by simp at h
  | p :: P, w :: vs, 0, m, nd, h1, h2, hk => by
    simp at h1 h2; subst h1; subst h2
    show bindC kindOf ((p, w) :: P.zip vs) m p = _
    unfold bindC
    rw [bindC_out fun v hv => (List.nodup_cons.mp nd).1 (List.of_mem_zip hv).1, if_neg hk]
    simp
  | p :: P, w :: vs, i + 1, m, nd, h1, h2, hk => by
    show bindC kindOf ((p, w) :: P.zip vs) m x = _
    unfold bindC
    exact bindC_get (i := i) (List.nodup_cons.mp nd).2 (by simpa using h1) (by simpa using h2) hk
def start (N : List Str) (vs : List V) : St := vs.map some ++ List.replicate (N.length - vs.length) none
def cxOf (CX : CXT) (P : Program) (w : World) (K : PySem.W.Frag) (mg : Str → Option Value) (base : Heap) (N : List Str) (qual : Str) (scope : Scope) (f : Addr) (cd : Value) (A : Around) (outer : List Env) (s : Shared) (H : Hp) (E : XK) : Cx where
  prog := P
  w := w
  K := K
  mg := mg
  base := base
  A := A.deeper (envOfC qual scope s.heap.objs.size f cd)
  N := N
  s₀ := s
  H₀ := H
  env := envOfC qual scope s.heap.objs.size f cd
  outer := outer
  stack := envOfC qual scope s.heap.objs.size f cd :: outer
  ex := []
  calm := true
  fn := fun _ => true
  pn := []
  xe := fun e s' => wpAny (model P w) (A.deeper (envOfC qual scope s.heap.objs.size f cd)) (leaving (envOfC qual scope s.heap.objs.size f cd) e) (fun _ s'' => CX outer H s E e s'') (fun e' s'' => CX outer H s E e' s'') s'
theorem cell_has {sc : Scope} {n : Nat} {x : Str} (h : sc.names.lookup x = some .cell) : ∃ c, (cellsFrom n sc.names []).lookup x = some c := by
  have q := PySem.W.cellsFrom_some sc.names n [] (.inl h)
  exact Option.isSome_iff_exists.mp q
theorem inv_start {CX : CXT} {P : Program} {w : World} {K : PySem.W.Frag} {mg : Str → Option Value} {base : Heap} {N ps : List Str} {qual : Str} {scope : Scope} {f : Addr} {cd : Value} {A : Around} {outer : List Env} {s s1 : Shared} {H : Hp} {E : XK} {us : List Value} {vs : List V}
    (S : FnScope N ps scope) (hd : A.handled = none) (e0 : Env0 P w K mg base A outer s H) (hl : vs.length = ps.length) (r : Vals vs us)
    (x : InCallC s s.heap.objs.size (bindL (envOfC qual scope s.heap.objs.size f cd).kindOf (ps.zip us) fun _ => none) (cellsFrom (s.heap.objs.size + 1) scope.names []) (bindC (envOfC qual scope s.heap.objs.size f cd).kindOf (ps.zip us) fun _ => none) s1) :
    Inv (cxOf CX P w K mg base N qual scope f cd A outer s H E) [] (start N vs) H s1 := by
  have hpl : ps.length ≤ N.length := by have := congrArg List.length S.pre; rw [List.length_take] at this; omega
  obtain ⟨h1, tk, rfl, hk⟩ := x.done
  have noA : ∀ b : Addr, b ∉ (cxOf CX P w K mg base N qual scope f cd A outer s H E).ex := fun b z => absurd (show b ∈ ([] : List Addr) from z) (by simp)
  refine ⟨⟨e0.mod, S.kind, rfl, rfl, Nat.le_refl _, fun y z c h1 h2 => ?_, fun y hy => ?_, fun y c _ h => ?_, fun _ => hd, Around.frames_deeper e0.frames, .inr ⟨rfl, rfl⟩, fun b z => absurd z (noA b), e0.bs, e0.bsz, fun b _ _ => noA b, fun b z => absurd z (noA b), e0.funs, e0.frf⟩,
    rfl, e0.bare, Un.kept hk, ⟨_, x.toInCall.ns, fun i y v h1 h2 h3 => ?_⟩, fun y c h => ⟨_, x.cell y c h⟩, e0.hok.fresh (Nat.le_refl _), fun y c h => ?_, fun p hp => absurd (show p ∈ ([] : List (Addr × Obj)) from hp) (by simp), e0.hok.kept hk, ?_⟩
  · exact name_of_addr x.apart (PySem.mem_of_lookup h1) (PySem.mem_of_lookup h2)
  · have hy : scope.names.lookup y = some .cell ∨ scope.names.lookup y = some .free := hy
    rcases hy with hy | hy
    · exact cell_has hy
    · exact absurd rfl (S.nofree _ (PySem.mem_of_lookup hy))
  · exact Nat.le_of_lt (x.above y c (PySem.mem_of_lookup h))
  · have hi : i < vs.length := by
      unfold start at h2
      by_cases hi : i < vs.length
      · exact hi
      · rw [List.getElem?_append_right (by simpa using hi)] at h2
        rw [List.getElem?_replicate] at h2
        split at h2 <;> cases h2
    have ha : vs[i]? = some v := by
      unfold start at h2
      rw [List.getElem?_append_left (by simpa using hi), List.getElem?_map] at h2
      cases e : vs[i]? with
      | none => rw [e] at h2; cases h2
      | some a => rw [e] at h2; cases h2; rfl
    obtain ⟨u, hu, rv⟩ := r.get ha
    have hp : ps[i]? = some y := by
      rw [← S.pre, List.getElem?_take_of_lt (by omega)]; exact h1
    have ndP : ps.Nodup := by rw [← S.pre]; exact S.nd.sublist (List.take_sublist _ _)
    refine ⟨u, rv, ?_⟩
    rcases S.par y (List.mem_of_getElem? hp) with k | k
    · exact .inl ⟨k, bindL_get ndP hp hu k⟩
    · obtain ⟨c, e⟩ := cell_has (n := s.heap.objs.size + 1) k
      refine .inr ⟨.inl k, c, e, ?_⟩
      have q := x.cell y c e
      rw [bindC_get ndP hp hu (by show scope.names.lookup y ≠ _; rw [k]; decide)] at q
      exact q
  · exact e0.hok.fresh (Nat.le_of_lt (x.above y c (PySem.mem_of_lookup h)))
  · unfold start
    show _ = N.length
    rw [List.length_append, List.length_map, List.length_replicate]
    omega
theorem fn_of {CX : CXT} {P : Program} {w : World} {K : PySem.W.Frag} {mg : Str → Option Value} {base : Heap} {k : Nat} {f : Addr} {name qual : Str} {params : Arguments} {body : List Stmt} {scope : Scope} {dV kV doc pm cdv ct oc : Value} {an od : Option Addr}
    {osl : Array (Option Value)} {N ps : List Str} {sp : Sp} (lk : K.lookup f = some ⟨oc, od, .func (PySem.W.fnOf name qual params body scope dV kV doc pm an cdv ct), osl⟩) (hcd : PySem.W.codeIn K cdv qual = true) (S : FnScope N ps scope)
    (len : ∀ vs H Q E, sp vs H Q E → vs.length = ps.length)
    (hbody : ∀ (A : Around) (outer : List Env) (s : Shared) (H : Hp) (vs : List V) (Q : VK) (E : XK), Room k (A.deeper (envOfC qual scope s.heap.objs.size f cdv)) → sp vs H Q E →
      ∃ t, PSs (cxOf CX P w K mg base N qual scope f cdv A outer s H E) body t ∧ t { nx := fun _ H' => Q .non H', rt := Q } (start N vs) H) :
    FnOk P w K mg base CX (k + 1) f (PySem.W.fnOf name qual params body scope dV kV doc pm an cdv ct) ps sp := by
  refine ⟨len, fun A outer s H args us vs Q E hr e0 hb r hsp => ?_⟩
  have hl := len _ _ _ _ hsp
  have KX : K.In s.heap := e0.mod.kin.keeps fun b o e => (e0.bs b o e).1
  have lim : s.heap.NoLimit := e0.mod.nolimit.keeps fun b o e => (e0.bs b o e).1
  have hkind : ∀ y ∈ ps.zip us, scope.names.lookup y.1 = some .local ∨ (scope.names.lookup y.1 = some .cell ∧ ((cellsFrom (s.heap.objs.size + 1) scope.names []).lookup y.1).isSome = true) := fun ⟨n, v⟩ hy => by
    rcases S.par n (List.of_mem_zip hy).1 with q | q
    · exact .inl q
    · exact .inr ⟨q, PySem.W.cellsFrom_some _ _ _ (.inl q)⟩
  refine codeAny_call_function hr.depth (KX _ _ lk) rfl S.co S.gen rfl (PySem.W.codeRec_of KX hcd) (hb _ _ _ _ ?_)
  refine wpAny_newFunctionEnv_cells S.kind hkind fun env he s1 x => ?_
  subst he
  refine ⟨lim.keeps x.toInCall.keep, codeAny_func ?_⟩
  obtain ⟨t, ht, hq⟩ := hbody A outer s H vs Q E (hr.deeper _) hsp
  have I : Inv (cxOf CX P w K mg base N qual scope f cdv A outer s H E) [] (start N vs) H s1 := inv_start S hr.hd e0 hl r x
  refine wpAny_mono (ht [] s1 (start N vs) H _ I hq) (fun fl s' hs => ?_) fun e s' hs => hs
  have fin : ∀ {σ' : St} {H' : Hp} {v : V} {u : Value}, Inv (cxOf CX P w K mg base N qual scope f cdv A outer s H E) [] σ' H' s' → RelV v u → Q v H' → CE outer P w H s Q u s' :=
    fun {σ' H' v u} J rv q => ⟨v, H', J.os, J.bare, J.base, J.hok, rv, q⟩
  cases fl with
  | ret u =>
    obtain ⟨v, σ', H', J, rv, q⟩ := hs
    exact fin J rv q
  | next =>
    obtain ⟨σ', H', J, q⟩ := hs
    exact fin (v := V.non) (u := Value.none) J rfl q
  | brk =>
    obtain ⟨_, _, _, q⟩ := hs
    exact False.elim q
  | cont =>
    obtain ⟨_, _, _, q⟩ := hs
    exact False.elim q
end L2
namespace L2
open PySem PySem.Spec PyProof.Rows
section
variable {X : Cx} {x : Str} {p pos : Pos} {e : Expr} {es : List Expr} {t : TA} {id T : String} {r : List V → Hp → VK → Prop}
def tCB (r : List V → Hp → VK → Prop) (t : TA) : TE := fun σ H Q => t σ H fun vs H1 => r vs H1 Q
theorem pe_callB (hc : CallR X (.builtin id) r) (hg : Gl X x) (hm : X.mg x = none) (hv : bootBuiltins x = some (.builtin id)) (ha : PA X (e :: es) t) (hn : x ≠ "__name__" := by decide) (hdb : (x == ("__debug__" : Str)) = false := by decide)
    (he : starEach (e :: es) X.env = (false, eval e X.env) :: starEach es X.env := by rfl) (hpl : (backTo pos (starEach es X.env)).any (·.1) = false := by rfl) : PE X (.Call (.Name x p) (e :: es) [] pos) (tCB r t) := by
  intro pins s σ H Q I h
  refine wpAny_Call_Name_kw (ld_blt I hg hm hv ?_ hn hdb)
  exact PyProof.Rows.callWith_builtin1 (thn (ha pos pins s σ H _ I h) fun us s1 ⟨vs, H1, I1, r1, q1⟩ => hc pins s1 σ H1 vs us Q I1 r1 q1) he hpl
theorem pe_callTy (hc : CallR X (.type T) r) (hg : Gl X x) (hm : X.mg x = none) (hv : bootBuiltins x = some (.type T)) (ha : PA X (e :: es) t) (hn : x ≠ "__name__" := by decide) (hdb : (x == ("__debug__" : Str)) = false := by decide)
    (he : starEach (e :: es) X.env = (false, eval e X.env) :: starEach es X.env := by rfl) (hpl : (backTo pos (starEach es X.env)).any (·.1) = false := by rfl) : PE X (.Call (.Name x p) (e :: es) [] pos) (tCB r t) := by
  intro pins s σ H Q I h
  refine wpAny_Call_Name_kw (ld_blt I hg hm hv ?_ hn hdb)
  exact PyProof.Rows.callWith_type1 (thn (ha pos pins s σ H _ I h) fun us s1 ⟨vs, H1, I1, r1, q1⟩ => hc pins s1 σ H1 vs us Q I1 r1 q1) he hpl
end
end L2
namespace HT
open PySem PyProof.Rows
section
open PySem.SeqAt
open PySem.AutoSeq1 (wpAny_loadPart')
open PySem.MeetsSeq PySem.MeetsSeq2 PySem.MeetsSeq3
end
section
variable {prog : Program} {w : World} {A : Around} {E : Value → Shared → Prop} {s : Shared}
def sIx (n d : Nat) : Option Int → Nat
  | none => d
  | some v => if v < 0 then (v + (n : Int)).toNat else min v.toNat n
theorem sIx_none (n d : Nat) : sIx n d none = d := rfl
theorem sIx_nat (n d k : Nat) : sIx n d (some (k : Int)) = min k n := by
  show (if (k : Int) < 0 then ((k : Int) + (n : Int)).toNat else min (k : Int).toNat n) = min k n
  rw [if_neg (by omega), Int.toNat_natCast]
end
end HT
namespace L2
open PySem PySem.Spec PyProof.Rows
abbrev TO := St → Hp → (Option Int → Hp → Prop) → Prop
def PO (X : Cx) (e : Option Expr) (t : TO) : Prop :=
  ∀ (pins : List (Addr × Obj)) (s : Shared) (σ : St) (H : Hp) (Q : Option Int → Hp → Prop), Inv X pins σ H s → t σ H Q →
    wpAny (model X.prog X.w) X.A (evalPart e X.env) (fun u s' => ∃ o H', Inv X pins σ H' s' ∧ IsPart u o ∧ Q o H') X.xe s
def tNoPart : TO := fun _ H Q => Q none H
def tPart (t : TE) : TO := fun σ H Q => t σ H fun x H1 => ∃ i, x = .int i ∧ Q (some i) H1
section
variable {X : Cx} {e : Expr} {te : TE} {lo hi : Option Expr} {tl th : TO} {pos p2 : Pos}
theorem po_none : PO X none tNoPart := by
  intro pins s σ H Q I h
  rw [evalPart_none]
  exact wpAny_pure ⟨none, H, I, .none, h⟩
theorem po_some (h : PE X e te) : PO X (some e) (tPart te) := by
  intro pins s σ H Q I hw
  rw [evalPart_some]
  refine thn (h pins s σ H _ I hw) fun u s1 ⟨x, H1, I1, r1, q1⟩ => ?_
  obtain ⟨i, rfl, q⟩ := q1
  obtain ⟨t, rfl⟩ := r1
  exact ⟨some i, H1, I1, .int i t, q⟩
def SlR (X : Cx) (r : V → Option Int → Option Int → Hp → VK → Prop) : Prop :=
  ∀ (pins : List (Addr × Obj)) (s : Shared) (σ : St) (H : Hp) (x : V) (v vl vu : Value) (lo hi : Option Int) (sl : Addr) (Q : VK), Inv X pins σ H s → RelV x v → s.heap.IsSliceOf sl vl vu .none → IsPart vl lo → IsPart vu hi → r x lo hi H Q →
    ∃ T id, typeLookup (.type T) "__getitem__" = pure (some (.builtin id)) ∧ s.TypeIs v T ∧ wpAny (model X.prog X.w) X.A (getItem v (.ref sl)) (EP X pins σ Q) X.xe s
theorem SlR.or {r r' : V → Option Int → Option Int → Hp → VK → Prop} (h : SlR X r) (h' : SlR X r') : SlR X (fun x lo hi H Q => r x lo hi H Q ∨ r' x lo hi H Q) := by
  intro pins s σ H x v vl vu lo hi sl Q I rx hs pl pu q
  rcases q with q | q
  · exact h pins s σ H x v vl vu lo hi sl Q I rx hs pl pu q
  · exact h' pins s σ H x v vl vu lo hi sl Q I rx hs pl pu q
def tSl (r : V → Option Int → Option Int → Hp → VK → Prop) (te : TE) (tl th : TO) : TE := fun σ H Q => te σ H fun x H1 => tl σ H1 fun l H2 => th σ H2 fun u H3 => r x l u H3 Q
theorem pe_slice {r : V → Option Int → Option Int → Hp → VK → Prop} (hr : SlR X r) (he : PE X e te) (hl : PO X lo tl) (hu : PO X hi th) : PE X (.Subscript e (.Slice lo hi none p2) pos) (tSl r te tl th) := by
  intro pins s σ H Q I h
  refine Subscript_ (thn (he pins s σ H _ I h) fun v s1 ⟨x, H1, I1, r1, q1⟩ => ?_)
  refine wpAny_Slice (thn (hl pins s1 σ H1 _ I1 q1) fun vl s2 ⟨l, H2, I2, pl, q2⟩ => thn (hu pins s2 σ H2 _ I2 q2) fun vu s3 ⟨u, H3, I3, pu, q3⟩ => ?_)
  rw [evalPart_none]
  refine wpAny_pure ?_
  have I4 : Inv X pins σ H3 { s3 with heap := s3.heap.push { cls := .type "slice", data := .fields #[vl, vu, .none] } } := I3.kept (t' := s3.toks) fun b ob q => Heap.get?_push_of_some _ q
  obtain ⟨T, id, hT, ht, hg⟩ := hr pins { s3 with heap := s3.heap.push { cls := .type "slice", data := .fields #[vl, vu, .none] } } σ H3 x v vl vu l u s3.heap.objs.size Q I4 r1 (Heap.IsSliceOf.new ..) pl pu q3
  show wpAny (model X.prog X.w) X.A (subscriptTail e (.Slice lo hi none p2) v (.ref s3.heap.objs.size)) (EP X pins σ Q) X.xe { s3 with heap := s3.heap.push { cls := .type "slice", data := .fields #[vl, vu, .none] } }
  exact tail_any (ops := [.ref s3.heap.objs.size, v]) ht hT hg (by with_unfolding_all rfl)
def cutV (xs : List V) (lo hi : Option Int) : List V := (xs.drop (HT.sIx xs.length 0 lo)).take (HT.sIx xs.length xs.length hi - HT.sIx xs.length 0 lo)
theorem cutV_length (xs : List V) (lo hi : Option Int) : (cutV xs lo hi).length ≤ xs.length := by
  unfold cutV
  rw [List.length_take, List.length_drop]
  omega
end
end L2
namespace L2
open PySem PySem.Spec PyProof.Rows
def ixN (n : Nat) (i : Int) : Option Nat := if 0 ≤ i then (if i < n then some i.toNat else none) else if -(n : Int) ≤ i then some (i + n).toNat else none
def atI {α : Type} (xs : List α) (i : Int) : Option α := (ixN xs.length i).bind fun j => xs[j]?
theorem ixN_seq {n : Nat} {i : Int} {j : Nat} (h : ixN n i = some j) : seqIndex? i n = some j ∧ j < n ∧ -(n : Int) ≤ i ∧ i < n := by
  unfold ixN at h
  by_cases h0 : 0 ≤ i
  · rw [if_pos h0] at h
    by_cases h1 : i < n
    · rw [if_pos h1] at h
      have e : i.toNat = j := Option.some.inj h
      exact ⟨by rw [seqIndex_of h0 h1, e], by omega, by omega, h1⟩
    · rw [if_neg h1] at h; cases h
  · rw [if_neg h0] at h
    by_cases h1 : -(n : Int) ≤ i
    · rw [if_pos h1] at h
      have e : (i + n).toNat = j := Option.some.inj h
      exact ⟨by rw [seqIndex_neg (by omega) h1, e], by omega, h1, by omega⟩
    · rw [if_neg h1] at h; cases h
theorem atI_get {α : Type} {xs : List α} {i : Int} {v : α} (h : atI xs i = some v) : ∃ j, seqIndex? i xs.length = some j ∧ xs[j]? = some v ∧ j < xs.length ∧ -(xs.length : Int) ≤ i ∧ i < xs.length := by
  unfold atI at h
  cases e : ixN xs.length i with
  | none => rw [e] at h; cases h
  | some j =>
    rw [e] at h
    obtain ⟨h1, h2, h3, h4⟩ := ixN_seq e
    exact ⟨j, h1, h, h2, h3, h4⟩
def PlainIx (b : Expr) : Prop := ∀ o i, subscripted b false o i = operate [o, i] (getItem o i)
def IxR (X : Cx) (r : R2) : Prop :=
  ∀ (value slice : Expr) (pins : List (Addr × Obj)) (s : Shared) (σ : St) (H : Hp) (x y : V) (v u : Value) (Q : VK), Inv X pins σ H s → RelV x v → RelV y u → r x y H Q →
    subscripted slice false v u = operate [v, u] (getItem v u) → wpAny (model X.prog X.w) X.A (subscriptTail value slice v u) (EP X pins σ Q) X.xe s
def MtR (X : Cx) (id : String) (r : V → List V → Hp → VK → Prop) : Prop :=
  ∀ (pins : List (Addr × Obj)) (s : Shared) (σ : St) (H : Hp) (x : V) (xs : List V) (v : Value) (us : List Value) (Q : VK), Inv X pins σ H s → RelV x v → Vals xs us → r x xs H Q →
    wpAny (model X.prog X.w) X.A (call (.builtin id) (v :: us)) (EP X pins σ Q) X.xe s
section
variable {X : Cx} {a b : Expr} {ta tb : TE} {pos : Pos}
theorem IxR.or {r r' : R2} (h : IxR X r) (h' : IxR X r') : IxR X (fun x y H Q => r x y H Q ∨ r' x y H Q) := by
  intro value slice pins s σ H x y v u Q I rx ry q hs
  rcases q with q | q
  · exact h value slice pins s σ H x y v u Q I rx ry q hs
  · exact h' value slice pins s σ H x y v u Q I rx ry q hs
theorem MtR.or {id : String} {r r' : V → List V → Hp → VK → Prop} (h : MtR X id r) (h' : MtR X id r') : MtR X id (fun x xs H Q => r x xs H Q ∨ r' x xs H Q) := by
  intro pins s σ H x xs v us Q I rx rs q
  rcases q with q | q
  · exact h pins s σ H x xs v us Q I rx rs q
  · exact h' pins s σ H x xs v us Q I rx rs q
theorem pe_ix {r : R2} (hr : IxR X r) (ha : PE X a ta) (hb : PE X b tb) (hs : PlainIx b) : PE X (.Subscript a b pos) (tOp r ta tb) := by
  intro pins s σ H Q I h
  exact Subscript_ (binT ha hb I h fun v u s2 x y H2 I2 rx ry q => hr a b pins s2 σ H2 x y v u Q I2 rx ry q (hs _ _))
def rIxL (K : PySem.W.Frag) : R2 := fun x y H Q => ∃ p xs i v, x = .ref p ∧ y = .int i ∧ SqL K H p xs ∧ atI xs i = some v ∧ Q v H
def rIxT (K : PySem.W.Frag) : R2 := fun x y H Q => ∃ p xs i v, x = .ref p ∧ y = .int i ∧ SqT K H p xs ∧ atI xs i = some v ∧ Q v H
def rIxS : R2 := fun x y H Q => ∃ z i c, x = .str z ∧ y = .int i ∧ z.length ≤ sizeLine ∧ atI z.cps.toList i = some c ∧ Q (.str ⟨#[c]⟩) H
theorem ix_list : IxR X (rIxL X.K) := by
  intro value slice pins s σ H x y v u Q I rx ry h hs
  obtain ⟨p, xs, i, z, rfl, rfl, hq, he, q⟩ := h
  cases rx
  obtain ⟨t, rfl⟩ := ry
  obtain ⟨its, r, pl, hz⟩ := I.list hq
  obtain ⟨j, h1, h2, h3, h4, h5⟩ := atI_get he
  obtain ⟨w, ew, rw'⟩ := r.get h2
  have hl := r.length
  have hn := line63
  have fin : EP X pins σ Q w s := ⟨z, H, I, rw', q⟩
  by_cases h0 : 0 ≤ i
  · have hj : i.toNat = j := by
      rw [seqIndex_of h0 h5] at h1
      exact Option.some.inj h1
    exact item_listR pl.isList h0 (by omega) (by rw [hj]; simpa using ew) fin hs
  · have hj : (i + (its.toArray.size : Int)).toNat = j := by
      rw [seqIndex_neg (by omega) h4] at h1
      rw [List.size_toArray, ← hl]
      exact Option.some.inj h1
    exact subscriptTail_builtinR (x := w) pl.isList.typeIs slot_list_getitem.lookup
      (wpAny_getItem_list_neg (Q := fun r s' => r = w ∧ EP X pins σ Q r s') pl.isList (by omega) (by rw [List.size_toArray] <;> omega) (by omega) (by rw [hj]; simpa using ew) ⟨rfl, fin⟩) hs
theorem ix_tup : IxR X (rIxT X.K) := by
  intro value slice pins s σ H x y v u Q I rx ry h hs
  obtain ⟨p, xs, i, z, rfl, rfl, hq, he, q⟩ := h
  cases rx
  obtain ⟨t, rfl⟩ := ry
  obtain ⟨its, r, pl, hz⟩ := I.tuple hq
  obtain ⟨j, h1, h2, h3, h4, h5⟩ := atI_get he
  obtain ⟨w, ew, rw'⟩ := r.get h2
  have hl := r.length
  have hn := line63
  have fin : EP X pins σ Q w s := ⟨z, H, I, rw', q⟩
  exact subscriptTail_builtinR (x := w) pl.typeIs slot_tuple_getitem.lookup
    (getItem_tuple (j := j) (Q := fun r s' => r = w ∧ EP X pins σ Q r s') pl (by omega) (by omega) (by rw [List.size_toArray, ← hl]; exact h1) (by simpa using ew) ⟨rfl, fin⟩) hs
theorem ix_str : IxR X rIxS := by
  intro value slice pins s σ H x y v u Q I rx ry h hs
  obtain ⟨z, i, c, rfl, rfl, hz, he, q⟩ := h
  obtain ⟨t, rfl⟩ := rx
  obtain ⟨t', rfl⟩ := ry
  obtain ⟨j, h1, h2, h3, h4, h5⟩ := atI_get he
  have hl : z.cps.toList.length = z.length := by simp [Str.length]
  rw [hl] at h1 h4 h5
  have hn := line63
  exact tail_any (typeIs_str s z t) slot_str_getitem.lookup (getItem_str (c := c) (by
    have e1 : decide (i < -(2 ^ 63 : Int)) = false := decide_eq_false (by omega)
    have e2 : decide (i ≥ 2 ^ 63) = false := decide_eq_false (by omega)
    rw [e1, e2, Bool.or_false]) (by rw [h1]; simpa using h2) ⟨.str ⟨#[c]⟩, H, I.tok _, ⟨_, rfl⟩, q⟩) hs
def rIx (K : PySem.W.Frag) : R2 := fun x y H Q => rIxL K x y H Q ∨ rIxT K x y H Q ∨ rIxS x y H Q
theorem ix_seq : IxR X (rIx X.K) := ix_list.or (ix_tup.or ix_str)
theorem Inv.lst {pins : List (Addr × Obj)} {σ : St} {H : Hp} {s : Shared} {p : Addr} {xs : List V} (I : Inv X pins σ H s) (h : H p = some (.lst xs)) :
    ∃ (its : List Value) (n : Nat), Vals xs its ∧ s.heap.get? p = some { cls := .type "list", data := .seq its.toArray n } ∧ xs.length ≤ sizeLine := by
  obtain ⟨z, its, n, r, e⟩ := I.hok p _ h
  exact ⟨its, n, r, e, z⟩
theorem slice_bounds (lo hi : Option Int) (n : Nat) : (sliceBounds lo hi none n).1 = ((HT.sIx n 0 lo : Nat) : Int) ∧ (sliceBounds lo hi none n).2.1 = ((HT.sIx n n hi : Nat) : Int) ∧ (sliceBounds lo hi none n).2.2 = 1 := by
  refine ⟨?_, ?_, rfl⟩
  · cases lo with
    | none => simp [sliceBounds, HT.sIx]
    | some i =>
      simp only [sliceBounds, HT.sIx, Option.getD_none, show (1 : Int) > 0 by decide, if_true]
      by_cases h : i < 0
      · simp only [h, if_true] <;> omega
      · simp only [h, if_false] <;> omega
  · cases hi with
    | none => simp [sliceBounds, HT.sIx]
    | some i =>
      simp only [sliceBounds, HT.sIx, Option.getD_none, show (1 : Int) > 0 by decide, if_true]
      by_cases h : i < 0
      · simp only [h, if_true] <;> omega
      · simp only [h, if_false] <;> omega
theorem slicePick_cut (its : List Value) (lo hi : Option Int) : slicePick its.toArray lo hi none = ((its.drop (HT.sIx its.length 0 lo)).take (HT.sIx its.length its.length hi - HT.sIx its.length 0 lo)).toArray := by
  obtain ⟨h1, h2, h3⟩ := slice_bounds lo hi its.toArray.size
  unfold slicePick
  rw [h1, h2, h3]
  simp only [sliceRange_one, pick_run, List.size_toArray] <;> rfl
def rSlL (K : PySem.W.Frag) : V → Option Int → Option Int → Hp → VK → Prop := fun x lo hi H Q => ∃ a xs, x = .ref a ∧ SqL K H a xs ∧ ∀ p, H p = none → Q (.ref p) (upd H p (.lst (cutV xs lo hi)))
theorem sl_list : SlR X (rSlL X.K) := by
  intro pins s σ H x v vl vu lo hi sl Q I rx hs pl pu h
  obtain ⟨a, xs, rfl, hx, q⟩ := h
  cases rx
  obtain ⟨its, r, ht, hz⟩ := I.list hx
  have hlen := r.length
  refine ⟨"list", _, slot_list_getitem.lookup, ht.isList.typeIs, ?_⟩
  refine wpAny_getItem_list_slice ht.isList hs pl pu .none (by simp) ?_ (by rw [List.size_toArray] <;> omega)
  rw [slicePick_cut, ← hlen]
  refine ⟨.ref s.heap.objs.size, _, I.laid (t' := s.toks) (o := .lst (cutV xs lo hi)) (fun b ob q => Heap.get?_push_of_some _ q) (Nat.le_refl _) ?_, rfl, q _ (I.hok.fresh (Nat.le_refl _))⟩
  exact ⟨Nat.le_trans (cutV_length xs lo hi) hz, _, 0, (r.drop (HT.sIx xs.length 0 lo)).take (HT.sIx xs.length xs.length hi - HT.sIx xs.length 0 lo), Heap.get?_push_size _ rfl⟩
theorem CallR.or {f : Value} {r r' : List V → Hp → VK → Prop} (h : CallR X f r) (h' : CallR X f r') : CallR X f (fun xs H Q => r xs H Q ∨ r' xs H Q) := by
  intro pins s σ H xs us Q I rs q
  rcases q with q | q
  · exact h pins s σ H xs us Q I rs q
  · exact h' pins s σ H xs us Q I rs q
theorem call_list_of : CallR X (.type "list") (fun xs H Q => ∃ p ys, xs = [.ref p] ∧ (SqL X.K H p ys ∨ SqT X.K H p ys) ∧ ∀ l, H l = none → Q (.ref l) (upd H l (.lst ys))) := by
  intro pins s σ H xs us Q I r h
  obtain ⟨p, ys, rfl, hq, q⟩ := h
  obtain ⟨u, rfl, rx⟩ := vals1 r
  cases rx
  have fin : ∀ (its : List Value), Vals ys its → ys.length ≤ sizeLine → ∀ (h' : Heap) (c' : Nat), (∀ b o', s.heap.get? b = some o' → h'.get? b = some o') →
      h'.get? s.heap.objs.size = some { cls := .type "list", dict := none, data := .seq its.toArray c', slots := #[] } → EP X pins σ Q (.ref s.heap.objs.size) { s with heap := h' } := fun its r' hz h' c' kp e =>
    ⟨.ref s.heap.objs.size, _, I.laid (t' := s.toks) kp (Nat.le_refl _) (show ObjOk X.prog X.w _ h' _ (.lst ys) from ⟨hz, its, c', r', e⟩), rfl, q _ (I.hok.fresh (Nat.le_refl _))⟩
  rcases hq with hq | hq
  · obtain ⟨its, r', pl, hz⟩ := I.list hq
    have hlen := r'.length
    obtain ⟨o, ho, hc, n, hd⟩ := pl.isList
    exact call_list_seq p (.inl rfl) ho hc hd (fun h' c' kp e => fin its r' hz h' c' kp e) (by simp only [List.size_toArray] <;> omega)
  · obtain ⟨its, r', pl, hz⟩ := I.tuple hq
    have hlen := r'.length
    obtain ⟨o, ho, hc, n, hd⟩ := pl
    exact call_list_seq p (.inr rfl) ho hc hd (fun h' c' kp e => fin its r' hz h' c' kp e) (by simp only [List.size_toArray] <;> omega)
def tyV (K : PySem.W.Frag) (T : String) (x : V) (H : Hp) : Prop := match x with
  | .str _ => T = "str"
  | .int _ => T = "int"
  | .ref p => (T = "list" ∧ ∃ xs, SqL K H p xs) ∨ (T = "tuple" ∧ ∃ o, K.lookup p = some o ∧ o.cls = .type "tuple" ∧ o.dict = none) ∨
      (T = "dict" ∧ ((∃ kvs, H p = some (.dK kvs)) ∨ ∃ kvs, H p = some (.dT kvs))) ∨ (T = "set" ∧ ∃ S n, H p = some (.set S n))
  | _ => False
theorem tyV_is {pins : List (Addr × Obj)} {σ : St} {H : Hp} {s : Shared} {T : String} {x : V} {v : Value} (I : Inv X pins σ H s) (r : RelV x v) (ty : tyV X.K T x H) :
    s.TypeIs v T ∧ ∀ a, v = .ref a → ∃ ob, s.heap.get? a = some ob ∧ ob.dict = none := by
  cases x with
  | str z =>
    obtain ⟨t, rfl⟩ := r
    cases (show T = "str" from ty)
    exact ⟨typeIs_str s z t, fun _ e => nomatch e⟩
  | int i =>
    obtain ⟨t, rfl⟩ := r
    cases (show T = "int" from ty)
    exact ⟨typeIs_int s i t, fun _ e => nomatch e⟩
  | ref p =>
    cases r
    rcases ty with ⟨rfl, xs, hq⟩ | ⟨rfl, o, hk, hc, hd⟩ | ⟨rfl, hk⟩ | ⟨rfl, S, n, hk⟩
    · obtain ⟨its, _, pl, _⟩ := I.list hq
      refine ⟨pl.isList.typeIs, fun a e => ?_⟩
      cases e
      obtain ⟨o, n, e, c, hd, _⟩ := pl
      exact ⟨o, e, hd⟩
    · refine ⟨⟨o, I.kIn p o hk, hc⟩, fun a e => ?_⟩
      cases e
      exact ⟨o, I.kIn _ o hk, hd⟩
    · have z : ∃ o, s.heap.get? p = some o ∧ o.ExactDict := by
        rcases hk with ⟨kvs, hk⟩ | ⟨kvs, hk⟩
        · obtain ⟨_, _, _, _, o, _, _, e, ex, _⟩ := I.hok p _ hk
          exact ⟨o, e, ex⟩
        · obtain ⟨_, _, _, _, o, _, _, e, ex, _⟩ := I.hok p _ hk
          exact ⟨o, e, ex⟩
      obtain ⟨o, e, ex⟩ := z
      refine ⟨⟨o, e, ex.1⟩, fun a e2 => ?_⟩
      cases e2
      exact ⟨o, e, ex.2.1⟩
    · obtain ⟨o, _, _, _, e, ex, _⟩ := I.hok p _ hk
      refine ⟨⟨o, e, ex.1⟩, fun a e2 => ?_⟩
      cases e2
      exact ⟨o, e, ex.2.1⟩
  | _ => exact False.elim ty
def tBM (K : PySem.W.Frag) (T : String) (r : V → List V → Hp → VK → Prop) (to : TE) (t : TA) : TE := fun σ H Q => to σ H fun x H1 => tyV K T x H1 ∧ t σ H1 fun xs H2 => r x xs H2 Q
variable {o e : Expr} {es : List Expr} {to : TE} {t : TA} {name : Str} {apos cpos : Pos} {T id : String} {r : V → List V → Hp → VK → Prop}
theorem pe_bm (pa : PlainAttrs T) (slot : Slot T name id) (hty : typeOf (.builtin id) = pure (.type "method_descriptor")) (hm : MtR X id r) (ho : PE X o to) (ha : PA X (e :: es) t)
    (hbase : attributeBase o name X.env (eval o X.env) = eval o X.env := by rfl)
    (hfew : ((backTo cpos (starEach (e :: es) X.env)).all (fun x => !x.1) && (backToKw cpos (keywordEach [] X.env)).all (fun x => x.1.isSome)
      && decide ((e :: es).length + ([] : List Keyword).length + (if ([] : List Keyword).isEmpty then 0 else 1) < 30)) = true := by rfl)
    (hline : (apos.endLine == cpos.line) = true := by rfl) (hs : starEach (e :: es) X.env = (false, eval e X.env) :: starEach es X.env := by rfl) (hplain : (backTo cpos (starEach es X.env)).any (·.1) = false := by rfl) :
    PE X (.Call (.Attribute o name apos) (e :: es) [] cpos) (tBM X.K T r to t) := by
  intro pins s σ H Q I h
  refine wpAny_Call_method_late hbase hfew hline rfl (thn (ho pins s σ H _ I h) fun v s1 ⟨x, H1, I1, r1, ty, q1⟩ => ?_)
  obtain ⟨h1, h2⟩ := tyV_is I1 r1 ty
  refine ⟨T, id, pa, slot, hty, h1, h2, ?_⟩
  have hA := ha cpos pins s1 σ H1 _ I1 q1
  rw [hs] at hA ⊢
  refine Calls.callWith_builtin (by show (false || (backTo cpos (starEach es X.env)).any (·.1)) = false; rw [hplain] <;> rfl) (Calls.evalArgs_plain ?_)
  exact thn hA fun us s2 ⟨vs, H2, I2, r2, q2⟩ => hm pins s2 σ H2 x vs v us Q I2 r1 r2 q2
end
end L2
namespace L2
open PySem PySem.Spec PyProof.Rows
def MtM (X : Cx) (id : String) (r : V → List V → Hp → VK → Prop) : Prop :=
  ∀ (pins : List (Addr × Obj)) (s : Shared) (σ : St) (H : Hp) (x : V) (xs : List V) (v : Value) (us : List Value) (Q : VK), Inv X pins σ H s → RelV x v → Vals xs us → r x xs H Q →
    wpAny (model X.prog X.w) X.A (call (.builtin id) (v :: us)) (EP X pins σ Q) X.xe s
theorem Vals.one : ∀ {x : V} {us : List Value}, Vals [x] us → ∃ u, us = [u] ∧ RelV x u
  | _, _, .cons r .nil => ⟨_, rfl, r⟩
theorem Vals.zero : ∀ {us : List Value}, Vals [] us → us = []
  | _, .nil => rfl
theorem Vals.eraseIdx : ∀ {xs : List V} {us : List Value} (i : Nat), Vals xs us → Vals (xs.eraseIdx i) (us.eraseIdx i)
  | _, _, _, .nil => .nil
  | _, _, 0, .cons _ t => t
  | _, _, i + 1, .cons r t => .cons r (Vals.eraseIdx i t)
section
variable {X : Cx} {pins : List (Addr × Obj)} {σ : St} {H : Hp} {s : Shared} {l b : Addr} {xs ys zs : List V}
theorem Inv.lset {its its' : List Value} {n : Nat} {f : Array Value → Array Value} {t' : Nat} (I : Inv X pins σ H s) (hH : H l = some (.lst xs))
    (e : s.heap.get? l = some { cls := .type "list", data := .seq its.toArray n }) (hf : f its.toArray = its'.toArray) (hv : Vals ys its') (hz : ys.length ≤ sizeLine) :
    Inv X pins σ (upd H l (.lst ys)) { s with heap := s.heap.update l (Obj.mapSeq f), toks := t' } := by
  have q := PySem.IsL.update e f
  rw [hf] at q
  refine I.write (x := l) (e := l) (by rw [hH]; exact trivial) (.inl rfl) (fun b' u hb hu => (Heap.get?_update_other s.heap (Obj.mapSeq f) (Ne.symm hb)).trans hu) ⟨_, q⟩ ?_
  exact ⟨hz, its', _, hv, q⟩
theorem Inv.lnew {its : List Value} {t' : Nat} (I : Inv X pins σ H s) (hv : Vals ys its) (hz : ys.length ≤ sizeLine) :
    Inv X pins σ (upd H s.heap.objs.size (.lst ys)) { s with heap := s.heap.push { cls := .type "list", data := .seq its.toArray }, toks := t' } :=
  I.laid (fun _ _ q => Heap.get?_push_of_some _ q) (Nat.le_refl _) ⟨hz, its, 0, hv, Heap.get?_push_size _ rfl⟩
theorem Inv.fresh (I : Inv X pins σ H s) : H s.heap.objs.size = none := I.hok.fresh (Nat.le_refl _)
theorem Inv.lstM (I : Inv X pins σ H s) (hH : H l = some (.lst xs)) : xs.length ≤ sizeLine ∧ ∃ (its : List Value) (n : Nat), Vals xs its ∧ xs.length = its.length ∧ s.heap.get? l = some { cls := .type "list", data := .seq its.toArray n } := by
  obtain ⟨z, its, n, r, e⟩ := I.hok l _ hH
  exact ⟨z, its, n, r, r.length, e⟩
end
section
variable {X : Cx}
def rAppend : V → List V → Hp → VK → Prop := fun x vs H Q => ∃ l xs y, x = .ref l ∧ vs = [y] ∧ H l = some (.lst xs) ∧ xs.length < sizeLine ∧ Q .non (upd H l (.lst (xs ++ [y])))
theorem mt_append : MtM X "list.append" rAppend := by
  intro pins s σ H x vs v us Q I rx rv h
  obtain ⟨l, xs, y, rfl, rfl, hH, hz, q⟩ := h
  cases rx
  obtain ⟨u, rfl, ru⟩ := rv.one
  obtain ⟨z, its, n, r, hl, e⟩ := I.lstM hH
  refine call_meets F.slot_list_append ⟨_, e, rfl⟩ F.entry_list_append (F.args_list_append_2 _ _) (PySem.list_append l its.toArray n u (by rw [List.size_toArray]; omega)) ⟨e, ?_⟩
  refine ⟨.non, _, I.lset (its' := its ++ [u]) hH e (by simp) (r.append (.cons ru .nil)) ?_, rfl, q⟩
  rw [List.length_append, List.length_singleton]
  omega
end
section
variable {prog : Program} {w : World} {A : Around} {E : Value → Shared → Prop} {s : Shared}
end
section
variable {X : Cx}
end
end L2
namespace Att
open PySem PySem.W PySem.Calls PyProof.Rows
theorem ints_of_wellAll {P : Params} {h : Heap} : ∀ (ns : List Int) (vs : List Value), WellAll P h vs (ns.map WData.int) → IntsAre vs ns := by
  intro ns
  induction ns with
  | nil =>
    intro vs w
    rw [List.map_nil] at w
    cases w
    exact .nil
  | cons n ns ih =>
    intro vs w
    rw [List.map_cons] at w
    cases w with
    | cons a b =>
      cases a
      exact .cons _ _ (ih _ b)
theorem script_of {l : OpenLaw} {n : Nat} (hn : l.most = some n) {P : Params} {h : Heap} {args : List WData} {vals : List Value}
    (hpre : l.row.toRowW.claim.pre args = true) (hwl : WellAll P h vals args) :
    ∃ a vs ns, vals = [Value.ref a] ∧ args = [WData.list (ns.map WData.int)] ∧ h.get? a = some { cls := .type "list", data := .seq vs.toArray } ∧ IntsAre vs ns ∧ ns.length ≤ n := by
  have hsh : WShape.hasAll [] args [.list .int] = true := (pre_splitW hpre).1
  have hc : l.pre.holds [] { args := args } = true := (pre_splitW hpre).2
  obtain ⟨d, r, rfl, h1, h2⟩ := hasAllW_cons hsh
  obtain rfl := hasAllW_nil h2
  obtain ⟨xs, rfl, h3⟩ := hasW_list h1
  obtain ⟨ns, rfl⟩ := items_int h3
  have hlen : ns.length ≤ n := by
    unfold OpenLaw.pre at hc
    have h4 : (WTm.not (.lt (.lit (.int (n : Int))) (.len (.arg 0)))).holds [] { args := [.list (ns.map .int)] } = true := by
      have h4 := (holds_andW hc).1
      rw [hn] at h4
      exact h4
    have h5 := condW_of h4 (w_not (w_lt w_lit (w_len_list (w_arg rfl))))
    rw [List.length_map] at h5
    refine Nat.le_of_not_lt fun q => ?_
    have q' : (n : Int) < ((ns.length : Nat) : Int) := by omega
    first
      | (rw [decide_eq_true q'] at h5; exact absurd h5 (by decide))
      | (simp at h5; omega)
  cases hwl with
  | cons w1 w2 =>
    cases w2
    cases w1 with
    | list ho hall => exact ⟨_, _, ns, rfl, rfl, ho, ints_of_wellAll ns _ hall, hlen⟩
theorem post_true (l : OpenLaw) (args : List WData) : l.row.toRowW.claim.post args (.bool true) args = true :=
  postW_of (r := l.row.toRowW) (X := (true == true))
    (show WShape.has [] (.bool true) .bool = true by first | rfl | decide | simp [WShape.has, WShape.arms, WShape.armsAll])
    (show (WTm.eq .res (.lit (.bool true))).value [] { args := args, res := some (.bool true), after := args } = some (.bool (true == true)) from w_eq_bool (w_res rfl) w_lit) rfl
section
variable {prog : Program} {w : World} {A : Around} {E : Value → Shared → Prop} {s : Shared} {K : Frag}
end
end Att
namespace L2
open PySem PySem.Spec PyProof.Rows
theorem vals_ints : ∀ {vs : List Value} {ns : List Int}, IntsAre vs ns → Vals (ns.map V.int) vs
  | _, _, .nil => .nil
  | _, _, .cons n t h => .cons ⟨t, rfl⟩ (vals_ints h)
def Only (H : Hp) : Prop := ∀ b, H b = none ∨ ∃ o xs, H b = some (.frz o (.lst xs))
theorem law_call {P : Program} {w : World} {K : PySem.W.Frag} {mg mb : Str → Option Value} {CX : CXT} {k : Nat} {fa a : Addr} {fd : FuncData} {x : Str} {sp : Sp} {s₁ : Shared} {vs : List Value} {ns : List Int}
    (KX : K.In s₁.heap) (hns : s₁.heap.Ns mainGlobals mg) (hb : s₁.heap.Ns builtinsNs mb) (hbb : ∀ x : Str, x ≠ "__name__" → mb x = bootBuiltins x) (hlim : s₁.heap.NoLimit) (hseer : s₁.heap.NoSeer) (hg : s₁.gens = #[])
    (ha : s₁.heap.get? a = some { cls := .type "list", data := .seq vs.toArray }) (hi : IntsAre vs ns) (hl : ns.length ≤ sizeLine) (hr : Room k callerA)
    (F : ∀ base : Heap, K.In base → base.Ns mainGlobals mg → FnOk P w K mg base CX k fa fd [x] sp) (hbind : ∀ (s : Shared) (u : Value), BindsTo s fd ⟨[u], []⟩ [(x, u)])
    (hsp : ∀ H : Hp, Only H → SqL K H a (ns.map V.int) → sp [.ref a] H (fun v _ => v = .bl true) fun _ _ _ => False)
    (hCX : ∀ H e s', CX [] H s₁ (fun _ _ _ => False) e s' → False) :
    codeAny (model P w) callerA (.call (.ref fa) ⟨[.ref a], []⟩) (fun r s' => r = .ok (.ret (.bool true)) ∧ OldK s₁.heap s'.heap ∧ s'.os = s₁.os ∧ AllBare s'.gens) s₁ := by
  have rv := vals_ints hi
  have lenV := hi.length
  have core : ∀ H : Hp, Only H → SqL K H a (ns.map V.int) → HOk P w H s₁.heap → (∀ b, H b ≠ none → b = a) → (H a ≠ none → K.lookup a = none) →
      codeAny (model P w) callerA (.call (.ref fa) ⟨[.ref a], []⟩) (fun r s' => r = .ok (.ret (.bool true)) ∧ OldK s₁.heap s'.heap ∧ s'.os = s₁.os ∧ AllBare s'.gens) s₁ := by
    intro H hO hS hok hA hK
    have base_of : ∀ {b : Addr} {o : Obj}, s₁.heap.get? b = some o → H b = none → (hidT s₁.heap H).get? b = some o := fun e n => hidT_get e n
    have noA : ∀ {b : Addr} {o : Obj} {es : Array DictEntry} {ep : Nat}, s₁.heap.get? b = some o → o.data = .dict es ep → H b = none := fun {b o es ep} e d => by
      cases q : H b with
      | none => rfl
      | some u =>
        have e' : b = a := hA b (by rw [q]; simp)
        subst e'
        rw [ha] at e; cases e
        have d' : Data.seq vs.toArray _ = Data.dict es ep := d
        cases d'
    have nsK : ∀ {b : Addr} {m : Str → Option Value}, s₁.heap.Ns b m → (hidT s₁.heap H).Ns b m := fun {b m} ⟨o, es, ep, e, d, r⟩ => ⟨o, es, ep, base_of e (noA e d), d, r⟩
    have hKb : K.In (hidT s₁.heap H) := fun b o e => base_of (KX b o e) (by
      cases q : H b with
      | none => rfl
      | some u =>
        have e' : b = a := hA b (by rw [q]; simp)
        subst e'
        rw [hK (by rw [q]; simp)] at e; cases e)
    have noM : ∀ {b : Addr} {o : Obj}, s₁.heap.get? b = some o → o.cls = .type "module" → H b = none := fun {b o} e d => by
      cases q : H b with
      | none => rfl
      | some u =>
        have e' : b = a := hA b (by rw [q]; simp)
        subst e'
        rw [ha] at e; cases e
        exact absurd (show Value.type "list" = Value.type "module" from d) (by decide)
    have hN : (hidT s₁.heap H).NoSeer := ⟨let ⟨mc, x, y⟩ := hseer.statics; ⟨mc, nsK x, y⟩, let ⟨mc, x, y⟩ := hseer.mods; ⟨mc, nsK x, y⟩, let ⟨mc, x, y⟩ := hseer.imp; ⟨mc, nsK x, y⟩, let ⟨mg', bm, ob, x, y, z, u, v⟩ := hseer.main; ⟨mg', bm, ob, nsK x, y, base_of z (noM z u), u, v⟩⟩
    have hM : Mod K mg (hidT s₁.heap H) := ⟨hKb, nsK hns, ⟨mb, nsK hb, hbb⟩, (let ⟨mc, h1, h2⟩ := hlim; ⟨mc, nsK h1, h2⟩), hN⟩
    have e0 : Env0 P w K mg (hidT s₁.heap H) callerA [] s₁ H := ⟨rfl, hM, fun b o e => of_hidT e, Nat.le_of_eq (hidT_size _ _), trivial, fun b hb => absurd (show b ∈ ([] : List Addr) from hb) (by simp), hok, .of_eq hg⟩
    refine codeAny_mono ((F _ hKb (nsK hns)).run callerA [] s₁ H ⟨[.ref a], []⟩ [.ref a] [.ref a] _ _ hr e0 (hbind s₁ (.ref a)) (.cons rfl .nil) (hsp H hO hS)) fun r s' h => ?_
    cases r with
    | error e => exact (hCX H e s' h).elim
    | ok fl =>
      cases fl with
      | next => exact False.elim h
      | brk => exact False.elim h
      | cont => exact False.elim h
      | ret u =>
        obtain ⟨v, H', os, bare, un, hok', r', q⟩ := h
        have q' : v = .bl true := q
        subst q'
        obtain rfl : u = Value.bool true := r'
        refine ⟨rfl, OldK.of_keep fun b o e => ?_, os, bare⟩
        cases q : H b with
        | none => exact un.keep b o e q (by intro z; exact absurd (show b ∈ ([] : List Addr) from z) (by simp)) (by simp)
        | some u =>
          rcases hO b with z | ⟨ob, xs, z⟩
          · rw [q] at z; cases z
          · have z2 := un.frzs b ob _ z
            obtain ⟨e1, _⟩ := hok b _ z
            obtain ⟨e2, _⟩ := hok' b _ z2
            rw [e] at e1; cases e1
            exact e2
  cases hk : K.lookup a with
  | some o =>
    have e := KX a o hk
    rw [ha] at e
    cases e
    refine core (fun _ => none) (fun _ => .inl rfl) (.inr ⟨_, vs.toArray, _, hk, rfl, rfl, rfl, by rw [List.size_toArray, lenV]; exact hl, by simpa using rv⟩) (fun b u z => by have z' : (none : Option HO) = some u := z; cases z') (fun b z => absurd rfl z) fun z => absurd rfl z
  | none =>
    refine core (fun b => if b = a then some (.frz { cls := .type "list", data := .seq vs.toArray } (.lst (ns.map V.int))) else none) (fun b => ?_) (.inl (.inr ⟨{ cls := .type "list", data := .seq vs.toArray }, if_pos rfl⟩)) (fun b u z => ?_) (fun b z => ?_) fun _ => hk
    · by_cases hb : b = a
      · exact .inr ⟨_, _, if_pos hb⟩
      · exact .inl (if_neg hb)
    · by_cases hb : b = a
      · have z' := (if_pos hb).symm.trans z
        cases z'
        subst hb
        exact ⟨ha, by rw [List.length_map]; exact hl, vs, _, rv, ha⟩
      · have z' := (if_neg hb).symm.trans z
        cases z'
    · by_cases hb : b = a
      · exact hb
      · exact absurd (if_neg hb) z
end L2
namespace L2
open PySem PySem.Spec PyProof.Rows
end L2
namespace L2
open PySem PySem.Spec PyProof.Rows
def defArgs (s : Stmt) : Arguments := match s with
  | .FunctionDef _ a _ _ _ _ _ _ _ _ => a
  | _ => { posonlyargs := [], args := [], vararg := none, kwonlyargs := [], kw_defaults := [], kwarg := none, defaults := [] }
def defBody (s : Stmt) : List Stmt := match s with
  | .FunctionDef _ _ b _ _ _ _ _ _ _ => b
  | _ => []
def defScope (s : Stmt) : Scope := match s with
  | .FunctionDef _ _ _ _ _ _ sc _ _ _ => sc
  | _ => { kind := .function, names := [], isGenerator := false, isCoroutine := false }
abbrev CX0 : CXT := fun _ _ _ _ _ _ => False
abbrev E0 : XK := fun _ _ _ => False
structure Fun (K : PySem.W.Frag) (x qual : Str) (st : Stmt) (f : Addr) (fd : FuncData) : Prop where
  ex : ∃ (oc : Value) (od : Option Addr) (kV doc pm : Value) (an : Option Addr) (cdv ct : Value) (osl : Array (Option Value)),
    fd = PySem.W.fnOf x qual (defArgs st) (defBody st) (defScope st) .none kV doc pm an cdv ct ∧ K.lookup f = some ⟨oc, od, .func fd, osl⟩ ∧ PySem.W.codeIn K cdv qual = true
  kp : PySem.W.keepIn K (.ref f) = true
section
variable {P : Program} {w : World} {K : PySem.W.Frag} {mg : Str → Option Value} {base : Heap}
theorem Fun.ok {x qual : Str} {st : Stmt} {f : Addr} {fd : FuncData} {N ps : List Str} {k : Nat} {sp : Sp} (F : Fun K x qual st f fd) (S : FnScope N ps (defScope st)) (len : ∀ vs H Q E, sp vs H Q E → vs.length = ps.length)
    (hbody : ∀ (cdv : Value) (A : Around) (outer : List Env) (s : Shared) (H : Hp) (vs : List V) (Q : VK) (E : XK), Room k (A.deeper (envOfC qual (defScope st) s.heap.objs.size f cdv)) → sp vs H Q E →
      ∃ t, PSs (cxOf CX0 P w K mg base N qual (defScope st) f cdv A outer s H E).nox (defBody st) t ∧ t { nx := fun _ H' => Q .non H', rt := Q } (start N vs) H) : FnOk P w K mg base CX0 (k + 1) f fd ps sp := by
  obtain ⟨oc, od, kV, doc, pm, an, cdv, ct, osl, rfl, lk, hcd⟩ := F.ex
  refine fn_of lk hcd S len fun A outer s H vs Q E hr hsp => ?_
  obtain ⟨t, h, q⟩ := hbody cdv A outer s H vs Q E hr hsp
  exact ⟨t, h.nox, q⟩
theorem Fun.binds {x qual : Str} {st : Stmt} {f : Addr} {fd : FuncData} {ps : List Str} (F : Fun K x qual st f fd)
    (h : ∀ (kV doc pm : Value) (an : Option Addr) (cdv ct : Value) (us : List Value), us.length = ps.length → bindArgs (PySem.W.fnOf x qual (defArgs st) (defBody st) (defScope st) .none kV doc pm an cdv ct) ⟨us, []⟩ = pure (ps.zip us)) : Binds K fd ps [] := by
  obtain ⟨oc, od, kV, doc, pm, an, cdv, ct, osl, rfl, lk, hcd⟩ := F.ex
  exact .all (h kV doc pm an cdv ct)
theorem fun_mk {x qual : Str} {st : Stmt} {f : Addr} {oc : Value} {od an : Option Addr} {osl : Array (Option Value)} {kV doc pm cdv ct : Value} (l : K.lookup f = some ⟨oc, od, .func (PySem.W.fnOf x qual (defArgs st) (defBody st) (defScope st) .none kV doc pm an cdv ct), osl⟩)
    (c : PySem.W.codeIn K cdv qual = true) (k : PySem.W.keepIn K (.ref f) = true) : Fun K x qual st f (PySem.W.fnOf x qual (defArgs st) (defBody st) (defScope st) .none kV doc pm an cdv ct) := ⟨⟨oc, od, kV, doc, pm, an, cdv, ct, osl, rfl, l, c⟩, k⟩
end
section
variable {X : Cx}
theorem pv (i : Nat) {x : Str} {pos : Pos} (hN : X.N[i]? = some x := by rfl) (hv : Vis X.env.scope x := by first | exact Or.inl rfl | exact Or.inr (Or.inl rfl) | exact Or.inr (Or.inr rfl)) (hd : (x == ("__debug__" : Str)) = false := by decide)
    (hcd : (x == ("__classdict__" : Str)) = false := by decide) : PE X (.Name x pos) (tVar i) := pe_var hN hv hd hcd
end
theorem iteF {A B : Prop} (h : B) : if false = true then A else B := by
  rw [if_neg Bool.false_ne_true]
  exact h
theorem iteT {A B : Prop} (h : A) : if true = true then A else B := by
  rw [if_pos rfl]
  exact h
def Same (H H' : Hp) : Prop := ∀ b o, H b = some o → H' b = some o
theorem Same.refl (H : Hp) : Same H H := fun _ _ h => h
theorem Same.trans {H H1 H2 : Hp} (a : Same H H1) (b : Same H1 H2) : Same H H2 := fun c o h => b c o (a c o h)
theorem Same.free {H H' : Hp} (e : Same H H') {l : Addr} (h : H' l = Option.none) : H l = Option.none := by
  cases q : H l with
  | none => rfl
  | some o =>
    rw [e l o q] at h
    cases h
theorem Same.seq {K : PySem.W.Frag} {H H' : Hp} {a : Addr} {xs : List V} (e : Same H H') (h : SqL K H a xs) : SqL K H' a xs := by
  rcases h with (h | ⟨o, h⟩) | h
  · exact .inl (.inl (e _ _ h))
  · exact .inl (.inr ⟨o, e _ _ h⟩)
  · exact .inr h
end L2
set_option maxRecDepth 100000
set_option maxHeartbeats 4000000
namespace L2
open PySem PySem.Spec PyProof.Rows
def closOf (env : Env) : List (Str × NameKind) → List (Str × Addr) → List (Str × Addr)
  | [], cs => cs
  | (n, k) :: r, cs => if k == .free then closOf env r ((n, (env.cells.lookup n).getD 0) :: cs) else closOf env r cs
theorem clos_go {env : Env} : ∀ (names : List (Str × NameKind)) (cs : List (Str × Addr)), (∀ n, (n, NameKind.free) ∈ names → ∃ c, env.cells.lookup n = some c) →
    (forIn names cs fun (x : Str × NameKind) (r : List (Str × Addr)) => (if (x.2 == NameKind.free) = true then do
        let a ← cellOf env x.1
        pure (ForInStep.yield ((x.1, a) :: r)) else pure (ForInStep.yield r) : Sem (ForInStep (List (Str × Addr))))) = pure (closOf env names cs)
  | [], cs, _ => rfl
  | (n, k) :: r, cs, h => by
    rw [List.forIn_cons]
    by_cases hk : (k == NameKind.free) = true
    · have hk' : k = .free := by simpa using hk
      subst hk'
      obtain ⟨c, hc⟩ := h n List.mem_cons_self
      simp only [hk, if_true, closOf, cellOf, hc, pure_bind, Option.getD_some]
      exact clos_go r _ fun m hm => h m (List.mem_cons_of_mem _ hm)
    · simp only [hk, if_false, closOf, pure_bind]
      exact clos_go r cs fun m hm => h m (List.mem_cons_of_mem _ hm)
theorem closureFor_of {scope : Scope} {env : Env} (h : ∀ n, (n, NameKind.free) ∈ scope.names → ∃ c, env.cells.lookup n = some c) : closureFor scope env = pure (closOf env scope.names []) := by
  have := clos_go scope.names [] h
  simp only [closureFor]
  rw [← this]
  exact bind_pure _
theorem closOf_sub {env : Env} : ∀ (names : List (Str × NameKind)) (cs : List (Str × Addr)), (∀ n, (n, NameKind.free) ∈ names → ∃ c, env.cells.lookup n = some c) →
    (∀ x c, cs.lookup x = some c → env.cells.lookup x = some c) → ∀ x c, (closOf env names cs).lookup x = some c → env.cells.lookup x = some c
  | [], cs, _, h, x, c, e => h x c e
  | (n, k) :: r, cs, hf, h, x, c, e => by
    unfold closOf at e
    by_cases hk : (k == NameKind.free) = true
    · rw [if_pos hk] at e
      have hk' : k = .free := by simpa using hk
      subst hk'
      refine closOf_sub r _ (fun m hm => hf m (List.mem_cons_of_mem _ hm)) (fun y d q => ?_) x c e
      obtain ⟨c', hc'⟩ := hf n List.mem_cons_self
      rw [List.lookup_cons] at q
      split at q
      · rename_i hy
        have : y = n := by simpa using hy
        subst this
        rw [hc', Option.getD_some] at q
        rw [hc']; exact q
      · exact h y d q
    · rw [if_neg hk] at e
      exact closOf_sub r cs (fun m hm => hf m (List.mem_cons_of_mem _ hm)) h x c e
theorem closOf_keep {env : Env} : ∀ (names : List (Str × NameKind)) (cs : List (Str × Addr)) (x : Str), (∃ c, cs.lookup x = some c) → ∃ c, (closOf env names cs).lookup x = some c
  | [], cs, _, h => h
  | (n, k) :: r, cs, x, h => by
    unfold closOf
    by_cases hk : (k == NameKind.free) = true
    · rw [if_pos hk]
      refine closOf_keep r _ x ?_
      rw [List.lookup_cons]
      split
      · exact ⟨_, rfl⟩
      · exact h
    · rw [if_neg hk]
      exact closOf_keep r cs x h
theorem closOf_has {env : Env} : ∀ (names : List (Str × NameKind)) (cs : List (Str × Addr)) (x : Str), (x, NameKind.free) ∈ names → ∃ c, (closOf env names cs).lookup x = some c
  | (n, k) :: r, cs, x, h => by
    unfold closOf
    rcases List.mem_cons.mp h with e | h
    · cases e
      rw [if_pos (by rfl)]
      refine closOf_keep r _ n ?_
      exact ⟨_, by rw [List.lookup_cons]; simp; rfl⟩
    · by_cases hk : (k == NameKind.free) = true
      · rw [if_pos hk]; exact closOf_has r _ x h
      · rw [if_neg hk]; exact closOf_has r cs x h
def cxC (X : Cx) (scope : Scope) (N' : List Str) (fp : List Addr) (s : Shared) (H : Hp) : Cx where
  prog := X.prog
  w := X.w
  K := X.K
  mg := X.mg
  base := X.base
  A := X.A
  N := N'
  s₀ := s
  H₀ := H
  env := compEnvC scope (closOf X.env scope.names []) s.heap.objs.size X.env
  outer := X.stack
  stack := X.stack
  ex := fp
  calm := X.calm
  fn := fun _ => false
  pn := []
  xe := fun _ _ => False
def CapsOk (X : Cx) (scope : Scope) : List Str → List Nat → Prop
  | [], [] => True
  | x :: xs, j :: js => X.N[j]? = some x ∧ (X.env.scope.names.lookup x = some .cell ∨ X.env.scope.names.lookup x = some .free) ∧ scope.names.lookup x = some .free ∧ CapsOk X scope xs js
  | _, _ => False
theorem CapsOk.get {X : Cx} {scope : Scope} : ∀ {xs : List Str} {js : List Nat} {i : Nat} {x : Str}, CapsOk X scope xs js → xs[i]? = some x →
    ∃ j, js[i]? = some j ∧ X.N[j]? = some x ∧ (X.env.scope.names.lookup x = some .cell ∨ X.env.scope.names.lookup x = some .free) ∧ scope.names.lookup x = some .free
  | [], _, _, _, _, e => by simp at e
  | _ :: _, [], _, _, h, _ => h.elim
  | y :: ys, j :: js, 0, x, h, e => by
    simp at e; subst e
    exact ⟨j, rfl, h.1, h.2.1, h.2.2.1⟩
  | y :: ys, j :: js, i + 1, x, h, e => by
    obtain ⟨j', e1, r⟩ := CapsOk.get (i := i) (x := x) h.2.2.2 (by simpa using e)
    exact ⟨j', by simpa using e1, r⟩
theorem CapsOk.length {X : Cx} {scope : Scope} : ∀ {xs : List Str} {js : List Nat}, CapsOk X scope xs js → xs.length = js.length
  | [], [], _ => rfl
  | [], _ :: _, h => h.elim
  | _ :: _, [], h => h.elim
  | _ :: _, _ :: _, h => by rw [List.length_cons, List.length_cons, CapsOk.length h.2.2.2]
def capSt (m : Nat) (caps : List Nat) (σ : St) : St := List.replicate m none ++ caps.map fun i => (σ[i]?).getD none
theorem lookup_mem {α β : Type} [BEq α] [LawfulBEq α] : ∀ {l : List (α × β)} {x : α} {b : β}, l.lookup x = some b → (x, b) ∈ l
  | [], _, _, h => by simp at h
  | (a, c) :: r, x, b, h => by
    rw [List.lookup_cons] at h
    split at h
    · rename_i q
      have : x = a := by simpa using q
      subst this
      cases h
      exact List.mem_cons_self
    · exact List.mem_cons_of_mem _ (lookup_mem h)
section
variable {X : Cx}
theorem lookup_relabel {scope : Scope} {env : Env} : ∀ {names : List (Str × NameKind)} {x : Str} {k : NameKind}, (names.map fun (n, k) => if (k == NameKind.free && env.scope.kind == .function && env.kindOf n == some .cell) then (n, NameKind.cell) else (n, k)).lookup x = some k →
    ∃ k', names.lookup x = some k' ∧ (k' = k ∨ (k' = .free ∧ k = .cell))
  | [], _, _, h => by simp at h
  | (n, k0) :: r, x, k, h => by
    have h' : List.lookup x ((if (k0 == NameKind.free && env.scope.kind == .function && env.kindOf n == some .cell) = true then (n, NameKind.cell) else (n, k0)) :: r.map _) = some k := h
    by_cases hc : (k0 == NameKind.free && env.scope.kind == .function && env.kindOf n == some .cell) = true
    · rw [if_pos hc, List.lookup_cons] at h'
      rw [List.lookup_cons]
      split at h'
      · rename_i q
        cases h'
        have hk : k0 = .free := by simp only [Bool.and_eq_true] at hc; simpa using hc.1.1
        exact ⟨k0, rfl, .inr ⟨hk, rfl⟩⟩
      · rename_i q
        exact lookup_relabel (scope := scope) h'
    · rw [if_neg hc, List.lookup_cons] at h'
      rw [List.lookup_cons]
      split at h'
      · rename_i q
        cases h'
        exact ⟨k0, rfl, .inl rfl⟩
      · rename_i q
        exact lookup_relabel (scope := scope) h'
structure CompSc (X : Cx) (scope : Scope) (own cap : List Str) (caps : List Nat) : Prop where
  kind : scope.kind = .function
  cell : ∀ y ∈ scope.names, y.2 ≠ .cell
  nm : ∀ y ∈ scope.names, y.2 = .local → scope.names.lookup y.1 = some .local
  fr : ∀ y ∈ scope.names, y.2 = .free → y.1 ∈ cap
  caps : CapsOk X scope cap caps
  nd : (own ++ cap).Nodup
theorem CompSc.out {X : Cx} {scope : Scope} {own cap : List Str} {caps : List Nat} (S : CompSc X scope own cap caps) {n : Str} (h : (n, NameKind.free) ∈ scope.names) : X.env.scope.names.lookup n = some .cell ∨ X.env.scope.names.lookup n = some .free := by
  obtain ⟨i, hi, e⟩ := List.getElem_of_mem (S.fr _ h rfl)
  obtain ⟨_, _, _, k, _⟩ := S.caps.get (i := i) (x := n) (by rw [List.getElem?_eq_getElem hi, e])
  exact k
theorem inv_comp {scope : Scope} {own cap : List Str} {caps : List Nat} {pins : List (Addr × Obj)} {σ : St} {H : Hp} {s : Shared} {fp : List Addr} {h1 : Heap} {tk : Nat} (Sc : CompSc X scope own cap caps) (I : Inv X pins σ H s)
    (hfp : ∀ b ∈ fp, FpOk X pins H b) (hob : ∀ b ∈ fp, ∃ o, s.heap.get? b = some o) (hns : h1.Ns s.heap.objs.size fun _ => none)
    (hk : ∀ b o, s.heap.get? b = some o → h1.get? b = some o) :
    Inv (cxC X scope (own ++ cap) fp s H) [] (capSt own.length caps σ) H { s with heap := h1, toks := tk } := by
  have hcl : ∀ n, (n, NameKind.free) ∈ scope.names → ∃ c, X.env.cells.lookup n = some c := fun n hn => I.ok.has n (Sc.out hn)
  have sub : ∀ x c, (closOf X.env scope.names []).lookup x = some c → X.env.cells.lookup x = some c := closOf_sub scope.names [] hcl (fun x c e => by simp at e)
  have fresh : H s.heap.objs.size = none := I.hok.fresh (Nat.le_refl _)
  refine ⟨⟨I.ok.mod, Sc.kind, I.ok.glob, I.ok.blt, Nat.le_refl _, fun x y c e1 e2 => I.ok.inj x y c (sub x c e1) (sub y c e2), fun x hx => ?_, fun x c h _ => absurd h (by simp [cxC]), I.ok.hd, I.ok.frames, .inl rfl, fun b hb => ⟨?_, fun x c e => (hfp b hb).2.2.2.2.1 x c (sub x c e)⟩, I.bs, Nat.le_trans I.ok.bsz I.sz, fun b o e hb => ?_, fun b hb hs => ?_, I.stack, I.stkFree⟩,
    rfl, I.bare, Un.kept hk, ⟨_, hns, fun i x v e1 e2 e3 => ?_⟩, fun x c e => ?_, fresh, fun x c e => I.freeC x c (sub x c e), fun p hp => absurd (show p ∈ ([] : List (Addr × Obj)) from hp) (by simp), I.hok.kept hk, ?_⟩
  · -- has
    have hx' : (relabel scope X.env).names.lookup x = some .cell ∨ (relabel scope X.env).names.lookup x = some .free := hx
    have : (x, NameKind.free) ∈ scope.names := by
      rcases hx' with q | q
      · obtain ⟨k', e1, e2⟩ := lookup_relabel (scope := scope) q
        rcases e2 with rfl | ⟨rfl, _⟩
        · exact absurd rfl (Sc.cell _ (lookup_mem e1))
        · exact lookup_mem e1
      · obtain ⟨k', e1, e2⟩ := lookup_relabel (scope := scope) q
        rcases e2 with rfl | ⟨rfl, z⟩
        · exact lookup_mem e1
        · cases z
    exact closOf_has scope.names [] x this
  · obtain ⟨o, ho⟩ := hob b hb
    exact Nat.ne_of_lt (Heap.lt_size ho)
  · rcases (hfp b hb).2.2.2.1 with z | z
    · exact I.ok.noex b o e z
    · exact absurd (Nat.lt_of_lt_of_le (Heap.lt_size e) (Nat.le_trans I.ok.bsz z)) (Nat.lt_irrefl _)
  · rcases List.mem_cons.mp (I.stkSub b hs) with z | z
    · exact (hfp b hb).2.1 z
    · exact (hfp b hb).2.2.1 z
  · -- the captured names
    have e1' : (own ++ cap)[i]? = some x := e1
    have hi : own.length ≤ i := by
      by_cases q : i < own.length
      · unfold capSt at e2
        rw [List.getElem?_append_left (by simpa using q), List.getElem?_replicate] at e2
        split at e2 <;> cases e2
      · omega
    rw [List.getElem?_append_right hi] at e1'
    obtain ⟨j, hj, hN, hkd, hfr⟩ := Sc.caps.get e1'
    unfold capSt at e2
    rw [List.getElem?_append_right (by simpa using hi)] at e2
    simp only [List.length_replicate, List.getElem?_map, hj, Option.map_some, Option.some.injEq] at e2
    have e2' : σ[j]? = some (some v) := by
      cases q : σ[j]? with
      | none => rw [q] at e2; simp at e2
      | some ov => rw [q] at e2; simp at e2; rw [e2]
    obtain ⟨m, hm, hl⟩ := I.loc
    obtain ⟨u, ru, lk⟩ := hl j x v hN e2' (hkd.elim (fun z => .inr (.inl z)) fun z => .inr (.inr z))
    refine ⟨u, ru, .inr ⟨?_, ?_⟩⟩
    · rcases e3 with q | q | q
      · obtain ⟨k', w1, w2⟩ := lookup_relabel (scope := scope) (show (relabel scope X.env).names.lookup x = some .local from q)
        rw [hfr] at w1
        cases w1
        rcases w2 with w | ⟨_, w⟩ <;> cases w
      · exact .inl q
      · exact .inr q
    · rcases lk with ⟨z, _⟩ | ⟨_, c, ec, hc⟩
      · have z' : X.env.scope.names.lookup x = some .local := z
        rcases hkd with q | q <;> (rw [q] at z'; cases z')
      · obtain ⟨c', hc'⟩ := closOf_has (env := X.env) scope.names [] x (lookup_mem hfr)
        have := sub x c' hc'
        rw [ec] at this
        cases this
        obtain ⟨oc, h1', h2'⟩ := hc
        exact ⟨c, hc', oc, hk _ _ h1', h2'⟩
  · obtain ⟨v, oc, h1', h2'⟩ := I.cell x c (sub x c e)
    exact ⟨v, oc, hk _ _ h1', h2'⟩
  · unfold capSt
    have := Sc.caps.length
    simp [cxC, this]
theorem comp_loop {prog : Program} {w : World} {A : Around} {R : Result → Shared → Prop} {s : Shared} {elt target iter : Expr} {ifs : List Expr} {scope : Scope} {pos : Pos} {it acc : Value} {env : Env} (I : Nat → Shared → Prop)
    (turn : ∀ n s, I n s → wpAny (model prog w) A (pyNext it) (fun r s₁ => match r with
      | none => R (.ok .next) s₁
      | some v => wpAny (model prog w) A (letOwnedTupleGo target it v) (fun _ s₁' => wpAny (model prog w) A (assign target env v) (fun _ s₂ =>
          wpAny (model prog w) A (forIn ifs true fun c r => if r = true then do let ok ← isTrue c env (eval c env); pure (ForInStep.yield ok) else pure (ForInStep.yield r)) (fun ok s₃ =>
            if ok = true then wpAny (model prog w) A (eval elt env) (fun x s₄ =>
              wpAny (model prog w) A (call (.builtin "list.append") [acc, x]) (fun _ s₅ => ∃ m, m < n ∧ I m s₅) (fun _ _ => False) s₄) (fun _ _ => False) s₃
            else ∃ m, m < n ∧ I m s₃) (fun _ _ => False) s₂) (fun _ _ => False) s₁') (fun _ _ => False) s₁) (fun _ _ => False) s)
    (n : Nat) (h : I n s) :
    codeAny (model prog w) A (.compLoop (.ListComp elt [⟨target, iter, ifs, 0⟩] scope pos) 0 it acc env) R s := by
  refine codeAny_loop rfl I (fun n s hI => ?_) n h
  show wpAny _ A ((compTurn (.ListComp elt [⟨target, iter, ifs, 0⟩] scope pos) 0 it acc env).onRaise (fun x => do noteFrame x env; theTreesLotGoes x)) _ _ s
  refine wpAny_noted ?_
  rw [compTurn_list]
  refine wpAny_bind (wpAny_standAt (wpAny_bind (wpAny_mono (turn n s hI) (fun r s₁ h₁ => ?_) fun _ _ h' => h'.elim)))
  cases r with
  | none => exact wpAny_pure h₁
  | some v =>
    refine wpAny_bind (wpAny_mono h₁ (fun _ s₁' h₁' => wpAny_bind (wpAny_mono h₁' (fun _ s₂ h₂ => wpAny_bind (wpAny_mono h₂ (fun ok s₃ h₃ => ?_) fun _ _ h' => h'.elim)) fun _ _ h' => h'.elim)) fun _ _ h' => h'.elim)
    cases ok with
    | false => exact wpAny_pure ⟨rfl, h₃⟩
    | true =>
      exact wpAny_bind (wpAny_bind (wpAny_mono h₃ (fun x s₄ h₄ => wpAny_bind (wpAny_mono h₄ (fun _ s₅ h₅ => wpAny_pure (wpAny_pure ⟨rfl, h₅⟩)) fun _ _ h' => h'.elim)) fun _ _ h' => h'.elim))
def PTs (X : Cx) (ifs : List Expr) (t : TT) : Prop :=
  ∀ (pins : List (Addr × Obj)) (s : Shared) (σ : St) (H : Hp) (Q : Bool → Hp → Prop), Inv X pins σ H s → t σ H Q →
    wpAny (model X.prog X.w) X.A (forIn ifs true fun c r => if r = true then do let ok ← isTrue c X.env (eval c X.env); pure (ForInStep.yield ok) else pure (ForInStep.yield r)) (TP X pins σ Q) X.xe s
theorem pts_one {c : Expr} {t : TT} (h : PT X c t) : PTs X [c] t := fun pins s σ H Q I q => wpAny_tests_one (h pins s σ H Q I q)
def tComp (m : Nat) (caps : List Nat) (wi : TI) (g : TG) (tc : TT) (te : TE) : TE := fun σ H Q => wi σ H fun J H1 => ∀ p, H1 p = none →
  ∃ W : Nat → Nat → List V → St → Hp → Prop, (∃ k, W 0 k [] (capSt m caps σ) (upd H1 p (.lst []))) ∧ ∀ i k acc σ' H', W i k acc σ' H' →
    (J.stop i H' ∧ H' p = some (.lst acc) ∧ Q (.ref p) H') ∨ (J.go i H' ∧ ∀ x H2, J.yld i H' x H2 → g x σ' H2 fun σ2 H3 => tc σ2 H3 fun b H4 => if b = true then
      te σ2 H4 fun y H5 => H5 p = some (.lst acc) ∧ acc.length < sizeLine ∧ ∃ k', k' < k ∧ W (i + 1) k' (acc ++ [y]) σ2 (upd H5 p (.lst (acc ++ [y])))
      else ∃ k', k' < k ∧ W (i + 1) k' acc σ2 H4)
theorem inv_back {scope : Scope} {N' : List Str} {fp : List Addr} {pins pins' : List (Addr × Obj)} {σ σ' : St} {H3 H' : Hp} {s3 s' : Shared} (I3 : Inv X pins σ H3 s3) (I' : Inv (cxC X scope N' fp s3 H3) pins' σ' H' s') (hfp : ∀ b ∈ fp, FpOk X pins H3 b) : Inv X pins σ H' s' :=
  I3.call' (ch := fp) I'.os I'.base I'.hok I'.bare fun b hb => ⟨(hfp b hb).2.2.2.1, (hfp b hb).2.1, (hfp b hb).2.2.2.2.1, (hfp b hb).2.2.2.2.2⟩
theorem comp_block {target iter elt : Expr} {ifs : List Expr} {scope : Scope} {pos : Pos} {own cap : List Str} {caps : List Nat} {g : TG} {tc : TT} {te : TE} {pins : List (Addr × Obj)} {σ : St} {H2 : Hp} {s₂ : Shared} {it : Addr} {fp : List Addr} {tn : Nat → Heap → Prop} {J : It} {E : Value → Shared → Prop}
    {RR : Value → Addr → Result → Shared → Prop} {Q : VK}
    (hc : X.calm = true) (Sc : CompSc X scope own cap caps)
    (hg : ∀ s H, PG (cxC X scope (own ++ cap) fp s H) target g) (ht : ∀ s H, PTs (cxC X scope (own ++ cap) fp s H) ifs tc) (he : ∀ s H, PE (cxC X scope (own ++ cap) fp s H) elt te)
    (I : Inv X pins σ H2 s₂) (T : Turn X.prog X.w X.K target J fp it tn) (t0 : tn 0 s₂.heap) (hfp : ∀ b ∈ fp, FpOk X pins H2 b)
    (hQ : ∀ p, H2 p = none → ∃ W : Nat → Nat → List V → St → Hp → Prop, (∃ k, W 0 k [] (capSt own.length caps σ) (upd H2 p (.lst []))) ∧ ∀ i k acc σ' H', W i k acc σ' H' →
      (J.stop i H' ∧ H' p = some (.lst acc) ∧ Q (.ref p) H') ∨ (J.go i H' ∧ ∀ x H2, J.yld i H' x H2 → g x σ' H2 fun σ2 H3 => tc σ2 H3 fun b H4 => if b = true then
        te σ2 H4 fun y H5 => H5 p = some (.lst acc) ∧ acc.length < sizeLine ∧ ∃ k', k' < k ∧ W (i + 1) k' (acc ++ [y]) σ2 (upd H5 p (.lst (acc ++ [y])))
        else ∃ k', k' < k ∧ W (i + 1) k' acc σ2 H4))
    (hRR : ∀ C p H' s' m, X.s₀.heap.objs.size ≤ C → C ≠ X.env.locals → (∀ x c, X.env.cells.lookup x = some c → c ≠ C) → (∀ q ∈ X.pn ++ pins, q.1 ≠ C) → H' C = none → s'.heap.Ns C m → Inv X pins σ H' s' → Q (.ref p) H' → RR (.ref p) C (.ok .next) s') :
    wpAny (model X.prog X.w) X.A (newList []) (fun acc s₃ => wpAny (model X.prog X.w) X.A (newFunctionEnv scope X.env.globals (closOf X.env scope.names []) [] X.env.qual none .none (some X.env)) (fun cenv s₄ =>
      codeAny (model X.prog X.w) X.A (.compStart (.ListComp elt [⟨target, iter, ifs, 0⟩] scope pos) 0 (.ref it) acc { cenv with scope := relabel scope X.env }) (RR acc cenv.locals) s₄) E s₃) E s₂ := by
  refine wpAny_newObj_type (wpAny_newFunctionEnv Sc.cell (by intro y hy; simp at hy) (fun h₁ hns₁ hsb₁ => ?_) Sc.kind)
  dsimp only at hns₁ hsb₁ ⊢
  have hD0 : H2 s₂.heap.objs.size = none := I.hok.fresh (Nat.le_refl _)
  have I3 : Inv X pins σ (upd H2 s₂.heap.objs.size (.lst [])) { s₂ with heap := s₂.heap.push { cls := .type "list", dict := none, data := .seq ([] : List Value).toArray } } := I.lnew (t' := s₂.toks) .nil (Nat.zero_le _)
  obtain ⟨W, ⟨k0, w0⟩, turn⟩ := hQ s₂.heap.objs.size hD0
  have old : ∀ b o, s₂.heap.get? b = some o → (s₂.heap.push { cls := .type "list", dict := none, data := .seq ([] : List Value).toArray }).get? b = some o := fun b o e => Heap.get?_push_of_some _ e
  have hbD : ∀ b ∈ fp, b ≠ s₂.heap.objs.size := fun b hb => by
    obtain ⟨o, ho, _⟩ := T.obj 0 s₂.heap t0 b hb
    exact Nat.ne_of_lt (Heap.lt_size ho)
  have hfp3 : ∀ b ∈ fp, FpOk X pins (upd H2 s₂.heap.objs.size (.lst [])) b := fun b hb => ⟨by rw [upd_ne (hbD b hb)]; exact (hfp b hb).1, (hfp b hb).2⟩
  have hob : ∀ b ∈ fp, ∃ o, (s₂.heap.push { cls := .type "list", dict := none, data := .seq ([] : List Value).toArray }).get? b = some o := fun b hb => by
    obtain ⟨o, ho, _⟩ := T.obj 0 s₂.heap t0 b hb
    exact ⟨o, old b o ho⟩
  have hk : ∀ b o, (s₂.heap.push { cls := .type "list", dict := none, data := .seq ([] : List Value).toArray }).get? b = some o → h₁.get? b = some o := fun b o e =>
    hsb₁.extBut b o (Nat.ne_of_lt (Heap.lt_size e)) (Heap.get?_push_of_some _ e)
  have st1 : tn 0 h₁ := T.keep 0 _ _ t0 fun b hb o e => hk b o (old b o e)
  generalize hs3 : ({ s₂ with heap := s₂.heap.push { cls := .type "list", dict := none, data := .seq ([] : List Value).toArray } } : Shared) = s3 at I3
  have hh3 : s3.heap = s₂.heap.push { cls := .type "list", dict := none, data := .seq ([] : List Value).toArray } := by rw [← hs3]
  rw [← hh3] at hns₁ hsb₁ hob hk ⊢
  generalize s₂.heap.objs.size = D at *
  generalize hH3 : upd H2 D (.lst []) = H3 at *
  have loop : ∀ s₄ : Shared, s₄ = { s3 with heap := h₁, toks := s₂.toks + ([] : List (Str × Value)).length } →
      codeAny (model X.prog X.w) X.A (.compLoop (.ListComp elt [⟨target, iter, ifs, 0⟩] scope pos) 0 (.ref it) (.ref D) (compEnvC scope (closOf X.env scope.names []) s3.heap.objs.size X.env)) (RR (.ref D) s3.heap.objs.size) s₄ := by
    rintro s₄ rfl
    have I4 := inv_comp (tk := s₂.toks + ([] : List (Str × Value)).length) Sc I3 hfp3 hob hns₁ hk
    have stat : ∀ {H' : Hp}, (∀ b ∈ fp, H' b = none) → ∀ b ∈ fp, FpOk (cxC X scope (own ++ cap) fp s3 H3) [] H' b := fun hn b hb => by
      refine ⟨hn b hb, (I4.ok.exf b hb).1, I4.ok.exfs b hb, .inl hb, (I4.ok.exf b hb).2, fun p hp => absurd (show p ∈ ([] : List (Addr × Obj)) from hp) (by simp)⟩
    refine comp_loop (fun n s' => ∃ i acc σ' H', Inv (cxC X scope (own ++ cap) fp s3 H3) [] σ' H' s' ∧ tn i s'.heap ∧ (∀ b ∈ fp, H' b = none) ∧ W i n acc σ' H') ?_ k0 ⟨0, [], _, _, I4, st1, fun b hb => (hfp3 b hb).1, w0⟩
    rintro n s5 ⟨i, acc, σ5, H5, I5, st5, fr5, w5⟩
    rcases turn i n acc σ5 H5 w5 with ⟨stop, hp, q⟩ | ⟨go, step⟩
    · refine thn (T.done (cxC X scope (own ++ cap) fp s3 H3) rfl rfl rfl hc i [] s5 σ5 H5 _ I5 (stat fr5) st5 stop) fun r s6 ⟨hr, I6⟩ => ?_
      subst hr
      obtain ⟨m, hm, _⟩ := I6.loc
      refine hRR s3.heap.objs.size D H5 s6 m I3.sz (Nat.ne_of_gt I3.lt) (fun x c e => ?_) (fun p hp => ?_) I6.free hm (inv_back I3 I6 hfp3) q
      · obtain ⟨v, o, ho, _⟩ := I3.cell x c e
        exact Nat.ne_of_lt (Heap.lt_size ho)
      · exact Nat.ne_of_lt (Heap.lt_size (I3.pin p hp).1)
    · refine thn (T.item (cxC X scope (own ++ cap) fp s3 H3) rfl rfl rfl hc i [] s5 σ5 H5 _ I5 (stat fr5) st5 go) fun r s6 ⟨u, hr, h6⟩ => ?_
      subst hr
      refine thn h6 fun _ s7 ⟨x, H7, I7, r7, y7, st7, fr7⟩ => ?_
      have I7' := I7.pinned (stat fr7) (T.obj _ _ st7)
      refine thn (hg s3 H3 _ s7 σ5 H7 x u _ I7' r7 (step x H7 y7)) fun _ s8 ⟨σ8, H8, I8, q8⟩ => ?_
      refine thn (ht s3 H3 _ s8 σ8 H8 _ I8 q8) fun b s9 ⟨H9, I9, q9⟩ => ?_
      have again : ∀ {σz : St} {Hz : Hp} {sz : Shared}, Inv (cxC X scope (own ++ cap) fp s3 H3) ([] ++ pinsAt fp s7.heap) σz Hz sz → Inv (cxC X scope (own ++ cap) fp s3 H3) [] σz Hz sz ∧ tn (i + 1) sz.heap ∧ ∀ b ∈ fp, Hz b = none := fun {σz Hz sz} Iz => by
        refine ⟨Iz.unpinned, T.keep _ _ _ st7 fun b hb o e => (Iz.pin (b, o) (List.mem_append_right _ (List.mem_append_right _ (mem_pinsAt hb e)))).1, fun b hb => ?_⟩
        obtain ⟨o, e, d⟩ := T.obj _ _ st7 b hb
        exact (Iz.pin (b, o) (List.mem_append_right _ (List.mem_append_right _ (mem_pinsAt hb e)))).2.1
      cases b with
      | false =>
        rw [if_neg Bool.false_ne_true] at q9 ⊢
        obtain ⟨k', hk', w'⟩ := q9
        obtain ⟨a1, a2, a3⟩ := again I9
        exact ⟨k', hk', i + 1, acc, σ8, H9, a1, a2, a3, w'⟩
      | true =>
        rw [if_pos rfl] at q9 ⊢
        refine thn (he s3 H3 _ s9 σ8 H9 _ I9 q9) fun yv s10 ⟨y, H10, I10, r10, hp, hl, k', hk', w'⟩ => ?_
        refine thn (mt_append _ s10 σ8 H10 (.ref D) [y] (.ref D) [yv] (fun v Hz => Hz = upd H10 D (.lst (acc ++ [y]))) I10 rfl (.cons r10 .nil) ⟨D, acc, y, rfl, rfl, hp, hl, rfl⟩) fun _ s11 ⟨_, H11, I11, _, e11⟩ => ?_
        subst e11
        obtain ⟨a1, a2, a3⟩ := again I11
        exact ⟨k', hk', i + 1, acc ++ [y], σ8, _, a1, a2, a3, w'⟩
  have fin := loop _ rfl
  subst hs3
  exact codeAny_compStart_list fin (T.self _ _ _ _ _ st1 fin)
theorem PTs.ok {X : Cx} {scope : Scope} {own cap : List Str} {caps : List Nat} {pins : List (Addr × Obj)} {σ : St} {H : Hp} {s : Shared} (I : Inv X pins σ H s) (Sc : CompSc X scope own cap caps) : closureFor scope X.env = pure (closOf X.env scope.names []) :=
  closureFor_of fun n hn => I.ok.has n (Sc.out hn)
theorem ps_setcomp {target iter elt : Expr} {ifs : List Expr} {scope : Scope} {pos spos py : Pos} {own cap : List Str} {caps : List Nat} {wi : TI} {g : TG} {tc : TT} {te : TE} {i : Nat} {y : Str} (hc : X.calm = true) (Sc : CompSc X scope own cap caps) (hi : PI X target iter wi)
    (hg : ∀ fp s H, PG (cxC X scope (own ++ cap) fp s H) target g) (ht : ∀ fp s H, PTs (cxC X scope (own ++ cap) fp s H) ifs tc) (he : ∀ fp s H, PE (cxC X scope (own ++ cap) fp s H) elt te)
    (hN : X.N.Nodup) (hx : X.N[i]? = some y) (hl : Loc X.env.scope y)
    (hsw : swapsWith (.ListComp elt [⟨target, iter, ifs, 0⟩] scope pos) (some (.Name y py)) spos.line X.env = pure true)
    (hs : ∀ x, foldedSetIterable iter X.env x = pure x := by intro _; rfl) (hf : X.fn y = true ∨ X.env.scope.names.lookup y = some .local := by first | exact .inl rfl | exact .inr rfl | assumption) :
    PS X (.Assign [.Name y py] (.ListComp elt [⟨target, iter, ifs, 0⟩] scope pos) spos) (tAsg (tComp own.length caps wi g tc te) (gName i)) := by
  intro pins s σ H D I h
  rw [exec_Assign_Name_used _ _ _ _ hsw]
  refine wpAny_bind (wpAny_standAt (wpAny_bind ?_))
  show wpAny _ _ (do let _ ← comprehension (.ListComp elt [⟨target, iter, ifs, 0⟩] scope pos) scope X.env _ (newList []) false (eval iter X.env) (some (assign (.Name y py) X.env))) _ _ s
  refine wpAny_bind (wpAny_mono (wpAny_comprehension_free (use := some (assign (.Name y py) X.env)) (Q := fun _ s' => SP X pins D .next s') rfl hs (PTs.ok I Sc) Sc.kind Sc.nm
    (thn (hi pins s σ H _ I h) fun v s1 h1 => thn h1 fun itv s2 h2 => ?_)) (fun _ s' hq => wpAny_pure (wpAny_pure hq)) fun _ _ e => e)
  obtain ⟨it, fp, tn, J, H2, e, I2, T, st2, f2, q⟩ := h2
  subst e
  refine comp_block (Q := fun v H' => gName i v σ H' D.nx) (RR := fun acc C => compPost (model X.prog X.w) X.A X.xe (some (assign (.Name y py) X.env)) (fun _ s' => SP X pins D .next s') acc C) hc Sc (hg fp) (ht fp) (he fp) I2 T st2 f2 q ?_
  intro C p H' s' m h1 h2 h3 h4 h5 hn I' q'
  show wpAny _ _ (assign (.Name y py) X.env (.ref p)) _ _ _
  refine wpAny_assign_Name (store_ok2 I' hN hx hl (show RelV (.ref p) (.ref p) from rfl) (fun s'' I'' ⟨a, hsb, ha⟩ => ?_) hf)
  have haC : C ≠ a := by
    rcases ha with rfl | ha
    · exact h2
    · exact (h3 _ _ ha).symm
  exact ⟨m, hn.sameBut hsb haC, fun h' hs' => ⟨_, H', I''.turned (it := C) (t' := s''.toks) (fun b o hb e => hs'.extBut b o hb e) h5 h2 (.inr h1) h3 h4, q'⟩⟩
end
end L2
set_option maxRecDepth 100000
set_option maxHeartbeats 4000000
namespace L2
open PySem PySem.Spec PyProof.Rows
section
variable {X : Cx}
def rCatL (K : PySem.W.Frag) : R2 := fun x y H Q => ∃ l b xs zs, x = .ref l ∧ y = .ref b ∧ SqL K H l xs ∧ SqL K H b zs ∧ xs.length + zs.length ≤ sizeLine ∧ ∀ p, H p = none → Q (.ref p) (upd H p (.lst (xs ++ zs)))
theorem op_catL : OpR X (binaryOp .Add) (rCatL X.K) := by
  intro pins s σ H x y v u Q I rx ry h
  obtain ⟨l, b, xs, zs, rfl, rfl, hH, hB, hz, q⟩ := h
  cases rx
  cases ry
  obtain ⟨its, r, pl, _⟩ := I.list hH
  obtain ⟨its2, r2, pl2, _⟩ := I.list hB
  obtain ⟨⟨cls, dd, data, sl⟩, ho, hc, n, hd⟩ := pl.isList
  obtain ⟨⟨cls2, dd2, data2, sl2⟩, ho2, hc2, n2, hd2⟩ := pl2.isList
  simp only at hc hd hc2 hd2
  subst hc hd hc2 hd2
  have e : its.toArray ++ its2.toArray = (its ++ its2).toArray := by simp
  have hl1 := r.length
  have hl2 := r2.length
  refine concat_meets ⟨_, ho, rfl⟩ ⟨_, ho2, rfl⟩ noFill_list_add seq_list_add PySem.F.slot_list_add PySem.F.entry_list_add (PySem.F.args_list_add_2 _ _) (list_addW l b its.toArray its2.toArray n n2 dd dd2 sl sl2 (by simp only [List.size_toArray]; omega)) ⟨ho, ho2, ?_⟩
  rw [e]
  exact ⟨.ref _, _, I.lnew (t' := s.toks) (r.append r2) (by rw [List.length_append]; omega), rfl, q _ I.fresh⟩
mutual
def RdV (K : PySem.W.Frag) (H : Hp) : PyData → V → Prop
  | .none, v => v = .non
  | .bool b, v => v = .bl b
  | .int i, v => v = .int i
  | .str x, v => v = .str x
  | .list ds, v => ∃ a xs, v = .ref a ∧ SqL K H a xs ∧ RdVs K H ds xs
  | .tuple ds, v => ∃ a xs, v = .ref a ∧ SqT K H a xs ∧ RdVs K H ds xs
  | .dict _, _ => False
def RdVs (K : PySem.W.Frag) (H : Hp) : List PyData → List V → Prop
  | [], xs => xs = []
  | d :: ds, xs => ∃ v r, xs = v :: r ∧ RdV K H d v ∧ RdVs K H ds r
end
mutual
theorem rdv_reads {pins : List (Addr × Obj)} {σ : St} {H : Hp} {s : Shared} (I : Inv X pins σ H s) : ∀ {d : PyData} {v : V} {u : Value}, RdV X.K H d v → RelV v u → ∃ as, Reads s.heap u d as
  | .none, v, u, h, r => by
    unfold RdV at h; subst h
    cases (show u = Value.none from r); exact ⟨_, .none⟩
  | .bool b, v, u, h, r => by
    unfold RdV at h; subst h
    cases (show u = Value.bool b from r); exact ⟨_, .bool b⟩
  | .int i, v, u, h, r => by
    unfold RdV at h; subst h
    obtain ⟨t, rfl⟩ := (show ∃ t, u = Value.int i t from r); exact ⟨_, .int i t⟩
  | .str x, v, u, h, r => by
    unfold RdV at h; subst h
    obtain ⟨t, rfl⟩ := (show ∃ t, u = Value.str x t from r); exact ⟨_, .str x t⟩
  | .list ds, v, u, h, r => by
    unfold RdV at h
    obtain ⟨a, xs, rfl, hs, hr⟩ := h
    cases (show u = Value.ref a from r)
    obtain ⟨its, rv, pl, _⟩ := I.list hs
    obtain ⟨o, ho, hc, n, hd⟩ := pl.isList
    obtain ⟨as, ra⟩ := rdvs_reads I hr rv
    exact ⟨_, .list ho hc hd (by simpa using ra)⟩
  | .tuple ds, v, u, h, r => by
    unfold RdV at h
    obtain ⟨a, xs, rfl, hs, hr⟩ := h
    cases (show u = Value.ref a from r)
    obtain ⟨its, rv, ⟨o, ho, hc, n, hd⟩, _⟩ := I.tuple hs
    obtain ⟨as, ra⟩ := rdvs_reads I hr rv
    exact ⟨_, .tuple ho hc hd (by simpa using ra)⟩
  | .dict _, v, u, h, r => by unfold RdV at h; exact h.elim
theorem rdvs_reads {pins : List (Addr × Obj)} {σ : St} {H : Hp} {s : Shared} (I : Inv X pins σ H s) : ∀ {ds : List PyData} {xs : List V} {us : List Value}, RdVs X.K H ds xs → Vals xs us → ∃ as, ReadsAll s.heap us ds as
  | [], xs, us, h, r => by
    unfold RdVs at h; subst h
    cases r; exact ⟨_, .nil⟩
  | d :: ds, xs, us, h, r => by
    unfold RdVs at h
    obtain ⟨v, w, rfl, h1, h2⟩ := h
    cases r with
    | cons r1 r2 =>
      obtain ⟨as, a1⟩ := rdv_reads I h1 r1
      obtain ⟨bs, a2⟩ := rdvs_reads I h2 r2
      exact ⟨_, .cons a1 a2⟩
end
def rEqD (K : PySem.W.Frag) : R2 := fun x y H Q => ∃ d e, RdV K H d x ∧ RdV K H e y ∧ SeqAt.shaped d = true ∧ SeqAt.shaped e = true ∧ Q (.bl (PyData.eqv d e)) H
def rNeD (K : PySem.W.Frag) : R2 := fun x y H Q => ∃ d e, RdV K H d x ∧ RdV K H e y ∧ SeqAt.shaped d = true ∧ SeqAt.shaped e = true ∧ Q (.bl (!PyData.eqv d e)) H
theorem op_eqD (hu : X.A.units + 64 < cLine) : OpR X (compareOp .Eq) (rEqD X.K) := by
  intro pins s σ H x y v u Q I rx ry h
  obtain ⟨d, e, h1, h2, s1, s2, q⟩ := h
  obtain ⟨as, ra⟩ := rdv_reads I h1 rx
  obtain ⟨bs, rb⟩ := rdv_reads I h2 ry
  exact SeqAt.compareEq_shaped ra rb s1 s2 hu ⟨.bl _, H, I, rfl, q⟩
theorem op_neD (hu : X.A.units + 64 < cLine) : OpR X (compareOp .NotEq) (rNeD X.K) := by
  intro pins s σ H x y v u Q I rx ry h
  obtain ⟨d, e, h1, h2, s1, s2, q⟩ := h
  obtain ⟨as, ra⟩ := rdv_reads I h1 rx
  obtain ⟨bs, rb⟩ := rdv_reads I h2 ry
  exact SeqAt.compareNe_shaped ra rb s1 s2 hu ⟨.bl _, H, I, rfl, q⟩
def tyOfV (K : PySem.W.Frag) (H : Hp) (x : V) (T : String) : Prop := match x with
  | .non => T = "NoneType"
  | .bl _ => T = "bool"
  | .int _ => T = "int"
  | .str _ => T = "str"
  | .ref a => (T = "list" ∧ ∃ xs, SqL K H a xs) ∨ (T = "tuple" ∧ ∃ xs, SqT K H a xs)
  | _ => False
def rIsi (K : PySem.W.Frag) : List V → Hp → VK → Prop := fun xs H Q => ∃ x c T b, xs = [x, .ty c] ∧ tyOfV K H x T ∧ PySem.W.kitOne K (.type T) (.type c) = some b ∧ Q (.bl b) H
theorem call_isi : CallR X (.builtin "isinstance") (rIsi X.K) := by
  intro pins s σ H xs us Q I r h
  obtain ⟨x, c, T, b, rfl, hT, hk, q⟩ := h
  obtain ⟨u, w, rfl, r1, r2⟩ := vals2 r
  cases (show w = Value.type c from r2)
  have fin : ∀ tk, EP X pins σ Q (.bool b) { s with toks := tk } := fun tk => ⟨.bl b, H, I.tok tk, rfl, q⟩
  cases x with
  | non => cases (show u = Value.none from r1); cases (show T = "NoneType" from hT); exact PySem.W.kia_one PySem.W.kitx_none I.kIn True.intro hk (fun z => nomatch z) fin
  | bl y => cases (show u = Value.bool y from r1); cases (show T = "bool" from hT); exact PySem.W.kia_one PySem.W.kitx_bool I.kIn True.intro hk (fun z => nomatch z) fin
  | int i => obtain ⟨t, e⟩ := (show ∃ t, u = Value.int i t from r1); cases e; cases (show T = "int" from hT); exact PySem.W.kia_one PySem.W.kitx_int I.kIn True.intro hk (fun z => nomatch z) fin
  | str y => obtain ⟨t, e⟩ := (show ∃ t, u = Value.str y t from r1); cases e; cases (show T = "str" from hT); exact PySem.W.kia_one PySem.W.kitx_str I.kIn True.intro hk (fun z => nomatch z) fin
  | ref a =>
    cases (show u = Value.ref a from r1)
    rcases hT with ⟨rfl, xs, hs⟩ | ⟨rfl, xs, hs⟩
    · obtain ⟨its, rv, ⟨o, n, ho, hc, _⟩, _⟩ := I.list hs
      exact PySem.W.kia_one PySem.W.kitx_list I.kIn ⟨o, ho, hc⟩ hk (fun z => nomatch z) fin
    · obtain ⟨its, rv, ⟨o, ho, hc, _⟩, _⟩ := I.tuple hs
      exact PySem.W.kia_one PySem.W.kitx_tuple I.kIn ⟨o, ho, hc⟩ hk (fun z => nomatch z) fin
  | byt y => exact False.elim hT
  | flt y => exact False.elim hT
  | ty y => exact False.elim hT
end
end L2
set_option maxRecDepth 100000
set_option maxHeartbeats 4000000
namespace L2
open PySem PySem.Spec PyProof.Rows
structure XLeft (S : List Addr) (e : Addr) (oe : Obj) (h h' : Heap) (T : Addr) : Prop where
  keep : ∀ b o, h.get? b = some o → b ∉ S → b ≠ e → h'.get? b = some o
  slot : ∀ b o, h.get? b = some o → b ∈ S → ∃ sl, h'.get? b = some { o with slots := sl }
  new : h.objs.size ≤ T
  ne : T ≠ e
  exc : ∃ oe' vs, h'.get? e = some oe' ∧ oe'.cls = oe.cls ∧ oe'.dict = oe.dict ∧ oe'.data = .fields vs ∧ vs[1]? = some (.ref T)
  trc : ∃ oT ts, h'.get? T = some oT ∧ oT.data = .fields ts ∧ ts[3]? = some .none
section
variable {M : Model} {A : Around} {E : Value → Shared → Prop} {s : Shared}
structure Trc (h : Heap) (e : Addr) (oe : Obj) (T : Addr) : Prop where
  exc : h.get? e = some oe
  dat : ∃ vs, oe.data = .fields vs ∧ vs[1]? = some (.ref T)
  ne : T ≠ e
  trc : ∃ oT ts, h.get? T = some oT ∧ oT.data = .fields ts ∧ ts[3]? = some .none
end
end L2
set_option maxRecDepth 100000
set_option maxHeartbeats 4000000
namespace L2
open PySem PySem.Spec PyProof.Rows
theorem ObjOk.there {P : Program} {w : World} {H : Hp} {h : Heap} {a : Addr} {o : HO} (x : ObjOk P w H h a o) : ∃ u, h.get? a = some u := by
  cases o with
  | lst xs => exact let ⟨_, _, _, _, e⟩ := x; ⟨_, e⟩
  | tup xs => exact let ⟨_, _, _, ob, e, _⟩ := x; ⟨_, e⟩
  | dK kvs => exact let ⟨_, _, _, _, ob, _, _, e, _⟩ := x; ⟨_, e⟩
  | dT kvs => exact let ⟨_, _, _, _, ob, _, _, e, _⟩ := x; ⟨_, e⟩
  | set S n => exact let ⟨ob, _, _, _, e, _⟩ := x; ⟨_, e⟩
  | ins C dx fs => exact let ⟨_, _, _, e, _⟩ := x; ⟨_, e⟩
  | own y => exact x
  | xd fs => exact let ⟨_, ⟨_, _, _, e, _⟩, _⟩ := x; ⟨_, e⟩
  | rng lo hi => exact let ⟨_, _, _, e⟩ := x; ⟨_, e⟩
  | frz ob u => exact let ⟨e, _⟩ := x; ⟨_, e⟩
  | tbl ps => exact ⟨_, x⟩
  | met f y => exact ⟨_, x⟩
  | ext φ => exact x.2.1
theorem HOk.free {P : Program} {w : World} {H : Hp} {h : Heap} {a : Addr} (x : HOk P w H h) (n : h.get? a = none) : H a = none := by
  cases e : H a with
  | none => rfl
  | some o =>
    obtain ⟨u, hu⟩ := (x a o e).there
    rw [n] at hu; cases hu
structure Flies (P : Program) (w : World) (fs : List Addr) (H : Hp) (h : Heap) (x : Addr) (H' : Hp) (h' : Heap) (oe : Obj) (T C : Addr) : Prop where
  un : Un fs [] H H' h h'
  hok : HOk P w H' h'
  nx : h.get? x = none
  nT : h.get? T = none
  hx : H' x = none
  hT : H' T = none
  tr : Trc h' x oe T
  cls : oe.cls = .ref C
def CXE (P : Program) (w : World) : CXT := fun outer H s E e s' => ∃ x oe T H' C, e = .ref x ∧ s'.os = s.os ∧ AllBare s'.gens ∧ Flies P w (frs outer) H s.heap x H' s'.heap oe T C ∧ E (.ref C) oe.dict H'
section
variable {X : Cx} {pins : List (Addr × Obj)} {σ : St} {H : Hp} {s : Shared}
theorem Inv.old (I : Inv X pins σ H s) (hex : X.ex = []) {a : Addr} (n : s.heap.get? a = none) : X.s₀.heap.get? a = none := by
  cases e : X.s₀.heap.get? a with
  | none => rfl
  | some o =>
    obtain ⟨o', q⟩ := I.base.there a o e (by rw [hex]; simp)
    rw [n] at q; cases q
end
section
variable {P : Program} {w : World} {K : PySem.W.Frag} {mg : Str → Option Value} {base : Heap} {N : List Str} {qual : Str} {scope : Scope} {f : Addr} {cd : Value} {A : Around} {outer : List Env} {s0 : Shared} {H0 : Hp} {E : XK}
end
end L2
set_option maxRecDepth 100000
set_option maxHeartbeats 4000000
namespace L2
open PySem PySem.Spec PyProof.Rows
section
variable {X : Cx} {E : XK} {c : Str} {C : Addr} {np cpos pos : Pos} {e : Expr} {es : List Expr} {t : TA} {B newId initId : String} {bmB : List Value}
end
section
variable {P : Program} {w : World} {K : PySem.W.Frag} {mg : Str → Option Value} {base : Heap}
theorem Fun.okE {CX : CXT} {x qual : Str} {st : Stmt} {f : Addr} {fd : FuncData} {N ps : List Str} {k : Nat} {sp : Sp} (F : Fun K x qual st f fd) (S : FnScope N ps (defScope st)) (len : ∀ vs H Q E, sp vs H Q E → vs.length = ps.length)
    (hb : ∀ (cdv : Value) (A : Around) (outer : List Env) (s : Shared) (H : Hp) (vs : List V) (Q : VK) (E : XK), Room k (A.deeper (envOfC qual (defScope st) s.heap.objs.size f cdv)) → sp vs H Q E →
      ∃ t, PSs (cxOf CX P w K mg base N qual (defScope st) f cdv A outer s H E) (defBody st) t ∧ t { nx := fun _ H' => Q .non H', rt := Q } (start N vs) H) : FnOk P w K mg base CX (k + 1) f fd ps sp := by
  obtain ⟨oc, od, kV, doc, pm, an, cdv, ct, osl, rfl, look, hcd⟩ := F.ex
  exact fn_of look hcd S len (hb cdv)
end
end L2
set_option maxRecDepth 100000
set_option maxHeartbeats 4000000
namespace L2
open PySem PySem.Spec PyProof.Rows
def PassesS (CX : CXT) (X : Cx) (Es : St → XK) : Prop := ∀ (pins : List (Addr × Obj)) (σ : St) (H : Hp) (s : Shared) (e : Value) (s' : Shared), Inv X pins σ H s → CX X.stack H s (Es σ) e s' → X.xe e s'
theorem Passes.s {CX : CXT} {X : Cx} {E : XK} (h : Passes CX X E) : PassesS CX X fun _ => E := h
section
variable {X : Cx} {CX : CXT} {k : Nat} {f C : Addr} {fd : FuncData} {ps : List Str} {sp : Sp} {dvs : List V} {ds : List Value} {Es : St → XK} {x m : Str} {p pos apos : Pos} {e o : Expr} {es : List Expr} {ta : TE} {t : TA}
end
abbrev Cx.pinned (X : Cx) (p : List (Addr × Obj)) (E : Value → Shared → Prop) : Cx := { X with pn := p, xe := E }
theorem Cx.Ok.pinned {X : Cx} (ok : X.Ok) (p : List (Addr × Obj)) (E : Value → Shared → Prop) : (X.pinned p E).Ok := ⟨ok.mod, ok.kind, ok.glob, ok.blt, ok.above, ok.inj, ok.has, ok.cab, ok.hd, ok.frames, ok.stk, ok.exf, ok.bs, ok.bsz, ok.noex, ok.exfs, ok.funs, ok.frf⟩
theorem Cx.Ok.unpinned {X : Cx} {p : List (Addr × Obj)} {E : Value → Shared → Prop} (ok : (X.pinned p E).Ok) : X.Ok := ⟨ok.mod, ok.kind, ok.glob, ok.blt, ok.above, ok.inj, ok.has, ok.cab, ok.hd, ok.frames, ok.stk, ok.exf, ok.bs, ok.bsz, ok.noex, ok.exfs, ok.funs, ok.frf⟩
section
variable {X : Cx} {pins : List (Addr × Obj)} {σ : St} {H : Hp} {s : Shared} {E : Value → Shared → Prop}
end
end L2
set_option maxRecDepth 100000
set_option maxHeartbeats 4000000
namespace L2
open PySem PySem.Spec PyProof.Rows
def exO (a C : Addr) : HO := .ext fun h => ∃ o, h.get? a = some o ∧ o.cls = .ref C ∧ o.dict = none ∧ (∀ cd, o.data ≠ .cls cd)
section
variable {X : Cx} {pins : List (Addr × Obj)} {σ : St} {H : Hp} {s : Shared} {v : Value}
end
end L2
set_option maxRecDepth 100000
set_option maxHeartbeats 4000000
namespace L2
open PySem PySem.Spec PyProof.Rows
structure Caught (X : Cx) (pins : List (Addr × Obj)) (H : Hp) (s : Shared) (x C : Addr) : Prop where
  tr : ∃ oe T, Trc s.heap x oe T ∧ oe.cls = .ref C ∧ oe.dict = none
  hx : H x = none
  h0 : X.s₀.heap.get? x = none
  nl : x ≠ X.env.locals
  nc : ∀ y c, X.env.cells.lookup y = some c → c ≠ x
  np : ∀ p ∈ X.pn ++ pins, p.1 ≠ x
theorem Caught.kept {X : Cx} {pins : List (Addr × Obj)} {H : Hp} {s : Shared} {x C : Addr} {h' : Heap} (c : Caught X pins H s x C) (k : ∀ b u, s.heap.get? b = some u → h'.get? b = some u) : Caught X pins H { s with heap := h' } x C :=
  let ⟨oe, T, ⟨e, d, n, oT, ts, a1, a2⟩, hc⟩ := c.tr
  ⟨⟨oe, T, ⟨k _ _ e, d, n, oT, ts, k _ _ a1, a2⟩, hc⟩, c.hx, c.h0, c.nl, c.nc, c.np⟩
theorem Caught.obj {X : Cx} {pins : List (Addr × Obj)} {H : Hp} {s : Shared} {x C : Addr} (c : Caught X pins H s x C) : ∃ o, s.heap.get? x = some o ∧ o.cls = .ref C ∧ o.dict = none ∧ ∀ cd, o.data ≠ .cls cd :=
  let ⟨oe, T, ⟨e, ⟨vs, d, _⟩, _, _⟩, hc, hd⟩ := c.tr
  ⟨oe, e, hc, hd, fun cd z => by rw [d] at z; cases z⟩
section
variable {X : Cx} {c : Str} {Dc : Addr} {np pos : Pos} {b0 : Stmt} {suite : List Stmt} {rest : List ExceptHandler} {sub : Addr → Option Bool} {tb : TS} {th : Addr → TS}
end
end L2
set_option maxRecDepth 100000
set_option maxHeartbeats 4000000
namespace L2
open PySem PySem.Spec PyProof.Rows PySem.W
structure ExK (K : PySem.W.Frag) (D : Addr) : Prop where
  ga : findIn K (.ref D) "__getattribute__" = some (some (.builtin "BaseException.__getattribute__"))
  hk : findIn K (.ref D) "__getattr__" = some none
  cl : findIn K (.ref D) "__class__" = some (some (.builtin "object.__class__"))
  gt : specialIn K (.builtin "object.__class__") "__get__" = some (some (.builtin "getset_descriptor.__get__"))
  tk : takesIn K (.builtin "object.__class__") = some true
  ob : mroIn K D (.type "object") = some true
  be : mroIn K D (.type "BaseException") = some true
section
variable {prog : Program} {w : World} {A : Around} {E : Value → Shared → Prop} {s : Shared} {K : PySem.W.Frag} {x D : Addr} {ox : Obj}
theorem ExK.cls (k : ExK K D) : (clsIn K D).isSome = true := by
  obtain ⟨cd, hc, _⟩ := Option.bind_eq_some_iff.mp k.ob
  rw [hc]; rfl
end
end L2
set_option maxRecDepth 100000
set_option maxHeartbeats 4000000
namespace L2
open PySem PySem.Spec PyProof.Rows
section
variable {X : Cx} {pins : List (Addr × Obj)} {σ : List (Option V)} {H : Hp} {s : Shared} {h' : Heap}
theorem Inv.turnedL {t' : Nat} {ch : List Addr} (I : Inv X pins σ H s) (k : ∀ b o, b ∉ ch → s.heap.get? b = some o → h'.get? b = some o) (hf : ∀ b ∈ ch, FpOk X pins H b) : Inv X pins σ H { s with heap := h', toks := t' } := by
  have nit : ∀ b u, H b = some u → b ∉ ch := fun b u e z => by rw [(hf b z).1] at e; cases e
  refine I.step (g' := s.gens) (d' := s.drawn) (ch := ch) (fun b hb => ?_) (fun b o _ _ hc e _ => k b o hc e) (fun b o _ _ hc e _ => ⟨o.slots, k b o hc e⟩) (fun _ _ _ _ n => n)
    (fun b o hc e => ⟨o, k b o hc e⟩) (fun _ _ e => e) (fun _ _ _ e => e) (fun b ps e => ⟨#[], by rw [e]; simp⟩) (fun m hm => ?_) (fun b u e => ?_) I.bare
  · obtain ⟨f0, f1, f2, f3, f4, f5⟩ := hf b hb
    exact ⟨f3, f1, f4, f5⟩
  · obtain ⟨o, es, ep, ho, r⟩ := hm
    exact ⟨o, es, ep, k _ o (fun z => (hf _ z).2.1 rfl) ho, r⟩
  · refine (I.hok b u e).stay (fun c v hc q => k c v ?_ q) (fun _ q => q) fun _ _ q => q
    rcases hc with z | z
    · rw [z]; exact nit b u e
    · exact nit c _ z
theorem Inv.turnedT {t' : Nat} {ch : List Addr} {T : Addr} {xs : List V} (I : Inv X pins σ H s) (k : ∀ b o, b ∉ ch → s.heap.get? b = some o → h'.get? b = some o) (hf : ∀ b ∈ ch, FpOk X pins H b) (hT : s.heap.objs.size ≤ T)
    (new : ObjOk X.prog X.w (upd H T (.tup xs)) h' T (.tup xs)) : Inv X pins σ (upd H T (.tup xs)) { s with heap := h', toks := t' } := by
  have hn : H T = none := I.hok.fresh hT
  have nit : ∀ b u, H b = some u → b ∉ ch := fun b u e z => by rw [(hf b z).1] at e; cases e
  refine I.step (g' := s.gens) (d' := s.drawn) (ch := ch) (fun b hb => ?_) (fun b o _ _ hc e _ => k b o hc e) (fun b o _ _ hc e _ => ⟨o.slots, k b o hc e⟩) (fun b o _ e n => ?_)
    (fun b o hc e => ⟨o, k b o hc e⟩) (fun b xs e => by rw [upd_ne (ne_of_none e hn)]; exact e) (fun b o u e => by rw [upd_ne (ne_of_none e hn)]; exact e) (fun b ps e => ⟨#[], by rw [upd_ne (ne_of_none e hn), e]; simp⟩) (fun m hm => ?_) (fun b u e => ?_) I.bare
  · obtain ⟨f0, f1, f2, f3, f4, f5⟩ := hf b hb
    exact ⟨f3, f1, f4, f5⟩
  · have hb : b ≠ T := fun z => by
      subst z
      exact absurd (Nat.lt_of_lt_of_le (Heap.lt_size e) hT) (Nat.lt_irrefl _)
    rw [upd_ne hb]; exact n
  · obtain ⟨o, es, ep, ho, r⟩ := hm
    exact ⟨o, es, ep, k _ o (fun z => (hf _ z).2.1 rfl) ho, r⟩
  · by_cases hb : b = T
    · subst hb; rw [upd_same] at e; cases e; exact new
    · rw [upd_ne hb] at e
      refine (I.hok b u e).stay (fun c v hc q => k c v ?_ q) (fun c q => by rw [upd_ne (ne_of_none q hn)]; exact q) fun c xs q => by rw [upd_ne (ne_of_none q hn)]; exact q
      rcases hc with z | z
      · rw [z]; exact nit b u e
      · exact nit c _ z
end
def Itz (K : PySem.W.Frag) (a b : Addr) : It :=
  ⟨fun i H => ∃ xs ys x y, SqL K H a xs ∧ SqL K H b ys ∧ xs[i]? = some x ∧ ys[i]? = some y,
   fun i H v H' => ∃ T x y, H T = none ∧ v = .ref T ∧ H' = upd H T (.tup [x, y]) ∧ (∀ xs, SqL K H a xs → xs[i]? = some x) ∧ ∀ ys, SqL K H b ys → ys[i]? = some y,
   fun i H => ∃ xs ys, SqL K H a xs ∧ SqL K H b ys ∧ (xs.length ≤ i ∨ ys.length ≤ i)⟩
theorem two_ok {P : Program} {w : World} {H : Hp} {h : Heap} {T : Addr} {x y : V} {u v : Value} (rx : RelV x u) (ry : RelV y v) (hT : h.IsTuple T #[u, v]) : ObjOk P w H h T (.tup [x, y]) := by
  refine ⟨by simp only [List.length_cons, List.length_nil]; rw [sizeLine_eq]; decide, [u, v], .cons rx (.cons ry .nil), ?_⟩
  exact hT
theorem turn_zip {P : Program} {w : World} {K : PySem.W.Frag} {elts : List Expr} {kk : Nat} {tp : Pos} {z TI TO i1 i2 a b : Addr} (D : ZipApart z TI TO i1 i2 a b) :
    Turn P w K (.Tuple elts kk tp) (Itz K a b) [z, TI, TO, i1, i2] z (fun i h => IsZip h z TI TO .none ∧ IsPair h TI (.ref i1) (.ref i2) ∧ (∃ u v, IsPair h TO u v) ∧ h.IsListIter i1 a i ∧ h.IsListIter i2 b i) where
  mem := by simp
  obj := fun i h st c hc => by
    obtain ⟨q1, q2, ⟨u, v, q3⟩, ⟨o1, e1, c1, d1⟩, ⟨o2, e2, c2, d2⟩⟩ := st
    simp only [List.mem_cons, List.not_mem_nil, or_false] at hc
    rcases hc with rfl | rfl | rfl | rfl | rfl
    · exact ⟨_, q1, fun v z => by have z' : Data.fields _ = Data.cell v := z; cases z'⟩
    · exact ⟨_, q2, fun v z => by have z' : Data.seq _ _ = Data.cell v := z; cases z'⟩
    · exact ⟨_, q3, fun v z => by have z' : Data.seq _ _ = Data.cell v := z; cases z'⟩
    · exact ⟨o1, e1, fun v z => by rw [d1] at z; cases z⟩
    · exact ⟨o2, e2, fun v z => by rw [d2] at z; cases z⟩
  keep := fun i h h' st k => by
    obtain ⟨q1, q2, ⟨u, v, q3⟩, q4, q5⟩ := st
    exact ⟨k z (by simp) _ q1, k TI (by simp) _ q2, ⟨u, v, k TO (by simp) _ q3⟩, q4.at fun o e => k i1 (by simp) o e, q5.at fun o e => k i2 (by simp) o e⟩
  item := by
    intro X hP hw hK hc i pins s σ H E I hf st hg
    subst hP hw hK
    obtain ⟨xs, ys, x, y, hq1, hq2, hx, hy⟩ := hg
    obtain ⟨its1, rv1, p1, hz1⟩ := I.list hq1
    obtain ⟨its2, rv2, p2, hz2⟩ := I.list hq2
    obtain ⟨u, hu, ru⟩ := rv1.get hx
    obtain ⟨v, hv, rv⟩ := rv2.get hy
    obtain ⟨q1, q2, q3, q4, q5⟩ := id st
    have W := WalksT.zip2 (prog := X.prog) (w := X.w) (A := X.A) (I.ok.hd hc) z TI TO i1 i2 a b D its1.toArray its2.toArray
    have hi1 : i < its1.length := (List.getElem?_eq_some_iff.mp hu).1
    have hi2 : i < its2.length := (List.getElem?_eq_some_iff.mp hv).1
    refine W.item i s _ _ (by simp; omega) ⟨q1, q2, q3, q4, q5, p1.isList, p2.isList⟩ fun T vals h1 tk hP hT isT mid kk1 => ⟨.ref T, rfl, W.go elts _ tp i T _ _ _ mid fun h2 st2 kk2 => ?_⟩
    obtain ⟨u', v', e1, e2, rfl⟩ := hP
    rw [show its1.toArray[i]? = its1[i]? by simp, hu] at e1
    rw [show its2.toArray[i]? = its2[i]? by simp, hv] at e2
    cases e1; cases e2
    have nT : T ∉ ([z, TO, i1, i2] : List Addr) := W.apart i T _ mid
    have sub : ∀ c, c ∈ ([z, TO, i1, i2] : List Addr) → c ∈ ([z, TI, TO, i1, i2] : List Addr) := fun c hc => by
      simp only [List.mem_cons, List.not_mem_nil, or_false] at hc ⊢
      rcases hc with h | h | h | h <;> simp [h]
    have kk : ∀ c o, c ∉ ([z, TO, i1, i2] : List Addr) → s.heap.get? c = some o → h2.get? c = some o := fun c o hc e => kk2 c o hc (kk1 c o hc e)
    have isT2 : h2.IsTuple T #[u, v] := by
      obtain ⟨o, e, c, d⟩ := isT
      exact ⟨o, kk2 T o nT e, c, d⟩
    have I2 : Inv X pins σ (upd H T (.tup [x, y])) { s with heap := h2, toks := tk } := I.turnedT kk (fun c hc => hf c (sub c hc)) hT (two_ok ru rv isT2)
    refine ⟨.ref T, _, I2, rfl, ⟨T, x, y, I.hok.fresh hT, rfl, rfl, fun xs' h => by rw [I.list_inj h hq1]; exact hx, fun ys' h => by rw [I.list_inj h hq2]; exact hy⟩, ⟨st2.1, st2.2.1, st2.2.2.1, st2.2.2.2.1, st2.2.2.2.2.1⟩, fun c hc => ?_⟩
    have hc0 := (hf c hc).1
    rw [upd_ne (fun e => ?_)]
    · exact hc0
    · subst e
      simp only [List.mem_cons, List.not_mem_nil, or_false] at hc
      rcases hc with h | h | h | h | h
      · exact nT (by simp [h])
      · have : TI < s.heap.objs.size := Heap.lt_size q2
        rw [← h] at this
        exact absurd (Nat.lt_of_lt_of_le this hT) (Nat.lt_irrefl _)
      · exact nT (by simp [h])
      · exact nT (by simp [h])
      · exact nT (by simp [h])
  done := by
    intro X hP hw hK hc i pins s σ H E I hf st hg
    subst hP hw hK
    obtain ⟨xs, ys, hq1, hq2, hx⟩ := hg
    obtain ⟨its1, rv1, p1, hz1⟩ := I.list hq1
    obtain ⟨its2, rv2, p2, hz2⟩ := I.list hq2
    have l1 := rv1.length
    have l2 := rv2.length
    obtain ⟨q1, q2, ⟨u, v, q3⟩, q4, q5⟩ := id st
    refine wpAny_pyNext_zip_end (I.ok.hd hc) D q1 q2 q3 q4 q5 p1.isList p2.isList (by
      rcases hx with h | h
      · left; simp; omega
      · right; simp; omega) fun h' hk => ⟨rfl, ?_⟩
    exact I.turnedL (t' := s.toks) (ch := [z, TI, TO, i1, i2]) (fun c o hc e => hk c o (fun x => hc (by simp [x])) (fun x => hc (by simp [x])) (fun x => hc (by simp [x])) (fun x => hc (by simp [x])) e) hf
  self := fun _ _ _ _ _ st h => wpAny_pyIter_zip st.1 h
section
variable {X : Cx} {tg : Expr}
def iZip (K : PySem.W.Frag) (ta : TA) : TI := fun σ H R => ta σ H fun vs H1 => ∃ a b, vs = [.ref a, .ref b] ∧ (∃ xs, SqL K H1 a xs) ∧ (∃ ys, SqL K H1 b ys) ∧ R (Itz K a b) H1
theorem pi_zip {elts : List Expr} {kk : Nat} {tp : Pos} {a b : Expr} {ta : TA} {p pos : Pos} (hg : Gl X "zip") (hm : X.mg "zip" = none) (ha : PA X [a, b] ta) (hs : starEach [a, b] X.env = [(false, eval a X.env), (false, eval b X.env)] := by rfl) (hs2 : starEach [b] X.env = [(false, eval b X.env)] := by rfl) :
    PI X (.Tuple elts kk tp) (.Call (.Name "zip" p) [a, b] [] pos) (iZip X.K ta) := by
  intro pins s σ H R I h
  refine Call_ (ld_blt I hg hm Boot.«zip» (PyProof.Rows.callWith_type1 (thn (ha pos pins s σ H _ I h) fun us s1 ⟨vs, H1, I1, r1, q1⟩ => ?_) (by rw [hs, hs2]) (by rw [hs2]; rfl)))
  obtain ⟨l1, l2, e, ⟨xs, hq1⟩, ⟨ys, hq2⟩, q⟩ := q1
  subst e
  obtain ⟨u, v, rfl, r, r'⟩ := vals2 r1
  cases r
  cases r'
  obtain ⟨its1, rv1, p1, hz1⟩ := I1.list hq1
  obtain ⟨its2, rv2, p2, hz2⟩ := I1.list hq2
  refine call_zip_2 p1.isList p2.isList fun h' hz hTI hTO hi1 hi2 hsz hk => ?_
  have a1 : l1 < s1.heap.objs.size := by obtain ⟨_, e, _⟩ := p1.isList; exact Heap.lt_size e
  have a2 : l2 < s1.heap.objs.size := by obtain ⟨_, e, _⟩ := p2.isList; exact Heap.lt_size e
  refine wpAny_pyIter_zip hz ⟨_, _, _, _, H1, rfl, I1.kept (t' := s1.toks) hk, turn_zip (zipApart_new a1 a2), ⟨hz, hTI, ⟨_, _, hTO⟩, hi1, hi2⟩, fun b hb => ?_, q⟩
  have : s1.heap.objs.size ≤ b := by
    simp only [List.mem_cons, List.not_mem_nil, or_false] at hb
    rcases hb with rfl | rfl | rfl | rfl | rfl <;> omega
  exact I1.fpOk this (I1.hok.fresh this)
end
end L2
set_option maxRecDepth 100000
set_option maxHeartbeats 4000000
namespace L2
open PySem PySem.Spec PyProof.Rows
def pick {α : Type} (xs : List α) (lo hi st : Option Int) : List α := (sliceRange (sliceBounds lo hi st xs.length).1 (sliceBounds lo hi st xs.length).2.1 (sliceBounds lo hi st xs.length).2.2).filterMap (xs[·]?)
section
variable {X : Cx} {e se : Expr} {te : TE} {lo hi : Option Expr} {tl th ts : TO} {pos p2 : Pos}
end
end L2
set_option maxRecDepth 100000
set_option maxHeartbeats 4000000
namespace L2
open PySem PySem.Spec PyProof.Rows
section
variable {X : Cx} {tg : Expr}
end
end L2
set_option maxRecDepth 100000
set_option maxHeartbeats 4000000
namespace L2
open PySem PySem.Spec PyProof.Rows
def pickS (x : Str) (lo hi : Option Int) : Str :=
  if ((Builtin.Str.strSliceIndices lo hi 1 x.length).length == x.length) = true then x else ⟨((Builtin.Str.strSliceIndices lo hi 1 x.length).filterMap (x.cps[·]?)).toArray⟩
section
variable {X : Cx}
def rSlT' : V → Option Int → Option Int → Hp → VK → Prop := fun x lo hi H Q => ∃ z, x = .str z ∧ z.length ≤ sizeLine ∧ Q (.str (pickS z lo hi)) H
theorem sl_str : SlR X rSlT' := by
  intro pins s σ H x v vl vu lo hi sl Q I rx hs pl pu h
  obtain ⟨z, rfl, hz, q⟩ := h
  obtain ⟨t, rfl⟩ := rx
  refine ⟨"str", _, F.slot_str_getitem.lookup, typeIs_str _ _ _, ?_⟩
  have part : ∀ {v : Value} {o : Option Int}, IsPart v o → ∃ p : Option (Int × Tok), v = partValue p ∧ p.map (·.1) = o := fun h => by
    cases h with
    | none => exact ⟨none, rfl, rfl⟩
    | int i t => exact ⟨some (i, t), rfl, rfl⟩
  obtain ⟨l, rfl, rfl⟩ := part pl
  obtain ⟨u, rfl, rfl⟩ := part pu
  refine wpAny_getItem_str_slice (l := l) (u := u) (st := none) hs rfl ?_
  unfold sliceMade
  show Made.post (if (true && ((Builtin.Str.strSliceIndices (l.map (·.1)) (u.map (·.1)) 1 z.length).length == z.length)) = true then _ else _) _ _
  unfold pickS at q
  rw [Bool.true_and]
  by_cases hc : ((Builtin.Str.strSliceIndices (l.map (·.1)) (u.map (·.1)) 1 z.length).length == z.length) = true
  · rw [if_pos hc] at q ⊢
    exact ⟨.str z, H, I, ⟨t, rfl⟩, q⟩
  · rw [if_neg hc] at q ⊢
    refine ⟨?_, ⟨.str _, H, I.tok _, ⟨_, rfl⟩, q⟩⟩
    show (List.toArray _).size ≤ _
    rw [List.size_toArray]
    exact Nat.le_trans (Nat.le_trans (List.length_filterMap_le _ _) (sliceIndices_le _ _ _)) hz
end
end L2
set_option maxRecDepth 100000
set_option maxHeartbeats 4000000
namespace L2
open PySem PySem.Spec PyProof.Rows
section
variable {X : Cx}
end
end L2
set_option maxRecDepth 100000
set_option maxHeartbeats 4000000
namespace L2
open PySem PySem.Spec PyProof.Rows
section
variable {X : Cx}
theorem strs_of : ∀ {texts : List Str} {its : List Value}, Vals (texts.map V.str) its → ∃ l : List (Str × Tok), strValues l = its ∧ l.map (·.1) = texts
  | [], _, h => by cases h; exact ⟨[], rfl, rfl⟩
  | x :: texts, _, h => by
    cases h with
    | cons r rs =>
      obtain ⟨t, rfl⟩ := r
      obtain ⟨l, rfl, e⟩ := strs_of rs
      exact ⟨(x, t) :: l, rfl, by rw [List.map_cons, e]⟩
def rJoin (K : PySem.W.Frag) : V → List V → Hp → VK → Prop := fun x vs H Q => ∃ sep b texts, x = .str sep ∧ vs = [.ref b] ∧ SqL K H b (texts.map V.str) ∧ JoinOk sep texts = true ∧ Q (.str (Txt.join sep texts)) H
theorem mt_join : MtR X "str.join" (rJoin X.K) := by
  intro pins s σ H x vs v us Q I rx rv h
  obtain ⟨sep, b, texts, rfl, rfl, hs, hok, q⟩ := h
  obtain ⟨t, rfl⟩ := rx
  obtain ⟨u, rfl, ru⟩ := rv.one
  cases ru
  obtain ⟨its, r', pl, hz⟩ := I.list hs
  obtain ⟨l, rfl, e⟩ := strs_of r'
  exact SC.join pl.isList e hok fun t' k => ⟨.str _, H, I.tok _, ⟨_, rfl⟩, q⟩
end
theorem weights {ns : List Int} : ∀ {m : Nat}, PySem.W.WData.weightAll (ns.map PySem.W.WData.int) ≤ m → ∀ n ∈ ns, n.natAbs < 2 ^ (m + 1) := by
  induction ns with
  | nil => intro m _ n hn; cases hn
  | cons a ns ih =>
    intro m h n hn
    rw [List.map_cons] at h
    unfold PySem.W.WData.weightAll at h
    rcases List.mem_cons.mp hn with rfl | hn
    · have h1 : PySem.W.WData.weight (.int n) ≤ m := by omega
      unfold PySem.W.WData.weight at h1
      split at h1
      · rename_i hz
        have : n = 0 := by simpa using hz
        subst this
        exact Nat.two_pow_pos _
      · have h2 : n.natAbs < 2 ^ (n.natAbs.log2 + 1) := Nat.lt_log2_self
        exact Nat.lt_of_lt_of_le h2 (Nat.pow_le_pow_right (by decide) (by omega))
    · exact ih (m := m) (by omega) n hn
open PySem.W PySem.Calls in
theorem attachS {l : OpenLaw} {n : Nat} {q : Program} {loose : List Str} {XP : (Str → Option Value) → Heap → Prop} {YP : World → Heap → Prop} {d : DefRec}
    (hn : l.most = some n) (hdf : d.params.defaults = [])
    (call : ∀ (w : World) (s₀ s₁ : Shared) (mg mb : Str → Option Value) (fa : Addr) (o : Obj) (pm cd doc : Value) (a : Addr) (vs : List Value) (ns : List Int), (∀ i ∈ ns, i.natAbs < 2 ^ 1048577) →
      Ground q loose [] XP w s₀ mg mb s₁.heap → YP w s₁.heap →
      s₁.heap.get? fa = some o → o.data = .func (docDef d.name d.params d.body d.scope pm cd doc) → s₁.heap.CodeRec cd d.name → mg d.name = some (.ref fa) →
      s₁.heap.get? a = some { cls := .type "list", data := .seq vs.toArray } → IntsAre vs ns → ns.length ≤ n → s₁.gens = #[] →
      codeAny (model l.prog w) callerA (.call (.ref fa) ⟨[.ref a], []⟩) (fun r s' => r = .ok (.ret (.bool true)) ∧ OldK s₁.heap s'.heap ∧ s'.os = s₁.os ∧ AllBare s'.gens) s₁) :
    WalkO q loose XP YP l.row.toRowW d [] (fun f vs => PySem.call f vs) := by
  intro w s₀ s₁ mg mb G Y fa o pm cd doc dV kV ho hd hcd hD hmg hg args vals as hpre hlay hrd hwl hlo
  obtain rfl : dV = .none := Dflts.none hD hdf
  obtain rfl : kV = .none := Dflts.noKw hD
  obtain ⟨a, vs, ns, rfl, rfl, hobj, hints, hlen⟩ := Att.script_of hn hpre hwl
  have hsz : ∀ i ∈ ns, i.natAbs < 2 ^ 1048577 := by
    unfold WData.layableAll at hlay
    rw [List.all_cons, Bool.and_eq_true] at hlay
    have h1 := hlay.1
    unfold WData.layable at h1
    rw [Bool.and_eq_true] at h1
    have h2 := of_decide_eq_true h1.2
    unfold WData.weight at h2
    exact weights (m := 1048576) (Nat.le_trans h2 (by decide))
  refine enter_call (codeAny_mono (call w s₀ s₁ mg mb fa o pm cd doc a vs ns hsz G Y ho (fd_plain hd) hcd hmg hobj hints hlen hg) fun r s' hq => ?_)
  obtain ⟨rfl, h2, h3, h4⟩ := hq
  exact ⟨.inl ⟨.bool true, .bool true, [], rfl, fun _ => rfl, .bool true, Att.post_true l _, fun _ => ⟨List.Pairwise.nil, fun _ hm => (nomatch hm)⟩⟩, h2, h3, h4⟩
theorem walk_ofS {l : PySem.W.OpenLaw} {n k : Nat} {q : Program} {loose : List Str} {XP : (Str → Option Value) → Heap → Prop} {YP : World → Heap → Prop} {d : DefRec} {K : Params → PySem.W.Frag} {sp : PySem.W.Frag → Sp} {x : Str} (hn : l.most = some n) (hn2 : n ≤ sizeLine)
    (hdf : d.params.defaults = []) (hr : Room k callerA) (hi : importsNone q = true) (hY : ∀ (w : World) (h : Heap), YP w h → (K w.params).In h) (F : ∀ (w : World) (mg : Str → Option Value) (fa : Addr) (h : Heap), (K w.params).In h → h.Ns mainGlobals mg → mg d.name = some (.ref fa) →
      ∃ fd : FuncData, (∀ (s : Shared) (u : Value), BindsTo s fd ⟨[u], []⟩ [(x, u)]) ∧ ∀ base : Heap, (K w.params).In base → base.Ns mainGlobals mg → FnOk l.prog w (K w.params) mg base (CXE l.prog w) k fa fd [x] (sp (K w.params)))
    (hsp : ∀ (K : PySem.W.Frag) (H : Hp) (a : Addr) (ns : List Int), (∀ i ∈ ns, i.natAbs < 2 ^ 1048577) → ns.length ≤ n → Only H → SqL K H a (ns.map V.int) → sp K [.ref a] H (fun v _ => v = .bl true) fun _ _ _ => False) : PySem.W.WalkO q loose XP YP l.row.toRowW d [] (fun f vs => PySem.call f vs) := by
  refine attachS hn hdf fun w s₀ s₁ mg mb fa o pm cd doc a vs ns hsz G Y ho hd hcd hmg hobj hints hlen hg => ?_
  have KX := hY w _ Y
  obtain ⟨fd, hb, hF⟩ := F w mg fa _ KX G.T.g hmg
  exact law_call KX G.T.g G.T.b G.T.builtins G.T.nolimit (G.T.seer hi) hg hobj hints (Nat.le_trans hlen hn2) hr hF hb (fun H hO hS => hsp (K w.params) H a ns hsz hlen hO hS) fun H e s' ⟨_, _, _, _, _, _, _, _, _, z⟩ => z
end L2
set_option maxRecDepth 100000
set_option maxHeartbeats 4000000
namespace L2
open PySem PySem.Spec PyProof.Rows
section
variable {X : Cx}
def isT (y : Str) : Value → Bool
  | .str a _ => a == y
  | _ => false
end
end L2
set_option maxRecDepth 100000
set_option maxHeartbeats 4000000
namespace L2
open PySem PySem.Spec PyProof.Rows
section
variable {prog : Program} {w : World} {A : Around} {R : Result → Shared → Prop} {I : Addr} {fp wr : List Addr} {G : Array GenState → Array GenState → Prop} {n : Nat} {P : Nat → Value → Prop} {St : Nat → Shared → Prop}
end
section
variable {prog : Program} {w : World} {A : Around} {E : Value → Shared → Prop} {s : Shared}
end
section
variable {X : Cx} {e : Expr} {te : TE} {x y : Str} {p1 p2 q1 q2 : Pos}
end
end L2
set_option maxRecDepth 100000
set_option maxHeartbeats 4000000
namespace M
open PySem L2
inductive D where
  | non | bl (b : Bool) | int (i : Int) | str (x : Str) | lst (xs : List D) | tup (xs : List D) | ptr (k : Nat) | obj (c : Nat) (ns : List Str) (ds : List D) | exn (c : Nat)
inductive Cell where
  | dead | lst (xs : List D) | ins (c : Nat) (ns : List Str) (ds : List D)
abbrev Store := List Cell
structure S where
  r : List (Option D)
  o : Store
inductive Res (α : Type) where
  | ok (a : α) | exc (c : Nat) (a : D) (o : S) | bad
def Res.bind {α β : Type} (x : Res α) (f : α → Res β) : Res β := match x with
  | .ok a => f a
  | .exc c a o => .exc c a o
  | .bad => .bad
@[simp] theorem bind_ok {α β : Type} (a : α) (f : α → Res β) : (Res.ok a).bind f = f a := rfl
@[simp] theorem bind_exc {α β : Type} (c : Nat) (a : D) (o : S) (f : α → Res β) : (Res.exc c a o : Res α).bind f = .exc c a o := rfl
@[simp] theorem bind_bad {α β : Type} (f : α → Res β) : (Res.bad : Res α).bind f = .bad := rfl
abbrev Wsh := Nat → D → S → Hp → Hp → List Addr → Prop
structure Ct where
  K : PySem.W.Frag
  ca : Nat → Addr
  W : Wsh
mutual
def Rep (K : PySem.W.Frag) (ca : Nat → Addr) (θ : List Addr) (F : Hp) : D → V → Prop
  | .non, v => v = .non
  | .bl b, v => v = .bl b
  | .int i, v => v = .int i
  | .str x, v => v = .str x
  | .lst ds, v => ∃ a xs, v = .ref a ∧ SqL K F a xs ∧ Reps K ca θ F ds xs
  | .tup ds, v => ∃ a xs, v = .ref a ∧ SqT K F a xs ∧ Reps K ca θ F ds xs
  | .ptr k, v => ∃ a, v = .ref a ∧ θ[k]? = some a
  | .obj c ns ds, v => ∃ a dx xs, v = .ref a ∧ F a = some (.ins (ca c) dx (ns.zip xs)) ∧ ns.length = xs.length ∧ Reps K ca θ F ds xs
  | .exn c, v => ∃ a, v = .ref a ∧ F a = some (exO a (ca c))
def Reps (K : PySem.W.Frag) (ca : Nat → Addr) (θ : List Addr) (F : Hp) : List D → List V → Prop
  | [], xs => xs = []
  | d :: ds, xs => ∃ v r, xs = v :: r ∧ Rep K ca θ F d v ∧ Reps K ca θ F ds r
end
mutual
def pureD : D → Bool
  | .lst ds => pureDs ds
  | .tup ds => pureDs ds
  | .ptr _ => false
  | .obj _ _ ds => pureDs ds
  | _ => true
def pureDs : List D → Bool
  | [] => true
  | d :: ds => pureD d && pureDs ds
end
def scalD : D → Bool
  | .non => true | .bl _ => true | .int _ => true | .str _ => true | _ => false
theorem Same.seqT {K : PySem.W.Frag} {H H' : Hp} {a : Addr} {xs : List V} (e : Same H H') (h : SqT K H a xs) : SqT K H' a xs := by
  rcases h with (h | ⟨o, h⟩) | h
  · exact .inl (.inl (e _ _ h))
  · exact .inl (.inr ⟨o, e _ _ h⟩)
  · exact .inr h
section
variable {K : PySem.W.Frag} {ca : Nat → Addr} {θ θ1 : List Addr} {F F1 : Hp}
mutual
theorem Rep.mono (hF : Same F F1) (hθ : ∃ r, θ1 = θ ++ r) : ∀ {d : D} {v : V}, Rep K ca θ F d v → Rep K ca θ1 F1 d v
  | .non, _, h => h
  | .bl _, _, h => h
  | .int _, _, h => h
  | .str _, _, h => h
  | .lst ds, _, h => by
    unfold Rep at h ⊢
    obtain ⟨a, xs, e, hs, hr⟩ := h
    exact ⟨a, xs, e, hF.seq hs, Reps.mono hF hθ hr⟩
  | .tup ds, _, h => by
    unfold Rep at h ⊢
    obtain ⟨a, xs, e, hs, hr⟩ := h
    exact ⟨a, xs, e, Same.seqT hF hs, Reps.mono hF hθ hr⟩
  | .ptr k, _, h => by
    unfold Rep at h ⊢
    obtain ⟨a, e, hk⟩ := h
    obtain ⟨r, rfl⟩ := hθ
    refine ⟨a, e, ?_⟩
    rw [List.getElem?_append_left (List.getElem?_eq_some_iff.mp hk).1]
    exact hk
  | .obj c ns ds, _, h => by
    unfold Rep at h ⊢
    obtain ⟨a, dx, xs, e, ha, hl, hr⟩ := h
    exact ⟨a, dx, xs, e, hF _ _ ha, hl, Reps.mono hF hθ hr⟩
  | .exn c, _, h => by
    unfold Rep at h ⊢
    obtain ⟨a, e, ha⟩ := h
    exact ⟨a, e, hF _ _ ha⟩
theorem Reps.mono (hF : Same F F1) (hθ : ∃ r, θ1 = θ ++ r) : ∀ {ds : List D} {xs : List V}, Reps K ca θ F ds xs → Reps K ca θ1 F1 ds xs
  | [], _, h => h
  | d :: ds, _, h => by
    unfold Reps at h ⊢
    obtain ⟨v, r, e, h1, h2⟩ := h
    exact ⟨v, r, e, Rep.mono hF hθ h1, Reps.mono hF hθ h2⟩
end
mutual
theorem Rep.pure : ∀ {d : D} {v : V}, pureD d = true → Rep K ca θ F d v → Rep K ca θ1 F d v
  | .non, _, _, h => h
  | .bl _, _, _, h => h
  | .int _, _, _, h => h
  | .str _, _, _, h => h
  | .lst ds, _, p, h => by
    unfold Rep at h ⊢
    obtain ⟨a, xs, e, hs, hr⟩ := h
    exact ⟨a, xs, e, hs, Reps.pure (by simpa [pureD] using p) hr⟩
  | .tup ds, _, p, h => by
    unfold Rep at h ⊢
    obtain ⟨a, xs, e, hs, hr⟩ := h
    exact ⟨a, xs, e, hs, Reps.pure (by simpa [pureD] using p) hr⟩
  | .ptr k, _, p, h => by simp [pureD] at p
  | .obj c ns ds, _, p, h => by
    unfold Rep at h ⊢
    obtain ⟨a, dx, xs, e, ha, hl, hr⟩ := h
    exact ⟨a, dx, xs, e, ha, hl, Reps.pure (by simpa [pureD] using p) hr⟩
  | .exn c, _, _, h => by
    unfold Rep at h ⊢
    exact h
theorem Reps.pure : ∀ {ds : List D} {xs : List V}, pureDs ds = true → Reps K ca θ F ds xs → Reps K ca θ1 F ds xs
  | [], _, _, h => h
  | d :: ds, _, p, h => by
    unfold Reps at h ⊢
    obtain ⟨v, r, e, h1, h2⟩ := h
    simp only [pureDs, Bool.and_eq_true] at p
    exact ⟨v, r, e, Rep.pure p.1 h1, Reps.pure p.2 h2⟩
end
theorem Rep.scal {d : D} {v : V} (p : scalD d = true) (h : Rep K ca θ F d v) : Rep K ca θ1 F1 d v := by
  cases d <;> first | exact h | (simp [scalD] at p)
theorem Reps.length : ∀ {ds : List D} {xs : List V}, Reps K ca θ F ds xs → xs.length = ds.length
  | [], _, h => by unfold Reps at h; rw [h]; rfl
  | d :: ds, _, h => by
    unfold Reps at h
    obtain ⟨v, r, rfl, _, h2⟩ := h
    rw [List.length_cons, List.length_cons, Reps.length h2]
theorem Reps.get : ∀ {ds : List D} {xs : List V} {i : Nat} {d : D}, Reps K ca θ F ds xs → ds[i]? = some d → ∃ v, xs[i]? = some v ∧ Rep K ca θ F d v
  | [], _, _, _, _, e => by simp at e
  | d :: ds, _, 0, _, h, e => by
    unfold Reps at h
    obtain ⟨v, r, rfl, h1, _⟩ := h
    simp at e
    subst e
    exact ⟨v, rfl, h1⟩
  | d :: ds, _, i + 1, x, h, e => by
    unfold Reps at h
    obtain ⟨v, r, rfl, _, h2⟩ := h
    obtain ⟨u, e1, e2⟩ := Reps.get (i := i) (d := x) h2 (by simpa using e)
    exact ⟨u, by simpa using e1, e2⟩
theorem Reps.append : ∀ {ds es : List D} {xs ys : List V}, Reps K ca θ F ds xs → Reps K ca θ F es ys → Reps K ca θ F (ds ++ es) (xs ++ ys)
  | [], _, _, _, h, k => by unfold Reps at h; rw [h]; exact k
  | d :: ds, _, _, _, h, k => by
    unfold Reps at h
    obtain ⟨v, r, rfl, h1, h2⟩ := h
    show Reps K ca θ F (d :: (ds ++ _)) (v :: (r ++ _))
    unfold Reps
    exact ⟨v, _, rfl, h1, Reps.append h2 k⟩
theorem Reps.one {d : D} {v : V} (h : Rep K ca θ F d v) : Reps K ca θ F [d] [v] := by
  unfold Reps
  exact ⟨v, [], rfl, h, by unfold Reps; rfl⟩
theorem Reps.nil : Reps K ca θ F [] [] := by unfold Reps; rfl
theorem Reps.cons {d : D} {v : V} {ds : List D} {xs : List V} (h : Rep K ca θ F d v) (k : Reps K ca θ F ds xs) : Reps K ca θ F (d :: ds) (v :: xs) := by
  unfold Reps
  exact ⟨v, xs, rfl, h, k⟩
theorem Reps.take : ∀ {ds : List D} {xs : List V} (n : Nat), Reps K ca θ F ds xs → Reps K ca θ F (ds.take n) (xs.take n)
  | _, _, 0, _ => by simp; exact Reps.nil
  | [], _, n + 1, h => by unfold Reps at h; rw [h]; exact Reps.nil
  | d :: ds, _, n + 1, h => by
    unfold Reps at h
    obtain ⟨v, r, rfl, h1, h2⟩ := h
    exact Reps.cons h1 (Reps.take n h2)
theorem Reps.drop : ∀ {ds : List D} {xs : List V} (n : Nat), Reps K ca θ F ds xs → Reps K ca θ F (ds.drop n) (xs.drop n)
  | _, _, 0, h => h
  | [], _, n + 1, h => by unfold Reps at h; rw [h]; exact Reps.nil
  | d :: ds, _, n + 1, h => by
    unfold Reps at h
    obtain ⟨v, r, rfl, h1, h2⟩ := h
    exact Reps.drop n h2
theorem Reps.set {d : D} {v : V} (h : Rep K ca θ F d v) : ∀ {ds : List D} {xs : List V} (i : Nat), Reps K ca θ F ds xs → Reps K ca θ F (ds.set i d) (xs.set i v)
  | [], _, _, k => by unfold Reps at k; rw [k]; exact Reps.nil
  | _ :: _, _, 0, k => by
    unfold Reps at k
    obtain ⟨v, r, rfl, h1, h2⟩ := k
    exact Reps.cons h h2
  | _ :: _, _, i + 1, k => by
    unfold Reps at k
    obtain ⟨v, r, rfl, h1, h2⟩ := k
    exact Reps.cons h1 (Reps.set h i h2)
end
structure Stp (H F : Hp) (θ : List Addr) (H1 F1 : Hp) (θ1 : List Addr) : Prop where
  ff : Same F F1
  th : ∃ r, θ1 = θ ++ r ∧ ∀ a ∈ r, H a = none
  kp : ∀ b o, H b = some o → b ∉ θ → H1 b = some o
  al : ∀ b o, H b = some o → ∃ o', H1 b = some o'
  nf : ∀ b o, F1 b = some o → F b = some o ∨ H b = none ∨ b ∈ θ
theorem Stp.refl {H F : Hp} {θ : List Addr} : Stp H F θ H F θ := ⟨Same.refl _, ⟨[], by simp, by simp⟩, fun _ _ h _ => h, fun _ o h => ⟨o, h⟩, fun _ _ h => .inl h⟩
theorem Stp.pre {H F H1 F1 : Hp} {θ θ1 : List Addr} (x : Stp H F θ H1 F1 θ1) : ∃ r, θ1 = θ ++ r := let ⟨r, e, _⟩ := x.th; ⟨r, e⟩
theorem Stp.trans {H F H1 F1 H2 F2 : Hp} {θ θ1 θ2 : List Addr} (x : Stp H F θ H1 F1 θ1) (y : Stp H1 F1 θ1 H2 F2 θ2) : Stp H F θ H2 F2 θ2 := by
  obtain ⟨r, rfl, hr⟩ := x.th
  obtain ⟨r2, rfl, hr2⟩ := y.th
  refine ⟨x.ff.trans y.ff, ⟨r ++ r2, by rw [List.append_assoc], fun a ha => ?_⟩, fun b o h hb => ?_, fun b o h => ?_, fun b o h => ?_⟩
  · rcases List.mem_append.mp ha with z | z
    · exact hr a z
    · cases e : H a with
      | none => rfl
      | some o =>
        obtain ⟨o', e'⟩ := x.al a o e
        rw [hr2 a z] at e'
        cases e'
  · refine y.kp b o (x.kp b o h hb) fun hm => ?_
    rcases List.mem_append.mp hm with z | z
    · exact hb z
    · rw [hr b z] at h
      cases h
  · obtain ⟨o', e'⟩ := x.al b o h
    exact y.al b o' e'
  · rcases y.nf b o h with z | z | z
    · exact x.nf b o z
    · refine .inr (.inl ?_)
      cases e : H b with
      | none => rfl
      | some o' =>
        obtain ⟨o2, e2⟩ := x.al b o' e
        rw [z] at e2
        cases e2
    · rcases List.mem_append.mp z with q | q
      · exact .inr (.inr q)
      · exact .inr (.inl (hr b q))
def CellOk (K : PySem.W.Frag) (ca : Nat → Addr) (H F : Hp) (θ : List Addr) (a : Addr) : Cell → Prop
  | .dead => ∃ o, H a = some o
  | .lst ds => F a = none ∧ ∃ xs, H a = some (.lst xs) ∧ Reps K ca θ F ds xs
  | .ins c ns ds => F a = none ∧ ∃ dx xs, H a = some (.ins (ca c) dx (ns.zip xs)) ∧ ns.length = xs.length ∧ Reps K ca θ F ds xs
theorem CellOk.there {K : PySem.W.Frag} {ca : Nat → Addr} {H F : Hp} {θ : List Addr} {a : Addr} {c : Cell} (h : CellOk K ca H F θ a c) : ∃ o, H a = some o := by
  cases c with
  | dead => exact h
  | lst ds => obtain ⟨_, xs, e, _⟩ := h; exact ⟨_, e⟩
  | ins c ns ds => obtain ⟨_, dx, xs, e, _⟩ := h; exact ⟨_, e⟩
structure Now (K : PySem.W.Frag) (ca : Nat → Addr) (H F : Hp) (θ : List Addr) (O : Store) : Prop where
  fh : Same F H
  nd : θ.Nodup
  ln : θ.length = O.length
  ce : ∀ (k : Nat) a c, θ[k]? = some a → O[k]? = some c → CellOk K ca H F θ a c
theorem Now.there {K : PySem.W.Frag} {ca : Nat → Addr} {H F : Hp} {θ : List Addr} {O : Store} (n : Now K ca H F θ O) {a : Addr} (h : a ∈ θ) : ∃ o, H a = some o := by
  obtain ⟨k, hk, e⟩ := List.getElem_of_mem h
  have h1 : θ[k]? = some a := by rw [List.getElem?_eq_getElem hk, e]
  have h2 : ∃ c, O[k]? = some c := ⟨O[k]'(by rw [← n.ln]; exact hk), List.getElem?_eq_getElem _⟩
  obtain ⟨c, h2⟩ := h2
  exact (n.ce k a c h1 h2).there
theorem Now.nil {K : PySem.W.Frag} {ca : Nat → Addr} {H F : Hp} (h : Same F H) : Now K ca H F [] [] := ⟨h, List.nodup_nil, rfl, fun k a c e _ => by simp at e⟩
structure BS (K : PySem.W.Frag) (ca : Nat → Addr) (σ : St) (H F : Hp) (θ : List Addr) (s : S) : Prop where
  now : Now K ca H F θ s.o
  len : σ.length = s.r.length
  sl : ∀ (i : Nat) d, s.r[i]? = some (some d) → ∃ v, σ[i]? = some (some v) ∧ Rep K ca θ F d v
theorem BS.newF {K : PySem.W.Frag} {ca : Nat → Addr} {σ : St} {H F : Hp} {θ : List Addr} {s : S} (b : BS K ca σ H F θ s) {p : Addr} (hp : H p = none) (o : HO) :
    Stp H F θ (upd H p o) (upd F p o) θ ∧ BS K ca σ (upd H p o) (upd F p o) θ s ∧ Same F (upd F p o) ∧ upd F p o p = some o := by
  have nm : ∀ a u, H a = some u → a ≠ p := fun a u e z => by rw [z, hp] at e; cases e
  have fp : F p = none := by
    cases e : F p with
    | none => rfl
    | some u => rw [b.now.fh p u e] at hp; cases hp
  have sF : Same F (upd F p o) := fun a u e => by rw [upd_ne (nm a u (b.now.fh a u e))]; exact e
  have sH : Same H (upd H p o) := fun a u e => by rw [upd_ne (nm a u e)]; exact e
  refine ⟨⟨sF, ⟨[], by simp, by simp⟩, fun a u e _ => sH a u e, fun a u e => ⟨u, sH a u e⟩, fun a u e => ?_⟩, ⟨⟨fun a u e => ?_, b.now.nd, b.now.ln, fun k a c e1 e2 => ?_⟩, b.len, fun i d e => ?_⟩, sF, upd_same⟩
  · by_cases h : a = p
    · subst h; exact .inr (.inl hp)
    · rw [upd_ne h] at e; exact .inl e
  · by_cases h : a = p
    · subst h; rw [upd_same] at e ⊢; exact e
    · rw [upd_ne h] at e ⊢; exact b.now.fh a u e
  · have q := b.now.ce k a c e1 e2
    obtain ⟨u, hu⟩ := q.there
    have ne := nm a u hu
    cases c with
    | dead => exact ⟨u, sH a u hu⟩
    | lst ds =>
      obtain ⟨q1, xs, q2, q3⟩ := q
      exact ⟨by rw [upd_ne ne]; exact q1, xs, sH _ _ q2, q3.mono sF ⟨[], by simp⟩⟩
    | ins c ns ds =>
      obtain ⟨q1, dx, xs, q2, q3, q4⟩ := q
      exact ⟨by rw [upd_ne ne]; exact q1, dx, xs, sH _ _ q2, q3, q4.mono sF ⟨[], by simp⟩⟩
  · obtain ⟨v, h1, h2⟩ := b.sl i d e
    exact ⟨v, h1, h2.mono sF ⟨[], by simp⟩⟩
theorem BS.newC {K : PySem.W.Frag} {ca : Nat → Addr} {σ : St} {H F : Hp} {θ : List Addr} {s : S} (b : BS K ca σ H F θ s) {p : Addr} (hp : H p = none) {ds : List D} {xs : List V} (hr : Reps K ca θ F ds xs) :
    Stp H F θ (upd H p (.lst xs)) F (θ ++ [p]) ∧ BS K ca σ (upd H p (.lst xs)) F (θ ++ [p]) ⟨s.r, s.o ++ [.lst ds]⟩ ∧ Rep K ca (θ ++ [p]) F (.ptr s.o.length) (.ref p) := by
  have nm : ∀ a u, H a = some u → a ≠ p := fun a u e z => by rw [z, hp] at e; cases e
  have fp : F p = none := by
    cases e : F p with
    | none => rfl
    | some u => rw [b.now.fh p u e] at hp; cases hp
  have sH : Same H (upd H p (.lst xs)) := fun a u e => by rw [upd_ne (nm a u e)]; exact e
  have pt : p ∉ θ := fun h => by obtain ⟨u, hu⟩ := b.now.there h; rw [hp] at hu; cases hu
  refine ⟨⟨Same.refl _, ⟨[p], rfl, by simpa using hp⟩, fun a u e _ => sH a u e, fun a u e => ⟨u, sH a u e⟩, fun a u e => .inl e⟩, ⟨⟨b.now.fh.trans sH, ?_, ?_, fun k a c e1 e2 => ?_⟩, b.len, fun i d e => ?_⟩, ?_⟩
  · refine List.nodup_append.mpr ⟨b.now.nd, by simp, fun a ha x hx => ?_⟩
    rw [List.mem_singleton.mp hx]
    rintro rfl
    exact pt ha
  · simp [b.now.ln]
  · by_cases hk : k < θ.length
    · rw [List.getElem?_append_left hk] at e1
      rw [List.getElem?_append_left (by rw [← b.now.ln]; exact hk)] at e2
      have q := b.now.ce k a c e1 e2
      obtain ⟨u, hu⟩ := q.there
      cases c with
      | dead => exact ⟨u, sH a u hu⟩
      | lst ds =>
        obtain ⟨q1, ys, q2, q3⟩ := q
        exact ⟨q1, ys, sH _ _ q2, q3.mono (Same.refl _) ⟨[p], rfl⟩⟩
      | ins c ns ds =>
        obtain ⟨q1, dx, ys, q2, q3, q4⟩ := q
        exact ⟨q1, dx, ys, sH _ _ q2, q3, q4.mono (Same.refl _) ⟨[p], rfl⟩⟩
    · have hk1 : k < (θ ++ [p]).length := (List.getElem?_eq_some_iff.mp e1).1
      have hk2 : k = θ.length := by simp at hk1; omega
      subst hk2
      rw [List.getElem?_append_right (Nat.le_refl _)] at e1
      rw [List.getElem?_append_right (by rw [b.now.ln]; exact Nat.le_refl _), b.now.ln] at e2
      simp at e1 e2
      subst e1; subst e2
      exact ⟨fp, xs, upd_same, hr.mono (Same.refl _) ⟨[p], rfl⟩⟩
  · obtain ⟨v, h1, h2⟩ := b.sl i d e
    exact ⟨v, h1, h2.mono (Same.refl _) ⟨[p], rfl⟩⟩
  · unfold Rep
    exact ⟨p, rfl, by rw [← b.now.ln]; simp⟩
theorem BS.set {K : PySem.W.Frag} {ca : Nat → Addr} {σ : St} {H F : Hp} {θ : List Addr} {s : S} (b : BS K ca σ H F θ s) {d : D} {v : V} (h : Rep K ca θ F d v) (i : Nat) : BS K ca (σ.set i (some v)) H F θ ⟨s.r.set i (some d), s.o⟩ := by
  refine ⟨b.now, by simp [b.len], fun j e hj => ?_⟩
  by_cases hji : i = j
  · subst hji
    have hlt : i < s.r.length := by
      have := (List.getElem?_eq_some_iff.mp hj).1
      simpa using this
    rw [List.getElem?_set_self hlt] at hj
    cases hj
    exact ⟨v, List.getElem?_set_self (by rw [b.len]; exact hlt), h⟩
  · rw [List.getElem?_set_ne hji] at hj
    obtain ⟨u, h1, h2⟩ := b.sl j e hj
    exact ⟨u, by rw [List.getElem?_set_ne hji]; exact h1, h2⟩
abbrev EM := S → Res (D × S)
abbrev AM := S → Res (List D × S)
inductive Out where
  | next (s : S) | ret (d : D) (s : S) | brk (s : S) | cnt (s : S) | exc (c : Nat) (a : D) (o : S) | bad
abbrev SM := S → Out
def PoR {α : Type} (C : Ct) (H F : Hp) (θ : List Addr) (x : Res α) (k : α → Hp → Hp → List Addr → Prop) : Prop := match x with
  | .ok a => ∀ H1 F1 θ1, Stp H F θ H1 F1 θ1 → k a H1 F1 θ1
  | .exc c a o => ∀ H1 F1 θ1, Stp H F θ H1 F1 θ1 → Now C.K C.ca H1 F1 θ1 o.o → C.W c a o H1 F1 θ1
  | .bad => False
abbrev PoE (C : Ct) (σ : St) (H F : Hp) (θ : List Addr) (x : Res (D × S)) (Q : VK) : Prop :=
  PoR C H F θ x fun y H1 F1 θ1 => BS C.K C.ca σ H1 F1 θ1 y.2 → ∀ v, Rep C.K C.ca θ1 F1 y.1 v → Q v H1
abbrev PoA (C : Ct) (σ : St) (H F : Hp) (θ : List Addr) (x : Res (List D × S)) (Q : List V → Hp → Prop) : Prop :=
  PoR C H F θ x fun y H1 F1 θ1 => BS C.K C.ca σ H1 F1 θ1 y.2 → ∀ v, Reps C.K C.ca θ1 F1 y.1 v → Q v H1
abbrev PoT (C : Ct) (σ : St) (H F : Hp) (θ : List Addr) (x : Res (Bool × S)) (Q : Bool → Hp → Prop) : Prop :=
  PoR C H F θ x fun y H1 F1 θ1 => BS C.K C.ca σ H1 F1 θ1 y.2 → Q y.1 H1
abbrev PoG (C : Ct) (H F : Hp) (θ : List Addr) (x : Res S) (Q : St → Hp → Prop) : Prop :=
  PoR C H F θ x fun y H1 F1 θ1 => ∀ σ1, BS C.K C.ca σ1 H1 F1 θ1 y → Q σ1 H1
def PoS (C : Ct) (H F : Hp) (θ : List Addr) (x : Out) (Q : Ends) : Prop := match x with
  | .next s1 => ∀ σ1 H1 F1 θ1, Stp H F θ H1 F1 θ1 → BS C.K C.ca σ1 H1 F1 θ1 s1 → Q.nx σ1 H1
  | .ret d s1 => ∀ v σ1 H1 F1 θ1, Stp H F θ H1 F1 θ1 → BS C.K C.ca σ1 H1 F1 θ1 s1 → Rep C.K C.ca θ1 F1 d v → Q.rt v H1
  | .brk s1 => ∀ σ1 H1 F1 θ1, Stp H F θ H1 F1 θ1 → BS C.K C.ca σ1 H1 F1 θ1 s1 → Q.bk σ1 H1
  | .cnt s1 => ∀ σ1 H1 F1 θ1, Stp H F θ H1 F1 θ1 → BS C.K C.ca σ1 H1 F1 θ1 s1 → Q.ct σ1 H1
  | .exc c a o => ∀ H1 F1 θ1, Stp H F θ H1 F1 θ1 → Now C.K C.ca H1 F1 θ1 o.o → C.W c a o H1 F1 θ1
  | .bad => False
theorem PoR.after {α : Type} {C : Ct} {H F H1 F1 : Hp} {θ θ1 : List Addr} {x : Res α} {k : α → Hp → Hp → List Addr → Prop} (st : Stp H F θ H1 F1 θ1) (p : PoR C H F θ x k) : PoR C H1 F1 θ1 x k := by
  unfold PoR at p ⊢
  cases x with
  | ok a => exact fun H2 F2 θ2 s2 => p H2 F2 θ2 (st.trans s2)
  | exc c a o => exact fun H2 F2 θ2 s2 n => p H2 F2 θ2 (st.trans s2) n
  | bad => exact p
theorem PoR.bind {α β : Type} {C : Ct} {H F : Hp} {θ : List Addr} {x : Res α} {f : α → Res β} {k : α → Hp → Hp → List Addr → Prop} {j : β → Hp → Hp → List Addr → Prop}
    (p : PoR C H F θ (x.bind f) j) (h : ∀ a H1 F1 θ1, x = .ok a → Stp H F θ H1 F1 θ1 → PoR C H1 F1 θ1 (f a) j → k a H1 F1 θ1) : PoR C H F θ x k := by
  cases x with
  | ok a => exact fun H1 F1 θ1 st => h a H1 F1 θ1 rfl st (PoR.after st p)
  | exc c a o => exact p
  | bad => exact p
theorem PoR.imp {α : Type} {C : Ct} {H F : Hp} {θ : List Addr} {x : Res α} {k j : α → Hp → Hp → List Addr → Prop} (p : PoR C H F θ x j) (h : ∀ a H1 F1 θ1, x = .ok a → Stp H F θ H1 F1 θ1 → j a H1 F1 θ1 → k a H1 F1 θ1) : PoR C H F θ x k := by
  cases x with
  | ok a => exact fun H1 F1 θ1 st => h a H1 F1 θ1 rfl st (p H1 F1 θ1 st)
  | exc c a o => exact p
  | bad => exact p
theorem PoS.after {C : Ct} {H F H1 F1 : Hp} {θ θ1 : List Addr} {x : Out} {Q : Ends} (st : Stp H F θ H1 F1 θ1) (p : PoS C H F θ x Q) : PoS C H1 F1 θ1 x Q := by
  unfold PoS at p ⊢
  cases x with
  | next s => exact fun v H2 F2 θ2 s2 b => p v H2 F2 θ2 (st.trans s2) b
  | ret d s => exact fun v σ2 H2 F2 θ2 s2 b r => p v σ2 H2 F2 θ2 (st.trans s2) b r
  | brk s => exact fun v H2 F2 θ2 s2 b => p v H2 F2 θ2 (st.trans s2) b
  | cnt s => exact fun v H2 F2 θ2 s2 b => p v H2 F2 θ2 (st.trans s2) b
  | exc c a o => exact fun H2 F2 θ2 s2 n => p H2 F2 θ2 (st.trans s2) n
  | bad => exact p
def Res.out {α : Type} (x : Res α) (f : α → Out) : Out := match x with
  | .ok a => f a
  | .exc c a o => .exc c a o
  | .bad => .bad
@[simp] theorem out_ok {α : Type} (a : α) (f : α → Out) : (Res.ok a).out f = f a := rfl
@[simp] theorem out_exc {α : Type} (c : Nat) (a : D) (o : S) (f : α → Out) : (Res.exc c a o : Res α).out f = .exc c a o := rfl
@[simp] theorem out_bad {α : Type} (f : α → Out) : (Res.bad : Res α).out f = .bad := rfl
theorem PoS.out {α : Type} {C : Ct} {H F : Hp} {θ : List Addr} {x : Res α} {f : α → Out} {k : α → Hp → Hp → List Addr → Prop} {Q : Ends}
    (p : PoS C H F θ (x.out f) Q) (h : ∀ a H1 F1 θ1, x = .ok a → Stp H F θ H1 F1 θ1 → PoS C H1 F1 θ1 (f a) Q → k a H1 F1 θ1) : PoR C H F θ x k := by
  cases x with
  | ok a => exact fun H1 F1 θ1 st => h a H1 F1 θ1 rfl st (PoS.after st p)
  | exc c a o => exact p
  | bad => exact p
def RdE (C : Ct) (t : TE) (m : EM) : Prop := ∀ σ H F θ s Q, BS C.K C.ca σ H F θ s → PoE C σ H F θ (m s) Q → t σ H Q
def RdA (C : Ct) (t : TA) (m : AM) : Prop := ∀ σ H F θ s Q, BS C.K C.ca σ H F θ s → PoA C σ H F θ (m s) Q → t σ H Q
abbrev TM := S → Res (Bool × S)
def RdT (C : Ct) (t : TT) (m : TM) : Prop := ∀ σ H F θ s Q, BS C.K C.ca σ H F θ s → PoT C σ H F θ (m s) Q → t σ H Q
abbrev GM := D → S → Res S
def RdG (C : Ct) (t : TG) (m : GM) : Prop := ∀ σ H F θ s d v Q, BS C.K C.ca σ H F θ s → Rep C.K C.ca θ F d v → PoG C H F θ (m d s) Q → t v σ H Q
def RdS (C : Ct) (t : TS) (m : SM) : Prop := ∀ σ H F θ s Q, BS C.K C.ca σ H F θ s → PoS C H F θ (m s) Q → t Q σ H
end M
set_option maxRecDepth 100000
set_option maxHeartbeats 4000000
namespace M
open PySem L2
section
variable {C : Ct}
@[simp] theorem rep_non {K ca θ F v} : Rep K ca θ F .non v ↔ v = .non := by unfold Rep; exact Iff.rfl
@[simp] theorem rep_bl {K ca θ F v b} : Rep K ca θ F (.bl b) v ↔ v = .bl b := by unfold Rep; exact Iff.rfl
@[simp] theorem rep_int {K ca θ F v i} : Rep K ca θ F (.int i) v ↔ v = .int i := by unfold Rep; exact Iff.rfl
@[simp] theorem rep_str {K ca θ F v x} : Rep K ca θ F (.str x) v ↔ v = .str x := by unfold Rep; exact Iff.rfl
def varM (i : Nat) : EM := fun s => match s.r[i]? with
  | some (some d) => .ok (d, s)
  | _ => .bad
theorem rd_var (i : Nat) : RdE C (tVar i) (varM i) := by
  intro σ H F θ s Q b p
  unfold varM at p
  split at p
  · rename_i d e
    obtain ⟨v, h1, h2⟩ := b.sl i d e
    exact ⟨v, h1, p H F θ .refl b v h2⟩
  · exact p.elim
def cstM (d : D) : EM := fun s => .ok (d, s)
theorem rd_int (i : Int) : RdE C (tC (.int i)) (cstM (.int i)) := fun σ H F θ s Q b p => p H F θ .refl b (.int i) (rep_int.mpr rfl)
theorem rd_bl (i : Bool) : RdE C (tC (.bl i)) (cstM (.bl i)) := fun σ H F θ s Q b p => p H F θ .refl b (.bl i) (rep_bl.mpr rfl)
theorem rd_str (i : Str) : RdE C (tC (.str i)) (cstM (.str i)) := fun σ H F θ s Q b p => p H F θ .refl b (.str i) (rep_str.mpr rfl)
abbrev Op2 := Store → D → D → Res D
abbrev Op1 := Store → D → Res D
def RdOp (C : Ct) (r : R2) (f : Op2) : Prop := ∀ σ H F θ s x y v w Q, BS C.K C.ca σ H F θ s → Rep C.K C.ca θ F x v → Rep C.K C.ca θ F y w →
  PoE C σ H F θ ((f s.o x y).bind fun d => .ok (d, s)) Q → r v w H Q
def binM (f : Op2) (ma mb : EM) : EM := fun s => (ma s).bind fun x => (mb x.2).bind fun y => (f y.2.o x.1 y.1).bind fun d => .ok (d, y.2)
theorem rd_bin {r : R2} {f : Op2} {ta tb : TE} {ma mb : EM} (ho : RdOp C r f) (ha : RdE C ta ma) (hb : RdE C tb mb) : RdE C (tOp r ta tb) (binM f ma mb) := by
  intro σ H F θ s Q b p
  refine ha σ H F θ s _ b (PoR.bind p ?_)
  rintro ⟨x, s1⟩ H1 F1 θ1 _ st1 p1 b1 v r1
  refine hb σ H1 F1 θ1 s1 _ b1 (PoR.bind p1 ?_)
  rintro ⟨y, s2⟩ H2 F2 θ2 _ st2 p2 b2 w r2
  exact ho σ H2 F2 θ2 s2 x y v w Q b2 (r1.mono st2.ff st2.pre) r2 p2
def RdUn (C : Ct) (r : V → Hp → VK → Prop) (f : Op1) : Prop := ∀ σ H F θ s x v Q, BS C.K C.ca σ H F θ s → Rep C.K C.ca θ F x v →
  PoE C σ H F θ ((f s.o x).bind fun d => .ok (d, s)) Q → r v H Q
def unM (f : Op1) (ma : EM) : EM := fun s => (ma s).bind fun x => (f x.2.o x.1).bind fun d => .ok (d, x.2)
theorem rd_un {r : V → Hp → VK → Prop} {f : Op1} {ta : TE} {ma : EM} (ho : RdUn C r f) (ha : RdE C ta ma) : RdE C (tUn r ta) (unM f ma) := by
  intro σ H F θ s Q b p
  refine ha σ H F θ s _ b (PoR.bind p ?_)
  rintro ⟨x, s1⟩ H1 F1 θ1 _ st1 p1 b1 v r1
  exact ho σ H1 F1 θ1 s1 x v Q b1 r1 p1
def nilM : AM := fun s => .ok ([], s)
def consM (m : EM) (r : AM) : AM := fun s => (m s).bind fun x => (r x.2).bind fun y => .ok (x.1 :: y.1, y.2)
theorem rd_nil : RdA C tNil nilM := fun σ H F θ s Q b p => p H F θ .refl b [] Reps.nil
theorem rd_cons {te : TE} {ta : TA} {m : EM} {r : AM} (he : RdE C te m) (ha : RdA C ta r) : RdA C (tCons te ta) (consM m r) := by
  intro σ H F θ s Q b p
  refine he σ H F θ s _ b (PoR.bind p ?_)
  rintro ⟨x, s1⟩ H1 F1 θ1 _ st1 p1 b1 v r1
  refine ha σ H1 F1 θ1 s1 _ b1 (PoR.bind p1 ?_)
  rintro ⟨y, s2⟩ H2 F2 θ2 _ st2 p2 b2 w r2
  exact p2 H2 F2 θ2 .refl b2 (v :: w) (Reps.cons (r1.mono st2.ff st2.pre) r2)
abbrev OpN := Store → List D → Res D
def RdCall (C : Ct) (r : List V → Hp → VK → Prop) (f : OpN) : Prop := ∀ σ H F θ s xs vs Q, BS C.K C.ca σ H F θ s → Reps C.K C.ca θ F xs vs →
  PoE C σ H F θ ((f s.o xs).bind fun d => .ok (d, s)) Q → r vs H Q
def calM (f : OpN) (ma : AM) : EM := fun s => (ma s).bind fun x => (f x.2.o x.1).bind fun d => .ok (d, x.2)
theorem rd_callB {r : List V → Hp → VK → Prop} {f : OpN} {ta : TA} {ma : AM} (hc : RdCall C r f) (ha : RdA C ta ma) : RdE C (tCB r ta) (calM f ma) := by
  intro σ H F θ s Q b p
  refine ha σ H F θ s _ b (PoR.bind p ?_)
  rintro ⟨x, s1⟩ H1 F1 θ1 _ st1 p1 b1 v r1
  exact hc σ H1 F1 θ1 s1 x v Q b1 r1 p1
def tupM (ma : AM) : EM := fun s => (ma s).bind fun x => if x.1.length ≤ 16777216 then .ok (.tup x.1, x.2) else .bad
theorem rd_tup {ta : TA} {ma : AM} (ha : RdA C ta ma) : RdE C (tTup ta) (tupM ma) := by
  intro σ H F θ s Q b p
  refine ha σ H F θ s _ b (PoR.bind p ?_)
  rintro ⟨x, s1⟩ H1 F1 θ1 _ st1 p1 b1 v r1
  dsimp only at p1
  split at p1
  · rename_i hl
    refine ⟨by rw [r1.length]; exact hl, fun q hq => ?_⟩
    obtain ⟨st, b2, sF, e⟩ := b1.newF hq (.tup v)
    refine p1 _ _ _ st b2 _ ?_
    unfold Rep
    exact ⟨q, v, rfl, SqT.of e, r1.mono sF ⟨[], by simp⟩⟩
  · exact p1.elim
def lstM (ma : AM) : EM := fun s => (ma s).bind fun x => if x.1.length ≤ 16777216 then .ok (.lst x.1, x.2) else .bad
theorem rd_lst {ta : TA} {ma : AM} (ha : RdA C ta ma) : RdE C (tLst ta) (lstM ma) := by
  intro σ H F θ s Q b p
  refine ha σ H F θ s _ b (PoR.bind p ?_)
  rintro ⟨x, s1⟩ H1 F1 θ1 _ st1 p1 b1 v r1
  dsimp only at p1
  split at p1
  · rename_i hl
    refine ⟨by rw [r1.length]; exact hl, fun q hq => ?_⟩
    obtain ⟨st, b2, sF, e⟩ := b1.newF hq (.lst v)
    refine p1 _ _ _ st b2 _ ?_
    unfold Rep
    exact ⟨q, v, rfl, SqL.of e, r1.mono sF ⟨[], by simp⟩⟩
  · exact p1.elim
def lstC (ma : AM) : EM := fun s => (ma s).bind fun x => if x.1.length ≤ 16777216 then .ok (.ptr x.2.o.length, ⟨x.2.r, x.2.o ++ [.lst x.1]⟩) else .bad
theorem rd_lstC {ta : TA} {ma : AM} (ha : RdA C ta ma) : RdE C (tLst ta) (lstC ma) := by
  intro σ H F θ s Q b p
  refine ha σ H F θ s _ b (PoR.bind p ?_)
  rintro ⟨x, s1⟩ H1 F1 θ1 _ st1 p1 b1 v r1
  dsimp only at p1
  split at p1
  · rename_i hl
    refine ⟨by rw [r1.length]; exact hl, fun q hq => ?_⟩
    obtain ⟨st, b2, rp⟩ := b1.newC hq r1
    exact p1 _ _ _ st b2 _ rp
  · exact p1.elim
def tstM (m : EM) : TM := fun s => (m s).bind fun x => match x.1 with
  | .bl b => .ok (b, x.2)
  | _ => .bad
theorem rd_tst {t : TE} {m : EM} (h : RdE C t m) : RdT C (tTest t) (tstM m) := by
  intro σ H F θ s Q b p
  refine h σ H F θ s _ b (PoR.bind p ?_)
  rintro ⟨x, s1⟩ H1 F1 θ1 _ st1 p1 b1 v r1
  cases x <;> first | exact False.elim p1 | skip
  rename_i k _
  exact ⟨k, rep_bl.mp r1, p1 _ _ _ .refl b1⟩
theorem rd_tB {t : TE} {m : EM} (h : RdE C t m) : RdT C (tB t) (tstM m) := rd_tst h
def andT (a b : TM) : TM := fun s => (a s).bind fun x => if x.1 then b x.2 else .ok (false, x.2)
def orT (a b : TM) : TM := fun s => (a s).bind fun x => if x.1 then .ok (true, x.2) else b x.2
def notT (a : TM) : TM := fun s => (a s).bind fun x => .ok (!x.1, x.2)
theorem rd_or {t u : TT} {a b : TM} (ha : RdT C t a) (hb : RdT C u b) : RdT C (tOr t u) (orT a b) := by
  intro σ H F θ s Q bs p
  refine ha σ H F θ s _ bs (PoR.bind p ?_)
  rintro ⟨x, s1⟩ H1 F1 θ1 _ st1 p1 b1
  cases x with
  | true => exact iteT (p1 _ _ _ .refl b1)
  | false => exact iteF (hb σ H1 F1 θ1 s1 Q b1 p1)
theorem rd_not {t : TT} {a : TM} (ha : RdT C t a) : RdT C (tNot t) (notT a) := by
  intro σ H F θ s Q bs p
  refine ha σ H F θ s _ bs (PoR.bind p ?_)
  rintro ⟨x, s1⟩ H1 F1 θ1 _ st1 p1 b1
  exact p1 _ _ _ .refl b1
def andV (a b : EM) : EM := fun s => (a s).bind fun x => match x.1 with
  | .bl true => b x.2
  | .bl false => .ok (.bl false, x.2)
  | _ => .bad
def orV (a b : EM) : EM := fun s => (a s).bind fun x => match x.1 with
  | .bl true => .ok (.bl true, x.2)
  | .bl false => b x.2
  | _ => .bad
def notV (a : EM) : EM := fun s => (a s).bind fun x => match x.1 with
  | .bl k => .ok (.bl (!k), x.2)
  | _ => .bad
def ifM (c : TM) (a b : EM) : EM := fun s => (c s).bind fun x => if x.1 then a x.2 else b x.2
def Out.then (x : Out) (f : S → Out) : Out := match x with
  | .next s => f s
  | o => o
@[simp] theorem then_next (s : S) (f : S → Out) : (Out.next s).then f = f s := rfl
@[simp] theorem then_ret (d : D) (s : S) (f : S → Out) : (Out.ret d s).then f = .ret d s := rfl
@[simp] theorem then_brk (s : S) (f : S → Out) : (Out.brk s).then f = .brk s := rfl
@[simp] theorem then_cnt (s : S) (f : S → Out) : (Out.cnt s).then f = .cnt s := rfl
@[simp] theorem then_exc (c : Nat) (a : D) (o : S) (f : S → Out) : (Out.exc c a o).then f = .exc c a o := rfl
@[simp] theorem then_bad (f : S → Out) : Out.bad.then f = .bad := rfl
def seqM (a b : SM) : SM := fun s => (a s).then b
def skipM : SM := fun s => .next s
theorem rd_next : RdS C tNext skipM := fun σ H F θ s Q b p => p σ H F θ .refl b
theorem rd_seq {t u : TS} {a b : SM} (ha : RdS C t a) (hb : RdS C u b) : RdS C (tSeq t u) (seqM a b) := by
  intro σ H F θ s Q bs p
  refine ha σ H F θ s _ bs ?_
  unfold seqM at p
  cases e : a s with
  | next s1 =>
    rw [e] at p
    intro σ1 H1 F1 θ1 st1 b1
    exact hb σ1 H1 F1 θ1 s1 Q b1 (PoS.after st1 p)
  | ret d s1 => rw [e] at p; exact p
  | brk s1 => rw [e] at p; exact p
  | cnt s1 => rw [e] at p; exact p
  | exc c a o => rw [e] at p; exact p
  | bad => rw [e] at p; exact p
def dropM (m : EM) : SM := fun s => (m s).out fun x => .next x.2
theorem rd_drop {t : TE} {m : EM} (h : RdE C t m) : RdS C (tDrop t) (dropM m) := by
  intro σ H F θ s Q b p
  refine h σ H F θ s _ b (PoS.out p ?_)
  rintro ⟨x, s1⟩ H1 F1 θ1 _ st1 p1 b1 v r1
  exact p1 σ H1 F1 θ1 .refl b1
def retM (m : EM) : SM := fun s => (m s).out fun x => .ret x.1 x.2
theorem rd_ret {t : TE} {m : EM} (h : RdE C t m) : RdS C (tRet t) (retM m) := by
  intro σ H F θ s Q b p
  refine h σ H F θ s _ b (PoS.out p ?_)
  rintro ⟨x, s1⟩ H1 F1 θ1 _ st1 p1 b1 v r1
  exact p1 v σ H1 F1 θ1 .refl b1 r1
def ret0 : SM := fun s => .ret .non s
def ifS (c : TM) (a b : SM) : SM := fun s => (c s).out fun x => if x.1 then a x.2 else b x.2
theorem rd_if {t : TT} {u w : TS} {c : TM} {a b : SM} (hc : RdT C t c) (ha : RdS C u a) (hb : RdS C w b) : RdS C (tIfS t u w) (ifS c a b) := by
  intro σ H F θ s Q bs p
  refine hc σ H F θ s _ bs (PoS.out p ?_)
  rintro ⟨x, s1⟩ H1 F1 θ1 _ st1 p1 b1
  cases x with
  | true => exact iteT (ha σ H1 F1 θ1 s1 Q b1 p1)
  | false => exact iteF (hb σ H1 F1 θ1 s1 Q b1 p1)
def badM : SM := fun _ => .bad
theorem rd_never : RdS C tNever badM := fun σ H F θ s Q b p => p
def nameG (i : Nat) : GM := fun d s => .ok ⟨s.r.set i (some d), s.o⟩
theorem rd_gname (i : Nat) : RdG C (gName i) (nameG i) := fun σ H F θ s d v Q b r p => p H F θ .refl _ (b.set r i)
def RdGs (C : Ct) (t : TGs) (m : List D → S → Res S) : Prop := ∀ σ H F θ s ds vs Q, BS C.K C.ca σ H F θ s → Reps C.K C.ca θ F ds vs → PoG C H F θ (m ds s) Q → t vs σ H Q
def nilG : List D → S → Res S := fun ds s => match ds with
  | [] => .ok s
  | _ => .bad
def consG (g : GM) (r : List D → S → Res S) : List D → S → Res S := fun ds s => match ds with
  | d :: ds => (g d s).bind fun s1 => r ds s1
  | [] => .bad
theorem rd_gnil : RdGs C gNil nilG := by
  intro σ H F θ s ds vs Q b r p
  cases ds with
  | nil => exact ⟨by unfold Reps at r; exact r, p H F θ .refl σ b⟩
  | cons d ds => exact False.elim p
theorem rd_gcons {t : TG} {u : TGs} {g : GM} {m : List D → S → Res S} (hg : RdG C t g) (hr : RdGs C u m) : RdGs C (gCons t u) (consG g m) := by
  intro σ H F θ s ds vs Q b r p
  cases ds with
  | nil => exact False.elim p
  | cons d ds =>
    unfold Reps at r
    obtain ⟨v, w, rfl, r1, r2⟩ := r
    refine ⟨v, w, rfl, hg σ H F θ s d v _ b r1 (PoR.bind p ?_)⟩
    intro s1 H1 F1 θ1 _ st1 p1 σ1 b1
    exact hr σ1 H1 F1 θ1 s1 ds w Q b1 (r2.mono st1.ff st1.pre) p1
def tupG (m : List D → S → Res S) (n : Nat) : GM := fun d s => match d with
  | .tup ds => if ds.length = n then m ds s else .bad
  | _ => .bad
theorem rd_gtup {n : Nat} {t : TGs} {m : List D → S → Res S} (h : RdGs C t m) : RdG C (gTup C.K n t) (tupG m n) := by
  intro σ H F θ s d v Q b r p
  cases d <;> first | exact False.elim p | skip
  rename_i ds
  unfold Rep at r
  obtain ⟨a, xs, rfl, hs, hr⟩ := r
  unfold tupG at p
  dsimp only at p
  split at p
  · rename_i hl
    exact ⟨a, xs, rfl, Same.seqT b.now.fh hs, by rw [hr.length]; exact hl, h σ H F θ s ds xs Q b hr p⟩
  · exact False.elim p
def asgM (m : EM) (g : GM) : SM := fun s => ((m s).bind fun x => g x.1 x.2).out fun s => .next s
theorem rd_asg {t : TE} {m : EM} {g : TG} {gm : GM} (h : RdE C t m) (hg : RdG C g gm) : RdS C (tAsg t g) (asgM m gm) := by
  intro σ H F θ s Q b p
  have p' : PoG C H F θ ((m s).bind fun x => gm x.1 x.2) Q.nx := PoS.out p fun s1 H1 F1 θ1 _ st1 p1 σ1 b1 => p1 σ1 H1 F1 θ1 .refl b1
  refine h σ H F θ s _ b (PoR.bind p' ?_)
  rintro ⟨x, s1⟩ H1 F1 θ1 _ st1 p1 b1 v r1
  exact hg σ H1 F1 θ1 s1 x v Q.nx b1 r1 p1
abbrev setM (i : Nat) (m : EM) : SM := asgM m (nameG i)
theorem rd_set {t : TE} {m : EM} {i : Nat} (h : RdE C t m) : RdS C (tAsg t (gName i)) (setM i m) := rd_asg h (rd_gname i)
def augM (i : Nat) (f : Op2) (m : EM) : SM := setM i (binM f (varM i) m)
end
end M
set_option maxRecDepth 100000
set_option maxHeartbeats 4000000
namespace M
open PySem PySem.Spec PyProof.Rows L2
section
variable {C : Ct}
structure ItIs (C : Ct) (J : It) (ds : List D) (ok : Store → Prop) (H F : Hp) (θ : List Addr) : Prop where
  go : ∀ (i : Nat) H2 F2 θ2 O2, i < ds.length → Stp H F θ H2 F2 θ2 → Now C.K C.ca H2 F2 θ2 O2 → ok O2 → J.go i H2
  yl : ∀ (i : Nat) d σ H2 F2 θ2 s2 x H3, ds[i]? = some d → Stp H F θ H2 F2 θ2 → BS C.K C.ca σ H2 F2 θ2 s2 → ok s2.o → J.yld i H2 x H3 → ∃ F3, Stp H2 F2 θ2 H3 F3 θ2 ∧ BS C.K C.ca σ H3 F3 θ2 s2 ∧ Rep C.K C.ca θ2 F3 d x
  st : ∀ (i : Nat) H2 F2 θ2 O2, ds.length ≤ i → Stp H F θ H2 F2 θ2 → Now C.K C.ca H2 F2 θ2 O2 → ok O2 → J.stop i H2
def okC (ds : List D) : Option Nat → Store → Prop
  | none, _ => True
  | some k, O => O[k]? = some (.lst ds)
abbrev IM := S → Res ((List D × Option Nat) × S)
def RdI (C : Ct) (wi : TI) (im : IM) : Prop := ∀ σ H F θ s R, BS C.K C.ca σ H F θ s →
  PoR C H F θ (im s) (fun y H1 F1 θ1 => BS C.K C.ca σ H1 F1 θ1 y.2 → ∀ J, ItIs C J y.1.1 (okC y.1.1 y.1.2) H1 F1 θ1 → R J H1) → wi σ H R
open Classical in
noncomputable def forGo (ok : Store → Prop) (g : GM) (body : SM) : List D → S → Out
  | [], s => if ok s.o then .next s else .bad
  | d :: ds, s => if ok s.o then (g d s).out fun s1 => match body s1 with
      | .next s2 => forGo ok g body ds s2
      | .cnt s2 => forGo ok g body ds s2
      | .brk s2 => .next s2
      | o => o
    else .bad
noncomputable def forS (im : IM) (g : GM) (body : SM) : SM := fun s => (im s).out fun y => forGo (okC y.1.1 y.1.2) g body y.1.1 y.2
theorem rd_for {wi : TI} {g : TG} {tb : TS} {im : IM} {gm : GM} {bm : SM} (hi : RdI C wi im) (hg : RdG C g gm) (hb : RdS C tb bm) : RdS C (tFor wi g tb) (forS im gm bm) := by
  intro σ H F θ s Q b p
  refine hi σ H F θ s _ b (PoS.out p ?_)
  rintro ⟨⟨ds, k⟩, s1⟩ H1 F1 θ1 _ st1 p1 b1 J it
  dsimp only at p1 it b1
  refine ⟨fun i m σ' H' => m = ds.length - i ∧ i ≤ ds.length ∧ ∃ F' θ' s', Stp H1 F1 θ1 H' F' θ' ∧ BS C.K C.ca σ' H' F' θ' s' ∧ PoS C H' F' θ' (forGo (okC ds k) gm bm (ds.drop i) s') Q, ⟨ds.length, by simp, Nat.zero_le _, F1, θ1, s1, .refl, b1, by simpa using p1⟩, ?_⟩
  rintro i m σ' H' ⟨rfl, hil, F', θ', s', st, bs, po⟩
  by_cases lt : i < ds.length
  · right
    rw [List.drop_eq_getElem_cons lt, forGo] at po
    split at po
    · rename_i hok
      refine ⟨it.go i H' F' θ' s'.o lt st bs.now hok, fun σ2 H2 => i + 1 ≤ ds.length ∧ ∃ F2 θ2 s2, Stp H1 F1 θ1 H2 F2 θ2 ∧ BS C.K C.ca σ2 H2 F2 θ2 s2 ∧ PoS C H2 F2 θ2 (forGo (okC ds k) gm bm (ds.drop (i + 1)) s2) Q, fun σ2 H2 n => ⟨ds.length - (i + 1), by omega, rfl, n⟩, ?_⟩
      intro x H3 hy
      obtain ⟨F3, st3, b3, rp⟩ := it.yl i ds[i] σ' H' F' θ' s' x H3 (List.getElem?_eq_getElem lt) st bs hok hy
      refine hg σ' H3 F3 θ' s' ds[i] x _ b3 rp (PoS.out (PoS.after st3 po) ?_)
      intro s4 H4 F4 θ4 _ st4 p4 σ4 b4
      refine hb σ4 H4 F4 θ4 s4 _ b4 ?_
      have fin : ∀ s5, PoS C H4 F4 θ4 (forGo (okC ds k) gm bm (ds.drop (i + 1)) s5) Q → ∀ σ5 H5 F5 θ5, Stp H4 F4 θ4 H5 F5 θ5 → BS C.K C.ca σ5 H5 F5 θ5 s5 → i + 1 ≤ ds.length ∧ ∃ F2 θ2 s2, Stp H1 F1 θ1 H5 F2 θ2 ∧ BS C.K C.ca σ5 H5 F2 θ2 s2 ∧ PoS C H5 F2 θ2 (forGo (okC ds k) gm bm (ds.drop (i + 1)) s2) Q :=
        fun s5 p5 σ5 H5 F5 θ5 st5 b5 => ⟨lt, F5, θ5, s5, st.trans (st3.trans (st4.trans st5)), b5, PoS.after st5 p5⟩
      cases e : bm s4 with
      | next s5 => rw [e] at p4; exact fin s5 p4
      | cnt s5 => rw [e] at p4; exact fin s5 p4
      | brk s5 => rw [e] at p4; exact p4
      | ret d s5 => rw [e] at p4; exact p4
      | exc c a o => rw [e] at p4; exact p4
      | bad => rw [e] at p4; exact p4
    · exact False.elim po
  · left
    rw [List.drop_eq_nil_of_le (by omega), forGo] at po
    split at po
    · rename_i hok
      exact ⟨it.st i H' F' θ' s'.o (by omega) st bs.now hok, po σ' H' F' θ' .refl bs⟩
    · exact False.elim po
def whileGo (c : TM) (b : SM) : Nat → S → Out
  | 0, _ => .bad
  | n + 1, s => (c s).out fun x => if x.1 then (match b x.2 with
      | .next s2 => whileGo c b n s2
      | .cnt s2 => whileGo c b n s2
      | .brk s2 => .next s2
      | o => o) else .next x.2
def whileM (φ : S → Nat) (c : TM) (b : SM) : SM := fun s => whileGo c b (φ s) s
theorem rd_while {tc : TT} {tb : TS} {φ : S → Nat} {c : TM} {b : SM} (hc : RdT C tc c) (hb : RdS C tb b) : RdS C (tWhile tc tb) (whileM φ c b) := by
  intro σ H F θ s Q bs p
  refine ⟨fun m σ' H' => ∃ F' θ' s', BS C.K C.ca σ' H' F' θ' s' ∧ PoS C H' F' θ' (whileGo c b m s') Q, ⟨φ s, F, θ, s, bs, p⟩, ?_⟩
  rintro m σ' H' ⟨F', θ', s', b', po⟩
  cases m with
  | zero => exact False.elim po
  | succ m =>
    rw [whileGo] at po
    refine hc σ' H' F' θ' s' _ b' (PoS.out po ?_)
    rintro ⟨x, s1⟩ H1 F1 θ1 _ st1 p1 b1
    cases x with
    | false => exact iteF (p1 σ' H1 F1 θ1 .refl b1)
    | true =>
      refine iteT ⟨fun σ2 H2 => ∃ F2 θ2 s2, BS C.K C.ca σ2 H2 F2 θ2 s2 ∧ PoS C H2 F2 θ2 (whileGo c b m s2) Q, fun σ2 H2 n => ⟨m, Nat.lt_succ_self _, n⟩, ?_⟩
      refine hb σ' H1 F1 θ1 s1 _ b1 ?_
      dsimp only [if_true] at p1
      cases e : b s1 with
      | next s5 => rw [e] at p1; exact fun σ5 H5 F5 θ5 st5 b5 => ⟨F5, θ5, s5, b5, PoS.after st5 p1⟩
      | cnt s5 => rw [e] at p1; exact fun σ5 H5 F5 θ5 st5 b5 => ⟨F5, θ5, s5, b5, PoS.after st5 p1⟩
      | brk s5 => rw [e] at p1; exact p1
      | ret d s5 => rw [e] at p1; exact p1
      | exc c a o => rw [e] at p1; exact p1
      | bad => rw [e] at p1; exact p1
def itemsOf (O : Store) : D → Res (List D × Option Nat)
  | .lst ds => .ok (ds, none)
  | .ptr k => match O[k]? with
    | some (.lst ds) => .ok (ds, some k)
    | _ => .bad
  | _ => .bad
def listI (m : EM) : IM := fun s => (m s).bind fun x => (itemsOf x.2.o x.1).bind fun y => .ok (y, x.2)
theorem itl_fz {a : Addr} {xs : List V} {ds : List D} {H F : Hp} {θ : List Addr} (hs : SqL C.K F a xs) (hr : Reps C.K C.ca θ F ds xs) (inj : ∀ {σ H2 F2 θ2 s2}, Stp H F θ H2 F2 θ2 → BS C.K C.ca σ H2 F2 θ2 s2 → SqL C.K H2 a xs) :
    ItIs C (Itl C.K a) ds (okC ds none) H F θ where
  go := fun i H2 F2 θ2 O2 hi st n _ => by
    obtain ⟨x, hx⟩ : ∃ x, xs[i]? = some x := ⟨xs[i]'(by rw [hr.length]; exact hi), List.getElem?_eq_getElem _⟩
    exact ⟨xs, x, n.fh.seq (st.ff.seq hs), hx⟩
  yl := fun i d σ H2 F2 θ2 s2 x H3 hd st b _ hy => by
    obtain ⟨rfl, hx⟩ := hy
    refine ⟨F2, .refl, b, ?_⟩
    obtain ⟨v, h1, h2⟩ := hr.get hd
    have := hx xs (b.now.fh.seq (st.ff.seq hs))
    rw [h1] at this
    cases this
    exact h2.mono st.ff st.pre
  st := fun i H2 F2 θ2 O2 hi st n _ => ⟨xs, n.fh.seq (st.ff.seq hs), by rw [hr.length]; exact hi⟩
theorem rd_list {tl : TE} {m : EM} (h : RdE C tl m) : RdI C (iList C.K tl) (listI m) := by
  intro σ H F θ s R b p
  refine h σ H F θ s _ b (PoR.bind p ?_)
  rintro ⟨x, s1⟩ H1 F1 θ1 _ st1 p1 b1 v r1
  dsimp only at p1 b1 r1
  cases x <;> first | exact False.elim p1 | skip
  · rename_i ds _
    unfold Rep at r1
    obtain ⟨a, xs, rfl, hs, hr⟩ := r1
    exact ⟨a, rfl, ⟨xs, b1.now.fh.seq hs⟩, p1 _ _ _ .refl b1 _ (itl_fz hs hr fun st b => b.now.fh.seq (st.ff.seq hs))⟩
  · rename_i k _
    unfold Rep at r1
    obtain ⟨a, rfl, hk⟩ := r1
    unfold itemsOf at p1
    dsimp only at p1
    split at p1
    · rename_i ds ek
      obtain ⟨q1, xs, q2, q3⟩ : CellOk C.K C.ca H1 F1 θ1 a (.lst ds) := b1.now.ce k a _ hk ek
      refine ⟨a, rfl, ⟨xs, SqL.of q2⟩, p1 _ _ _ .refl b1 _ ?_⟩
      have cell : ∀ {H2 F2 : Hp} {θ2 : List Addr} {O2 : Store}, Stp H1 F1 θ1 H2 F2 θ2 → Now C.K C.ca H2 F2 θ2 O2 → O2[k]? = some (.lst ds) → ∃ ys, SqL C.K H2 a ys ∧ Reps C.K C.ca θ2 F2 ds ys := fun {H2 F2 θ2 O2} st n e => by
        have hk2 : θ2[k]? = some a := by
          obtain ⟨r, rfl, _⟩ := st.th
          rw [List.getElem?_append_left (List.getElem?_eq_some_iff.mp hk).1]
          exact hk
        obtain ⟨_, ys, w2, w3⟩ : CellOk C.K C.ca H2 F2 θ2 a (.lst ds) := n.ce k a _ hk2 e
        exact ⟨ys, SqL.of w2, w3⟩
      refine ⟨fun i H2 F2 θ2 O2 hi st n e => ?_, fun i d σ H2 F2 θ2 s2 x H3 hd st b e hy => ?_, fun i H2 F2 θ2 O2 hi st n e => ?_⟩
      · obtain ⟨ys, w1, w2⟩ := cell st n e
        exact ⟨ys, ys[i]'(by rw [w2.length]; exact hi), w1, List.getElem?_eq_getElem _⟩
      · obtain ⟨rfl, hx⟩ := hy
        obtain ⟨ys, w1, w2⟩ := cell st b.now e
        obtain ⟨v, h1, h2⟩ := w2.get hd
        have := hx ys w1
        rw [h1] at this
        cases this
        exact ⟨F2, .refl, b, h2⟩
      · obtain ⟨ys, w1, w2⟩ := cell st n e
        exact ⟨ys, w1, by rw [w2.length]; exact hi⟩
    · exact False.elim p1
def rangeD (lo hi : Int) : List D := (List.range (hi - lo).toNat).map fun i => .int (lo + (i : Nat))
theorem rangeD_length (lo hi : Int) : (rangeD lo hi).length = (hi - lo).toNat := by unfold rangeD; simp
theorem it_range {lo hi : Int} {H F : Hp} {θ : List Addr} : ItIs C (Itr lo (hi - lo).toNat) (rangeD lo hi) (okC (rangeD lo hi) none) H F θ where
  go := fun i H2 F2 θ2 O2 h st n _ => by rw [rangeD_length] at h; exact h
  yl := fun i d σ H2 F2 θ2 s2 x H3 hd st b _ hy => by
    obtain ⟨rfl, rfl⟩ := hy
    refine ⟨F2, .refl, b, ?_⟩
    unfold rangeD at hd
    rw [List.getElem?_map] at hd
    cases e : (List.range (hi - lo).toNat)[i]? with
    | none => rw [e] at hd; cases hd
    | some j =>
      rw [e] at hd
      cases hd
      obtain ⟨_, rfl⟩ : ∃ h, j = i := ⟨trivial, by have := (List.getElem?_eq_some_iff.mp e).2; simpa using this.symm⟩
      exact rep_int.mpr rfl
  st := fun i H2 F2 θ2 O2 h st n _ => by rw [rangeD_length] at h; exact h
def rng1 (ma : AM) : IM := fun s => (ma s).bind fun x => match x.1 with
  | [.int j] => if -(2 ^ 62) ≤ j ∧ j < 2 ^ 62 then .ok ((rangeD 0 j, none), x.2) else .bad
  | _ => .bad
theorem reps_ints1 {K ca θ F i vs} (h : Reps K ca θ F [.int i] vs) : vs = [.int i] := by
  unfold Reps at h
  obtain ⟨v, r, rfl, h1, h2⟩ := h
  unfold Reps at h2
  rw [h2, rep_int.mp h1]
theorem reps_ints2 {K ca θ F i j vs} (h : Reps K ca θ F [.int i, .int j] vs) : vs = [.int i, .int j] := by
  unfold Reps at h
  obtain ⟨v, r, rfl, h1, h2⟩ := h
  rw [reps_ints1 h2, rep_int.mp h1]
theorem rd_rng1 {ta : TA} {m : AM} (h : RdA C ta m) : RdI C (iRng1 ta) (rng1 m) := by
  intro σ H F θ s R b p
  refine h σ H F θ s _ b (PoR.bind p ?_)
  rintro ⟨x, s1⟩ H1 F1 θ1 _ st1 p1 b1 v r1
  dsimp only at p1 b1 r1
  split at p1
  · rename_i j _
    split at p1
    · rename_i hj
      refine ⟨j, reps_ints1 r1, hj.1, hj.2, ?_⟩
      have := p1 _ _ _ .refl b1 _ (it_range (lo := 0) (hi := j))
      rw [Int.sub_zero] at this
      exact this
    · exact False.elim p1
  · exact False.elim p1
abbrev FM := List D → Store → Res (D × Store)
def spM (K : PySem.W.Frag) (ca : Nat → Addr) (n : Nat) (f : FM) : Sp := fun vs H Q E => ∃ F θ ds O, Now K ca H F θ O ∧ Reps K ca θ F ds vs ∧ ds.length = n ∧ match f ds O with
  | .ok (d, O1) => ∀ v H1 F1 θ1, Stp H F θ H1 F1 θ1 → Now K ca H1 F1 θ1 O1 → Rep K ca θ1 F1 d v → Q v H1
  | .exc c _ s1 => ∀ H1 F1 θ1, Stp H F θ H1 F1 θ1 → Now K ca H1 F1 θ1 s1.o → E (.ref (ca c)) none H1
  | .bad => False
def runM (n : Nat) (m : SM) : FM := fun ds O => match m ⟨ds.map some ++ List.replicate (n - ds.length) none, O⟩ with
  | .next s => .ok (.non, s.o)
  | .ret d s => .ok (d, s.o)
  | _ => .bad
theorem bs_start {K : PySem.W.Frag} {ca : Nat → Addr} {N : List Str} {H F : Hp} {θ : List Addr} {O : Store} {ds : List D} {vs : List V} (n : Now K ca H F θ O) (r : Reps K ca θ F ds vs) :
    BS K ca (L2.start N vs) H F θ ⟨ds.map some ++ List.replicate (N.length - ds.length) none, O⟩ := by
  refine ⟨n, by unfold L2.start; simp [r.length], fun i d e => ?_⟩
  dsimp only at e
  have hi : i < ds.length := by
    by_cases hi : i < ds.length
    · exact hi
    · rw [List.getElem?_append_right (by simpa using hi), List.getElem?_replicate] at e
      split at e <;> cases e
  rw [List.getElem?_append_left (by simpa using hi), List.getElem?_map] at e
  cases e1 : ds[i]? with
  | none => rw [e1] at e; cases e
  | some d' =>
    rw [e1] at e
    cases e
    obtain ⟨v, h1, h2⟩ := r.get e1
    refine ⟨v, ?_, h2⟩
    unfold L2.start
    rw [List.getElem?_append_left (by simpa [r.length] using hi), List.getElem?_map, h1]
    rfl
def W0 : Wsh := fun _ _ _ _ _ _ => False
theorem def_ok {P : Program} {w : World} {K : PySem.W.Frag} {mg : Str → Option Value} {base : Heap} {ca : Nat → Addr} {x qual : Str} {st : Stmt} {f : Addr} {fd : FuncData} {N ps : List Str} {k n : Nat} {m : SM}
    (F : Fun K x qual st f fd) (S : FnScope N ps (defScope st)) (hn : N.length = n)
    (hm : ∀ (cdv : Value) (A : Around) (outer : List Env) (s : Shared) (H : Hp) (E : XK), Room k (A.deeper (envOfC qual (defScope st) s.heap.objs.size f cdv)) →
      ∃ t, PSs (cxOf (CXE P w) P w K mg base N qual (defScope st) f cdv A outer s H E).nox (defBody st) t ∧ RdS ⟨K, ca, W0⟩ t m) :
    FnOk P w K mg base (CXE P w) (k + 1) f fd ps (spM K ca ps.length (runM n m)) := by
  refine F.okE S (fun vs H Q E h => ?_) (fun cdv A outer s H vs Q E hr h => ?_)
  · obtain ⟨F, θ, ds, O, _, r, hl, _⟩ := h
    rw [r.length, hl]
  · obtain ⟨F, θ, ds, O, now, r, hl, q⟩ := h
    obtain ⟨t, ht, rd⟩ := hm cdv A outer s H E hr
    refine ⟨t, ht.nox, rd _ H F θ _ _ (bs_start now r) ?_⟩
    subst hn
    unfold runM at q
    cases e : m ⟨ds.map some ++ List.replicate (N.length - ds.length) none, O⟩ with
    | next s1 => rw [e] at q; exact fun σ1 H1 F1 θ1 st b => q .non H1 F1 θ1 st b.now (rep_non.mpr rfl)
    | ret d s1 => rw [e] at q; exact fun v σ1 H1 F1 θ1 st b rv => q v H1 F1 θ1 st b.now rv
    | exc c a o => rw [e] at q; exact False.elim q
    | brk s1 => rw [e] at q; exact False.elim q
    | cnt s1 => rw [e] at q; exact False.elim q
    | bad => rw [e] at q; exact False.elim q
theorem BS.called {K : PySem.W.Frag} {ca : Nat → Addr} {σ : L2.St} {H F H1 F1 : Hp} {θ θ1 : List Addr} {s : S} {O1 : Store} (b : BS K ca σ H F θ s) (st : Stp H F [] H1 F1 θ1) (n : Now K ca H1 F1 θ1 O1) :
    Stp H F θ H1 F1 θ ∧ BS K ca σ H1 F1 θ s := by
  have kp : ∀ b o, H b = some o → H1 b = some o := fun b o h => st.kp b o h (by simp)
  have nf : ∀ b o, F1 b = some o → F b = some o ∨ H b = none := fun b o h => by
    rcases st.nf b o h with z | z | z
    · exact .inl z
    · exact .inr z
    · simp at z
  refine ⟨⟨st.ff, ⟨[], by simp, by simp⟩, fun b o h _ => kp b o h, st.al, fun b o h => (nf b o h).elim .inl fun z => .inr (.inl z)⟩, ⟨⟨n.fh, b.now.nd, b.now.ln, fun k a c e1 e2 => ?_⟩, b.len, fun i d e => ?_⟩⟩
  · have q := b.now.ce k a c e1 e2
    obtain ⟨u, hu⟩ := q.there
    have fn : F a = none → F1 a = none := fun h => by
      cases e : F1 a with
      | none => rfl
      | some o =>
        rcases nf a o e with z | z
        · rw [h] at z; cases z
        · rw [hu] at z; cases z
    cases c with
    | dead => exact ⟨u, kp a u hu⟩
    | lst ds =>
      obtain ⟨q1, xs, q2, q3⟩ := q
      exact ⟨fn q1, xs, kp _ _ q2, q3.mono st.ff ⟨[], by simp⟩⟩
    | ins c ns ds =>
      obtain ⟨q1, dx, xs, q2, q3, q4⟩ := q
      exact ⟨fn q1, dx, xs, kp _ _ q2, q3, q4.mono st.ff ⟨[], by simp⟩⟩
  · obtain ⟨v, h1, h2⟩ := b.sl i d e
    exact ⟨v, h1, h2.mono st.ff ⟨[], by simp⟩⟩
def callP (n : Nat) (f : FM) (ma : AM) : EM := fun s => (ma s).bind fun x => if pureDs x.1 = true ∧ x.1.length = n then (match f x.1 [] with
  | .ok (d, _) => if pureD d = true then .ok (d, x.2) else .bad
  | _ => .bad) else .bad
theorem rd_callP {n : Nat} {f : FM} {ta : TA} {ma : AM} {E : XK} (ha : RdA C ta ma) : RdE C (tCall (spM C.K C.ca n f) [] E ta) (callP n f ma) := by
  intro σ H F θ s Q b p
  refine ha σ H F θ s _ b (PoR.bind p ?_)
  rintro ⟨x, s1⟩ H1 F1 θ1 _ st1 p1 b1 v r1
  dsimp only at p1 b1 r1 ⊢
  split at p1
  · rename_i hp
    rw [List.append_nil]
    refine ⟨F1, [], x, [], Now.nil b1.now.fh, r1.pure hp.1, hp.2, ?_⟩
    split at p1
    · rename_i d O1 e
      rw [e]
      intro v H2 F2 θ2 st2 n2 rv
      split at p1
      · rename_i pd
        obtain ⟨st3, b3⟩ := b1.called st2 n2
        exact p1 H2 F2 θ1 st3 b3 v (rv.pure pd)
      · exact False.elim p1
    · exact False.elim p1
  · exact False.elim p1
end
end M
set_option maxRecDepth 100000
set_option maxHeartbeats 4000000
namespace M
open PySem PySem.Spec PyProof.Rows L2
section
variable {C : Ct}
theorem po_val {σ : L2.St} {H F : Hp} {θ : List Addr} {s : S} {d : D} {Q : VK} (p : PoE C σ H F θ ((Res.ok d).bind fun d => .ok (d, s)) Q) (b : BS C.K C.ca σ H F θ s) {v : V} (r : Rep C.K C.ca θ F d v) : Q v H := p H F θ .refl b v r
theorem po_lst {σ : L2.St} {H F : Hp} {θ : List Addr} {s : S} {ds : List D} {Q : VK} (p : PoE C σ H F θ ((Res.ok (D.lst ds)).bind fun d => .ok (d, s)) Q) (b : BS C.K C.ca σ H F θ s) {xs : List V} (r : Reps C.K C.ca θ F ds xs) :
    ∀ q, H q = none → Q (.ref q) (upd H q (.lst xs)) := fun q hq => by
  obtain ⟨st, b2, sF, e⟩ := b.newF hq (.lst xs)
  refine p _ _ _ st b2 _ ?_
  unfold Rep
  exact ⟨q, xs, rfl, SqL.of e, r.mono sF ⟨[], by simp⟩⟩
def lsD (O : Store) : D → Option (List D)
  | .lst ds => some ds
  | .ptr k => match O[k]? with
    | some (.lst ds) => some ds
    | _ => none
  | _ => none
@[simp] theorem lsD_lst {O : Store} {ds : List D} : lsD O (.lst ds) = some ds := rfl
theorem ls_rep {σ : L2.St} {H F : Hp} {θ : List Addr} {s : S} {d : D} {ds : List D} {v : V} (b : BS C.K C.ca σ H F θ s) (r : Rep C.K C.ca θ F d v) (e : lsD s.o d = some ds) : ∃ a xs, v = .ref a ∧ SqL C.K H a xs ∧ Reps C.K C.ca θ F ds xs := by
  cases d <;> first | (simp [lsD] at e; done) | skip
  · cases e
    unfold Rep at r
    obtain ⟨a, xs, rfl, hs, hr⟩ := r
    exact ⟨a, xs, rfl, b.now.fh.seq hs, hr⟩
  · rename_i k
    unfold Rep at r
    obtain ⟨a, rfl, hk⟩ := r
    unfold lsD at e
    dsimp only at e
    split at e
    · rename_i ds' ek
      cases e
      obtain ⟨_, xs, h1, h2⟩ : CellOk C.K C.ca H F θ a (.lst ds) := b.now.ce k a _ hk ek
      exact ⟨a, xs, rfl, SqL.of h1, h2⟩
    · cases e
theorem tp_rep {σ : L2.St} {H F : Hp} {θ : List Addr} {s : S} {ds : List D} {v : V} (b : BS C.K C.ca σ H F θ s) (r : Rep C.K C.ca θ F (.tup ds) v) : ∃ a xs, v = .ref a ∧ SqT C.K H a xs ∧ Reps C.K C.ca θ F ds xs := by
  unfold Rep at r
  obtain ⟨a, xs, rfl, hs, hr⟩ := r
  exact ⟨a, xs, rfl, Same.seqT b.now.fh hs, hr⟩
def intD (g : Int → Int → Res D) : Op2 := fun _ x y => match x, y with
  | .int i, .int j => g i j
  | _, _ => .bad
theorem rd_rI0 {g : Int → Int → V} {f : Int → Int → D} (h : ∀ K ca θ F i j, Rep K ca θ F (f i j) (g i j)) : RdOp C (rI0 g) (intD fun i j => .ok (f i j)) := by
  intro σ H F θ s x y v w Q b rx ry p
  unfold intD at p
  split at p
  · rename_i i j
    exact ⟨i, j, rep_int.mp rx, rep_int.mp ry, po_val p b (h ..)⟩
  · exact False.elim p
open Classical in
noncomputable def intC (c : Int → Int → Prop) (f : Int → Int → D) : Op2 := intD fun i j => if c i j then .ok (f i j) else .bad
theorem rd_rI {c : Int → Int → Prop} {g : Int → Int → V} {f : Int → Int → D} (h : ∀ K ca θ F i j, Rep K ca θ F (f i j) (g i j)) : RdOp C (rI c g) (intC c f) := by
  intro σ H F θ s x y v w Q b rx ry p
  unfold intC intD at p
  split at p
  · rename_i i j
    dsimp only at p
    split at p
    · rename_i hc
      exact ⟨i, j, rep_int.mp rx, rep_int.mp ry, hc, po_val p b (h ..)⟩
    · exact False.elim p
  · exact False.elim p
def subD : Op2 := intD fun i j => .ok (.int (i - j))
noncomputable def mulD : Op2 := intC IntMulOk fun i j => .int (i * j)
noncomputable def fdivD : Op2 := intC (fun i j => j ≠ 0) fun i j => .int (i.fdiv j)
noncomputable def modD : Op2 := intC (fun _ j => j ≠ 0) fun i j => .int (i.fmod j)
noncomputable def powD : Op2 := intC CPow fun i j => .int (i ^ j.toNat)
def ltD : Op2 := intD fun i j => .ok (.bl (decide (i < j)))
def leD : Op2 := intD fun i j => .ok (.bl (decide (i ≤ j)))
def gtD : Op2 := intD fun i j => .ok (.bl (decide (j < i)))
def geD : Op2 := intD fun i j => .ok (.bl (decide (j ≤ i)))
def negD : Op1 := fun _ x => match x with
  | .int i => .ok (.int (-i))
  | _ => .bad
section
variable {X : Cx}
theorem o_mul : OpR X (binaryOp .Mult) (rI IntMulOk fun i j => .int (i * j)) := opI fun _ _ _ _ _ _ _ hc q => mul_int q hc
theorem o_fdiv (hd : X.A.depth + 100 < recursionLimit) (ht : X.prog.given.tree = none) (hs : ∃ env l, X.stack = env :: l ∧ env.scope.isGenerator = false ∧ env.scope.isCoroutine = false ∧ env.builtins = builtinsNs ∧ env.globals = mainGlobals) :
    OpR X (binaryOp .FloorDiv) (rI (fun i j => j ≠ 0) fun i j => .int (i.fdiv j)) := by
  intro pins s σ H x y v u Q I rx ry h
  obtain ⟨i, j, rfl, rfl, hc, q⟩ := h
  obtain ⟨t, rfl⟩ := rx
  obtain ⟨t', rfl⟩ := ry
  obtain ⟨env, l, e, h1, h2, h3, h4⟩ := hs
  exact floordiv_int hc ⟨.int _, H, I.tok _, ⟨_, rfl⟩, q⟩ (.inr (PylongRoom.of I.nolimit hd (SeerAt.of I.noseer ht (I.ok.frames.trans (by rw [e])) h1 h2 h3 h4)))
def rAddA (K : PySem.W.Frag) : R2 := fun x y H Q => rI0 (fun i j => .int (i + j)) x y H Q ∨ (∃ i j, x = .str i ∧ y = .str j ∧ i.length + j.length ≤ sizeLine ∧ Q (.str (i ++ j)) H) ∨ rCatL K x y H Q
theorem o_add : OpR X (binaryOp .Add) (rAddA X.K) := op_add.or (op_add_str.or op_catL)
end
def addI : Op2 := intD fun i j => .ok (.int (i + j))
def addD : Op2 := fun O x y => match x, y with
  | .int i, .int j => .ok (.int (i + j))
  | .str a, .str b => if a.length + b.length ≤ 16777216 then .ok (.str (a ++ b)) else .bad
  | x, y => match lsD O x, lsD O y with
    | some a, some b => if a.length + b.length ≤ 16777216 then .ok (.lst (a ++ b)) else .bad
    | _, _ => .bad
theorem rd_add : RdOp C (rAddA C.K) addD := by
  intro σ H F θ s x y v w Q b rx ry p
  have lists : ∀ {a c : List D}, lsD s.o x = some a → lsD s.o y = some c → PoE C σ H F θ ((if a.length + c.length ≤ 16777216 then Res.ok (D.lst (a ++ c)) else .bad).bind fun d => .ok (d, s)) Q → rAddA C.K v w H Q := fun {a c} e1 e2 p => by
    split at p
    · rename_i hl
      obtain ⟨l1, xs, rfl, s1, r1⟩ := ls_rep b rx e1
      obtain ⟨l2, ys, rfl, s2, r2⟩ := ls_rep b ry e2
      exact .inr (.inr ⟨l1, l2, xs, ys, rfl, rfl, s1, s2, by rw [r1.length, r2.length]; exact hl, po_lst p b (r1.append r2)⟩)
    · exact False.elim p
  unfold addD at p
  split at p
  · rename_i i j
    exact .inl ⟨i, j, rep_int.mp rx, rep_int.mp ry, po_val p b (rep_int.mpr rfl)⟩
  · rename_i i j
    split at p
    · rename_i hl
      exact .inr (.inl ⟨i, j, rep_str.mp rx, rep_str.mp ry, hl, po_val p b (rep_str.mpr rfl)⟩)
    · exact False.elim p
  · split at p
    · rename_i a c e1 e2
      exact lists e1 e2 p
    · exact False.elim p
theorem rd_sub : RdOp C (rI0 fun i j => .int (i - j)) subD := rd_rI0 fun _ _ _ _ _ _ => rep_int.mpr rfl
theorem rd_mul : RdOp C (rI IntMulOk fun i j => .int (i * j)) mulD := rd_rI fun _ _ _ _ _ _ => rep_int.mpr rfl
theorem rd_fdiv : RdOp C (rI (fun i j => j ≠ 0) fun i j => .int (i.fdiv j)) fdivD := rd_rI fun _ _ _ _ _ _ => rep_int.mpr rfl
theorem rd_mod : RdOp C (rI (fun _ j => j ≠ 0) fun i j => .int (i.fmod j)) modD := rd_rI fun _ _ _ _ _ _ => rep_int.mpr rfl
theorem rd_pow : RdOp C (rI CPow fun i j => .int (i ^ j.toNat)) powD := rd_rI fun _ _ _ _ _ _ => rep_int.mpr rfl
theorem rd_lt : RdOp C (rI0 fun i j => .bl (decide (i < j))) ltD := rd_rI0 fun _ _ _ _ _ _ => rep_bl.mpr rfl
theorem rd_gt : RdOp C (rI0 fun i j => .bl (decide (j < i))) gtD := rd_rI0 fun _ _ _ _ _ _ => rep_bl.mpr rfl
theorem rd_ge : RdOp C (rI0 fun i j => .bl (decide (j ≤ i))) geD := rd_rI0 fun _ _ _ _ _ _ => rep_bl.mpr rfl
theorem rd_neg : RdUn C (rU fun i => .int (-i)) negD := by
  intro σ H F θ s x v Q b rx p
  unfold negD at p
  split at p
  · rename_i i
    exact ⟨i, rep_int.mp rx, po_val p b (rep_int.mpr rfl)⟩
  · exact False.elim p
mutual
def toPy : D → Option PyData
  | .non => some .none
  | .bl b => some (.bool b)
  | .int i => some (.int i)
  | .str x => some (.str x)
  | .lst ds => (toPys ds).map .list
  | .tup ds => (toPys ds).map .tuple
  | .ptr _ => none
  | .obj _ _ _ => none
  | .exn _ => none
def toPys : List D → Option (List PyData)
  | [] => some []
  | d :: ds => match toPy d, toPys ds with
    | some a, some b => some (a :: b)
    | _, _ => none
end
mutual
def res (O : Store) : D → D
  | .lst ds => .lst (ress O ds)
  | .tup ds => .tup (ress O ds)
  | .ptr k => match O[k]? with
    | some (.lst ds) => .lst ds
    | _ => .ptr k
  | .non => .non
  | .bl b => .bl b
  | .int i => .int i
  | .str x => .str x
  | .obj c ns ds => .obj c ns ds
  | .exn c => .exn c
def ress (O : Store) : List D → List D
  | [] => []
  | d :: ds => res O d :: ress O ds
end
section
variable {K : PySem.W.Frag} {ca : Nat → Addr} {H F G : Hp} {θ : List Addr} {O : Store}
mutual
theorem res_rep (n : Now K ca H F θ O) (hF : Same F G) (hG : Same G H) : ∀ {d : D} {v : V}, Rep K ca θ G d v → Rep K ca θ H (res O d) v
  | .non, _, h => by unfold res; exact h
  | .bl _, _, h => by unfold res; exact h
  | .int _, _, h => by unfold res; exact h
  | .str _, _, h => by unfold res; exact h
  | .lst ds, _, h => by
    unfold res
    unfold Rep at h ⊢
    obtain ⟨a, xs, e, hs, hr⟩ := h
    exact ⟨a, xs, e, hG.seq hs, ress_rep n hF hG hr⟩
  | .tup ds, _, h => by
    unfold res
    unfold Rep at h ⊢
    obtain ⟨a, xs, e, hs, hr⟩ := h
    exact ⟨a, xs, e, Same.seqT hG hs, ress_rep n hF hG hr⟩
  | .ptr k, v, h => by
    unfold res
    split
    · rename_i ds e
      unfold Rep at h ⊢
      obtain ⟨a, ev, hk⟩ := h
      obtain ⟨_, xs, h1, h2⟩ : CellOk K ca H F θ a (.lst ds) := n.ce k a _ hk e
      exact ⟨a, xs, ev, SqL.of h1, h2.mono n.fh ⟨[], by simp⟩⟩
    · exact h.mono hG ⟨[], by simp⟩
  | .obj c ns ds, _, h => by unfold res; exact h.mono hG ⟨[], by simp⟩
  | .exn c, _, h => by unfold res; exact h.mono hG ⟨[], by simp⟩
theorem ress_rep (n : Now K ca H F θ O) (hF : Same F G) (hG : Same G H) : ∀ {ds : List D} {xs : List V}, Reps K ca θ G ds xs → Reps K ca θ H (ress O ds) xs
  | [], _, h => by unfold ress; exact h
  | d :: ds, _, h => by
    unfold ress
    unfold Reps at h ⊢
    obtain ⟨v, r, e, h1, h2⟩ := h
    exact ⟨v, r, e, res_rep n hF hG h1, ress_rep n hF hG h2⟩
end
mutual
theorem toPy_rd : ∀ {d : D} {v : V} {p : PyData}, Rep K ca θ H d v → toPy d = some p → RdV K H p v
  | .non, _, _, h, e => by unfold toPy at e; cases e; unfold RdV; exact rep_non.mp h
  | .bl b, _, _, h, e => by unfold toPy at e; cases e; unfold RdV; exact rep_bl.mp h
  | .int b, _, _, h, e => by unfold toPy at e; cases e; unfold RdV; exact rep_int.mp h
  | .str b, _, _, h, e => by unfold toPy at e; cases e; unfold RdV; exact rep_str.mp h
  | .lst ds, _, _, h, e => by
    unfold toPy at e
    cases e1 : toPys ds with
    | none => rw [e1] at e; cases e
    | some ps =>
      rw [e1] at e
      cases e
      unfold Rep at h
      obtain ⟨a, xs, ev, hs, hr⟩ := h
      unfold RdV
      exact ⟨a, xs, ev, hs, toPys_rd hr e1⟩
  | .tup ds, _, _, h, e => by
    unfold toPy at e
    cases e1 : toPys ds with
    | none => rw [e1] at e; cases e
    | some ps =>
      rw [e1] at e
      cases e
      unfold Rep at h
      obtain ⟨a, xs, ev, hs, hr⟩ := h
      unfold RdV
      exact ⟨a, xs, ev, hs, toPys_rd hr e1⟩
  | .ptr _, _, _, _, e => by unfold toPy at e; cases e
  | .obj _ _ _, _, _, _, e => by unfold toPy at e; cases e
  | .exn _, _, _, _, e => by unfold toPy at e; cases e
theorem toPys_rd : ∀ {ds : List D} {xs : List V} {ps : List PyData}, Reps K ca θ H ds xs → toPys ds = some ps → RdVs K H ps xs
  | [], _, _, h, e => by unfold toPys at e; cases e; unfold RdVs; unfold Reps at h; exact h
  | d :: ds, _, _, h, e => by
    unfold toPys at e
    cases e1 : toPy d with
    | none => rw [e1] at e; cases e
    | some p =>
      cases e2 : toPys ds with
      | none => rw [e1, e2] at e; cases e
      | some ps =>
        rw [e1, e2] at e
        cases e
        unfold Reps at h
        obtain ⟨v, r, ev, h1, h2⟩ := h
        unfold RdVs
        exact ⟨v, r, ev, toPy_rd h1 e1, toPys_rd h2 e2⟩
end
end
def eqDeep (O : Store) (x y : D) : Option Bool := match toPy (res O (res O x)), toPy (res O (res O y)) with
  | some a, some b => if SeqAt.shaped a = true ∧ SeqAt.shaped b = true then some (PyData.eqv a b) else none
  | _, _ => none
def eqB (O : Store) (x y : D) : Option Bool := match x, y with
  | .int i, .int j => some (decide (i = j))
  | .str i, .str j => some (decide (i = j))
  | .bl i, .bl j => some (decide (i = j))
  | .non, .non => some true
  | x, y => eqDeep O x y
def eqD : Op2 := fun O x y => match eqB O x y with
  | some b => .ok (.bl b)
  | none => .bad
def neD : Op2 := fun O x y => match eqB O x y with
  | some b => .ok (.bl (!b))
  | none => .bad
section
variable {X : Cx}
def rEqA (K : PySem.W.Frag) : R2 := fun x y H Q => rEq x y H Q ∨ rEqD K x y H Q
def rNeA (K : PySem.W.Frag) : R2 := fun x y H Q => rNe x y H Q ∨ rNeD K x y H Q
theorem o_eq (hu : X.A.units + 64 < cLine) : OpR X (compareOp .Eq) (rEqA X.K) := op_eq.or (op_eqD hu)
theorem o_ne (hu : X.A.units + 64 < cLine) : OpR X (compareOp .NotEq) (rNeA X.K) := op_ne.or (op_neD hu)
end
theorem eqDeep_rd {σ : L2.St} {H F : Hp} {θ : List Addr} {s : S} {x y : D} {v w : V} {k : Bool} (b : BS C.K C.ca σ H F θ s) (rx : Rep C.K C.ca θ F x v) (ry : Rep C.K C.ca θ F y w) (e : eqDeep s.o x y = some k) :
    ∃ d e, RdV C.K H d v ∧ RdV C.K H e w ∧ SeqAt.shaped d = true ∧ SeqAt.shaped e = true ∧ PyData.eqv d e = k := by
  unfold eqDeep at e
  split at e
  · rename_i a c e1 e2
    split at e
    · rename_i hs
      cases e
      have rr : ∀ {d : D} {u : V}, Rep C.K C.ca θ F d u → Rep C.K C.ca θ H (res s.o (res s.o d)) u := fun h => res_rep b.now b.now.fh (Same.refl _) (res_rep b.now (Same.refl _) b.now.fh h)
      exact ⟨a, c, toPy_rd (rr rx) e1, toPy_rd (rr ry) e2, hs.1, hs.2, rfl⟩
    · cases e
  · cases e
theorem rd_eq : RdOp C (rEqA C.K) eqD := by
  intro σ H F θ s x y v w Q b rx ry p
  unfold eqD at p
  split at p
  · rename_i k e
    have q := fun H' (h : H' = H) => h ▸ po_val p b (v := .bl k) (rep_bl.mpr rfl)
    have q := q H rfl
    unfold eqB at e
    split at e
    · rename_i i j
      cases e
      cases rep_int.mp rx; cases rep_int.mp ry
      exact .inl ⟨rfl, by rw [dec_int, Bool.beq_eq_decide_eq]; exact q⟩
    · cases e
      cases rep_str.mp rx; cases rep_str.mp ry
      exact .inl ⟨rfl, by rw [dec_str, Bool.beq_eq_decide_eq]; exact q⟩
    · cases e
      cases rep_bl.mp rx; cases rep_bl.mp ry
      exact .inl ⟨rfl, by rw [dec_bl, Bool.beq_eq_decide_eq]; exact q⟩
    · cases e
      cases rep_non.mp rx; cases rep_non.mp ry
      exact .inl ⟨rfl, by simpa using q⟩
    · obtain ⟨d, e', h1, h2, h3, h4, h5⟩ := eqDeep_rd b rx ry e
      exact .inr ⟨d, e', h1, h2, h3, h4, by rw [h5]; exact q⟩
  · exact False.elim p
theorem rd_ne : RdOp C (rNeA C.K) neD := by
  intro σ H F θ s x y v w Q b rx ry p
  unfold neD at p
  split at p
  · rename_i k e
    have q := po_val p b (v := .bl (!k)) (rep_bl.mpr rfl)
    unfold eqB at e
    split at e
    · rename_i i j
      cases e
      cases rep_int.mp rx; cases rep_int.mp ry
      exact .inl ⟨rfl, by rw [dec_int, Bool.beq_eq_decide_eq]; exact q⟩
    · cases e
      cases rep_str.mp rx; cases rep_str.mp ry
      exact .inl ⟨rfl, by rw [dec_str, Bool.beq_eq_decide_eq]; exact q⟩
    · cases e
      cases rep_bl.mp rx; cases rep_bl.mp ry
      exact .inl ⟨rfl, by rw [dec_bl, Bool.beq_eq_decide_eq]; exact q⟩
    · cases e
      cases rep_non.mp rx; cases rep_non.mp ry
      exact .inl ⟨rfl, by simpa using q⟩
    · obtain ⟨d, e', h1, h2, h3, h4, h5⟩ := eqDeep_rd b rx ry e
      exact .inr ⟨d, e', h1, h2, h3, h4, by rw [h5]; exact q⟩
  · exact False.elim p
def ixD : Op2 := fun O x y => match y with
  | .int i => match x with
    | .tup ds => match atI ds i with
      | some d => .ok d
      | none => .bad
    | .str z => if z.length ≤ 16777216 then (match atI z.cps.toList i with
      | some c => .ok (.str ⟨#[c]⟩)
      | none => .bad) else .bad
    | x => match lsD O x with
      | some ds => match atI ds i with
        | some d => .ok d
        | none => .bad
      | none => .bad
  | _ => .bad
theorem reps_at {K ca θ F} {ds : List D} {xs : List V} {i : Int} {d : D} (r : Reps K ca θ F ds xs) (e : atI ds i = some d) : ∃ v, atI xs i = some v ∧ Rep K ca θ F d v := by
  unfold atI at e ⊢
  rw [r.length]
  cases q : ixN ds.length i with
  | none => rw [q] at e; cases e
  | some j =>
    rw [q] at e
    exact r.get e
theorem rd_ix : RdOp C (rIx C.K) ixD := by
  intro σ H F θ s x y v w Q b rx ry p
  unfold ixD at p
  split at p
  · rename_i i
    split at p
    · rename_i ds
      obtain ⟨a, xs, rfl, hs, hr⟩ := tp_rep b rx
      split at p
      · rename_i d e
        obtain ⟨u, e1, r1⟩ := reps_at hr e
        exact .inr (.inl ⟨a, xs, i, u, rfl, rep_int.mp ry, hs, e1, po_val p b r1⟩)
      · exact False.elim p
    · rename_i z
      split at p
      · rename_i hz
        split at p
        · rename_i c e
          exact .inr (.inr ⟨z, i, c, rep_str.mp rx, rep_int.mp ry, hz, e, po_val p b (rep_str.mpr rfl)⟩)
        · exact False.elim p
      · exact False.elim p
    · split at p
      · rename_i ds e0
        obtain ⟨a, xs, rfl, hs, hr⟩ := ls_rep b rx e0
        split at p
        · rename_i d e
          obtain ⟨u, e1, r1⟩ := reps_at hr e
          exact .inl ⟨a, xs, i, u, rfl, rep_int.mp ry, hs, e1, po_val p b r1⟩
        · exact False.elim p
      · exact False.elim p
  · exact False.elim p
abbrev OM := S → Res (Option Int × S)
def RdO (C : Ct) (t : TO) (m : OM) : Prop := ∀ σ H F θ s Q, BS C.K C.ca σ H F θ s → PoR C H F θ (m s) (fun y H1 F1 θ1 => BS C.K C.ca σ H1 F1 θ1 y.2 → Q y.1 H1) → t σ H Q
def noPart : OM := fun s => .ok (none, s)
def part (m : EM) : OM := fun s => (m s).bind fun x => match x.1 with
  | .int i => .ok (some i, x.2)
  | _ => .bad
theorem rd_noPart : RdO C tNoPart noPart := fun σ H F θ s Q b p => p H F θ .refl b
theorem rd_part {t : TE} {m : EM} (h : RdE C t m) : RdO C (tPart t) (part m) := by
  intro σ H F θ s Q b p
  refine h σ H F θ s _ b (PoR.bind p ?_)
  rintro ⟨x, s1⟩ H1 F1 θ1 _ st1 p1 b1 v r1
  cases x <;> first | exact False.elim p1 | skip
  rename_i i _
  exact ⟨i, rep_int.mp r1, p1 _ _ _ .refl b1⟩
def cutD (ds : List D) (lo hi : Option Int) : List D := (ds.drop (HT.sIx ds.length 0 lo)).take (HT.sIx ds.length ds.length hi - HT.sIx ds.length 0 lo)
theorem cut_rep {K ca θ F} {ds : List D} {xs : List V} {lo hi : Option Int} (r : Reps K ca θ F ds xs) : Reps K ca θ F (cutD ds lo hi) (cutV xs lo hi) := by
  unfold cutD cutV
  rw [r.length]
  exact (r.drop _).take _
def slM (me : EM) (ml mh : OM) : EM := fun s => (me s).bind fun x => (ml x.2).bind fun l => (mh l.2).bind fun h => match lsD h.2.o x.1 with
  | some ds => .ok (.lst (cutD ds l.1 h.1), h.2)
  | none => .bad
theorem rd_sl {te : TE} {tl th : TO} {me : EM} {ml mh : OM} (he : RdE C te me) (hl : RdO C tl ml) (hh : RdO C th mh) : RdE C (tSl (rSlL C.K) te tl th) (slM me ml mh) := by
  intro σ H F θ s Q b p
  refine he σ H F θ s _ b (PoR.bind p ?_)
  rintro ⟨x, s1⟩ H1 F1 θ1 _ st1 p1 b1 v r1
  refine hl σ H1 F1 θ1 s1 _ b1 (PoR.bind p1 ?_)
  rintro ⟨l, s2⟩ H2 F2 θ2 _ st2 p2 b2
  refine hh σ H2 F2 θ2 s2 _ b2 (PoR.bind p2 ?_)
  rintro ⟨h, s3⟩ H3 F3 θ3 _ st3 p3 b3
  dsimp only at p3 ⊢
  split at p3
  · rename_i ds e
    obtain ⟨a, xs, rfl, hs, hr⟩ := ls_rep b3 ((r1.mono st2.ff st2.pre).mono st3.ff st3.pre) e
    exact ⟨a, xs, rfl, hs, po_lst (ds := cutD ds l h) p3 b3 (cut_rep hr)⟩
  · exact False.elim p3
def lenD : OpN := fun O xs => match xs with
  | [.str z] => if z.length ≤ 16777216 then .ok (.int z.length) else .bad
  | [.tup ds] => .ok (.int ds.length)
  | [x] => match lsD O x with
    | some ds => .ok (.int ds.length)
    | none => .bad
  | _ => .bad
theorem reps1 {K ca θ F} {x : D} {vs : List V} (h : Reps K ca θ F [x] vs) : ∃ v, vs = [v] ∧ Rep K ca θ F x v := by
  unfold Reps at h
  obtain ⟨v, r, rfl, h1, h2⟩ := h
  unfold Reps at h2
  rw [h2]
  exact ⟨v, rfl, h1⟩
theorem reps2 {K ca θ F} {x y : D} {vs : List V} (h : Reps K ca θ F [x, y] vs) : ∃ v w, vs = [v, w] ∧ Rep K ca θ F x v ∧ Rep K ca θ F y w := by
  unfold Reps at h
  obtain ⟨v, r, rfl, h1, h2⟩ := h
  obtain ⟨w, rfl, h3⟩ := reps1 h2
  exact ⟨v, w, rfl, h1, h3⟩
theorem rd_len : RdCall C (fun xs H Q => ∃ x n, xs = [x] ∧ LenV C.K x H n ∧ Q (.int n) H) lenD := by
  intro σ H F θ s xs vs Q b r p
  unfold lenD at p
  split at p
  · rename_i z
    obtain ⟨v, rfl, r1⟩ := reps1 r
    cases rep_str.mp r1
    split at p
    · rename_i hz
      exact ⟨.str z, z.length, rfl, ⟨hz, rfl⟩, po_val p b (rep_int.mpr rfl)⟩
    · exact False.elim p
  · rename_i ds
    obtain ⟨v, rfl, r1⟩ := reps1 r
    obtain ⟨a, xs, rfl, hs, hr⟩ := tp_rep b r1
    exact ⟨.ref a, ds.length, rfl, .inr ⟨xs, hs, by rw [hr.length]⟩, po_val p b (rep_int.mpr rfl)⟩
  · rename_i x _ _
    obtain ⟨v, rfl, r1⟩ := reps1 r
    split at p
    · rename_i ds e
      obtain ⟨a, xs, rfl, hs, hr⟩ := ls_rep b r1 e
      exact ⟨.ref a, ds.length, rfl, .inl ⟨xs, hs, by rw [hr.length]⟩, po_val p b (rep_int.mpr rfl)⟩
    · exact False.elim p
  · exact False.elim p
def listD : OpN := fun O xs => match xs with
  | [.tup ds] => .ok (.lst ds)
  | [x] => match lsD O x with
    | some ds => .ok (.lst ds)
    | none => .bad
  | _ => .bad
theorem rd_listF : RdCall C (fun xs H Q => ∃ p ys, xs = [.ref p] ∧ (SqL C.K H p ys ∨ SqT C.K H p ys) ∧ ∀ l, H l = none → Q (.ref l) (upd H l (.lst ys))) listD := by
  intro σ H F θ s xs vs Q b r p
  unfold listD at p
  split at p
  · rename_i ds
    obtain ⟨v, rfl, r1⟩ := reps1 r
    obtain ⟨a, xs, rfl, hs, hr⟩ := tp_rep b r1
    exact ⟨a, xs, rfl, .inr hs, po_lst p b hr⟩
  · obtain ⟨v, rfl, r1⟩ := reps1 r
    split at p
    · rename_i ds e
      obtain ⟨a, xs, rfl, hs, hr⟩ := ls_rep b r1 e
      exact ⟨a, xs, rfl, .inl hs, po_lst p b hr⟩
    · exact False.elim p
  · exact False.elim p
def absD : OpN := fun _ xs => match xs with
  | [.int i] => .ok (.int (if i < 0 then -i else i))
  | _ => .bad
theorem rd_abs : RdCall C (fun xs H Q => ∃ i, xs = [.int i] ∧ Q (.int (if i < 0 then -i else i)) H) absD := by
  intro σ H F θ s xs vs Q b r p
  unfold absD at p
  split at p
  · rename_i i
    exact ⟨i, reps_ints1 r, po_val p b (rep_int.mpr rfl)⟩
  · exact False.elim p
def intOf : OpN := fun _ xs => match xs with
  | [.int i] => .ok (.int i)
  | [.bl k] => .ok (.int (if k then 1 else 0))
  | _ => .bad
def tyD (O : Store) : D → Option String
  | .non => some "NoneType"
  | .bl _ => some "bool"
  | .int _ => some "int"
  | .str _ => some "str"
  | .lst _ => some "list"
  | .tup _ => some "tuple"
  | .ptr k => match O[k]? with
    | some (.lst _) => some "list"
    | _ => none
  | .obj _ _ _ => none
  | .exn _ => none
def isSub (t c : String) : Bool := t == c || (t == "bool" && c == "int")
def isiD (c : String) : Op1 := fun O x => match tyD O x with
  | some t => .ok (.bl (isSub t c))
  | none => .bad
def plainTy (c : String) : Prop := ∀ K : PySem.W.Frag, ∀ t ∈ ["NoneType", "bool", "int", "str", "list", "tuple"], PySem.W.kitOne K (.type t) (.type c) = some (isSub t c)
theorem ty_int : plainTy "int" := by
  intro K t ht
  simp only [List.mem_cons, List.mem_nil_iff, or_false] at ht
  rcases ht with rfl | rfl | rfl | rfl | rfl | rfl <;> rfl
theorem ty_str : plainTy "str" := by
  intro K t ht
  simp only [List.mem_cons, List.mem_nil_iff, or_false] at ht
  rcases ht with rfl | rfl | rfl | rfl | rfl | rfl <;> rfl
theorem rd_isi {c : String} {te : TE} {m : EM} (hc : plainTy c) (h : RdE C te m) : RdE C (tCB (rIsi C.K) (tCons te (tCons (tC (.ty c)) tNil))) (unM (isiD c) m) := by
  intro σ H F θ s Q b p
  refine h σ H F θ s _ b (PoR.bind p ?_)
  rintro ⟨x, s1⟩ H1 F1 θ1 _ st1 p1 b1 v r1
  dsimp only at p1 b1 r1
  show rIsi C.K [v, .ty c] H1 Q
  unfold isiD at p1
  split at p1
  · rename_i t e
    have q := po_val p1 b1 (v := .bl (isSub t c)) (rep_bl.mpr rfl)
    refine ⟨v, c, t, isSub t c, rfl, ?_, ?_, q⟩
    · cases x <;> first | (unfold tyD at e; cases e; done) | skip
      · unfold tyD at e; cases e; rw [rep_non.mp r1]; rfl
      · unfold tyD at e; cases e; rw [rep_bl.mp r1]; rfl
      · unfold tyD at e; cases e; rw [rep_int.mp r1]; rfl
      · unfold tyD at e; cases e; rw [rep_str.mp r1]; rfl
      · unfold tyD at e; cases e
        unfold Rep at r1
        obtain ⟨a, xs, rfl, hs, hr⟩ := r1
        exact .inl ⟨rfl, xs, b1.now.fh.seq hs⟩
      · unfold tyD at e; cases e
        unfold Rep at r1
        obtain ⟨a, xs, rfl, hs, hr⟩ := r1
        exact .inr ⟨rfl, xs, Same.seqT b1.now.fh hs⟩
      · rename_i k _
        unfold tyD at e
        dsimp only at e
        split at e
        · rename_i ds ek
          cases e
          obtain ⟨a, xs, rfl, hs, hr⟩ := ls_rep b1 r1 (ds := ds) (by unfold lsD; simp only [ek])
          exact .inl ⟨rfl, xs, hs⟩
        · cases e
    · refine hc C.K t ?_
      cases x <;> unfold tyD at e <;> dsimp only at e <;> first | (cases e; simp; done) | (cases e; done) | skip
      split at e
      · cases e; simp
      · cases e
  · exact False.elim p1
theorem nodup_at {α : Type} {l : List α} (h : l.Nodup) {i j : Nat} {x : α} (a : l[i]? = some x) (b : l[j]? = some x) : i = j := by
  obtain ⟨h1, e1⟩ := List.getElem?_eq_some_iff.mp a
  obtain ⟨h2, e2⟩ := List.getElem?_eq_some_iff.mp b
  exact (List.getElem_inj h).mp (e1.trans e2.symm)
theorem BS.setC {K : PySem.W.Frag} {ca : Nat → Addr} {σ : L2.St} {H F : Hp} {θ : List Addr} {s : S} (b : BS K ca σ H F θ s) {k : Nat} {a : Addr} {c : Cell} (hk : θ[k]? = some a) (hc : s.o[k]? = some c) (hF : F a = none) {ds : List D} {xs : List V} (hr : Reps K ca θ F ds xs) :
    Stp H F θ (upd H a (.lst xs)) F θ ∧ BS K ca σ (upd H a (.lst xs)) F θ ⟨s.r, s.o.set k (.lst ds)⟩ := by
  have hm : a ∈ θ := List.mem_of_getElem? hk
  refine ⟨⟨Same.refl _, ⟨[], by simp, by simp⟩, fun e o he hb => ?_, fun e o he => ?_, fun e o he => .inl he⟩, ⟨⟨fun e o he => ?_, b.now.nd, by simpa using b.now.ln, fun j a' c' e1 e2 => ?_⟩, b.len, b.sl⟩⟩
  · have ne : e ≠ a := fun z => hb (by rw [z]; exact hm)
    rw [upd_ne ne]; exact he
  · by_cases z : e = a
    · subst z; exact ⟨_, upd_same⟩
    · exact ⟨o, by rw [upd_ne z]; exact he⟩
  · have ne : e ≠ a := fun z => by rw [z, hF] at he; cases he
    rw [upd_ne ne]
    exact b.now.fh _ _ he
  · by_cases hj : k = j
    · subst hj
      rw [hk] at e1; cases e1
      have : k < s.o.length := (List.getElem?_eq_some_iff.mp hc).1
      rw [List.getElem?_set_self this] at e2
      cases e2
      exact ⟨hF, xs, upd_same, hr⟩
    · rw [List.getElem?_set_ne hj] at e2
      have q := b.now.ce j a' c' e1 e2
      have ne : a' ≠ a := fun z => by
        subst z
        exact hj (nodup_at b.now.nd hk e1)
      cases c' with
      | dead => obtain ⟨o, ho⟩ := q; exact ⟨o, by rw [upd_ne ne]; exact ho⟩
      | lst ds => obtain ⟨q1, ys, q2, q3⟩ := q; exact ⟨q1, ys, by rw [upd_ne ne]; exact q2, q3⟩
      | ins c ns ds => obtain ⟨q1, dx, ys, q2, q3⟩ := q; exact ⟨q1, dx, ys, by rw [upd_ne ne]; exact q2, q3⟩
theorem ptr_rep {σ : L2.St} {H F : Hp} {θ : List Addr} {s : S} {k : Nat} {ds : List D} {v : V} (b : BS C.K C.ca σ H F θ s) (r : Rep C.K C.ca θ F (.ptr k) v) (e : s.o[k]? = some (.lst ds)) :
    ∃ a xs, v = .ref a ∧ θ[k]? = some a ∧ F a = none ∧ H a = some (.lst xs) ∧ Reps C.K C.ca θ F ds xs := by
  unfold Rep at r
  obtain ⟨a, rfl, hk⟩ := r
  obtain ⟨h0, xs, h1, h2⟩ : CellOk C.K C.ca H F θ a (.lst ds) := b.now.ce k a _ hk e
  exact ⟨a, xs, rfl, hk, h0, h1, h2⟩
def celD (O : Store) : D → Option (Nat × List D)
  | .ptr k => match O[k]? with
    | some (.lst ds) => some (k, ds)
    | _ => none
  | _ => none
theorem cel_eq {O : Store} {d : D} {k : Nat} {ds : List D} (h : celD O d = some (k, ds)) : d = .ptr k ∧ O[k]? = some (.lst ds) := by
  cases d <;> first | (simp [celD] at h; done) | skip
  rename_i j
  unfold celD at h
  dsimp only at h
  split at h
  · rename_i es e
    cases h
    exact ⟨rfl, e⟩
  · cases h
def appM (mo me : EM) : EM := fun s => (mo s).bind fun x => match celD x.2.o x.1 with
  | some _ => (me x.2).bind fun y => match celD y.2.o x.1 with
    | some (k, ds) => if ds.length < 16777216 then .ok (.non, ⟨y.2.r, y.2.o.set k (.lst (ds ++ [y.1]))⟩) else .bad
    | none => .bad
  | none => .bad
theorem rd_app {to te : TE} {mo me : EM} (ho : RdE C to mo) (he : RdE C te me) : RdE C (tBM C.K "list" rAppend to (tCons te tNil)) (appM mo me) := by
  intro σ H F θ s Q b p
  refine ho σ H F θ s _ b (PoR.bind p ?_)
  rintro ⟨x, s1⟩ H1 F1 θ1 _ st1 p1 b1 v r1
  dsimp only at p1 b1 r1
  split at p1
  · rename_i kd e
    obtain ⟨rfl, e'⟩ := cel_eq (k := kd.1) (ds := kd.2) e
    obtain ⟨a, xs, rfl, hk, _, h1, _⟩ := ptr_rep b1 r1 e'
    refine ⟨.inl ⟨rfl, xs, SqL.of h1⟩, he σ H1 F1 θ1 s1 _ b1 (PoR.bind p1 ?_)⟩
    rintro ⟨y, s2⟩ H2 F2 θ2 _ st2 p2 b2 w r2
    dsimp only at p2 b2 r2
    split at p2
    · rename_i k ds e2
      obtain ⟨ek, e2⟩ := cel_eq e2
      cases ek
      obtain ⟨a', ys, ea, hk2, hF, h2, hr⟩ := ptr_rep b2 (r1.mono st2.ff st2.pre) e2
      cases ea
      split at p2
      · rename_i hl
        obtain ⟨st3, b3⟩ := b2.setC hk2 e2 hF (hr.append (Reps.one r2))
        exact ⟨a, ys, w, rfl, rfl, h2, by rw [hr.length]; exact hl, p2 _ _ _ st3 b3 _ (rep_non.mpr rfl)⟩
      · exact False.elim p2
    · exact False.elim p2
  · exact False.elim p1
theorem BS.frz {K : PySem.W.Frag} {ca : Nat → Addr} {σ : L2.St} {H F : Hp} {θ : List Addr} {s : S} (b : BS K ca σ H F θ s) {k : Nat} {a : Addr} {ds : List D} {xs : List V} (hk : θ[k]? = some a) (hc : s.o[k]? = some (.lst ds)) (hF : F a = none) (hH : H a = some (.lst xs)) (hr : Reps K ca θ F ds xs) :
    Stp H F θ H (upd F a (.lst xs)) θ ∧ BS K ca σ H (upd F a (.lst xs)) θ ⟨s.r, s.o.set k .dead⟩ ∧ Rep K ca θ (upd F a (.lst xs)) (.lst ds) (.ref a) := by
  have hm : a ∈ θ := List.mem_of_getElem? hk
  have sF : Same F (upd F a (.lst xs)) := fun e o he => by
    rw [upd_ne (fun z => by rw [z, hF] at he; cases he)]; exact he
  refine ⟨⟨sF, ⟨[], by simp, by simp⟩, fun e o he _ => he, fun e o he => ⟨o, he⟩, fun e o he => ?_⟩, ⟨⟨fun e o he => ?_, b.now.nd, by simpa using b.now.ln, fun j a' c' e1 e2 => ?_⟩, b.len, fun i d e => ?_⟩, ?_⟩
  · by_cases z : e = a
    · exact .inr (.inr (by rw [z]; exact hm))
    · rw [upd_ne z] at he; exact .inl he
  · by_cases z : e = a
    · subst z; rw [upd_same] at he; rw [hH]; exact he
    · rw [upd_ne z] at he; exact b.now.fh _ _ he
  · by_cases hj : k = j
    · subst hj
      rw [hk] at e1; cases e1
      have : k < s.o.length := (List.getElem?_eq_some_iff.mp hc).1
      rw [List.getElem?_set_self this] at e2
      cases e2
      exact ⟨_, hH⟩
    · rw [List.getElem?_set_ne hj] at e2
      have q := b.now.ce j a' c' e1 e2
      have ne : a' ≠ a := fun z => by
        subst z
        exact hj (nodup_at b.now.nd hk e1)
      cases c' with
      | dead => exact q
      | lst ds => obtain ⟨q1, ys, q2, q3⟩ := q; exact ⟨by rw [upd_ne ne]; exact q1, ys, q2, q3.mono sF ⟨[], by simp⟩⟩
      | ins c ns ds => obtain ⟨q1, dx, ys, q2, q3, q4⟩ := q; exact ⟨by rw [upd_ne ne]; exact q1, dx, ys, q2, q3, q4.mono sF ⟨[], by simp⟩⟩
  · obtain ⟨v, h1, h2⟩ := b.sl i d e
    exact ⟨v, h1, h2.mono sF ⟨[], by simp⟩⟩
  · unfold Rep
    exact ⟨a, xs, rfl, SqL.of upd_same, hr.mono sF ⟨[], by simp⟩⟩
def frzM (m : EM) : EM := fun s => (m s).bind fun x => match celD x.2.o x.1 with
  | some (k, ds) => .ok (.lst ds, ⟨x.2.r, x.2.o.set k .dead⟩)
  | none => .bad
theorem rd_frz {t : TE} {m : EM} (h : RdE C t m) : RdE C t (frzM m) := by
  intro σ H F θ s Q b p
  refine h σ H F θ s _ b (PoR.bind p ?_)
  rintro ⟨x, s1⟩ H1 F1 θ1 _ st1 p1 b1 v r1
  dsimp only at p1 b1 r1
  split at p1
  · rename_i k ds e
    obtain ⟨rfl, e'⟩ := cel_eq e
    obtain ⟨a, xs, rfl, hk, hF, h1, h2⟩ := ptr_rep b1 r1 e'
    obtain ⟨st2, b2, r2⟩ := b1.frz hk e' hF h1 h2
    exact p1 _ _ _ st2 b2 _ r2
  · exact False.elim p1
def capM (m : Nat) (caps : List Nat) (r : List (Option D)) : List (Option D) := List.replicate m none ++ caps.map fun i => (r[i]?).getD none
theorem bs_cap {K : PySem.W.Frag} {ca : Nat → Addr} {σ : L2.St} {H F : Hp} {θ : List Addr} {s : S} (b : BS K ca σ H F θ s) (m : Nat) (caps : List Nat) : BS K ca (capSt m caps σ) H F θ ⟨capM m caps s.r, s.o⟩ := by
  refine ⟨b.now, by unfold capSt capM; simp, fun i d e => ?_⟩
  unfold capM at e
  dsimp only at e
  by_cases hi : i < m
  · rw [List.getElem?_append_left (by simpa using hi), List.getElem?_replicate] at e
    split at e <;> cases e
  · rw [List.getElem?_append_right (by simpa using hi)] at e
    simp only [List.length_replicate, List.getElem?_map] at e
    cases q : caps[i - m]? with
    | none => rw [q] at e; cases e
    | some j =>
      rw [q] at e
      simp only [Option.map_some, Option.some.injEq] at e
      have e' : s.r[j]? = some (some d) := by
        cases z : s.r[j]? with
        | none => rw [z] at e; simp at e
        | some od => rw [z] at e; simp at e; rw [e]
      obtain ⟨v, h1, h2⟩ := b.sl j d e'
      refine ⟨v, ?_, h2⟩
      unfold capSt
      rw [List.getElem?_append_right (by simpa using hi)]
      simp only [List.length_replicate, List.getElem?_map, q, Option.map_some, h1, Option.getD_some]
def trueT : TM := fun s => .ok (true, s)
open Classical in
noncomputable def compGo (ok : Store → Prop) (g : GM) (c : TM) (e : EM) : List D → List D → S → Res (List D × S)
  | [], acc, s => if ok s.o then .ok (acc, s) else .bad
  | d :: ds, acc, s => if ok s.o ∧ acc.length < 16777216 then (g d s).bind fun s1 => (c s1).bind fun x => if x.1 then (e x.2).bind fun y => compGo ok g c e ds (acc ++ [y.1]) y.2 else compGo ok g c e ds acc x.2 else .bad
noncomputable def compM (m : Nat) (caps : List Nat) (im : IM) (g : GM) (c : TM) (e : EM) : S → Res (List D × S) := fun s => (im s).bind fun y =>
  (compGo (okC y.1.1 y.1.2) g c e y.1.1 [] ⟨capM m caps y.2.r, y.2.o⟩).bind fun z => .ok (z.1, ⟨y.2.r, z.2.o⟩)
theorem rd_comp0 {m : Nat} {caps : List Nat} {wi : TI} {g : TG} {tc : TT} {te : TE} {im : IM} {gm : GM} {c : TM} {e : EM} (hi : RdI C wi im) (hg : RdG C g gm) (hc : RdT C tc c) (he : RdE C te e)
    {σ : L2.St} {H F : Hp} {θ : List Addr} {s : S} {Q : VK} (b : BS C.K C.ca σ H F θ s)
    (p : PoR C H F θ (compM m caps im gm c e s) fun y H1 F1 θ1 => BS C.K C.ca σ H1 F1 θ1 y.2 → ∀ q xs, H q = none → H1 q = some (.lst xs) → F1 q = none → q ∉ θ1 → Reps C.K C.ca θ1 F1 y.1 xs → Q (.ref q) H1) : tComp m caps wi g tc te σ H Q := by
  refine hi σ H F θ s _ b (PoR.bind p ?_)
  rintro ⟨⟨ds, k⟩, s1⟩ H1 F1 θ1 _ st1 p1 b1 J it q hq
  dsimp only at p1 b1 it
  have st2 : Stp H1 F1 θ1 (upd H1 q (.lst [])) F1 θ1 := by
    have nm : ∀ a u, H1 a = some u → a ≠ q := fun a u e z => by rw [z, hq] at e; cases e
    exact ⟨Same.refl _, ⟨[], by simp, by simp⟩, fun a u h _ => by rw [upd_ne (nm a u h)]; exact h, fun a u h => ⟨u, by rw [upd_ne (nm a u h)]; exact h⟩, fun a u h => .inl h⟩
  have qθ : q ∉ θ1 := fun h => by obtain ⟨u, hu⟩ := b1.now.there h; rw [hq] at hu; cases hu
  have qF : F1 q = none := by
    cases e : F1 q with
    | none => rfl
    | some u => rw [b1.now.fh q u e] at hq; cases hq
  have hqH : H q = none := by
    cases e : H q with
    | none => rfl
    | some u => obtain ⟨u', e'⟩ := st1.al q u e; rw [hq] at e'; cases e'
  have keep : ∀ {H2 F2 H3 F3 : Hp} {θ2 θ3 : List Addr} {o : HO}, Stp H2 F2 θ2 H3 F3 θ3 → H2 q = some o → F2 q = none → q ∉ θ2 → H3 q = some o ∧ F3 q = none ∧ q ∉ θ3 := fun {H2 F2 H3 F3 θ2 θ3 o} st h1 h2 h3 => by
    refine ⟨st.kp q o h1 h3, ?_, ?_⟩
    · cases e : F3 q with
      | none => rfl
      | some u =>
        rcases st.nf q u e with z | z | z
        · rw [h2] at z; cases z
        · rw [h1] at z; cases z
        · exact absurd z h3
    · obtain ⟨r, rfl, hr⟩ := st.th
      intro hm
      rcases List.mem_append.mp hm with z | z
      · exact h3 z
      · rw [hr q z] at h1; cases h1
  have bs2 : ∀ {σ' : L2.St} {H2 F2 : Hp} {θ2 : List Addr} {s2 : S} (o : HO), BS C.K C.ca σ' H2 F2 θ2 s2 → F2 q = none → q ∉ θ2 → BS C.K C.ca σ' (upd H2 q o) F2 θ2 s2 := fun {σ' H2 F2 θ2 s2} o b h1 h2 => by
    have ne : ∀ a, a ∈ θ2 → a ≠ q := fun a h z => h2 (z ▸ h)
    refine ⟨⟨fun a u h => ?_, b.now.nd, b.now.ln, fun j a c e1 e2 => ?_⟩, b.len, b.sl⟩
    · have : a ≠ q := fun z => by rw [z, h1] at h; cases h
      rw [upd_ne this]; exact b.now.fh a u h
    · have hm := ne a (List.mem_of_getElem? e1)
      have w := b.now.ce j a c e1 e2
      cases c with
      | dead => obtain ⟨u, hu⟩ := w; exact ⟨u, by rw [upd_ne hm]; exact hu⟩
      | lst ds => obtain ⟨q1, ys, q2, q3⟩ := w; exact ⟨q1, ys, by rw [upd_ne hm]; exact q2, q3⟩
      | ins c ns ds => obtain ⟨q1, dx, ys, q2, q3, q4⟩ := w; exact ⟨q1, dx, ys, by rw [upd_ne hm]; exact q2, q3, q4⟩
  have stq : ∀ {H2 F2 : Hp} {θ2 : List Addr} (o : HO), Stp H1 F1 θ1 H2 F2 θ2 → Stp H1 F1 θ1 (upd H2 q o) F2 θ2 := fun {H2 F2 θ2} o st => by
    have nm : ∀ a u, H1 a = some u → a ≠ q := fun a u e z => by rw [z, hq] at e; cases e
    exact ⟨st.ff, st.th, fun a u h1 h2 => by rw [upd_ne (nm a u h1)]; exact st.kp a u h1 h2, fun a u h1 => by rw [upd_ne (nm a u h1)]; exact st.al a u h1, st.nf⟩
  refine ⟨fun i n acc σ' H' => n = ds.length - i ∧ i ≤ ds.length ∧ ∃ F' θ' s' as, Stp H1 F1 θ1 H' F' θ' ∧ H' q = some (.lst acc) ∧ F' q = none ∧ q ∉ θ' ∧ BS C.K C.ca σ' H' F' θ' s' ∧ Reps C.K C.ca θ' F' as acc ∧
      PoR C H1 F1 θ1 ((compGo (okC ds k) gm c e (ds.drop i) as s').bind fun z => .ok (z.1, (⟨s1.r, z.2.o⟩ : S))) (fun y H1 F1 θ1 => BS C.K C.ca σ H1 F1 θ1 y.2 → ∀ q xs, H q = none → H1 q = some (.lst xs) → F1 q = none → q ∉ θ1 → Reps C.K C.ca θ1 F1 y.1 xs → Q (.ref q) H1),
    ⟨ds.length, by simp, Nat.zero_le _, F1, θ1, ⟨capM m caps s1.r, s1.o⟩, [], st2, upd_same, qF, qθ, bs2 _ (bs_cap b1 m caps) qF qθ, Reps.nil, by simpa using p1⟩, ?_⟩
  rintro i n acc σ' H' ⟨rfl, hil, F', θ', s', as, st, hq', qF', qθ', bs, hacc, po⟩
  by_cases lt : i < ds.length
  · right
    rw [List.drop_eq_getElem_cons lt, compGo] at po
    split at po
    · rename_i hok
      refine ⟨it.go i H' F' θ' s'.o lt st bs.now hok.1, ?_⟩
      intro x H3 hy
      obtain ⟨F3, st3, b3, rp⟩ := it.yl i ds[i] σ' H' F' θ' s' x H3 (List.getElem?_eq_getElem lt) st bs hok.1 hy
      obtain ⟨k1, k2, k3⟩ := keep st3 hq' qF' qθ'
      have st13 := st.trans st3
      have po3 := PoR.after st13 po
      have w1 : PoG C H3 F3 θ' (gm ds[i] s') (fun σ4 H4 => tc σ4 H4 fun b H4 => if b = true then
          te σ4 H4 fun y H5 => H5 q = some (.lst acc) ∧ acc.length < sizeLine ∧ ∃ k', k' < ds.length - i ∧ (k' = ds.length - (i + 1) ∧ i + 1 ≤ ds.length ∧ ∃ F' θ' s' as, Stp H1 F1 θ1 (upd H5 q (.lst (acc ++ [y]))) F' θ' ∧ (upd H5 q (.lst (acc ++ [y]))) q = some (.lst (acc ++ [y])) ∧ F' q = none ∧ q ∉ θ' ∧ BS C.K C.ca σ4 (upd H5 q (.lst (acc ++ [y]))) F' θ' s' ∧ Reps C.K C.ca θ' F' as (acc ++ [y]) ∧
            PoR C H1 F1 θ1 ((compGo (okC ds k) gm c e (ds.drop (i + 1)) as s').bind fun z => .ok (z.1, (⟨s1.r, z.2.o⟩ : S))) (fun y H1 F1 θ1 => BS C.K C.ca σ H1 F1 θ1 y.2 → ∀ q xs, H q = none → H1 q = some (.lst xs) → F1 q = none → q ∉ θ1 → Reps C.K C.ca θ1 F1 y.1 xs → Q (.ref q) H1))
          else ∃ k', k' < ds.length - i ∧ (k' = ds.length - (i + 1) ∧ i + 1 ≤ ds.length ∧ ∃ F' θ' s' as, Stp H1 F1 θ1 H4 F' θ' ∧ H4 q = some (.lst acc) ∧ F' q = none ∧ q ∉ θ' ∧ BS C.K C.ca σ4 H4 F' θ' s' ∧ Reps C.K C.ca θ' F' as acc ∧
            PoR C H1 F1 θ1 ((compGo (okC ds k) gm c e (ds.drop (i + 1)) as s').bind fun z => .ok (z.1, (⟨s1.r, z.2.o⟩ : S))) (fun y H1 F1 θ1 => BS C.K C.ca σ H1 F1 θ1 y.2 → ∀ q xs, H q = none → H1 q = some (.lst xs) → F1 q = none → q ∉ θ1 → Reps C.K C.ca θ1 F1 y.1 xs → Q (.ref q) H1))) := by
        cases e1 : gm ds[i] s' with
        | bad => rw [e1] at po3; exact po3
        | exc a1 a2 a3 => rw [e1] at po3; exact po3
        | ok s4 =>
          rw [e1] at po
          intro H4 F4 θ4 st4 σ4 b4
          obtain ⟨l1, l2, l3⟩ := keep st4 k1 k2 k3
          refine hc σ4 H4 F4 θ4 s4 _ b4 ?_
          cases e2 : c s4 with
          | bad => rw [bind_ok, e2] at po; exact po
          | exc a1 a2 a3 => rw [bind_ok, e2] at po; exact PoR.after (st13.trans st4) po
          | ok x5 =>
            obtain ⟨kk, s5⟩ := x5
            rw [bind_ok, e2, bind_ok] at po
            intro H5 F5 θ5 st5 b5
            obtain ⟨m1, m2, m3⟩ := keep st5 l1 l2 l3
            have hacc5 := ((hacc.mono st3.ff st3.pre).mono st4.ff st4.pre).mono st5.ff st5.pre
            cases kk with
            | false =>
              exact iteF ⟨ds.length - (i + 1), by omega, rfl, by omega, F5, θ5, s5, as, st13.trans (st4.trans st5), m1, m2, m3, b5, hacc5, by simpa using po⟩
            | true =>
              refine iteT (he σ4 H5 F5 θ5 s5 _ b5 ?_)
              dsimp only [if_true] at po
              cases e3 : e s5 with
              | bad => rw [e3] at po; exact po
              | exc a1 a2 a3 => rw [e3] at po; exact PoR.after (st13.trans (st4.trans st5)) po
              | ok x6 =>
                obtain ⟨y, s6⟩ := x6
                rw [e3, bind_ok] at po
                intro H6 F6 θ6 st6 b6 w r6
                obtain ⟨n1, n2, n3⟩ := keep st6 m1 m2 m3
                exact ⟨n1, by rw [hacc.length]; exact hok.2, ds.length - (i + 1), by omega, rfl, by omega, F6, θ6, s6, as ++ [y], stq _ (st13.trans (st4.trans (st5.trans st6))), upd_same, n2, n3, bs2 _ b6 n2 n3, (hacc5.mono st6.ff st6.pre).append (Reps.one r6), po⟩
      exact hg σ' H3 F3 θ' s' ds[i] x _ b3 rp w1
    · exact False.elim po
  · left
    rw [List.drop_eq_nil_of_le (by omega), compGo] at po
    split at po
    · rename_i hok
      refine ⟨it.st i H' F' θ' s'.o (by omega) st bs.now hok, hq', ?_⟩
      refine po H' F' θ' st ⟨bs.now, b1.len, fun j d e => ?_⟩ q acc hqH hq' qF' qθ' hacc
      obtain ⟨v, h1, h2⟩ := b1.sl j d e
      exact ⟨v, h1, h2.mono st.ff st.pre⟩
    · exact False.elim po
noncomputable def compF (m : Nat) (caps : List Nat) (im : IM) (g : GM) (c : TM) (e : EM) : EM := fun s => (compM m caps im g c e s).bind fun y => .ok (.lst y.1, y.2)
theorem rd_comp {m : Nat} {caps : List Nat} {wi : TI} {g : TG} {tc : TT} {te : TE} {im : IM} {gm : GM} {c : TM} {e : EM} (hi : RdI C wi im) (hg : RdG C g gm) (hc : RdT C tc c) (he : RdE C te e) : RdE C (tComp m caps wi g tc te) (compF m caps im gm c e) := by
  intro σ H F θ s Q b p
  refine rd_comp0 hi hg hc he b ?_
  unfold compF at p
  cases e1 : compM m caps im gm c e s with
  | bad => rw [e1] at p; exact p
  | exc a1 a2 a3 => rw [e1] at p; exact p
  | ok y =>
    rw [e1, bind_ok] at p
    intro H1 F1 θ1 st1 b1 q xs h0 h1 h2 h3 hr
    have sF : Same F1 (upd F1 q (.lst xs)) := fun a u h => by
      rw [upd_ne (fun z => by rw [z, h2] at h; cases h)]; exact h
    refine p H1 (upd F1 q (.lst xs)) θ1 ⟨st1.ff.trans sF, st1.th, st1.kp, st1.al, fun a u h => ?_⟩ ⟨⟨fun a u h => ?_, b1.now.nd, b1.now.ln, fun j a c e2 e3 => ?_⟩, b1.len, fun i d e2 => ?_⟩ (.ref q) ?_
    · by_cases z : a = q
      · subst z; exact .inr (.inl h0)
      · rw [upd_ne z] at h; exact st1.nf a u h
    · by_cases z : a = q
      · subst z; rw [upd_same] at h; rw [h1]; exact h
      · rw [upd_ne z] at h; exact b1.now.fh a u h
    · have ne : a ≠ q := fun z => h3 (z ▸ List.mem_of_getElem? e2)
      have w := b1.now.ce j a c e2 e3
      cases c with
      | dead => exact w
      | lst ds => obtain ⟨q1, ys, q2, q3⟩ := w; exact ⟨by rw [upd_ne ne]; exact q1, ys, q2, q3.mono sF ⟨[], by simp⟩⟩
      | ins c ns ds => obtain ⟨q1, dx, ys, q2, q3, q4⟩ := w; exact ⟨by rw [upd_ne ne]; exact q1, dx, ys, q2, q3, q4.mono sF ⟨[], by simp⟩⟩
    · obtain ⟨v, w1, w2⟩ := b1.sl i d e2
      exact ⟨v, w1, w2.mono sF ⟨[], by simp⟩⟩
    · unfold Rep
      exact ⟨q, xs, rfl, SqL.of upd_same, hr.mono sF ⟨[], by simp⟩⟩
end
end M
set_option maxRecDepth 100000
set_option maxHeartbeats 4000000
namespace M
open PySem PySem.Spec PyProof.Rows L2
section
variable {C : Ct}
def seqOf (O : Store) : D → Option (List D)
  | .tup ds => some ds
  | x => lsD O x
def listC (m : EM) : EM := fun s => (m s).bind fun x => match seqOf x.2.o x.1 with
  | some ds => .ok (.ptr x.2.o.length, ⟨x.2.r, x.2.o ++ [.lst ds]⟩)
  | none => .bad
mutual
def shD (n : Nat) : D → D
  | .lst ds => .lst (shDs n ds)
  | .tup ds => .tup (shDs n ds)
  | .ptr k => .ptr (n + k)
  | .obj c ns ds => .obj c ns (shDs n ds)
  | .exn c => .exn c
  | .non => .non
  | .bl b => .bl b
  | .int i => .int i
  | .str x => .str x
def shDs (n : Nat) : List D → List D
  | [] => []
  | d :: ds => shD n d :: shDs n ds
end
def shC (n : Nat) : Cell → Cell
  | .dead => .dead
  | .lst ds => .lst (shDs n ds)
  | .ins c ns ds => .ins c ns (shDs n ds)
section
variable {K : PySem.W.Frag} {ca : Nat → Addr} {F : Hp} {θ θ1 : List Addr}
end
def callO (n : Nat) (f : FM) (ma : AM) : EM := fun s => (ma s).bind fun x => if pureDs x.1 = true ∧ x.1.length = n then (match f x.1 [] with
  | .ok (d, O1) => .ok (shD x.2.o.length d, ⟨x.2.r, x.2.o ++ O1.map (shC x.2.o.length)⟩)
  | _ => .bad) else .bad
def callV (n : Nat) (f : FM) (ma : AM) : EM := fun s => (ma s).bind fun x => if pureDs (ress x.2.o (ress x.2.o x.1)) = true ∧ x.1.length = n then (match f (ress x.2.o (ress x.2.o x.1)) [] with
  | .ok (d, _) => if scalD d = true then .ok (d, x.2) else .bad
  | _ => .bad) else .bad
end
end M
set_option maxRecDepth 100000
set_option maxHeartbeats 4000000
namespace M
open PySem PySem.Spec PyProof.Rows L2
def DefAt (P : Program) (w : World) (K : PySem.W.Frag) (mg : Str → Option Value) (base : Heap) (ca : Nat → Addr) (lv : Nat) (x : Str) (ps : List Str) (f : FM) (a : Addr) (fd : FuncData) : Prop :=
  FnOk P w K mg base (CXE P w) lv a fd ps (spM K ca ps.length f) ∧ mg x = some (.ref a) ∧ PySem.W.keepIn K (.ref a) = true ∧ Binds K fd ps []
def DefIn (P : Program) (w : World) (K : PySem.W.Frag) (mg : Str → Option Value) (base : Heap) (ca : Nat → Addr) (lv : Nat) (x : Str) (ps : List Str) (f : FM) : Prop := ∃ a fd, DefAt P w K mg base ca lv x ps f a fd
theorem DefAt.in {P : Program} {w : World} {K : PySem.W.Frag} {mg : Str → Option Value} {base : Heap} {ca : Nat → Addr} {lv : Nat} {x : Str} {ps : List Str} {f : FM} {a : Addr} {fd : FuncData} (h : DefAt P w K mg base ca lv x ps f a fd) : DefIn P w K mg base ca lv x ps f := ⟨a, fd, h⟩
theorem reps_ints {K : PySem.W.Frag} {ca : Nat → Addr} {θ : List Addr} {F : Hp} : ∀ ns : List Int, Reps K ca θ F (ns.map D.int) (ns.map V.int)
  | [] => Reps.nil
  | _ :: ns => Reps.cons (rep_int.mpr rfl) (reps_ints ns)
theorem law_sp {K : PySem.W.Frag} {ca : Nat → Addr} {H : Hp} {a : Addr} {ns : List Int} {f : FM} {E : XK} (hS : SqL K H a (ns.map V.int)) (h : ∃ O, f [.lst (ns.map D.int)] [] = .ok (.bl true, O)) : spM K ca 1 f [.ref a] H (fun v _ => v = .bl true) E := by
  obtain ⟨O, h⟩ := h
  refine ⟨H, [], [.lst (ns.map D.int)], [], Now.nil (Same.refl _), Reps.one ?_, rfl, ?_⟩
  · unfold Rep
    exact ⟨a, ns.map V.int, rfl, hS, reps_ints ns⟩
  · rw [h]
    intro v H1 F1 θ1 _ _ r
    exact rep_bl.mp r
theorem dp_of {k : Nat} {A : Around} (hr : Room k A) (hk : 32 ≤ k) : A.depth + 100 < recursionLimit := by
  have := hr.dp
  omega
def gcdFuel (i : Nat) (s : S) : Nat := match s.r[i]? with
  | some (some (.int j)) => j.natAbs + 1
  | _ => 0
end M
set_option maxRecDepth 100000
set_option maxHeartbeats 4000000
namespace M
open PySem PySem.Spec PyProof.Rows L2
section
variable {C : Ct}
def zipD (as bs : List D) : List D := List.zipWith (fun a b => .tup [a, b]) as bs
def zipI (m : AM) : IM := fun s => (m s).bind fun x => match x.1 with
  | [.lst as, .lst bs] => .ok ((zipD as bs, none), x.2)
  | _ => .bad
theorem zipD_get {as bs : List D} {i : Nat} {d : D} (h : (zipD as bs)[i]? = some d) : ∃ x y, as[i]? = some x ∧ bs[i]? = some y ∧ d = .tup [x, y] := by
  unfold zipD at h
  rw [List.getElem?_zipWith] at h
  cases h1 : as[i]? with
  | none => rw [h1] at h; cases h
  | some x =>
    cases h2 : bs[i]? with
    | none => rw [h1, h2] at h; cases h
    | some y =>
      rw [h1, h2] at h
      cases h
      exact ⟨x, y, rfl, rfl, rfl⟩
theorem it_zip {a b : Addr} {xs ys : List V} {as bs : List D} {H F : Hp} {θ : List Addr} (h1 : SqL C.K F a xs) (h2 : SqL C.K F b ys) (r1 : Reps C.K C.ca θ F as xs) (r2 : Reps C.K C.ca θ F bs ys) :
    ItIs C (Itz C.K a b) (zipD as bs) (okC (zipD as bs) none) H F θ where
  go := fun i H2 F2 θ2 O2 hi st n _ => by
    obtain ⟨x, y, e1, e2, _⟩ := zipD_get (List.getElem?_eq_getElem hi)
    obtain ⟨v, q1, _⟩ := r1.get e1
    obtain ⟨w, q2, _⟩ := r2.get e2
    exact ⟨xs, ys, v, w, n.fh.seq (st.ff.seq h1), n.fh.seq (st.ff.seq h2), q1, q2⟩
  yl := fun i d σ H2 F2 θ2 s2 x H3 hd st b _ hy => by
    obtain ⟨T, v, w, hT, rfl, rfl, hv, hw⟩ := hy
    obtain ⟨x, y, e1, e2, rfl⟩ := zipD_get hd
    obtain ⟨v', q1, k1⟩ := r1.get e1
    obtain ⟨w', q2, k2⟩ := r2.get e2
    have := hv xs (b.now.fh.seq (st.ff.seq h1))
    rw [q1] at this
    cases this
    have := hw ys (b.now.fh.seq (st.ff.seq h2))
    rw [q2] at this
    cases this
    obtain ⟨st3, b3, sF, e3⟩ := b.newF hT (.tup [v, w])
    refine ⟨_, st3, b3, ?_⟩
    unfold Rep
    exact ⟨T, [v, w], rfl, SqT.of e3, Reps.cons ((k1.mono st.ff st.pre).mono st3.ff st3.pre) (Reps.one ((k2.mono st.ff st.pre).mono st3.ff st3.pre))⟩
  st := fun i H2 F2 θ2 O2 hi st n _ => by
    refine ⟨xs, ys, n.fh.seq (st.ff.seq h1), n.fh.seq (st.ff.seq h2), ?_⟩
    unfold zipD at hi
    rw [List.length_zipWith] at hi
    rw [r1.length, r2.length]
    omega
theorem rd_zip {ta : TA} {m : AM} (h : RdA C ta m) : RdI C (iZip C.K ta) (zipI m) := by
  intro σ H F θ s R b p
  refine h σ H F θ s _ b (PoR.bind p ?_)
  rintro ⟨x, s1⟩ H1 F1 θ1 _ st1 p1 b1 v r1
  dsimp only at p1 b1 r1
  split at p1
  · rename_i as bs
    obtain ⟨v1, v2, rfl, k1, k2⟩ := reps2 r1
    unfold Rep at k1 k2
    obtain ⟨a, xs, rfl, hs, hr⟩ := k1
    obtain ⟨b', ys, rfl, hs', hr'⟩ := k2
    exact ⟨a, b', rfl, ⟨xs, b1.now.fh.seq hs⟩, ⟨ys, b1.now.fh.seq hs'⟩, p1 _ _ _ .refl b1 _ (it_zip hs hs' hr hr')⟩
  · exact False.elim p1
def enumD (ds : List D) : List D := ds.mapIdx fun i d => .tup [.int (i : Nat), d]
def enumerateI (m : AM) : IM := fun s => (m s).bind fun x => match x.1 with
  | [.lst as] => .ok ((enumD as, none), x.2)
  | _ => .bad
def signsD (x : Str) : List D := x.cps.toList.map fun c => .str ⟨#[c]⟩
def strI (m : EM) : IM := fun s => (m s).bind fun x => match x.1 with
  | .str z => .ok ((signsD z, none), x.2)
  | _ => .bad
def asInts : List D → Option (List Int)
  | [] => some []
  | .int i :: r => (asInts r).map (i :: ·)
  | _ => none
def asBools : List D → Option (List Bool)
  | [] => some []
  | .bl i :: r => (asBools r).map (i :: ·)
  | _ => none
def ofInts (f : List Int → D) : OpN := fun O xs => match xs with
  | [x] => match lsD O x with
    | some ds => match asInts ds with
      | some ns => .ok (f ns)
      | none => .bad
    | none => .bad
  | _ => .bad
def ofBools (f : List Bool → D) : OpN := fun O xs => match xs with
  | [x] => match lsD O x with
    | some ds => match asBools ds with
      | some ns => .ok (f ns)
      | none => .bad
    | none => .bad
  | _ => .bad
def sumD : OpN := ofInts fun ns => .int ns.sum
def allD : OpN := ofBools fun bs => .bl (bs.all id)
def anyD : OpN := ofBools fun bs => .bl (bs.any id)
def nonB : D → Bool
  | .non => true
  | _ => false
def isD : Op2 := fun _ x y => match x, y with
  | .bl a, .bl b => .ok (.bl (a == b))
  | x, .non => .ok (.bl (nonB x))
  | _, _ => .bad
def isnotD : Op2 := fun _ x y => match y with
  | .non => .ok (.bl (!nonB x))
  | _ => .bad
def chainM (f g : Op2) (a b c : EM) : EM := fun s => (a s).bind fun x => (b x.2).bind fun y => (f y.2.o x.1 y.1).bind fun z => match z with
  | .bl true => (c y.2).bind fun w => (g w.2.o y.1 w.1).bind fun d => .ok (d, w.2)
  | .bl false => .ok (.bl false, y.2)
  | _ => .bad
def callS (n : Nat) (f : FM) (ma : AM) : EM := fun s => (ma s).bind fun x => if x.1.length = n then (match f x.1 x.2.o with
  | .ok (d, O1) => .ok (d, ⟨x.2.r, O1⟩)
  | _ => .bad) else .bad
def repL (k : Int) (ds : List D) : List D := (List.replicate k.toNat ds).flatten
def repM (fin : S → List D → Res (D × S)) (ma : AM) (mk : EM) : EM := fun s => (ma s).bind fun x => if x.1.length ≤ 16777216 then (mk x.2).bind fun y => match y.1 with
    | .int k => if (-(2 ^ 63) ≤ k ∧ k < 2 ^ 63) ∧ x.1.length * k.toNat ≤ 16777216 then fin y.2 (repL k x.1) else .bad
    | _ => .bad
  else .bad
def finF : S → List D → Res (D × S) := fun s ds => .ok (.lst ds, s)
def finC : S → List D → Res (D × S) := fun s ds => .ok (.ptr s.o.length, ⟨s.r, s.o ++ [.lst ds]⟩)
def truM (m : EM) : TM := fun s => (m s).bind fun x => match lsD x.2.o x.1 with
  | some ds => .ok (!ds.isEmpty, x.2)
  | none => .bad
theorem rd_tru {t : TE} {m : EM} (h : RdE C t m) : RdT C (fun σ H Q => t σ H fun x H' => ∃ k, TruV C.K x H' k ∧ Q k H') (truM m) := by
  intro σ H F θ s Q b p
  refine h σ H F θ s _ b (PoR.bind p ?_)
  rintro ⟨x, s1⟩ H1 F1 θ1 _ st1 p1 b1 v r1
  dsimp only at p1 b1 r1
  split at p1
  · rename_i ds e
    obtain ⟨a, xs, rfl, hs, hr⟩ := ls_rep b1 r1 e
    refine ⟨!ds.isEmpty, ?_, p1 _ _ _ .refl b1⟩
    refine Or.inl ⟨xs, hs, ?_⟩
    have := hr.length
    cases ds <;> cases xs <;> first | rfl | (simp at this)
  · exact False.elim p1
end
end M
set_option maxRecDepth 100000
set_option maxHeartbeats 4000000
namespace M
open PySem PySem.Spec PyProof.Rows L2
section
variable {C : Ct}
end
end M
set_option maxRecDepth 100000
set_option maxHeartbeats 4000000
namespace M
open PySem PySem.Spec PyProof.Rows L2
section
variable {C : Ct}
end
end M
set_option maxRecDepth 100000
set_option maxHeartbeats 4000000
namespace M
open PySem PySem.Spec PyProof.Rows L2
section
variable {C : Ct}
def slS (me : EM) (ml mh : OM) : EM := fun s => (me s).bind fun x => (ml x.2).bind fun l => (mh l.2).bind fun h => match x.1 with
  | .str z => if z.length ≤ 16777216 then .ok (.str (pickS z l.1 h.1), h.2) else .bad
  | _ => .bad
theorem rd_slS {te : TE} {tl th : TO} {me : EM} {ml mh : OM} (he : RdE C te me) (hl : RdO C tl ml) (hh : RdO C th mh) : RdE C (tSl rSlT' te tl th) (slS me ml mh) := by
  intro σ H F θ s Q b p
  refine he σ H F θ s _ b (PoR.bind p ?_)
  rintro ⟨x, s1⟩ H1 F1 θ1 _ st1 p1 b1 v r1
  refine hl σ H1 F1 θ1 s1 _ b1 (PoR.bind p1 ?_)
  rintro ⟨l, s2⟩ H2 F2 θ2 _ st2 p2 b2
  refine hh σ H2 F2 θ2 s2 _ b2 (PoR.bind p2 ?_)
  rintro ⟨h, s3⟩ H3 F3 θ3 _ st3 p3 b3
  dsimp only at p3 ⊢
  split at p3
  · rename_i z _
    split at p3
    · rename_i hz
      exact ⟨z, rep_str.mp r1, by rw [sizeLine_eq]; exact hz, p3 _ _ _ .refl b3 _ (rep_str.mpr rfl)⟩
    · exact False.elim p3
  · exact False.elim p3
theorem slS_ev (me : EM) (ml mh : OM) (s : S) : slS me ml mh s = (me s).bind fun x => (ml x.2).bind fun l => (mh l.2).bind fun h => match x.1 with
  | .str z => if z.length ≤ 16777216 then .ok (.str (pickS z l.1 h.1), h.2) else .bad
  | _ => .bad := rfl
end
end M
set_option maxRecDepth 100000
set_option maxHeartbeats 4000000
namespace M
open PySem PySem.Spec PyProof.Rows L2
section
variable {C : Ct}
def asStrs : List D → Option (List Str)
  | [] => some []
  | .str z :: r => match asStrs r with
    | some zs => some (z :: zs)
    | none => none
  | _ => none
theorem asStrs_eq : ∀ {ds : List D} {zs : List Str}, asStrs ds = some zs → ds = zs.map D.str
  | [], zs, h => by cases h; rfl
  | d :: ds, zs, h => by
    cases d <;> first | (simp [asStrs] at h; done) | skip
    rename_i z
    unfold asStrs at h
    cases e : asStrs ds with
    | none => rw [e] at h; cases h
    | some ys =>
      rw [e] at h
      cases h
      rw [asStrs_eq e]; rfl
theorem asStrs_map : ∀ zs : List Str, asStrs (zs.map D.str) = some zs
  | [] => rfl
  | z :: zs => by rw [List.map_cons]; unfold asStrs; rw [asStrs_map zs]
end
end M
set_option maxRecDepth 100000
set_option maxHeartbeats 4000000
namespace M
open PySem PySem.Spec PyProof.Rows L2
section
variable {C : Ct}
end
end M
set_option maxRecDepth 100000
set_option maxHeartbeats 4000000
namespace M
open PySem PySem.Spec PyProof.Rows L2
section
variable {K : PySem.W.Frag} {ca : Nat → Addr} {θ : List Addr} {F G : Hp}
end
section
variable {C : Ct}
end
section
variable {C : Ct}
def max2D : OpN := fun _ xs => match xs with
  | [.int i, .int j] => .ok (.int (if j > i then j else i))
  | _ => .bad
theorem rd_max2 : RdCall C (fun xs H Q => ∃ i j, xs = [.int i, .int j] ∧ Q (.int (if j > i then j else i)) H) max2D := by
  intro σ H F θ s xs vs Q b r p
  unfold max2D at p
  split at p
  · rename_i i j
    exact ⟨i, j, reps_ints2 r, po_val p b (rep_int.mpr rfl)⟩
  · exact False.elim p
def min2D : OpN := fun _ xs => match xs with
  | [.int i, .int j] => .ok (.int (if j < i then j else i))
  | _ => .bad
theorem rd_min2 : RdCall C (fun xs H Q => ∃ i j, xs = [.int i, .int j] ∧ Q (.int (if j < i then j else i)) H) min2D := by
  intro σ H F θ s xs vs Q b r p
  unfold min2D at p
  split at p
  · rename_i i j
    exact ⟨i, j, reps_ints2 r, po_val p b (rep_int.mpr rfl)⟩
  · exact False.elim p
end
end M
set_option maxRecDepth 100000
set_option maxHeartbeats 4000000
namespace M
open PySem PySem.Spec PyProof.Rows L2
section
variable {C : Ct} {Es : L2.St → XK}
end
theorem passN {P : Program} {w : World} {X : Cx} : Passes (CXE P w) X E0 := fun _ _ _ _ _ _ _ ⟨_, _, _, _, _, _, _, _, _, z⟩ => z.elim
end M
set_option maxRecDepth 100000
set_option maxHeartbeats 4000000
namespace M
open PySem PySem.Spec PyProof.Rows L2
section
variable {C : Ct}
end
end M
set_option maxRecDepth 100000
set_option maxHeartbeats 4000000
namespace M
open PySem PySem.Spec PyProof.Rows L2
section
variable {C : Ct}
end
end M
set_option maxRecDepth 100000
set_option maxHeartbeats 4000000
namespace M
open PySem PySem.Spec PyProof.Rows L2
section
variable {C : Ct}
def strD : OpN := fun _ xs => match xs with
  | [.int i] => if i.natAbs.log2 < 1920 then .ok (.str (toString i)) else .bad
  | _ => .bad
theorem rd_strD : RdCall C (fun xs H Q => ∃ i, xs = [.int i] ∧ i.natAbs.log2 < 1920 ∧ Q (.str (toString i)) H) strD := by
  intro σ H F θ s xs vs Q b r p
  unfold strD at p
  split at p
  · rename_i i
    split at p
    · rename_i hi
      exact ⟨i, reps_ints1 r, hi, po_val p b (rep_str.mpr rfl)⟩
    · exact False.elim p
  · exact False.elim p
theorem reps_strsV {K : PySem.W.Frag} {ca : Nat → Addr} {θ : List Addr} {F : Hp} : ∀ {zs : List Str} {xs : List V}, Reps K ca θ F (zs.map D.str) xs → xs = zs.map V.str
  | [], xs, h => by unfold Reps at h; exact h
  | z :: zs, xs, h => by
    rw [List.map_cons] at h
    unfold Reps at h
    obtain ⟨v, r, rfl, h1, h2⟩ := h
    rw [rep_str.mp h1, reps_strsV h2]; rfl
theorem same_sqL {K : PySem.W.Frag} {H H' : Hp} {a : Addr} {xs : List V} (e : Same H H') (h : SqL K H a xs) : SqL K H' a xs := by
  rcases h with (h | ⟨o, h⟩) | h
  · exact .inl (.inl (e _ _ h))
  · exact .inl (.inr ⟨o, e _ _ h⟩)
  · exact .inr h
def joinM (ms me : EM) : EM := fun s => (ms s).bind fun x => match x.1 with
  | .str sep => (me x.2).bind fun y => match y.1 with
    | .lst ds => match asStrs ds with
      | some ts => if JoinOk sep ts = true then .ok (.str (Txt.join sep ts), y.2) else .bad
      | none => .bad
    | _ => .bad
  | _ => .bad
theorem rd_join {to te : TE} {ms me : EM} (ho : RdE C to ms) (he : RdE C te me) : RdE C (tBM C.K "str" (rJoin C.K) to (tCons te tNil)) (joinM ms me) := by
  intro σ H F θ s Q b p
  refine ho σ H F θ s _ b (PoR.bind p ?_)
  rintro ⟨x, s1⟩ H1 F1 θ1 _ st1 p1 b1 v r1
  dsimp only at p1 b1 r1
  split at p1
  · rename_i sep _
    cases rep_str.mp r1
    refine ⟨rfl, he σ H1 F1 θ1 s1 _ b1 (PoR.bind p1 ?_)⟩
    rintro ⟨y, s2⟩ H2 F2 θ2 _ st2 p2 b2 w r2
    dsimp only at p2 b2 r2
    split at p2
    · rename_i ds _
      split at p2
      · rename_i ts e
        split at p2
        · rename_i hok
          rw [asStrs_eq e] at r2
          unfold Rep at r2
          obtain ⟨a, xs, rfl, hs, hr⟩ := r2
          rw [reps_strsV hr] at hs
          exact ⟨sep, a, ts, rfl, rfl, same_sqL b2.now.fh hs, hok, p2 _ _ _ .refl b2 _ (rep_str.mpr rfl)⟩
        · exact False.elim p2
      · exact False.elim p2
    · exact False.elim p2
  · exact False.elim p1
end
end M
set_option maxRecDepth 100000
set_option maxHeartbeats 4000000
namespace M
open PySem PySem.Spec PyProof.Rows L2
section
variable {C : Ct}
end
end M
set_option maxRecDepth 100000
set_option maxHeartbeats 4000000
namespace M
open PySem PySem.Spec PyProof.Rows L2
@[simp] theorem okC_none (ds : List D) (O : Store) : okC ds none O = True := rfl
@[simp] theorem okC_some (ds : List D) (k : Nat) (O : Store) : okC ds (some k) O = (O[k]? = some (.lst ds)) := rfl
theorem bits_of {n : Nat} {i : Int} (h : i.natAbs < 2 ^ n) : Builtin.Int.intBits i ≤ n := by
  unfold Builtin.Int.intBits
  split
  · exact Nat.zero_le _
  · rename_i h0
    have hp : i.natAbs ≠ 0 := by
      intro z
      apply h0
      simpa using z
    have := (Nat.log2_lt hp).mpr h
    omega
def Sz (n : Nat) (i : Int) : Prop := i.natAbs < 2 ^ n
theorem Sz.mono {m n : Nat} {i : Int} (h : Sz m i) (hmn : m ≤ n) : Sz n i := Nat.lt_of_lt_of_le h (Nat.pow_le_pow_right (by decide) hmn)
theorem mul_ok {m n : Nat} (hm : m ≤ 60000000) (hn : n ≤ 60000000) {i j : Int} (h : Sz m i) (h' : Sz n j) : IntMulOk i j := by
  have h1 := bits_of h
  have h2 := bits_of h'
  have e : Builtin.Int.intTooBig (Builtin.Int.intBits i + Builtin.Int.intBits j) = false := by
    unfold Builtin.Int.intTooBig
    rw [bitsLine_eq]
    exact decide_eq_false (by omega)
  unfold IntMulOk
  rw [e]
  simp
theorem mul_small {i j : Int} (h : i.natAbs < 2 ^ 64 ∨ j.natAbs < 2 ^ 64) : IntMulOk i j := by
  rcases h with h | h
  · exact .of_left (intBits_le_64 (by omega) (by omega))
  · exact .of_right (intBits_le_64 (by omega) (by omega))
theorem Sz.mul {m n : Nat} {i j : Int} (h : Sz m i) (h' : Sz n j) : Sz (m + n) (i * j) := by
  unfold Sz at *
  rw [Int.natAbs_mul, Nat.pow_add]
  exact Nat.mul_lt_mul'' h h'
theorem Sz.add {m n : Nat} {i j : Int} (h : Sz m i) (h' : Sz n j) : Sz (max m n + 1) (i + j) := by
  unfold Sz at *
  have h1 := Nat.lt_of_lt_of_le h (Nat.pow_le_pow_right (by decide) (Nat.le_max_left m n))
  have h2 := Nat.lt_of_lt_of_le h' (Nat.pow_le_pow_right (by decide) (Nat.le_max_right m n))
  have h3 : (i + j).natAbs ≤ i.natAbs + j.natAbs := Int.natAbs_add_le i j
  rw [Nat.pow_succ]
  omega
theorem fdiv_pos {i j : Int} (h : 0 < j) : i.fdiv j = i / j := Int.fdiv_eq_ediv_of_nonneg i (Int.le_of_lt h)
theorem fmod_pos {i j : Int} (h : 0 < j) : i.fmod j = i % j := Int.fmod_eq_emod_of_nonneg i (Int.le_of_lt h)
section
variable {O : Store}
@[simp] theorem subD_int (i j : Int) : subD O (.int i) (.int j) = .ok (.int (i - j)) := rfl
@[simp] theorem addD_int (i j : Int) : addD O (.int i) (.int j) = .ok (.int (i + j)) := rfl
@[simp] theorem addI_int (i j : Int) : addI O (.int i) (.int j) = .ok (.int (i + j)) := rfl
@[simp] theorem ltD_int (i j : Int) : ltD O (.int i) (.int j) = .ok (.bl (decide (i < j))) := rfl
@[simp] theorem leD_int (i j : Int) : leD O (.int i) (.int j) = .ok (.bl (decide (i ≤ j))) := rfl
@[simp] theorem gtD_int (i j : Int) : gtD O (.int i) (.int j) = .ok (.bl (decide (j < i))) := rfl
@[simp] theorem geD_int (i j : Int) : geD O (.int i) (.int j) = .ok (.bl (decide (j ≤ i))) := rfl
@[simp] theorem negD_int (i : Int) : negD O (.int i) = .ok (.int (-i)) := rfl
@[simp] theorem eqD_int (i j : Int) : eqD O (.int i) (.int j) = .ok (.bl (decide (i = j))) := rfl
@[simp] theorem neD_int (i j : Int) : neD O (.int i) (.int j) = .ok (.bl (!decide (i = j))) := rfl
@[simp] theorem eqD_str (i j : Str) : eqD O (.str i) (.str j) = .ok (.bl (decide (i = j))) := rfl
@[simp] theorem neD_str (i j : Str) : neD O (.str i) (.str j) = .ok (.bl (!decide (i = j))) := rfl
@[simp] theorem eqD_bl (i j : Bool) : eqD O (.bl i) (.bl j) = .ok (.bl (decide (i = j))) := rfl
@[simp] theorem neD_bl (i j : Bool) : neD O (.bl i) (.bl j) = .ok (.bl (!decide (i = j))) := rfl
theorem mulD_int {i j : Int} (h : IntMulOk i j) : mulD O (.int i) (.int j) = .ok (.int (i * j)) := if_pos h
theorem fdivD_int {i j : Int} (h : j ≠ 0) : fdivD O (.int i) (.int j) = .ok (.int (i.fdiv j)) := if_pos h
theorem fdivD_small {i : Int} {j : Int} (h : 0 < j) (h2 : j < 1073741824) : fdivD O (.int i) (.int j) = .ok (.int (i / j)) := by
  rw [fdivD_int (by omega), fdiv_pos h]
theorem modD_pos {i j : Int} (h : 0 < j) : modD O (.int i) (.int j) = .ok (.int (i % j)) := by
  rw [← fmod_pos h]; exact if_pos (by omega)
theorem powD_int {i j : Int} (h : 0 ≤ j) (h2 : j ≤ 1000000) (h3 : i.natAbs < 2 ^ 64) : powD O (.int i) (.int j) = .ok (.int (i ^ j.toNat)) := if_pos ⟨h, h2, h3⟩
@[simp] theorem absD_int (i : Int) : absD O [.int i] = .ok (.int (i.natAbs : Int)) := by
  show Res.ok (D.int (if i < 0 then -i else i)) = _
  congr 2
  split <;> omega
@[simp] theorem lenD_lst (ds : List D) : lenD O [.lst ds] = .ok (.int ds.length) := rfl
@[simp] theorem lenD_tup (ds : List D) : lenD O [.tup ds] = .ok (.int ds.length) := rfl
@[simp] theorem listD_lst (ds : List D) : listD O [.lst ds] = .ok (.lst ds) := rfl
@[simp] theorem listD_tup (ds : List D) : listD O [.tup ds] = .ok (.lst ds) := rfl
@[simp] theorem intOf_int (i : Int) : intOf O [.int i] = .ok (.int i) := rfl
@[simp] theorem intOf_bl (b : Bool) : intOf O [.bl b] = .ok (.int (if b then 1 else 0)) := rfl
@[simp] theorem isi_int (c : String) (i : Int) : isiD c O (.int i) = .ok (.bl (isSub "int" c)) := rfl
@[simp] theorem isi_bl (c : String) (i : Bool) : isiD c O (.bl i) = .ok (.bl (isSub "bool" c)) := rfl
@[simp] theorem isi_str (c : String) (i : Str) : isiD c O (.str i) = .ok (.bl (isSub "str" c)) := rfl
@[simp] theorem isi_lst (c : String) (i : List D) : isiD c O (.lst i) = .ok (.bl (isSub "list" c)) := rfl
@[simp] theorem isi_tup (c : String) (i : List D) : isiD c O (.tup i) = .ok (.bl (isSub "tuple" c)) := rfl
@[simp] theorem isi_non (c : String) : isiD c O .non = .ok (.bl (isSub "NoneType" c)) := rfl
@[simp] theorem sub_ii : isSub "int" "int" = true := by decide
@[simp] theorem sub_ib : isSub "int" "bool" = false := by decide
@[simp] theorem sub_bb : isSub "bool" "bool" = true := by decide
@[simp] theorem sub_bi : isSub "bool" "int" = true := by decide
@[simp] theorem sub_ll : isSub "list" "list" = true := by decide
@[simp] theorem sub_tt : isSub "tuple" "tuple" = true := by decide
@[simp] theorem sub_lt : isSub "list" "tuple" = false := by decide
@[simp] theorem sub_tl : isSub "tuple" "list" = false := by decide
@[simp] theorem sub_si : isSub "str" "int" = false := by decide
@[simp] theorem sub_ni : isSub "NoneType" "int" = false := by decide
theorem ixD_lst {ds : List D} {i : Int} {d : D} (h : atI ds i = some d) : ixD O (.lst ds) (.int i) = .ok d := by
  show (match lsD O (D.lst ds) with
      | some ds => match atI ds i with
        | some d => Res.ok d
        | none => .bad
      | none => .bad) = _
  rw [lsD_lst]
  dsimp only
  rw [h]
theorem ixD_tup {ds : List D} {i : Int} {d : D} (h : atI ds i = some d) : ixD O (.tup ds) (.int i) = .ok d := by
  show (match atI ds i with
        | some d => Res.ok d
        | none => .bad) = _
  rw [h]
theorem atI_ok {α : Type} {l : List α} {i : Int} (h0 : 0 ≤ i) (h1 : i < l.length) : atI l i = some (l[i.toNat]'(by omega)) := by
  unfold atI ixN
  rw [if_pos h0, if_pos h1]
  show l[i.toNat]? = _
  exact List.getElem?_eq_getElem _
theorem toPys_ints : ∀ ns : List Int, toPys (ns.map D.int) = some (ns.map PyData.int)
  | [] => by simp [toPys]
  | n :: ns => by simp [toPys, toPy, toPys_ints ns]
theorem ress_ints : ∀ ns : List Int, ress O (ns.map D.int) = ns.map D.int
  | [] => by simp [ress]
  | n :: ns => by simp [ress, res, ress_ints ns]
theorem canLay_ints : ∀ ns : List Int, PyData.canLayAll0 (ns.map PyData.int) = true
  | [] => by simp [PyData.canLayAll0]
  | n :: ns => by simp [PyData.canLayAll0, PyData.canLay0, canLay_ints ns]
theorem depth_ints : ∀ ns : List Int, PyData.depthAll (ns.map PyData.int) = 0
  | [] => by simp [PyData.depthAll]
  | n :: ns => by simp [PyData.depthAll, PyData.depth, depth_ints ns]
theorem shaped_ints (ns : List Int) : SeqAt.shaped (.list (ns.map PyData.int)) = true := by
  simp [SeqAt.shaped, PyData.canLay0, canLay_ints, PyData.depth, depth_ints]
theorem eqv_ints : ∀ ns ms : List Int, PyData.eqvAll (ns.map PyData.int) (ms.map PyData.int) = decide (ns = ms)
  | [], [] => by simp [PyData.eqvAll]
  | [], _ :: _ => by simp [PyData.eqvAll]
  | _ :: _, [] => by simp [PyData.eqvAll]
  | a :: r, b :: t => by
    simp only [List.map_cons, PyData.eqvAll, PyData.eqv, eqv_ints r t]
    by_cases h : a = b <;> by_cases h' : r = t <;> simp [h, h']
theorem eqB_ints (ns ms : List Int) : eqB O (.lst (ns.map D.int)) (.lst (ms.map D.int)) = some (decide (ns = ms)) := by
  show eqDeep O _ _ = _
  unfold eqDeep
  simp only [res, ress_ints, toPy, toPys_ints, Option.map_some]
  rw [if_pos ⟨shaped_ints ns, shaped_ints ms⟩]
  simp only [PyData.eqv, eqv_ints]
@[simp] theorem eqD_ints (ns ms : List Int) : eqD O (.lst (ns.map D.int)) (.lst (ms.map D.int)) = .ok (.bl (decide (ns = ms))) := by unfold eqD; rw [eqB_ints]
@[simp] theorem neD_ints (ns ms : List Int) : neD O (.lst (ns.map D.int)) (.lst (ms.map D.int)) = .ok (.bl (!decide (ns = ms))) := by unfold neD; rw [eqB_ints]
theorem pure_ints : ∀ ns : List Int, pureDs (ns.map D.int) = true
  | [] => by simp [pureDs]
  | n :: ns => by simp [pureDs, pureD, pure_ints ns]
@[simp] theorem pureD_ints (ns : List Int) : pureD (.lst (ns.map D.int)) = true := by simp [pureD, pure_ints]
end
end M
set_option maxRecDepth 100000
set_option maxHeartbeats 4000000
namespace M
open PySem PySem.Spec PyProof.Rows L2
noncomputable def gcdBody : SM := seqM (setM 2 (binM modD (varM 0) (varM 1))) (seqM (setM 0 (varM 1)) (setM 1 (varM 2)))
theorem gcd_body {a b : Int} {x : Option D} {O : Store} (hb : 0 < b) : gcdBody ⟨[some (.int a), some (.int b), x], O⟩ = .next ⟨[some (.int b), some (.int (a % b)), some (.int (a % b))], O⟩ := by
  simp [gcdBody, seqM, setM, asgM, nameG, binM, varM, modD_pos hb]
theorem gcd_while {c : TM} (hc : ∀ (a b : Int) x O, 0 ≤ b → c ⟨[some (.int a), some (.int b), x], O⟩ = .ok (decide (b ≠ 0), ⟨[some (.int a), some (.int b), x], O⟩)) :
    ∀ (n : Nat) (a b : Int) x O, 0 ≤ a → 0 ≤ b → b.natAbs < n → ∃ y, whileGo c gcdBody n ⟨[some (.int a), some (.int b), x], O⟩ = .next ⟨[some (.int (Nat.gcd a.natAbs b.natAbs : Nat)), some (.int 0), y], O⟩
  | 0, _, _, _, _, _, _, h => by omega
  | n + 1, a, b, x, O, ha, hb, hn => by
    rw [whileGo, hc a b x O hb, out_ok]
    by_cases h : b = 0
    · subst h
      refine ⟨x, ?_⟩
      have e : ((Nat.gcd a.natAbs (0 : Int).natAbs : Nat) : Int) = a := by
        rw [Int.natAbs_zero, Nat.gcd_zero_right]
        omega
      rw [e]
      simp
    · have hb' : 0 < b := by omega
      have h1 : 0 ≤ a % b := Int.emod_nonneg a h
      have h2 : a % b < b := Int.emod_lt_of_pos a hb'
      obtain ⟨y, e⟩ := gcd_while hc n b (a % b) (some (.int (a % b))) O hb h1 (by omega)
      refine ⟨y, ?_⟩
      simp only [h, ne_eq, not_false_eq_true, decide_true, if_true, gcd_body hb']
      rw [e]
      have e2 : (a % b).natAbs = a.natAbs % b.natAbs := by
        have : ((a % b).natAbs : Int) = ((a.natAbs % b.natAbs : Nat) : Int) := by
          rw [Int.natAbs_of_nonneg h1, Int.natCast_emod, Int.natAbs_of_nonneg ha, Int.natAbs_of_nonneg hb]
        omega
      rw [e2, ← Nat.gcd_rec' a.natAbs b.natAbs]
where Nat.gcd_rec' (m n : Nat) : Nat.gcd m n = Nat.gcd n (m % n) := by
        rw [Nat.gcd_comm m n, Nat.gcd_rec n m, Nat.gcd_comm]
noncomputable def gcdNe : SM := seqM (setM 0 (calM absD (consM (varM 0) nilM))) (seqM (setM 1 (calM absD (consM (varM 1) nilM))) (seqM (whileM (fun s => gcdFuel 1 s) (tstM (binM neD (varM 1) (cstM (.int 0)))) gcdBody) (retM (varM 0))))
noncomputable def gcdGt : SM := seqM (setM 0 (calM absD (consM (varM 0) nilM))) (seqM (setM 1 (calM absD (consM (varM 1) nilM))) (seqM (whileM (fun s => gcdFuel 1 s) (tstM (binM gtD (varM 1) (cstM (.int 0)))) gcdBody) (retM (varM 0))))
theorem gcdNe_ok (a b : Int) (O : Store) : ∃ s, gcdNe ⟨[some (.int a), some (.int b), none], O⟩ = .ret (.int (Int.gcd a b : Nat)) s ∧ s.o = O := by
  obtain ⟨y, e⟩ := gcd_while (c := tstM (binM neD (varM 1) (cstM (.int 0)))) (fun a b x O h => by simp [tstM, binM, varM, cstM]) (b.natAbs + 1) (a.natAbs : Int) (b.natAbs : Int) none O (by omega) (by omega) (by omega)
  refine ⟨⟨[some (.int (Int.gcd a b : Nat)), some (.int 0), y], O⟩, ?_, rfl⟩
  simp only [Int.natAbs_natCast] at e
  simp [gcdNe, seqM, setM, asgM, nameG, calM, consM, nilM, varM, whileM, gcdFuel, e, retM, Int.gcd]
theorem gcdGt_ok (a b : Int) (O : Store) : ∃ s, gcdGt ⟨[some (.int a), some (.int b), none], O⟩ = .ret (.int (Int.gcd a b : Nat)) s ∧ s.o = O := by
  obtain ⟨y, e⟩ := gcd_while (c := tstM (binM gtD (varM 1) (cstM (.int 0)))) (fun a b x O h => by
    have e : decide (0 < b) = decide (b ≠ 0) := by
      rw [decide_eq_decide]; omega
    simp only [tstM, binM, varM, cstM, List.getElem?_cons_succ, List.getElem?_cons_zero, bind_ok, gtD_int, e]) (b.natAbs + 1) (a.natAbs : Int) (b.natAbs : Int) none O (by omega) (by omega) (by omega)
  refine ⟨⟨[some (.int (Int.gcd a b : Nat)), some (.int 0), y], O⟩, ?_, rfl⟩
  simp only [Int.natAbs_natCast] at e
  simp [gcdGt, seqM, setM, asgM, nameG, calM, consM, nilM, varM, whileM, gcdFuel, e, retM, Int.gcd]
theorem runM_ret {n : Nat} {m : SM} {ds : List D} {O : Store} {d : D} {s : S} (h : m ⟨ds.map some ++ List.replicate (n - ds.length) none, O⟩ = .ret d s) : runM n m ds O = .ok (d, s.o) := by
  unfold runM; rw [h]
theorem gcdGt_run (a b : Int) : runM 3 gcdGt [.int a, .int b] [] = .ok (.int (Int.gcd a b : Nat), []) := by
  obtain ⟨s, e, eo⟩ := gcdGt_ok a b []
  rw [runM_ret (s := s) (by exact e), eo]
def gcdL (ns : List Int) : Nat := ns.foldl (fun c n => Nat.gcd c n.natAbs) 0
theorem gcdL_fold_dvd : ∀ (ns : List Int) (c : Nat), ns.foldl (fun c n => Nat.gcd c n.natAbs) c ∣ c ∧ ∀ n ∈ ns, ns.foldl (fun c n => Nat.gcd c n.natAbs) c ∣ n.natAbs
  | [], c => ⟨Nat.dvd_refl _, by simp⟩
  | m :: ns, c => by
    obtain ⟨h1, h2⟩ := gcdL_fold_dvd ns (Nat.gcd c m.natAbs)
    rw [List.foldl_cons]
    refine ⟨Nat.dvd_trans h1 (Nat.gcd_dvd_left _ _), fun n hn => ?_⟩
    rcases List.mem_cons.mp hn with rfl | hn
    · exact Nat.dvd_trans h1 (Nat.gcd_dvd_right _ _)
    · exact h2 n hn
theorem gcdL_dvd {ns : List Int} {n : Int} (h : n ∈ ns) : ((gcdL ns : Nat) : Int) ∣ n := Int.natAbs_dvd_natAbs.mp (by rw [Int.natAbs_natCast]; exact (gcdL_fold_dvd ns 0).2 n h)
theorem gcdL_fold_div (g : Nat) (hg : 0 < g) : ∀ (ns : List Int) (c : Nat), g ∣ c → (∀ n ∈ ns, (g : Int) ∣ n) →
    (ns.map (· / (g : Int))).foldl (fun c n => Nat.gcd c n.natAbs) (c / g) = ns.foldl (fun c n => Nat.gcd c n.natAbs) c / g
  | [], c, _, _ => rfl
  | m :: ns, c, hc, h => by
    have hm : g ∣ m.natAbs := by
      have := Int.natAbs_dvd_natAbs.mpr (h m List.mem_cons_self)
      rwa [Int.natAbs_natCast] at this
    have e : (m / (g : Int)).natAbs = m.natAbs / g := by
      obtain ⟨k, rfl⟩ := h m List.mem_cons_self
      rw [Int.mul_ediv_cancel_left _ (by omega : (g : Int) ≠ 0), Int.natAbs_mul, Int.natAbs_natCast, Nat.mul_div_cancel_left _ hg]
    rw [List.map_cons, List.foldl_cons, List.foldl_cons, e, Nat.gcd_div hc hm]
    exact gcdL_fold_div g hg ns _ (Nat.dvd_gcd hc hm) fun n hn => h n (List.mem_cons_of_mem _ hn)
theorem gcdL_low {ns : List Int} (h : 0 < gcdL ns) : gcdL (ns.map (· / (gcdL ns : Int))) = 1 := by
  have := gcdL_fold_div (gcdL ns) h ns 0 (Nat.dvd_zero _) fun n hn => gcdL_dvd hn
  rw [Nat.zero_div] at this
  rw [show gcdL (ns.map (· / (gcdL ns : Int))) = (ns.map (· / (gcdL ns : Int))).foldl (fun c n => Nat.gcd c n.natAbs) 0 from rfl, this]
  exact Nat.div_self h
end M
set_option maxRecDepth 100000
set_option maxHeartbeats 4000000
namespace M
open PySem PySem.Spec PyProof.Rows L2
section
variable {s s1 : S} {d : D}
@[simp] theorem varM_ev {i : Nat} (h : s.r[i]? = some (some d)) : varM i s = .ok (d, s) := by unfold varM; rw [h]
@[simp] theorem cstM_ev (d : D) (s : S) : cstM d s = .ok (d, s) := rfl
@[simp] theorem binM_ev (f : Op2) (a b : EM) (s : S) : binM f a b s = (a s).bind fun x => (b x.2).bind fun y => (f y.2.o x.1 y.1).bind fun d => .ok (d, y.2) := rfl
@[simp] theorem unM_ev (f : Op1) (a : EM) (s : S) : unM f a s = (a s).bind fun x => (f x.2.o x.1).bind fun d => .ok (d, x.2) := rfl
@[simp] theorem nilM_ev (s : S) : nilM s = .ok ([], s) := rfl
@[simp] theorem consM_ev (m : EM) (r : AM) (s : S) : consM m r s = (m s).bind fun x => (r x.2).bind fun y => .ok (x.1 :: y.1, y.2) := rfl
@[simp] theorem calM_ev (f : OpN) (m : AM) (s : S) : calM f m s = (m s).bind fun x => (f x.2.o x.1).bind fun d => .ok (d, x.2) := rfl
@[simp] theorem tupM_ev (m : AM) (s : S) : tupM m s = (m s).bind fun x => if x.1.length ≤ 16777216 then .ok (.tup x.1, x.2) else .bad := rfl
@[simp] theorem lstM_ev (m : AM) (s : S) : lstM m s = (m s).bind fun x => if x.1.length ≤ 16777216 then .ok (.lst x.1, x.2) else .bad := rfl
@[simp] theorem lstC_ev (m : AM) (s : S) : lstC m s = (m s).bind fun x => if x.1.length ≤ 16777216 then .ok (.ptr x.2.o.length, ⟨x.2.r, x.2.o ++ [.lst x.1]⟩) else .bad := rfl
@[simp] theorem tstM_ev (m : EM) (s : S) : tstM m s = (m s).bind fun x => match x.1 with
  | .bl b => .ok (b, x.2)
  | _ => .bad := rfl
@[simp] theorem andT_ev (a b : TM) (s : S) : andT a b s = (a s).bind fun x => if x.1 then b x.2 else .ok (false, x.2) := rfl
@[simp] theorem orT_ev (a b : TM) (s : S) : orT a b s = (a s).bind fun x => if x.1 then .ok (true, x.2) else b x.2 := rfl
@[simp] theorem notT_ev (a : TM) (s : S) : notT a s = (a s).bind fun x => .ok (!x.1, x.2) := rfl
@[simp] theorem andV_ev (a b : EM) (s : S) : andV a b s = (a s).bind fun x => match x.1 with
  | .bl true => b x.2
  | .bl false => .ok (.bl false, x.2)
  | _ => .bad := rfl
@[simp] theorem orV_ev (a b : EM) (s : S) : orV a b s = (a s).bind fun x => match x.1 with
  | .bl true => .ok (.bl true, x.2)
  | .bl false => b x.2
  | _ => .bad := rfl
@[simp] theorem notV_ev (a : EM) (s : S) : notV a s = (a s).bind fun x => match x.1 with
  | .bl k => .ok (.bl (!k), x.2)
  | _ => .bad := rfl
@[simp] theorem seqM_ev (a b : SM) (s : S) : seqM a b s = (a s).then b := rfl
@[simp] theorem skipM_ev (s : S) : skipM s = .next s := rfl
@[simp] theorem dropM_ev (m : EM) (s : S) : dropM m s = (m s).out fun x => .next x.2 := rfl
@[simp] theorem retM_ev (m : EM) (s : S) : retM m s = (m s).out fun x => .ret x.1 x.2 := rfl
@[simp] theorem ret0_ev (s : S) : ret0 s = .ret .non s := rfl
@[simp] theorem ifS_ev (c : TM) (a b : SM) (s : S) : ifS c a b s = (c s).out fun x => if x.1 then a x.2 else b x.2 := rfl
@[simp] theorem ifM_ev (c : TM) (a b : EM) (s : S) : ifM c a b s = (c s).bind fun x => if x.1 then a x.2 else b x.2 := rfl
@[simp] theorem nameG_ev (i : Nat) (d : D) (s : S) : nameG i d s = .ok ⟨s.r.set i (some d), s.o⟩ := rfl
@[simp] theorem asgM_ev (m : EM) (g : GM) (s : S) : asgM m g s = ((m s).bind fun x => g x.1 x.2).out fun s => .next s := rfl
@[simp] theorem augM_ev (i : Nat) (f : Op2) (m : EM) (s : S) : augM i f m s = asgM (binM f (varM i) m) (nameG i) s := rfl
@[simp] theorem trueT_ev (s : S) : trueT s = .ok (true, s) := rfl
@[simp] theorem noPart_ev (s : S) : noPart s = .ok (none, s) := rfl
@[simp] theorem part_ev (m : EM) (s : S) : part m s = (m s).bind fun x => match x.1 with
  | .int i => .ok (some i, x.2)
  | _ => .bad := rfl
@[simp] theorem slM_ev (me : EM) (ml mh : OM) (s : S) : slM me ml mh s = (me s).bind fun x => (ml x.2).bind fun l => (mh l.2).bind fun h => match lsD h.2.o x.1 with
  | some ds => .ok (.lst (cutD ds l.1 h.1), h.2)
  | none => .bad := rfl
@[simp] theorem listI_ev (m : EM) (s : S) : listI m s = (m s).bind fun x => (itemsOf x.2.o x.1).bind fun y => .ok (y, x.2) := rfl
@[simp] theorem itemsOf_lst (O : Store) (ds : List D) : itemsOf O (.lst ds) = .ok (ds, none) := rfl
theorem forS_ev (im : IM) (g : GM) (body : SM) (s : S) : forS im g body s = (im s).out fun y => forGo (okC y.1.1 y.1.2) g body y.1.1 y.2 := rfl
theorem compM_ev (m : Nat) (caps : List Nat) (im : IM) (g : GM) (c : TM) (e : EM) (s : S) : compM m caps im g c e s = (im s).bind fun y =>
  (compGo (okC y.1.1 y.1.2) g c e y.1.1 [] ⟨capM m caps y.2.r, y.2.o⟩).bind fun z => .ok (z.1, ⟨y.2.r, z.2.o⟩) := rfl
theorem compF_ev (m : Nat) (caps : List Nat) (im : IM) (g : GM) (c : TM) (e : EM) (s : S) : compF m caps im g c e s = (compM m caps im g c e s).bind fun y => .ok (.lst y.1, y.2) := rfl
@[simp] theorem callP_ev (n : Nat) (f : FM) (m : AM) (s : S) : callP n f m s = (m s).bind fun x => if pureDs x.1 = true ∧ x.1.length = n then (match f x.1 [] with
  | .ok (d, _) => if pureD d = true then .ok (d, x.2) else .bad
  | _ => .bad) else .bad := rfl
@[simp] theorem callO_ev (n : Nat) (f : FM) (m : AM) (s : S) : callO n f m s = (m s).bind fun x => if pureDs x.1 = true ∧ x.1.length = n then (match f x.1 [] with
  | .ok (d, O1) => .ok (shD x.2.o.length d, ⟨x.2.r, x.2.o ++ O1.map (shC x.2.o.length)⟩)
  | _ => .bad) else .bad := rfl
@[simp] theorem callV_ev (n : Nat) (f : FM) (m : AM) (s : S) : callV n f m s = (m s).bind fun x => if pureDs (ress x.2.o (ress x.2.o x.1)) = true ∧ x.1.length = n then (match f (ress x.2.o (ress x.2.o x.1)) [] with
  | .ok (d, _) => if scalD d = true then .ok (d, x.2) else .bad
  | _ => .bad) else .bad := rfl
@[simp] theorem listC_ev (m : EM) (s : S) : listC m s = (m s).bind fun x => match seqOf x.2.o x.1 with
  | some ds => .ok (.ptr x.2.o.length, ⟨x.2.r, x.2.o ++ [.lst ds]⟩)
  | none => .bad := rfl
@[simp] theorem frzM_ev (m : EM) (s : S) : frzM m s = (m s).bind fun x => match celD x.2.o x.1 with
  | some (k, ds) => .ok (.lst ds, ⟨x.2.r, x.2.o.set k .dead⟩)
  | none => .bad := rfl
@[simp] theorem appM_ev (mo me : EM) (s : S) : appM mo me s = (mo s).bind fun x => match celD x.2.o x.1 with
  | some _ => (me x.2).bind fun y => match celD y.2.o x.1 with
    | some (k, ds) => if ds.length < 16777216 then .ok (.non, ⟨y.2.r, y.2.o.set k (.lst (ds ++ [y.1]))⟩) else .bad
    | none => .bad
  | none => .bad := rfl
@[simp] theorem lsD_ptr {O : Store} {k : Nat} {ds : List D} (h : O[k]? = some (.lst ds)) : lsD O (.ptr k) = some ds := by unfold lsD; simp only [h]
@[simp] theorem celD_ptr {O : Store} {k : Nat} {ds : List D} (h : O[k]? = some (.lst ds)) : celD O (.ptr k) = some (k, ds) := by unfold celD; simp only [h]
@[simp] theorem seqOf_lst (O : Store) (ds : List D) : seqOf O (.lst ds) = some ds := rfl
@[simp] theorem seqOf_tup (O : Store) (ds : List D) : seqOf O (.tup ds) = some ds := rfl
@[simp] theorem seqOf_ptr {O : Store} {k : Nat} {ds : List D} (h : O[k]? = some (.lst ds)) : seqOf O (.ptr k) = some ds := by show lsD O (.ptr k) = _; exact lsD_ptr h
@[simp] theorem itemsOf_ptr {O : Store} {k : Nat} {ds : List D} (h : O[k]? = some (.lst ds)) : itemsOf O (.ptr k) = .ok (ds, some k) := by unfold itemsOf; simp only [h]
@[simp] theorem shD_ptr (n k : Nat) : shD n (.ptr k) = .ptr (n + k) := by unfold shD; rfl
@[simp] theorem pureDs_nil : pureDs [] = true := by unfold pureDs; rfl
@[simp] theorem pureDs_cons (d : D) (ds : List D) : pureDs (d :: ds) = (pureD d && pureDs ds) := by conv => lhs; unfold pureDs
@[simp] theorem pureD_int (i : Int) : pureD (.int i) = true := by unfold pureD; rfl
@[simp] theorem pureD_bl (i : Bool) : pureD (.bl i) = true := by unfold pureD; rfl
@[simp] theorem pureD_str (i : Str) : pureD (.str i) = true := by unfold pureD; rfl
@[simp] theorem pureD_non : pureD .non = true := by unfold pureD; rfl
@[simp] theorem pureD_lst (ds : List D) : pureD (.lst ds) = pureDs ds := by conv => lhs; unfold pureD
@[simp] theorem pureD_tup (ds : List D) : pureD (.tup ds) = pureDs ds := by conv => lhs; unfold pureD
@[simp] theorem pureDs_ints (ns : List Int) : pureDs (ns.map D.int) = true := pure_ints ns
@[simp] theorem res_int (O : Store) (i : Int) : res O (.int i) = .int i := by unfold res; rfl
@[simp] theorem res_bl (O : Store) (i : Bool) : res O (.bl i) = .bl i := by unfold res; rfl
@[simp] theorem res_str (O : Store) (i : Str) : res O (.str i) = .str i := by unfold res; rfl
@[simp] theorem res_non (O : Store) : res O .non = .non := by unfold res; rfl
@[simp] theorem res_lst (O : Store) (ds : List D) : res O (.lst ds) = .lst (ress O ds) := by conv => lhs; unfold res
@[simp] theorem res_tup (O : Store) (ds : List D) : res O (.tup ds) = .tup (ress O ds) := by conv => lhs; unfold res
@[simp] theorem res_ptr {O : Store} {k : Nat} {ds : List D} (h : O[k]? = some (.lst ds)) : res O (.ptr k) = .lst ds := by conv => lhs; unfold res; simp only [h]
@[simp] theorem ress_nil (O : Store) : ress O [] = [] := by unfold ress; rfl
@[simp] theorem ress_cons (O : Store) (d : D) (ds : List D) : ress O (d :: ds) = res O d :: ress O ds := by conv => lhs; unfold ress
@[simp] theorem ress_ints' (O : Store) (ns : List Int) : ress O (ns.map D.int) = ns.map D.int := ress_ints ns
@[simp] theorem scalD_bl (b : Bool) : scalD (.bl b) = true := rfl
@[simp] theorem scalD_int (b : Int) : scalD (.int b) = true := rfl
@[simp] theorem scalD_str (b : Str) : scalD (.str b) = true := rfl
@[simp] theorem isi_ptr {O : Store} {k : Nat} {ds : List D} (h : O[k]? = some (.lst ds)) (c : String) : isiD c O (.ptr k) = .ok (.bl (isSub "list" c)) := by
  unfold isiD tyD; simp only [h]
@[simp] theorem shDs_ints (n : Nat) : ∀ ns : List Int, shDs n (ns.map D.int) = ns.map D.int
  | [] => by simp [shDs]
  | m :: ns => by simp [shDs, shD, shDs_ints n ns]
@[simp] theorem shC_lst (n : Nat) (ds : List D) : shC n (.lst ds) = .lst (shDs n ds) := rfl
theorem runM_ex {n : Nat} {m : SM} {ds : List D} {O : Store} {d : D} (h : ∃ s, m ⟨ds.map some ++ List.replicate (n - ds.length) none, O⟩ = .ret d s) : ∃ O1, runM n m ds O = .ok (d, O1) := by
  obtain ⟨s, h⟩ := h
  exact ⟨s.o, runM_ret h⟩
end
mutual
theorem res_pure {O : Store} : ∀ {d : D}, pureD d = true → res O d = d
  | .non, _ => by unfold res; rfl
  | .bl _, _ => by unfold res; rfl
  | .int _, _ => by unfold res; rfl
  | .str _, _ => by unfold res; rfl
  | .lst ds, h => by rw [res_lst, ress_pure (by simpa using h)]
  | .tup ds, h => by rw [res_tup, ress_pure (by simpa using h)]
  | .ptr _, h => by unfold pureD at h; cases h
  | .obj c ns ds, h => by unfold res; rfl
  | .exn c, h => by unfold res; rfl
theorem ress_pure {O : Store} : ∀ {ds : List D}, pureDs ds = true → ress O ds = ds
  | [], _ => ress_nil O
  | d :: ds, h => by
    rw [pureDs_cons, Bool.and_eq_true] at h
    rw [ress_cons, res_pure h.1, ress_pure h.2]
end
theorem eqB_ptr {O : Store} {k : Nat} {ds : List D} (h : O[k]? = some (.lst ds)) (hp : pureDs ds = true) (es : List D) : eqB O (.ptr k) (.lst es) = eqB O (.lst ds) (.lst es) := by
  show eqDeep O _ _ = eqDeep O _ _
  unfold eqDeep
  simp only [res_ptr h, res_lst, ress_pure hp]
@[simp] theorem eqD_ptr {O : Store} {k : Nat} {ds : List D} (h : O[k]? = some (.lst ds)) (hp : pureDs ds = true) (es : List D) : eqD O (.ptr k) (.lst es) = eqD O (.lst ds) (.lst es) := by unfold eqD; rw [eqB_ptr h hp]
@[simp] theorem neD_ptr {O : Store} {k : Nat} {ds : List D} (h : O[k]? = some (.lst ds)) (hp : pureDs ds = true) (es : List D) : neD O (.ptr k) (.lst es) = neD O (.lst ds) (.lst es) := by unfold neD; rw [eqB_ptr h hp]
end M
set_option maxRecDepth 100000
set_option maxHeartbeats 4000000
namespace M
open PySem PySem.Spec PyProof.Rows L2
theorem forGo_all {ok : Store → Prop} {g : GM} {body : SM} (P : S → Prop) (hok : ∀ s, P s → ok s.o) : ∀ (ds : List D),
    (∀ d ∈ ds, ∀ s, P s → ∃ s1 s2, g d s = .ok s1 ∧ (body s1 = .next s2 ∨ body s1 = .cnt s2) ∧ P s2) → ∀ s, P s → ∃ s', forGo ok g body ds s = .next s' ∧ P s'
  | [], _, s, h => ⟨s, by rw [forGo, if_pos (hok _ h)], h⟩
  | d :: ds, step, s, h => by
    obtain ⟨s1, s2, e1, e2, h2⟩ := step d List.mem_cons_self s h
    obtain ⟨s', e3, h3⟩ := forGo_all P hok ds (fun d hd => step d (List.mem_cons_of_mem _ hd)) s2 h2
    refine ⟨s', ?_, h3⟩
    rw [forGo, if_pos (hok _ h), e1, out_ok]
    rcases e2 with e2 | e2 <;> (rw [e2]; exact e3)
theorem forGo_pre {ok : Store → Prop} {g : GM} {body : SM} (P : List D → S → Prop) (hok : ∀ pre s, P pre s → ok s.o) : ∀ (ds pre : List D),
    (∀ pre' d rest, pre ++ ds = pre' ++ d :: rest → ∀ s, P pre' s → ∃ s1 s2, g d s = .ok s1 ∧ (body s1 = .next s2 ∨ body s1 = .cnt s2) ∧ P (pre' ++ [d]) s2) → ∀ s, P pre s → ∃ s', forGo ok g body ds s = .next s' ∧ P (pre ++ ds) s'
  | [], pre, _, s, h => ⟨s, by rw [forGo, if_pos (hok _ _ h)], by simpa using h⟩
  | d :: ds, pre, step, s, h => by
    obtain ⟨s1, s2, e1, e2, h2⟩ := step pre d ds rfl s h
    obtain ⟨s', e3, h3⟩ := forGo_pre P hok ds (pre ++ [d]) (fun pre' d' rest e => step pre' d' rest (by simpa using e)) s2 h2
    refine ⟨s', ?_, by simpa using h3⟩
    rw [forGo, if_pos (hok _ _ h), e1, out_ok]
    rcases e2 with e2 | e2 <;> (rw [e2]; exact e3)
theorem forS_of {im : IM} {g : GM} {body : SM} {s s1 : S} {ds : List D} {k : Option Nat} (h : im s = .ok ((ds, k), s1)) : forS im g body s = forGo (okC ds k) g body ds s1 := by rw [forS_ev, h, out_ok]
theorem rng1_nat {m : AM} {s s1 : S} {n : Nat} (h : m s = .ok ([.int (n : Int)], s1)) (hn : n ≤ 1000000) : rng1 m s = .ok ((rangeD 0 (n : Int), none), s1) := by
  show (m s).bind _ = _
  rw [h, bind_ok]
  dsimp only
  rw [if_pos (by constructor <;> omega)]
section
variable {O : Store}
@[simp] theorem ixT0 (d : D) (ds : List D) : ixD O (.tup (d :: ds)) (.int 0) = .ok d := ixD_tup (by rw [atI_ok (by decide) (by simp)]; rfl)
@[simp] theorem ixT1 (d e : D) (ds : List D) : ixD O (.tup (d :: e :: ds)) (.int 1) = .ok e := ixD_tup (by rw [atI_ok (by decide) (by simp; omega)]; rfl)
@[simp] theorem ixL0 (d : D) (ds : List D) : ixD O (.lst (d :: ds)) (.int 0) = .ok d := ixD_lst (by rw [atI_ok (by decide) (by simp)]; rfl)
@[simp] theorem ixL1 (d e : D) (ds : List D) : ixD O (.lst (d :: e :: ds)) (.int 1) = .ok e := ixD_lst (by rw [atI_ok (by decide) (by simp; omega)]; rfl)
theorem shaped_tints (ns : List Int) : SeqAt.shaped (.tuple (ns.map PyData.int)) = true := by
  simp [SeqAt.shaped, PyData.canLay0, canLay_ints, PyData.depth, depth_ints]
theorem eqB_tints (ns ms : List Int) : eqB O (.tup (ns.map D.int)) (.tup (ms.map D.int)) = some (decide (ns = ms)) := by
  show eqDeep O _ _ = _
  unfold eqDeep
  simp only [res, ress_ints, toPy, toPys_ints, Option.map_some]
  rw [if_pos ⟨shaped_tints ns, shaped_tints ms⟩]
  simp only [PyData.eqv, eqv_ints]
@[simp] theorem eqD_t2 (a b c d : Int) : eqD O (.tup [.int a, .int b]) (.tup [.int c, .int d]) = .ok (.bl (decide (a = c ∧ b = d))) := by
  have := eqB_tints (O := O) [a, b] [c, d]
  unfold eqD
  rw [show eqB O (.tup [.int a, .int b]) (.tup [.int c, .int d]) = _ from this]
  simp
@[simp] theorem neD_t2 (a b c d : Int) : neD O (.tup [.int a, .int b]) (.tup [.int c, .int d]) = .ok (.bl (!decide (a = c ∧ b = d))) := by
  have := eqB_tints (O := O) [a, b] [c, d]
  unfold neD
  rw [show eqB O (.tup [.int a, .int b]) (.tup [.int c, .int d]) = _ from this]
  simp
end
theorem Sz.sub {m n : Nat} {i j : Int} (h : Sz m i) (h' : Sz n j) : Sz (max m n + 1) (i - j) := by
  rw [Int.sub_eq_add_neg]
  refine Sz.add h ?_
  unfold Sz at *
  rw [Int.natAbs_neg]; exact h'
theorem Sz.neg {m : Nat} {i : Int} (h : Sz m i) : Sz m (-i) := by
  unfold Sz at *
  rw [Int.natAbs_neg]; exact h
end M
set_option maxRecDepth 100000
set_option maxHeartbeats 4000000
namespace M
def sumN : Nat → (Nat → Int) → Int
  | 0, _ => 0
  | n + 1, f => sumN n f + f n
theorem sumN_congr {n : Nat} {f g : Nat → Int} (h : ∀ i, i < n → f i = g i) : sumN n f = sumN n g := by
  induction n with
  | zero => rfl
  | succ n ih => rw [sumN, sumN, ih fun i hi => h i (by omega), h n (by omega)]
theorem sumN_add (n : Nat) (f g : Nat → Int) : sumN n (fun i => f i + g i) = sumN n f + sumN n g := by
  induction n with
  | zero => rfl
  | succ n ih => simp only [sumN, ih]; omega
theorem sumN_mul (n : Nat) (c : Int) (f : Nat → Int) : sumN n (fun i => c * f i) = c * sumN n f := by
  induction n with
  | zero => simp [sumN]
  | succ n ih => simp only [sumN, ih, Int.mul_add]
def nth (r : List Int) (i : Nat) : Int := r.getD i 0
def dotN (n : Nat) (r : List Int) (x : Nat → Int) : Int := sumN n fun i => nth r i * x i
def Null (n : Nat) (R : List (List Int)) (x : Nat → Int) : Prop := ∀ r ∈ R, dotN n r x = 0
def low (ns : List Int) : List Int := if gcdL ns = 0 then ns else ns.map (· / (gcdL ns : Int))
theorem low_length (ns : List Int) : (low ns).length = ns.length := by unfold low; split <;> simp
theorem nth_map {f : Int → Int} (h0 : f 0 = 0) (r : List Int) (i : Nat) : nth (r.map f) i = f (nth r i) := by
  unfold nth
  rw [List.getD_eq_getElem?_getD, List.getD_eq_getElem?_getD, List.getElem?_map]
  cases r[i]? with
  | none => exact h0.symm
  | some a => rfl
theorem nth_mem {r : List Int} {i : Nat} (h : i < r.length) : nth r i ∈ r := by
  unfold nth
  rw [List.getD_eq_getElem?_getD, List.getElem?_eq_getElem h]
  exact List.getElem_mem h
theorem nth_out {r : List Int} {i : Nat} (h : r.length ≤ i) : nth r i = 0 := by
  unfold nth
  rw [List.getD_eq_getElem?_getD, List.getElem?_eq_none h]
  rfl
theorem gcdL_dvd_nth (r : List Int) (i : Nat) : ((gcdL r : Nat) : Int) ∣ nth r i := by
  by_cases h : i < r.length
  · exact gcdL_dvd (nth_mem h)
  · rw [nth_out (by omega)]; exact Int.dvd_zero _
def lowBy (r : List Int) : Int := if gcdL r = 0 then 1 else (gcdL r : Int)
theorem lowBy_pos (r : List Int) : 0 < lowBy r := by unfold lowBy; split <;> omega
theorem low_nth (r : List Int) (i : Nat) : nth r i = lowBy r * nth (low r) i := by
  unfold low lowBy
  split
  · omega
  · rw [nth_map (by simp), Int.mul_ediv_cancel' (gcdL_dvd_nth r i)]
theorem gcdL_eq_zero {r : List Int} (h : gcdL r = 0) (i : Nat) : nth r i = 0 := by
  have := gcdL_dvd_nth r i
  rw [h] at this
  simpa using this
theorem low_gcd {r : List Int} {i : Nat} (h : nth r i ≠ 0) : gcdL (low r) = 1 := by
  have h0 : gcdL r ≠ 0 := fun e => h (gcdL_eq_zero e i)
  unfold low
  rw [if_neg h0]
  exact gcdL_low (Nat.pos_of_ne_zero h0)
def mixL (one : List Int) (v : Int) (other : List Int) (w : Int) : List Int := List.zipWith (fun a b => a * w - b * v) one other
def offL (one : List Int) (v : Int) (other : List Int) (w : Int) : List Int := low (mixL one v other w)
theorem mixL_length {one other : List Int} (h : one.length = other.length) (v w : Int) : (mixL one v other w).length = one.length := by
  unfold mixL; rw [List.length_zipWith, ← h, Nat.min_self]
theorem mixL_nth {one other : List Int} (h : one.length = other.length) (v w : Int) (i : Nat) : nth (mixL one v other w) i = nth one i * w - nth other i * v := by
  by_cases hi : i < one.length
  · unfold mixL nth
    simp only [List.getD_eq_getElem?_getD, List.getElem?_zipWith, List.getElem?_eq_getElem hi, List.getElem?_eq_getElem (h ▸ hi : i < other.length)]
    rfl
  · rw [nth_out (by rw [mixL_length h]; omega), nth_out (r := one) (by omega), nth_out (r := other) (by omega)]
    simp
theorem offL_length {one other : List Int} (h : one.length = other.length) (v w : Int) : (offL one v other w).length = one.length := by
  unfold offL; rw [low_length, mixL_length h]
theorem offL_nth {one other : List Int} (h : one.length = other.length) (v w : Int) : ∃ g : Int, 0 < g ∧ ∀ i, g * nth (offL one v other w) i = nth one i * w - nth other i * v := by
  refine ⟨lowBy (mixL one v other w), lowBy_pos _, fun i => ?_⟩
  unfold offL
  rw [← low_nth, mixL_nth h]
theorem dotN_lin {n : Nat} {a b c : List Int} {g u v : Int} (h : ∀ i, g * nth c i = u * nth a i + v * nth b i) (x : Nat → Int) : g * dotN n c x = u * dotN n a x + v * dotN n b x := by
  unfold dotN
  rw [← sumN_mul, ← sumN_mul, ← sumN_mul, ← sumN_add]
  refine sumN_congr fun i _ => ?_
  have := h i
  grind
theorem dotN_scale {n : Nat} {a c : List Int} {g : Int} (h : ∀ i, nth a i = g * nth c i) (x : Nat → Int) : dotN n a x = g * dotN n c x := by
  unfold dotN
  rw [← sumN_mul]
  refine sumN_congr fun i _ => ?_
  rw [h i, Int.mul_assoc]
end M
set_option maxRecDepth 100000
set_option maxHeartbeats 4000000
namespace M
def firstNN : List Int → Option Nat
  | [] => none
  | a :: r => if a ≠ 0 then some 0 else (firstNN r).map (· + 1)
theorem firstNN_none : ∀ {l : List Int}, firstNN l = none → ∀ a ∈ l, a = 0
  | [], _, _, h => by simp at h
  | b :: r, e, a, h => by
    unfold firstNN at e
    split at e
    · cases e
    · rename_i hb
      rcases List.mem_cons.mp h with rfl | h
      · simpa using hb
      · exact firstNN_none (by simpa using e) a h
theorem firstNN_some : ∀ {l : List Int} {k : Nat}, firstNN l = some k → k < l.length ∧ nth l k ≠ 0 ∧ ∀ i, i < k → nth l i = 0
  | [], _, e => by cases e
  | b :: r, k, e => by
    unfold firstNN at e
    split at e
    · rename_i hb
      cases e
      exact ⟨by simp, hb, fun i hi => by omega⟩
    · rename_i hb
      cases e2 : firstNN r with
      | none => rw [e2] at e; cases e
      | some j =>
        rw [e2] at e
        cases e
        obtain ⟨h1, h2, h3⟩ := firstNN_some e2
        refine ⟨by simp; omega, by simpa [nth] using h2, fun i hi => ?_⟩
        cases i with
        | zero => simpa [nth] using hb
        | succ i => simpa [nth] using h3 i (Nat.lt_of_succ_lt_succ hi)
def sgnL (row : List Int) (at_ : Nat) : List Int := if nth row at_ > 0 then row else row.map (- ·)
def clrL (lead : List Int) (at_ : Nat) (row : List Int) : List Int := if nth row at_ = 0 then row else offL row (nth row at_) lead (nth lead at_)
def plainStep (s : List (List Int) × List (List Int)) (at_ : Nat) : List (List Int) × List (List Int) :=
  match firstNN (s.1.map (nth · at_)) with
  | none => s
  | some k => ((s.1.eraseIdx k).map (clrL (sgnL (s.1.getD k []) at_) at_), s.2.map (clrL (sgnL (s.1.getD k []) at_) at_) ++ [sgnL (s.1.getD k []) at_])
def plainL (rows : List (List Int)) (n : Nat) : List (List Int) := ((List.range n).foldl plainStep (rows.map low, [])).2
structure Good (n : Nat) (p : Nat × List Int) : Prop where
  len : p.2.length = n
  lt : p.1 < n
  pos : 0 < nth p.2 p.1
  zero : ∀ i, i < p.1 → nth p.2 i = 0
  one : gcdL p.2 = 1
structure Pl (n : Nat) (P : List (Nat × List Int)) : Prop where
  good : ∀ p ∈ P, Good n p
  pw : P.Pairwise fun p q => p.1 < q.1 ∧ nth p.2 q.1 = 0
def Lowd (r : List Int) : Prop := ∀ i, nth r i ≠ 0 → gcdL r = 1
theorem low_lowd (r : List Int) : Lowd (low r) := fun i h => low_gcd (i := i) fun z => by
  have := low_nth r i
  rw [z] at this
  rcases Int.mul_eq_zero.mp this.symm with q | q
  · have := lowBy_pos r; omega
  · exact h q
theorem gcdL_neg (r : List Int) : gcdL (r.map (- ·)) = gcdL r := by
  unfold gcdL
  have : ∀ (l : List Int) (c : Nat), (l.map (- ·)).foldl (fun c n => Nat.gcd c n.natAbs) c = l.foldl (fun c n => Nat.gcd c n.natAbs) c := by
    intro l
    induction l with
    | nil => intro c; rfl
    | cons a l ih => intro c; simp only [List.map_cons, List.foldl_cons, Int.natAbs_neg]; exact ih _
  exact this r 0
theorem sgnL_length (row : List Int) (a : Nat) : (sgnL row a).length = row.length := by unfold sgnL; split <;> simp
theorem sgnL_nth (row : List Int) (a : Nat) : ∃ g : Int, (g = 1 ∨ g = -1) ∧ ∀ i, nth (sgnL row a) i = g * nth row i := by
  unfold sgnL
  split
  · exact ⟨1, .inl rfl, fun i => by omega⟩
  · exact ⟨-1, .inr rfl, fun i => by rw [nth_map (by simp)]; omega⟩
theorem sgnL_lowd {row : List Int} {a : Nat} (h : Lowd row) : Lowd (sgnL row a) := by
  unfold sgnL
  split
  · exact h
  · intro i hi
    rw [gcdL_neg]
    refine h i fun z => hi ?_
    rw [nth_map (by simp), z]; rfl
theorem sgnL_pos {row : List Int} {a : Nat} (h : nth row a ≠ 0) : 0 < nth (sgnL row a) a := by
  unfold sgnL
  split
  · assumption
  · rw [nth_map (by simp)]; omega
theorem dot_sgn (n : Nat) (row : List Int) (a : Nat) (x : Nat → Int) : dotN n (sgnL row a) x = 0 ↔ dotN n row x = 0 := by
  obtain ⟨g, hg, e⟩ := sgnL_nth row a
  have := dotN_scale (n := n) (a := sgnL row a) (c := row) e x
  rw [this]
  rcases hg with rfl | rfl <;> omega
section
variable {lead row : List Int} {a : Nat}
theorem clrL_length (h : row.length = lead.length) : (clrL lead a row).length = row.length := by
  unfold clrL; split
  · rfl
  · exact offL_length h _ _
theorem clrL_nth (hl : 0 < nth lead a) (h : row.length = lead.length) : ∃ g u : Int, 0 < g ∧ 0 < u ∧ ∃ v : Int, (nth row a = 0 → v = 0) ∧ ∀ i, g * nth (clrL lead a row) i = u * nth row i - v * nth lead i := by
  unfold clrL
  split
  · exact ⟨1, 1, by omega, by omega, 0, fun _ => rfl, fun i => by omega⟩
  · rename_i hz
    obtain ⟨g, hg, e⟩ := offL_nth h (nth row a) (nth lead a)
    exact ⟨g, nth lead a, hg, hl, nth row a, fun z => absurd z hz, fun i => by rw [e i]; grind⟩
theorem clrL_at (hl : 0 < nth lead a) (h : row.length = lead.length) : nth (clrL lead a row) a = 0 := by
  unfold clrL
  split
  · assumption
  · obtain ⟨g, hg, e⟩ := offL_nth h (nth row a) (nth lead a)
    have := e a
    have : g * nth (offL row (nth row a) lead (nth lead a)) a = 0 := by rw [this]; grind
    rcases Int.mul_eq_zero.mp this with z | z
    · omega
    · exact z
theorem clrL_lowd (h : Lowd row) : Lowd (clrL lead a row) := by
  unfold clrL
  split
  · exact h
  · exact low_lowd _
theorem clrL_zero (hl : 0 < nth lead a) (h : row.length = lead.length) {i : Nat} (h1 : nth row i = 0) (h2 : nth lead i = 0) : nth (clrL lead a row) i = 0 := by
  obtain ⟨g, u, hg, hu, v, _, e⟩ := clrL_nth hl h
  have := e i
  rw [h1, h2] at this
  have : g * nth (clrL lead a row) i = 0 := by rw [this]; grind
  rcases Int.mul_eq_zero.mp this with z | z
  · omega
  · exact z
theorem clrL_pos (hl : 0 < nth lead a) (h : row.length = lead.length) {i : Nat} (h1 : 0 < nth row i) (h2 : nth lead i = 0) : 0 < nth (clrL lead a row) i := by
  obtain ⟨g, u, hg, hu, v, _, e⟩ := clrL_nth hl h
  have e' := e i
  rw [h2] at e'
  have : 0 < g * nth (clrL lead a row) i := by
    rw [e']
    have := Int.mul_pos hu h1
    omega
  by_cases hn : nth (clrL lead a row) i ≤ 0
  · have := Int.mul_nonpos_of_nonneg_of_nonpos (show 0 ≤ g by omega) hn
    omega
  · omega
theorem dot_clr (n : Nat) (hl : 0 < nth lead a) (h : row.length = lead.length) {x : Nat → Int} (hx : dotN n lead x = 0) : dotN n (clrL lead a row) x = 0 ↔ dotN n row x = 0 := by
  obtain ⟨g, u, hg, hu, v, _, e⟩ := clrL_nth hl h
  have := dotN_lin (n := n) (c := clrL lead a row) (a := row) (b := lead) (g := g) (u := u) (v := -v) (fun i => by rw [e i]; grind) x
  rw [hx] at this
  constructor
  · intro z
    rw [z] at this
    have : u * dotN n row x = 0 := by omega
    rcases Int.mul_eq_zero.mp this with q | q
    · omega
    · exact q
  · intro z
    rw [z] at this
    have : g * dotN n (clrL lead a row) x = 0 := by omega
    rcases Int.mul_eq_zero.mp this with q | q
    · omega
    · exact q
end
structure PSt (n a : Nat) (left : List (List Int)) (P : List (Nat × List Int)) : Prop where
  ll : ∀ r ∈ left, r.length = n
  lz : ∀ r ∈ left, ∀ i, i < a → nth r i = 0
  lw : ∀ r ∈ left, Lowd r
  pl : Pl n P
  pa : ∀ p ∈ P, p.1 < a
theorem nth_map_col (left : List (List Int)) (a k : Nat) : nth (left.map (nth · a)) k = nth (left.getD k []) a := by
  unfold nth
  simp only [List.getD_eq_getElem?_getD, List.getElem?_map]
  cases left[k]? with
  | none => rfl
  | some r => rfl
theorem getD_mem {left : List (List Int)} {k : Nat} (h : k < left.length) : left.getD k [] ∈ left := by
  rw [List.getD_eq_getElem?_getD, List.getElem?_eq_getElem h]
  exact List.getElem_mem h
theorem perm_erase : ∀ {l : List (List Int)} {k : Nat} (h : k < l.length), l.Perm (l[k] :: l.eraseIdx k)
  | [], k, h => by simp at h
  | a :: l, 0, h => by simp
  | a :: l, k + 1, h => by
    have := perm_erase (l := l) (k := k) (by simpa using h)
    simp only [List.getElem_cons_succ, List.eraseIdx_cons_succ]
    exact (this.cons a).trans (List.Perm.swap _ _ _)
theorem step_ok {n a : Nat} (ha : a < n) {left : List (List Int)} {P : List (Nat × List Int)} (h : PSt n a left P) :
    ∃ left' P', plainStep (left, P.map (·.2)) a = (left', P'.map (·.2)) ∧ PSt n (a + 1) left' P' ∧ left'.length + P'.length = left.length + P.length ∧ ∀ x, Null n (P'.map (·.2) ++ left') x ↔ Null n (P.map (·.2) ++ left) x := by
  unfold plainStep
  dsimp only
  split
  · rename_i e
    refine ⟨left, P, rfl, ⟨h.ll, fun r hr i hi => ?_, h.lw, h.pl, fun p hp => Nat.lt_succ_of_lt (h.pa p hp)⟩, rfl, fun x => Iff.rfl⟩
    by_cases hia : i = a
    · subst hia
      exact firstNN_none e _ (List.mem_map.mpr ⟨r, hr, rfl⟩)
    · exact h.lz r hr i (by omega)
  · rename_i k e
    obtain ⟨k1, k2, _⟩ := firstNN_some e
    rw [List.length_map] at k1
    rw [nth_map_col] at k2
    have hm : left.getD k [] ∈ left := getD_mem k1
    have hperm : left.Perm (left.getD k [] :: left.eraseIdx k) := by
      rw [List.getD_eq_getElem?_getD, List.getElem?_eq_getElem k1]
      exact perm_erase k1
    generalize left.getD k [] = row at *
    generalize hld : sgnL row a = lead at *
    have ll : lead.length = n := by rw [← hld, sgnL_length]; exact h.ll row hm
    have lp : 0 < nth lead a := by rw [← hld]; exact sgnL_pos k2
    have lz : ∀ i, i < a → nth lead i = 0 := fun i hi => by
      obtain ⟨g, _, e⟩ := sgnL_nth row a
      rw [← hld, e, h.lz row hm i hi]; omega
    have lw : Lowd lead := by rw [← hld]; exact sgnL_lowd (h.lw row hm)
    have sub : ∀ r ∈ left.eraseIdx k, r ∈ left := fun r hr => List.mem_of_mem_eraseIdx hr
    refine ⟨(left.eraseIdx k).map (clrL lead a), P.map (fun p => (p.1, clrL lead a p.2)) ++ [(a, lead)], ?_, ⟨?_, ?_, ?_, ⟨?_, ?_⟩, ?_⟩, ?_, ?_⟩
    · simp [Function.comp_def]
    · intro r hr
      obtain ⟨q, hq, rfl⟩ := List.mem_map.mp hr
      rw [clrL_length (by rw [ll, h.ll q (sub q hq)]), h.ll q (sub q hq)]
    · intro r hr i hi
      obtain ⟨q, hq, rfl⟩ := List.mem_map.mp hr
      have hql : q.length = lead.length := by rw [ll, h.ll q (sub q hq)]
      by_cases hia : i = a
      · subst hia; exact clrL_at lp hql
      · exact clrL_zero lp hql (h.lz q (sub q hq) i (by omega)) (lz i (by omega))
    · intro r hr
      obtain ⟨q, hq, rfl⟩ := List.mem_map.mp hr
      exact clrL_lowd (h.lw q (sub q hq))
    · intro p hp
      rcases List.mem_append.mp hp with hp | hp
      · obtain ⟨q, hq, rfl⟩ := List.mem_map.mp hp
        have g := h.pl.good q hq
        have hql : q.2.length = lead.length := by rw [ll, g.len]
        have pp := clrL_pos lp hql g.pos (lz q.1 (h.pa q hq))
        exact ⟨by rw [clrL_length hql]; exact g.len, g.lt, pp, fun i hi => clrL_zero lp hql (g.zero i hi) (lz i (Nat.lt_trans hi (h.pa q hq))), clrL_lowd (fun i _ => g.one) q.1 (by omega)⟩
      · rw [List.mem_singleton.mp hp]
        exact ⟨ll, ha, lp, lz, lw a (by omega)⟩
    · rw [List.pairwise_append]
      refine ⟨?_, by simp, fun p hp q hq => ?_⟩
      · rw [List.pairwise_map]
        refine List.Pairwise.imp_of_mem (fun {p q} hp hq hpq => ?_) h.pl.pw
        refine ⟨hpq.1, ?_⟩
        have g := h.pl.good p hp
        exact clrL_zero lp (by rw [ll, g.len]) hpq.2 (lz q.1 (h.pa q hq))
      · obtain ⟨p', hp', rfl⟩ := List.mem_map.mp hp
        rw [List.mem_singleton.mp hq]
        exact ⟨h.pa p' hp', clrL_at lp (by rw [ll, (h.pl.good p' hp').len])⟩
    · intro p hp
      rcases List.mem_append.mp hp with hp | hp
      · obtain ⟨q, hq, rfl⟩ := List.mem_map.mp hp
        exact Nat.lt_succ_of_lt (h.pa q hq)
      · rw [List.mem_singleton.mp hp]; exact Nat.lt_succ_self a
    · have := hperm.length_eq
      simp only [List.length_map, List.length_append, List.length_cons, List.length_nil] at *
      omega
    · intro x
      have hlead : dotN n lead x = 0 ↔ dotN n row x = 0 := by rw [← hld]; exact dot_sgn n row a x
      constructor
      · intro hx r hr
        have h0 : dotN n lead x = 0 := hx lead (by simp)
        rcases List.mem_append.mp hr with hr | hr
        · obtain ⟨p, hp, rfl⟩ := List.mem_map.mp hr
          exact (dot_clr n lp (by rw [ll, (h.pl.good p hp).len]) h0).mp (hx _ (List.mem_append_left _ (List.mem_map.mpr ⟨(p.1, clrL lead a p.2), by simp; exact .inl ⟨p.1, p.2, hp, rfl, rfl⟩, rfl⟩)))
        · rcases List.mem_cons.mp (hperm.mem_iff.mp hr) with rfl | hr
          · exact hlead.mp h0
          · exact (dot_clr n lp (by rw [ll, h.ll r (sub r hr)]) h0).mp (hx _ (List.mem_append_right _ (List.mem_map.mpr ⟨r, hr, rfl⟩)))
      · intro hx r hr
        have h0 : dotN n lead x = 0 := hlead.mpr (hx row (List.mem_append_right _ hm))
        rcases List.mem_append.mp hr with hr | hr
        · obtain ⟨q, hq, rfl⟩ := List.mem_map.mp hr
          rcases List.mem_append.mp hq with hq | hq
          · obtain ⟨p, hp, rfl⟩ := List.mem_map.mp hq
            exact (dot_clr n lp (by rw [ll, (h.pl.good p hp).len]) h0).mpr (hx _ (List.mem_append_left _ (List.mem_map.mpr ⟨p, hp, rfl⟩)))
          · rw [List.mem_singleton.mp hq]; exact h0
        · obtain ⟨q, hq, rfl⟩ := List.mem_map.mp hr
          exact (dot_clr n lp (by rw [ll, h.ll q (sub q hq)]) h0).mpr (hx _ (List.mem_append_right _ (sub q hq)))
theorem steps_ok {n : Nat} {left : List (List Int)} (hl : ∀ r ∈ left, r.length = n) (hw : ∀ r ∈ left, Lowd r) : ∀ a, a ≤ n →
    ∃ left' P', (List.range a).foldl plainStep (left, []) = (left', P'.map (·.2)) ∧ PSt n a left' P' ∧ left'.length + P'.length = left.length ∧ ∀ x, Null n (P'.map (·.2) ++ left') x ↔ Null n left x
  | 0, _ => ⟨left, [], rfl, ⟨hl, fun _ _ i hi => by omega, hw, ⟨by simp, by simp⟩, by simp⟩, by simp, fun x => by simp⟩
  | a + 1, ha => by
    obtain ⟨l1, P1, e1, s1, c1, n1⟩ := steps_ok hl hw a (by omega)
    obtain ⟨l2, P2, e2, s2, c2, n2⟩ := step_ok (by omega) s1
    refine ⟨l2, P2, ?_, s2, by omega, fun x => (n2 x).trans (n1 x)⟩
    rw [List.range_succ, List.foldl_append, e1]
    exact e2
end M
set_option maxRecDepth 100000
set_option maxHeartbeats 4000000
namespace M
def dotF (n : Nat) (f g : Nat → Int) : Int := sumN n fun i => f i * g i
def combN (T : List Int) (R : List (List Int)) (i : Nat) : Int := sumN R.length fun j => nth T j * nth (R.getD j []) i
def Spanned (n : Nat) (R : List (List Int)) (x : Nat → Int) : Prop := ∃ k : Int, k ≠ 0 ∧ ∃ T : List Int, T.length = R.length ∧ ∀ i, i < n → k * x i = combN T R i
def unitL (n a : Nat) : List Int := (List.replicate n 0).set a 1
def unitsL (n : Nat) : List (List Int) := (List.range n).map (unitL n)
def dotL (a b : List Int) : Int := (List.zipWith (· * ·) a b).sum
def stillStep (lists : List (List Int)) (row : List Int) : List (List Int) :=
  match firstNN (lists.map (dotL row)) with
  | none => lists
  | some k => (lists.eraseIdx k).map fun one => offL one (dotL row one) (lists.getD k []) (dotL row (lists.getD k []))
structure SSt (n : Nat) (R lists : List (List Int)) : Prop where
  len : ∀ l ∈ lists, l.length = n
  nul : ∀ r ∈ R, ∀ l ∈ lists, dotF n (nth r) (nth l) = 0
  spn : ∀ x, Null n lists x → Spanned n R x
end M
set_option maxRecDepth 100000
set_option maxHeartbeats 4000000
namespace M
theorem Pl.other {n : Nat} {P : List (Nat × List Int)} (pl : Pl n P) : ∀ {p q : Nat × List Int}, p ∈ P → q ∈ P → p.1 ≠ q.1 → nth p.2 q.1 = 0 := by
  intro p q hp hq hne
  by_cases h : q.1 < p.1
  · exact (pl.good p hp).zero _ h
  · have : ∀ {P : List (Nat × List Int)}, P.Pairwise (fun p q => p.1 < q.1 ∧ nth p.2 q.1 = 0) → p ∈ P → q ∈ P → p.1 < q.1 → nth p.2 q.1 = 0 := by
      intro P pw hp hq hlt
      induction P with
      | nil => cases hp
      | cons r P ih =>
        have h0 := List.pairwise_cons.mp pw
        rcases List.mem_cons.mp hp with rfl | hp
        · rcases List.mem_cons.mp hq with rfl | hq
          · omega
          · exact (h0.1 q hq).2
        · rcases List.mem_cons.mp hq with rfl | hq
          · have := (h0.1 p (by assumption)).1; omega
          · exact ih h0.2 hp hq
    exact this pl.pw hp hq (by omega)
end M
set_option maxRecDepth 100000
set_option maxHeartbeats 4000000
namespace M
def SzL (b : Nat) (r : List Int) : Prop := ∀ x ∈ r, Sz b x
def SzLL (b : Nat) (R : List (List Int)) : Prop := ∀ r ∈ R, SzL b r
theorem SzL.mono {b c : Nat} {r : List Int} (h : SzL b r) (hbc : b ≤ c) : SzL c r := fun x hx => (h x hx).mono hbc
theorem SzLL.mono {b c : Nat} {r : List (List Int)} (h : SzLL b r) (hbc : b ≤ c) : SzLL c r := fun x hx => (h x hx).mono hbc
theorem Sz.zero (b : Nat) : Sz b 0 := by unfold Sz; simp; exact Nat.two_pow_pos b
theorem SzL.nth {b : Nat} {r : List Int} (h : SzL b r) (i : Nat) : Sz b (M.nth r i) := by
  by_cases hi : i < r.length
  · exact h _ (nth_mem hi)
  · rw [nth_out (by omega)]; exact Sz.zero b
theorem SzL.low {b : Nat} {r : List Int} (h : SzL b r) : SzL b (M.low r) := by
  intro x hx
  unfold M.low at hx
  split at hx
  · exact h x hx
  · obtain ⟨y, hy, rfl⟩ := List.mem_map.mp hx
    exact Nat.lt_of_le_of_lt (Int.natAbs_ediv_le_natAbs y _) (h y hy)
theorem SzL.mix {b1 b2 bv bw : Nat} {one other : List Int} {v w : Int} (h1 : SzL b1 one) (h2 : SzL b2 other) (hv : Sz bv v) (hw : Sz bw w) : SzL (max (b1 + bw) (b2 + bv) + 1) (mixL one v other w) := by
  intro x hx
  unfold mixL at hx
  obtain ⟨i, hi, e⟩ := List.getElem_of_mem hx
  rw [List.getElem_zipWith] at e
  subst e
  exact Sz.sub (Sz.mul (h1 _ (List.getElem_mem _)) hw) (Sz.mul (h2 _ (List.getElem_mem _)) hv)
theorem SzL.off {b1 b2 bv bw : Nat} {one other : List Int} {v w : Int} (h1 : SzL b1 one) (h2 : SzL b2 other) (hv : Sz bv v) (hw : Sz bw w) : SzL (max (b1 + bw) (b2 + bv) + 1) (offL one v other w) := (SzL.mix h1 h2 hv hw).low
theorem SzL.sgn {b : Nat} {r : List Int} (h : SzL b r) (a : Nat) : SzL b (sgnL r a) := by
  unfold sgnL
  split
  · exact h
  · intro x hx
    obtain ⟨y, hy, rfl⟩ := List.mem_map.mp hx
    exact (h y hy).neg
theorem SzL.clr {b : Nat} {row lead : List Int} (h1 : SzL b row) (h2 : SzL b lead) (a : Nat) : SzL (2 * b + 1) (clrL lead a row) := by
  unfold clrL
  split
  · exact h1.mono (by omega)
  · exact (SzL.off h1 h2 (h1.nth a) (h2.nth a)).mono (by omega)
theorem plainStep_sz {b a : Nat} {left done : List (List Int)} (h1 : SzLL b left) (h2 : SzLL b done) : SzLL (2 * b + 1) (plainStep (left, done) a).1 ∧ SzLL (2 * b + 1) (plainStep (left, done) a).2 := by
  unfold plainStep
  dsimp only
  split
  · exact ⟨h1.mono (by omega), h2.mono (by omega)⟩
  · rename_i k e
    have k1 := (firstNN_some e).1
    rw [List.length_map] at k1
    have hl : SzL b (sgnL (left.getD k []) a) := SzL.sgn (h1 _ (getD_mem k1)) a
    refine ⟨fun r hr => ?_, fun r hr => ?_⟩
    · obtain ⟨q, hq, rfl⟩ := List.mem_map.mp hr
      exact SzL.clr (h1 q (List.mem_of_mem_eraseIdx hq)) hl a
    · rcases List.mem_append.mp hr with hr | hr
      · obtain ⟨q, hq, rfl⟩ := List.mem_map.mp hr
        exact SzL.clr (h2 q hq) hl a
      · rw [List.mem_singleton.mp hr]; exact hl.mono (by omega)
def grow (b p : Nat) : Nat := 2 ^ p * (b + 1) - 1
theorem grow_zero (b : Nat) : grow b 0 = b := by unfold grow; simp
theorem grow_succ (b p : Nat) : 2 * grow b p + 1 = grow b (p + 1) := by
  unfold grow
  have h : 0 < 2 ^ p * (b + 1) := Nat.mul_pos (Nat.two_pow_pos p) (Nat.succ_pos b)
  have e : 2 ^ (p + 1) * (b + 1) = 2 * (2 ^ p * (b + 1)) := by rw [Nat.pow_succ, Nat.mul_comm (2 ^ p) 2, Nat.mul_assoc]
  rw [e]
  omega
theorem plainStep_len {a : Nat} {left done : List (List Int)} : ((plainStep (left, done) a) = (left, done)) ∨ (plainStep (left, done) a).2.length = done.length + 1 := by
  unfold plainStep
  dsimp only
  split
  · exact .inl rfl
  · exact .inr (by simp)
structure PSz (n b a : Nat) (rows : List (List Int)) (left done : List (List Int)) : Prop where
  eq : (List.range a).foldl plainStep (rows.map low, []) = (left, done)
  ll : ∀ r ∈ left, r.length = n
  dl : ∀ r ∈ done, r.length = n
  cnt : left.length + done.length = rows.length
  ls : SzLL (grow b done.length) left
  ds : SzLL (grow b done.length) done
theorem PSz.start {n b : Nat} {rows : List (List Int)} (hl : ∀ r ∈ rows, r.length = n) (hs : SzLL b rows) : PSz n b 0 rows (rows.map low) [] := by
  refine ⟨rfl, fun r hr => ?_, by simp, by simp, fun r hr => ?_, fun r hr => by cases hr⟩
  · obtain ⟨q, hq, rfl⟩ := List.mem_map.mp hr
    rw [low_length]; exact hl q hq
  · obtain ⟨q, hq, rfl⟩ := List.mem_map.mp hr
    rw [List.length_nil, grow_zero]
    exact (hs q hq).low
theorem PSz.step {n b a : Nat} {rows left done : List (List Int)} (h : PSz n b a rows left done) (hl : ∀ r ∈ rows, r.length = n) (ha : a < n) : PSz n b (a + 1) rows (plainStep (left, done) a).1 (plainStep (left, done) a).2 := by
  have eq' : (List.range (a + 1)).foldl plainStep (rows.map low, []) = plainStep (left, done) a := by
    rw [List.range_succ, List.foldl_append, h.eq]; rfl
  obtain ⟨l', P', e, s, c, _⟩ := steps_ok (n := n) (left := rows.map low) (fun r hr => by
    obtain ⟨q, hq, rfl⟩ := List.mem_map.mp hr
    rw [low_length]; exact hl q hq) (fun r hr => by
    obtain ⟨q, hq, rfl⟩ := List.mem_map.mp hr
    exact low_lowd q) (a + 1) (by omega)
  rw [eq'] at e
  refine ⟨eq', fun r hr => ?_, fun r hr => ?_, ?_, ?_, ?_⟩
  · rw [e] at hr; exact s.ll r hr
  · rw [e] at hr
    obtain ⟨p, hp, rfl⟩ := List.mem_map.mp hr
    exact (s.pl.good p hp).len
  · rw [e]; simp; simpa using c
  · rcases plainStep_len (a := a) (left := left) (done := done) with q | q
    · rw [q]; exact h.ls
    · rw [q, ← grow_succ]; exact (plainStep_sz h.ls h.ds).1
  · rcases plainStep_len (a := a) (left := left) (done := done) with q | q
    · rw [q]; exact h.ds
    · rw [q, ← grow_succ]; exact (plainStep_sz h.ls h.ds).2
theorem PSz.done {n b : Nat} {rows left done : List (List Int)} (h : PSz n b n rows left done) : plainL rows n = done := by unfold plainL; rw [h.eq]
end M
set_option maxRecDepth 100000
set_option maxHeartbeats 4000000
namespace M
open PySem PySem.Spec PyProof.Rows L2
section
variable {s s1 : S} {d : D}
@[simp] theorem zipI_ev (m : AM) (s : S) : zipI m s = (m s).bind fun x => match x.1 with
  | [.lst as, .lst bs] => .ok ((zipD as bs, none), x.2)
  | _ => .bad := rfl
@[simp] theorem enumerateI_ev (m : AM) (s : S) : enumerateI m s = (m s).bind fun x => match x.1 with
  | [.lst as] => .ok ((enumD as, none), x.2)
  | _ => .bad := rfl
@[simp] theorem strI_ev (m : EM) (s : S) : strI m s = (m s).bind fun x => match x.1 with
  | .str z => .ok ((signsD z, none), x.2)
  | _ => .bad := rfl
@[simp] theorem chainM_ev (f g : Op2) (a b c : EM) (s : S) : chainM f g a b c s = (a s).bind fun x => (b x.2).bind fun y => (f y.2.o x.1 y.1).bind fun z => match z with
  | .bl true => (c y.2).bind fun w => (g w.2.o y.1 w.1).bind fun d => .ok (d, w.2)
  | .bl false => .ok (.bl false, y.2)
  | _ => .bad := rfl
@[simp] theorem callS_ev (n : Nat) (f : FM) (m : AM) (s : S) : callS n f m s = (m s).bind fun x => if x.1.length = n then (match f x.1 x.2.o with
  | .ok (d, O1) => .ok (d, ⟨x.2.r, O1⟩)
  | _ => .bad) else .bad := rfl
@[simp] theorem truM_ev (m : EM) (s : S) : truM m s = (m s).bind fun x => match lsD x.2.o x.1 with
  | some ds => .ok (!ds.isEmpty, x.2)
  | none => .bad := rfl
@[simp] theorem repM_ev (fin : S → List D → Res (D × S)) (ma : AM) (mk : EM) (s : S) : repM fin ma mk s = (ma s).bind fun x => if x.1.length ≤ 16777216 then (mk x.2).bind fun y => match y.1 with
    | .int k => if (-(2 ^ 63) ≤ k ∧ k < 2 ^ 63) ∧ x.1.length * k.toNat ≤ 16777216 then fin y.2 (repL k x.1) else .bad
    | _ => .bad
  else .bad := rfl
@[simp] theorem finF_ev (s : S) (ds : List D) : finF s ds = .ok (.lst ds, s) := rfl
@[simp] theorem finC_ev (s : S) (ds : List D) : finC s ds = .ok (.ptr s.o.length, ⟨s.r, s.o ++ [.lst ds]⟩) := rfl
@[simp] theorem isD_non (O : Store) : isD O .non .non = .ok (.bl true) := rfl
@[simp] theorem isD_int (O : Store) (i : Int) : isD O (.int i) .non = .ok (.bl false) := rfl
@[simp] theorem isD_lst (O : Store) (i : List D) : isD O (.lst i) .non = .ok (.bl false) := rfl
@[simp] theorem isD_tup (O : Store) (i : List D) : isD O (.tup i) .non = .ok (.bl false) := rfl
@[simp] theorem isnotD_non (O : Store) : isnotD O .non .non = .ok (.bl false) := rfl
@[simp] theorem isnotD_int (O : Store) (i : Int) : isnotD O (.int i) .non = .ok (.bl true) := rfl
@[simp] theorem isnotD_lst (O : Store) (i : List D) : isnotD O (.lst i) .non = .ok (.bl true) := rfl
@[simp] theorem isnotD_tup (O : Store) (i : List D) : isnotD O (.tup i) .non = .ok (.bl true) := rfl
@[simp] theorem tupG2_ev (g h : GM) (a b : D) (s : S) : tupG (consG g (consG h nilG)) 2 (.tup [a, b]) s = (g a s).bind fun s1 => h b s1 := by
  show (g a s).bind (fun s1 => (h b s1).bind fun s2 => .ok s2) = _
  congr 1
  funext s1
  cases h b s1 <;> rfl
@[simp] theorem asInts_ints (ns : List Int) : asInts (ns.map D.int) = some ns := by
  induction ns with
  | nil => rfl
  | cons n ns ih => rw [List.map_cons, asInts, ih]; rfl
@[simp] theorem asBools_bls (ns : List Bool) : asBools (ns.map D.bl) = some ns := by
  induction ns with
  | nil => rfl
  | cons n ns ih => rw [List.map_cons, asBools, ih]; rfl
@[simp] theorem sumD_ints (O : Store) (ns : List Int) : sumD O [.lst (ns.map D.int)] = .ok (.int ns.sum) := by
  show (match asInts (ns.map D.int) with
      | some ns => Res.ok (D.int ns.sum)
      | none => .bad) = _
  rw [asInts_ints]
@[simp] theorem allD_bls (O : Store) (ns : List Bool) : allD O [.lst (ns.map D.bl)] = .ok (.bl (ns.all id)) := by
  show (match asBools (ns.map D.bl) with
      | some ns => Res.ok (D.bl (ns.all id))
      | none => .bad) = _
  rw [asBools_bls]
@[simp] theorem anyD_bls (O : Store) (ns : List Bool) : anyD O [.lst (ns.map D.bl)] = .ok (.bl (ns.any id)) := by
  show (match asBools (ns.map D.bl) with
      | some ns => Res.ok (D.bl (ns.any id))
      | none => .bad) = _
  rw [asBools_bls]
end
theorem compGo_pure {α : Type} {ok : Store → Prop} {g : GM} {c : TM} {e : EM} {O : Store} (hok : ok O) (item : α → D) (P : S → Prop) (hP : ∀ s, P s → s.o = O) (l : List α) (p : α → Bool) (out : α → D)
    (step : ∀ a ∈ l, ∀ s, P s → ∃ s1 s2, g (item a) s = .ok s1 ∧ c s1 = .ok (p a, s2) ∧ (p a = false → P s2) ∧ (p a = true → ∃ s3, e s2 = .ok (out a, s3) ∧ P s3)) :
    ∀ (acc : List D) (s : S), acc.length + l.length ≤ 16777216 → P s → ∃ s', compGo ok g c e (l.map item) acc s = .ok (acc ++ (l.filter p).map out, s') ∧ P s' := by
  induction l with
  | nil =>
    intro acc s _ h
    exact ⟨s, by rw [List.map_nil, compGo, if_pos (by rw [hP s h]; exact hok)]; simp, h⟩
  | cons a l ih =>
    intro acc s hl h
    rw [List.length_cons] at hl
    obtain ⟨s1, s2, e1, e2, h2, h3⟩ := step a List.mem_cons_self s h
    rw [List.map_cons, compGo, if_pos ⟨by rw [hP s h]; exact hok, by omega⟩, e1, bind_ok, e2, bind_ok]
    cases hp : p a with
    | false =>
      obtain ⟨s', e3, h4⟩ := ih (fun b hb => step b (List.mem_cons_of_mem _ hb)) acc s2 (by omega) (h2 hp)
      refine ⟨s', ?_, h4⟩
      rw [List.filter_cons_of_neg (by simp [hp])]
      simpa using e3
    | true =>
      obtain ⟨s3, e3, h4⟩ := h3 hp
      obtain ⟨s', e5, h5⟩ := ih (fun b hb => step b (List.mem_cons_of_mem _ hb)) (acc ++ [out a]) s3 (by rw [List.length_append, List.length_singleton]; omega) h4
      refine ⟨s', ?_, h5⟩
      rw [List.filter_cons_of_pos hp]
      simp only [if_true, e3, bind_ok, e5]
      simp
section
variable {α : Type} {caps : List Nat} {im : IM} {c : TM} {e : EM} {s : S} {k : Option Nat} {l : List α} {item out : α → D} {p : α → Bool}
theorem compM2 {f g : α → D} (him : im s = .ok ((l.map (fun a => D.tup [f a, g a]), k), s)) (hok : okC (l.map (fun a => D.tup [f a, g a])) k s.o) (hl : l.length ≤ 16777216)
    (hc : ∀ a ∈ l, c ⟨some (f a) :: some (g a) :: caps.map (fun i => (s.r[i]?).getD none), s.o⟩ = .ok (p a, ⟨some (f a) :: some (g a) :: caps.map (fun i => (s.r[i]?).getD none), s.o⟩))
    (he : ∀ a ∈ l, p a = true → e ⟨some (f a) :: some (g a) :: caps.map (fun i => (s.r[i]?).getD none), s.o⟩ = .ok (out a, ⟨some (f a) :: some (g a) :: caps.map (fun i => (s.r[i]?).getD none), s.o⟩)) :
    compM 2 caps im (tupG (consG (nameG 0) (consG (nameG 1) nilG)) 2) c e s = .ok ((l.filter p).map out, s) := by
  obtain ⟨s', e1, x, y, h1⟩ := compGo_pure (ok := okC (l.map (fun a => D.tup [f a, g a])) k) (g := tupG (consG (nameG 0) (consG (nameG 1) nilG)) 2) (c := c) (e := e) (O := s.o) hok (fun a => D.tup [f a, g a]) (fun s2 => ∃ x y, s2 = ⟨x :: y :: caps.map (fun i => (s.r[i]?).getD none), s.o⟩) (by rintro _ ⟨_, _, rfl⟩; rfl) l p out (by
    rintro a ha _ ⟨x, y, rfl⟩
    exact ⟨_, _, by simp, hc a ha, fun _ => ⟨_, _, rfl⟩, fun hp => ⟨_, he a ha hp, _, _, rfl⟩⟩) [] ⟨capM 2 caps s.r, s.o⟩ (by simpa using hl) ⟨none, none, rfl⟩
  rw [compM_ev, him, bind_ok]
  dsimp only
  rw [e1, bind_ok]
  subst h1
  rfl
theorem compF2c {f g : α → D} (him : im s = .ok ((l.map (fun a => D.tup [f a, g a]), k), s)) (hok : okC (l.map (fun a => D.tup [f a, g a])) k s.o) (hl : l.length ≤ 16777216)
    (hc : ∀ a ∈ l, c ⟨some (f a) :: some (g a) :: caps.map (fun i => (s.r[i]?).getD none), s.o⟩ = .ok (p a, ⟨some (f a) :: some (g a) :: caps.map (fun i => (s.r[i]?).getD none), s.o⟩))
    (he : ∀ a ∈ l, p a = true → e ⟨some (f a) :: some (g a) :: caps.map (fun i => (s.r[i]?).getD none), s.o⟩ = .ok (out a, ⟨some (f a) :: some (g a) :: caps.map (fun i => (s.r[i]?).getD none), s.o⟩)) :
    compF 2 caps im (tupG (consG (nameG 0) (consG (nameG 1) nilG)) 2) c e s = .ok (.lst ((l.filter p).map out), s) := by
  rw [compF_ev, compM2 him hok hl hc he, bind_ok]
end
abbrev vI (r : List Int) : D := .lst (r.map .int)
@[simp] theorem pureDs_vI (R : List (List Int)) : pureDs (R.map vI) = true := by
  induction R with
  | nil => rfl
  | cons r R ih => simp [ih]
theorem ix_vI {O : Store} {r : List Int} {i : Nat} (h : i < r.length) : ixD O (vI r) (.int (i : Int)) = .ok (.int (nth r i)) := by
  refine ixD_lst ?_
  rw [atI_ok (by omega) (by simpa using h)]
  simp [nth, List.getD_eq_getElem?_getD, h]
theorem rangeD0 (n : Nat) : rangeD 0 (n : Int) = (List.range n).map fun i => .int (i : Int) := by
  unfold rangeD
  simp
theorem le_line {n : Nat} (h : n ≤ 1000000) : n ≤ 16777216 := Nat.le_trans h (by decide)
theorem setM_eq {m : EM} {i : Nat} {s s' : S} {d : D} (h : m s = .ok (d, s')) : setM i m s = .next ⟨s'.r.set i (some d), s'.o⟩ := by
  show ((m s).bind _).out _ = _
  rw [h]; rfl
theorem retM_eq {m : EM} {s s' : S} {d : D} (h : m s = .ok (d, s')) : retM m s = .ret d s' := by
  show (m s).out _ = _
  rw [h]; rfl
theorem ifS_T {c : TM} {a b : SM} {s s' : S} (h : c s = .ok (true, s')) : ifS c a b s = a s' := by
  show (c s).out _ = _
  rw [h]; rfl
theorem ifS_F {c : TM} {a b : SM} {s s' : S} (h : c s = .ok (false, s')) : ifS c a b s = b s' := by
  show (c s).out _ = _
  rw [h]; rfl
theorem seqM_eq {a b : SM} {s s' : S} (h : a s = .next s') : seqM a b s = b s' := by
  show (a s).then b = _
  rw [h]; rfl
theorem seqM_ret {a b : SM} {s s' : S} {d : D} (h : a s = .ret d s') : seqM a b s = .ret d s' := by
  show (a s).then b = _
  rw [h]; rfl
theorem callP_eq {n : Nat} {f : FM} {ma : AM} {s s' : S} {ds : List D} {d : D} {O : Store} (h : ma s = .ok (ds, s')) (hp : pureDs ds = true) (hl : ds.length = n) (hf : f ds [] = .ok (d, O)) (hd : pureD d = true) : callP n f ma s = .ok (d, s') := by
  rw [callP_ev, h, bind_ok, if_pos ⟨hp, hl⟩]
  dsimp only
  rw [hf]
  dsimp only
  rw [if_pos hd]
theorem appM_eq {mo me : EM} {s s1 s2 : S} {k : Nat} {ds0 ds : List D} {d : D} (h1 : mo s = .ok (.ptr k, s1)) (c1 : s1.o[k]? = some (.lst ds0)) (h2 : me s1 = .ok (d, s2)) (c2 : s2.o[k]? = some (.lst ds)) (hb : ds.length ≤ 1000000) :
    appM mo me s = .ok (.non, ⟨s2.r, s2.o.set k (.lst (ds ++ [d]))⟩) := by
  rw [appM_ev, h1, bind_ok]
  dsimp only
  rw [celD_ptr c1]
  dsimp only
  rw [h2, bind_ok]
  dsimp only
  rw [celD_ptr c2]
  dsimp only
  rw [if_pos (by omega)]
theorem dropM_eq {m : EM} {s s' : S} {d : D} (h : m s = .ok (d, s')) : dropM m s = .next s' := by
  show (m s).out _ = _
  rw [h]; rfl
theorem frzM_eq {m : EM} {s s' : S} {k : Nat} {ds : List D} (h : m s = .ok (.ptr k, s')) (c : s'.o[k]? = some (.lst ds)) : frzM m s = .ok (.lst ds, ⟨s'.r, s'.o.set k .dead⟩) := by
  rw [frzM_ev, h, bind_ok]
  dsimp only
  rw [celD_ptr c]
theorem get_set_ne {O : Store} {k j : Nat} {c : Cell} (h : k ≠ j) : (O.set k c)[j]? = O[j]? := List.getElem?_set_ne h
theorem get_lt {O : Store} {k : Nat} {c : Cell} (h : O[k]? = some c) : k < O.length := (List.getElem?_eq_some_iff.mp h).1
theorem sum_sz {b : Nat} : ∀ (l : List Int) (k : Nat), (∀ x ∈ l, x.natAbs < 2 ^ b) → l.length ≤ 2 ^ k → l.sum.natAbs ≤ l.length * 2 ^ b := by
  intro l k h _
  induction l with
  | nil => simp
  | cons a l ih =>
    rw [List.sum_cons, List.length_cons, Nat.succ_mul]
    have h1 := h a List.mem_cons_self
    have h2 := ih (fun x hx => h x (List.mem_cons_of_mem _ hx)) (by simp at *; omega)
    have := Int.natAbs_add_le a l.sum
    omega
theorem dot_sz {b c : Nat} {row l : List Int} (hr : SzL c row) (hl : SzL b l) (hn : row.length ≤ 1000) : Sz (b + c + 10) (dotL row l) := by
  unfold dotL
  have h : ∀ x ∈ List.zipWith (· * ·) row l, x.natAbs < 2 ^ (c + b) := fun x hx => by
    obtain ⟨i, hi, e⟩ := List.getElem_of_mem hx
    rw [List.getElem_zipWith] at e
    subst e
    exact Sz.mul (hr _ (List.getElem_mem _)) (hl _ (List.getElem_mem _))
  have h2 := sum_sz (List.zipWith (· * ·) row l) 10 h (by rw [List.length_zipWith]; simp; omega)
  unfold Sz
  have h3 : (List.zipWith (· * ·) row l).length ≤ 1000 := by rw [List.length_zipWith]; omega
  have h4 : (List.zipWith (· * ·) row l).length * 2 ^ (c + b) ≤ 1000 * 2 ^ (c + b) := Nat.mul_le_mul_right _ h3
  have h5 : 2 ^ (b + c + 10) = 1024 * 2 ^ (c + b) := by rw [Nat.pow_add, Nat.add_comm b c, Nat.mul_comm]
  have h6 : 0 < 2 ^ (c + b) := Nat.two_pow_pos _
  rw [h5]
  omega
theorem atI_nat' {α : Type} {l : List α} {i : Nat} (h : i < l.length) : atI l (i : Int) = some l[i] := by
  rw [atI_ok (by omega) (by omega)]
  simp
theorem gt_test {m : EM} {s s' : S} {i j : Int} (h : m s = .ok (.int i, s')) : tstM (binM gtD m (cstM (.int j))) s = .ok (decide (j < i), s') := by
  rw [tstM_ev, binM_ev, h, bind_ok, cstM_ev, bind_ok, gtD_int, bind_ok, bind_ok]
theorem eq_test {m : EM} {s s' : S} {i j : Int} (h : m s = .ok (.int i, s')) : tstM (binM eqD m (cstM (.int j))) s = .ok (decide (i = j), s') := by
  rw [tstM_ev, binM_ev, h, bind_ok, cstM_ev, bind_ok, eqD_int, bind_ok, bind_ok]
theorem addD_lst {O : Store} {a b : List D} (h : a.length + b.length ≤ 1000000) : addD O (.lst a) (.lst b) = .ok (.lst (a ++ b)) := by
  show (if a.length + b.length ≤ 16777216 then Res.ok (D.lst (a ++ b)) else .bad) = _
  rw [if_pos (le_line h)]
end M
set_option maxRecDepth 100000
set_option maxHeartbeats 4000000
namespace M
def tk (c e : Nat) : Nat := 2 ^ e * (c + 12) - (c + 11)
theorem tk_ge (c e : Nat) : c + 12 ≤ 2 ^ e * (c + 12) := Nat.le_mul_of_pos_left _ (Nat.two_pow_pos e)
theorem tk_zero (c : Nat) : tk c 0 = 1 := by unfold tk; simp
theorem tk_succ (c e : Nat) : 2 * tk c e + c + 11 = tk c (e + 1) := by
  unfold tk
  have h := tk_ge c e
  have e2 : 2 ^ (e + 1) * (c + 12) = 2 * (2 ^ e * (c + 12)) := by rw [Nat.pow_succ, Nat.mul_comm (2 ^ e) 2, Nat.mul_assoc]
  rw [e2]
  omega
structure StSz (n c : Nat) (R lists : List (List Int)) (e : Nat) : Prop where
  eq : R.foldl stillStep (unitsL n) = lists
  ll : ∀ l ∈ lists, l.length = n
  cnt : lists.length + e = n
  sz : SzLL (tk c e) lists
theorem unit_sz (n a : Nat) : SzL 1 (unitL n a) := by
  intro x hx
  unfold unitL at hx
  rcases List.mem_or_eq_of_mem_set hx with h | h
  · rw [List.eq_of_mem_replicate h]; exact Sz.zero 1
  · rw [h]; unfold Sz; decide
theorem StSz.start (n c : Nat) : StSz n c [] (unitsL n) 0 := by
  refine ⟨rfl, fun l hl => ?_, by unfold unitsL; simp, fun l hl => ?_⟩
  · obtain ⟨a, _, rfl⟩ := List.mem_map.mp hl
    unfold unitL; simp
  · obtain ⟨a, _, rfl⟩ := List.mem_map.mp hl
    rw [tk_zero]; exact unit_sz n a
theorem StSz.step {n c e : Nat} {R lists : List (List Int)} {row : List Int} (h : StSz n c R lists e) (hr : row.length = n) (hs : SzL c row) (hn : n ≤ 1000) : ∃ e', StSz n c (R ++ [row]) (stillStep lists row) e' := by
  have eq' : (R ++ [row]).foldl stillStep (unitsL n) = stillStep lists row := by rw [List.foldl_append, h.eq]; rfl
  unfold stillStep at *
  split
  · rename_i e0
    rw [e0] at eq'
    exact ⟨e, eq', h.ll, h.cnt, h.sz⟩
  · rename_i k e0
    rw [e0] at eq'
    have k1 := (firstNN_some e0).1
    rw [List.length_map] at k1
    have hm := getD_mem k1
    refine ⟨e + 1, eq', fun l hl => ?_, ?_, fun l hl => ?_⟩
    · obtain ⟨q, hq, rfl⟩ := List.mem_map.mp hl
      have hq' := List.mem_of_mem_eraseIdx hq
      rw [offL_length (by rw [h.ll q hq', h.ll _ hm]), h.ll q hq']
    · rw [List.length_map, List.length_eraseIdx_of_lt k1]
      have := h.cnt
      omega
    · obtain ⟨q, hq, rfl⟩ := List.mem_map.mp hl
      have hq' := List.mem_of_mem_eraseIdx hq
      have hz : ∀ l ∈ lists, Sz (tk c e + c + 10) (dotL row l) := fun l h' => dot_sz hs (h.sz l h') (by rw [hr]; exact hn)
      exact (SzL.off (h.sz q hq') (h.sz _ hm) (hz q hq') (hz _ hm)).mono (by rw [← tk_succ]; omega)
end M
set_option maxRecDepth 100000
set_option maxHeartbeats 4000000
namespace M
end M
set_option maxRecDepth 100000
set_option maxHeartbeats 4000000
namespace M
open PySem PySem.Spec PyProof.Rows L2
end M
set_option maxRecDepth 100000
set_option maxHeartbeats 4000000
namespace M
open PySem PySem.Spec PyProof.Rows L2
end M
set_option maxRecDepth 100000
set_option maxHeartbeats 4000000
namespace M
open PySem PySem.Spec PyProof.Rows L2
abbrev sg (z : Str) : List Nat := z.cps.toList
theorem sg_len (z : Str) : (sg z).length = z.length := by unfold Str.length; simp
theorem sg_inj {a b : Str} (h : sg a = sg b) : a = b := Str.ext' (Array.toList_inj.mp h)
theorem sg_app (a b : Str) : sg (a ++ b) = sg a ++ sg b := by
  show ((a ++ b : Str).cps).toList = _
  rw [Str.cps_append]; simp
theorem pickS_ix {z : Str} {lo hi : Option Int} {a b : Nat} (hab : a ≤ b) (hb : b ≤ z.length) (h : Builtin.Str.strSliceIndices lo hi 1 z.length = (List.range (b - a)).map (fun k => a + k)) : sg (pickS z lo hi) = ((sg z).drop a).take (b - a) := by
  have key : (((List.range (b - a)).map (fun k => a + k)).filterMap (fun i => (sg z)[i]?)) = ((sg z).drop a).take (b - a) := StrLaws.picks (sg z) (b - a) a (by rw [sg_len]; omega)
  unfold pickS
  rw [h]
  split
  · rename_i hl
    have hl : b - a = z.length := by simpa using hl
    have ha : a = 0 := by omega
    subst ha
    rw [List.drop_zero, List.take_of_length_le (by rw [sg_len]; omega)]
  · rw [← key]
    simp [sg]
theorem ix_hi {n b : Nat} (h : b ≤ n) : Builtin.Str.strSliceIndices none (some (b : Int)) 1 n = (List.range (b - 0)).map (fun k => 0 + k) := by
  rw [← StrLaws.strSliceIndices_plain (Nat.zero_le b) h]
  unfold Builtin.Str.strSliceIndices
  simp
  rw [show max (0 : Int) (min 0 (n : Int)) = 0 by omega]
theorem ix_lo {n a : Nat} (h : a ≤ n) : Builtin.Str.strSliceIndices (some (a : Int)) none 1 n = (List.range (n - a)).map (fun k => a + k) := by
  rw [← StrLaws.strSliceIndices_plain h (Nat.le_refl n)]
  unfold Builtin.Str.strSliceIndices
  simp
  rw [if_neg (show ¬ (n : Int) < 0 by omega), show max (0 : Int) (min (n : Int) (n : Int)) = (n : Int) by omega]
theorem pick_hi {z : Str} {b : Nat} (h : b ≤ z.length) : sg (pickS z none (some (b : Int))) = (sg z).take b := by
  rw [pickS_ix (Nat.zero_le b) h (ix_hi h), List.drop_zero, Nat.sub_zero]
theorem pick_lo {z : Str} {a : Nat} (h : a ≤ z.length) : sg (pickS z (some (a : Int)) none) = (sg z).drop a := by
  rw [pickS_ix h (Nat.le_refl _) (ix_lo h), List.take_of_length_le]
  rw [List.length_drop, sg_len]; omega
theorem pick_m1 {z : Str} (h : 1 ≤ z.length) : sg (pickS z none (some (-1))) = (sg z).take (z.length - 1) := by
  have e : Builtin.Str.strSliceIndices none (some (-1)) 1 z.length = Builtin.Str.strSliceIndices none (some ((z.length - 1 : Nat) : Int)) 1 z.length := by
    rw [StrLaws.sliceIdx_neg_hi none z.length (by decide) (by omega)]
    congr 2
    omega
  rw [pickS_ix (Nat.zero_le _) (by omega) (e.trans (ix_hi (by omega))), List.drop_zero, Nat.sub_zero]
end M
set_option maxRecDepth 100000
set_option maxHeartbeats 4000000
namespace M
open PySem PySem.Spec PyProof.Rows L2
section
variable {s s1 s2 : S} {R R' : List (Option D)} {O O' : Store} {d x y : D} {xs ys : List D}
theorem x_bin {f : Op2} {ma mb : EM} (ha : ma s = .ok (x, s1)) (hb : mb s1 = .ok (y, s2)) (hf : f s2.o x y = .ok d) : binM f ma mb s = .ok (d, s2) := by
  rw [binM_ev, ha, bind_ok]; dsimp only; rw [hb, bind_ok]; dsimp only; rw [hf, bind_ok]
theorem x_un {f : Op1} {ma : EM} (ha : ma s = .ok (x, s1)) (hf : f s1.o x = .ok d) : unM f ma s = .ok (d, s1) := by
  rw [unM_ev, ha, bind_ok]; dsimp only; rw [hf, bind_ok]
theorem x_cal {f : OpN} {ma : AM} (ha : ma s = .ok (xs, s1)) (hf : f s1.o xs = .ok d) : calM f ma s = .ok (d, s1) := by
  rw [calM_ev, ha, bind_ok]; dsimp only; rw [hf, bind_ok]
theorem x_cons {m : EM} {r : AM} (ha : m s = .ok (x, s1)) (hb : r s1 = .ok (ys, s2)) : consM m r s = .ok (x :: ys, s2) := by
  rw [consM_ev, ha, bind_ok]; dsimp only; rw [hb, bind_ok]
theorem x_tup {ma : AM} (ha : ma s = .ok (xs, s1)) (hl : xs.length ≤ 16777216) : tupM ma s = .ok (.tup xs, s1) := by
  rw [tupM_ev, ha, bind_ok]; dsimp only; rw [if_pos hl]
theorem x_lst {ma : AM} (ha : ma s = .ok (xs, s1)) (hl : xs.length ≤ 16777216) : lstM ma s = .ok (.lst xs, s1) := by
  rw [lstM_ev, ha, bind_ok]; dsimp only; rw [if_pos hl]
theorem x_lstC {ma : AM} {n : Nat} (ha : ma s = .ok (xs, ⟨R, O⟩)) (hl : xs.length ≤ 16777216) (hn : O.length = n) (hO : O ++ [.lst xs] = O') : lstC ma s = .ok (.ptr n, ⟨R, O'⟩) := by
  rw [lstC_ev, ha, bind_ok]; dsimp only; rw [if_pos hl, hn, hO]
theorem x_tst {m : EM} {b : Bool} (h : m s = .ok (.bl b, s1)) : tstM m s = .ok (b, s1) := by
  rw [tstM_ev, h, bind_ok]
theorem x_not {m : TM} {b : Bool} (h : m s = .ok (b, s1)) : notT m s = .ok (!b, s1) := by
  rw [notT_ev, h, bind_ok]
theorem x_orF {a b : TM} {p q : Bool} (h : a s = .ok (p, s1)) (hp : p = false) (h2 : b s1 = .ok (q, s2)) : orT a b s = .ok (q, s2) := by
  subst hp; rw [orT_ev, h, bind_ok]; exact h2
theorem x_set {m : EM} {i : Nat} (h : m s = .ok (d, ⟨R, O⟩)) (hR : R.set i (some d) = R') : setM i m s = .next ⟨R', O⟩ := by
  subst hR; exact setM_eq h
theorem x_app {mo me : EM} {k : Nat} {ds0 ds : List D} (h1 : mo s = .ok (.ptr k, s1)) (c1 : s1.o[k]? = some (.lst ds0)) (h2 : me s1 = .ok (d, ⟨R, O⟩)) (c2 : O[k]? = some (.lst ds)) (hb : ds.length ≤ 1000000) (hO : O.set k (.lst (ds ++ [d])) = O') : appM mo me s = .ok (.non, ⟨R, O'⟩) := by
  subst hO; exact appM_eq (s2 := ⟨R, O⟩) h1 c1 h2 c2 hb
theorem x_frz {m : EM} {k : Nat} {ds : List D} (h : m s = .ok (.ptr k, ⟨R, O⟩)) (c : O[k]? = some (.lst ds)) (hO : O.set k .dead = O') : frzM m s = .ok (.lst ds, ⟨R, O'⟩) := by
  subst hO; exact frzM_eq h c
theorem x_ifT {c : TM} {A B : SM} {p : Bool} (h : c s = .ok (p, s1)) (hp : p = true) : ifS c A B s = A s1 := by subst hp; exact ifS_T h
theorem x_ifF {c : TM} {A B : SM} {p : Bool} (h : c s = .ok (p, s1)) (hp : p = false) : ifS c A B s = B s1 := by subst hp; exact ifS_F h
theorem x_noPart (s : S) : noPart s = .ok (none, s) := rfl
theorem x_part {m : EM} {i : Int} (h : m s = .ok (.int i, s1)) : part m s = .ok (some i, s1) := by rw [part_ev, h, bind_ok]
theorem x_sl {me : EM} {ml mh : OM} {lo hi : Option Int} {s3 : S} {ds es : List D} (h : me s = .ok (x, s1)) (hl : ml s1 = .ok (lo, s2)) (hh : mh s2 = .ok (hi, s3)) (hd : lsD s3.o x = some ds) (he : cutD ds lo hi = es) : slM me ml mh s = .ok (.lst es, s3) := by
  rw [slM_ev, h, bind_ok]; dsimp only; rw [hl, bind_ok]; dsimp only; rw [hh, bind_ok]; dsimp only; rw [hd]; dsimp only; rw [he]
end
theorem pow_10_30 {O : Store} : powD O (.int 10) (.int 30) = .ok (.int 1000000000000000000000000000000) := powD_int (by decide) (by decide) (by decide)
section
variable {s s1 : S} {o : Out}
theorem q_seq {a b : SM} (h : a s = .next s1) (k : b s1 = o) : seqM a b s = o := (seqM_eq h).trans k
theorem q_ifT {c : TM} {A B : SM} {p : Bool} (h : c s = .ok (p, s1)) (hp : p = true) (k : A s1 = o) : ifS c A B s = o := (x_ifT h hp).trans k
theorem q_ifF {c : TM} {A B : SM} {p : Bool} (h : c s = .ok (p, s1)) (hp : p = false) (k : B s1 = o) : ifS c A B s = o := (x_ifF h hp).trans k
theorem q_run {n : Nat} {m : SM} {ds : List D} {O O1 : Store} {d : D} {R : List (Option D)} (h : m ⟨ds.map some ++ List.replicate (n - ds.length) none, O⟩ = .ret d ⟨R, O1⟩) : runM n m ds O = .ok (d, O1) := runM_ret h
end
end M
set_option maxRecDepth 100000
set_option maxHeartbeats 4000000
namespace M
open PySem PySem.Spec PyProof.Rows L2
section
variable {s s1 s2 : S} {c : Nat} {a : D} {o : Out}
end
end M
set_option maxRecDepth 100000
set_option maxHeartbeats 4000000
namespace M
open PySem PySem.Spec PyProof.Rows L2
def Sto (O : Store) (L : List (Nat × List Int)) : Prop := ∀ p ∈ L, O[p.1]? = some (.lst (p.2.map D.int))
theorem Sto.set {O : Store} {L : List (Nat × List Int)} (h : Sto O L) {k : Nat} (hk : ∀ p ∈ L, p.1 ≠ k) (c : Cell) : Sto (O.set k c) L := fun p hp => by rw [get_set_ne fun z => hk p hp z.symm]; exact h p hp
theorem Sto.lt {O : Store} {L : List (Nat × List Int)} (h : Sto O L) {p : Nat × List Int} (hp : p ∈ L) : p.1 < O.length := get_lt (h p hp)
end M
set_option maxRecDepth 100000
set_option maxHeartbeats 4000000
namespace M
open PySem PySem.Spec PyProof.Rows L2
section
variable {α β : Type} (f g : α → β)
end
end M
set_option maxRecDepth 100000
set_option maxHeartbeats 4000000
namespace Lk41
open PySem PySem.Spec PyProof.Rows L2 M
def top (i : Nat) : Stmt := PySem.Challenge.pw_modeyard_k41_lists_and_ratios_written.main.body.getD i (.Pass ⟨0, 0, 0, 0⟩)
abbrev s_figures : Stmt := top 1
abbrev s_show_number : Stmt := top 2
abbrev s_show_list : Stmt := top 3
abbrev s_show_ratio : Stmt := top 4
abbrev s_law_cell : Stmt := top 6
abbrev s_law_next : Stmt := top 7
abbrev s_law_words : Stmt := top 8
abbrev s_law_signed : Stmt := top 9
abbrev s_law_common : Stmt := top 10
abbrev s_law_numbers : Stmt := top 12
abbrev s_law_text : Stmt := top 13
abbrev s_law : Stmt := top 14
noncomputable def b_figures_1 : SM :=
 (seqM badM
 (setM 1 (binM fdivD (varM 1) (binM powD (cstM (.int 10)) (cstM (.int 60))))))
noncomputable def m_figures : SM :=
 (seqM (setM 1 (calM absD (consM (varM 0) nilM)))
 (seqM (setM 2 (cstM (.str ("" : Str))))
 (seqM (whileM (fun _ => 1) (tstM (binM geD (varM 1) (binM powD (cstM (.int 10)) (cstM (.int 60)))))
 b_figures_1)
 (seqM (setM 2 (binM addD (calM strD (consM (varM 1) nilM)) (varM 2)))
 (seqM (ifS (tstM (binM ltD (varM 0) (cstM (.int 0))))
 (retM (binM addD (cstM (.str ("-" : Str))) (varM 2)))
 skipM)
 (retM (varM 2)))))))
noncomputable def f_figures : FM := runM 3 m_figures
noncomputable def m_show_number : SM :=
 (retM (binM addD (binM addD (callP 1 f_figures (consM (varM 0) nilM)) (cstM (.str (" " : Str)))) (varM 1)))
noncomputable def f_show_number : FM := runM 2 m_show_number
noncomputable def m_show_list : SM :=
 (seqM (setM 2 (compF 2 [] (zipI (consM (varM 0) (consM (varM 1) nilM))) (tupG (consG (nameG 0) (consG (nameG 1) nilG)) 2) (tstM (binM neD (varM 0) (cstM (.int 0)))) (callP 2 f_show_number (consM (varM 0) (consM (varM 1) nilM)))))
 (seqM (ifS (notT (truM (varM 2)))
 (retM (cstM (.str ("nothing" : Str))))
 skipM)
 (retM (joinM (cstM (.str (" " : Str))) (varM 2)))))
noncomputable def f_show_list : FM := runM 3 m_show_list
noncomputable def m_show_ratio : SM :=
 (seqM (ifS (tstM (binM eqD (binM ixD (varM 0) (cstM (.int 1))) (cstM (.int 1))))
 (retM (callP 1 f_figures (consM (binM ixD (varM 0) (cstM (.int 0))) nilM)))
 skipM)
 (retM (binM addD (binM addD (callP 1 f_figures (consM (binM ixD (varM 0) (cstM (.int 0))) nilM)) (cstM (.str ("/" : Str)))) (callP 1 f_figures (consM (binM ixD (varM 0) (cstM (.int 1))) nilM)))))
noncomputable def f_show_ratio : FM := runM 1 m_show_ratio
noncomputable def m_law_cell : SM :=
 (seqM (ifS (tstM (binM ltD (varM 1) (calM lenD (consM (varM 0) nilM))))
 (retM (binM ixD (varM 0) (varM 1)))
 skipM)
 (retM (cstM (.int 0))))
noncomputable def f_law_cell : FM := runM 2 m_law_cell
noncomputable def m_law_next : SM :=
 (seqM (ifS (tstM (binM geD (varM 0) (binM powD (cstM (.int 2)) (cstM (.int 31)))))
 (retM (binM fdivD (varM 0) (cstM (.int 1890))))
 skipM)
 (seqM (setM 2 (binM modD (binM addD (binM addD (binM mulD (varM 0) (binM addD (cstM (.int 48271)) (binM mulD (cstM (.int 21350)) (varM 1)))) (cstM (.int 12345))) (varM 1)) (cstM (.int 2147483647))))
 (retM (binM modD (binM mulD (varM 2) (cstM (.int 16807))) (cstM (.int 2147483629))))))
noncomputable def f_law_next : FM := runM 3 m_law_next
noncomputable def b_law_words_1 : SM :=
 (setM 4 (binM addD (varM 4) (binM ixD (varM 2) (binM modD (binM addD (binM fdivD (varM 0) (cstM (.int 6))) (binM mulD (varM 5) (binM fdivD (varM 0) (cstM (.int 156))))) (cstM (.int 26))))))
noncomputable def b_law_words_2 : SM :=
 (seqM (setM 8 (binM ixD (varM 2) (binM modD (binM addD (binM addD (binM fdivD (varM 0) (cstM (.int 6))) (binM mulD (cstM (.int 3)) (varM 5))) (cstM (.int 1))) (cstM (.int 26)))))
 (seqM (setM 9 (binM addD (binM addD (slS (varM 4) noPart (part (varM 6))) (varM 8)) (slS (varM 4) (part (binM addD (varM 6) (cstM (.int 1)))) noPart)))
 (seqM (ifS (tstM (binM eqD (binM modD (binM fdivD (varM 0) (cstM (.int 5))) (cstM (.int 3))) (cstM (.int 1))))
 (setM 9 (binM ixD (lstM (consM (varM 4) (consM (slS (varM 4) noPart (part (unM negD (cstM (.int 1))))) (consM (binM addD (varM 4) (varM 8)) nilM)))) (calM min2D (consM (varM 5) (consM (cstM (.int 2)) nilM)))))
 skipM)
 (dropM (appM (varM 7) (varM 9))))))
noncomputable def m_law_words : SM :=
 (seqM (setM 2 (cstM (.str ("abcdefghijklmnopqrstuvwxyz" : Str))))
 (seqM (setM 3 (binM addD (cstM (.int 2)) (binM modD (varM 0) (cstM (.int 6)))))
 (seqM (setM 4 (cstM (.str ("" : Str))))
 (seqM (forS (rng1 (consM (varM 3) nilM)) (nameG 5)
 b_law_words_1)
 (seqM (setM 6 (binM modD (binM fdivD (varM 0) (cstM (.int 2))) (varM 3)))
 (seqM (setM 7 (lstC nilM))
 (seqM (forS (rng1 (consM (varM 1) nilM)) (nameG 5)
 b_law_words_2)
 (retM (frzM (varM 7))))))))))
noncomputable def f_law_words : FM := runM 10 m_law_words
noncomputable def m_law_signed : SM :=
 (seqM (ifS (tstM (binM eqD (varM 1) (cstM (.int 0))))
 (retM (binM subD (binM modD (binM fdivD (varM 0) (cstM (.int 4))) (cstM (.int 41))) (cstM (.int 20))))
 skipM)
 (seqM (ifS (tstM (binM eqD (varM 1) (cstM (.int 1))))
 (retM (binM subD (binM modD (binM fdivD (varM 0) (cstM (.int 4))) (cstM (.int 2000001))) (cstM (.int 1000000))))
 skipM)
 (retM (binM addD (binM subD (binM modD (binM fdivD (varM 0) (cstM (.int 4))) (binM subD (binM mulD (cstM (.int 2)) (binM powD (cstM (.int 10)) (cstM (.int 30)))) (cstM (.int 1)))) (binM powD (cstM (.int 10)) (cstM (.int 30)))) (cstM (.int 1))))))
noncomputable def f_law_signed : FM := runM 2 m_law_signed
noncomputable def b_law_common_1 : SM :=
 (seqM (setM 2 (binM modD (varM 0) (varM 1)))
 (seqM (setM 0 (varM 1))
 (setM 1 (varM 2))))
noncomputable def m_law_common : SM :=
 (seqM (setM 0 (calM absD (consM (varM 0) nilM)))
 (seqM (setM 1 (calM absD (consM (varM 1) nilM)))
 (seqM (whileM (fun s => gcdFuel 1 s) (tstM (binM gtD (varM 1) (cstM (.int 0))))
 b_law_common_1)
 (retM (varM 0)))))
noncomputable def f_law_common : FM := runM 3 m_law_common
noncomputable def b_law_numbers_1 : SM :=
 (seqM (setM 0 (callP 2 f_law_next (consM (varM 0) (consM (binM modD (varM 3) (cstM (.int 3))) nilM))))
 (dropM (appM (varM 2) (binM ixD (lstM (consM (cstM (.int 0)) (consM (binM subD (binM modD (binM fdivD (varM 0) (cstM (.int 3))) (cstM (.int 13))) (cstM (.int 6))) (consM (callP 2 f_law_signed (consM (binM mulD (binM mulD (binM mulD (varM 0) (varM 0)) (varM 0)) (varM 0)) (consM (binM subD (cstM (.int 2)) (binM modD (varM 3) (cstM (.int 2)))) nilM))) nilM)))) (binM modD (varM 0) (cstM (.int 3)))))))
noncomputable def m_law_numbers : SM :=
 (seqM (setM 2 (lstC nilM))
 (seqM (forS (rng1 (consM (varM 1) nilM)) (nameG 3)
 b_law_numbers_1)
 (retM (frzM (varM 2)))))
noncomputable def f_law_numbers : FM := runM 4 m_law_numbers
noncomputable def b_law_text_1 : SM :=
 (ifS (tstM (binM neD (binM ixD (varM 0) (varM 3)) (cstM (.int 0))))
 (setM 2 (binM addD (binM addD (binM addD (binM addD (varM 2) (cstM (.str (" " : Str)))) (calM strD (consM (binM ixD (varM 0) (varM 3)) nilM))) (cstM (.str (" " : Str)))) (binM ixD (varM 1) (varM 3))))
 skipM)
noncomputable def m_law_text : SM :=
 (seqM (setM 2 (cstM (.str ("" : Str))))
 (seqM (forS (rng1 (consM (calM lenD (consM (varM 0) nilM)) nilM)) (nameG 3)
 b_law_text_1)
 (seqM (ifS (tstM (binM eqD (varM 2) (cstM (.str ("" : Str)))))
 (retM (cstM (.str ("nothing" : Str))))
 skipM)
 (retM (slS (varM 2) (part (cstM (.int 1))) noPart)))))
noncomputable def f_law_text : FM := runM 4 m_law_text
noncomputable def b_law_1 : SM :=
 (seqM (setM 2 (slM (callP 2 f_law_words (consM (binM modD (varM 1) (binM powD (cstM (.int 10)) (cstM (.int 30)))) (consM (cstM (.int 8)) nilM))) noPart (part (binM modD (binM fdivD (callP 2 f_law_next (consM (varM 1) (consM (cstM (.int 0)) nilM))) (cstM (.int 5))) (cstM (.int 9))))))
 (seqM (setM 3 (callP 2 f_law_numbers (consM (callP 2 f_law_next (consM (varM 1) (consM (cstM (.int 1)) nilM))) (consM (calM lenD (consM (varM 2) nilM)) nilM))))
 (seqM (setM 4 (lstM (consM (calM listD (consM (varM 3) nilM)) (consM (calM listD (consM (varM 2) nilM)) nilM))))
 (seqM (setM 5 (callP 2 f_show_list (consM (binM ixD (varM 4) (cstM (.int 0))) (consM (binM ixD (varM 4) (cstM (.int 1))) nilM))))
 (seqM (ifS (orT (notT (tstM (unM (isiD "str") (varM 5)))) (orT (tstM (binM neD (varM 5) (callP 2 f_law_text (consM (varM 3) (consM (varM 2) nilM))))) (tstM (binM neD (varM 4) (lstM (consM (varM 3) (consM (varM 2) nilM)))))))
 (retM (cstM (.bl false)))
 skipM)
 (seqM (setM 6 (callP 2 f_law_signed (consM (varM 1) (consM (binM modD (varM 1) (cstM (.int 3))) nilM))))
 (seqM (setM 7 (binM addD (cstM (.int 1)) (binM modD (binM fdivD (varM 1) (cstM (.int 7))) (cstM (.int 30)))))
 (seqM (setM 8 (calM max2D (consM (cstM (.int 1)) (consM (callP 2 f_law_common (consM (varM 6) (consM (varM 7) nilM))) nilM))))
 (seqM (setM 9 (calM strD (consM (binM fdivD (varM 6) (varM 8)) nilM)))
 (seqM (ifS (tstM (binM gtD (binM fdivD (varM 7) (varM 8)) (cstM (.int 1))))
 (setM 9 (binM addD (binM addD (varM 9) (cstM (.str ("/" : Str)))) (calM strD (consM (binM fdivD (varM 7) (varM 8)) nilM))))
 skipM)
 (ifS (orT (tstM (binM neD (callP 1 f_show_ratio (consM (tupM (consM (binM fdivD (varM 6) (varM 8)) (consM (binM fdivD (varM 7) (varM 8)) nilM))) nilM)) (varM 9))) (tstM (binM neD (callP 1 f_show_ratio (consM (tupM (consM (varM 6) (consM (cstM (.int 1)) nilM))) nilM)) (calM strD (consM (varM 6) nilM)))))
 (retM (cstM (.bl false)))
 skipM)))))))))))
noncomputable def m_law : SM :=
 (seqM (forS (listI (binM addD (lstM (consM (callP 2 f_law_cell (consM (varM 0) (consM (cstM (.int 0)) nilM))) nilM)) (slM (varM 0) noPart (part (cstM (.int 30)))))) (nameG 1)
 b_law_1)
 (retM (cstM (.bl true))))
noncomputable def f_law : FM := runM 10 m_law
end Lk41
set_option maxRecDepth 100000
set_option maxHeartbeats 4000000
namespace Lk41
open PySem PySem.Spec PyProof.Rows L2 M
section
variable {P : Program} {w : World} {K : PySem.W.Frag} {mg : Str → Option Value} {base : Heap} {ca : Nat → Addr}
theorem sc_figures : FnScope ["number", "left", "written"] ["number"] (defScope s_figures) := ⟨rfl, rfl, rfl, by decide +kernel, rfl, by decide +kernel, by decide +kernel⟩
theorem ok_figures {a : Addr} {fd : FuncData} (F : Fun K "figures" "figures" s_figures a fd) (hm : mg "figures" = some (.ref a)) (hpt : P.given.tree = none) (n_abs : mg "abs" = none) (n_str : mg "str" = none) : DefAt P w K mg base ca 35 "figures" ["number"] f_figures a fd := by
  refine ⟨def_ok F sc_figures rfl fun cdv A outer s H E hr => ?_, hm, F.kp, F.binds fun _ _ _ _ _ _ us hl => match us, hl with | [_], _ => rfl⟩
  have hu := hr.units
  have hdp := dp_of hr (by decide)
  exact ⟨_, (pss_cons (ps_set (i := 1) sc_figures.nd rfl (Or.inl rfl) (pe_callB call_abs rfl n_abs Boot.«abs» (pa_cons (pv 0) pa_nil)))
 (pss_cons (ps_set (i := 2) sc_figures.nd rfl (Or.inl rfl) pe_str)
 (pss_cons (ps_while PassesOwn.never (pt_cmpR op_ge (pv 1) (pe_op op_pow pe_int pe_int) (nomark _))
 (pss_cons ps_never
 (pss_one (ps_set (i := 1) sc_figures.nd rfl (Or.inl rfl) (pe_op (o_fdiv hdp hpt ⟨_, _, rfl, rfl, rfl, rfl, rfl⟩) (pv 1) (pe_op op_pow pe_int pe_int))))))
 (pss_cons (ps_set (i := 2) sc_figures.nd rfl (Or.inl rfl) (pe_op o_add (pe_callTy call_str_int rfl n_str Boot.«str» (pa_cons (pv 1) pa_nil)) (pv 2)))
 (pss_cons (ps_if (pt_cmpR op_lt (pv 0) pe_int (nomark _))
 (pss_one (ps_ret (pe_op o_add pe_str (pv 2))))
 pss_nil)
 (pss_one (ps_ret (pv 2)))))))),
   (rd_seq (rd_set (rd_callB rd_abs (rd_cons (rd_var 0) rd_nil)))
 (rd_seq (rd_set (rd_str ("" : Str)))
 (rd_seq (rd_while (rd_tst (rd_bin rd_ge (rd_var 1) (rd_bin rd_pow (rd_int 10) (rd_int 60))))
 (rd_seq rd_never
 (rd_set (rd_bin rd_fdiv (rd_var 1) (rd_bin rd_pow (rd_int 10) (rd_int 60))))))
 (rd_seq (rd_set (rd_bin rd_add (rd_callB rd_strD (rd_cons (rd_var 1) rd_nil)) (rd_var 2)))
 (rd_seq (rd_if (rd_tst (rd_bin rd_lt (rd_var 0) (rd_int 0)))
 (rd_ret (rd_bin rd_add (rd_str ("-" : Str)) (rd_var 2)))
 rd_next)
 (rd_ret (rd_var 2)))))))⟩
theorem sc_show_number : FnScope ["number", "name"] ["number", "name"] (defScope s_show_number) := ⟨rfl, rfl, rfl, by decide +kernel, rfl, by decide +kernel, by decide +kernel⟩
theorem ok_show_number {a : Addr} {fd : FuncData} (F : Fun K "show_number" "show_number" s_show_number a fd) (hm : mg "show_number" = some (.ref a)) (hpt : P.given.tree = none) (D_figures : DefIn P w K mg base ca 35 "figures" ["number"] f_figures) : DefAt P w K mg base ca 36 "show_number" ["number", "name"] f_show_number a fd := by
  obtain ⟨a_figures, fd_figures, G_figures, m_figures, k_figures, b_figures⟩ := D_figures
  refine ⟨def_ok F sc_show_number rfl fun cdv A outer s H E hr => ?_, hm, F.kp, F.binds fun _ _ _ _ _ _ us hl => match us, hl with | [_, _], _ => rfl⟩
  have hu := hr.units
  have hdp := dp_of hr (by decide)
  exact ⟨_, (pss_one (ps_ret (pe_op o_add (pe_op o_add (pe_call G_figures (hr.mono (by decide)) rfl m_figures k_figures b_figures .nil passN (pa_cons (pv 0) pa_nil)) pe_str) (pv 1)))),
   (rd_ret (rd_bin rd_add (rd_bin rd_add (rd_callP (n := 1) (f := f_figures) (rd_cons (rd_var 0) rd_nil)) (rd_str (" " : Str))) (rd_var 1)))⟩
theorem sc_show_list : FnScope ["numbers", "names", "told"] ["numbers", "names"] (defScope s_show_list) := ⟨rfl, rfl, rfl, by decide +kernel, rfl, by decide +kernel, by decide +kernel⟩
theorem ok_show_list {a : Addr} {fd : FuncData} (F : Fun K "show_list" "show_list" s_show_list a fd) (hm : mg "show_list" = some (.ref a)) (hpt : P.given.tree = none) (n_zip : mg "zip" = none) (D_show_number : DefIn P w K mg base ca 36 "show_number" ["number", "name"] f_show_number) : DefAt P w K mg base ca 37 "show_list" ["numbers", "names"] f_show_list a fd := by
  obtain ⟨a_show_number, fd_show_number, G_show_number, m_show_number, k_show_number, b_show_number⟩ := D_show_number
  refine ⟨def_ok F sc_show_list rfl fun cdv A outer s H E hr => ?_, hm, F.kp, F.binds fun _ _ _ _ _ _ us hl => match us, hl with | [_, _], _ => rfl⟩
  have hu := hr.units
  have hdp := dp_of hr (by decide)
  exact ⟨_, (pss_cons (ps_setcomp (i := 2) (own := ["number", "name"]) (cap := []) (caps := []) rfl ⟨rfl, by decide +kernel, by decide +kernel, by decide +kernel, trivial, by decide +kernel⟩ (pi_zip rfl n_zip (pa_cons (pv 0) (pa_cons (pv 1) pa_nil))) (fun _ _ _ => (pg_tup rfl (pgs_cons (pg_name (i := 0) (show ((["number", "name"] : List Str) ++ ([] : List Str)).Nodup from by decide +kernel) rfl (Or.inl rfl)) (pgs_cons (pg_name (i := 1) (show ((["number", "name"] : List Str) ++ ([] : List Str)).Nodup from by decide +kernel) rfl (Or.inl rfl)) pgs_nil)))) (fun _ _ _ => (pts_one (pt_cmpR (o_ne hu) (pv 0) pe_int (nomark _)))) (fun _ _ _ => (pe_call G_show_number (hr.mono (by decide)) rfl m_show_number k_show_number b_show_number .nil passN (pa_cons (pv 0) (pa_cons (pv 1) pa_nil)))) sc_show_list.nd rfl (Or.inl rfl) rfl)
 (pss_cons (ps_if (pt_not (pt_truth (pv 2) (fun _ => rfl)))
 (pss_one (ps_ret pe_str))
 pss_nil)
 (pss_one (ps_ret (pe_bm PySem.F.plainAttrs_str PySem.F.slot_str_join PySem.F.type_str_join mt_join pe_str (pa_cons (pv 2) pa_nil)))))),
   (rd_seq (rd_set (rd_comp (m := 2) (caps := []) (rd_zip (rd_cons (rd_var 0) (rd_cons (rd_var 1) rd_nil))) (rd_gtup (rd_gcons (rd_gname 0) (rd_gcons (rd_gname 1) rd_gnil))) (rd_tst (rd_bin rd_ne (rd_var 0) (rd_int 0))) (rd_callP (n := 2) (f := f_show_number) (rd_cons (rd_var 0) (rd_cons (rd_var 1) rd_nil)))))
 (rd_seq (rd_if (rd_not (rd_tru (rd_var 2)))
 (rd_ret (rd_str ("nothing" : Str)))
 rd_next)
 (rd_ret (rd_join (rd_str (" " : Str)) (rd_var 2)))))⟩
theorem sc_show_ratio : FnScope ["one"] ["one"] (defScope s_show_ratio) := ⟨rfl, rfl, rfl, by decide +kernel, rfl, by decide +kernel, by decide +kernel⟩
theorem ok_show_ratio {a : Addr} {fd : FuncData} (F : Fun K "show_ratio" "show_ratio" s_show_ratio a fd) (hm : mg "show_ratio" = some (.ref a)) (hpt : P.given.tree = none) (D_figures : DefIn P w K mg base ca 35 "figures" ["number"] f_figures) : DefAt P w K mg base ca 36 "show_ratio" ["one"] f_show_ratio a fd := by
  obtain ⟨a_figures, fd_figures, G_figures, m_figures, k_figures, b_figures⟩ := D_figures
  refine ⟨def_ok F sc_show_ratio rfl fun cdv A outer s H E hr => ?_, hm, F.kp, F.binds fun _ _ _ _ _ _ us hl => match us, hl with | [_], _ => rfl⟩
  have hu := hr.units
  have hdp := dp_of hr (by decide)
  exact ⟨_, (pss_cons (ps_if (pt_cmpR (o_eq hu) (pe_ix ix_seq (pv 0) pe_int (fun _ _ => rfl)) pe_int (nomark _))
 (pss_one (ps_ret (pe_call G_figures (hr.mono (by decide)) rfl m_figures k_figures b_figures .nil passN (pa_cons (pe_ix ix_seq (pv 0) pe_int (fun _ _ => rfl)) pa_nil))))
 pss_nil)
 (pss_one (ps_ret (pe_op o_add (pe_op o_add (pe_call G_figures (hr.mono (by decide)) rfl m_figures k_figures b_figures .nil passN (pa_cons (pe_ix ix_seq (pv 0) pe_int (fun _ _ => rfl)) pa_nil)) pe_str) (pe_call G_figures (hr.mono (by decide)) rfl m_figures k_figures b_figures .nil passN (pa_cons (pe_ix ix_seq (pv 0) pe_int (fun _ _ => rfl)) pa_nil)))))),
   (rd_seq (rd_if (rd_tst (rd_bin rd_eq (rd_bin rd_ix (rd_var 0) (rd_int 1)) (rd_int 1)))
 (rd_ret (rd_callP (n := 1) (f := f_figures) (rd_cons (rd_bin rd_ix (rd_var 0) (rd_int 0)) rd_nil)))
 rd_next)
 (rd_ret (rd_bin rd_add (rd_bin rd_add (rd_callP (n := 1) (f := f_figures) (rd_cons (rd_bin rd_ix (rd_var 0) (rd_int 0)) rd_nil)) (rd_str ("/" : Str))) (rd_callP (n := 1) (f := f_figures) (rd_cons (rd_bin rd_ix (rd_var 0) (rd_int 1)) rd_nil)))))⟩
theorem sc_law_cell : FnScope ["_law_script", "_law_k"] ["_law_script", "_law_k"] (defScope s_law_cell) := ⟨rfl, rfl, rfl, by decide +kernel, rfl, by decide +kernel, by decide +kernel⟩
theorem ok_law_cell {a : Addr} {fd : FuncData} (F : Fun K "_law_cell" "_law_cell" s_law_cell a fd) (hm : mg "_law_cell" = some (.ref a)) (hpt : P.given.tree = none) (n_len : mg "len" = none) : DefAt P w K mg base ca 35 "_law_cell" ["_law_script", "_law_k"] f_law_cell a fd := by
  refine ⟨def_ok F sc_law_cell rfl fun cdv A outer s H E hr => ?_, hm, F.kp, F.binds fun _ _ _ _ _ _ us hl => match us, hl with | [_, _], _ => rfl⟩
  have hu := hr.units
  have hdp := dp_of hr (by decide)
  exact ⟨_, (pss_cons (ps_if (pt_cmpR op_lt (pv 1) (pe_callB call_len rfl n_len Boot.«len» (pa_cons (pv 0) pa_nil)) (nomark _))
 (pss_one (ps_ret (pe_ix ix_seq (pv 0) (pv 1) (fun _ _ => rfl))))
 pss_nil)
 (pss_one (ps_ret pe_int))),
   (rd_seq (rd_if (rd_tst (rd_bin rd_lt (rd_var 1) (rd_callB rd_len (rd_cons (rd_var 0) rd_nil))))
 (rd_ret (rd_bin rd_ix (rd_var 0) (rd_var 1)))
 rd_next)
 (rd_ret (rd_int 0)))⟩
theorem sc_law_next : FnScope ["_law_cell_here", "_law_k", "_law_stirred"] ["_law_cell_here", "_law_k"] (defScope s_law_next) := ⟨rfl, rfl, rfl, by decide +kernel, rfl, by decide +kernel, by decide +kernel⟩
theorem ok_law_next {a : Addr} {fd : FuncData} (F : Fun K "_law_next" "_law_next" s_law_next a fd) (hm : mg "_law_next" = some (.ref a)) (hpt : P.given.tree = none) : DefAt P w K mg base ca 35 "_law_next" ["_law_cell_here", "_law_k"] f_law_next a fd := by
  refine ⟨def_ok F sc_law_next rfl fun cdv A outer s H E hr => ?_, hm, F.kp, F.binds fun _ _ _ _ _ _ us hl => match us, hl with | [_, _], _ => rfl⟩
  have hu := hr.units
  have hdp := dp_of hr (by decide)
  exact ⟨_, (pss_cons (ps_if (pt_cmpR op_ge (pv 0) (pe_op op_pow pe_int pe_int) (nomark _))
 (pss_one (ps_ret (pe_op (o_fdiv hdp hpt ⟨_, _, rfl, rfl, rfl, rfl, rfl⟩) (pv 0) pe_int)))
 pss_nil)
 (pss_cons (ps_set (i := 2) sc_law_next.nd rfl (Or.inl rfl) (pe_op op_modN (pe_op o_add (pe_op o_add (pe_op o_mul (pv 0) (pe_op o_add pe_int (pe_op o_mul pe_int (pv 1)))) pe_int) (pv 1)) pe_int))
 (pss_one (ps_ret (pe_op op_modN (pe_op o_mul (pv 2) pe_int) pe_int))))),
   (rd_seq (rd_if (rd_tst (rd_bin rd_ge (rd_var 0) (rd_bin rd_pow (rd_int 2) (rd_int 31))))
 (rd_ret (rd_bin rd_fdiv (rd_var 0) (rd_int 1890)))
 rd_next)
 (rd_seq (rd_set (rd_bin rd_mod (rd_bin rd_add (rd_bin rd_add (rd_bin rd_mul (rd_var 0) (rd_bin rd_add (rd_int 48271) (rd_bin rd_mul (rd_int 21350) (rd_var 1)))) (rd_int 12345)) (rd_var 1)) (rd_int 2147483647)))
 (rd_ret (rd_bin rd_mod (rd_bin rd_mul (rd_var 2) (rd_int 16807)) (rd_int 2147483629)))))⟩
theorem sc_law_words : FnScope ["_law_cell_here", "_law_many", "_law_letters", "_law_size", "_law_word", "_law_k", "_law_at", "_law_made", "_law_sign", "_law_name"] ["_law_cell_here", "_law_many"] (defScope s_law_words) := ⟨rfl, rfl, rfl, by decide +kernel, rfl, by decide +kernel, by decide +kernel⟩
theorem ok_law_words {a : Addr} {fd : FuncData} (F : Fun K "_law_words" "_law_words" s_law_words a fd) (hm : mg "_law_words" = some (.ref a)) (hpt : P.given.tree = none) (n_range : mg "range" = none) (n_min : mg "min" = none) : DefAt P w K mg base ca 35 "_law_words" ["_law_cell_here", "_law_many"] f_law_words a fd := by
  refine ⟨def_ok F sc_law_words rfl fun cdv A outer s H E hr => ?_, hm, F.kp, F.binds fun _ _ _ _ _ _ us hl => match us, hl with | [_, _], _ => rfl⟩
  have hu := hr.units
  have hdp := dp_of hr (by decide)
  exact ⟨_, (pss_cons (ps_set (i := 2) sc_law_words.nd rfl (Or.inl rfl) pe_str)
 (pss_cons (ps_set (i := 3) sc_law_words.nd rfl (Or.inl rfl) (pe_op o_add pe_int (pe_op op_modN (pv 0) pe_int)))
 (pss_cons (ps_set (i := 4) sc_law_words.nd rfl (Or.inl rfl) pe_str)
 (pss_cons (ps_for PassesOwn.never rfl (pi_range1 rfl n_range (pa_cons (pv 3) pa_nil)) (pg_name (i := 5) sc_law_words.nd rfl (Or.inl rfl))
 (pss_one (ps_set (i := 4) sc_law_words.nd rfl (Or.inl rfl) (pe_op o_add (pv 4) (pe_ix ix_seq (pv 2) (pe_op op_modN (pe_op o_add (pe_op (o_fdiv hdp hpt ⟨_, _, rfl, rfl, rfl, rfl, rfl⟩) (pv 0) pe_int) (pe_op o_mul (pv 5) (pe_op (o_fdiv hdp hpt ⟨_, _, rfl, rfl, rfl, rfl, rfl⟩) (pv 0) pe_int))) pe_int) (fun _ _ => rfl))))))
 (pss_cons (ps_set (i := 6) sc_law_words.nd rfl (Or.inl rfl) (pe_op op_modN (pe_op (o_fdiv hdp hpt ⟨_, _, rfl, rfl, rfl, rfl, rfl⟩) (pv 0) pe_int) (pv 3)))
 (pss_cons (ps_set (i := 7) sc_law_words.nd rfl (Or.inl rfl) (pe_lst pa_nil))
 (pss_cons (ps_for PassesOwn.never rfl (pi_range1 rfl n_range (pa_cons (pv 1) pa_nil)) (pg_name (i := 5) sc_law_words.nd rfl (Or.inl rfl))
 (pss_cons (ps_set (i := 8) sc_law_words.nd rfl (Or.inl rfl) (pe_ix ix_seq (pv 2) (pe_op op_modN (pe_op o_add (pe_op o_add (pe_op (o_fdiv hdp hpt ⟨_, _, rfl, rfl, rfl, rfl, rfl⟩) (pv 0) pe_int) (pe_op o_mul pe_int (pv 5))) pe_int) pe_int) (fun _ _ => rfl)))
 (pss_cons (ps_set (i := 9) sc_law_words.nd rfl (Or.inl rfl) (pe_op o_add (pe_op o_add (pe_slice sl_str (pv 4) po_none (po_some (pv 6))) (pv 8)) (pe_slice sl_str (pv 4) (po_some (pe_op o_add (pv 6) pe_int)) po_none)))
 (pss_cons (ps_if (pt_cmpR (o_eq hu) (pe_op op_modN (pe_op (o_fdiv hdp hpt ⟨_, _, rfl, rfl, rfl, rfl, rfl⟩) (pv 0) pe_int) pe_int) pe_int (nomark _))
 (pss_one (ps_set (i := 9) sc_law_words.nd rfl (Or.inl rfl) (pe_ix ix_seq (pe_lst (pa_cons (pv 4) (pa_cons (pe_slice sl_str (pv 4) po_none (po_some (pe_un un_neg pe_int))) (pa_cons (pe_op o_add (pv 4) (pv 8)) pa_nil)))) (pe_callB (call_min2 rfl) rfl n_min Boot.«min» (pa_cons (pv 5) (pa_cons pe_int pa_nil))) (fun _ _ => rfl))))
 pss_nil)
 (pss_one (ps_expr (pe_bm PySem.F.plainAttrs_list PySem.F.slot_list_append PySem.F.type_list_append mt_append (pv 7) (pa_cons (pv 9) pa_nil))))))))
 (pss_one (ps_ret (pv 7)))))))))),
   (rd_seq (rd_set (rd_str ("abcdefghijklmnopqrstuvwxyz" : Str)))
 (rd_seq (rd_set (rd_bin rd_add (rd_int 2) (rd_bin rd_mod (rd_var 0) (rd_int 6))))
 (rd_seq (rd_set (rd_str ("" : Str)))
 (rd_seq (rd_for (rd_rng1 (rd_cons (rd_var 3) rd_nil)) (rd_gname 5)
 (rd_set (rd_bin rd_add (rd_var 4) (rd_bin rd_ix (rd_var 2) (rd_bin rd_mod (rd_bin rd_add (rd_bin rd_fdiv (rd_var 0) (rd_int 6)) (rd_bin rd_mul (rd_var 5) (rd_bin rd_fdiv (rd_var 0) (rd_int 156)))) (rd_int 26))))))
 (rd_seq (rd_set (rd_bin rd_mod (rd_bin rd_fdiv (rd_var 0) (rd_int 2)) (rd_var 3)))
 (rd_seq (rd_set (rd_lstC rd_nil))
 (rd_seq (rd_for (rd_rng1 (rd_cons (rd_var 1) rd_nil)) (rd_gname 5)
 (rd_seq (rd_set (rd_bin rd_ix (rd_var 2) (rd_bin rd_mod (rd_bin rd_add (rd_bin rd_add (rd_bin rd_fdiv (rd_var 0) (rd_int 6)) (rd_bin rd_mul (rd_int 3) (rd_var 5))) (rd_int 1)) (rd_int 26))))
 (rd_seq (rd_set (rd_bin rd_add (rd_bin rd_add (rd_slS (rd_var 4) rd_noPart (rd_part (rd_var 6))) (rd_var 8)) (rd_slS (rd_var 4) (rd_part (rd_bin rd_add (rd_var 6) (rd_int 1))) rd_noPart)))
 (rd_seq (rd_if (rd_tst (rd_bin rd_eq (rd_bin rd_mod (rd_bin rd_fdiv (rd_var 0) (rd_int 5)) (rd_int 3)) (rd_int 1)))
 (rd_set (rd_bin rd_ix (rd_lst (rd_cons (rd_var 4) (rd_cons (rd_slS (rd_var 4) rd_noPart (rd_part (rd_un rd_neg (rd_int 1)))) (rd_cons (rd_bin rd_add (rd_var 4) (rd_var 8)) rd_nil)))) (rd_callB rd_min2 (rd_cons (rd_var 5) (rd_cons (rd_int 2) rd_nil)))))
 rd_next)
 (rd_drop (rd_app (rd_var 7) (rd_var 9)))))))
 (rd_ret (rd_frz (rd_var 7))))))))))⟩
theorem sc_law_signed : FnScope ["_law_cell_here", "_law_way"] ["_law_cell_here", "_law_way"] (defScope s_law_signed) := ⟨rfl, rfl, rfl, by decide +kernel, rfl, by decide +kernel, by decide +kernel⟩
theorem ok_law_signed {a : Addr} {fd : FuncData} (F : Fun K "_law_signed" "_law_signed" s_law_signed a fd) (hm : mg "_law_signed" = some (.ref a)) (hpt : P.given.tree = none) : DefAt P w K mg base ca 35 "_law_signed" ["_law_cell_here", "_law_way"] f_law_signed a fd := by
  refine ⟨def_ok F sc_law_signed rfl fun cdv A outer s H E hr => ?_, hm, F.kp, F.binds fun _ _ _ _ _ _ us hl => match us, hl with | [_, _], _ => rfl⟩
  have hu := hr.units
  have hdp := dp_of hr (by decide)
  exact ⟨_, (pss_cons (ps_if (pt_cmpR (o_eq hu) (pv 1) pe_int (nomark _))
 (pss_one (ps_ret (pe_op op_sub (pe_op op_modN (pe_op (o_fdiv hdp hpt ⟨_, _, rfl, rfl, rfl, rfl, rfl⟩) (pv 0) pe_int) pe_int) pe_int)))
 pss_nil)
 (pss_cons (ps_if (pt_cmpR (o_eq hu) (pv 1) pe_int (nomark _))
 (pss_one (ps_ret (pe_op op_sub (pe_op op_modN (pe_op (o_fdiv hdp hpt ⟨_, _, rfl, rfl, rfl, rfl, rfl⟩) (pv 0) pe_int) pe_int) pe_int)))
 pss_nil)
 (pss_one (ps_ret (pe_op o_add (pe_op op_sub (pe_op op_modN (pe_op (o_fdiv hdp hpt ⟨_, _, rfl, rfl, rfl, rfl, rfl⟩) (pv 0) pe_int) (pe_op op_sub (pe_op o_mul pe_int (pe_op op_pow pe_int pe_int)) pe_int)) (pe_op op_pow pe_int pe_int)) pe_int))))),
   (rd_seq (rd_if (rd_tst (rd_bin rd_eq (rd_var 1) (rd_int 0)))
 (rd_ret (rd_bin rd_sub (rd_bin rd_mod (rd_bin rd_fdiv (rd_var 0) (rd_int 4)) (rd_int 41)) (rd_int 20)))
 rd_next)
 (rd_seq (rd_if (rd_tst (rd_bin rd_eq (rd_var 1) (rd_int 1)))
 (rd_ret (rd_bin rd_sub (rd_bin rd_mod (rd_bin rd_fdiv (rd_var 0) (rd_int 4)) (rd_int 2000001)) (rd_int 1000000)))
 rd_next)
 (rd_ret (rd_bin rd_add (rd_bin rd_sub (rd_bin rd_mod (rd_bin rd_fdiv (rd_var 0) (rd_int 4)) (rd_bin rd_sub (rd_bin rd_mul (rd_int 2) (rd_bin rd_pow (rd_int 10) (rd_int 30))) (rd_int 1))) (rd_bin rd_pow (rd_int 10) (rd_int 30))) (rd_int 1)))))⟩
theorem sc_law_common : FnScope ["_law_one", "_law_other", "_law_rest"] ["_law_one", "_law_other"] (defScope s_law_common) := ⟨rfl, rfl, rfl, by decide +kernel, rfl, by decide +kernel, by decide +kernel⟩
theorem ok_law_common {a : Addr} {fd : FuncData} (F : Fun K "_law_common" "_law_common" s_law_common a fd) (hm : mg "_law_common" = some (.ref a)) (hpt : P.given.tree = none) (n_abs : mg "abs" = none) : DefAt P w K mg base ca 35 "_law_common" ["_law_one", "_law_other"] f_law_common a fd := by
  refine ⟨def_ok F sc_law_common rfl fun cdv A outer s H E hr => ?_, hm, F.kp, F.binds fun _ _ _ _ _ _ us hl => match us, hl with | [_, _], _ => rfl⟩
  have hu := hr.units
  have hdp := dp_of hr (by decide)
  exact ⟨_, (pss_cons (ps_set (i := 0) sc_law_common.nd rfl (Or.inl rfl) (pe_callB call_abs rfl n_abs Boot.«abs» (pa_cons (pv 0) pa_nil)))
 (pss_cons (ps_set (i := 1) sc_law_common.nd rfl (Or.inl rfl) (pe_callB call_abs rfl n_abs Boot.«abs» (pa_cons (pv 1) pa_nil)))
 (pss_cons (ps_while PassesOwn.never (pt_cmpR op_gt (pv 1) pe_int (nomark _))
 (pss_cons (ps_set (i := 2) sc_law_common.nd rfl (Or.inl rfl) (pe_op op_modN (pv 0) (pv 1)))
 (pss_cons (ps_set (i := 0) sc_law_common.nd rfl (Or.inl rfl) (pv 1))
 (pss_one (ps_set (i := 1) sc_law_common.nd rfl (Or.inl rfl) (pv 2))))))
 (pss_one (ps_ret (pv 0)))))),
   (rd_seq (rd_set (rd_callB rd_abs (rd_cons (rd_var 0) rd_nil)))
 (rd_seq (rd_set (rd_callB rd_abs (rd_cons (rd_var 1) rd_nil)))
 (rd_seq (rd_while (rd_tst (rd_bin rd_gt (rd_var 1) (rd_int 0)))
 (rd_seq (rd_set (rd_bin rd_mod (rd_var 0) (rd_var 1)))
 (rd_seq (rd_set (rd_var 1))
 (rd_set (rd_var 2)))))
 (rd_ret (rd_var 0)))))⟩
theorem sc_law_numbers : FnScope ["_law_cell_here", "_law_many", "_law_made", "_law_k"] ["_law_cell_here", "_law_many"] (defScope s_law_numbers) := ⟨rfl, rfl, rfl, by decide +kernel, rfl, by decide +kernel, by decide +kernel⟩
theorem ok_law_numbers {a : Addr} {fd : FuncData} (F : Fun K "_law_numbers" "_law_numbers" s_law_numbers a fd) (hm : mg "_law_numbers" = some (.ref a)) (hpt : P.given.tree = none) (n_range : mg "range" = none) (D_law_next : DefIn P w K mg base ca 35 "_law_next" ["_law_cell_here", "_law_k"] f_law_next) (D_law_signed : DefIn P w K mg base ca 35 "_law_signed" ["_law_cell_here", "_law_way"] f_law_signed) : DefAt P w K mg base ca 36 "_law_numbers" ["_law_cell_here", "_law_many"] f_law_numbers a fd := by
  obtain ⟨a_law_next, fd_law_next, G_law_next, m_law_next, k_law_next, b_law_next⟩ := D_law_next
  obtain ⟨a_law_signed, fd_law_signed, G_law_signed, m_law_signed, k_law_signed, b_law_signed⟩ := D_law_signed
  refine ⟨def_ok F sc_law_numbers rfl fun cdv A outer s H E hr => ?_, hm, F.kp, F.binds fun _ _ _ _ _ _ us hl => match us, hl with | [_, _], _ => rfl⟩
  have hu := hr.units
  have hdp := dp_of hr (by decide)
  exact ⟨_, (pss_cons (ps_set (i := 2) sc_law_numbers.nd rfl (Or.inl rfl) (pe_lst pa_nil))
 (pss_cons (ps_for PassesOwn.never rfl (pi_range1 rfl n_range (pa_cons (pv 1) pa_nil)) (pg_name (i := 3) sc_law_numbers.nd rfl (Or.inl rfl))
 (pss_cons (ps_set (i := 0) sc_law_numbers.nd rfl (Or.inl rfl) (pe_call G_law_next (hr.mono (by decide)) rfl m_law_next k_law_next b_law_next .nil passN (pa_cons (pv 0) (pa_cons (pe_op op_modN (pv 3) pe_int) pa_nil))))
 (pss_one (ps_expr (pe_bm PySem.F.plainAttrs_list PySem.F.slot_list_append PySem.F.type_list_append mt_append (pv 2) (pa_cons (pe_ix ix_seq (pe_lst (pa_cons pe_int (pa_cons (pe_op op_sub (pe_op op_modN (pe_op (o_fdiv hdp hpt ⟨_, _, rfl, rfl, rfl, rfl, rfl⟩) (pv 0) pe_int) pe_int) pe_int) (pa_cons (pe_call G_law_signed (hr.mono (by decide)) rfl m_law_signed k_law_signed b_law_signed .nil passN (pa_cons (pe_op o_mul (pe_op o_mul (pe_op o_mul (pv 0) (pv 0)) (pv 0)) (pv 0)) (pa_cons (pe_op op_sub pe_int (pe_op op_modN (pv 3) pe_int)) pa_nil))) pa_nil)))) (pe_op op_modN (pv 0) pe_int) (fun _ _ => rfl)) pa_nil))))))
 (pss_one (ps_ret (pv 2))))),
   (rd_seq (rd_set (rd_lstC rd_nil))
 (rd_seq (rd_for (rd_rng1 (rd_cons (rd_var 1) rd_nil)) (rd_gname 3)
 (rd_seq (rd_set (rd_callP (n := 2) (f := f_law_next) (rd_cons (rd_var 0) (rd_cons (rd_bin rd_mod (rd_var 3) (rd_int 3)) rd_nil))))
 (rd_drop (rd_app (rd_var 2) (rd_bin rd_ix (rd_lst (rd_cons (rd_int 0) (rd_cons (rd_bin rd_sub (rd_bin rd_mod (rd_bin rd_fdiv (rd_var 0) (rd_int 3)) (rd_int 13)) (rd_int 6)) (rd_cons (rd_callP (n := 2) (f := f_law_signed) (rd_cons (rd_bin rd_mul (rd_bin rd_mul (rd_bin rd_mul (rd_var 0) (rd_var 0)) (rd_var 0)) (rd_var 0)) (rd_cons (rd_bin rd_sub (rd_int 2) (rd_bin rd_mod (rd_var 3) (rd_int 2))) rd_nil))) rd_nil)))) (rd_bin rd_mod (rd_var 0) (rd_int 3)))))))
 (rd_ret (rd_frz (rd_var 2)))))⟩
theorem sc_law_text : FnScope ["_law_numbers_here", "_law_names", "_law_made", "_law_k"] ["_law_numbers_here", "_law_names"] (defScope s_law_text) := ⟨rfl, rfl, rfl, by decide +kernel, rfl, by decide +kernel, by decide +kernel⟩
theorem ok_law_text {a : Addr} {fd : FuncData} (F : Fun K "_law_text" "_law_text" s_law_text a fd) (hm : mg "_law_text" = some (.ref a)) (hpt : P.given.tree = none) (n_len : mg "len" = none) (n_range : mg "range" = none) (n_str : mg "str" = none) : DefAt P w K mg base ca 35 "_law_text" ["_law_numbers_here", "_law_names"] f_law_text a fd := by
  refine ⟨def_ok F sc_law_text rfl fun cdv A outer s H E hr => ?_, hm, F.kp, F.binds fun _ _ _ _ _ _ us hl => match us, hl with | [_, _], _ => rfl⟩
  have hu := hr.units
  have hdp := dp_of hr (by decide)
  exact ⟨_, (pss_cons (ps_set (i := 2) sc_law_text.nd rfl (Or.inl rfl) pe_str)
 (pss_cons (ps_for PassesOwn.never rfl (pi_range1 rfl n_range (pa_cons (pe_callB call_len rfl n_len Boot.«len» (pa_cons (pv 0) pa_nil)) pa_nil)) (pg_name (i := 3) sc_law_text.nd rfl (Or.inl rfl))
 (pss_one (ps_if (pt_cmpR (o_ne hu) (pe_ix ix_seq (pv 0) (pv 3) (fun _ _ => rfl)) pe_int (nomark _))
 (pss_one (ps_set (i := 2) sc_law_text.nd rfl (Or.inl rfl) (pe_op o_add (pe_op o_add (pe_op o_add (pe_op o_add (pv 2) pe_str) (pe_callTy call_str_int rfl n_str Boot.«str» (pa_cons (pe_ix ix_seq (pv 0) (pv 3) (fun _ _ => rfl)) pa_nil))) pe_str) (pe_ix ix_seq (pv 1) (pv 3) (fun _ _ => rfl)))))
 pss_nil)))
 (pss_cons (ps_if (pt_cmpR (o_eq hu) (pv 2) pe_str (nomark _))
 (pss_one (ps_ret pe_str))
 pss_nil)
 (pss_one (ps_ret (pe_slice sl_str (pv 2) (po_some pe_int) po_none)))))),
   (rd_seq (rd_set (rd_str ("" : Str)))
 (rd_seq (rd_for (rd_rng1 (rd_cons (rd_callB rd_len (rd_cons (rd_var 0) rd_nil)) rd_nil)) (rd_gname 3)
 (rd_if (rd_tst (rd_bin rd_ne (rd_bin rd_ix (rd_var 0) (rd_var 3)) (rd_int 0)))
 (rd_set (rd_bin rd_add (rd_bin rd_add (rd_bin rd_add (rd_bin rd_add (rd_var 2) (rd_str (" " : Str))) (rd_callB rd_strD (rd_cons (rd_bin rd_ix (rd_var 0) (rd_var 3)) rd_nil))) (rd_str (" " : Str))) (rd_bin rd_ix (rd_var 1) (rd_var 3))))
 rd_next))
 (rd_seq (rd_if (rd_tst (rd_bin rd_eq (rd_var 2) (rd_str ("" : Str))))
 (rd_ret (rd_str ("nothing" : Str)))
 rd_next)
 (rd_ret (rd_slS (rd_var 2) (rd_part (rd_int 1)) rd_noPart)))))⟩
theorem sc_law : FnScope ["_law_script", "_law_cell_here", "_law_names", "_law_numbers_here", "_law_handed", "_law_found", "_law_top", "_law_bottom", "_law_common_here", "_law_due"] ["_law_script"] (defScope s_law) := ⟨rfl, rfl, rfl, by decide +kernel, rfl, by decide +kernel, by decide +kernel⟩
theorem ok_law {a : Addr} {fd : FuncData} (F : Fun K "law" "law" s_law a fd) (hm : mg "law" = some (.ref a)) (hpt : P.given.tree = none) (n_len : mg "len" = none) (n_list : mg "list" = none) (n_isinstance : mg "isinstance" = none) (n_str : mg "str" = none) (n_max : mg "max" = none) (D_law_cell : DefIn P w K mg base ca 35 "_law_cell" ["_law_script", "_law_k"] f_law_cell) (D_law_words : DefIn P w K mg base ca 35 "_law_words" ["_law_cell_here", "_law_many"] f_law_words) (D_law_next : DefIn P w K mg base ca 35 "_law_next" ["_law_cell_here", "_law_k"] f_law_next) (D_law_numbers : DefIn P w K mg base ca 36 "_law_numbers" ["_law_cell_here", "_law_many"] f_law_numbers) (D_show_list : DefIn P w K mg base ca 37 "show_list" ["numbers", "names"] f_show_list) (D_law_text : DefIn P w K mg base ca 35 "_law_text" ["_law_numbers_here", "_law_names"] f_law_text) (D_law_signed : DefIn P w K mg base ca 35 "_law_signed" ["_law_cell_here", "_law_way"] f_law_signed) (D_law_common : DefIn P w K mg base ca 35 "_law_common" ["_law_one", "_law_other"] f_law_common) (D_show_ratio : DefIn P w K mg base ca 36 "show_ratio" ["one"] f_show_ratio) : DefAt P w K mg base ca 38 "law" ["_law_script"] f_law a fd := by
  obtain ⟨a_law_cell, fd_law_cell, G_law_cell, m_law_cell, k_law_cell, b_law_cell⟩ := D_law_cell
  obtain ⟨a_law_words, fd_law_words, G_law_words, m_law_words, k_law_words, b_law_words⟩ := D_law_words
  obtain ⟨a_law_next, fd_law_next, G_law_next, m_law_next, k_law_next, b_law_next⟩ := D_law_next
  obtain ⟨a_law_numbers, fd_law_numbers, G_law_numbers, m_law_numbers, k_law_numbers, b_law_numbers⟩ := D_law_numbers
  obtain ⟨a_show_list, fd_show_list, G_show_list, m_show_list, k_show_list, b_show_list⟩ := D_show_list
  obtain ⟨a_law_text, fd_law_text, G_law_text, m_law_text, k_law_text, b_law_text⟩ := D_law_text
  obtain ⟨a_law_signed, fd_law_signed, G_law_signed, m_law_signed, k_law_signed, b_law_signed⟩ := D_law_signed
  obtain ⟨a_law_common, fd_law_common, G_law_common, m_law_common, k_law_common, b_law_common⟩ := D_law_common
  obtain ⟨a_show_ratio, fd_show_ratio, G_show_ratio, m_show_ratio, k_show_ratio, b_show_ratio⟩ := D_show_ratio
  refine ⟨def_ok F sc_law rfl fun cdv A outer s H E hr => ?_, hm, F.kp, F.binds fun _ _ _ _ _ _ us hl => match us, hl with | [_], _ => rfl⟩
  have hu := hr.units
  have hdp := dp_of hr (by decide)
  exact ⟨_, (pss_cons (ps_for PassesOwn.never rfl (pi_list (pe_op o_add (pe_lst (pa_cons (pe_call G_law_cell (hr.mono (by decide)) rfl m_law_cell k_law_cell b_law_cell .nil passN (pa_cons (pv 0) (pa_cons pe_int pa_nil))) pa_nil)) (pe_slice sl_list (pv 0) po_none (po_some pe_int)))) (pg_name (i := 1) sc_law.nd rfl (Or.inl rfl))
 (pss_cons (ps_set (i := 2) sc_law.nd rfl (Or.inl rfl) (pe_slice sl_list (pe_call G_law_words (hr.mono (by decide)) rfl m_law_words k_law_words b_law_words .nil passN (pa_cons (pe_op op_modN (pv 1) (pe_op op_pow pe_int pe_int)) (pa_cons pe_int pa_nil))) po_none (po_some (pe_op op_modN (pe_op (o_fdiv hdp hpt ⟨_, _, rfl, rfl, rfl, rfl, rfl⟩) (pe_call G_law_next (hr.mono (by decide)) rfl m_law_next k_law_next b_law_next .nil passN (pa_cons (pv 1) (pa_cons pe_int pa_nil))) pe_int) pe_int))))
 (pss_cons (ps_set (i := 3) sc_law.nd rfl (Or.inl rfl) (pe_call G_law_numbers (hr.mono (by decide)) rfl m_law_numbers k_law_numbers b_law_numbers .nil passN (pa_cons (pe_call G_law_next (hr.mono (by decide)) rfl m_law_next k_law_next b_law_next .nil passN (pa_cons (pv 1) (pa_cons pe_int pa_nil))) (pa_cons (pe_callB call_len rfl n_len Boot.«len» (pa_cons (pv 2) pa_nil)) pa_nil))))
 (pss_cons (ps_set (i := 4) sc_law.nd rfl (Or.inl rfl) (pe_lst (pa_cons (pe_callTy call_list_of rfl n_list Boot.«list» (pa_cons (pv 3) pa_nil)) (pa_cons (pe_callTy call_list_of rfl n_list Boot.«list» (pa_cons (pv 2) pa_nil)) pa_nil))))
 (pss_cons (ps_set (i := 5) sc_law.nd rfl (Or.inl rfl) (pe_call G_show_list (hr.mono (by decide)) rfl m_show_list k_show_list b_show_list .nil passN (pa_cons (pe_ix ix_seq (pv 4) pe_int (fun _ _ => rfl)) (pa_cons (pe_ix ix_seq (pv 4) pe_int (fun _ _ => rfl)) pa_nil))))
 (pss_cons (ps_if (PW.pt (pw_or (pt_not (pt_val (pe_callB call_isi rfl n_isinstance Boot.«isinstance» (pa_cons (pv 5) (pa_cons (pe_bltn (v := .ty "str") rfl n_str Boot.«str» rfl) pa_nil))))) (pw_or (pt_cmpR (o_ne hu) (pv 5) (pe_call G_law_text (hr.mono (by decide)) rfl m_law_text k_law_text b_law_text .nil passN (pa_cons (pv 3) (pa_cons (pv 2) pa_nil))) (nomark _)) (pw_or1 (pt_cmpR (o_ne hu) (pv 4) (pe_lst (pa_cons (pv 3) (pa_cons (pv 2) pa_nil))) (nomark _))))))
 (pss_one (ps_ret pe_bl))
 pss_nil)
 (pss_cons (ps_set (i := 6) sc_law.nd rfl (Or.inl rfl) (pe_call G_law_signed (hr.mono (by decide)) rfl m_law_signed k_law_signed b_law_signed .nil passN (pa_cons (pv 1) (pa_cons (pe_op op_modN (pv 1) pe_int) pa_nil))))
 (pss_cons (ps_set (i := 7) sc_law.nd rfl (Or.inl rfl) (pe_op o_add pe_int (pe_op op_modN (pe_op (o_fdiv hdp hpt ⟨_, _, rfl, rfl, rfl, rfl, rfl⟩) (pv 1) pe_int) pe_int)))
 (pss_cons (ps_set (i := 8) sc_law.nd rfl (Or.inl rfl) (pe_callB (call_max2 rfl) rfl n_max Boot.«max» (pa_cons pe_int (pa_cons (pe_call G_law_common (hr.mono (by decide)) rfl m_law_common k_law_common b_law_common .nil passN (pa_cons (pv 6) (pa_cons (pv 7) pa_nil))) pa_nil))))
 (pss_cons (ps_set (i := 9) sc_law.nd rfl (Or.inl rfl) (pe_callTy call_str_int rfl n_str Boot.«str» (pa_cons (pe_op (o_fdiv hdp hpt ⟨_, _, rfl, rfl, rfl, rfl, rfl⟩) (pv 6) (pv 8)) pa_nil)))
 (pss_cons (ps_if (pt_cmpR op_gt (pe_op (o_fdiv hdp hpt ⟨_, _, rfl, rfl, rfl, rfl, rfl⟩) (pv 7) (pv 8)) pe_int (nomark _))
 (pss_one (ps_set (i := 9) sc_law.nd rfl (Or.inl rfl) (pe_op o_add (pe_op o_add (pv 9) pe_str) (pe_callTy call_str_int rfl n_str Boot.«str» (pa_cons (pe_op (o_fdiv hdp hpt ⟨_, _, rfl, rfl, rfl, rfl, rfl⟩) (pv 7) (pv 8)) pa_nil)))))
 pss_nil)
 (pss_one (ps_if (PW.pt (pw_or (pt_cmpR (o_ne hu) (pe_call G_show_ratio (hr.mono (by decide)) rfl m_show_ratio k_show_ratio b_show_ratio .nil passN (pa_cons (pe_tup (pa_cons (pe_op (o_fdiv hdp hpt ⟨_, _, rfl, rfl, rfl, rfl, rfl⟩) (pv 6) (pv 8)) (pa_cons (pe_op (o_fdiv hdp hpt ⟨_, _, rfl, rfl, rfl, rfl, rfl⟩) (pv 7) (pv 8)) pa_nil))) pa_nil)) (pv 9) (nomark _)) (pw_or1 (pt_cmpR (o_ne hu) (pe_call G_show_ratio (hr.mono (by decide)) rfl m_show_ratio k_show_ratio b_show_ratio .nil passN (pa_cons (pe_tup (pa_cons (pv 6) (pa_cons pe_int pa_nil))) pa_nil)) (pe_callTy call_str_int rfl n_str Boot.«str» (pa_cons (pv 6) pa_nil)) (nomark _)))))
 (pss_one (ps_ret pe_bl))
 pss_nil)))))))))))))
 (pss_one (ps_ret pe_bl))),
   (rd_seq (rd_for (rd_list (rd_bin rd_add (rd_lst (rd_cons (rd_callP (n := 2) (f := f_law_cell) (rd_cons (rd_var 0) (rd_cons (rd_int 0) rd_nil))) rd_nil)) (rd_sl (rd_var 0) rd_noPart (rd_part (rd_int 30))))) (rd_gname 1)
 (rd_seq (rd_set (rd_sl (rd_callP (n := 2) (f := f_law_words) (rd_cons (rd_bin rd_mod (rd_var 1) (rd_bin rd_pow (rd_int 10) (rd_int 30))) (rd_cons (rd_int 8) rd_nil))) rd_noPart (rd_part (rd_bin rd_mod (rd_bin rd_fdiv (rd_callP (n := 2) (f := f_law_next) (rd_cons (rd_var 1) (rd_cons (rd_int 0) rd_nil))) (rd_int 5)) (rd_int 9)))))
 (rd_seq (rd_set (rd_callP (n := 2) (f := f_law_numbers) (rd_cons (rd_callP (n := 2) (f := f_law_next) (rd_cons (rd_var 1) (rd_cons (rd_int 1) rd_nil))) (rd_cons (rd_callB rd_len (rd_cons (rd_var 2) rd_nil)) rd_nil))))
 (rd_seq (rd_set (rd_lst (rd_cons (rd_callB rd_listF (rd_cons (rd_var 3) rd_nil)) (rd_cons (rd_callB rd_listF (rd_cons (rd_var 2) rd_nil)) rd_nil))))
 (rd_seq (rd_set (rd_callP (n := 2) (f := f_show_list) (rd_cons (rd_bin rd_ix (rd_var 4) (rd_int 0)) (rd_cons (rd_bin rd_ix (rd_var 4) (rd_int 1)) rd_nil))))
 (rd_seq (rd_if (rd_or (rd_not (rd_tB (rd_isi ty_str (rd_var 5)))) (rd_or (rd_tst (rd_bin rd_ne (rd_var 5) (rd_callP (n := 2) (f := f_law_text) (rd_cons (rd_var 3) (rd_cons (rd_var 2) rd_nil))))) (rd_tst (rd_bin rd_ne (rd_var 4) (rd_lst (rd_cons (rd_var 3) (rd_cons (rd_var 2) rd_nil)))))))
 (rd_ret (rd_bl false))
 rd_next)
 (rd_seq (rd_set (rd_callP (n := 2) (f := f_law_signed) (rd_cons (rd_var 1) (rd_cons (rd_bin rd_mod (rd_var 1) (rd_int 3)) rd_nil))))
 (rd_seq (rd_set (rd_bin rd_add (rd_int 1) (rd_bin rd_mod (rd_bin rd_fdiv (rd_var 1) (rd_int 7)) (rd_int 30))))
 (rd_seq (rd_set (rd_callB rd_max2 (rd_cons (rd_int 1) (rd_cons (rd_callP (n := 2) (f := f_law_common) (rd_cons (rd_var 6) (rd_cons (rd_var 7) rd_nil))) rd_nil))))
 (rd_seq (rd_set (rd_callB rd_strD (rd_cons (rd_bin rd_fdiv (rd_var 6) (rd_var 8)) rd_nil)))
 (rd_seq (rd_if (rd_tst (rd_bin rd_gt (rd_bin rd_fdiv (rd_var 7) (rd_var 8)) (rd_int 1)))
 (rd_set (rd_bin rd_add (rd_bin rd_add (rd_var 9) (rd_str ("/" : Str))) (rd_callB rd_strD (rd_cons (rd_bin rd_fdiv (rd_var 7) (rd_var 8)) rd_nil))))
 rd_next)
 (rd_if (rd_or (rd_tst (rd_bin rd_ne (rd_callP (n := 1) (f := f_show_ratio) (rd_cons (rd_tup (rd_cons (rd_bin rd_fdiv (rd_var 6) (rd_var 8)) (rd_cons (rd_bin rd_fdiv (rd_var 7) (rd_var 8)) rd_nil))) rd_nil)) (rd_var 9))) (rd_tst (rd_bin rd_ne (rd_callP (n := 1) (f := f_show_ratio) (rd_cons (rd_tup (rd_cons (rd_var 6) (rd_cons (rd_int 1) rd_nil))) rd_nil)) (rd_callB rd_strD (rd_cons (rd_var 6) rd_nil)))))
 (rd_ret (rd_bl false))
 rd_next))))))))))))
 (rd_ret (rd_bl true)))⟩
end
end Lk41
set_option maxRecDepth 100000
set_option maxHeartbeats 4000000
namespace Lk41
open PySem PySem.Spec PyProof.Rows L2 M
theorem addD_strs {O : Store} {a b : Str} (h : a.length + b.length ≤ 1000000) : addD O (.str a) (.str b) = .ok (.str (a ++ b)) := if_pos (le_line h)
theorem str_app_len (a b : Str) : (a ++ b).length = a.length + b.length := Str.length_append a b
abbrev ABC : Str := "abcdefghijklmnopqrstuvwxyz"
theorem abc_sg : sg ABC = (List.range 26).map (97 + ·) := by decide
def mkS (l : List Nat) : Str := ⟨l.toArray⟩
theorem sg_mk (l : List Nat) : sg (mkS l) = l := by simp [sg, mkS]
theorem mk_len (l : List Nat) : (mkS l).length = l.length := by rw [← sg_len, sg_mk]
def azL (l : List Nat) : Prop := ∀ c ∈ l, 97 ≤ c ∧ c ≤ 122
structure GoodN (z : Str) : Prop where
  lo : 1 ≤ z.length
  hi : z.length ≤ 8
  az : azL (sg z)
theorem ix_abc {O : Store} {i : Int} (h0 : 0 ≤ i) (h1 : i < 26) : ixD O (.str ABC) (.int i) = .ok (.str (mkS [97 + i.toNat])) := by
  have hl : i.toNat < ABC.cps.toList.length := by rw [show ABC.cps.toList.length = 26 by decide]; omega
  have ha := atI_nat' hl
  rw [show ((i.toNat : Nat) : Int) = i by omega] at ha
  have hv : ABC.cps.toList[i.toNat] = 97 + i.toNat := by
    have := abc_sg
    rw [List.getElem_of_eq this]
    simp
  rw [hv] at ha
  show (if ABC.length ≤ 16777216 then (match atI ABC.cps.toList i with
      | some c => Res.ok (D.str ⟨#[c]⟩)
      | none => .bad) else .bad) = _
  rw [if_pos (by decide), ha]
  rfl
theorem range_split {n : Nat} {pre rest : List D} {d : D} (h : (List.range n).map (fun (i : Nat) => D.int (i : Int)) = pre ++ d :: rest) : d = .int (pre.length : Int) ∧ pre.length < n := by
  have h1 : ((List.range n).map (fun (i : Nat) => D.int (i : Int)))[pre.length]? = some d := by rw [h]; simp
  have h2 : pre.length < n := by
    have := congrArg List.length h
    simp at this
    omega
  rw [List.getElem?_map, List.getElem?_range h2] at h1
  exact ⟨by simpa using h1.symm, h2⟩
def sgnN (q : Int) (k : Nat) : Nat := 97 + ((q + 3 * (k : Int) + 1) % 26).toNat
def nmK (wd : List Nat) (at_ : Nat) (q : Int) (B : Bool) (k : Nat) : List Nat :=
  if B then (if k = 0 then wd else if k = 1 then wd.take (wd.length - 1) else wd ++ [sgnN q k]) else wd.take at_ ++ [sgnN q k] ++ wd.drop (at_ + 1)
theorem sgnN_az (q : Int) (k : Nat) : 97 ≤ sgnN q k ∧ sgnN q k ≤ 122 := by unfold sgnN; omega
theorem nmK_len {wd : List Nat} {at_ k : Nat} {q : Int} {B : Bool} (h : at_ < wd.length) : (nmK wd at_ q B k).length = if B then (if k = 0 then wd.length else if k = 1 then wd.length - 1 else wd.length + 1) else wd.length := by
  unfold nmK
  cases B with
  | false => simp; omega
  | true =>
    by_cases h0 : k = 0
    · simp [h0]
    · by_cases h1 : k = 1
      · simp [h1]
      · simp [h0, h1]
theorem nmK_good {wd : List Nat} {at_ k : Nat} {q : Int} {B : Bool} (h : at_ < wd.length) (h2 : 2 ≤ wd.length) (h7 : wd.length ≤ 7) (haz : azL wd) : GoodN (mkS (nmK wd at_ q B k)) := by
  have hl := nmK_len (k := k) (q := q) (B := B) h
  refine ⟨?_, ?_, ?_⟩
  · rw [mk_len, hl]; split
    · split
      · omega
      · split <;> omega
    · omega
  · rw [mk_len, hl]; split
    · split
      · omega
      · split <;> omega
    · omega
  · rw [sg_mk]
    intro c hc
    unfold nmK at hc
    have one : c ∈ [sgnN q k] → 97 ≤ c ∧ c ≤ 122 := fun z => by rw [List.mem_singleton.mp z]; exact sgnN_az q k
    split at hc
    · split at hc
      · exact haz c hc
      · split at hc
        · exact haz c (List.mem_of_mem_take hc)
        · rcases List.mem_append.mp hc with z | z
          · exact haz c z
          · exact one z
    · rcases List.mem_append.mp hc with z | z
      · rcases List.mem_append.mp z with y | y
        · exact haz c (List.mem_of_mem_take y)
        · exact one y
      · exact haz c (List.mem_of_mem_drop z)
theorem nmK_ne {wd : List Nat} {at_ i j : Nat} {q : Int} {B : Bool} (h : at_ < wd.length) (h2 : 2 ≤ wd.length) (hij : i < j) (hj : j < 8) : nmK wd at_ q B i ≠ nmK wd at_ q B j := by
  intro e
  have hs : sgnN q i ≠ sgnN q j := by unfold sgnN; omega
  cases B with
  | false =>
    unfold nmK at e
    simp only [if_neg Bool.false_ne_true] at e
    have hl : (wd.take at_).length = at_ := by rw [List.length_take]; omega
    have key : ∀ x : Nat, (wd.take at_ ++ [x] ++ wd.drop (at_ + 1))[at_]? = some x := fun x => by
      rw [List.append_assoc, List.getElem?_append_right (by omega), hl, Nat.sub_self]; rfl
    have e1 : (wd.take at_ ++ [sgnN q i] ++ wd.drop (at_ + 1))[at_]? = (wd.take at_ ++ [sgnN q j] ++ wd.drop (at_ + 1))[at_]? := by rw [e]
    rw [key, key] at e1
    have e1 : sgnN q i = sgnN q j := by simpa using e1
    exact hs e1
  | true =>
    have hl := congrArg List.length e
    rw [nmK_len h, nmK_len h] at hl
    simp only [if_true] at hl
    by_cases h0 : i = 0
    · subst h0
      rw [if_pos rfl, if_neg (by omega)] at hl
      split at hl <;> omega
    · rw [if_neg h0, if_neg (show ¬ j = 0 by omega)] at hl
      by_cases h1 : i = 1
      · rw [if_pos h1, if_neg (by omega)] at hl; omega
      · unfold nmK at e
        rw [if_pos rfl, if_pos rfl, if_neg h0, if_neg h1, if_neg (show ¬ j = 0 by omega), if_neg (show ¬ j = 1 by omega)] at e
        have := List.append_cancel_left e
        simp at this
        exact hs this
theorem words_nodup {wd : List Nat} {at_ n : Nat} {q : Int} {B : Bool} (h : at_ < wd.length) (h2 : 2 ≤ wd.length) (hn : n ≤ 8) : ((List.range n).map fun k => mkS (nmK wd at_ q B k)).Nodup := by
  unfold List.Nodup
  rw [List.pairwise_map]
  refine List.Pairwise.imp_of_mem ?_ (List.pairwise_lt_range (n := n))
  intro i j _ hj hij e
  have := congrArg sg e
  rw [sg_mk, sg_mk] at this
  exact nmK_ne h h2 hij (by have := List.mem_range.mp hj; omega) this
abbrev sD (l : List Str) : D := .lst (l.map D.str)
theorem words1 {c k : Int} {many size : Int} {wd : List Nat} {x6 x7 x8 x9 : Option D} (hk : 0 ≤ k ∧ k < 100) (hl : wd.length ≤ 1000) :
    ∃ r, b_law_words_1 ⟨[some (.int c), some (.int many), some (.str ABC), some (.int size), some (.str (mkS wd)), some (.int k), x6, x7, x8, x9], []⟩ = .next ⟨[some (.int c), some (.int many), some (.str ABC), some (.int size), some (.str (mkS (wd ++ [r]))), some (.int k), x6, x7, x8, x9], []⟩ ∧ 97 ≤ r ∧ r ≤ 122 := by
  have h0 : 0 ≤ (c / 6 + k * (c / 156)) % 26 := by omega
  have h1 : (c / 6 + k * (c / 156)) % 26 < 26 := by omega
  refine ⟨97 + ((c / 6 + k * (c / 156)) % 26).toNat, ?_, by omega, by omega⟩
  rw [b_law_words_1]
  refine setM_eq (i := 4) (s' := ⟨[some (.int c), some (.int many), some (.str ABC), some (.int size), some (.str (mkS wd)), some (.int k), x6, x7, x8, x9], []⟩) ?_
  rw [binM_ev, varM_ev (i := 4) rfl, bind_ok]
  dsimp only
  rw [binM_ev, varM_ev (i := 2) rfl, bind_ok]
  dsimp only
  rw [binM_ev, binM_ev, binM_ev, varM_ev (i := 0) rfl, bind_ok, cstM_ev, bind_ok]
  dsimp only
  rw [fdivD_small (by decide) (by decide), bind_ok, bind_ok, binM_ev, varM_ev (i := 5) rfl, bind_ok, binM_ev, varM_ev (i := 0) rfl, bind_ok, cstM_ev, bind_ok]
  dsimp only
  rw [fdivD_small (by decide) (by decide), bind_ok, bind_ok]
  dsimp only
  rw [mulD_int (mul_small (.inl (by omega))), bind_ok, bind_ok]
  dsimp only
  rw [addD_int, bind_ok, bind_ok, cstM_ev, bind_ok]
  dsimp only
  rw [modD_pos (by decide), bind_ok, bind_ok]
  dsimp only
  rw [ix_abc h0 h1, bind_ok, bind_ok]
  dsimp only
  rw [addD_strs (by rw [mk_len, mk_len]; simp; omega), bind_ok]
  rw [show mkS wd ++ mkS [97 + ((c / 6 + k * (c / 156)) % 26).toNat] = mkS (wd ++ [97 + ((c / 6 + k * (c / 156)) % 26).toNat]) from sg_inj (by rw [sg_app, sg_mk, sg_mk, sg_mk])]
theorem words2 {c : Int} {many size : Int} {wd : List Nat} {at_ k : Nat} {ws : List Str} {x8 x9 : Option D} (hat : at_ < wd.length) (h2 : 2 ≤ wd.length) (hw : wd.length ≤ 7) (hk : k < 100) (hl : ws.length ≤ 1000) :
    ∃ y8 y9, b_law_words_2 ⟨[some (.int c), some (.int many), some (.str ABC), some (.int size), some (.str (mkS wd)), some (.int (k : Int)), some (.int (at_ : Int)), some (.ptr 0), x8, x9], [.lst (ws.map D.str)]⟩ = .next ⟨[some (.int c), some (.int many), some (.str ABC), some (.int size), some (.str (mkS wd)), some (.int (k : Int)), some (.int (at_ : Int)), some (.ptr 0), y8, y9], [.lst ((ws ++ [mkS (nmK wd at_ (c / 6) (decide (c / 5 % 3 = 1)) k)]).map D.str)]⟩ := by
  have h0 : 0 ≤ (c / 6 + 3 * (k : Int) + 1) % 26 := by omega
  have h1 : (c / 6 + 3 * (k : Int) + 1) % 26 < 26 := by omega
  have e8 := setM_eq (i := 8) (m := binM ixD (varM 2) (binM modD (binM addD (binM addD (binM fdivD (varM 0) (cstM (.int 6))) (binM mulD (cstM (.int 3)) (varM 5))) (cstM (.int 1))) (cstM (.int 26)))) (s := ⟨[some (.int c), some (.int many), some (.str ABC), some (.int size), some (.str (mkS wd)), some (.int (k : Int)), some (.int (at_ : Int)), some (.ptr 0), x8, x9], [.lst (ws.map D.str)]⟩) (s' := ⟨[some (.int c), some (.int many), some (.str ABC), some (.int size), some (.str (mkS wd)), some (.int (k : Int)), some (.int (at_ : Int)), some (.ptr 0), x8, x9], [.lst (ws.map D.str)]⟩) (d := .str (mkS [sgnN (c / 6) k])) (by
    rw [binM_ev, varM_ev (i := 2) rfl, bind_ok]
    dsimp only
    rw [binM_ev, binM_ev, binM_ev, binM_ev, varM_ev (i := 0) rfl, bind_ok, cstM_ev, bind_ok]
    dsimp only
    rw [fdivD_small (by decide) (by decide), bind_ok, bind_ok, binM_ev, cstM_ev, bind_ok, varM_ev (i := 5) rfl, bind_ok]
    dsimp only
    rw [mulD_int (mul_small (.inl (by decide))), bind_ok, bind_ok]
    dsimp only
    rw [addD_int, bind_ok, bind_ok, cstM_ev, bind_ok]
    dsimp only
    rw [addD_int, bind_ok, bind_ok, cstM_ev, bind_ok]
    dsimp only
    rw [modD_pos (by decide), bind_ok, bind_ok]
    dsimp only
    rw [ix_abc h0 h1, bind_ok]
    rfl)
  have hwl : (mkS wd).length = wd.length := mk_len wd
  have p1 : pickS (mkS wd) none (some (at_ : Int)) = mkS (wd.take at_) := sg_inj (by rw [pick_hi (by omega), sg_mk, sg_mk])
  have p2 : pickS (mkS wd) (some ((at_ : Int) + 1)) none = mkS (wd.drop (at_ + 1)) := sg_inj (by rw [show (at_ : Int) + 1 = ((at_ + 1 : Nat) : Int) by omega, pick_lo (by omega), sg_mk, sg_mk])
  have p3 : pickS (mkS wd) none (some (-1)) = mkS (wd.take (wd.length - 1)) := sg_inj (by rw [pick_m1 (by omega), sg_mk, sg_mk, hwl])
  have s1 : ∀ (y8 y9 : Option D), slS (varM 4) noPart (part (varM 6)) ⟨[some (.int c), some (.int many), some (.str ABC), some (.int size), some (.str (mkS wd)), some (.int (k : Int)), some (.int (at_ : Int)), some (.ptr 0), y8, y9], [.lst (ws.map D.str)]⟩ = .ok (.str (mkS (wd.take at_)), ⟨[some (.int c), some (.int many), some (.str ABC), some (.int size), some (.str (mkS wd)), some (.int (k : Int)), some (.int (at_ : Int)), some (.ptr 0), y8, y9], [.lst (ws.map D.str)]⟩) := fun y8 y9 => by
    rw [slS_ev, varM_ev (i := 4) rfl, bind_ok, noPart_ev, bind_ok, part_ev, varM_ev (i := 6) rfl, bind_ok]
    dsimp only
    rw [bind_ok]
    dsimp only
    rw [if_pos (by rw [hwl]; omega), p1]
  have s2 : ∀ (y8 y9 : Option D), slS (varM 4) (part (binM addD (varM 6) (cstM (.int 1)))) noPart ⟨[some (.int c), some (.int many), some (.str ABC), some (.int size), some (.str (mkS wd)), some (.int (k : Int)), some (.int (at_ : Int)), some (.ptr 0), y8, y9], [.lst (ws.map D.str)]⟩ = .ok (.str (mkS (wd.drop (at_ + 1))), ⟨[some (.int c), some (.int many), some (.str ABC), some (.int size), some (.str (mkS wd)), some (.int (k : Int)), some (.int (at_ : Int)), some (.ptr 0), y8, y9], [.lst (ws.map D.str)]⟩) := fun y8 y9 => by
    rw [slS_ev, varM_ev (i := 4) rfl, bind_ok, part_ev, binM_ev, varM_ev (i := 6) rfl, bind_ok, cstM_ev, bind_ok]
    dsimp only
    rw [addD_int, bind_ok, bind_ok]
    dsimp only
    rw [bind_ok, noPart_ev, bind_ok]
    dsimp only
    rw [if_pos (by rw [hwl]; omega), p2]
  have e9 := setM_eq (i := 9) (m := binM addD (binM addD (slS (varM 4) noPart (part (varM 6))) (varM 8)) (slS (varM 4) (part (binM addD (varM 6) (cstM (.int 1)))) noPart)) (s := ⟨[some (.int c), some (.int many), some (.str ABC), some (.int size), some (.str (mkS wd)), some (.int (k : Int)), some (.int (at_ : Int)), some (.ptr 0), some (.str (mkS [sgnN (c / 6) k])), x9], [.lst (ws.map D.str)]⟩) (s' := ⟨[some (.int c), some (.int many), some (.str ABC), some (.int size), some (.str (mkS wd)), some (.int (k : Int)), some (.int (at_ : Int)), some (.ptr 0), some (.str (mkS [sgnN (c / 6) k])), x9], [.lst (ws.map D.str)]⟩) (d := .str (mkS (wd.take at_ ++ [sgnN (c / 6) k] ++ wd.drop (at_ + 1)))) (by
    rw [binM_ev, binM_ev, s1, bind_ok, varM_ev (i := 8) rfl, bind_ok]
    dsimp only
    rw [addD_strs (by rw [mk_len, mk_len, List.length_take]; simp; omega), bind_ok, bind_ok]
    dsimp only
    rw [s2, bind_ok]
    dsimp only
    rw [addD_strs (by rw [str_app_len, mk_len, mk_len, mk_len, List.length_take, List.length_drop]; simp; omega), bind_ok]
    rw [show mkS (wd.take at_) ++ mkS [sgnN (c / 6) k] ++ mkS (wd.drop (at_ + 1)) = mkS (wd.take at_ ++ [sgnN (c / 6) k] ++ wd.drop (at_ + 1)) from sg_inj (by rw [sg_app, sg_app, sg_mk, sg_mk, sg_mk, sg_mk])])
  have ct : binM modD (binM fdivD (varM 0) (cstM (.int 5))) (cstM (.int 3)) ⟨[some (.int c), some (.int many), some (.str ABC), some (.int size), some (.str (mkS wd)), some (.int (k : Int)), some (.int (at_ : Int)), some (.ptr 0), some (.str (mkS [sgnN (c / 6) k])), some (.str (mkS (wd.take at_ ++ [sgnN (c / 6) k] ++ wd.drop (at_ + 1))))], [.lst (ws.map D.str)]⟩ = .ok (.int (c / 5 % 3), ⟨[some (.int c), some (.int many), some (.str ABC), some (.int size), some (.str (mkS wd)), some (.int (k : Int)), some (.int (at_ : Int)), some (.ptr 0), some (.str (mkS [sgnN (c / 6) k])), some (.str (mkS (wd.take at_ ++ [sgnN (c / 6) k] ++ wd.drop (at_ + 1))))], [.lst (ws.map D.str)]⟩) := by
    rw [binM_ev, binM_ev, varM_ev (i := 0) rfl, bind_ok, cstM_ev, bind_ok]
    dsimp only
    rw [fdivD_small (by decide) (by decide), bind_ok, bind_ok, cstM_ev, bind_ok]
    dsimp only
    rw [modD_pos (by decide)]; rfl
  have st : (ifS (tstM (binM eqD (binM modD (binM fdivD (varM 0) (cstM (.int 5))) (cstM (.int 3))) (cstM (.int 1)))) (setM 9 (binM ixD (lstM (consM (varM 4) (consM (slS (varM 4) noPart (part (unM negD (cstM (.int 1))))) (consM (binM addD (varM 4) (varM 8)) nilM)))) (calM min2D (consM (varM 5) (consM (cstM (.int 2)) nilM))))) skipM) ⟨[some (.int c), some (.int many), some (.str ABC), some (.int size), some (.str (mkS wd)), some (.int (k : Int)), some (.int (at_ : Int)), some (.ptr 0), some (.str (mkS [sgnN (c / 6) k])), some (.str (mkS (wd.take at_ ++ [sgnN (c / 6) k] ++ wd.drop (at_ + 1))))], [.lst (ws.map D.str)]⟩ = .next ⟨[some (.int c), some (.int many), some (.str ABC), some (.int size), some (.str (mkS wd)), some (.int (k : Int)), some (.int (at_ : Int)), some (.ptr 0), some (.str (mkS [sgnN (c / 6) k])), some (.str (mkS (nmK wd at_ (c / 6) (decide (c / 5 % 3 = 1)) k)))], [.lst (ws.map D.str)]⟩ := by
    by_cases hB : c / 5 % 3 = 1
    · refine Eq.trans (ifS_T (by rw [eq_test ct, decide_eq_true hB])) (setM_eq (i := 9) (s' := ⟨[some (.int c), some (.int many), some (.str ABC), some (.int size), some (.str (mkS wd)), some (.int (k : Int)), some (.int (at_ : Int)), some (.ptr 0), some (.str (mkS [sgnN (c / 6) k])), some (.str (mkS (wd.take at_ ++ [sgnN (c / 6) k] ++ wd.drop (at_ + 1))))], [.lst (ws.map D.str)]⟩) ?_)
      have s3 : slS (varM 4) noPart (part (unM negD (cstM (.int 1)))) ⟨[some (.int c), some (.int many), some (.str ABC), some (.int size), some (.str (mkS wd)), some (.int (k : Int)), some (.int (at_ : Int)), some (.ptr 0), some (.str (mkS [sgnN (c / 6) k])), some (.str (mkS (wd.take at_ ++ [sgnN (c / 6) k] ++ wd.drop (at_ + 1))))], [.lst (ws.map D.str)]⟩ = .ok (.str (mkS (wd.take (wd.length - 1))), ⟨[some (.int c), some (.int many), some (.str ABC), some (.int size), some (.str (mkS wd)), some (.int (k : Int)), some (.int (at_ : Int)), some (.ptr 0), some (.str (mkS [sgnN (c / 6) k])), some (.str (mkS (wd.take at_ ++ [sgnN (c / 6) k] ++ wd.drop (at_ + 1))))], [.lst (ws.map D.str)]⟩) := by
        rw [slS_ev, varM_ev (i := 4) rfl, bind_ok, noPart_ev, bind_ok, part_ev, unM_ev, cstM_ev, bind_ok, negD_int, bind_ok, bind_ok]
        dsimp only
        rw [bind_ok]
        dsimp only
        rw [if_pos (by rw [hwl]; omega), p3]
      have s4 : binM addD (varM 4) (varM 8) ⟨[some (.int c), some (.int many), some (.str ABC), some (.int size), some (.str (mkS wd)), some (.int (k : Int)), some (.int (at_ : Int)), some (.ptr 0), some (.str (mkS [sgnN (c / 6) k])), some (.str (mkS (wd.take at_ ++ [sgnN (c / 6) k] ++ wd.drop (at_ + 1))))], [.lst (ws.map D.str)]⟩ = .ok (.str (mkS (wd ++ [sgnN (c / 6) k])), ⟨[some (.int c), some (.int many), some (.str ABC), some (.int size), some (.str (mkS wd)), some (.int (k : Int)), some (.int (at_ : Int)), some (.ptr 0), some (.str (mkS [sgnN (c / 6) k])), some (.str (mkS (wd.take at_ ++ [sgnN (c / 6) k] ++ wd.drop (at_ + 1))))], [.lst (ws.map D.str)]⟩) := by
        rw [binM_ev, varM_ev (i := 4) rfl, bind_ok, varM_ev (i := 8) rfl, bind_ok]
        dsimp only
        rw [addD_strs (by rw [mk_len, mk_len]; simp; omega), bind_ok]
        rw [show mkS wd ++ mkS [sgnN (c / 6) k] = mkS (wd ++ [sgnN (c / 6) k]) from sg_inj (by rw [sg_app, sg_mk, sg_mk, sg_mk])]
      rw [binM_ev, lstM_ev, consM_ev, varM_ev (i := 4) rfl, bind_ok, consM_ev, s3, bind_ok, consM_ev, s4, bind_ok, nilM_ev, bind_ok, bind_ok, bind_ok, bind_ok, if_pos (by simp), bind_ok]
      dsimp only
      rw [calM_ev, consM_ev, varM_ev (i := 5) rfl, bind_ok, consM_ev, cstM_ev, bind_ok, nilM_ev, bind_ok, bind_ok, bind_ok]
      dsimp only
      rw [show min2D [.lst (ws.map D.str)] [.int (k : Int), .int 2] = .ok (.int (if (2 : Int) < (k : Int) then 2 else (k : Int))) from rfl, bind_ok, bind_ok]
      dsimp only
      rw [decide_eq_true hB]
      unfold nmK
      rw [if_pos rfl]
      by_cases h0' : k = 0
      · subst h0'
        rw [if_neg (by decide), if_pos rfl, show ixD [.lst (ws.map D.str)] (.lst [.str (mkS wd), .str (mkS (wd.take (wd.length - 1))), .str (mkS (wd ++ [sgnN (c / 6) 0]))]) (.int ((0 : Nat) : Int)) = .ok (.str (mkS wd)) from ixD_lst rfl, bind_ok]
      · by_cases h1' : k = 1
        · subst h1'
          rw [if_neg (by decide), if_neg h0', if_pos rfl, show ixD [.lst (ws.map D.str)] (.lst [.str (mkS wd), .str (mkS (wd.take (wd.length - 1))), .str (mkS (wd ++ [sgnN (c / 6) 1]))]) (.int ((1 : Nat) : Int)) = .ok (.str (mkS (wd.take (wd.length - 1)))) from ixD_lst rfl, bind_ok]
        · rw [if_neg h0', if_neg h1', show (if (2 : Int) < (k : Int) then (2 : Int) else (k : Int)) = 2 by split <;> omega, show ixD [.lst (ws.map D.str)] (.lst [.str (mkS wd), .str (mkS (wd.take (wd.length - 1))), .str (mkS (wd ++ [sgnN (c / 6) k]))]) (.int 2) = .ok (.str (mkS (wd ++ [sgnN (c / 6) k]))) from ixD_lst rfl, bind_ok]
    · rw [decide_eq_false hB]
      refine Eq.trans (ifS_F (by rw [eq_test ct, decide_eq_false hB])) ?_
      rfl
  refine ⟨some (.str (mkS [sgnN (c / 6) k])), some (.str (mkS (nmK wd at_ (c / 6) (decide (c / 5 % 3 = 1)) k))), ?_⟩
  rw [b_law_words_2, seqM_eq e8]
  refine Eq.trans (seqM_eq e9) (Eq.trans (seqM_eq st) ?_)
  refine Eq.trans (dropM_eq (appM_eq (mo := varM 7) (me := varM 9) (k := 0) (d := .str (mkS (nmK wd at_ (c / 6) (decide (c / 5 % 3 = 1)) k))) (varM_ev rfl) rfl (varM_ev rfl) rfl (by simp; omega))) ?_
  rw [List.map_append]
  rfl
theorem words_ok {c : Int} {n : Nat} (hn : n ≤ 8) : ∃ ws O, f_law_words [.int c, .int (n : Int)] [] = .ok (sD ws, O) ∧ ws.length = n ∧ (∀ z ∈ ws, GoodN z) ∧ ws.Nodup := by
  obtain ⟨sz, hsz, sz2, sz7⟩ : ∃ sz : Nat, 2 + c % 6 = (sz : Int) ∧ 2 ≤ sz ∧ sz ≤ 7 := ⟨(2 + c % 6).toNat, by omega, by omega, by omega⟩
  have e2 := setM_eq (i := 2) (m := cstM (.str ABC)) (s := ⟨[some (.int c), some (.int (n : Int)), none, none, none, none, none, none, none, none], []⟩) (cstM_ev _ _)
  have e3 := setM_eq (i := 3) (m := binM addD (cstM (.int 2)) (binM modD (varM 0) (cstM (.int 6)))) (s := ⟨[some (.int c), some (.int (n : Int)), some (.str ABC), none, none, none, none, none, none, none], []⟩) (s' := ⟨[some (.int c), some (.int (n : Int)), some (.str ABC), none, none, none, none, none, none, none], []⟩) (d := .int (sz : Int)) (by
    rw [binM_ev, cstM_ev, bind_ok, binM_ev, varM_ev (i := 0) rfl, bind_ok, cstM_ev, bind_ok]
    dsimp only
    rw [modD_pos (by decide), bind_ok, bind_ok]
    dsimp only
    rw [addD_int, hsz]; rfl)
  have e4 := setM_eq (i := 4) (m := cstM (.str ("" : Str))) (s := ⟨[some (.int c), some (.int (n : Int)), some (.str ABC), some (.int (sz : Int)), none, none, none, none, none, none], []⟩) (cstM_ev _ _)
  obtain ⟨s', el, wd, x5, hwl, haz, hs'⟩ := forGo_pre (ok := okC (rangeD 0 (sz : Int)) none) (g := nameG 5) (body := b_law_words_1)
    (fun pre s => ∃ (wd : List Nat) (x5 : Option D), wd.length = pre.length ∧ azL wd ∧ s = ⟨[some (.int c), some (.int (n : Int)), some (.str ABC), some (.int (sz : Int)), some (.str (mkS wd)), x5, none, none, none, none], []⟩) (fun _ _ _ => trivial) (rangeD 0 (sz : Int)) [] (by
      rintro pre d rest ed s ⟨wd, x5, h1, h2, rfl⟩
      rw [List.nil_append, rangeD0] at ed
      obtain ⟨rfl, hlt⟩ := range_split ed
      obtain ⟨r, eb, r1, r2⟩ := words1 (c := c) (k := (pre.length : Int)) (many := (n : Int)) (size := (sz : Int)) (wd := wd) (x6 := none) (x7 := none) (x8 := none) (x9 := none) ⟨by omega, by omega⟩ (by omega)
      refine ⟨_, _, rfl, .inl eb, wd ++ [r], _, by simp [h1], fun z hz => ?_, rfl⟩
      rcases List.mem_append.mp hz with q | q
      · exact h2 z q
      · rw [List.mem_singleton.mp q]; exact ⟨r1, r2⟩) ⟨[some (.int c), some (.int (n : Int)), some (.str ABC), some (.int (sz : Int)), some (.str ("" : Str)), none, none, none, none, none], []⟩ ⟨[], none, rfl, (fun _ h => by cases h), rfl⟩
  rw [List.nil_append, rangeD_length] at hwl
  have hwl : wd.length = sz := by omega
  have hf := forS_of (im := rng1 (consM (varM 3) nilM)) (g := nameG 5) (body := b_law_words_1) (s := ⟨[some (.int c), some (.int (n : Int)), some (.str ABC), some (.int (sz : Int)), some (.str ("" : Str)), none, none, none, none, none], []⟩) (rng1_nat (s1 := ⟨[some (.int c), some (.int (n : Int)), some (.str ABC), some (.int (sz : Int)), some (.str ("" : Str)), none, none, none, none, none], []⟩) (n := sz) (by
    rw [consM_ev, varM_ev (i := 3) rfl]; rfl) (by omega))
  rw [el, hs'] at hf
  obtain ⟨at_, hat, hat2⟩ : ∃ at_ : Nat, c / 2 % (sz : Int) = (at_ : Int) ∧ at_ < sz := ⟨(c / 2 % (sz : Int)).toNat, by have := Int.emod_nonneg (c / 2) (show (sz : Int) ≠ 0 by omega); omega, by have := Int.emod_lt_of_pos (c / 2) (show (0 : Int) < sz by omega); have := Int.emod_nonneg (c / 2) (show (sz : Int) ≠ 0 by omega); omega⟩
  have e6 := setM_eq (i := 6) (m := binM modD (binM fdivD (varM 0) (cstM (.int 2))) (varM 3)) (s := ⟨[some (.int c), some (.int (n : Int)), some (.str ABC), some (.int (sz : Int)), some (.str (mkS wd)), x5, none, none, none, none], []⟩) (s' := ⟨[some (.int c), some (.int (n : Int)), some (.str ABC), some (.int (sz : Int)), some (.str (mkS wd)), x5, none, none, none, none], []⟩) (d := .int (at_ : Int)) (by
    rw [binM_ev, binM_ev, varM_ev (i := 0) rfl, bind_ok, cstM_ev, bind_ok]
    dsimp only
    rw [fdivD_small (by decide) (by decide), bind_ok, bind_ok, varM_ev (i := 3) rfl, bind_ok]
    dsimp only
    rw [modD_pos (by omega), hat]; rfl)
  have e7 : setM 7 (lstC nilM) ⟨[some (.int c), some (.int (n : Int)), some (.str ABC), some (.int (sz : Int)), some (.str (mkS wd)), x5, some (.int (at_ : Int)), none, none, none], []⟩ = .next ⟨[some (.int c), some (.int (n : Int)), some (.str ABC), some (.int (sz : Int)), some (.str (mkS wd)), x5, some (.int (at_ : Int)), some (.ptr 0), none, none], [.lst []]⟩ := by simp
  obtain ⟨s2, el2, z5, z8, z9, hs2⟩ := forGo_pre (ok := okC (rangeD 0 (n : Int)) none) (g := nameG 5) (body := b_law_words_2)
    (fun pre s => ∃ (z5 z8 z9 : Option D), s = ⟨[some (.int c), some (.int (n : Int)), some (.str ABC), some (.int (sz : Int)), some (.str (mkS wd)), z5, some (.int (at_ : Int)), some (.ptr 0), z8, z9], [.lst (((List.range pre.length).map fun k => mkS (nmK wd at_ (c / 6) (decide (c / 5 % 3 = 1)) k)).map D.str)]⟩) (fun _ _ _ => trivial) (rangeD 0 (n : Int)) [] (by
      rintro pre d rest ed s ⟨z5, z8, z9, rfl⟩
      rw [List.nil_append, rangeD0] at ed
      obtain ⟨rfl, hlt⟩ := range_split ed
      obtain ⟨y8, y9, eb⟩ := words2 (c := c) (many := (n : Int)) (size := (sz : Int)) (wd := wd) (at_ := at_) (k := pre.length) (ws := (List.range pre.length).map fun k => mkS (nmK wd at_ (c / 6) (decide (c / 5 % 3 = 1)) k)) (x8 := z8) (x9 := z9) (by omega) (by omega) (by omega) (by omega) (by simp; omega)
      refine ⟨_, _, rfl, .inl eb, some (.int (pre.length : Int)), y8, y9, ?_⟩
      rw [List.length_append, List.length_singleton, List.range_succ, List.map_append (l₁ := List.range pre.length)]
      rfl) ⟨[some (.int c), some (.int (n : Int)), some (.str ABC), some (.int (sz : Int)), some (.str (mkS wd)), x5, some (.int (at_ : Int)), some (.ptr 0), none, none], [.lst []]⟩ ⟨_, _, _, rfl⟩
  have hf2 := forS_of (im := rng1 (consM (varM 1) nilM)) (g := nameG 5) (body := b_law_words_2) (s := ⟨[some (.int c), some (.int (n : Int)), some (.str ABC), some (.int (sz : Int)), some (.str (mkS wd)), x5, some (.int (at_ : Int)), some (.ptr 0), none, none], [.lst []]⟩) (rng1_nat (s1 := ⟨[some (.int c), some (.int (n : Int)), some (.str ABC), some (.int (sz : Int)), some (.str (mkS wd)), x5, some (.int (at_ : Int)), some (.ptr 0), none, none], [.lst []]⟩) (n := n) (by
    rw [consM_ev, varM_ev (i := 1) rfl]; rfl) (by omega))
  rw [el2, hs2, List.nil_append, rangeD_length, show ((n : Int) - 0).toNat = n by omega] at hf2
  refine ⟨(List.range n).map fun k => mkS (nmK wd at_ (c / 6) (decide (c / 5 % 3 = 1)) k), [.dead], ?_, by simp, fun z hz => ?_, words_nodup (by omega) (by omega) hn⟩
  · refine runM_ret (s := ⟨[some (.int c), some (.int (n : Int)), some (.str ABC), some (.int (sz : Int)), some (.str (mkS wd)), z5, some (.int (at_ : Int)), some (.ptr 0), z8, z9], [.dead]⟩) ?_
    show m_law_words ⟨[some (.int c), some (.int (n : Int)), none, none, none, none, none, none, none, none], []⟩ = _
    rw [m_law_words, seqM_eq e2]
    refine Eq.trans (seqM_eq e3) (Eq.trans (seqM_eq e4) (Eq.trans (seqM_eq hf) (Eq.trans (seqM_eq e6) (Eq.trans (seqM_eq e7) (Eq.trans (seqM_eq hf2) (retM_eq (frzM_eq (k := 0) (varM_ev (i := 7) rfl) rfl)))))))
  · obtain ⟨k, _, rfl⟩ := List.mem_map.mp hz
    exact nmK_good (by omega) (by omega) (by omega) haz
abbrev tx (i : Int) : Str := Str.ofString (toString i)
theorem sg_of (s : String) : sg (Str.ofString s) = s.toList.map Char.toNat := by
  rw [Str.ofString_eq_byList]
  unfold Str.ofStringByList sg
  simp
theorem of_app (a b : String) : Str.ofString (a ++ b) = Str.ofString a ++ Str.ofString b := sg_inj (by
  rw [sg_app, sg_of, sg_of, sg_of, String.toList_append, List.map_append])
theorem tx_neg {i : Int} (h : i < 0) : tx i = Str.ofString "-" ++ tx (-i) := by
  rw [tx, toString_neg h, of_app, Int.zero_sub]
theorem log_lt {i : Int} (h : i.natAbs < 2 ^ 100) : i.natAbs.log2 < 1920 := by
  by_cases hz : i.natAbs = 0
  · rw [hz]; decide
  · have := (Nat.log2_lt hz).mpr h
    omega
theorem tx_len {i : Int} (h : i.natAbs < 2 ^ 100) : (tx i).length ≤ 1921 := int_text_len_1921 (log_lt h)
theorem strD_ok {O : Store} {i : Int} (h : i.natAbs < 2 ^ 100) : strD O [.int i] = .ok (.str (tx i)) := by
  unfold strD
  exact if_pos (log_lt h)
theorem add_str {O : Store} {a b : Str} (h : a.length + b.length ≤ 1000000) : addD O (.str a) (.str b) = .ok (.str (a ++ b)) := if_pos (le_line h)
theorem app_len (a b : Str) : (a ++ b).length = a.length + b.length := Str.length_append a b
theorem app_nil (a : Str) : a ++ Str.ofString "" = a := sg_inj (by rw [sg_app, sg_of]; simp)
theorem len_empty : (Str.ofString "").length = 0 := by decide
theorem len_one : (Str.ofString " ").length = 1 := by decide
theorem pow_60 {O : Store} : powD O (.int 10) (.int 60) = .ok (.int (10 ^ 60)) := powD_int (by decide) (by decide) (by decide)
theorem fig_ok {i : Int} (h : i.natAbs < 2 ^ 100) : f_figures [.int i] [] = .ok (.str (tx i), []) := by
  have hn : (if i < 0 then -i else i) = (i.natAbs : Int) := by split <;> omega
  have hlt : ¬ ((10 : Int) ^ 60 ≤ (i.natAbs : Int)) := by
    have : (2 : Nat) ^ 100 < 10 ^ 60 := by decide
    omega
  have ha : ((i.natAbs : Int)).natAbs < 2 ^ 100 := by rw [Int.natAbs_natCast]; exact h
  have tl := tx_len ha
  have e3 : whileM (fun _ => 1) (tstM (binM geD (varM 1) (binM powD (cstM (.int 10)) (cstM (.int 60))))) b_figures_1 ⟨[some (.int i), some (.int (i.natAbs : Int)), some (.str (Str.ofString ""))], []⟩ = .next ⟨[some (.int i), some (.int (i.natAbs : Int)), some (.str (Str.ofString ""))], []⟩ := by
    have t : tstM (binM geD (varM 1) (binM powD (cstM (.int 10)) (cstM (.int 60)))) ⟨[some (.int i), some (.int (i.natAbs : Int)), some (.str (Str.ofString ""))], []⟩ = .ok (decide ((10 : Int) ^ 60 ≤ (i.natAbs : Int)), ⟨[some (.int i), some (.int (i.natAbs : Int)), some (.str (Str.ofString ""))], []⟩) := x_tst (x_bin (varM_ev rfl) (x_bin (cstM_ev _ _) (cstM_ev _ _) pow_60) (geD_int _ _))
    show whileGo _ _ 1 _ = _
    rw [whileGo, t, out_ok, decide_eq_false hlt]
    rfl
  have e4 : setM 2 (binM addD (calM strD (consM (varM 1) nilM)) (varM 2)) ⟨[some (.int i), some (.int (i.natAbs : Int)), some (.str (Str.ofString ""))], []⟩ = .next ⟨[some (.int i), some (.int (i.natAbs : Int)), some (.str (tx (i.natAbs : Int)))], []⟩ :=
    x_set (x_bin (x_cal (x_cons (varM_ev rfl) (nilM_ev _)) (strD_ok ha)) (varM_ev rfl) (by rw [add_str (by rw [len_empty]; omega), app_nil])) rfl
  have hd : ∀ m : SM, m ⟨[some (.int i), some (.int (i.natAbs : Int)), some (.str (tx (i.natAbs : Int)))], []⟩ = .ret (.str (tx i)) ⟨[some (.int i), some (.int (i.natAbs : Int)), some (.str (tx (i.natAbs : Int)))], []⟩ → seqM (setM 1 (calM absD (consM (varM 0) nilM))) (seqM (setM 2 (cstM (.str (Str.ofString "")))) (seqM (whileM (fun _ => 1) (tstM (binM geD (varM 1) (binM powD (cstM (.int 10)) (cstM (.int 60))))) b_figures_1) (seqM (setM 2 (binM addD (calM strD (consM (varM 1) nilM)) (varM 2))) m))) ⟨[some (.int i), none, none], []⟩ = .ret (.str (tx i)) ⟨[some (.int i), some (.int (i.natAbs : Int)), some (.str (tx (i.natAbs : Int)))], []⟩ := fun m hm =>
    q_seq (x_set (R' := [some (.int i), some (.int (i.natAbs : Int)), none]) (x_cal (x_cons (varM_ev rfl) (nilM_ev _)) (absD_int _)) rfl) (q_seq (x_set (R' := [some (.int i), some (.int (i.natAbs : Int)), some (.str (Str.ofString ""))]) (cstM_ev _ _) rfl) (q_seq e3 (q_seq e4 hm)))
  refine q_run (R := [some (.int i), some (.int (i.natAbs : Int)), some (.str (tx (i.natAbs : Int)))]) ?_
  show m_figures ⟨[some (.int i), none, none], []⟩ = _
  rw [m_figures]
  refine hd _ ?_
  by_cases hi : i < 0
  · refine seqM_ret (q_ifT (x_tst (x_bin (varM_ev rfl) (cstM_ev _ _) (ltD_int _ _))) (decide_eq_true hi) (retM_eq (x_bin (cstM_ev _ _) (varM_ev rfl) ?_)))
    rw [add_str (by have : (Str.ofString "-").length = 1 := by decide
                    omega), tx_neg hi, show (i.natAbs : Int) = -i by omega]
  · refine q_seq (q_ifF (x_tst (x_bin (varM_ev rfl) (cstM_ev _ _) (ltD_int _ _))) (decide_eq_false hi) (skipM_ev _)) (retM_eq (Eq.trans (varM_ev rfl) ?_))
    rw [show (i.natAbs : Int) = i by omega]
theorem num_ok {i : Int} {z : Str} (h : i.natAbs < 2 ^ 100) (hz : z.length ≤ 100) : f_show_number [.int i, .str z] [] = .ok (.str (tx i ++ Str.ofString " " ++ z), []) := by
  have tl := tx_len h
  refine q_run (R := [some (.int i), some (.str z)]) ?_
  show m_show_number ⟨[some (.int i), some (.str z)], []⟩ = _
  rw [m_show_number]
  exact retM_eq (x_bin (x_bin (callP_eq (x_cons (varM_ev rfl) (nilM_ev _)) (by simp) rfl (fig_ok h) (by simp)) (cstM_ev _ _) (add_str (by rw [len_one]; omega))) (varM_ev rfl) (add_str (by rw [app_len, len_one]; omega)))
def toldL (ns : List Int) (zs : List Str) : List Str := ((ns.zip zs).filter fun p => !decide (p.1 = 0)).map fun p => tx p.1 ++ Str.ofString " " ++ p.2
def shown (ns : List Int) (zs : List Str) : Str := if toldL ns zs = [] then Str.ofString "nothing" else Txt.join (Str.ofString " ") (toldL ns zs)
theorem zipD_is (ns : List Int) (zs : List Str) : zipD (ns.map D.int) (zs.map D.str) = (ns.zip zs).map fun p => .tup [.int p.1, .str p.2] := by
  unfold zipD
  rw [List.zipWith_map, List.zip_eq_zipWith, List.map_zipWith]
theorem told_len {ns : List Int} {zs : List Str} (hn : ∀ n ∈ ns, n.natAbs < 2 ^ 100) (hz : ∀ z ∈ zs, z.length ≤ 100) : ∀ t ∈ toldL ns zs, t.length ≤ 2100 := fun t ht => by
  obtain ⟨p, hp, rfl⟩ := List.mem_map.mp ht
  have h1 := List.of_mem_zip (List.mem_filter.mp hp).1
  have h2 := tx_len (hn _ h1.1)
  have h3 := hz _ h1.2
  rw [app_len, app_len, len_one]
  omega
theorem told_cnt (ns : List Int) (zs : List Str) : (toldL ns zs).length ≤ zs.length := by
  unfold toldL
  rw [List.length_map]
  have h1 := List.length_filter_le (fun p : Int × Str => !decide (p.1 = 0)) (ns.zip zs)
  rw [List.length_zip] at h1
  omega
theorem sum_len {l : List Str} {m : Nat} (h : ∀ t ∈ l, t.length ≤ m) (k : Nat) : ∀ a : Nat, l.foldl (fun a t => a + t.length + k) a ≤ a + l.length * (m + k) := by
  induction l with
  | nil => intro a; simp
  | cons t l ih =>
    intro a
    have h1 := ih (fun q hq => h q (List.mem_cons_of_mem _ hq)) (a + t.length + k)
    have h2 := h t List.mem_cons_self
    rw [List.foldl_cons, List.length_cons, Nat.succ_mul]
    omega
theorem join_ok {l : List Str} (h : ∀ t ∈ l, t.length ≤ 2100) (hl : l.length ≤ 100) : JoinOk (Str.ofString " ") l = true := by
  unfold JoinOk
  have h1 := sum_len h 1 0
  have h2 : l.length * (2100 + 1) ≤ 100 * (2100 + 1) := Nat.mul_le_mul_right _ hl
  rw [Bool.not_eq_true', len_one]
  unfold Builtin.Str.tooLong
  refine decide_eq_false ?_
  rw [List.foldl_toArray]
  have := sizeLine_eq
  omega
theorem show_ok {ns : List Int} {zs : List Str} (hn : ∀ n ∈ ns, n.natAbs < 2 ^ 100) (hz : ∀ z ∈ zs, z.length ≤ 100) (hl : zs.length ≤ 100) : f_show_list [vI ns, sD zs] [] = .ok (.str (shown ns zs), []) := by
  have hc := compF2c (l := ns.zip zs) (f := fun p => .int p.1) (g := fun p => .str p.2) (p := fun p => !decide (p.1 = 0)) (out := fun p => .str (tx p.1 ++ Str.ofString " " ++ p.2)) (caps := []) (im := zipI (consM (varM 0) (consM (varM 1) nilM))) (c := tstM (binM neD (varM 0) (cstM (.int 0)))) (e := callP 2 f_show_number (consM (varM 0) (consM (varM 1) nilM))) (k := none) (s := ⟨[some (vI ns), some (sD zs), none], []⟩) (by simp [zipD_is]) trivial (by rw [List.length_zip]; omega) (fun p hp => x_tst (x_bin (varM_ev rfl) (cstM_ev _ _) (neD_int _ _))) (fun p hp _ => by
    have h1 := List.of_mem_zip hp
    exact callP_eq (x_cons (varM_ev rfl) (x_cons (varM_ev rfl) (nilM_ev _))) (by simp) rfl (num_ok (hn _ h1.1) (hz _ h1.2)) (by simp))
  rw [show ((ns.zip zs).filter fun p => !decide (p.1 = 0)).map (fun p => D.str (tx p.1 ++ Str.ofString " " ++ p.2)) = (toldL ns zs).map D.str by unfold toldL; rw [List.map_map]; rfl] at hc
  refine q_run (R := [some (vI ns), some (sD zs), some (sD (toldL ns zs))]) ?_
  show m_show_list ⟨[some (vI ns), some (sD zs), none], []⟩ = _
  rw [m_show_list]
  refine q_seq (x_set hc rfl) ?_
  have tr : truM (varM 2) ⟨[some (vI ns), some (sD zs), some (sD (toldL ns zs))], []⟩ = .ok (!decide (toldL ns zs = []), ⟨[some (vI ns), some (sD zs), some (sD (toldL ns zs))], []⟩) := by
    rw [truM_ev, varM_ev (i := 2) rfl, bind_ok]
    cases toldL ns zs <;> rfl
  by_cases h0 : toldL ns zs = []
  · refine seqM_ret (q_ifT (x_not tr) (by rw [decide_eq_true h0]; rfl) (retM_eq (Eq.trans (cstM_ev _ _) ?_)))
    rw [shown, if_pos h0]
  · refine q_seq (q_ifF (x_not tr) (by rw [decide_eq_false h0]; rfl) (skipM_ev _)) (retM_eq ?_)
    unfold joinM
    rw [cstM_ev, bind_ok]
    dsimp only
    rw [varM_ev (i := 2) rfl, bind_ok]
    dsimp only
    rw [asStrs_map]
    dsimp only
    rw [if_pos (join_ok (told_len hn hz) (Nat.le_trans (told_cnt ns zs) hl)), shown, if_neg h0]
theorem app_assoc (a b c : Str) : a ++ b ++ c = a ++ (b ++ c) := sg_inj (by simp only [sg_app, List.append_assoc])
theorem join_fold (sp : Str) : ∀ (r : List Str) (x m : Str), (x :: r).foldl (fun m p => m ++ (sp ++ p)) m = m ++ (sp ++ Str.join sp (x :: r))
  | [], x, m => rfl
  | y :: r, x, m => by
    rw [List.foldl_cons, join_fold sp r y, show Str.join sp (x :: y :: r) = x ++ sp ++ Str.join sp (y :: r) from rfl]
    simp only [app_assoc]
theorem drop_one (s : Str) : pickS (Str.ofString " " ++ s) (some 1) none = s := sg_inj (by
  have := pick_lo (z := Str.ofString " " ++ s) (a := 1) (by rw [app_len, len_one]; omega)
  rw [show ((1 : Nat) : Int) = 1 from rfl] at this
  rw [this, sg_app, sg_of]
  rfl)
theorem ix_strs {O : Store} {l : List Str} {i : Nat} (h : i < l.length) : ixD O (sD l) (.int (i : Int)) = .ok (.str l[i]) := by
  refine ixD_lst ?_
  rw [atI_nat' (by simpa using h)]
  simp
theorem text_ok {ns : List Int} {zs : List Str} (hn : ∀ n ∈ ns, n.natAbs < 2 ^ 100) (hz : ∀ z ∈ zs, z.length ≤ 100) (hl : zs.length ≤ 100) (he : ns.length = zs.length) : f_law_text [vI ns, sD zs] [] = .ok (.str (shown ns zs), []) := by
  have loop : ∀ a, a ≤ ns.length → ∃ x3, forGo (okC (rangeD 0 ((ns.length : Nat) : Int)) none) (nameG 3) b_law_text_1 ((List.range ns.length).map fun (i : Nat) => D.int (i : Int)) ⟨[some (vI ns), some (sD zs), some (.str (Str.ofString "")), none], []⟩ =
      forGo (okC (rangeD 0 ((ns.length : Nat) : Int)) none) (nameG 3) b_law_text_1 (((List.range ns.length).drop a).map fun (i : Nat) => D.int (i : Int)) ⟨[some (vI ns), some (sD zs), some (.str ((toldL (ns.take a) (zs.take a)).foldl (fun m p => m ++ (Str.ofString " " ++ p)) (Str.ofString ""))), x3], []⟩ ∧ ((toldL (ns.take a) (zs.take a)).foldl (fun m p => m ++ (Str.ofString " " ++ p)) (Str.ofString "")).length ≤ a * 2200 := by
    intro a
    induction a with
    | zero => intro _; exact ⟨none, rfl, by simp [toldL, len_empty]⟩
    | succ a ih =>
      intro ha
      obtain ⟨x3, e, hlen⟩ := ih (by omega)
      have hn1 : ns[a] ∈ ns := List.getElem_mem _
      have hz1 : zs[a] ∈ zs := List.getElem_mem _
      have tl := tx_len (hn _ hn1)
      have zl := hz _ hz1
      have hnth : nth ns a = ns[a] := by simp [nth, List.getD_eq_getElem?_getD, List.getElem?_eq_getElem (show a < ns.length by omega)]
      have hsplit : toldL (ns.take (a + 1)) (zs.take (a + 1)) = toldL (ns.take a) (zs.take a) ++ (if ns[a] = 0 then [] else [tx ns[a] ++ Str.ofString " " ++ zs[a]]) := by
        unfold toldL
        rw [List.take_add_one, List.take_add_one, List.getElem?_eq_getElem (show a < ns.length by omega), List.getElem?_eq_getElem (show a < zs.length by omega)]
        rw [List.zip_append (by simp; omega)]
        simp only [Option.toList_some, List.zip_cons_cons, List.zip_nil_right, List.filter_append, List.map_append]
        congr 1
        by_cases h0 : ns[a] = 0 <;> simp [h0]
      generalize hM : (toldL (ns.take a) (zs.take a)).foldl (fun m p => m ++ (Str.ofString " " ++ p)) (Str.ofString "") = M at e hlen
      have ha100 : a * 2200 ≤ 220000 := by have : a ≤ 100 := by omega
                                           omega
      have eb : ∀ x : Option D, b_law_text_1 ⟨[some (vI ns), some (sD zs), some (.str M), some (.int (a : Int))], []⟩ = .next ⟨[some (vI ns), some (sD zs), some (.str ((toldL (ns.take (a + 1)) (zs.take (a + 1))).foldl (fun m p => m ++ (Str.ofString " " ++ p)) (Str.ofString ""))), some (.int (a : Int))], []⟩ := fun _ => by
        rw [hsplit, List.foldl_append, hM, b_law_text_1]
        have t : tstM (binM neD (binM ixD (varM 0) (varM 3)) (cstM (.int 0))) ⟨[some (vI ns), some (sD zs), some (.str M), some (.int (a : Int))], []⟩ = .ok (!decide (ns[a] = 0), ⟨[some (vI ns), some (sD zs), some (.str M), some (.int (a : Int))], []⟩) := x_tst (x_bin (x_bin (varM_ev rfl) (varM_ev rfl) (by rw [ix_vI (by omega), hnth])) (cstM_ev _ _) (neD_int _ _))
        by_cases h0 : ns[a] = 0
        · rw [if_pos h0]
          exact q_ifF t (by rw [decide_eq_true h0]; rfl) (skipM_ev _)
        · rw [if_neg h0]
          have ex : binM addD (binM addD (binM addD (binM addD (varM 2) (cstM (.str (Str.ofString " ")))) (calM strD (consM (binM ixD (varM 0) (varM 3)) nilM))) (cstM (.str (Str.ofString " ")))) (binM ixD (varM 1) (varM 3)) ⟨[some (vI ns), some (sD zs), some (.str M), some (.int (a : Int))], []⟩ = .ok (.str (M ++ Str.ofString " " ++ tx ns[a] ++ Str.ofString " " ++ zs[a]), ⟨[some (vI ns), some (sD zs), some (.str M), some (.int (a : Int))], []⟩) :=
            x_bin (x_bin (x_bin (x_bin (varM_ev rfl) (cstM_ev _ _) (add_str (by rw [len_one]; omega))) (x_cal (x_cons (x_bin (varM_ev rfl) (varM_ev rfl) (by rw [ix_vI (by omega), hnth])) (nilM_ev _)) (strD_ok (hn _ hn1))) (add_str (by rw [app_len, len_one]; omega))) (cstM_ev _ _) (add_str (by rw [app_len, app_len, len_one]; omega))) (x_bin (varM_ev rfl) (varM_ev rfl) (ix_strs (by omega))) (add_str (by rw [app_len, app_len, app_len, len_one]; omega))
          have ea : M ++ Str.ofString " " ++ tx ns[a] ++ Str.ofString " " ++ zs[a] = M ++ (Str.ofString " " ++ (tx ns[a] ++ Str.ofString " " ++ zs[a])) := by simp only [app_assoc]
          rw [ea] at ex
          exact q_ifT t (by rw [decide_eq_false h0]; rfl) (x_set ex rfl)
      refine ⟨some (.int (a : Int)), ?_, ?_⟩
      · rw [e, List.drop_eq_getElem_cons (by rw [List.length_range]; omega), List.map_cons, forGo, if_pos (show okC _ none _ from trivial)]
        rw [List.getElem_range, nameG_ev, out_ok]
        rw [show (⟨List.set [some (vI ns), some (sD zs), some (.str M), x3] 3 (some (.int (a : Int))), []⟩ : S) = ⟨[some (vI ns), some (sD zs), some (.str M), some (.int (a : Int))], []⟩ from rfl, eb none]
      · rw [hsplit, List.foldl_append, hM]
        by_cases h0 : ns[a] = 0
        · rw [if_pos h0]
          show M.length ≤ _
          omega
        · rw [if_neg h0]
          simp only [List.foldl_cons, List.foldl_nil, app_len, len_one]
          omega
  obtain ⟨x3, e, hlen⟩ := loop ns.length (Nat.le_refl _)
  rw [List.drop_eq_nil_of_le (by simp), List.map_nil, forGo, if_pos (show okC _ none _ from trivial), List.take_length, show zs.take ns.length = zs by rw [he, List.take_length]] at e
  rw [List.take_length, show zs.take ns.length = zs by rw [he, List.take_length]] at hlen
  have hf := forS_of (im := rng1 (consM (calM lenD (consM (varM 0) nilM)) nilM)) (g := nameG 3) (body := b_law_text_1) (s := ⟨[some (vI ns), some (sD zs), some (.str (Str.ofString "")), none], []⟩) (rng1_nat (s1 := ⟨[some (vI ns), some (sD zs), some (.str (Str.ofString "")), none], []⟩) (n := ns.length) (x_cons (x_cal (x_cons (varM_ev rfl) (nilM_ev _)) (by rw [lenD_lst, List.length_map])) (nilM_ev _)) (by omega))
  rw [show rangeD 0 ((ns.length : Nat) : Int) = (List.range ns.length).map fun (i : Nat) => D.int (i : Int) from rangeD0 _] at hf e
  rw [e] at hf
  have hl2 : ns.length * 2200 ≤ 220000 := by have : ns.length ≤ 100 := by omega
                                             omega
  generalize hM : (toldL ns zs).foldl (fun m p => m ++ (Str.ofString " " ++ p)) (Str.ofString "") = M at hf hlen
  refine q_run (R := [some (vI ns), some (sD zs), some (.str M), x3]) ?_
  show m_law_text ⟨[some (vI ns), some (sD zs), none, none], []⟩ = _
  rw [m_law_text]
  refine q_seq (x_set (R' := [some (vI ns), some (sD zs), some (.str (Str.ofString "")), none]) (cstM_ev _ _) rfl) (q_seq hf ?_)
  cases ht : toldL ns zs with
  | nil =>
    rw [ht] at hM
    have : M = Str.ofString "" := hM.symm
    subst this
    refine seqM_ret (q_ifT (x_tst (x_bin (varM_ev rfl) (cstM_ev _ _) (eqD_str _ _))) (by simp) (retM_eq (Eq.trans (cstM_ev _ _) ?_)))
    rw [shown, if_pos ht]
  | cons x r =>
    rw [ht, join_fold] at hM
    have hM2 : M = Str.ofString " " ++ Str.join (Str.ofString " ") (x :: r) := by
      rw [← hM]
      exact sg_inj (by rw [sg_app, sg_of]; simp)
    have hne : M ≠ Str.ofString "" := fun z => by
      rw [hM2] at z
      have := congrArg Str.length z
      rw [app_len, len_one, len_empty] at this
      omega
    refine q_seq (q_ifF (x_tst (x_bin (varM_ev rfl) (cstM_ev _ _) (eqD_str _ _))) (by simpa using hne) (skipM_ev _)) (retM_eq ?_)
    rw [slS_ev, varM_ev (i := 2) rfl, bind_ok, part_ev, cstM_ev, bind_ok]
    dsimp only
    rw [bind_ok, noPart_ev, bind_ok]
    dsimp only
    rw [if_pos (by omega), hM2, drop_one, shown, if_neg (by rw [ht]; simp), ht]
    rw [show Txt.join (Str.ofString " ") (x :: r) = Str.join (Str.ofString " ") (x :: r) from StrLaws.glued_eq_join _ _]
theorem cell_in (ns : List Int) (k : Nat) : ∃ c, f_law_cell [vI ns, .int (k : Int)] [] = .ok (.int c, []) ∧ (c ∈ ns ∨ c = 0) := by
  by_cases h : k < ns.length
  · refine ⟨nth ns k, runM_ret (s := ⟨[some (vI ns), some (.int (k : Int))], []⟩) ?_, .inl (nth_mem h)⟩
    have hk : ((k : Int) < (ns.length : Int)) := by omega
    simp [m_law_cell, hk, ix_vI h]
  · refine ⟨0, runM_ret (s := ⟨[some (vI ns), some (.int (k : Int))], []⟩) ?_, .inr rfl⟩
    have hk : ¬ ((k : Int) < (ns.length : Int)) := by omega
    simp [m_law_cell, hk]
theorem next_sz {m : Nat} {c k : Int} (hk : 0 ≤ k ∧ k < 3) (hm : 32 ≤ m) (hc : Sz m c) : ∃ z, f_law_next [.int c, .int k] [] = .ok (.int z, []) ∧ Sz m z := by
  by_cases h : 2147483648 ≤ c
  · refine ⟨c / 1890, runM_ret (s := ⟨[some (.int c), some (.int k), none], []⟩) ?_, ?_⟩
    · have hp : powD ([] : Store) (.int 2) (.int 31) = .ok (.int 2147483648) := by rw [powD_int (by decide) (by decide) (by decide)]; rfl
      simp [m_law_next, hp, h, fdivD_small]
    · unfold Sz at *
      omega
  · refine ⟨(c * (48271 + 21350 * k) + 12345 + k) % 2147483647 * 16807 % 2147483629, runM_ret (s := ⟨[some (.int c), some (.int k), some (.int ((c * (48271 + 21350 * k) + 12345 + k) % 2147483647))], []⟩) ?_, ?_⟩
    · have hp : powD ([] : Store) (.int 2) (.int 31) = .ok (.int 2147483648) := by rw [powD_int (by decide) (by decide) (by decide)]; rfl
      simp [m_law_next, hp, h, mulD_int (mul_small (i := 21350) (j := k) (.inl (by decide))), mulD_int (mul_small (i := c) (j := 48271 + 21350 * k) (.inr (by omega))), mulD_int (mul_small (i := (c * (48271 + 21350 * k) + 12345 + k) % 2147483647) (j := 16807) (.inr (by decide))), modD_pos]
    · have h0 : 0 ≤ (c * (48271 + 21350 * k) + 12345 + k) % 2147483647 * 16807 % 2147483629 := Int.emod_nonneg _ (by decide)
      have h1 : (c * (48271 + 21350 * k) + 12345 + k) % 2147483647 * 16807 % 2147483629 < 2147483629 := Int.emod_lt_of_pos _ (by decide)
      generalize (c * (48271 + 21350 * k) + 12345 + k) % 2147483647 * 16807 % 2147483629 = z at h0 h1
      have h2 : Sz 32 z := by
        unfold Sz
        have : (2 : Nat) ^ 32 = 4294967296 := by decide
        omega
      exact h2.mono hm
theorem signed_ok (c w : Int) : ∃ r, f_law_signed [.int c, .int w] [] = .ok (.int r, []) ∧ r.natAbs < 2 ^ 100 := by
  by_cases h : w = 0
  · refine ⟨c / 4 % 41 - 20, runM_ret (s := ⟨[some (.int c), some (.int w)], []⟩) ?_, by omega⟩
    simp [m_law_signed, h, fdivD_small, modD_pos]
  · by_cases h1 : w = 1
    · refine ⟨c / 4 % 2000001 - 1000000, runM_ret (s := ⟨[some (.int c), some (.int w)], []⟩) ?_, by omega⟩
      simp [m_law_signed, h1, fdivD_small, modD_pos]
    · refine ⟨c / 4 % (2 * 10 ^ 30 - 1) - 10 ^ 30 + 1, runM_ret (s := ⟨[some (.int c), some (.int w)], []⟩) ?_, by omega⟩
      simp [m_law_signed, h, h1, fdivD_small, modD_pos, powD_int, mulD_int (mul_small (i := 2) (j := 1000000000000000000000000000000) (.inl (by decide)))]
theorem sz_times {m k : Nat} {x y : Int} (h : Sz m x) (h' : Sz k y) : Sz (m + k) (x * y) := by
  unfold Sz at *
  rw [Int.natAbs_mul, Nat.pow_add]
  exact Nat.mul_lt_mul'' h h'
theorem numbers_ok {c : Int} {n : Nat} (hc : Sz 1048577 c) (hn : n ≤ 100) : ∃ (ns : List Int) (O : Store), f_law_numbers [.int c, .int (n : Int)] [] = .ok (vI ns, O) ∧ ns.length = n ∧ ∀ i ∈ ns, i.natAbs < 2 ^ 100 := by
  have loop : ∀ a, a ≤ n → ∃ (ns : List Int) (c' : Int) (x3 : Option D), ns.length = a ∧ (∀ i ∈ ns, i.natAbs < 2 ^ 100) ∧ Sz 1048577 c' ∧
      forGo (okC (rangeD 0 (n : Int)) none) (nameG 3) b_law_numbers_1 ((List.range n).map fun (i : Nat) => D.int (i : Int)) ⟨[some (.int c), some (.int (n : Int)), some (.ptr 0), none], [.lst []]⟩ =
      forGo (okC (rangeD 0 (n : Int)) none) (nameG 3) b_law_numbers_1 (((List.range n).drop a).map fun (i : Nat) => D.int (i : Int)) ⟨[some (.int c'), some (.int (n : Int)), some (.ptr 0), x3], [.lst (ns.map D.int)]⟩ := by
    intro a
    induction a with
    | zero => exact fun _ => ⟨[], c, none, rfl, by simp, hc, rfl⟩
    | succ a ih =>
      intro ha
      obtain ⟨ns, c', x3, h1, h2, h3, e⟩ := ih (by omega)
      obtain ⟨z, ez, hz⟩ := next_sz (m := 1048577) (c := c') (k := (a : Int) % 3) ⟨by omega, by omega⟩ (by decide) h3
      obtain ⟨r, er, hr⟩ := signed_ok (z * z * z * z) (2 - (a : Int) % 2)
      have z2 := sz_times hz hz
      have z3 := sz_times z2 hz
      have pick : ∃ v : Int, (∀ O : Store, ixD O (.lst [.int 0, .int (z / 3 % 13 - 6), .int r]) (.int (z % 3)) = .ok (.int v)) ∧ v.natAbs < 2 ^ 100 := by
        have : z % 3 = 0 ∨ z % 3 = 1 ∨ z % 3 = 2 := by omega
        rcases this with h | h | h
        · exact ⟨0, fun O => by rw [h]; exact ixD_lst rfl, by decide⟩
        · exact ⟨z / 3 % 13 - 6, fun O => by rw [h]; exact ixD_lst rfl, by omega⟩
        · exact ⟨r, fun O => by rw [h]; exact ixD_lst rfl, hr⟩
      obtain ⟨v, hv, hvz⟩ := pick
      refine ⟨ns ++ [v], z, some (.int (a : Int)), by simp [h1], fun i hi => ?_, hz, ?_⟩
      · rcases List.mem_append.mp hi with q | q
        · exact h2 i q
        · rw [List.mem_singleton.mp q]; exact hvz
      · have eb : b_law_numbers_1 ⟨[some (.int c'), some (.int (n : Int)), some (.ptr 0), some (.int (a : Int))], [.lst (ns.map D.int)]⟩ = .next ⟨[some (.int z), some (.int (n : Int)), some (.ptr 0), some (.int (a : Int))], [.lst ((ns ++ [v]).map D.int)]⟩ := by
          rw [b_law_numbers_1]
          refine q_seq (x_set (R' := [some (.int z), some (.int (n : Int)), some (.ptr 0), some (.int (a : Int))]) (callP_eq (x_cons (varM_ev rfl) (x_cons (x_bin (varM_ev rfl) (cstM_ev _ _) (modD_pos (by decide))) (nilM_ev _))) (by simp) rfl ez (by simp)) rfl) ?_
          refine dropM_eq (x_app (d := .int v) (R := [some (.int z), some (.int (n : Int)), some (.ptr 0), some (.int (a : Int))]) (O := [.lst (ns.map D.int)]) (varM_ev rfl) rfl (x_bin (x_lst (x_cons (cstM_ev _ _) (x_cons (x_bin (x_bin (x_bin (varM_ev rfl) (cstM_ev _ _) (fdivD_small (by decide) (by decide))) (cstM_ev _ _) (modD_pos (by decide))) (cstM_ev _ _) (subD_int _ _)) (x_cons (callP_eq (x_cons (x_bin (x_bin (x_bin (varM_ev rfl) (varM_ev rfl) (mulD_int (mul_ok (m := 1048577) (n := 1048577) (by decide) (by decide) hz hz))) (varM_ev rfl) (mulD_int (mul_ok (by decide) (by decide) z2 hz))) (varM_ev rfl) (mulD_int (mul_ok (by decide) (by decide) z3 hz))) (x_cons (x_bin (cstM_ev _ _) (x_bin (varM_ev rfl) (cstM_ev _ _) (modD_pos (by decide))) (subD_int _ _)) (nilM_ev _))) (by simp) rfl er (by simp)) (nilM_ev _)))) (by simp)) (x_bin (varM_ev rfl) (cstM_ev _ _) (modD_pos (by decide))) (hv _)) rfl (by rw [List.length_map]; omega) ?_)
          rw [List.map_append]; rfl
        rw [e, List.drop_eq_getElem_cons (by rw [List.length_range]; omega), List.map_cons, forGo, if_pos (show okC _ none _ from trivial)]
        rw [List.getElem_range, nameG_ev, out_ok]
        rw [show (⟨List.set [some (.int c'), some (.int (n : Int)), some (.ptr 0), x3] 3 (some (.int (a : Int))), [.lst (ns.map D.int)]⟩ : S) = ⟨[some (.int c'), some (.int (n : Int)), some (.ptr 0), some (.int (a : Int))], [.lst (ns.map D.int)]⟩ from rfl, eb]
  obtain ⟨ns, c', x3, h1, h2, h3, e⟩ := loop n (Nat.le_refl n)
  rw [List.drop_eq_nil_of_le (by simp), List.map_nil, forGo, if_pos (show okC _ none _ from trivial)] at e
  have hf := forS_of (im := rng1 (consM (varM 1) nilM)) (g := nameG 3) (body := b_law_numbers_1) (s := ⟨[some (.int c), some (.int (n : Int)), some (.ptr 0), none], [.lst []]⟩) (rng1_nat (s1 := ⟨[some (.int c), some (.int (n : Int)), some (.ptr 0), none], [.lst []]⟩) (n := n) (x_cons (varM_ev rfl) (nilM_ev _)) (by omega))
  rw [show rangeD 0 (n : Int) = (List.range n).map fun (i : Nat) => D.int (i : Int) from rangeD0 n] at hf e
  rw [e] at hf
  refine ⟨ns, [.dead], ?_, h1, h2⟩
  refine q_run (R := [some (.int c'), some (.int (n : Int)), some (.ptr 0), x3]) ?_
  show m_law_numbers ⟨[some (.int c), some (.int (n : Int)), none, none], []⟩ = _
  rw [m_law_numbers]
  exact q_seq (x_set (R' := [some (.int c), some (.int (n : Int)), some (.ptr 0), none]) (O := [.lst []]) (x_lstC (nilM_ev _) (by decide) rfl rfl) rfl) (q_seq hf (retM_eq (x_frz (varM_ev rfl) rfl rfl)))
def ratT (a b : Int) : Str := if b = 1 then tx a else tx a ++ Str.ofString "/" ++ tx b
theorem ratio_ok {a b : Int} (ha : a.natAbs < 2 ^ 100) (hb : b.natAbs < 2 ^ 100) : f_show_ratio [.tup [.int a, .int b]] [] = .ok (.str (ratT a b), []) := by
  have fa := fig_ok ha
  have fb := fig_ok hb
  have la := tx_len ha
  have lb := tx_len hb
  have l1 : (Str.ofString "/").length = 1 := by decide
  have c0 : ∀ (i : Int), callP 1 f_figures (consM (binM ixD (varM 0) (cstM (.int 0))) nilM) ⟨[some (.tup [.int a, .int b])], []⟩ = .ok (.str (tx a), ⟨[some (.tup [.int a, .int b])], []⟩) := fun _ => callP_eq (x_cons (x_bin (varM_ev rfl) (cstM_ev _ _) (ixT0 _ _)) (nilM_ev _)) (by simp) rfl fa (by simp)
  refine q_run (R := [some (.tup [.int a, .int b])]) ?_
  show m_show_ratio ⟨[some (.tup [.int a, .int b])], []⟩ = _
  rw [m_show_ratio]
  by_cases h : b = 1
  · refine seqM_ret (q_ifT (eq_test (x_bin (varM_ev rfl) (cstM_ev _ _) (ixT1 _ _ _))) (decide_eq_true h) (retM_eq (Eq.trans (c0 0) ?_)))
    rw [ratT, if_pos h]
  · refine q_seq (q_ifF (eq_test (x_bin (varM_ev rfl) (cstM_ev _ _) (ixT1 _ _ _))) (decide_eq_false h) (skipM_ev _)) (retM_eq (x_bin (x_bin (c0 0) (cstM_ev _ _) (add_str (by omega))) (callP_eq (x_cons (x_bin (varM_ev rfl) (cstM_ev _ _) (ixT1 _ _ _)) (nilM_ev _)) (by simp) rfl fb (by simp)) ?_))
    rw [add_str (by rw [app_len]; omega), ratT, if_neg h]
theorem com (a b : Int) : f_law_common [.int a, .int b] [] = .ok (.int (Int.gcd a b : Nat), []) := gcdGt_run a b
theorem toPys_strs : ∀ ns : List Str, toPys (ns.map D.str) = some (ns.map PyData.str)
  | [] => by simp [toPys]
  | n :: ns => by simp [toPys, toPy, toPys_strs ns]
theorem ress_strs {O : Store} : ∀ ns : List Str, ress O (ns.map D.str) = ns.map D.str
  | [] => by simp [ress]
  | n :: ns => by simp [ress, res, ress_strs ns]
theorem canLay_strs : ∀ {ns : List Str}, (∀ z ∈ ns, PyData.strOk z = true) → PyData.canLayAll0 (ns.map PyData.str) = true
  | [], _ => by simp [PyData.canLayAll0]
  | n :: ns, h => by simp [PyData.canLayAll0, PyData.canLay0, h n List.mem_cons_self, canLay_strs (ns := ns) fun z hz => h z (List.mem_cons_of_mem _ hz)]
theorem depth_strs : ∀ ns : List Str, PyData.depthAll (ns.map PyData.str) = 0
  | [] => by simp [PyData.depthAll]
  | n :: ns => by simp [PyData.depthAll, PyData.depth, depth_strs ns]
theorem eqv_strs : ∀ ns : List Str, PyData.eqvAll (ns.map PyData.str) (ns.map PyData.str) = true
  | [] => by simp [PyData.eqvAll]
  | a :: r => by simp [PyData.eqvAll, PyData.eqv, eqv_strs r]
theorem good_ok {z : Str} (h : GoodN z) : PyData.strOk z = true := by
  unfold PyData.strOk
  rw [← Array.all_toList, List.all_eq_true]
  intro c hc
  have := h.az c hc
  exact decide_eq_true (by omega)
theorem ne_handed {O : Store} {ns : List Int} {zs : List Str} (h : ∀ z ∈ zs, GoodN z) : neD O (.lst [vI ns, sD zs]) (.lst [vI ns, sD zs]) = .ok (.bl false) := by
  unfold neD
  have : eqB O (.lst [vI ns, sD zs]) (.lst [vI ns, sD zs]) = some true := by
    show eqDeep O _ _ = _
    unfold eqDeep
    have q : res O (.lst [vI ns, sD zs]) = .lst [vI ns, sD zs] := by simp only [res_lst, ress_cons, ress_nil, ress_ints', ress_strs]
    rw [q, q]
    have t : toPy (.lst [vI ns, sD zs]) = some (.list [.list (ns.map PyData.int), .list (zs.map PyData.str)]) := by
      simp only [toPy, toPys, toPys_ints, toPys_strs, Option.map_some]
    rw [t]
    have hs : SeqAt.shaped (.list [.list (ns.map PyData.int), .list (zs.map PyData.str)]) = true := by
      simp [SeqAt.shaped, PyData.canLay0, PyData.canLayAll0, canLay_ints, canLay_strs (fun z hz => good_ok (h z hz)), PyData.depth, PyData.depthAll, depth_ints, depth_strs]
    dsimp only
    rw [if_pos ⟨hs, hs⟩]
    simp [PyData.eqv, PyData.eqvAll, eqv_ints, eqv_strs]
  rw [this]
  rfl
theorem cutD_tk {α : Type} (f : α → D) (l : List α) (n : Nat) : cutD (l.map f) none (some (n : Int)) = (l.take n).map f := by
  unfold M.cutD
  rw [HT.sIx_none, HT.sIx_nat, List.length_map, List.drop_zero, Nat.sub_zero, List.map_take]
  rcases Nat.le_total n l.length with h | h
  · rw [Nat.min_eq_left h]
  · rw [Nat.min_eq_right h, List.take_of_length_le (by simp), List.take_of_length_le (by simpa using h)]
theorem pure_sD (zs : List Str) : pureDs (zs.map D.str) = true := by
  induction zs with
  | nil => simp
  | cons z zs ih => simp [ih]
theorem body_ok {ns : List Int} {c : Int} {x2 x3 x4 x5 x6 x7 x8 x9 : Option D} (hc : Sz 1048577 c) : ∃ y2 y3 y4 y5 y6 y7 y8 y9, b_law_1 ⟨[some (vI ns), some (.int c), x2, x3, x4, x5, x6, x7, x8, x9], []⟩ = .next ⟨[some (vI ns), some (.int c), y2, y3, y4, y5, y6, y7, y8, y9], []⟩ := by
  obtain ⟨ws, Ow, ew, wlen, wgood, _⟩ := words_ok (c := c % 1000000000000000000000000000000) (n := 8) (by decide)
  obtain ⟨z0, ez0, _⟩ := next_sz (m := 1048577) (c := c) (k := 0) ⟨by decide, by decide⟩ (by decide) hc
  obtain ⟨z1, ez1, hz1⟩ := next_sz (m := 1048577) (c := c) (k := 1) ⟨by decide, by decide⟩ (by decide) hc
  obtain ⟨m, hm, hm9⟩ : ∃ m : Nat, z0 / 5 % 9 = (m : Int) ∧ m < 9 := ⟨(z0 / 5 % 9).toNat, by omega, by omega⟩
  have zg : ∀ z ∈ ws.take m, GoodN z := fun z hz => wgood z (List.mem_of_mem_take hz)
  have zlen : (ws.take m).length ≤ 8 := by rw [List.length_take]; omega
  have e2 : setM 2 (slM (callP 2 f_law_words (consM (binM modD (varM 1) (binM powD (cstM (.int 10)) (cstM (.int 30)))) (consM (cstM (.int 8)) nilM))) noPart (part (binM modD (binM fdivD (callP 2 f_law_next (consM (varM 1) (consM (cstM (.int 0)) nilM))) (cstM (.int 5))) (cstM (.int 9))))) ⟨[some (vI ns), some (.int c), x2, x3, x4, x5, x6, x7, x8, x9], []⟩ = .next ⟨[some (vI ns), some (.int c), some (sD (ws.take m)), x3, x4, x5, x6, x7, x8, x9], []⟩ :=
    x_set (x_sl (x := sD ws) (hi := some (m : Int)) (callP_eq (x_cons (x_bin (varM_ev rfl) (x_bin (cstM_ev _ _) (cstM_ev _ _) pow_10_30) (modD_pos (by decide))) (x_cons (cstM_ev _ _) (nilM_ev _))) (by simp) rfl ew (by rw [pureD_lst]; exact pure_sD ws)) (x_noPart _) (x_part (x_bin (x_bin (callP_eq (x_cons (varM_ev rfl) (x_cons (cstM_ev _ _) (nilM_ev _))) (by simp) rfl ez0 (by simp)) (cstM_ev _ _) (fdivD_small (by decide) (by decide))) (cstM_ev _ _) (by rw [modD_pos (by decide), hm]))) lsD_lst (cutD_tk D.str ws m)) rfl
  generalize ws.take m = zs at *
  obtain ⟨nb, On, en, nlen, nsz⟩ := numbers_ok (c := z1) (n := zs.length) hz1 (by omega)
  have zl : ∀ z ∈ zs, z.length ≤ 100 := fun z hz => by have := (zg z hz).hi; omega
  have sh := show_ok (ns := nb) (zs := zs) nsz zl (by omega)
  have tx1 := text_ok (ns := nb) (zs := zs) nsz zl (by omega) nlen
  have e3 : setM 3 (callP 2 f_law_numbers (consM (callP 2 f_law_next (consM (varM 1) (consM (cstM (.int 1)) nilM))) (consM (calM lenD (consM (varM 2) nilM)) nilM))) ⟨[some (vI ns), some (.int c), some (sD zs), x3, x4, x5, x6, x7, x8, x9], []⟩ = .next ⟨[some (vI ns), some (.int c), some (sD zs), some (vI nb), x4, x5, x6, x7, x8, x9], []⟩ :=
    x_set (callP_eq (x_cons (callP_eq (x_cons (varM_ev rfl) (x_cons (cstM_ev _ _) (nilM_ev _))) (by simp) rfl ez1 (by simp)) (x_cons (x_cal (x_cons (varM_ev rfl) (nilM_ev _)) (by rw [lenD_lst, List.length_map])) (nilM_ev _))) (by simp) rfl en (by simp)) rfl
  have e4 : setM 4 (lstM (consM (calM listD (consM (varM 3) nilM)) (consM (calM listD (consM (varM 2) nilM)) nilM))) ⟨[some (vI ns), some (.int c), some (sD zs), some (vI nb), x4, x5, x6, x7, x8, x9], []⟩ = .next ⟨[some (vI ns), some (.int c), some (sD zs), some (vI nb), some (.lst [vI nb, sD zs]), x5, x6, x7, x8, x9], []⟩ :=
    x_set (x_lst (x_cons (x_cal (x_cons (varM_ev rfl) (nilM_ev _)) (listD_lst _)) (x_cons (x_cal (x_cons (varM_ev rfl) (nilM_ev _)) (listD_lst _)) (nilM_ev _))) (by simp)) rfl
  have pp : pureDs [vI nb, sD zs] = true := by
    rw [pureDs_cons, pureDs_cons, pureD_lst, pureD_lst, pureDs_ints, pure_sD]; rfl
  have e5 : setM 5 (callP 2 f_show_list (consM (binM ixD (varM 4) (cstM (.int 0))) (consM (binM ixD (varM 4) (cstM (.int 1))) nilM))) ⟨[some (vI ns), some (.int c), some (sD zs), some (vI nb), some (.lst [vI nb, sD zs]), x5, x6, x7, x8, x9], []⟩ = .next ⟨[some (vI ns), some (.int c), some (sD zs), some (vI nb), some (.lst [vI nb, sD zs]), some (.str (shown nb zs)), x6, x7, x8, x9], []⟩ :=
    x_set (callP_eq (x_cons (x_bin (varM_ev rfl) (cstM_ev _ _) (ixL0 _ _)) (x_cons (x_bin (varM_ev rfl) (cstM_ev _ _) (ixL1 _ _ _)) (nilM_ev _))) pp rfl sh (by simp)) rfl
  have e6 : ifS (orT (notT (tstM (unM (isiD "str") (varM 5)))) (orT (tstM (binM neD (varM 5) (callP 2 f_law_text (consM (varM 3) (consM (varM 2) nilM))))) (tstM (binM neD (varM 4) (lstM (consM (varM 3) (consM (varM 2) nilM))))))) (retM (cstM (.bl false))) skipM ⟨[some (vI ns), some (.int c), some (sD zs), some (vI nb), some (.lst [vI nb, sD zs]), some (.str (shown nb zs)), x6, x7, x8, x9], []⟩ = .next ⟨[some (vI ns), some (.int c), some (sD zs), some (vI nb), some (.lst [vI nb, sD zs]), some (.str (shown nb zs)), x6, x7, x8, x9], []⟩ :=
    q_ifF (x_orF (x_not (x_tst (x_un (varM_ev rfl) (isi_str _ _)))) rfl (x_orF (x_tst (x_bin (varM_ev rfl) (callP_eq (x_cons (varM_ev rfl) (x_cons (varM_ev rfl) (nilM_ev _))) pp rfl tx1 (by simp)) (neD_str _ _))) (by simp) (x_tst (x_bin (varM_ev rfl) (x_lst (x_cons (varM_ev rfl) (x_cons (varM_ev rfl) (nilM_ev _))) (by simp)) (ne_handed zg))))) rfl (skipM_ev _)
  obtain ⟨top, et, tz⟩ := signed_ok c (c % 3)
  have hbot : 1 ≤ 1 + c / 7 % 30 ∧ 1 + c / 7 % 30 ≤ 30 := by omega
  have e7 : setM 6 (callP 2 f_law_signed (consM (varM 1) (consM (binM modD (varM 1) (cstM (.int 3))) nilM))) ⟨[some (vI ns), some (.int c), some (sD zs), some (vI nb), some (.lst [vI nb, sD zs]), some (.str (shown nb zs)), x6, x7, x8, x9], []⟩ = .next ⟨[some (vI ns), some (.int c), some (sD zs), some (vI nb), some (.lst [vI nb, sD zs]), some (.str (shown nb zs)), some (.int top), x7, x8, x9], []⟩ :=
    x_set (callP_eq (x_cons (varM_ev rfl) (x_cons (x_bin (varM_ev rfl) (cstM_ev _ _) (modD_pos (by decide))) (nilM_ev _))) (by simp) rfl et (by simp)) rfl
  have e8 : setM 7 (binM addD (cstM (.int 1)) (binM modD (binM fdivD (varM 1) (cstM (.int 7))) (cstM (.int 30)))) ⟨[some (vI ns), some (.int c), some (sD zs), some (vI nb), some (.lst [vI nb, sD zs]), some (.str (shown nb zs)), some (.int top), x7, x8, x9], []⟩ = .next ⟨[some (vI ns), some (.int c), some (sD zs), some (vI nb), some (.lst [vI nb, sD zs]), some (.str (shown nb zs)), some (.int top), some (.int (1 + c / 7 % 30)), x8, x9], []⟩ :=
    x_set (x_bin (cstM_ev _ _) (x_bin (x_bin (varM_ev rfl) (cstM_ev _ _) (fdivD_small (by decide) (by decide))) (cstM_ev _ _) (modD_pos (by decide))) (addD_int _ _)) rfl
  generalize hbo : 1 + c / 7 % 30 = bot at *
  obtain ⟨g, hg, g0, gd⟩ : ∃ g : Int, (if ((Int.gcd top bot : Nat) : Int) > 1 then ((Int.gcd top bot : Nat) : Int) else 1) = g ∧ 0 < g ∧ g ∣ bot := by
    by_cases h : ((Int.gcd top bot : Nat) : Int) > 1
    · exact ⟨_, if_pos h, by omega, Int.gcd_dvd_right ..⟩
    · exact ⟨1, if_neg h, by decide, ⟨bot, by omega⟩⟩
  have e9 : setM 8 (calM max2D (consM (cstM (.int 1)) (consM (callP 2 f_law_common (consM (varM 6) (consM (varM 7) nilM))) nilM))) ⟨[some (vI ns), some (.int c), some (sD zs), some (vI nb), some (.lst [vI nb, sD zs]), some (.str (shown nb zs)), some (.int top), some (.int bot), x8, x9], []⟩ = .next ⟨[some (vI ns), some (.int c), some (sD zs), some (vI nb), some (.lst [vI nb, sD zs]), some (.str (shown nb zs)), some (.int top), some (.int bot), some (.int g), x9], []⟩ :=
    x_set (x_cal (x_cons (cstM_ev _ _) (x_cons (callP_eq (x_cons (varM_ev rfl) (x_cons (varM_ev rfl) (nilM_ev _))) (by simp) rfl (com top bot) (by simp)) (nilM_ev _))) (by rw [← hg]; rfl)) rfl
  have hbg : 1 ≤ bot / g := by
    have h1 := Int.le_of_dvd (by omega) gd
    rw [Int.le_ediv_iff_mul_le g0]
    omega
  have hbz : (bot / g).natAbs < 2 ^ 100 := by
    have h1 : bot / g ≤ bot := Int.ediv_le_self _ (by omega)
    have : (30 : Nat) < 2 ^ 100 := by decide
    omega
  have htz : (top / g).natAbs < 2 ^ 100 := by
    refine Nat.lt_of_le_of_lt ?_ tz
    rcases Int.lt_or_le top 0 with hx | hx
    · have h1 : top ≤ top / g := by
        rw [Int.le_ediv_iff_mul_le g0]
        have : top * g ≤ top * 1 := Int.mul_le_mul_of_nonpos_left (by omega) (by omega)
        omega
      have h2 : top / g < 0 := Int.ediv_neg_of_neg_of_pos hx g0
      omega
    · have h1 : top / g ≤ top := Int.ediv_le_self _ hx
      have h2 : 0 ≤ top / g := Int.ediv_nonneg hx (by omega)
      omega
  have dv : ∀ (R : List (Option D)) (i : Nat) (v : Int), R[i]? = some (some (.int v)) → R[8]? = some (some (.int g)) → binM fdivD (varM i) (varM 8) ⟨R, []⟩ = .ok (.int (v / g), ⟨R, []⟩) := fun R i v h1 h2 => x_bin (varM_ev h1) (varM_ev h2) (by rw [fdivD_int (by omega), fdiv_pos g0])
  have e10 : setM 9 (calM strD (consM (binM fdivD (varM 6) (varM 8)) nilM)) ⟨[some (vI ns), some (.int c), some (sD zs), some (vI nb), some (.lst [vI nb, sD zs]), some (.str (shown nb zs)), some (.int top), some (.int bot), some (.int g), x9], []⟩ = .next ⟨[some (vI ns), some (.int c), some (sD zs), some (vI nb), some (.lst [vI nb, sD zs]), some (.str (shown nb zs)), some (.int top), some (.int bot), some (.int g), some (.str (tx (top / g)))], []⟩ :=
    x_set (x_cal (x_cons (dv _ 6 top rfl rfl) (nilM_ev _)) (strD_ok htz)) rfl
  have e11 : ifS (tstM (binM gtD (binM fdivD (varM 7) (varM 8)) (cstM (.int 1)))) (setM 9 (binM addD (binM addD (varM 9) (cstM (.str (Str.ofString "/")))) (calM strD (consM (binM fdivD (varM 7) (varM 8)) nilM)))) skipM ⟨[some (vI ns), some (.int c), some (sD zs), some (vI nb), some (.lst [vI nb, sD zs]), some (.str (shown nb zs)), some (.int top), some (.int bot), some (.int g), some (.str (tx (top / g)))], []⟩ = .next ⟨[some (vI ns), some (.int c), some (sD zs), some (vI nb), some (.lst [vI nb, sD zs]), some (.str (shown nb zs)), some (.int top), some (.int bot), some (.int g), some (.str (ratT (top / g) (bot / g)))], []⟩ := by
    have l1 := tx_len htz
    have l2 := tx_len hbz
    have l3 : (Str.ofString "/").length = 1 := by decide
    by_cases h : 1 < bot / g
    · rw [ratT, if_neg (by omega)]
      exact q_ifT (gt_test (dv _ 7 bot rfl rfl)) (decide_eq_true h) (x_set (x_bin (x_bin (varM_ev rfl) (cstM_ev _ _) (add_str (by omega))) (x_cal (x_cons (dv _ 7 bot rfl rfl) (nilM_ev _)) (strD_ok hbz)) (add_str (by rw [app_len]; omega))) rfl)
    · rw [ratT, if_pos (by omega)]
      exact q_ifF (gt_test (dv _ 7 bot rfl rfl)) (decide_eq_false h) (skipM_ev _)
  have r1 := ratio_ok htz hbz
  have r2 := ratio_ok tz (b := 1) (by decide)
  rw [show ratT top 1 = tx top by rw [ratT, if_pos rfl]] at r2
  refine ⟨some (sD zs), some (vI nb), some (.lst [vI nb, sD zs]), some (.str (shown nb zs)), some (.int top), some (.int bot), some (.int g), some (.str (ratT (top / g) (bot / g))), ?_⟩
  · rw [b_law_1]
    refine q_seq e2 (q_seq e3 (q_seq e4 (q_seq e5 (q_seq e6 (q_seq e7 (q_seq e8 (q_seq e9 (q_seq e10 (q_seq e11 ?_)))))))))
    exact q_ifF (x_orF (x_tst (x_bin (callP_eq (x_cons (x_tup (x_cons (dv _ 6 top rfl rfl) (x_cons (dv _ 7 bot rfl rfl) (nilM_ev _))) (by simp)) (nilM_ev _)) (by simp) rfl r1 (by simp)) (varM_ev rfl) (neD_str _ _))) (by simp) (x_tst (x_bin (callP_eq (x_cons (x_tup (x_cons (varM_ev rfl) (x_cons (cstM_ev _ _) (nilM_ev _))) (by simp)) (nilM_ev _)) (by simp) rfl r2 (by simp)) (x_cal (x_cons (varM_ev rfl) (nilM_ev _)) (strD_ok tz)) (neD_str _ _)))) (by simp) (skipM_ev _)
theorem law_true (ns : List Int) (hz : ∀ i ∈ ns, i.natAbs < 2 ^ 1048577) (h : ns.length ≤ 63) : ∃ O, f_law [.lst (ns.map D.int)] [] = .ok (.bl true, O) := by
  obtain ⟨c0, k0, hc0⟩ := cell_in ns 0
  have him : listI (binM addD (lstM (consM (callP 2 f_law_cell (consM (varM 0) (consM (cstM (.int 0)) nilM))) nilM)) (slM (varM 0) noPart (part (cstM (.int 30))))) ⟨[some (vI ns), none, none, none, none, none, none, none, none, none], []⟩ = .ok (((c0 :: ns.take 30).map D.int, none), ⟨[some (vI ns), none, none, none, none, none, none, none, none, none], []⟩) := by
    have k0 : f_law_cell [vI ns, .int 0] [] = .ok (.int c0, []) := k0
    have eb : binM addD (lstM (consM (callP 2 f_law_cell (consM (varM 0) (consM (cstM (.int 0)) nilM))) nilM)) (slM (varM 0) noPart (part (cstM (.int 30)))) ⟨[some (vI ns), none, none, none, none, none, none, none, none, none], []⟩ = .ok (vI (c0 :: ns.take 30), ⟨[some (vI ns), none, none, none, none, none, none, none, none, none], []⟩) :=
      x_bin (x_lst (x_cons (callP_eq (x_cons (varM_ev rfl) (x_cons (cstM_ev _ _) (nilM_ev _))) (by simp) rfl k0 (by simp)) (nilM_ev _)) (by simp)) (x_sl (varM_ev rfl) (x_noPart _) (x_part (cstM_ev _ _)) lsD_lst (cutD_tk D.int ns 30)) (by rw [addD_lst (by simp; omega)]; rfl)
    rw [listI_ev, eb, bind_ok]
    rfl
  obtain ⟨s', ef, x1, x2, x3, x4, x5, x6, x7, x8, x9, hs'⟩ := forGo_all (ok := okC ((c0 :: ns.take 30).map D.int) none) (g := nameG 1) (body := b_law_1)
    (fun s => ∃ x1 x2 x3 x4 x5 x6 x7 x8 x9, s = ⟨[some (vI ns), x1, x2, x3, x4, x5, x6, x7, x8, x9], []⟩) (fun _ _ => trivial) ((c0 :: ns.take 30).map D.int) (by
      rintro d hd s ⟨x1, x2, x3, x4, x5, x6, x7, x8, x9, rfl⟩
      obtain ⟨c, hcm, rfl⟩ := List.mem_map.mp hd
      have hcs : Sz 1048577 c := by
        rcases List.mem_cons.mp hcm with rfl | q
        · rcases hc0 with q | q
          · exact hz _ q
          · rw [q]; exact Sz.zero _
        · exact hz _ (List.mem_of_mem_take q)
      obtain ⟨y2, y3, y4, y5, y6, y7, y8, y9, eb⟩ := body_ok (ns := ns) (x2 := x2) (x3 := x3) (x4 := x4) (x5 := x5) (x6 := x6) (x7 := x7) (x8 := x8) (x9 := x9) hcs
      exact ⟨⟨[some (vI ns), some (.int c), x2, x3, x4, x5, x6, x7, x8, x9], []⟩, _, rfl, .inl eb, some (.int c), y2, y3, y4, y5, y6, y7, y8, y9, rfl⟩) ⟨[some (vI ns), none, none, none, none, none, none, none, none, none], []⟩ ⟨none, none, none, none, none, none, none, none, none, rfl⟩
  have hf := forS_of (g := nameG 1) (body := b_law_1) him
  rw [ef, hs'] at hf
  refine runM_ex ⟨⟨[some (vI ns), x1, x2, x3, x4, x5, x6, x7, x8, x9], []⟩, ?_⟩
  show m_law ⟨[some (vI ns), none, none, none, none, none, none, none, none, none], []⟩ = _
  rw [m_law]
  exact q_seq hf (retM_eq (cstM_ev _ _))
end Lk41
namespace Lk41
open PySem PySem.Spec PyProof.Rows L2 M
theorem all_mk {l : PySem.W.OpenLaw} {w : World} {K : PySem.W.Frag} {h : Heap} {mg : Str → Option Value} {fa f0 f1 f2 f3 f4 f5 f6 f7 f8 f9 f10 f11 : Addr} (X : K.In h) (G : h.Ns mainGlobals mg) (hfa : mg "law" = some (.ref fa)) (hpt : l.prog.given.tree = none)
  {od0 an0 od1 an1 od2 an2 od3 an3 od4 an4 od5 an5 od6 an6 od7 an7 od8 an8 od9 an9 od10 an10 od11 an11 : Option Addr} {sl0 sl1 sl2 sl3 sl4 sl5 sl6 sl7 sl8 sl9 sl10 sl11 : Array (Option Value)} {oc0 kV0 dc0 pm0 cd0 ct0 oc1 kV1 dc1 pm1 cd1 ct1 oc2 kV2 dc2 pm2 cd2 ct2 oc3 kV3 dc3 pm3 cd3 ct3 oc4 kV4 dc4 pm4 cd4 ct4 oc5 kV5 dc5 pm5 cd5 ct5 oc6 kV6 dc6 pm6 cd6 ct6 oc7 kV7 dc7 pm7 cd7 ct7 oc8 kV8 dc8 pm8 cd8 ct8 oc9 kV9 dc9 pm9 cd9 ct9 oc10 kV10 dc10 pm10 cd10 ct10 oc11 kV11 dc11 pm11 cd11 ct11 : Value}
  (a0 : PySem.W.nsIn K mainGlobals "figures" = some (some (.ref f0)))
  (l0 : K.lookup f0 = some ⟨oc0, od0, .func (PySem.W.fnOf "figures" "figures" (defArgs s_figures) (defBody s_figures) (defScope s_figures) .none kV0 dc0 pm0 an0 cd0 ct0), sl0⟩)
  (c0 : PySem.W.codeIn K cd0 "figures" = true)
  (k0 : PySem.W.keepIn K (.ref f0) = true)
  (a1 : PySem.W.nsIn K mainGlobals "show_number" = some (some (.ref f1)))
  (l1 : K.lookup f1 = some ⟨oc1, od1, .func (PySem.W.fnOf "show_number" "show_number" (defArgs s_show_number) (defBody s_show_number) (defScope s_show_number) .none kV1 dc1 pm1 an1 cd1 ct1), sl1⟩)
  (c1 : PySem.W.codeIn K cd1 "show_number" = true)
  (k1 : PySem.W.keepIn K (.ref f1) = true)
  (a2 : PySem.W.nsIn K mainGlobals "show_list" = some (some (.ref f2)))
  (l2 : K.lookup f2 = some ⟨oc2, od2, .func (PySem.W.fnOf "show_list" "show_list" (defArgs s_show_list) (defBody s_show_list) (defScope s_show_list) .none kV2 dc2 pm2 an2 cd2 ct2), sl2⟩)
  (c2 : PySem.W.codeIn K cd2 "show_list" = true)
  (k2 : PySem.W.keepIn K (.ref f2) = true)
  (a3 : PySem.W.nsIn K mainGlobals "show_ratio" = some (some (.ref f3)))
  (l3 : K.lookup f3 = some ⟨oc3, od3, .func (PySem.W.fnOf "show_ratio" "show_ratio" (defArgs s_show_ratio) (defBody s_show_ratio) (defScope s_show_ratio) .none kV3 dc3 pm3 an3 cd3 ct3), sl3⟩)
  (c3 : PySem.W.codeIn K cd3 "show_ratio" = true)
  (k3 : PySem.W.keepIn K (.ref f3) = true)
  (a4 : PySem.W.nsIn K mainGlobals "_law_cell" = some (some (.ref f4)))
  (l4 : K.lookup f4 = some ⟨oc4, od4, .func (PySem.W.fnOf "_law_cell" "_law_cell" (defArgs s_law_cell) (defBody s_law_cell) (defScope s_law_cell) .none kV4 dc4 pm4 an4 cd4 ct4), sl4⟩)
  (c4 : PySem.W.codeIn K cd4 "_law_cell" = true)
  (k4 : PySem.W.keepIn K (.ref f4) = true)
  (a5 : PySem.W.nsIn K mainGlobals "_law_next" = some (some (.ref f5)))
  (l5 : K.lookup f5 = some ⟨oc5, od5, .func (PySem.W.fnOf "_law_next" "_law_next" (defArgs s_law_next) (defBody s_law_next) (defScope s_law_next) .none kV5 dc5 pm5 an5 cd5 ct5), sl5⟩)
  (c5 : PySem.W.codeIn K cd5 "_law_next" = true)
  (k5 : PySem.W.keepIn K (.ref f5) = true)
  (a6 : PySem.W.nsIn K mainGlobals "_law_words" = some (some (.ref f6)))
  (l6 : K.lookup f6 = some ⟨oc6, od6, .func (PySem.W.fnOf "_law_words" "_law_words" (defArgs s_law_words) (defBody s_law_words) (defScope s_law_words) .none kV6 dc6 pm6 an6 cd6 ct6), sl6⟩)
  (c6 : PySem.W.codeIn K cd6 "_law_words" = true)
  (k6 : PySem.W.keepIn K (.ref f6) = true)
  (a7 : PySem.W.nsIn K mainGlobals "_law_signed" = some (some (.ref f7)))
  (l7 : K.lookup f7 = some ⟨oc7, od7, .func (PySem.W.fnOf "_law_signed" "_law_signed" (defArgs s_law_signed) (defBody s_law_signed) (defScope s_law_signed) .none kV7 dc7 pm7 an7 cd7 ct7), sl7⟩)
  (c7 : PySem.W.codeIn K cd7 "_law_signed" = true)
  (k7 : PySem.W.keepIn K (.ref f7) = true)
  (a8 : PySem.W.nsIn K mainGlobals "_law_common" = some (some (.ref f8)))
  (l8 : K.lookup f8 = some ⟨oc8, od8, .func (PySem.W.fnOf "_law_common" "_law_common" (defArgs s_law_common) (defBody s_law_common) (defScope s_law_common) .none kV8 dc8 pm8 an8 cd8 ct8), sl8⟩)
  (c8 : PySem.W.codeIn K cd8 "_law_common" = true)
  (k8 : PySem.W.keepIn K (.ref f8) = true)
  (a9 : PySem.W.nsIn K mainGlobals "_law_numbers" = some (some (.ref f9)))
  (l9 : K.lookup f9 = some ⟨oc9, od9, .func (PySem.W.fnOf "_law_numbers" "_law_numbers" (defArgs s_law_numbers) (defBody s_law_numbers) (defScope s_law_numbers) .none kV9 dc9 pm9 an9 cd9 ct9), sl9⟩)
  (c9 : PySem.W.codeIn K cd9 "_law_numbers" = true)
  (k9 : PySem.W.keepIn K (.ref f9) = true)
  (a10 : PySem.W.nsIn K mainGlobals "_law_text" = some (some (.ref f10)))
  (l10 : K.lookup f10 = some ⟨oc10, od10, .func (PySem.W.fnOf "_law_text" "_law_text" (defArgs s_law_text) (defBody s_law_text) (defScope s_law_text) .none kV10 dc10 pm10 an10 cd10 ct10), sl10⟩)
  (c10 : PySem.W.codeIn K cd10 "_law_text" = true)
  (k10 : PySem.W.keepIn K (.ref f10) = true)
  (a11 : PySem.W.nsIn K mainGlobals "law" = some (some (.ref f11)))
  (l11 : K.lookup f11 = some ⟨oc11, od11, .func (PySem.W.fnOf "law" "law" (defArgs s_law) (defBody s_law) (defScope s_law) .none kV11 dc11 pm11 an11 cd11 ct11), sl11⟩)
  (c11 : PySem.W.codeIn K cd11 "law" = true)
  (k11 : PySem.W.keepIn K (.ref f11) = true)
  (z_abs : PySem.W.nsIn K mainGlobals "abs" = some none)
  (z_str : PySem.W.nsIn K mainGlobals "str" = some none)
  (z_zip : PySem.W.nsIn K mainGlobals "zip" = some none)
  (z_len : PySem.W.nsIn K mainGlobals "len" = some none)
  (z_range : PySem.W.nsIn K mainGlobals "range" = some none)
  (z_min : PySem.W.nsIn K mainGlobals "min" = some none)
  (z_list : PySem.W.nsIn K mainGlobals "list" = some none)
  (z_isinstance : PySem.W.nsIn K mainGlobals "isinstance" = some none)
  (z_max : PySem.W.nsIn K mainGlobals "max" = some none) :
  ∃ fd : FuncData, (∀ (s : Shared) (v : Value), BindsTo s fd ⟨[v], []⟩ [("_law_script", v)]) ∧ ∀ base : Heap, K.In base → base.Ns mainGlobals mg → FnOk l.prog w K mg base (CXE l.prog w) 38 fa fd ["_law_script"] (spM K (fun _ => 0) 1 f_law) := by
  have e := hfa.symm.trans (PySem.W.mg_of X G a11)
  cases e
  have F0 := fun_mk (st := s_figures) l0 c0 k0
  have F1 := fun_mk (st := s_show_number) l1 c1 k1
  have F2 := fun_mk (st := s_show_list) l2 c2 k2
  have F3 := fun_mk (st := s_show_ratio) l3 c3 k3
  have F4 := fun_mk (st := s_law_cell) l4 c4 k4
  have F5 := fun_mk (st := s_law_next) l5 c5 k5
  have F6 := fun_mk (st := s_law_words) l6 c6 k6
  have F7 := fun_mk (st := s_law_signed) l7 c7 k7
  have F8 := fun_mk (st := s_law_common) l8 c8 k8
  have F9 := fun_mk (st := s_law_numbers) l9 c9 k9
  have F10 := fun_mk (st := s_law_text) l10 c10 k10
  have F11 := fun_mk (st := s_law) l11 c11 k11
  refine ⟨PySem.W.fnOf "law" "law" (defArgs s_law) (defBody s_law) (defScope s_law) .none kV11 dc11 pm11 an11 cd11 ct11, fun s v => .of_eq rfl, fun base _ _ => ?_⟩
  have E_figures := ok_figures (P := l.prog) (w := w) (mg := mg) (base := base) (ca := fun _ => 0) F0 (PySem.W.mg_of X G a0) hpt (PySem.W.mg_none_of X G z_abs) (PySem.W.mg_none_of X G z_str)
  have E_show_number := ok_show_number (P := l.prog) (w := w) (mg := mg) (base := base) (ca := fun _ => 0) F1 (PySem.W.mg_of X G a1) hpt E_figures.in
  have E_show_list := ok_show_list (P := l.prog) (w := w) (mg := mg) (base := base) (ca := fun _ => 0) F2 (PySem.W.mg_of X G a2) hpt (PySem.W.mg_none_of X G z_zip) E_show_number.in
  have E_show_ratio := ok_show_ratio (P := l.prog) (w := w) (mg := mg) (base := base) (ca := fun _ => 0) F3 (PySem.W.mg_of X G a3) hpt E_figures.in
  have E_law_cell := ok_law_cell (P := l.prog) (w := w) (mg := mg) (base := base) (ca := fun _ => 0) F4 (PySem.W.mg_of X G a4) hpt (PySem.W.mg_none_of X G z_len)
  have E_law_next := ok_law_next (P := l.prog) (w := w) (mg := mg) (base := base) (ca := fun _ => 0) F5 (PySem.W.mg_of X G a5) hpt
  have E_law_words := ok_law_words (P := l.prog) (w := w) (mg := mg) (base := base) (ca := fun _ => 0) F6 (PySem.W.mg_of X G a6) hpt (PySem.W.mg_none_of X G z_range) (PySem.W.mg_none_of X G z_min)
  have E_law_signed := ok_law_signed (P := l.prog) (w := w) (mg := mg) (base := base) (ca := fun _ => 0) F7 (PySem.W.mg_of X G a7) hpt
  have E_law_common := ok_law_common (P := l.prog) (w := w) (mg := mg) (base := base) (ca := fun _ => 0) F8 (PySem.W.mg_of X G a8) hpt (PySem.W.mg_none_of X G z_abs)
  have E_law_numbers := ok_law_numbers (P := l.prog) (w := w) (mg := mg) (base := base) (ca := fun _ => 0) F9 (PySem.W.mg_of X G a9) hpt (PySem.W.mg_none_of X G z_range) E_law_next.in E_law_signed.in
  have E_law_text := ok_law_text (P := l.prog) (w := w) (mg := mg) (base := base) (ca := fun _ => 0) F10 (PySem.W.mg_of X G a10) hpt (PySem.W.mg_none_of X G z_len) (PySem.W.mg_none_of X G z_range) (PySem.W.mg_none_of X G z_str)
  have E_law := ok_law (P := l.prog) (w := w) (mg := mg) (base := base) (ca := fun _ => 0) F11 (PySem.W.mg_of X G a11) hpt (PySem.W.mg_none_of X G z_len) (PySem.W.mg_none_of X G z_list) (PySem.W.mg_none_of X G z_isinstance) (PySem.W.mg_none_of X G z_str) (PySem.W.mg_none_of X G z_max) E_law_cell.in E_law_words.in E_law_next.in E_law_numbers.in E_show_list.in E_law_text.in E_law_signed.in E_law_common.in E_show_ratio.in
  exact E_law.1
end Lk41
open PySem PySem.W PyProof.Rows
set_option maxRecDepth 100000 in
set_option maxHeartbeats 0 in
theorem PySem.Challenge.cw_modeyard_k41_lists_and_ratios_written_holds : PySem.Challenge.rw_modeyard_k41_lists_and_ratios_written.Holds := by
  w_on; o_law; k_head; (case hw => w_witness2)
  k_fill
  refine L2.walk_ofS (l := PySem.Challenge.rw_modeyard_k41_lists_and_ratios_written) (n := 63) (k := 38) (x := "_law_script") (sp := fun K => M.spM K (fun _ => 0) 1 Lk41.f_law) rfl (by decide) rfl ⟨rfl, by decide, by decide⟩ (by decide +kernel) (fun w h Y => PySem.W.kIn_of Y) ?F ?S
  case F =>
    intro w mg fa h KX G hmg
    refine' Lk41.all_mk KX G hmg rfl ?a0 ?l0 ?c0 ?k0 ?a1 ?l1 ?c1 ?k1 ?a2 ?l2 ?c2 ?k2 ?a3 ?l3 ?c3 ?k3 ?a4 ?l4 ?c4 ?k4 ?a5 ?l5 ?c5 ?k5 ?a6 ?l6 ?c6 ?k6 ?a7 ?l7 ?c7 ?k7 ?a8 ?l8 ?c8 ?k8 ?a9 ?l9 ?c9 ?k9 ?a10 ?l10 ?c10 ?k10 ?a11 ?l11 ?c11 ?k11 ?z_abs ?z_str ?z_zip ?z_len ?z_range ?z_min ?z_list ?z_isinstance ?z_max
    (case a0 => k_is)
    (case l0 => k_is)
    (case c0 => k_is)
    (case k0 => k_is)
    (case a1 => k_is)
    (case l1 => k_is)
    (case c1 => k_is)
    (case k1 => k_is)
    (case a2 => k_is)
    (case l2 => k_is)
    (case c2 => k_is)
    (case k2 => k_is)
    (case a3 => k_is)
    (case l3 => k_is)
    (case c3 => k_is)
    (case k3 => k_is)
    (case a4 => k_is)
    (case l4 => k_is)
    (case c4 => k_is)
    (case k4 => k_is)
    (case a5 => k_is)
    (case l5 => k_is)
    (case c5 => k_is)
    (case k5 => k_is)
    (case a6 => k_is)
    (case l6 => k_is)
    (case c6 => k_is)
    (case k6 => k_is)
    (case a7 => k_is)
    (case l7 => k_is)
    (case c7 => k_is)
    (case k7 => k_is)
    (case a8 => k_is)
    (case l8 => k_is)
    (case c8 => k_is)
    (case k8 => k_is)
    (case a9 => k_is)
    (case l9 => k_is)
    (case c9 => k_is)
    (case k9 => k_is)
    (case a10 => k_is)
    (case l10 => k_is)
    (case c10 => k_is)
    (case k10 => k_is)
    (case a11 => k_is)
    (case l11 => k_is)
    (case c11 => k_is)
    (case k11 => k_is)
    (case z_abs => k_is)
    (case z_str => k_is)
    (case z_zip => k_is)
    (case z_len => k_is)
    (case z_range => k_is)
    (case z_min => k_is)
    (case z_list => k_is)
    (case z_isinstance => k_is)
    (case z_max => k_is)
  case S => exact fun K H a ns hz hl _ hS => M.law_sp hS (Lk41.law_true ns hz hl)
