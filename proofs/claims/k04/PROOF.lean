import PyProof.Rows.All
import Wide.All
import OpenK.AllK
import Wide.FinOn
import Lean
import PyProof.EqAt
import PyProof.EqKinds
import PyProof.TupleCall
import PySem.Challenge.RW_modeyard_k04_times_over_under
set_option Elab.async false
set_option linter.all false
set_option maxRecDepth 100000
namespace L2
open PySem PySem.Spec PyProof.Rows
abbrev Key := Sum Int Str
def keyIs : Key → Value → Bool
  | .inl k, v => Value.isInt k v
  | .inr x, v => Value.isStrOf x v
def keyH (w : World) : Key → Int
  | .inl k => hashInt k
  | .inr x => hashStr w x
theorem keyIs_shape : ∀ {k : Key} {v : Value}, keyIs k v = true → (∃ i t, k = Sum.inl i ∧ v = Value.int i t) ∨ (∃ x t, k = Sum.inr x ∧ v = Value.str x t)
  | .inl i, v, h => by
    obtain ⟨t, e⟩ := Value.isInt_shape (k := i) (v := v) h
    exact .inl ⟨i, t, rfl, e⟩
  | .inr x, v, h => by
    obtain ⟨t, e⟩ := Value.isStrOf_shape (x := x) (v := v) h
    exact .inr ⟨x, t, rfl, e⟩
theorem key_ll (a b : Int) : decide ((Sum.inl a : Key) = Sum.inl b) = (a == b) := by
  by_cases e : a = b
  · subst e; simp
  · have h : ¬ (Sum.inl a : Key) = Sum.inl b := fun q => e (Sum.inl.inj q)
    rw [decide_eq_false h]
    exact (beq_eq_false_iff_ne.mpr e).symm
theorem key_rr (a b : Str) : decide ((Sum.inr a : Key) = Sum.inr b) = decide (a = b) := by
  by_cases e : a = b
  · subst e; simp
  · have h : ¬ (Sum.inr a : Key) = Sum.inr b := fun q => e (Sum.inr.inj q)
    rw [decide_eq_false h, decide_eq_false e]
theorem key_lr (a : Int) (b : Str) : decide ((Sum.inl a : Key) = Sum.inr b) = false := decide_eq_false (fun q => nomatch q)
theorem key_rl (a : Str) (b : Int) : decide ((Sum.inr a : Key) = Sum.inl b) = false := decide_eq_false (fun q => nomatch q)
def mixKind (prog : Program) (w : World) : PySem.KeyKind prog w Key where
  is := keyIs
  hash := keyH w
  inj := fun v a b ha hb => by
    rcases keyIs_shape ha with ⟨i, t, rfl, rfl⟩ | ⟨x, t, rfl, rfl⟩
    · rcases keyIs_shape hb with ⟨j, u, rfl, e⟩ | ⟨y, u, rfl, e⟩
      · injection e with e1 _; rw [e1]
      · exact nomatch e
    · rcases keyIs_shape hb with ⟨j, u, rfl, e⟩ | ⟨y, u, rfl, e⟩
      · exact nomatch e
      · injection e with e1 _; rw [e1]
  byValue := fun k v h => by
    rcases keyIs_shape h with ⟨i, t, rfl, rfl⟩ | ⟨x, t, rfl, rfl⟩ <;> rfl
  pyHash := fun hv h => by
    rcases keyIs_shape hv with ⟨i, t, rfl, rfl⟩ | ⟨x, t, rfl, rfl⟩
    · exact wpAny_pyHash_int h
    · exact wpAny_pyHash_str h
  eqBool := fun hu hv h => by
    rcases keyIs_shape hu with ⟨i, t, rfl, rfl⟩ | ⟨x, t, rfl, rfl⟩
    · rcases keyIs_shape hv with ⟨j, u, rfl, rfl⟩ | ⟨y, u, rfl, rfl⟩
      · rw [key_ll] at h; exact wpAny_eqBool_int h
      · rw [key_lr] at h; exact SeqAt.EqAt.int_str i t y u _ _ _ _ h
    · rcases keyIs_shape hv with ⟨j, u, rfl, rfl⟩ | ⟨y, u, rfl, rfl⟩
      · rw [key_rl] at h; exact SeqAt.EqAt.str_int x t j u _ _ _ _ h
      · rw [key_rr] at h; exact wpAny_eqBool_str h
  «strs» := fun k x t v h => by
    rcases keyIs_shape h with ⟨i, u, rfl, e⟩ | ⟨y, u, rfl, e⟩
    · exact nomatch e
    · injection e with e1 _
      subst e1
      cases v <;> rfl
end L2
namespace L2
open PySem PySem.Spec PyProof.Rows
inductive V where
  | non | bl (b : Bool) | int (i : Int) | str (x : Str) | byt (b : Array UInt8) | flt (b : UInt64) | ref (a : Addr) | ty (n : String)
  deriving DecidableEq
def RelV : V → Value → Prop
  | .non, u => u = Value.none
  | .bl b, u => u = Value.bool b
  | .int i, u => ∃ t, u = Value.int i t
  | .str x, u => ∃ t, u = Value.str x t
  | .byt b, u => ∃ t, u = Value.bytes b t
  | .flt b, u => ∃ t, u = Value.float b t
  | .ref a, u => u = Value.ref a
  | .ty n, u => u = Value.type n
abbrev Vals : List V → List Value → Prop := Paired RelV
theorem Vals.length {xs : List V} {us : List Value} (r : Vals xs us) : xs.length = us.length := Paired.length r
theorem Vals.get : ∀ {xs : List V} {us : List Value} {i : Nat} {x : V}, Vals xs us → xs[i]? = some x → ∃ u, us[i]? = some u ∧ RelV x u
  | _, _, _, _, .nil, e => by simp at e
  | _, _, 0, _, .cons r _, e => by simp at e; subst e; exact ⟨_, rfl, r⟩
  | _, _, i + 1, x, .cons _ t, e => by
    obtain ⟨u, h1, h2⟩ := Vals.get (i := i) (x := x) t (by simpa using e)
    exact ⟨u, by simpa using h1, h2⟩
theorem Vals.set {x : V} {u : Value} (r : RelV x u) : ∀ {xs : List V} {us : List Value} (i : Nat), Vals xs us → Vals (xs.set i x) (us.set i u)
  | _, _, _, .nil => .nil
  | _, _, 0, .cons _ t => .cons r t
  | _, _, i + 1, .cons q t => .cons q (Vals.set r i t)
theorem Vals.append : ∀ {xs ys : List V} {us ws : List Value}, Vals xs us → Vals ys ws → Vals (xs ++ ys) (us ++ ws)
  | _, _, _, _, .nil, s => s
  | _, _, _, _, .cons r t, s => .cons r (Vals.append t s)
theorem Vals.take : ∀ {xs : List V} {us : List Value} (n : Nat), Vals xs us → Vals (xs.take n) (us.take n)
  | _, _, 0, _ => .nil
  | _, _, _ + 1, .nil => .nil
  | _, _, n + 1, .cons r t => .cons r (Vals.take n t)
theorem Vals.drop : ∀ {xs : List V} {us : List Value} (n : Nat), Vals xs us → Vals (xs.drop n) (us.drop n)
  | _, _, 0, r => r
  | _, _, _ + 1, .nil => .nil
  | _, _, n + 1, .cons _ t => Vals.drop n t
def RelO : Option V → Option Value → Prop
  | some v, some u => RelV v u
  | none, none => True
  | _, _ => False
def KV {κ : Type} : List (κ × V) → List (κ × Value) → Prop := Paired fun (p : κ × V) (q : κ × Value) => p.1 = q.1 ∧ RelV p.2 q.2
def kV : Key → V
  | .inl i => .int i
  | .inr x => .str x
inductive HO where
    | lst (xs : List V)
    | tup (xs : List V)
    | dK (kvs : List (Key × V)) | dT (kvs : List (List Key × V))
    | set (S : Int → Bool) (n : Nat)
    | ins (C dx : Addr) (fs : List (Str × V))
    | own (x : Addr)
    | xd (fs : List (Str × V))
    | met (f x : Addr)
    | rng (lo hi : Int)
    | frz (o : Obj) (u : HO)
    | tbl (ps : Array Value)
    | ext (φ : Heap → Prop)
abbrev Hp := Addr → Option HO
def upd (H : Hp) (a : Addr) (o : HO) : Hp := fun b => if b = a then some o else H b
theorem upd_same {H : Hp} {a : Addr} {o : HO} : upd H a o a = some o := by unfold upd; rw [if_pos rfl]
theorem upd_ne {H : Hp} {a b : Addr} {o : HO} (h : b ≠ a) : upd H a o b = H b := by unfold upd; rw [if_neg h]
theorem ne_of_none {H : Hp} {a b : Addr} {o : HO} (h : H a = some o) (h' : H b = none) : a ≠ b := by
  intro e; subst e; rw [h] at h'; cases h'
section
variable (P : Program) (w : World)
def ObjOk (H : Hp) (h : Heap) (a : Addr) : HO → Prop
  | .lst xs => xs.length ≤ sizeLine ∧ ∃ (its : List Value) (n : Nat), Vals xs its ∧ h.get? a = some { cls := .type "list", data := .seq its.toArray n }
  | .tup xs => xs.length ≤ sizeLine ∧ ∃ its : List Value, Vals xs its ∧ IsTup h a its.toArray
  | .dK kvs => kvs.length ≤ sizeLine ∧ (a == sysModules) = false ∧ ∃ vs, KV kvs vs ∧ h.DictOf (mixKind P w) a vs
  | .dT kvs => kvs.length ≤ sizeLine ∧ (a == sysModules) = false ∧ ∃ xs : List (List Key × Addr × Value),
      Paired (fun (p : List Key × V) (q : List Key × Addr × Value) => p.1 = q.1 ∧ H q.2.1 = some (.tup (p.1.map kV)) ∧ RelV p.2 q.2.2) kvs xs ∧
      ∃ o es ep, h.get? a = some o ∧ o.ExactDict ∧ o.data = .dict es ep ∧ es.toList = xs.map (entryOfKey (tupleKind (mixKind P w))) ∧ (xs.map (·.1)).Nodup
  | .set S n => h.SetOf (intKind P w) a S n
  | .ins C dx fs => H dx = some (.own a) ∧ fs.length ≤ 1000 ∧ dx ≠ a ∧ h.get? a = some (PySem.W.instObj C dx) ∧
      ∃ mA, h.Ns1 dx mA ∧ (∀ f, RelO (fs.lookup f) (mA f)) ∧ PySem.Within mA (fs.map (·.1))
  | .own _ => ∃ o, h.get? a = some o
  | .xd fs => ∃ mA, h.Ns1 a mA ∧ ∀ f, RelO (fs.lookup f) (mA f)
  | .rng lo hi => ∃ t u v, h.get? a = some { cls := .type "range", data := .fields #[.int lo t, .int hi u, .int 1 v] }
  | .frz o u => h.get? a = some o ∧ ObjOk H h a u
  | .tbl ps => h.get? a = some { cls := .none, data := .fields ps }
  | .met f x => h.get? a = some (PySem.W.methodObj (.ref f) (.ref x))
  | .ext φ => φ h ∧ (∃ o, h.get? a = some o) ∧ ∀ h1 h2 : Heap, φ h1 → (∀ o, h1.get? a = some o → h2.get? a = some o) → φ h2
def HOk (H : Hp) (h : Heap) : Prop := ∀ a o, H a = some o → ObjOk P w H h a o
end
section
variable {P : Program} {w : World} {H H' : Hp} {h h' : Heap} {a : Addr} {o : HO}
theorem ObjOk.lt (x : ObjOk P w H h a o) : a < h.objs.size := by
  cases o with
  | lst xs => obtain ⟨_, _, _, _, e⟩ := x; exact Heap.lt_size e
  | tup xs => obtain ⟨_, _, _, p⟩ := x; exact p.lt
  | dK kvs => obtain ⟨_, _, _, _, o, _, _, e, _⟩ := x; exact Heap.lt_size e
  | dT kvs => obtain ⟨_, _, _, _, o, _, _, e, _⟩ := x; exact Heap.lt_size e
  | set S n => obtain ⟨o, _, _, _, e, _⟩ := x; exact Heap.lt_size e
  | ins C dx fs => obtain ⟨_, _, _, e, _⟩ := x; exact Heap.lt_size e
  | own y => obtain ⟨_, e⟩ := x; exact Heap.lt_size e
  | xd fs => obtain ⟨_, ⟨_, _, _, e, _⟩, _⟩ := x; exact Heap.lt_size e
  | rng lo hi => obtain ⟨_, _, _, e⟩ := x; exact Heap.lt_size e
  | frz ob u => obtain ⟨e, _⟩ := x; exact Heap.lt_size e
  | tbl ps => exact Heap.lt_size (show h.get? a = some _ from x)
  | met f y => exact Heap.lt_size (show h.get? a = some _ from x)
  | ext φ => obtain ⟨_, ⟨_, e⟩, _⟩ := x; exact Heap.lt_size e
theorem Paired.mapP {α β : Type} {F G : α → β → Prop} : ∀ {l₁ : List α} {l₂ : List β}, Paired F l₁ l₂ → (∀ a b, F a b → G a b) → Paired G l₁ l₂
  | _, _, .nil, _ => .nil
  | _, _, .cons r t, f => .cons (f _ _ r) (Paired.mapP t f)
theorem ObjOk.stay (x : ObjOk P w H h a o) (k : ∀ b u, (b = a ∨ H b = some (.own a)) → h.get? b = some u → h'.get? b = some u)
    (ho : ∀ b, H b = some (.own a) → H' b = some (.own a)) (ht : ∀ b xs, H b = some (.tup xs) → H' b = some (.tup xs)) : ObjOk P w H' h' a o := by
  induction o with
  | lst xs => obtain ⟨z, its, n, r, e⟩ := x; exact ⟨z, its, n, r, k _ _ (.inl rfl) e⟩
  | tup xs => obtain ⟨z, its, r, ob, e, c⟩ := x; exact ⟨z, its, r, ob, k _ _ (.inl rfl) e, c⟩
  | dK kvs => obtain ⟨z, y, vs, r, ob, es, ep, e, c⟩ := x; exact ⟨z, y, vs, r, ob, es, ep, k _ _ (.inl rfl) e, c⟩
  | dT kvs =>
    obtain ⟨z, y, xs, r, ob, es, ep, e, c⟩ := x
    exact ⟨z, y, xs, Paired.mapP r fun p q z => ⟨z.1, ht _ _ z.2.1, z.2.2⟩, ob, es, ep, k _ _ (.inl rfl) e, c⟩
  | set S n => obtain ⟨ob, es, ep, t, e, c⟩ := x; exact ⟨ob, es, ep, t, k _ _ (.inl rfl) e, c⟩
  | ins C dx fs =>
    obtain ⟨d, z, ne, e, mA, ⟨od, es, ep, e2, c⟩, r⟩ := x
    exact ⟨ho _ d, z, ne, k _ _ (.inl rfl) e, mA, ⟨od, es, ep, k _ _ (.inr d) e2, c⟩, r⟩
  | own y => obtain ⟨ob, e⟩ := x; exact ⟨ob, k _ _ (.inl rfl) e⟩
  | xd fs => obtain ⟨mA, ⟨od, es, ep, e, c⟩, r⟩ := x; exact ⟨mA, ⟨od, es, ep, k _ _ (.inl rfl) e, c⟩, r⟩
  | rng lo hi => obtain ⟨t, u, v, e⟩ := x; exact ⟨t, u, v, k _ _ (.inl rfl) e⟩
  | frz ob u ih => obtain ⟨e, q⟩ := x; exact ⟨k _ _ (.inl rfl) e, ih q⟩
  | tbl ps =>
    have e : h.get? a = some { cls := .none, data := .fields ps } := x
    show h'.get? a = some { cls := .none, data := .fields ps }
    exact k a _ (.inl rfl) e
  | met f y =>
    have e : h.get? a = some (PySem.W.methodObj (.ref f) (.ref y)) := x
    show h'.get? a = some (PySem.W.methodObj (.ref f) (.ref y))
    exact k a _ (.inl rfl) e
  | ext φ => obtain ⟨p, ⟨o, e⟩, st⟩ := x; exact ⟨st _ _ p fun o q => k _ _ (.inl rfl) q, ⟨o, k _ _ (.inl rfl) e⟩, st⟩
theorem HOk.lt (x : HOk P w H h) (e : H a = some o) : a < h.objs.size := (x a o e).lt
theorem HOk.fresh (x : HOk P w H h) (e : h.objs.size ≤ a) : H a = none := by
  cases q : H a with
  | none => rfl
  | some u => exact absurd (Nat.lt_of_lt_of_le (x.lt q) e) (Nat.lt_irrefl _)
theorem HOk.kept (x : HOk P w H h) (k : ∀ b u, h.get? b = some u → h'.get? b = some u) : HOk P w H h' := fun a o e =>
  (x a o e).stay (fun b u _ q => k b u q) (fun _ q => q) fun _ _ q => q
theorem HOk.laid (x : HOk P w H h) (k : ∀ b u, h.get? b = some u → h'.get? b = some u) (hp : h.objs.size ≤ a) (new : ObjOk P w (upd H a o) h' a o) : HOk P w (upd H a o) h' := fun b u e => by
  have hn := x.fresh hp
  by_cases hb : b = a
  · subst hb; rw [upd_same] at e; cases e; exact new
  · rw [upd_ne hb] at e
    exact (x b u e).stay (fun c v _ q => k c v q) (fun c q => by rw [upd_ne (ne_of_none q hn)]; exact q) fun c xs q => by rw [upd_ne (ne_of_none q hn)]; exact q
end
def Rd (H : Hp) (a : Addr) (u : HO) : Prop := H a = some u ∨ ∃ o, H a = some (.frz o u)
theorem Rd.of {H : Hp} {a : Addr} {u : HO} (h : H a = some u) : Rd H a u := .inl h
theorem Rd.ok {P : Program} {w : World} {H : Hp} {h : Heap} {a : Addr} {u : HO} (r : Rd H a u) (x : HOk P w H h) : ObjOk P w H h a u := by
  rcases r with r | ⟨o, r⟩
  · exact x a u r
  · obtain ⟨_, q⟩ := x a _ r
    exact q
section
variable {P : Program} {w : World} {H : Hp} {h h' : Heap} {x e : Addr} {o' : HO}
end
structure Un (fs ex : List Addr) (H H' : Hp) (h h' : Heap) : Prop where
  keep : ∀ b o, h.get? b = some o → H b = none → b ∉ fs → b ∉ ex → h'.get? b = some o
  slot : ∀ b o, h.get? b = some o → H b = none → b ∈ fs → b ∉ ex → ∃ sl, h'.get? b = some { o with slots := sl }
  free : ∀ b o, h.get? b = some o → H b = none → b ∉ ex → H' b = none
  there : ∀ b o, h.get? b = some o → b ∉ ex → ∃ o', h'.get? b = some o'
  tups : ∀ b xs, H b = some (.tup xs) → H' b = some (.tup xs)
  frzs : ∀ b o u, H b = some (.frz o u) → H' b = some (.frz o u)
  tbls : ∀ b ps, H b = some (.tbl ps) → ∃ more, H' b = some (.tbl (ps ++ more))
section
variable {fs fs' ex ex' : List Addr} {H H1 H2 : Hp} {h h1 h2 h' : Heap} {a x e : Addr} {o : HO}
theorem Un.any (u : Un fs ex H H1 h h1) {b : Addr} {ob : Obj} (q : h.get? b = some ob) (n : H b = none) (hx : b ∉ ex) : ∃ sl, h1.get? b = some { ob with slots := sl } := by
  by_cases hb : b ∈ fs
  · exact u.slot b ob q n hb hx
  · exact ⟨ob.slots, u.keep b ob q n hb hx⟩
theorem Un.trans (a : Un fs ex H H1 h h1) (b : Un fs ex H1 H2 h1 h2) : Un fs ex H H2 h h2 where
  keep := fun c ob q n hc hx => b.keep c ob (a.keep c ob q n hc hx) (a.free c ob q n hx) hc hx
  slot := fun c ob q n hc hx => by
    obtain ⟨sl, e1⟩ := a.slot c ob q n hc hx
    obtain ⟨sl', e2⟩ := b.slot c _ e1 (a.free c ob q n hx) hc hx
    exact ⟨sl', e2⟩
  free := fun c ob q n hx => by
    obtain ⟨o', e1⟩ := a.there c ob q hx
    exact b.free c o' e1 (a.free c ob q n hx) hx
  there := fun c ob q hx => by
    obtain ⟨o', e1⟩ := a.there c ob q hx
    exact b.there c o' e1 hx
  tups := fun c xs q => b.tups c xs (a.tups c xs q)
  frzs := fun c ob xs q => b.frzs c ob xs (a.frzs c ob xs q)
  tbls := fun c ps q => by
    obtain ⟨m1, e1⟩ := a.tbls c ps q
    obtain ⟨m2, e2⟩ := b.tbls c _ e1
    exact ⟨m1 ++ m2, by rw [e2, Array.append_assoc]⟩
theorem Un.kept (k : ∀ b u, h.get? b = some u → h'.get? b = some u) : Un fs ex H H h h' :=
  ⟨fun b ob q _ _ _ => k b ob q, fun b ob q _ _ _ => ⟨ob.slots, k b ob q⟩, fun _ _ _ n _ => n, fun b ob q _ => ⟨ob, k b ob q⟩, fun _ _ q => q, fun _ _ _ q => q, fun _ ps q => ⟨#[], by rw [q]; simp⟩⟩
theorem Un.refl : Un fs ex H H h h := Un.kept fun _ _ q => q
theorem Un.laid (k : ∀ b u, h.get? b = some u → h'.get? b = some u) (hp : h.objs.size ≤ a) (hn : H a = none) : Un fs ex H (upd H a o) h h' where
  keep := fun b u q _ _ _ => k b u q
  slot := fun b u q _ _ _ => ⟨u.slots, k b u q⟩
  free := fun b u q n _ => by rw [upd_ne (Nat.ne_of_lt (Nat.lt_of_lt_of_le (Heap.lt_size q) hp))]; exact n
  there := fun b u q _ => ⟨u, k b u q⟩
  tups := fun b xs q => by rw [upd_ne (ne_of_none q hn)]; exact q
  frzs := fun b u xs q => by rw [upd_ne (ne_of_none q hn)]; exact q
  tbls := fun b ps q => ⟨#[], by rw [upd_ne (ne_of_none q hn), q]; simp⟩
theorem Un.mono (u : Un fs ex H H1 h h1) (hs : ∀ b ∈ fs, b ∈ fs') (hx : ∀ b ∈ ex, b ∈ ex') : Un fs' ex' H H1 h h1 :=
  ⟨fun b ob q n hb he => u.keep b ob q n (fun z => hb (hs b z)) fun z => he (hx b z), fun _ _ q n _ he => u.any q n fun z => he (hx _ z), fun b ob q n he => u.free b ob q n fun z => he (hx b z), fun b ob q he => u.there b ob q fun z => he (hx b z), u.tups, u.frzs, u.tbls⟩
end
def trk (h : Heap) (H : Hp) : List Addr := (List.range h.objs.size).filter fun a => (H a).isSome
def hidT (h : Heap) (H : Hp) : Heap := PySem.W.hideAll h (trk h H)
theorem hidT_size (h : Heap) (H : Hp) : (hidT h H).objs.size = h.objs.size := PySem.W.hideAll_size _ _
theorem hidT_get {h : Heap} {H : Hp} {b : Addr} {o : Obj} (e : h.get? b = some o) (n : H b = none) : (hidT h H).get? b = some o :=
  PySem.W.hideAll_get _ e fun hm => by
    have q : (H b).isSome = true := (List.mem_filter.mp hm).2
    rw [n] at q; simp at q
theorem of_hidT {h : Heap} {H : Hp} {b : Addr} {o : Obj} (e : (hidT h H).get? b = some o) : h.get? b = some o ∧ H b = none := by
  have e' : h.get? b = some o := PySem.W.of_hideAll (trk h H) e
  refine ⟨e', ?_⟩
  cases q : H b with
  | none => rfl
  | some x =>
    have hm : b ∈ trk h H := List.mem_filter.mpr ⟨List.mem_range.mpr (Heap.lt_size e'), by simp [q]⟩
    have z : (hidT h H).get? b = none := PySem.W.hideAll_none (trk h H) hm
    rw [z] at e; cases e
def allNews (g h : Heap) (L : Addr) : List (Addr × Obj) := (List.range h.objs.size).filterMap fun a => if a = L ∨ (g.get? a).isSome = true then none else (h.get? a).map fun o => (a, o)
def rest (g h : Heap) (L d : Addr) : List (Addr × Obj) := (allNews g h L).filter fun p => decide (p.1 ≠ d)
end L2
namespace L2
open PySem PySem.Spec PyProof.Rows
structure Mod (K : PySem.W.Frag) (mg : Str → Option Value) (base : Heap) : Prop where
  kin : K.In base
  glob : base.Ns mainGlobals mg
  blt : ∃ mb, base.Ns builtinsNs mb ∧ ∀ x : Str, x ≠ "__name__" → mb x = bootBuiltins x
  nolimit : base.NoLimit
  seer : base.NoSeer
structure Cx where
  prog : Program
  w : World
  K : PySem.W.Frag
  mg : Str → Option Value
  base : Heap
  A : Around
  N : List Str
  s₀ : Shared
  H₀ : Hp
  env : Env
  outer : List Env
  stack : List Env
  ex : List Addr
  fn : Str → Bool
  calm : Bool
  pn : List (Addr × Obj)
  xe : Value → Shared → Prop
def frs (l : List Env) : List Addr := l.filterMap (·.frame)
abbrev Cx.fs (X : Cx) : List Addr := frs X.outer
def Vis (sc : Scope) (x : Str) : Prop := sc.names.lookup x = some .local ∨ sc.names.lookup x = some .cell ∨ sc.names.lookup x = some .free
def Loc (sc : Scope) (x : Str) : Prop := sc.names.lookup x = some .local ∨ sc.names.lookup x = some .cell
def Look (env : Env) (h : Heap) (m : Str → Option Value) (x : Str) (u : Value) : Prop :=
  (env.kindOf x = some .local ∧ m x = some u) ∨ ((env.kindOf x = some .cell ∨ env.kindOf x = some .free) ∧ ∃ c, env.cells.lookup x = some c ∧ h.IsCell c (some u))
structure Cx.Ok (X : Cx) : Prop where
  mod : Mod X.K X.mg X.base
  kind : X.env.scope.kind = .function
  glob : X.env.globals = mainGlobals
  blt : X.env.builtins = builtinsNs
  above : X.s₀.heap.objs.size ≤ X.env.locals
  inj : ∀ x y c, X.env.cells.lookup x = some c → X.env.cells.lookup y = some c → x = y
  has : ∀ x, (X.env.kindOf x = some .cell ∨ X.env.kindOf x = some .free) → ∃ c, X.env.cells.lookup x = some c
  cab : ∀ x c, X.fn x = true → X.env.cells.lookup x = some c → X.s₀.heap.objs.size ≤ c
  hd : X.calm = true → X.A.handled = none
  frames : X.A.frames = some X.stack
  stk : X.stack = X.outer ∨ (X.stack = X.env :: X.outer ∧ X.env.frame = some X.env.locals)
  exf : ∀ b ∈ X.ex, b ≠ X.env.locals ∧ ∀ x c, X.env.cells.lookup x = some c → c ≠ b
  bs : ∀ b o, X.base.get? b = some o → X.s₀.heap.get? b = some o ∧ X.H₀ b = none
  bsz : X.base.objs.size ≤ X.s₀.heap.objs.size
  noex : ∀ b o, X.base.get? b = some o → b ∉ X.ex
  exfs : ∀ b ∈ X.ex, b ∉ X.fs
  funs : X.s₀.heap.FunFrames X.base X.outer
  frf : ∀ b ∈ X.fs, X.H₀ b = none
structure Inv (X : Cx) (pins : List (Addr × Obj)) (σ : List (Option V)) (H : Hp) (s : Shared) : Prop where
  ok : X.Ok
  os : s.os = X.s₀.os
  bare : AllBare s.gens
  base : Un X.fs X.ex X.H₀ H X.s₀.heap s.heap
  loc : ∃ m, s.heap.Ns X.env.locals m ∧ ∀ (i : Nat) (x : Str) (v : V), X.N[i]? = some x → σ[i]? = some (some v) → Vis X.env.scope x → ∃ u, RelV v u ∧ Look X.env s.heap m x u
  cell : ∀ x c, X.env.cells.lookup x = some c → ∃ v, s.heap.IsCell c v
  free : H X.env.locals = none
  freeC : ∀ x c, X.env.cells.lookup x = some c → H c = none
  pin : ∀ p ∈ X.pn ++ pins, s.heap.get? p.1 = some p.2 ∧ H p.1 = none ∧ p.1 ≠ X.env.locals ∧ p.1 ∉ X.fs ∧ ∀ v, p.2.data ≠ .cell v
  hok : HOk X.prog X.w H s.heap
  len : σ.length = X.N.length
section
variable {X : Cx} {pins : List (Addr × Obj)} {σ : List (Option V)} {H H' : Hp} {s : Shared} {h' : Heap}
theorem Cx.Ok.nofr (ok : X.Ok) {b : Addr} {o : Obj} (e : X.base.get? b = some o) : b ∉ X.fs := fun hb => by
  have := (ok.funs.mem hb).1
  rw [e] at this; cases this
theorem Inv.bs (I : Inv X pins σ H s) : ∀ b o, X.base.get? b = some o → s.heap.get? b = some o ∧ H b = none := fun b o e =>
  ⟨I.base.keep b o (I.ok.bs b o e).1 (I.ok.bs b o e).2 (I.ok.nofr e) (I.ok.noex b o e), I.base.free b o (I.ok.bs b o e).1 (I.ok.bs b o e).2 (I.ok.noex b o e)⟩
theorem Inv.bk (I : Inv X pins σ H s) : ∀ b o, X.base.get? b = some o → s.heap.get? b = some o := fun b o e => (I.bs b o e).1
theorem Inv.mod (I : Inv X pins σ H s) : Mod X.K X.mg X.base := I.ok.mod
theorem Inv.kIn (I : Inv X pins σ H s) : X.K.In s.heap := I.ok.mod.kin.keeps I.bk
theorem Inv.nolimit (I : Inv X pins σ H s) : s.heap.NoLimit := I.ok.mod.nolimit.keeps I.bk
theorem Inv.noseer (I : Inv X pins σ H s) : s.heap.NoSeer := I.ok.mod.seer.keeps I.bk
theorem Inv.fr (I : Inv X pins σ H s) : ∃ m, Fr X.base X.env.locals s.heap m :=
  let ⟨m, hn, _⟩ := I.loc
  ⟨m, hn, I.bk, Nat.le_trans I.ok.bsz I.ok.above⟩
theorem Inv.lt (I : Inv X pins σ H s) : X.env.locals < s.heap.objs.size := let ⟨_, hn, _⟩ := I.loc; hn.lt
theorem Inv.sz (I : Inv X pins σ H s) : X.s₀.heap.objs.size ≤ s.heap.objs.size := Nat.le_trans I.ok.above (Nat.le_of_lt I.lt)
theorem Inv.nofs (I : Inv X pins σ H s) {a : Addr} (h : s.heap.objs.size ≤ a) : a ∉ X.fs := fun hb => by
  obtain ⟨_, o, ho, _⟩ := I.ok.funs.mem hb
  exact absurd (Nat.lt_of_lt_of_le (Heap.lt_size ho) (Nat.le_trans I.sz h)) (Nat.lt_irrefl _)
theorem Inv.cne (I : Inv X pins σ H s) : ∀ x c, X.env.cells.lookup x = some c → c ≠ X.env.locals := fun x c e z => by
  obtain ⟨v, o, ho, hd⟩ := I.cell x c e
  obtain ⟨m, ⟨o', es, ep, ho', hd', _⟩, _⟩ := I.loc
  rw [z, ho'] at ho; cases ho; rw [hd'] at hd; cases hd
theorem Inv.funs (I : Inv X pins σ H s) : s.heap.FunFrames X.base X.outer := by
  have all : ∀ (l : List Env), (∀ b ∈ frs l, b ∈ X.fs) → X.s₀.heap.FunFrames X.base l → s.heap.FunFrames X.base l := by
    intro l
    induction l with
    | nil => intro _ _; trivial
    | cons env r ih =>
      intro hs hl
      obtain ⟨hk, ⟨L, o, hf, hn, ho, hd⟩, hr⟩ := hl
      have hL : L ∈ X.fs := hs L (by unfold frs; rw [List.filterMap_cons, hf]; exact List.mem_cons_self)
      obtain ⟨sl, e⟩ := I.base.slot L o ho (I.ok.frf L hL) hL fun z => I.ok.exfs L z hL
      exact ⟨hk, ⟨L, _, hf, hn, e, hd⟩, ih (fun b hb => hs b (by unfold frs; rw [List.filterMap_cons, hf]; exact List.mem_cons_of_mem _ hb)) hr⟩
  exact all X.outer (fun _ hb => hb) I.ok.funs
theorem Inv.stack (I : Inv X pins σ H s) : s.heap.FunFrames X.base X.stack := by
  rcases I.ok.stk with e | ⟨e, hf⟩
  · rw [e]; exact I.funs
  · rw [e]
    obtain ⟨m, hn, _⟩ := I.loc
    refine .cons (by rw [I.ok.kind]; decide) hf hn ?_ I.funs
    exact Heap.get?_none_of_le (Nat.le_trans I.ok.bsz I.ok.above)
theorem Inv.stkSub (I : Inv X pins σ H s) : ∀ b ∈ frs X.stack, b ∈ X.env.locals :: X.fs := fun b hb => by
  rcases I.ok.stk with e | ⟨e, hf⟩
  · rw [e] at hb; exact List.mem_cons_of_mem _ hb
  · rw [e] at hb
    unfold frs at hb
    rw [List.filterMap_cons, hf] at hb
    exact hb
theorem Inv.stkFree (I : Inv X pins σ H s) : ∀ b ∈ frs X.stack, H b = none := fun b hb => by
  rcases List.mem_cons.mp (I.stkSub b hb) with e | hb
  · rw [e]; exact I.free
  · obtain ⟨_, o, ho, _⟩ := I.ok.funs.mem hb
    exact I.base.free b o ho (I.ok.frf b hb) fun z => I.ok.exfs b z hb
theorem Inv.step {g' : Array GenState} {t' : Nat} {d' : Drawn} {ch : List Addr} (I : Inv X pins σ H s)
    (hch : ∀ b ∈ ch, (b ∈ X.ex ∨ X.s₀.heap.objs.size ≤ b) ∧ b ≠ X.env.locals ∧ (∀ x c, X.env.cells.lookup x = some c → c ≠ b) ∧ ∀ p ∈ X.pn ++ pins, p.1 ≠ b)
    (keep : ∀ b o, b ≠ X.env.locals → b ∉ X.fs → b ∉ ch → s.heap.get? b = some o → H b = none → h'.get? b = some o)
    (slot : ∀ b o, b ≠ X.env.locals → b ∈ X.fs → b ∉ ch → s.heap.get? b = some o → H b = none → ∃ sl, h'.get? b = some { o with slots := sl }) (free : ∀ b o, b ∉ ch → s.heap.get? b = some o → H b = none → H' b = none)
    (there : ∀ b o, b ∉ ch → s.heap.get? b = some o → ∃ o', h'.get? b = some o')
    (tups : ∀ b xs, H b = some (.tup xs) → H' b = some (.tup xs)) (frzs : ∀ b o u, H b = some (.frz o u) → H' b = some (.frz o u)) (tbls : ∀ b ps, H b = some (.tbl ps) → ∃ more, H' b = some (.tbl (ps ++ more)))
    (ns : ∀ m, s.heap.Ns X.env.locals m → h'.Ns X.env.locals m) (hok : HOk X.prog X.w H' h') (hg : AllBare g') :
    Inv X pins σ H' { s with heap := h', gens := g', drawn := d', toks := t' } := by
  have neL : ∀ b o, X.s₀.heap.get? b = some o → b ≠ X.env.locals := fun b o e => Nat.ne_of_lt (Nat.lt_of_lt_of_le (Heap.lt_size e) I.ok.above)
  have neC : ∀ b o, X.s₀.heap.get? b = some o → b ∉ X.ex → b ∉ ch := fun b o e hx hb => by
    rcases (hch b hb).1 with z | z
    · exact hx z
    · exact absurd (Nat.lt_of_lt_of_le (Heap.lt_size e) z) (Nat.lt_irrefl _)
  have cellK : ∀ x c, X.env.cells.lookup x = some c → ∀ v, s.heap.IsCell c v → h'.IsCell c v := fun x c e v ⟨o, ho, hd⟩ => by
    have nch : c ∉ ch := fun z => (hch c z).2.2.1 x c e rfl
    by_cases hc : c ∈ X.fs
    · obtain ⟨sl, q⟩ := slot c o (I.cne x c e) hc nch ho (I.freeC x c e)
      exact ⟨_, q, hd⟩
    · exact ⟨o, keep c o (I.cne x c e) hc nch ho (I.freeC x c e), hd⟩
  refine ⟨I.ok, I.os, hg, ⟨fun b o e n hb hx => ?_, fun b o e n hb hx => ?_, fun b o e n hx => ?_, fun b o e hx => ?_, fun b xs e => tups b xs (I.base.tups b xs e), fun b o xs e => frzs b o xs (I.base.frzs b o xs e), fun b ps e => ?_⟩, ?_, fun x c e => ?_, ?_, fun x c e => ?_, fun p hp => ?_, hok, I.len⟩
  · exact keep b o (neL b o e) hb (neC b o e hx) (I.base.keep b o e n hb hx) (I.base.free b o e n hx)
  · obtain ⟨sl, e1⟩ := I.base.slot b o e n hb hx
    obtain ⟨sl', e2⟩ := slot b _ (neL b o e) hb (neC b o e hx) e1 (I.base.free b o e n hx)
    exact ⟨sl', e2⟩
  · obtain ⟨o', e1⟩ := I.base.there b o e hx
    exact free b o' (neC b o e hx) e1 (I.base.free b o e n hx)
  · obtain ⟨o', e1⟩ := I.base.there b o e hx
    exact there b o' (neC b o e hx) e1
  · obtain ⟨m1, e1⟩ := I.base.tbls b ps e
    obtain ⟨m2, e2⟩ := tbls b _ e1
    exact ⟨m1 ++ m2, by rw [e2, Array.append_assoc]⟩
  · obtain ⟨m, hn, hl⟩ := I.loc
    refine ⟨m, ns m hn, fun i x v e1 e2 e3 => ?_⟩
    obtain ⟨u, r, l⟩ := hl i x v e1 e2 e3
    refine ⟨u, r, ?_⟩
    rcases l with l | ⟨k, c, e, z⟩
    · exact .inl l
    · exact .inr ⟨k, c, e, cellK x c e _ z⟩
  · obtain ⟨v, z⟩ := I.cell x c e
    exact ⟨v, cellK x c e v z⟩
  · obtain ⟨m, ⟨o, _, _, ho, _⟩, _⟩ := I.loc
    exact free _ o (fun z => (hch _ z).2.1 rfl) ho I.free
  · obtain ⟨v, o, ho, hd⟩ := I.cell x c e
    exact free c o (fun z => (hch c z).2.2.1 x c e rfl) ho (I.freeC x c e)
  · obtain ⟨e, n, ne, nf, d⟩ := I.pin p hp
    have nch : p.1 ∉ ch := fun z => (hch p.1 z).2.2.2 p hp rfl
    exact ⟨keep p.1 p.2 ne nf nch e n, free p.1 p.2 nch e n, ne, nf, d⟩
theorem Inv.un {t' : Nat} (I : Inv X pins σ H s) (u : Un X.fs [] H H' s.heap h') (hok : HOk X.prog X.w H' h') : Inv X pins σ H' { s with heap := h', toks := t' } := by
  obtain ⟨m, ⟨o, es, ep, ho, r⟩, _⟩ := id I.loc
  obtain ⟨sl, hL⟩ := u.any ho I.free (by simp)
  exact I.step (g' := s.gens) (d' := s.drawn) (ch := []) (fun _ z => nomatch z) (fun b o _ hb _ e n => u.keep b o e n hb (by simp)) (fun b o _ hb _ e n => u.slot b o e n hb (by simp)) (fun b o _ e n => u.free b o e n (by simp)) (fun b o _ e => u.there b o e (by simp)) u.tups u.frzs u.tbls (fun m' hm => by
    obtain ⟨o', es', ep', ho', r'⟩ := hm
    rw [ho] at ho'; cases ho'
    exact ⟨_, es', ep', hL, r'⟩) hok I.bare
theorem Inv.call {g' : Array GenState} {t' : Nat} {d' : Drawn} {ch : List Addr} (I : Inv X pins σ H s) (u : Un (frs X.stack) ch H H' s.heap h') (hok : HOk X.prog X.w H' h') (hg : AllBare g')
    (hch : ∀ b ∈ ch, (b ∈ X.ex ∨ X.s₀.heap.objs.size ≤ b) ∧ b ≠ X.env.locals ∧ (∀ x c, X.env.cells.lookup x = some c → c ≠ b) ∧ ∀ p ∈ X.pn ++ pins, p.1 ≠ b) :
    Inv X pins σ H' { s with heap := h', gens := g', drawn := d', toks := t' } := by
  obtain ⟨m, ⟨o, es, ep, ho, r⟩, _⟩ := id I.loc
  obtain ⟨sl, hL⟩ := u.any ho I.free fun z => (hch _ z).2.1 rfl
  exact I.step (ch := ch) hch (fun b o hL hb hc e n => u.keep b o e n (fun z => (List.mem_cons.mp (I.stkSub b z)).elim hL hb) hc) (fun b o _ _ hc e n => u.any e n hc) (fun b o hc e n => u.free b o e n hc) (fun b o hc e => u.there b o e hc) u.tups u.frzs u.tbls (fun m' hm => by
    obtain ⟨o', es', ep', ho', r'⟩ := hm
    rw [ho] at ho'; cases ho'
    exact ⟨_, es', ep', hL, r'⟩) hok hg
theorem Inv.turned {t' : Nat} {it : Addr} (I : Inv X pins σ H s) (k : ∀ b o, b ≠ it → s.heap.get? b = some o → h'.get? b = some o) (hn : H it = none) (hL : it ≠ X.env.locals)
    (h1 : it ∈ X.ex ∨ X.s₀.heap.objs.size ≤ it) (h2 : ∀ x c, X.env.cells.lookup x = some c → c ≠ it) (h3 : ∀ p ∈ X.pn ++ pins, p.1 ≠ it) : Inv X pins σ H { s with heap := h', toks := t' } := by
  have nit : ∀ b u, H b = some u → b ≠ it := fun b u e z => by rw [z, hn] at e; cases e
  refine I.step (g' := s.gens) (d' := s.drawn) (ch := [it]) (fun b hb => ?_) (fun b o _ _ hc e _ => k b o (fun z => hc (by simp [z])) e) (fun b o _ _ hc e _ => ⟨o.slots, k b o (fun z => hc (by simp [z])) e⟩) (fun _ _ _ _ n => n)
    (fun b o hc e => ⟨o, k b o (fun z => hc (by simp [z])) e⟩) (fun _ _ e => e) (fun _ _ _ e => e) (fun b ps e => ⟨#[], by rw [e]; simp⟩) (fun m hm => ?_) (fun b u e => ?_) I.bare
  · have e : b = it := by simpa using hb
    subst e
    exact ⟨h1, hL, h2, h3⟩
  · obtain ⟨o, es, ep, ho, r⟩ := hm
    exact ⟨o, es, ep, k _ o (Ne.symm hL) ho, r⟩
  · refine (I.hok b u e).stay (fun c v hc q => k c v ?_ q) (fun _ q => q) fun _ _ q => q
    rcases hc with z | z
    · rw [z]; exact nit b u e
    · exact nit c _ z
theorem Inv.tok (I : Inv X pins σ H s) (t : Nat) : Inv X pins σ H { s with toks := t } := I.un (h' := s.heap) (t' := t) Un.refl I.hok
theorem Inv.kept {t' : Nat} (I : Inv X pins σ H s) (k : ∀ b u, s.heap.get? b = some u → h'.get? b = some u) : Inv X pins σ H { s with heap := h', toks := t' } := I.un (Un.kept k) (I.hok.kept k)
theorem Inv.laid {a : Addr} {o : HO} {t' : Nat} (I : Inv X pins σ H s) (k : ∀ b u, s.heap.get? b = some u → h'.get? b = some u) (hp : s.heap.objs.size ≤ a) (new : ObjOk X.prog X.w (upd H a o) h' a o) :
    Inv X pins σ (upd H a o) { s with heap := h', toks := t' } := I.un (Un.laid k hp (I.hok.fresh hp)) (I.hok.laid k hp new)
theorem Inv.pins_of {pins' : List (Addr × Obj)} (I : Inv X pins σ H s) (h : ∀ p ∈ pins', s.heap.get? p.1 = some p.2 ∧ H p.1 = none ∧ p.1 ≠ X.env.locals ∧ p.1 ∉ X.fs ∧ ∀ v, p.2.data ≠ .cell v) : Inv X pins' σ H s :=
  ⟨I.ok, I.os, I.bare, I.base, I.loc, I.cell, I.free, I.freeC, fun p hp => (List.mem_append.mp hp).elim (fun z => I.pin p (List.mem_append_left _ z)) (h p), I.hok, I.len⟩
theorem nodup_ix {N : List Str} (hN : N.Nodup) {i j : Nat} {x : Str} (a : N[i]? = some x) (b : N[j]? = some x) : i = j := by
  obtain ⟨h1, e1⟩ := List.getElem?_eq_some_iff.mp a
  obtain ⟨h2, e2⟩ := List.getElem?_eq_some_iff.mp b
  exact (List.getElem_inj hN).mp (e1.trans e2.symm)
theorem store_ok2 {M : Model} {A : Around} {E : Value → Shared → Prop} {i : Nat} {x : Str} {v : V} {u : Value} {Q : Unit → Shared → Prop} (I : Inv X pins σ H s) (hN : X.N.Nodup) (hi : X.N[i]? = some x) (hx : Loc X.env.scope x) (r : RelV v u)
    (h : ∀ s', Inv X pins (σ.set i (some v)) H s' → (∃ a, Heap.SameBut a s.heap s'.heap ∧ (a = X.env.locals ∨ X.env.cells.lookup x = some a)) → Q () s') (hf : X.fn x = true ∨ X.env.scope.names.lookup x = some .local := by first | exact .inl rfl | exact .inr rfl | assumption) : wpAny M A (storeName X.env x u) Q E s := by
  obtain ⟨m, hn, hl⟩ := id I.loc
  have hcls : (X.env.scope.kind == .class || (X.env.scope.kind == .module && X.env.locals != X.env.globals)) = false := by rw [I.ok.kind]; rfl
  have hiσ : i < σ.length := by rw [I.len]; exact (List.getElem?_eq_some_iff.mp hi).1
  have cne := I.cne
  have tracked : ∀ {a : Addr} {h' : Heap}, (∃ o, s.heap.get? a = some o ∧ H a = none) → Heap.SameBut a s.heap h' → HOk X.prog X.w H h' := fun {a h'} ha hs b ob e => by
    obtain ⟨_, _, hfree⟩ := ha
    refine (I.hok b ob e).stay (fun c w' hc q => (hs.2 c ?_).trans q) (fun _ q => q) fun _ _ q => q
    rintro rfl
    rcases hc with rfl | hc
    · rw [hfree] at e; cases e
    · rw [hfree] at hc; cases hc
  rcases hx with hk | hk
  · refine wpAny_storeName_local hk hn (fun h' hn' hs => ?_) hcls
    obtain ⟨oL, _, _, hoL, _⟩ := id hn
    refine h _ ⟨I.ok, I.os, I.bare, ⟨fun b o e n hb hx => ?_, fun b o e n hb hx => ?_, I.base.free, fun b o e hx => ?_, I.base.tups, I.base.frzs, I.base.tbls⟩, ⟨_, hn', fun j y v' e1 e2 e3 => ?_⟩, fun y c e => ?_, I.free, I.freeC, fun p hp => ?_, tracked ⟨oL, hoL, I.free⟩ hs, by simpa using I.len⟩ ⟨_, hs, .inl rfl⟩
    · exact (hs.2 b (Nat.ne_of_lt (Nat.lt_of_lt_of_le (Heap.lt_size e) I.ok.above))).trans (I.base.keep b o e n hb hx)
    · obtain ⟨sl, e1⟩ := I.base.slot b o e n hb hx
      exact ⟨sl, (hs.2 b (Nat.ne_of_lt (Nat.lt_of_lt_of_le (Heap.lt_size e) I.ok.above))).trans e1⟩
    · obtain ⟨o', e1⟩ := I.base.there b o e hx
      exact ⟨o', (hs.2 b (Nat.ne_of_lt (Nat.lt_of_lt_of_le (Heap.lt_size e) I.ok.above))).trans e1⟩
    · by_cases hj : j = i
      · subst hj
        rw [hi] at e1; cases e1
        rw [List.getElem?_set_self hiσ] at e2
        cases e2
        exact ⟨u, r, .inl ⟨hk, by simp⟩⟩
      · rw [List.getElem?_set_ne (Ne.symm hj)] at e2
        obtain ⟨u', r', q⟩ := hl j y v' e1 e2 e3
        refine ⟨u', r', ?_⟩
        rcases q with ⟨k, e⟩ | ⟨k, c, e, z⟩
        · refine .inl ⟨k, ?_⟩
          have : y ≠ x := fun e => hj (nodup_ix hN e1 (e ▸ hi))
          simp [this, e]
        · exact .inr ⟨k, c, e, z.sameBut hs (cne y c e)⟩
    · obtain ⟨w', z⟩ := I.cell y c e
      exact ⟨w', z.sameBut hs (cne y c e)⟩
    · obtain ⟨e, n, ne, nf, d⟩ := I.pin p hp
      exact ⟨(hs.2 p.1 ne).trans e, n, ne, nf, d⟩
  · have hfn : X.fn x = true := by
      rcases hf with z | z
      · exact z
      · rw [z] at hk; cases hk
    obtain ⟨c, hc⟩ := I.ok.has x (.inl hk)
    obtain ⟨w', z⟩ := I.cell x c hc
    refine wpAny_storeName_cell I.ok.kind hk hc z (fun h' hc' hs => ?_)
    obtain ⟨oc, hoc, hocd⟩ := id z
    refine h { s with heap := h' } ⟨I.ok, I.os, I.bare, ⟨fun b o e n hb hx => ?_, fun b o e n hb hx => ?_, I.base.free, fun b o e hx => ?_, I.base.tups, I.base.frzs, I.base.tbls⟩, ⟨m, hn.sameBut hs (Ne.symm (cne x c hc)), fun j y v' e1 e2 e3 => ?_⟩, fun y c' e => ?_, I.free, I.freeC, fun p hp => ?_, tracked ⟨oc, hoc, I.freeC x c hc⟩ hs, by simpa using I.len⟩ ⟨c, hs, .inr hc⟩
    · exact (hs.2 b (Nat.ne_of_lt (Nat.lt_of_lt_of_le (Heap.lt_size e) (I.ok.cab x c hfn hc)))).trans (I.base.keep b o e n hb hx)
    · obtain ⟨sl, e1⟩ := I.base.slot b o e n hb hx
      exact ⟨sl, (hs.2 b (Nat.ne_of_lt (Nat.lt_of_lt_of_le (Heap.lt_size e) (I.ok.cab x c hfn hc)))).trans e1⟩
    · obtain ⟨o', e1⟩ := I.base.there b o e hx
      exact ⟨o', (hs.2 b (Nat.ne_of_lt (Nat.lt_of_lt_of_le (Heap.lt_size e) (I.ok.cab x c hfn hc)))).trans e1⟩
    · by_cases hj : j = i
      · subst hj
        rw [hi] at e1; cases e1
        rw [List.getElem?_set_self hiσ] at e2
        cases e2
        exact ⟨u, r, .inr ⟨.inl hk, c, hc, hc'⟩⟩
      · rw [List.getElem?_set_ne (Ne.symm hj)] at e2
        obtain ⟨u', r', q⟩ := hl j y v' e1 e2 e3
        refine ⟨u', r', ?_⟩
        rcases q with q | ⟨k, c', e, z'⟩
        · exact .inl q
        · refine .inr ⟨k, c', e, z'.sameBut hs ?_⟩
          rintro rfl
          exact hj (nodup_ix hN e1 (I.ok.inj _ _ _ e hc ▸ hi))
    · by_cases hcc : c' = c
      · subst hcc; exact ⟨_, hc'⟩
      · obtain ⟨w2, z2⟩ := I.cell y c' e
        exact ⟨w2, z2.sameBut hs hcc⟩
    · obtain ⟨e, n, ne, nf, d⟩ := I.pin p hp
      refine ⟨(hs.2 p.1 ?_).trans e, n, ne, nf, d⟩
      intro q
      rw [q, hoc] at e
      have q' : oc = p.2 := Option.some.inj e
      exact d w' (by rw [← q']; exact hocd)
theorem store_ok {M : Model} {A : Around} {E : Value → Shared → Prop} {i : Nat} {x : Str} {v : V} {u : Value} {Q : Unit → Shared → Prop} (I : Inv X pins σ H s) (hN : X.N.Nodup) (hi : X.N[i]? = some x) (hx : Loc X.env.scope x) (r : RelV v u)
    (h : ∀ s', Inv X pins (σ.set i (some v)) H s' → Q () s') (hf : X.fn x = true ∨ X.env.scope.names.lookup x = some .local := by first | exact .inl rfl | exact .inr rfl | assumption) : wpAny M A (storeName X.env x u) Q E s :=
  store_ok2 I hN hi hx r (fun s' I' _ => h s' I') hf
theorem Inv.call' {s' : Shared} {ch : List Addr} (I : Inv X pins σ H s) (ho : s'.os = s.os) (u : Un (frs X.stack) ch H H' s.heap s'.heap) (hok : HOk X.prog X.w H' s'.heap) (hg : AllBare s'.gens)
    (hch : ∀ b ∈ ch, (b ∈ X.ex ∨ X.s₀.heap.objs.size ≤ b) ∧ b ≠ X.env.locals ∧ (∀ x c, X.env.cells.lookup x = some c → c ≠ b) ∧ ∀ p ∈ X.pn ++ pins, p.1 ≠ b) : Inv X pins σ H' s' := by
  obtain ⟨h', g', d', t', o'⟩ := s'
  have e : o' = s.os := ho
  subst e
  exact I.call (g' := g') (t' := t') (d' := d') u hok hg hch
end
abbrev XK := Value → Option Addr → Hp → Prop
abbrev St := List (Option V)
abbrev VK := V → Hp → Prop
abbrev TE := St → Hp → VK → Prop
abbrev TT := St → Hp → (Bool → Hp → Prop) → Prop
abbrev TA := St → Hp → (List V → Hp → Prop) → Prop
structure Ends where
  nx : St → Hp → Prop
  rt : VK
  bk : St → Hp → Prop := fun _ _ => False
  ct : St → Hp → Prop := fun _ _ => False
abbrev TS := Ends → St → Hp → Prop
def EP (X : Cx) (pins : List (Addr × Obj)) (σ : St) (Q : VK) (u : Value) (s' : Shared) : Prop := ∃ v H', Inv X pins σ H' s' ∧ RelV v u ∧ Q v H'
def TP (X : Cx) (pins : List (Addr × Obj)) (σ : St) (Q : Bool → Hp → Prop) (b : Bool) (s' : Shared) : Prop := ∃ H', Inv X pins σ H' s' ∧ Q b H'
def AP (X : Cx) (pins : List (Addr × Obj)) (σ : St) (Q : List V → Hp → Prop) (us : List Value) (s' : Shared) : Prop := ∃ vs H', Inv X pins σ H' s' ∧ Vals vs us ∧ Q vs H'
def SP (X : Cx) (pins : List (Addr × Obj)) (D : Ends) (f : Flow) (s' : Shared) : Prop :=
  match f with
  | .next => ∃ σ' H', Inv X pins σ' H' s' ∧ D.nx σ' H'
  | .brk => ∃ σ' H', Inv X pins σ' H' s' ∧ D.bk σ' H'
  | .cont => ∃ σ' H', Inv X pins σ' H' s' ∧ D.ct σ' H'
  | .ret u => ∃ v σ' H', Inv X pins σ' H' s' ∧ RelV v u ∧ D.rt v H'
def PE (X : Cx) (e : Expr) (t : TE) : Prop :=
  ∀ (pins : List (Addr × Obj)) (s : Shared) (σ : St) (H : Hp) (Q : VK), Inv X pins σ H s → t σ H Q → wpAny (model X.prog X.w) X.A (eval e X.env) (EP X pins σ Q) X.xe s
def PT (X : Cx) (e : Expr) (t : TT) : Prop :=
  ∀ (pins : List (Addr × Obj)) (s : Shared) (σ : St) (H : Hp) (Q : Bool → Hp → Prop), Inv X pins σ H s → t σ H Q → wpAny (model X.prog X.w) X.A (isTrue e X.env (eval e X.env)) (TP X pins σ Q) X.xe s
def PW (X : Cx) (e : Expr) (t : TT) : Prop :=
  ∀ (whole : Sem Value) (pins : List (Addr × Obj)) (s : Shared) (σ : St) (H : Hp) (Q : Bool → Hp → Prop), Inv X pins σ H s → t σ H Q → wpAny (model X.prog X.w) X.A (isTrue e X.env whole) (TP X pins σ Q) X.xe s
theorem PW.pt {X : Cx} {e : Expr} {t : TT} (h : PW X e t) : PT X e t := h _
def PA (X : Cx) (es : List Expr) (t : TA) : Prop :=
  ∀ (pos : Pos) (pins : List (Addr × Obj)) (s : Shared) (σ : St) (H : Hp) (Q : List V → Hp → Prop), Inv X pins σ H s → t σ H Q → wpAny (model X.prog X.w) X.A (spliced (backTo pos (starEach es X.env))) (AP X pins σ Q) X.xe s
def PS (X : Cx) (st : Stmt) (t : TS) : Prop :=
  ∀ (pins : List (Addr × Obj)) (s : Shared) (σ : St) (H : Hp) (D : Ends), Inv X pins σ H s → t D σ H → wpAny (model X.prog X.w) X.A (exec st X.env) (SP X pins D) X.xe s
def PSs (X : Cx) (st : List Stmt) (t : TS) : Prop :=
  ∀ (pins : List (Addr × Obj)) (s : Shared) (σ : St) (H : Hp) (D : Ends), Inv X pins σ H s → t D σ H → wpAny (model X.prog X.w) X.A (execs st X.env) (SP X pins D) X.xe s
theorem thn {α : Type} {t : Sem α} {Q Q' : α → Shared → Prop} {M : Model} {A : Around} {E : Value → Shared → Prop} {s : Shared} (h : wpAny M A t Q E s) (hQ : ∀ a s, Q a s → Q' a s) : wpAny M A t Q' E s := wpAny_mono h hQ fun _ _ x => x
end L2
namespace L2
open PySem PySem.Spec PyProof.Rows
section
variable {X : Cx}
theorem bin {a b : Expr} {ta tb : TE} (ha : PE X a ta) (hb : PE X b tb) {pins : List (Addr × Obj)} {s : Shared} {σ : St} {H : Hp} {R : V → V → Hp → Prop} (I : Inv X pins σ H s) (h : ta σ H fun x H1 => tb σ H1 fun y H2 => R x y H2)
    {α : Type} {Q : α → Shared → Prop} {f : Value → Value → Sem α}
    (hf : ∀ v u s2 x y H2, Inv X pins σ H2 s2 → RelV x v → RelV y u → R x y H2 → wpAny (model X.prog X.w) X.A (f v u) Q X.xe s2) :
    wpAny (model X.prog X.w) X.A (eval a X.env) (fun v s₁ => wpAny (model X.prog X.w) X.A (eval b X.env) (fun u s₂ => wpAny (model X.prog X.w) X.A (f v u) Q X.xe s₂) X.xe s₁) X.xe s := by
  refine thn (ha pins s σ H _ I h) fun v s1 ⟨x, H1, I1, r1, q1⟩ => ?_
  refine thn (hb pins s1 σ H1 _ I1 q1) fun u s2 ⟨y, H2, I2, r2, q2⟩ => ?_
  exact hf v u s2 x y H2 I2 r1 r2 q2
def tVar (i : Nat) : TE := fun σ H Q => ∃ v, σ[i]? = some (some v) ∧ Q v H
def tC (v : V) : TE := fun _ H Q => Q v H
theorem pe_var {i : Nat} {x : Str} {pos : Pos} (hN : X.N[i]? = some x) (hv : Vis X.env.scope x) (hd : (x == ("__debug__" : Str)) = false := by decide) (hcd : (x == ("__classdict__" : Str)) = false := by decide) : PE X (.Name x pos) (tVar i) := by
  intro pins s σ H Q I h
  obtain ⟨v, e, h⟩ := h
  obtain ⟨m, hn, hl⟩ := I.loc
  obtain ⟨u, r, l⟩ := hl i x v hN e hv
  have fin : EP X pins σ Q u s := ⟨v, H, I, r, h⟩
  rcases l with ⟨hk, hm⟩ | ⟨hk, c, hc, hcell⟩
  · exact wpAny_Name (wpAny_loadName_local I.ok.kind hk hn hm fin) hd
  · rcases hk with hk | hk
    · exact wpAny_Name (wpAny_loadName_cell I.ok.kind hk hc hcell fin) hd
    · exact wpAny_Name (wpAny_loadName_free I.ok.kind hk hc hcell fin hcd) hd
theorem pe_int {i j pos} : PE X (.Constant (.int i) j pos) (tC (.int i)) := fun _ _ _ H _ I h => wpAny_Constant_int ⟨.int i, H, I.tok _, ⟨_, rfl⟩, h⟩
theorem pe_bl {b j pos} : PE X (.Constant (.bool b) j pos) (tC (.bl b)) := fun _ _ _ H _ I h => Constant_bool ⟨.bl b, H, I, rfl, h⟩
theorem pe_str {x j pos} : PE X (.Constant (.str x) j pos) (tC (.str x)) := fun _ _ _ H _ I h => Calls.Constant_str ⟨.str x, H, I.tok _, ⟨_, rfl⟩, h⟩
def Gl (X : Cx) (x : Str) : Prop := X.env.kindOf x = some .globalImplicit
theorem ld_glob {E : Value → Shared → Prop} {pins : List (Addr × Obj)} {s : Shared} {σ : St} {H : Hp} {x : Str} {u : Value} {pos : Pos} {Q : Value → Shared → Prop} (I : Inv X pins σ H s) (hg : Gl X x) (hm : X.mg x = some u) (h : Q u s)
    (hd : (x == ("__debug__" : Str)) = false := by decide) : wpAny (model X.prog X.w) X.A (eval (.Name x pos) X.env) Q E s :=
  Calls.Name_function_global I.ok.kind hg (Calls.loadGlobal_global (by rw [I.ok.glob]; exact I.mod.glob.keeps I.bk) hm h) hd
theorem ld_blt {E : Value → Shared → Prop} {pins : List (Addr × Obj)} {s : Shared} {σ : St} {H : Hp} {x : Str} {u : Value} {pos : Pos} {Q : Value → Shared → Prop} (I : Inv X pins σ H s) (hg : Gl X x) (hm : X.mg x = none) (hv : bootBuiltins x = some u) (h : Q u s)
    (hn : x ≠ "__name__" := by decide) (hd : (x == ("__debug__" : Str)) = false := by decide) : wpAny (model X.prog X.w) X.A (eval (.Name x pos) X.env) Q E s := by
  obtain ⟨mb, h1, h2⟩ := I.mod.blt
  exact Calls.Name_function_global I.ok.kind hg (Calls.loadGlobal_builtin (by rw [I.ok.glob]; exact I.mod.glob.keeps I.bk) hm (by rw [I.ok.blt]; exact h1.keeps I.bk) ((h2 x hn).trans hv) h) hd
theorem pe_bltn {x : Str} {v : V} {u : Value} {pos : Pos} (hg : Gl X x) (hm : X.mg x = none) (hv : bootBuiltins x = some u) (r : RelV v u) (hn : x ≠ "__name__" := by decide) (hd : (x == ("__debug__" : Str)) = false := by decide) : PE X (.Name x pos) (tC v) :=
  fun _ _ _ H _ I h => ld_blt I hg hm hv ⟨v, H, I, r, h⟩ hn hd
variable {a b : Expr} {ta tb : TE} {pos : Pos}
def PC (X : Cx) (op : CmpOp) (a b : Expr) (t : TE) : Prop :=
  ∀ (pins : List (Addr × Obj)) (s : Shared) (σ : St) (H : Hp) (Q : VK), Inv X pins σ H s → t σ H Q →
    wpAny (model X.prog X.w) X.A (eval a X.env) (fun v s₁ => wpAny (model X.prog X.w) X.A (eval b X.env) (fun u s₂ => wpAny (model X.prog X.w) X.A (compareOp op v u) (EP X pins σ Q) X.xe s₂) X.xe s₁) X.xe s
theorem nobehind (b : Expr) {op : CmpOp} (h : op ≠ .In) (h2 : op ≠ .NotIn) : behindInMarks op b = false := by
  have e1 : (op == CmpOp.In) = false := by cases op <;> first | rfl | exact absurd rfl h
  have e2 : (op == CmpOp.NotIn) = false := by cases op <;> first | rfl | exact absurd rfl h2
  cases b <;> simp [behindInMarks, e1, e2]
def tB (t : TE) : TT := fun σ H Q => t σ H fun x H1 => ∃ c, x = .bl c ∧ Q c H1
theorem pt_cmp {op : CmpOp} {t : TE} (h : PC X op a b t) (h1 : behindInMarks op b = false := by first | exact nobehind _ (by decide) (by decide) | rfl) : PT X (.Compare a [op] [b] pos) (tB t) := by
  intro pins s σ H Q I hw
  refine wpAny_isTrue_Compare1 (thn (h pins s σ H _ I hw) fun v s1 h1 => thn h1 fun u s2 h2 => thn h2 fun c s3 ⟨x, H1, I1, r1, q1⟩ => ?_) h1
  obtain ⟨d, rfl, q⟩ := q1
  cases r1
  exact wpAny_truthy_bool ⟨H1, I1, q⟩
theorem pt_val {e : Expr} {t : TE} (h : PE X e t) (he : ∀ whole, isTrue e X.env whole = (do let v ← whole; standAt e.pos; holding [v] (truthy v)) := by intro _; rfl) : PT X e (tB t) := by
  intro pins s σ H Q I hw
  refine isTrue_plain (thn (h pins s σ H _ I hw) fun v s1 ⟨x, H1, I1, r1, q1⟩ => ?_) (he _)
  obtain ⟨d, rfl, q⟩ := q1
  cases r1
  exact wpAny_truthy_bool ⟨H1, I1, q⟩
variable {tA tB' : TT} {rest : List Expr}
def tOr (t u : TT) : TT := fun σ H Q => t σ H fun c H1 => if c = true then Q true H1 else u σ H1 Q
def tNot (t : TT) : TT := fun σ H Q => t σ H fun c H1 => Q (!c) H1
theorem pw_or1 (ha : PT X a tA) : PW X (.BoolOp .Or [a] pos) tA := by
  intro wh pins s σ H Q I h
  refine isTrue_or (thn (ha pins s σ H Q I h) fun c s1 e => ?_)
  cases c with
  | false => exact isTrue_or_nil e
  | true => exact e
theorem pw_or (ha : PT X a tA) (hb : PW X (.BoolOp .Or (b :: rest) pos) tB') : PW X (.BoolOp .Or (a :: b :: rest) pos) (tOr tA tB') := by
  intro wh pins s σ H Q I h
  refine isTrue_or (thn (ha pins s σ H _ I h) fun c s1 ⟨H1, I1, q1⟩ => ?_)
  cases c with
  | true => exact ⟨H1, I1, q1⟩
  | false => exact hb wh pins s1 σ H1 Q I1 q1
theorem pt_not (ha : PT X a tA) : PT X (.UnaryOp .Not a pos) (tNot tA) := by
  intro pins s σ H Q I h
  exact isTrue_not (ha pins s σ H (fun c H1 => Q (!c) H1) I h)
def tAndV (ta tb : TE) : TE := fun σ H Q => ta σ H fun x H1 => ∃ c, x = .bl c ∧ if c = true then tb σ H1 Q else Q (.bl false) H1
def tNotV (ta : TE) : TE := fun σ H Q => ta σ H fun x H1 => ∃ c, x = .bl c ∧ Q (.bl (!c)) H1
theorem pe_one {op} {t : TE} (h : PE X a t) : PE X (.BoolOp op [a] pos) t := fun pins s σ H Q I hw => BoolOp_one (h pins s σ H Q I hw)
theorem pe_and (ha : PE X a ta) (hb : PE X (.BoolOp .And (b :: rest) pos) tb) : PE X (.BoolOp .And (a :: b :: rest) pos) (tAndV ta tb) := by
  intro pins s σ H Q I h
  refine BoolOp_and (thn (ha pins s σ H _ I h) fun v s1 ⟨x, H1, I1, r1, q1⟩ => ?_)
  obtain ⟨c, rfl, q1⟩ := q1
  cases r1
  refine wpAny_truthy_bool ?_
  cases c with
  | true => exact hb pins s1 σ H1 Q I1 q1
  | false => exact ⟨.bl false, H1, I1, rfl, q1⟩
theorem pe_not (ha : PE X a ta) : PE X (.UnaryOp .Not a pos) (tNotV ta) := by
  intro pins s σ H Q I h
  refine UnaryOp_ (thn (ha pins s σ H _ I h) fun v s1 ⟨x, H1, I1, r1, q1⟩ => ?_)
  obtain ⟨c, rfl, q1⟩ := q1
  cases r1
  exact not_of (wpAny_truthy_bool ⟨.bl (!c), H1, I1, rfl, q1⟩)
end
end L2
namespace L2
open PySem PySem.Spec PyProof.Rows
def SqL (K : PySem.W.Frag) (H : Hp) (a : Addr) (xs : List V) : Prop :=
  Rd H a (.lst xs) ∨
    ∃ (o : Obj) (its : Array Value) (n : Nat), K.lookup a = some o ∧ o.cls = .type "list" ∧ o.dict = none ∧ o.data = .seq its n ∧ its.size ≤ sizeLine ∧ Vals xs its.toList
def SqT (K : PySem.W.Frag) (H : Hp) (a : Addr) (xs : List V) : Prop :=
  Rd H a (.tup xs) ∨
    ∃ (o : Obj) (its : Array Value) (n : Nat), K.lookup a = some o ∧ o.cls = .type "tuple" ∧ o.data = .seq its n ∧ its.size ≤ sizeLine ∧ Vals xs its.toList
def absV : Value → Option V
  | .none => some .non
  | .bool b => some (.bl b)
  | .int i _ => some (.int i)
  | .str x _ => some (.str x)
  | .bytes b _ => some (.byt b)
  | .float b _ => some (.flt b)
  | .ref a => some (.ref a)
  | .type n => some (.ty n)
  | _ => none
theorem RelV.abs {x : V} {u : Value} (r : RelV x u) : absV u = some x := by
  cases x with
  | non => cases r; rfl
  | bl _ => cases r; rfl
  | int _ => obtain ⟨t, rfl⟩ := r; rfl
  | str _ => obtain ⟨t, rfl⟩ := r; rfl
  | byt _ => obtain ⟨t, rfl⟩ := r; rfl
  | flt _ => obtain ⟨t, rfl⟩ := r; rfl
  | ref _ => cases r; rfl
  | ty _ => cases r; rfl
theorem RelV.inj {x y : V} {u : Value} (r : RelV x u) (q : RelV y u) : x = y := Option.some.inj (r.abs.symm.trans q.abs)
theorem Vals.inj : ∀ {xs ys : List V} {us : List Value}, Vals xs us → Vals ys us → xs = ys
  | _, _, _, .nil, .nil => rfl
  | _, _, _, .cons r t, .cons r' t' => by rw [r.inj r', Vals.inj t t']
section
variable {X : Cx} {pins : List (Addr × Obj)} {σ : St} {H : Hp} {s : Shared} {a : Addr} {xs ys : List V}
theorem SqL.of {K : PySem.W.Frag} (h : H a = some (.lst xs)) : SqL K H a xs := .inl (.inl h)
theorem SqT.of {K : PySem.W.Frag} (h : H a = some (.tup xs)) : SqT K H a xs := .inl (.inl h)
theorem Inv.list (I : Inv X pins σ H s) (h : SqL X.K H a xs) : ∃ its : List Value, Vals xs its ∧ PlainL s.heap a its.toArray ∧ xs.length ≤ sizeLine := by
  rcases h with h | ⟨o, its, n, hk, hc, hd, hs, hz, r⟩
  · obtain ⟨z, its, n, r, e⟩ := h.ok I.hok
    exact ⟨its, r, ⟨_, n, e, rfl, rfl, rfl⟩, z⟩
  · refine ⟨its.toList, r, ⟨o, n, I.kIn a o hk, hc, hd, by simpa using hs⟩, ?_⟩
    have e := r.length
    simp only [Array.length_toList] at e
    omega
theorem Inv.tuple (I : Inv X pins σ H s) (h : SqT X.K H a xs) : ∃ its : List Value, Vals xs its ∧ IsTup s.heap a its.toArray ∧ xs.length ≤ sizeLine := by
  rcases h with h | ⟨o, its, n, hk, hc, hs, hz, r⟩
  · obtain ⟨z, its, r, p⟩ := h.ok I.hok
    exact ⟨its, r, p, z⟩
  · refine ⟨its.toList, r, ⟨o, I.kIn a o hk, hc, n, by simpa using hs⟩, ?_⟩
    have e := r.length
    simp only [Array.length_toList] at e
    omega
end
abbrev Cx.wish (X : Cx) (E : Value → Shared → Prop) : Cx := { X with xe := E }
abbrev Cx.nox (X : Cx) : Cx := X.wish fun _ _ => False
theorem Cx.Ok.wish {X : Cx} (ok : X.Ok) (E : Value → Shared → Prop) : (X.wish E).Ok :=
  ⟨ok.mod, ok.kind, ok.glob, ok.blt, ok.above, ok.inj, ok.has, ok.cab, ok.hd, ok.frames, ok.stk, ok.exf, ok.bs, ok.bsz, ok.noex, ok.exfs, ok.funs, ok.frf⟩
theorem Cx.Ok.unwish {X : Cx} {E : Value → Shared → Prop} (ok : (X.wish E).Ok) : X.Ok :=
  ⟨ok.mod, ok.kind, ok.glob, ok.blt, ok.above, ok.inj, ok.has, ok.cab, ok.hd, ok.frames, ok.stk, ok.exf, ok.bs, ok.bsz, ok.noex, ok.exfs, ok.funs, ok.frf⟩
section
variable {X : Cx} {pins : List (Addr × Obj)} {σ : St} {H : Hp} {s : Shared} {E : Value → Shared → Prop}
theorem Inv.wish (I : Inv X pins σ H s) (E : Value → Shared → Prop) : Inv (X.wish E) pins σ H s := ⟨I.ok.wish E, I.os, I.bare, I.base, I.loc, I.cell, I.free, I.freeC, I.pin, I.hok, I.len⟩
theorem Inv.unwish (I : Inv (X.wish E) pins σ H s) : Inv X pins σ H s := ⟨I.ok.unwish, I.os, I.bare, I.base, I.loc, I.cell, I.free, I.freeC, I.pin, I.hok, I.len⟩
theorem SP.unwish {D : Ends} {f : Flow} {s' : Shared} (h : SP (X.wish E) pins D f s') : SP X pins D f s' := by
  cases f with
  | next => obtain ⟨σ', H', I, q⟩ := h; exact ⟨σ', H', I.unwish, q⟩
  | brk => obtain ⟨σ', H', I, q⟩ := h; exact ⟨σ', H', I.unwish, q⟩
  | cont => obtain ⟨σ', H', I, q⟩ := h; exact ⟨σ', H', I.unwish, q⟩
  | ret u => obtain ⟨v, σ', H', I, r, q⟩ := h; exact ⟨v, σ', H', I.unwish, r, q⟩
theorem PE.nox {e : Expr} {t : TE} (h : PE X.nox e t) : PE X e t := fun pins s σ H Q I hw =>
  wpAny_mono (h pins s σ H Q (I.wish _) hw) (fun _ _ ⟨v, H', I', r, q⟩ => ⟨v, H', I'.unwish, r, q⟩) fun _ _ z => False.elim z
theorem PT.nox {e : Expr} {t : TT} (h : PT X.nox e t) : PT X e t := fun pins s σ H Q I hw =>
  wpAny_mono (h pins s σ H Q (I.wish _) hw) (fun _ _ ⟨H', I', q⟩ => ⟨H', I'.unwish, q⟩) fun _ _ z => False.elim z
theorem PSs.nox {st : List Stmt} {t : TS} (h : PSs X.nox st t) : PSs X st t := fun pins s σ H D I hw =>
  wpAny_mono (h pins s σ H D (I.wish _) hw) (fun _ _ q => q.unwish) fun _ _ z => False.elim z
end
section
variable {X : Cx} {st : Stmt} {rest : List Stmt} {t u : TS} {e : Expr} {te : TE} {pos : Pos}
def tNext : TS := fun D σ H => D.nx σ H
def tSeq (t u : TS) : TS := fun D σ H => t { D with nx := u D } σ H
theorem pss_nil : PSs X [] tNext := fun _ _ σ H _ I h => wpAny_execs_nil ⟨σ, H, I, h⟩
theorem pss_cons (h1 : PS X st t) (h2 : PSs X rest u) : PSs X (st :: rest) (tSeq t u) := by
  intro pins s σ H D I h
  refine wpAny_execs_cons (thn (h1 pins s σ H { D with nx := u D } I h) fun f s1 q => ?_)
  cases f with
  | next =>
    obtain ⟨σ', H', I', q⟩ := q
    exact h2 pins s1 σ' H' D I' q
  | ret v => exact q
  | brk => exact q
  | cont => exact q
theorem pss_one (h1 : PS X st t) : PSs X [st] t := by
  intro pins s σ H D I h
  refine wpAny_execs_cons (thn (h1 pins s σ H D I h) fun f s1 q => ?_)
  cases f with
  | next => exact wpAny_execs_nil q
  | ret v => exact q
  | brk => exact q
  | cont => exact q
theorem Inv.quiet {pins : List (Addr × Obj)} {σ : St} {H : Hp} {s : Shared} (I : Inv X pins σ H s) : interactive X.env = false := by simp [interactive, I.ok.kind]
def tDrop (te : TE) : TS := fun D σ H => te σ H fun _ H1 => D.nx σ H1
theorem ps_expr (he : PE X e te) (hs : swapsWith e none pos.line X.env = pure false := by rfl) : PS X (.Expr e pos) (tDrop te) := by
  intro pins s σ H D I h
  exact wpAny_Expr_any (thn (he pins s σ H _ I h) fun v s1 ⟨x, H1, I1, r1, q1⟩ => ⟨σ, H1, I1, q1⟩) I.quiet hs
def tRet (te : TE) : TS := fun D σ H => te σ H D.rt
theorem ps_ret (he : PE X e te) : PS X (.Return (some e) pos) (tRet te) := by
  intro pins s σ H D I h
  exact wpAny_Return_some (thn (he pins s σ H _ I h) fun v s1 ⟨x, H1, I1, r1, q1⟩ => ⟨x, σ, H1, I1, r1, q1⟩)
def tIfS (c : TT) (t u : TS) : TS := fun D σ H => c σ H fun b H1 => if b = true then t D σ H1 else u D σ H1
theorem ps_if {c : Expr} {a b : List Stmt} {tc : TT} (hc : PT X c tc) (ha : PSs X a t) (hb : PSs X b u) : PS X (.If c a b pos) (tIfS tc t u) := by
  intro pins s σ H D I h
  refine wpAny_If (thn (hc pins s σ H _ I h) fun d s1 ⟨H1, I1, q1⟩ => ?_)
  cases d with
  | true => exact ha pins s1 σ H1 D I1 q1
  | false => exact hb pins s1 σ H1 D I1 q1
end
abbrev TG := V → St → Hp → (St → Hp → Prop) → Prop
def PG (X : Cx) (target : Expr) (t : TG) : Prop :=
  ∀ (pins : List (Addr × Obj)) (s : Shared) (σ : St) (H : Hp) (v : V) (u : Value) (Q : St → Hp → Prop), Inv X pins σ H s → RelV v u → t v σ H Q →
    wpAny (model X.prog X.w) X.A (assign target X.env u) (fun _ s' => ∃ σ' H', Inv X pins σ' H' s' ∧ Q σ' H') X.xe s
section
variable {X : Cx} {pos : Pos}
def gName (i : Nat) : TG := fun v σ H Q => Q (σ.set i (some v)) H
theorem pg_name {i : Nat} {x : Str} (hN : X.N.Nodup) (hi : X.N[i]? = some x) (hx : Loc X.env.scope x) (hf : X.fn x = true ∨ X.env.scope.names.lookup x = some .local := by first | exact .inl rfl | exact .inr rfl | assumption) : PG X (.Name x pos) (gName i) := by
  intro pins s σ H v u Q I r h
  exact wpAny_assign_Name (store_ok I hN hi hx r (fun s' I' => ⟨_, H, I', h⟩) hf)
def tAsg (te : TE) (g : TG) : TS := fun D σ H => te σ H fun x H1 => g x σ H1 D.nx
theorem ps_set {i : Nat} {x : Str} {e : Expr} {te : TE} {pos' : Pos} (hN : X.N.Nodup) (hi : X.N[i]? = some x) (hx : Loc X.env.scope x) (he : PE X e te) (hs : swapsWith e (some (.Name x pos')) pos.line X.env = pure false := by rfl) (hf : X.fn x = true ∨ X.env.scope.names.lookup x = some .local := by first | exact .inl rfl | exact .inr rfl | assumption) :
    PS X (.Assign [.Name x pos'] e pos) (tAsg te (gName i)) := by
  intro pins s σ H D I h
  refine wpAny_Assign_Name (thn (he pins s σ H _ I h) fun v s1 ⟨y, H1, I1, r1, q1⟩ => ?_) hs
  exact store_ok I1 hN hi hx r1 (fun s2 I2 => ⟨_, H1, I2, q1⟩) hf
end
section
variable {X : Cx} {pos : Pos}
def tWhile (c : TT) (tb : TS) : TS := fun D σ H => ∃ W : Nat → St → Hp → Prop, (∃ m, W m σ H) ∧ ∀ m σ H, W m σ H →
  c σ H fun b H1 => if b = true then ∃ N : St → Hp → Prop, (∀ σ' H', N σ' H' → ∃ m', m' < m ∧ W m' σ' H') ∧ tb { D with nx := N, ct := N, bk := D.nx } σ H1 else D.nx σ H1
theorem ps_while {c : Expr} {body : List Stmt} {tc : TT} {tb : TS} (hp : PassesOwn (model X.prog X.w) X.A X.env X.xe) (hc : PT X c tc) (hb : PSs X body tb) : PS X (.While c body [] pos) (tWhile tc tb) := by
  intro pins s σ H D I h
  obtain ⟨W, ⟨m0, w0⟩, turn⟩ := h
  refine wpAny_While (codeAny_whileLoop (fun n s' => ∃ σ' H', Inv X pins σ' H' s' ∧ W n σ' H') ?_ m0 ⟨σ, H, I, w0⟩)
  rintro n s1 ⟨σ1, H1, I1, w1⟩
  refine wpAny_passesOwn hp (thn (hc pins s1 σ1 H1 _ I1 (turn n σ1 H1 w1)) fun b s2 ⟨H2, I2, q2⟩ => ?_)
  cases b with
  | true =>
    obtain ⟨N, hN, q2⟩ := q2
    rw [if_pos rfl]
    refine wpAny_passesOwn hp (thn (hb pins s2 σ1 H2 _ I2 q2) fun f s3 q3 => ?_)
    cases f with
    | next =>
      obtain ⟨σ3, H3, I3, n3⟩ := q3
      obtain ⟨m', hm, w3⟩ := hN σ3 H3 n3
      exact ⟨m', hm, σ3, H3, I3, w3⟩
    | cont =>
      obtain ⟨σ3, H3, I3, n3⟩ := q3
      obtain ⟨m', hm, w3⟩ := hN σ3 H3 n3
      exact ⟨m', hm, σ3, H3, I3, w3⟩
    | brk => exact q3
    | ret v => exact q3
  | false =>
    rw [if_neg Bool.false_ne_true]
    exact wpAny_execs_nil ⟨σ1, H2, I2, q2⟩
end
structure It where
  go : Nat → Hp → Prop
  yld : Nat → Hp → V → Hp → Prop
  stop : Nat → Hp → Prop
def FpOk (X : Cx) (pins : List (Addr × Obj)) (H : Hp) (b : Addr) : Prop :=
  H b = none ∧ b ≠ X.env.locals ∧ b ∉ X.fs ∧ (b ∈ X.ex ∨ X.s₀.heap.objs.size ≤ b) ∧ (∀ x c, X.env.cells.lookup x = some c → c ≠ b) ∧ ∀ p ∈ X.pn ++ pins, p.1 ≠ b
theorem Inv.fpOk {X : Cx} {pins : List (Addr × Obj)} {σ : St} {H H' : Hp} {s : Shared} {b : Addr} (I : Inv X pins σ H s) (hb : s.heap.objs.size ≤ b) (hn : H' b = none) : FpOk X pins H' b := by
  refine ⟨hn, Nat.ne_of_gt (Nat.lt_of_lt_of_le I.lt hb), I.nofs hb, .inr (Nat.le_trans I.sz hb), fun x c e z => ?_, fun p hp z => ?_⟩
  · obtain ⟨v, q⟩ := I.cell x c e
    exact absurd (Nat.lt_of_lt_of_le q.lt (by rw [z]; exact hb)) (Nat.lt_irrefl _)
  · exact absurd (Nat.lt_of_lt_of_le (Heap.lt_size (I.pin p hp).1) (by rw [z]; exact hb)) (Nat.lt_irrefl _)
structure Turn (P : Program) (w : World) (K : PySem.W.Frag) (tg : Expr) (J : It) (fp : List Addr) (it : Addr) (tn : Nat → Heap → Prop) : Prop where
  mem : it ∈ fp
  obj : ∀ i h, tn i h → ∀ b ∈ fp, ∃ o, h.get? b = some o ∧ ∀ v, o.data ≠ .cell v
  keep : ∀ i h h', tn i h → (∀ b ∈ fp, ∀ o, h.get? b = some o → h'.get? b = some o) → tn i h'
  item : ∀ (X : Cx), X.prog = P → X.w = w → X.K = K → X.calm = true → ∀ (i : Nat) (pins : List (Addr × Obj)) (s : Shared) (σ : St) (H : Hp) (E : Value → Shared → Prop), Inv X pins σ H s → (∀ b ∈ fp, FpOk X pins H b) → tn i s.heap → J.go i H →
    wpAny (model P w) X.A (pyNext (.ref it)) (fun r s1 => ∃ u, r = some u ∧
      wpAny (model P w) X.A (letOwnedTupleGo tg (.ref it) u) (fun _ s2 => ∃ x H', Inv X pins σ H' s2 ∧ RelV x u ∧ J.yld i H x H' ∧ tn (i + 1) s2.heap ∧ ∀ b ∈ fp, H' b = none) E s1) E s
  done : ∀ (X : Cx), X.prog = P → X.w = w → X.K = K → X.calm = true → ∀ (i : Nat) (pins : List (Addr × Obj)) (s : Shared) (σ : St) (H : Hp) (E : Value → Shared → Prop), Inv X pins σ H s → (∀ b ∈ fp, FpOk X pins H b) → tn i s.heap → J.stop i H →
    wpAny (model P w) X.A (pyNext (.ref it)) (fun r s1 => r = none ∧ Inv X pins σ H s1) E s
  self : ∀ (A : Around) (i : Nat) (s : Shared) (Q : Value → Shared → Prop) (E : Value → Shared → Prop), tn i s.heap → Q (.ref it) s → wpAny (model P w) A (pyIter (.ref it)) Q E s
abbrev TI := St → Hp → (It → Hp → Prop) → Prop
def PIE (X : Cx) (pins : List (Addr × Obj)) (σ : St) (tg : Expr) (R : It → Hp → Prop) (itv : Value) (s2 : Shared) : Prop :=
  ∃ (it : Addr) (fp : List Addr) (tn : Nat → Heap → Prop) (J : It) (H' : Hp), itv = .ref it ∧ Inv X pins σ H' s2 ∧ Turn X.prog X.w X.K tg J fp it tn ∧ tn 0 s2.heap ∧ (∀ b ∈ fp, FpOk X pins H' b) ∧ R J H'
def PI (X : Cx) (tg iter : Expr) (wi : TI) : Prop :=
  ∀ (pins : List (Addr × Obj)) (s : Shared) (σ : St) (H : Hp) (R : It → Hp → Prop), Inv X pins σ H s → wi σ H R →
    wpAny (model X.prog X.w) X.A (eval iter X.env) (fun v s1 => wpAny (model X.prog X.w) X.A (pyIter v) (PIE X pins σ tg R) X.xe s1) X.xe s
theorem go_of {M : Model} {A : Around} {E : Value → Shared → Prop} {s : Shared} {tg : Expr} {it : Addr} {u : Value} {o : Obj} {n : String} {vs : Array Value} {Q : Unit → Shared → Prop} (ho : s.heap.get? it = some o) (hc : o.cls = .type n) (hd : o.data = .fields vs)
    (hn : ["enumerate", "zip", "dict_itemiterator", "dict_reverseitemiterator", "odict_iterator", "itertools.zip_longest", "itertools.pairwise"].contains n = false) (hQ : Q () s) : wpAny M A (letOwnedTupleGo tg (.ref it) u) Q E s := by
  unfold letOwnedTupleGo
  cases tg <;> first
    | exact wpAny_pure hQ
    | (cases u <;> first
        | exact wpAny_pure hQ
        | (refine wpAny_bind (wpAny_load ho ?_)
           rw [hc, hd]
           show wpAny M A (if (["enumerate", "zip", "dict_itemiterator", "dict_reverseitemiterator", "odict_iterator", "itertools.zip_longest", "itertools.pairwise"].contains n && vs[0]? == some (rawInt _)) = true then _ else _) Q E s
           rw [if_neg (by intro h; rw [hn, Bool.false_and] at h; cases h)]
           exact wpAny_pure hQ))
def Itr (lo : Int) (n : Nat) : It := ⟨fun i _ => i < n, fun i H x H' => H' = H ∧ x = .int (lo + i), fun i _ => n ≤ i⟩
theorem turn_range {P : Program} {w : World} {K : PySem.W.Frag} {tg : Expr} (it : Addr) (lo : Int) (n : Nat) : Turn P w K tg (Itr lo n) [it] it (fun i h => IsRangeIter h it (lo + (i : Nat) * 1) ((n : Int) - (i : Nat)) 1) where
  mem := by simp
  obj := fun i h st b hb => by
    have e : b = it := by simpa using hb
    subst e
    exact ⟨_, st, fun v z => by
      have z' : Data.fields _ = Data.cell v := z
      cases z'⟩
  keep := fun i h h' st k => k it (by simp) _ st
  item := by
    intro X hP hw hK hc i pins s σ H E I hf st hg
    subst hP hw hK
    obtain ⟨f0, f1, f2, f3, f4, f5⟩ := hf it (by simp)
    have W := Walks.range (prog := X.prog) (w := X.w) (I.ok.hd hc) it lo 1 n
    refine W.item i s _ _ hg st fun v h' tk hv st' kk => ?_
    obtain ⟨t, rfl⟩ := hv
    have I1 : Inv X pins σ H { s with heap := h', toks := tk } := I.turned (fun b o hb e => kk b o (by simpa using hb) e) f0 f1 f3 f4 f5
    refine ⟨_, rfl, go_of (s := { s with heap := h', toks := tk }) (n := "range_iterator") st' rfl rfl (by decide) ⟨.int (lo + i), H, I1, ⟨t, ?_⟩, ⟨rfl, rfl⟩, st', fun b hb => (hf b hb).1⟩⟩
    rw [Int.mul_one]
  done := by
    intro X hP hw hK hc i pins s σ H E I hf st hg
    subst hP hw hK
    obtain ⟨f0, f1, f2, f3, f4, f5⟩ := hf it (by simp)
    exact wpAny_pyNext_range_end (I.ok.hd hc) st (by have : n ≤ i := hg; omega) fun h' eb => ⟨rfl, I.turned (t' := s.toks) (fun b o hb e => eb b o hb e) f0 f1 f3 f4 f5⟩
  self := fun _ _ _ _ _ st h => wpAny_pyIter_rangeiter st h
end L2
namespace L2
open PySem PySem.Spec PyProof.Rows
section
variable {X : Cx} {tg : Expr}
theorem range_it {pins : List (Addr × Obj)} {σ : St} {H : Hp} {s : Shared} {R : It → Hp → Prop} {E : Value → Shared → Prop} {lo hi : Int} {t u v : Tok} {tk : Nat} (I : Inv X pins σ H s) (h1 : -(2 ^ 62) ≤ lo) (h2 : lo < 2 ^ 62) (h3 : -(2 ^ 62) ≤ hi) (h4 : hi < 2 ^ 62)
    (q : R (Itr lo (hi - lo).toNat) H) : wpAny (model X.prog X.w) X.A (pyIter (.ref s.heap.objs.size)) (PIE X pins σ tg R) E { s with heap := s.heap.push { cls := .type "range", data := .fields #[.int lo t, .int hi u, .int 1 v] }, toks := tk } := by
  refine wpAny_pyIter_range (IsRange.new ..) (small_one h1 h2 h3 h4) ?_
  have I1 : Inv X pins σ H { s with heap := s.heap.push { cls := .type "range", data := .fields #[.int lo t, .int hi u, .int 1 v] }, toks := tk } := I.kept fun b o e => Heap.get?_push_of_some _ e
  refine ⟨(s.heap.push { cls := .type "range", data := .fields #[.int lo t, .int hi u, .int 1 v] }).objs.size, [(s.heap.push { cls := .type "range", data := .fields #[.int lo t, .int hi u, .int 1 v] }).objs.size], _, _, H, rfl,
    I1.kept (t' := tk) fun b o e => Heap.get?_push_of_some _ e, turn_range _ lo (hi - lo).toNat, ?_, fun b hb => ?_, q⟩
  · have e1 : lo + ((0 : Nat) : Int) * 1 = lo := by simp
    have e2 : (((hi - lo).toNat : Nat) : Int) - ((0 : Nat) : Int) = Builtin.Range.rangeSize lo hi 1 := by rw [rangeSize_one]; split <;> omega
    show IsRangeIter _ _ (lo + ((0 : Nat) : Int) * 1) ((((hi - lo).toNat : Nat) : Int) - ((0 : Nat) : Int)) 1
    rw [e1, e2]
    exact Heap.get?_push_size _ rfl
  · have e : b = (s.heap.push { cls := .type "range", data := .fields #[.int lo t, .int hi u, .int 1 v] }).objs.size := by simpa using hb
    subst e
    exact I1.fpOk (Nat.le_refl _) (I1.hok.fresh (Nat.le_refl _))
def iRng1 (ta : TA) : TI := fun σ H R => ta σ H fun vs H1 => ∃ j : Int, vs = [.int j] ∧ -(2 ^ 62) ≤ j ∧ j < 2 ^ 62 ∧ R (Itr 0 j.toNat) H1
theorem pi_range1 {a : Expr} {ta : TA} {p pos : Pos} (hg : Gl X "range") (hm : X.mg "range" = none) (ha : PA X [a] ta) (hs : starEach [a] X.env = [(false, eval a X.env)] := by rfl) : PI X tg (.Call (.Name "range" p) [a] [] pos) (iRng1 ta) := by
  intro pins s σ H R I h
  refine Call_ (ld_blt I hg hm boot_range (PyProof.Rows.callWith_type1 (thn (ha pos pins s σ H _ I h) fun us s1 ⟨vs, H1, I1, r1, q1⟩ => ?_) hs rfl))
  obtain ⟨j, e, q1, q2, q⟩ := q1
  subst e
  cases r1 with
  | cons r rr =>
    cases rr
    obtain ⟨t, rfl⟩ := r
    exact call_range_1 (range_it I1 (by omega) (by omega) q1 q2 (by simpa using q))
def tFor (wi : TI) (g : TG) (tb : TS) : TS := fun D σ H => wi σ H fun J H1 => ∃ W : Nat → Nat → St → Hp → Prop, (∃ m, W 0 m σ H1) ∧ ∀ i m σ H, W i m σ H →
  (J.stop i H ∧ D.nx σ H) ∨ (J.go i H ∧ ∃ N : St → Hp → Prop, (∀ σ' H', N σ' H' → ∃ m', m' < m ∧ W (i + 1) m' σ' H') ∧ ∀ x H', J.yld i H x H' → g x σ H' fun σ2 H2 => tb { D with nx := N, ct := N, bk := D.nx } σ2 H2)
def pinsAt (fp : List Addr) (h : Heap) : List (Addr × Obj) := fp.filterMap fun b => (h.get? b).map fun o => (b, o)
theorem mem_pinsAt {fp : List Addr} {h : Heap} {b : Addr} {o : Obj} (hb : b ∈ fp) (e : h.get? b = some o) : (b, o) ∈ pinsAt fp h := List.mem_filterMap.mpr ⟨b, hb, by rw [e]; rfl⟩
theorem of_pinsAt {fp : List Addr} {h : Heap} {p : Addr × Obj} (hp : p ∈ pinsAt fp h) : p.1 ∈ fp ∧ h.get? p.1 = some p.2 := by
  obtain ⟨b, hb, e⟩ := List.mem_filterMap.mp hp
  cases q : h.get? b with
  | none => rw [q] at e; cases e
  | some o =>
    rw [q] at e
    have e' : (b, o) = p := Option.some.inj e
    subst e'
    exact ⟨hb, q⟩
theorem Inv.pinned {pins : List (Addr × Obj)} {σ : St} {H : Hp} {s : Shared} {fp : List Addr} (I : Inv X pins σ H s) (hf : ∀ b ∈ fp, FpOk X pins H b) (ho : ∀ b ∈ fp, ∃ o, s.heap.get? b = some o ∧ ∀ v, o.data ≠ .cell v) : Inv X (pins ++ pinsAt fp s.heap) σ H s :=
  I.pins_of fun p hp => (List.mem_append.mp hp).elim (fun z => I.pin p (List.mem_append_right _ z)) fun z => by
    obtain ⟨hb, e⟩ := of_pinsAt z
    obtain ⟨f0, f1, f2, _⟩ := hf p.1 hb
    obtain ⟨o, e', d⟩ := ho p.1 hb
    rw [e] at e'; cases e'
    exact ⟨e, f0, f1, f2, d⟩
theorem Inv.unpinned {pins pl : List (Addr × Obj)} {σ : St} {H : Hp} {s : Shared} (I : Inv X (pins ++ pl) σ H s) : Inv X pins σ H s := I.pins_of fun p hp => I.pin p (List.mem_append_right _ (List.mem_append_left _ hp))
theorem ps_for {iter : Expr} {body : List Stmt} {wi : TI} {g : TG} {tb : TS} {pos : Pos} (hp : PassesOwn (model X.prog X.w) X.A X.env X.xe) (hc : X.calm = true) (hi : PI X tg iter wi) (hg : PG X tg g) (hb : PSs X body tb)
    (hs : ∀ x, foldedSetIterable iter X.env x = pure x := by intro _; rfl) : PS X (.For tg iter body [] pos) (tFor wi g tb) := by
  intro pins s σ H D I h
  refine wpAny_For (thn (hi pins s σ H _ I h) fun v s1 h1 => thn h1 fun itv s2 h2 => ?_) hs
  obtain ⟨it, fp, tn, J, H2, e, I2, T, st2, f2, W, ⟨m0, w0⟩, turn⟩ := h2
  subst e
  have stat : ∀ {H' : Hp}, (∀ b ∈ fp, H' b = none) → ∀ b ∈ fp, FpOk X pins H' b := fun hn b hb => ⟨hn b hb, (f2 b hb).2⟩
  refine codeAny_forLoop_any (fun n s' => ∃ i σ' H', Inv X pins σ' H' s' ∧ tn i s'.heap ∧ (∀ b ∈ fp, H' b = none) ∧ W i n σ' H') ?_ m0 ⟨0, σ, H2, I2, st2, fun b hb => (f2 b hb).1, w0⟩
  rintro n s3 ⟨i, σ3, H3, I3, st3, fr3, w3⟩
  rcases turn i n σ3 H3 w3 with ⟨stop, qn⟩ | ⟨go, N, hN, step⟩
  · refine wpAny_passesOwn hp (thn (T.done X rfl rfl rfl hc i pins s3 σ3 H3 X.xe I3 (stat fr3) st3 stop) fun r s4 ⟨hr, I4⟩ => ?_)
    subst hr
    exact wpAny_execs_nil ⟨σ3, H3, I4, qn⟩
  · refine wpAny_passesOwn hp (thn (T.item X rfl rfl rfl hc i pins s3 σ3 H3 X.xe I3 (stat fr3) st3 go) fun r s4 ⟨u, hr, h4⟩ => ?_)
    subst hr
    refine wpAny_passesOwn hp (thn h4 fun _ s5 ⟨x, H5, I5, r5, y5, st5, fr5⟩ => ?_)
    have I5' := I5.pinned (stat fr5) (T.obj _ _ st5)
    refine wpAny_passesOwn hp (thn (hg _ s5 σ3 H5 x u _ I5' r5 (step x H5 y5)) fun _ s6 ⟨σ6, H6, I6, q6⟩ => ?_)
    refine wpAny_passesOwn hp (thn (hb _ s6 σ6 H6 _ I6 q6) fun f s7 q7 => ?_)
    have again : ∀ {σ7 : St} {H7 : Hp}, Inv X (pins ++ pinsAt fp s5.heap) σ7 H7 s7 → N σ7 H7 → ∃ m, m < n ∧ ∃ i σ' H', Inv X pins σ' H' s7 ∧ tn i s7.heap ∧ (∀ b ∈ fp, H' b = none) ∧ W i m σ' H' := fun {σ7 H7} I7 n7 => by
      obtain ⟨m', hm, w7⟩ := hN σ7 H7 n7
      refine ⟨m', hm, i + 1, σ7, H7, I7.unpinned, T.keep _ _ _ st5 fun b hb o e => (I7.pin (b, o) (List.mem_append_right _ (List.mem_append_right _ (mem_pinsAt hb e)))).1, fun b hb => ?_, w7⟩
      obtain ⟨o, e, d⟩ := T.obj _ _ st5 b hb
      exact (I7.pin (b, o) (List.mem_append_right _ (List.mem_append_right _ (mem_pinsAt hb e)))).2.1
    cases f with
    | next => obtain ⟨σ7, H7, I7, n7⟩ := q7; exact again I7 n7
    | cont => obtain ⟨σ7, H7, I7, n7⟩ := q7; exact again I7 n7
    | brk => obtain ⟨σ7, H7, I7, q7⟩ := q7; exact ⟨σ7, H7, I7.unpinned, q7⟩
    | ret v => obtain ⟨x7, σ7, H7, I7, r7, q7⟩ := q7; exact ⟨x7, σ7, H7, I7.unpinned, r7, q7⟩
end
end L2
namespace L2
open PySem PySem.Spec PyProof.Rows
abbrev R2 := V → V → Hp → VK → Prop
def OpR (X : Cx) (f : Value → Value → Sem Value) (r : R2) : Prop :=
  ∀ (pins : List (Addr × Obj)) (s : Shared) (σ : St) (H : Hp) (x y : V) (v u : Value) (Q : VK), Inv X pins σ H s → RelV x v → RelV y u → r x y H Q →
    wpAny (model X.prog X.w) X.A (f v u) (EP X pins σ Q) X.xe s
def UnR (X : Cx) (f : Value → Sem Value) (r : V → Hp → VK → Prop) : Prop :=
  ∀ (pins : List (Addr × Obj)) (s : Shared) (σ : St) (H : Hp) (x : V) (v : Value) (Q : VK), Inv X pins σ H s → RelV x v → r x H Q →
    wpAny (model X.prog X.w) X.A (f v) (EP X pins σ Q) X.xe s
def CallR (X : Cx) (f : Value) (r : List V → Hp → VK → Prop) : Prop :=
  ∀ (pins : List (Addr × Obj)) (s : Shared) (σ : St) (H : Hp) (xs : List V) (us : List Value) (Q : VK), Inv X pins σ H s → Vals xs us → r xs H Q →
    wpAny (model X.prog X.w) X.A (call f us) (EP X pins σ Q) X.xe s
def TruR (X : Cx) (r : V → Hp → (Bool → Hp → Prop) → Prop) : Prop :=
  ∀ (pins : List (Addr × Obj)) (s : Shared) (σ : St) (H : Hp) (x : V) (v : Value) (Q : Bool → Hp → Prop), Inv X pins σ H s → RelV x v → r x H Q →
    wpAny (model X.prog X.w) X.A (truthy v) (TP X pins σ Q) X.xe s
def tOp (r : R2) (ta tb : TE) : TE := fun σ H Q => ta σ H fun x H1 => tb σ H1 fun y H2 => r x y H2 Q
def tUn (r : V → Hp → VK → Prop) (ta : TE) : TE := fun σ H Q => ta σ H fun x H1 => r x H1 Q
def rI (C : Int → Int → Prop) (g : Int → Int → V) : R2 := fun x y H Q => ∃ i j, x = .int i ∧ y = .int j ∧ C i j ∧ Q (g i j) H
def rI0 (g : Int → Int → V) : R2 := fun x y H Q => ∃ i j, x = .int i ∧ y = .int j ∧ Q (g i j) H
def rU (g : Int → V) : V → Hp → VK → Prop := fun x H Q => ∃ i, x = .int i ∧ Q (g i) H
section
variable {X : Cx} {a b c : Expr} {ta tb tc : TE} {pos : Pos}
theorem binT (ha : PE X a ta) (hb : PE X b tb) {pins : List (Addr × Obj)} {s : Shared} {σ : St} {H : Hp} {R : V → V → Hp → Prop} (I : Inv X pins σ H s)
    (h : ta σ H fun x H1 => tb σ H1 fun y H2 => R x y H2) {Q : Value → Shared → Prop} {f : Value → Value → Sem Value}
    (hf : ∀ v u s2 x y H2, Inv X pins σ H2 s2 → RelV x v → RelV y u → R x y H2 → wpAny (model X.prog X.w) X.A (f v u) Q X.xe s2) :
    wpAny (model X.prog X.w) X.A (eval a X.env) (fun v s₁ => wpAny (model X.prog X.w) X.A (eval b X.env) (fun u s₂ => wpAny (model X.prog X.w) X.A (f v u) Q X.xe s₂) X.xe s₁) X.xe s := by
  refine thn (ha pins s σ H _ I h) fun v s1 ⟨x, H1, I1, r1, q1⟩ => ?_
  refine thn (hb pins s1 σ H1 _ I1 q1) fun u s2 ⟨y, H2, I2, r2, q2⟩ => ?_
  exact hf v u s2 x y H2 I2 r1 r2 q2
theorem pe_op {op : Operator} {r : R2} (ho : OpR X (binaryOp op) r) (ha : PE X a ta) (hb : PE X b tb) : PE X (.BinOp a op b pos) (tOp r ta tb) := by
  intro pins s σ H Q I h
  exact wpAny_BinOp (binT ha hb I h fun v u s2 x y H2 I2 rx ry q => ho pins s2 σ H2 x y v u Q I2 rx ry q)
theorem pe_un {op : UnaryOp} {r : V → Hp → VK → Prop} (ho : UnR X (unaryOp op) r) (ha : PE X a ta) : PE X (.UnaryOp op a pos) (tUn r ta) := by
  intro pins s σ H Q I h
  exact UnaryOp_ (thn (ha pins s σ H _ I h) fun v s1 ⟨x, H1, I1, r1, q1⟩ => ho pins s1 σ H1 x v Q I1 r1 q1)
theorem opI {f : Value → Value → Sem Value} {C : Int → Int → Prop} {g : Int → Int → Int}
    (rule : ∀ (i j : Int) (t u : Tok) (s : Shared) (Q : Value → Shared → Prop) (E : Value → Shared → Prop), C i j → Q (.int (g i j) s.toks) { s with toks := s.toks + 1 } → wpAny (model X.prog X.w) X.A (f (.int i t) (.int j u)) Q E s) :
    OpR X f (rI C fun i j => .int (g i j)) := by
  intro pins s σ H x y v u Q I rx ry h
  obtain ⟨i, j, rfl, rfl, hc, q⟩ := h
  obtain ⟨t, rfl⟩ := rx
  obtain ⟨t', rfl⟩ := ry
  exact rule i j t t' s _ _ hc ⟨.int (g i j), H, I.tok _, ⟨_, rfl⟩, q⟩
theorem opI0 {f : Value → Value → Sem Value} {g : Int → Int → Int}
    (rule : ∀ (i j : Int) (t u : Tok) (s : Shared) (Q : Value → Shared → Prop) (E : Value → Shared → Prop), Q (.int (g i j) s.toks) { s with toks := s.toks + 1 } → wpAny (model X.prog X.w) X.A (f (.int i t) (.int j u)) Q E s) :
    OpR X f (rI0 fun i j => .int (g i j)) := by
  intro pins s σ H x y v u Q I rx ry h
  obtain ⟨i, j, rfl, rfl, q⟩ := h
  obtain ⟨t, rfl⟩ := rx
  obtain ⟨t', rfl⟩ := ry
  exact rule i j t t' s _ _ ⟨.int (g i j), H, I.tok _, ⟨_, rfl⟩, q⟩
theorem opB0 {f : Value → Value → Sem Value} {g : Int → Int → Bool}
    (rule : ∀ (i j : Int) (t u : Tok) (s : Shared) (Q : Value → Shared → Prop) (E : Value → Shared → Prop), Q (.bool (g i j)) s → wpAny (model X.prog X.w) X.A (f (.int i t) (.int j u)) Q E s) :
    OpR X f (rI0 fun i j => .bl (g i j)) := by
  intro pins s σ H x y v u Q I rx ry h
  obtain ⟨i, j, rfl, rfl, q⟩ := h
  obtain ⟨t, rfl⟩ := rx
  obtain ⟨t', rfl⟩ := ry
  exact rule i j t t' s _ _ ⟨.bl (g i j), H, I, rfl, q⟩
def CPow (i j : Int) : Prop := 0 ≤ j ∧ j ≤ 1000000 ∧ i.natAbs < 2 ^ 64
def CMul (i j : Int) : Prop := (-(2 ^ 64) < i ∧ i < 2 ^ 64) ∨ (-(2 ^ 64) < j ∧ j < 2 ^ 64)
theorem CMul.ok {i j : Int} (h : CMul i j) : IntMulOk i j := by
  rcases h with ⟨h1, h2⟩ | ⟨h1, h2⟩
  · exact .of_left (intBits_le_64 h1 h2)
  · exact .of_right (intBits_le_64 h1 h2)
theorem op_add : OpR X (binaryOp .Add) (rI0 fun i j => .int (i + j)) := opI0 fun _ _ _ _ _ _ _ q => add_int q
theorem op_sub : OpR X (binaryOp .Sub) (rI0 fun i j => .int (i - j)) := opI0 fun _ _ _ _ _ _ _ q => sub_int q
theorem op_modN : OpR X (binaryOp .Mod) (rI (fun _ j => j ≠ 0) fun i j => .int (i.fmod j)) := opI fun _ _ _ _ _ _ _ hc q => mod_int' hc q
theorem op_pow : OpR X (binaryOp .Pow) (rI CPow fun i j => .int (i ^ j.toNat)) := opI fun _ _ _ _ _ _ _ hc q => pow_int_small hc.1 hc.2.1 hc.2.2 q
theorem unI {f : Value → Sem Value} {g : Int → Int}
    (rule : ∀ (i : Int) (t : Tok) (s : Shared) (Q : Value → Shared → Prop) (E : Value → Shared → Prop), Q (.int (g i) s.toks) { s with toks := s.toks + 1 } → wpAny (model X.prog X.w) X.A (f (.int i t)) Q E s) :
    UnR X f (rU fun i => .int (g i)) := by
  intro pins s σ H x v Q I rx h
  obtain ⟨i, rfl, q⟩ := h
  obtain ⟨t, rfl⟩ := rx
  exact rule i t s _ _ ⟨.int (g i), H, I.tok _, ⟨_, rfl⟩, q⟩
theorem un_neg : UnR X (unaryOp .USub) (rU fun i => .int (-i)) := unI fun _ _ _ _ _ q => neg_int q
end
def scal : V → V → Bool
  | .non, .non => true | .non, .int _ => true | .int _, .non => true | .non, .bl _ => true | .bl _, .non => true | .non, .str _ => true | .str _, .non => true
  | .int _, .int _ => true | .bl _, .bl _ => true | .str _, .str _ => true | .byt _, .byt _ => true
  | .int _, .str _ => true | .str _, .int _ => true | .bl _, .str _ => true | .str _, .bl _ => true
  | _, _ => false
def rEq : R2 := fun x y H Q => scal x y = true ∧ Q (.bl (decide (x = y))) H
def rNe : R2 := fun x y H Q => scal x y = true ∧ Q (.bl (!decide (x = y))) H
theorem dec_int {i j : Int} : decide (V.int i = V.int j) = (i == j) := by
  rw [Bool.eq_iff_iff]
  simp
theorem dec_bl {i j : Bool} : decide (V.bl i = V.bl j) = (i == j) := by
  rw [Bool.eq_iff_iff]
  simp
theorem dec_str {i j : Str} : decide (V.str i = V.str j) = (i == j) := by
  rw [Bool.eq_iff_iff]
  simp
theorem dec_byt {i j : Array UInt8} : decide (V.byt i = V.byt j) = (i.toList == j.toList) := by
  rw [Bool.eq_iff_iff]
  cases i
  cases j
  simp
section
variable {X : Cx} {a b c : Expr} {ta tb tc : TE} {pos : Pos}
theorem fin_bl {pins : List (Addr × Obj)} {σ : St} {H : Hp} {s : Shared} {Q : VK} {k k' : Bool} (I : Inv X pins σ H s) (q : Q (.bl k) H) (e : k = k') : EP X pins σ Q (.bool k') s := by
  subst e
  exact ⟨.bl k, H, I, rfl, q⟩
theorem op_eq : OpR X (compareOp .Eq) rEq := by
  intro pins s σ H x y v u Q I rx ry h
  obtain ⟨hs, q⟩ := h
  cases x with
  | non =>
    cases rx
    cases y with
    | non => cases ry; exact PySem.EqNone.eq_none_none (fin_bl I q (by simp))
    | bl j => cases ry; exact PySem.EqNone.eq_none_bool (fin_bl I q (by simp))
    | int j => obtain ⟨t', rfl⟩ := ry; exact PySem.EqNone.eq_none_int (fin_bl I q (by simp))
    | str j => obtain ⟨t', rfl⟩ := ry; exact PySem.EqNone.eq_none_str (fin_bl I q (by simp))
    | _ => exact absurd (show false = true from hs) Bool.false_ne_true
  | bl i =>
    cases rx
    cases y with
    | non => cases ry; exact PySem.EqNone.eq_bool_none (fin_bl I q (by simp))
    | bl j => cases ry; exact eq_bool (fin_bl I q dec_bl)
    | str j => obtain ⟨t', rfl⟩ := ry; exact PySem.EqMixed.eq_bool_str (fin_bl I q (by simp))
    | _ => exact absurd (show false = true from hs) Bool.false_ne_true
  | int i =>
    obtain ⟨t, rfl⟩ := rx
    cases y with
    | non => cases ry; exact PySem.EqNone.eq_int_none (fin_bl I q (by simp))
    | int j => obtain ⟨t', rfl⟩ := ry; exact eq_int (fin_bl I q dec_int)
    | str j => obtain ⟨t', rfl⟩ := ry; exact PySem.EqMixed.eq_int_str (fin_bl I q (by simp))
    | _ => exact absurd (show false = true from hs) Bool.false_ne_true
  | str i =>
    obtain ⟨t, rfl⟩ := rx
    cases y with
    | non => cases ry; exact PySem.EqNone.eq_str_none (fin_bl I q (by simp))
    | bl j => cases ry; exact PySem.EqMixed.eq_str_bool (fin_bl I q (by simp))
    | int j => obtain ⟨t', rfl⟩ := ry; exact PySem.EqMixed.eq_str_int (fin_bl I q (by simp))
    | str j => obtain ⟨t', rfl⟩ := ry; exact eq_str (fin_bl I q dec_str)
    | _ => exact absurd (show false = true from hs) Bool.false_ne_true
  | byt i =>
    obtain ⟨t, rfl⟩ := rx
    cases y with
    | byt j => obtain ⟨t', rfl⟩ := ry; exact PySem.W.eq_bytes (fin_bl I q dec_byt)
    | _ => exact absurd (show false = true from hs) Bool.false_ne_true
  | _ => cases y <;> exact absurd (show false = true from hs) Bool.false_ne_true
theorem op_ne : OpR X (compareOp .NotEq) rNe := by
  intro pins s σ H x y v u Q I rx ry h
  obtain ⟨hs, q⟩ := h
  cases x with
  | non =>
    cases rx
    cases y with
    | non => cases ry; exact PySem.EqNone.ne_none_none (fin_bl I q (by simp))
    | bl j => cases ry; exact PySem.EqNone.ne_none_bool (fin_bl I q (by simp))
    | int j => obtain ⟨t', rfl⟩ := ry; exact PySem.EqNone.ne_none_int (fin_bl I q (by simp))
    | str j => obtain ⟨t', rfl⟩ := ry; exact PySem.EqNone.ne_none_str (fin_bl I q (by simp))
    | _ => exact absurd (show false = true from hs) Bool.false_ne_true
  | bl i =>
    cases rx
    cases y with
    | non => cases ry; exact PySem.EqNone.ne_bool_none (fin_bl I q (by simp))
    | bl j => cases ry; exact ne_bool (fin_bl I q (congrArg not dec_bl))
    | str j => obtain ⟨t', rfl⟩ := ry; exact PySem.EqMixed.ne_bool_str (fin_bl I q (by simp))
    | _ => exact absurd (show false = true from hs) Bool.false_ne_true
  | int i =>
    obtain ⟨t, rfl⟩ := rx
    cases y with
    | non => cases ry; exact PySem.EqNone.ne_int_none (fin_bl I q (by simp))
    | int j => obtain ⟨t', rfl⟩ := ry; exact ne_int (fin_bl I q (congrArg not dec_int))
    | str j => obtain ⟨t', rfl⟩ := ry; exact PySem.EqMixed.ne_int_str (fin_bl I q (by simp))
    | _ => exact absurd (show false = true from hs) Bool.false_ne_true
  | str i =>
    obtain ⟨t, rfl⟩ := rx
    cases y with
    | non => cases ry; exact PySem.EqNone.ne_str_none (fin_bl I q (by simp))
    | bl j => cases ry; exact PySem.EqMixed.ne_str_bool (fin_bl I q (by simp))
    | int j => obtain ⟨t', rfl⟩ := ry; exact PySem.EqMixed.ne_str_int (fin_bl I q (by simp))
    | str j => obtain ⟨t', rfl⟩ := ry; exact ne_str (fin_bl I q (congrArg not dec_str))
    | _ => exact absurd (show false = true from hs) Bool.false_ne_true
  | byt i =>
    obtain ⟨t, rfl⟩ := rx
    cases y with
    | byt j => obtain ⟨t', rfl⟩ := ry; exact PySem.W.ne_bytes (fin_bl I q (congrArg not dec_byt))
    | _ => exact absurd (show false = true from hs) Bool.false_ne_true
  | _ => cases y <;> exact absurd (show false = true from hs) Bool.false_ne_true
theorem op_lt : OpR X (compareOp .Lt) (rI0 fun i j => .bl (decide (i < j))) := opB0 fun _ _ _ _ _ _ _ q => lt_int q
theorem op_gt : OpR X (compareOp .Gt) (rI0 fun i j => .bl (decide (j < i))) := opB0 fun _ _ _ _ _ _ _ q => gt_int q
theorem OpR.or {f : Value → Value → Sem Value} {r r' : R2} (h : OpR X f r) (h' : OpR X f r') : OpR X f (fun x y H Q => r x y H Q ∨ r' x y H Q) := by
  intro pins s σ H x y v u Q I rx ry q
  rcases q with q | q
  · exact h pins s σ H x y v u Q I rx ry q
  · exact h' pins s σ H x y v u Q I rx ry q
theorem nomark (b : Expr) {op : CmpOp} (h : op ≠ .In := by decide) (h2 : op ≠ .NotIn := by decide) : behindInMarks op b = false := by
  have e1 : (op == CmpOp.In) = false := by cases op <;> first | rfl | exact absurd rfl h
  have e2 : (op == CmpOp.NotIn) = false := by cases op <;> first | rfl | exact absurd rfl h2
  cases b <;> simp [behindInMarks, e1, e2]
theorem pe_cmpR {op : CmpOp} {r : R2} (ho : OpR X (compareOp op) r) (ha : PE X a ta) (hb : PE X b tb) (hm : behindInMarks op b = false) : PE X (.Compare a [op] [b] pos) (tOp r ta tb) := by
  intro pins s σ H Q I h
  exact wpAny_Compare1 (binT ha hb I h fun v u s2 x y H2 I2 rx ry q => ho pins s2 σ H2 x y v u Q I2 rx ry q) hm
def tTest (t : TE) : TT := fun σ H Q => t σ H fun x H' => ∃ k, x = .bl k ∧ Q k H'
theorem pt_cmpR {op : CmpOp} {r : R2} (ho : OpR X (compareOp op) r) (ha : PE X a ta) (hb : PE X b tb) (hm : behindInMarks op b = false) : PT X (.Compare a [op] [b] pos) (tTest (tOp r ta tb)) := by
  intro pins s σ H Q I h
  refine wpAny_isTrue_Compare1 (thn (ha pins s σ H _ I h) fun v s1 ⟨x, H1, I1, r1, q1⟩ => thn (hb pins s1 σ H1 _ I1 q1) fun u s2 ⟨y, H2, I2, r2, q2⟩ =>
    thn (ho pins s2 σ H2 x y v u _ I2 r1 r2 q2) fun c s3 ⟨z, H3, I3, r3, k, e, q3⟩ => ?_) hm
  subst e
  cases r3
  exact wpAny_truthy_bool ⟨H3, I3, q3⟩
def TruV (K : PySem.W.Frag) (x : V) (H : Hp) (k : Bool) : Prop :=
  match x with
  | .non => k = false
  | .bl b => k = b
  | .int i => k = (i != 0)
  | .str y => y.length ≤ sizeLine ∧ k = ((y.length : Int) != 0)
  | .byt y => y.size ≤ sizeLine ∧ k = ((y.size : Int) != 0)
  | .ref p => (∃ xs, SqL K H p xs ∧ k = !xs.isEmpty) ∨ (∃ xs, SqT K H p xs ∧ k = !xs.isEmpty) ∨ ∃ kvs, H p = some (.dK kvs) ∧ k = !kvs.isEmpty
  | _ => False
theorem isEmpty_kv {κ : Type} {kvs : List (κ × V)} {vs : List (κ × Value)} (r : KV kvs vs) : (!vs.isEmpty) = !kvs.isEmpty := by
  cases r <;> rfl
theorem isEmpty_of {xs : List V} {its : List Value} (r : Vals xs its) : (!its.toArray.isEmpty) = !xs.isEmpty := by
  cases r <;> simp
theorem line63 : (sizeLine : Nat) < 2 ^ 63 := by rw [sizeLine_eq]; decide
theorem tru_ok : TruR X (fun x H Q => ∃ k, TruV X.K x H k ∧ Q k H) := by
  intro pins s σ H x v Q I rx h
  obtain ⟨k, e, q⟩ := h
  have hl := line63
  have hs : sizeLine = 16777216 := sizeLine_eq
  cases x with
  | non =>
    cases rx
    have e' : k = false := e
    subst e'
    exact truthy_none ⟨H, I, q⟩
  | bl b =>
    cases rx
    have e' : k = b := e
    subst e'
    exact wpAny_truthy_bool ⟨H, I, q⟩
  | int i =>
    obtain ⟨t, rfl⟩ := rx
    have e' : k = (i != 0) := e
    subst e'
    exact PySem.P.truthy_int ⟨H, I, q⟩
  | str y =>
    obtain ⟨t, rfl⟩ := rx
    obtain ⟨hy, e'⟩ : y.length ≤ sizeLine ∧ k = ((y.length : Int) != 0) := e
    subst e'
    exact PySem.P.truthy_str (by omega) ⟨H, I.tok _, q⟩
  | byt y =>
    obtain ⟨t, rfl⟩ := rx
    obtain ⟨hy, e'⟩ : y.size ≤ sizeLine ∧ k = ((y.size : Int) != 0) := e
    subst e'
    exact PySem.W.truthy_bytes (by omega) ⟨H, I.tok _, q⟩
  | ref p =>
    cases rx
    have e' : (∃ xs, SqL X.K H p xs ∧ k = !xs.isEmpty) ∨ (∃ xs, SqT X.K H p xs ∧ k = !xs.isEmpty) ∨ ∃ kvs, H p = some (.dK kvs) ∧ k = !kvs.isEmpty := e
    rcases e' with ⟨xs, hx, e'⟩ | ⟨xs, hx, e'⟩ | ⟨kvs, hx, e'⟩
    · subst e'
      obtain ⟨its, r, pl, hz⟩ := I.list hx
      have hlen := r.length
      exact wpAny_truthy_list pl.isList (by simp only [List.size_toArray]; omega) ⟨H, I.tok _, by rw [isEmpty_of r]; exact q⟩
    · subst e'
      obtain ⟨its, r, pl, hz⟩ := I.tuple hx
      have hlen := r.length
      exact truthy_tuple pl (by simp only [List.size_toArray]; omega) ⟨H, I.tok _, by rw [isEmpty_of r]; exact q⟩
    · subst e'
      obtain ⟨hz, hS, vs, r, m⟩ : kvs.length ≤ sizeLine ∧ (p == sysModules) = false ∧ ∃ vs, KV kvs vs ∧ s.heap.DictOf (mixKind X.prog X.w) p vs := I.hok p _ hx
      have hlen : kvs.length = vs.length := Paired.length r
      exact wpAny_truthy_dict hS m (by omega) ⟨H, I.tok _, by rw [isEmpty_kv r]; exact q⟩
  | _ => exact (show False from e).elim
theorem op_add_str : OpR X (binaryOp .Add) (fun x y H Q => ∃ i j, x = .str i ∧ y = .str j ∧ i.length + j.length ≤ sizeLine ∧ Q (.str (i ++ j)) H) := by
  intro pins s σ H x y v u Q I rx ry h
  obtain ⟨i, j, rfl, rfl, hz, q⟩ := h
  obtain ⟨t, rfl⟩ := rx
  obtain ⟨t', rfl⟩ := ry
  exact add_str (fun t' tk => ⟨.str (i ++ j), H, I.tok _, ⟨_, rfl⟩, q⟩) hz
theorem vals1 {x : V} {us : List Value} (r : Vals [x] us) : ∃ u, us = [u] ∧ RelV x u := by
  cases r with
  | cons r1 r2 => cases r2; exact ⟨_, rfl, r1⟩
theorem vals2 {x y : V} {us : List Value} (r : Vals [x, y] us) : ∃ u w', us = [u, w'] ∧ RelV x u ∧ RelV y w' := by
  cases r with
  | cons r1 r2 =>
    cases r2 with
    | cons r3 r4 => cases r4; exact ⟨_, _, rfl, r1, r3⟩
theorem call_abs : CallR X (.builtin "abs") (fun xs H Q => ∃ i, xs = [.int i] ∧ Q (.int (if i < 0 then -i else i)) H) := by
  intro pins s σ H xs us Q I r h
  obtain ⟨i, rfl, q⟩ := h
  obtain ⟨u, rfl, t, rfl⟩ := vals1 r
  exact call_abs_int fun u tk => ⟨.int (if i < 0 then -i else i), H, I.tok _, ⟨_, rfl⟩, q⟩
def LenV (K : PySem.W.Frag) (x : V) (H : Hp) (n : Nat) : Prop :=
  match x with
  | .str y => y.length ≤ sizeLine ∧ n = y.length
  | .byt y => y.size ≤ sizeLine ∧ n = y.size
  | .ref p => (∃ xs, SqL K H p xs ∧ n = xs.length) ∨ ∃ xs, SqT K H p xs ∧ n = xs.length
  | _ => False
theorem call_len : CallR X (.builtin "len") (fun xs H Q => ∃ x n, xs = [x] ∧ LenV X.K x H n ∧ Q (.int n) H) := by
  intro pins s σ H xs us Q I r h
  obtain ⟨x, n, rfl, e, q⟩ := h
  obtain ⟨u, rfl, rx⟩ := vals1 r
  have hl := line63
  have hs : sizeLine = 16777216 := sizeLine_eq
  cases x with
  | str y =>
    obtain ⟨t, rfl⟩ := rx
    obtain ⟨hy, e'⟩ : y.length ≤ sizeLine ∧ n = y.length := e
    subst e'
    exact len_str (by omega) ⟨.int _, H, I.tok _, ⟨_, rfl⟩, q⟩
  | byt y =>
    obtain ⟨t, rfl⟩ := rx
    obtain ⟨hy, e'⟩ : y.size ≤ sizeLine ∧ n = y.size := e
    subst e'
    exact PySem.W.len_bytes (by omega) ⟨.int _, H, I.tok _, ⟨_, rfl⟩, q⟩
  | ref p =>
    cases rx
    have e' : (∃ xs, SqL X.K H p xs ∧ n = xs.length) ∨ ∃ xs, SqT X.K H p xs ∧ n = xs.length := e
    rcases e' with ⟨xs, hx, e'⟩ | ⟨xs, hx, e'⟩
    · subst e'
      obtain ⟨its, r', pl, hz⟩ := I.list hx
      have hlen := r'.length
      exact Calls.call_len_list pl.isList (by simp only [List.size_toArray]; omega) ⟨.int xs.length, H, I.tok _, ⟨_, by simp only [List.size_toArray]; rw [hlen]⟩, q⟩
    · subst e'
      obtain ⟨its, r', pl, hz⟩ := I.tuple hx
      have hlen := r'.length
      exact len_tuple pl (by simp only [List.size_toArray]; omega) ⟨.int xs.length, H, I.tok _, ⟨_, by simp only [List.size_toArray]; rw [hlen]⟩, q⟩
  | _ => exact (show False from e).elim
end
end L2
namespace L2
open PySem PySem.Spec PyProof.Rows
structure ObjM (h : Heap) (x dx C : Addr) (mA : Str → Option Value) : Prop where
  obj : h.get? x = some (PySem.W.instObj C dx)
  ns : h.Ns1 dx mA
  ne : dx ≠ x
theorem lookIn_ns {h : Heap} {dx : Addr} {mA : Str → Option Value} (n : h.Ns1 dx mA) : ∃ od, h.get? dx = some od ∧ ∀ name, PySem.W.lookIn name od = some (mA name) := by
  obtain ⟨o, es, ep, ho, hd, hk, _, hm⟩ := n
  refine ⟨o, ho, fun name => ?_⟩
  have e := hm name
  unfold nsFind findBy at e
  rw [← Array.find?_toList] at e
  unfold PySem.W.lookIn
  rw [hd]
  dsimp only
  split
  · rename_i y q
    rw [q] at e
    exact congrArg some e
  · rename_i q
    rw [q] at e
    have a : es.toList.any (·.refKey) = false := by
      rw [List.any_eq_false]
      intro y hy
      obtain ⟨z, t, hkey⟩ := hk y (Array.mem_toList_iff.mp hy)
      simp [DictEntry.refKey, hkey]
    have a' : ¬ es.toList.any (·.refKey) = true := by rw [a]; exact Bool.false_ne_true
    rw [if_neg a']
    exact congrArg some e
theorem ObjM.look {h : Heap} {x dx C : Addr} {mA : Str → Option Value} (I : ObjM h x dx C mA) : ∃ od, PySem.W.InstAt h x (PySem.W.instObj C dx) C (some od) ∧ ∀ name, PySem.W.lookIn name od = some (mA name) :=
  let ⟨od, ho, hl⟩ := lookIn_ns I.ns
  ⟨od, ⟨I.obj, rfl, rfl, ho⟩, hl⟩
section
variable {prog : Program} {w : World} {A : Around} {E : Value → Shared → Prop} {s : Shared} {K : PySem.W.Frag} {x dx C f : Addr} {mA : Str → Option Value} {name : Str} {v : Value}
end
section
variable {P : Program} {w : World} {H H' : Hp} {h h' : Heap} {a C dx : Addr} {fs fs' : List (Str × V)}
end
structure Cls (K : PySem.W.Frag) (C : Addr) : Prop where
  pg : PySem.W.plainGet K C Str.empty = true
  hd : PySem.W.hasDictIn K C = true
  po : PySem.W.plainOver K C = true
  sa : PySem.W.findIn K (.ref C) "__setattr__" = some (some (.builtin "object.__setattr__"))
theorem Cls.get {K : PySem.W.Frag} {C : Addr} (c : Cls K C) (f : Str) : PySem.W.plainGet K C f = true := c.pg
structure Con (K : PySem.W.Frag) (C : Addr) (f : Str) (v : V) (u : Value) : Prop where
  at_ : PySem.W.findIn K (.ref C) f = some (some u)
  rel : RelV v u
  get : PySem.W.specialIn K u "__get__" = some none
  cp : PySem.W.copiedNames.contains f = false
structure Meth (K : PySem.W.Frag) (C : Addr) (m : Str) (f : Addr) : Prop where
  at_ : PySem.W.findIn K (.ref C) m = some (some (.ref f))
  fn : PySem.W.isFn K (.ref f) = true
  kp : PySem.W.keepIn K (.ref f) = true
section
variable {X : Cx} {pins : List (Addr × Obj)} {σ : St} {H : Hp} {s : Shared} {a C dx : Addr} {fs : List (Str × V)} {f : Str} {v : V} {A : Around} {E : Value → Shared → Prop}
theorem Inv.made (I : Inv X pins σ H s) : Inv X pins σ (upd (upd H s.heap.objs.size (.own (s.heap.objs.size + 1))) (s.heap.objs.size + 1) (.ins C s.heap.objs.size []))
    { s with heap := (s.heap.push PySem.W.emptyDict).push (PySem.W.instObj C s.heap.objs.size) } := by
  have e1 : (s.heap.push PySem.W.emptyDict).get? s.heap.objs.size = some PySem.W.emptyDict := Heap.get?_push_size s.heap rfl
  have e2 : ((s.heap.push PySem.W.emptyDict).push (PySem.W.instObj C s.heap.objs.size)).get? (s.heap.objs.size + 1) = some (PySem.W.instObj C s.heap.objs.size) := by
    have := Heap.get?_push_size (s.heap.push PySem.W.emptyDict) (o := PySem.W.instObj C s.heap.objs.size) rfl
    rwa [Heap.size_push] at this
  have e3 : (s.heap.push PySem.W.emptyDict).Ns s.heap.objs.size (fun _ => none) := ⟨PySem.W.emptyDict, #[], _, e1, rfl, (fun e he => absurd he (by simp)), fun _ => rfl⟩
  have I1 := I.laid (a := s.heap.objs.size) (o := .own (s.heap.objs.size + 1)) (h' := s.heap.push PySem.W.emptyDict) (t' := s.toks) (fun b u q => Heap.get?_push_of_some _ q) (Nat.le_refl _) ⟨_, e1⟩
  refine I1.laid (a := s.heap.objs.size + 1) (o := .ins C s.heap.objs.size []) (t' := s.toks) (fun b u q => Heap.get?_push_of_some _ q) (Nat.le_of_eq (Heap.size_push _ _)) ?_
  have ne : s.heap.objs.size ≠ s.heap.objs.size + 1 := Nat.ne_of_lt (Nat.lt_succ_self _)
  refine ⟨by rw [upd_ne ne, upd_same], Nat.zero_le _, ne, e2, fun _ => none, (Heap.Ns1.of_empty e3).at fun o q => Heap.get?_push_of_some _ q, fun _ => True.intro, fun y hy => absurd rfl hy⟩
end
section
variable {X : Cx} {o e value : Expr} {f : Str} {pos pos' tpos : Pos} {ta tv : TE}
end
section
variable {X : Cx} {pins : List (Addr × Obj)} {σ : St} {H : Hp} {s : Shared} {A : Around} {E : Value → Shared → Prop} {Q : Value → Shared → Prop} {c : Value} {b : Bool}
inductive TyOf (K : PySem.W.Frag) (H : Hp) : V → Value → Prop where
  | non : TyOf K H .non (.type "NoneType")
  | bl (x : Bool) : TyOf K H (.bl x) (.type "bool")
  | int (i : Int) : TyOf K H (.int i) (.type "int")
  | str (x : Str) : TyOf K H (.str x) (.type "str")
  | flt (x : UInt64) : TyOf K H (.flt x) (.type "float")
  | lst {a : Addr} {xs : List V} (e : H a = some (.lst xs)) : TyOf K H (.ref a) (.type "list")
  | frz {a : Addr} {o : Obj} {xs : List V} (e : H a = some (.frz o (.lst xs))) : TyOf K H (.ref a) (.type "list")
  | tup {a : Addr} {xs : List V} (e : H a = some (.tup xs)) : TyOf K H (.ref a) (.type "tuple")
  | dK {a : Addr} {kvs : List (Key × V)} (e : H a = some (.dK kvs)) : TyOf K H (.ref a) (.type "dict")
  | dT {a : Addr} {kvs : List (List Key × V)} (e : H a = some (.dT kvs)) : TyOf K H (.ref a) (.type "dict")
  | ins {a C dx : Addr} {fs : List (Str × V)} (e : H a = some (.ins C dx fs)) (cl : Cls K C) (ha : PySem.W.findIn K (.ref C) "__class__" = some (some (.builtin "object.__class__")))
      (hn : PySem.W.specialIn K (.builtin "object.__class__") "__get__" = some (some (.builtin "getset_descriptor.__get__"))) (htk : PySem.W.takesIn K (.builtin "object.__class__") = some true)
      (hm : PySem.W.mroIn K C (.type "object") = some true) : TyOf K H (.ref a) (.ref C)
end
end L2
namespace L2
open PySem PySem.Spec PyProof.Rows
structure Room (k : Nat) (A : Around) : Prop where
  hd : A.handled = none
  dp : A.depth + 3 * k + 5 < recursionLimit
  un : A.units + 16 * k + 200 < cLine
theorem Room.mono {j k : Nat} {A : Around} (r : Room k A) (h : j ≤ k) : Room j A := ⟨r.hd, by have := r.dp; omega, by have := r.un; omega⟩
theorem Room.deeper {k : Nat} {A : Around} (r : Room (k + 1) A) (env : Env) : Room k (A.deeper env) :=
  ⟨r.hd, by have := r.dp; show A.depth + 1 + 3 * k + 5 < _; omega, by have := r.un; show A.units + 3 + 16 * k + 200 < _; omega⟩
theorem Room.depth {k : Nat} {A : Around} (r : Room k A) : A.depth < recursionLimit := by have := r.dp; omega
theorem Room.units {k : Nat} {A : Around} (r : Room k A) : A.units + 64 < cLine := by have := r.un; omega
def tNil : TA := fun _ H Q => Q [] H
def tCons (ta : TE) (tr : TA) : TA := fun σ H Q => ta σ H fun x H1 => tr σ H1 fun xs H2 => Q (x :: xs) H2
section
variable {X : Cx} {e : Expr} {es : List Expr} {te : TE} {t : TA} {pos : Pos}
theorem pa_nil : PA X [] tNil := fun _ _ _ _ H Q I h => Calls.spliced_nil ⟨[], H, I, .nil, h⟩
theorem pa_cons (ha : PE X e te) (hr : PA X es t) (hs : starEach (e :: es) X.env = (false, eval e X.env) :: starEach es X.env := by rfl) : PA X (e :: es) (tCons te t) := by
  intro pos pins s σ H Q I h
  rw [hs]
  show wpAny _ _ (spliced ((false, eval e X.env) :: backTo pos (starEach es X.env))) _ _ s
  refine Calls.spliced_cons (thn (ha pins s σ H _ I h) fun u s1 ⟨x, H1, I1, r1, q1⟩ => ?_)
  exact thn (hr pos pins s1 σ H1 _ I1 q1) fun us s2 ⟨xs, H2, I2, r2, q2⟩ => ⟨x :: xs, H2, I2, .cons r1 r2, q2⟩
def tTup (t : TA) : TE := fun σ H Q => t σ H fun xs H1 => xs.length ≤ sizeLine ∧ ∀ p, H1 p = none → Q (.ref p) (upd H1 p (.tup xs))
theorem pe_tup {x1} (h : PA X es t) : PE X (.Tuple es x1 pos) (tTup t) := by
  intro pins s σ H Q I hq
  refine wpAny_Tuple_spliced (thn (h pos pins s σ H _ I hq) fun us s1 ⟨xs, H1, I1, r, z, q⟩ => ⟨by rw [← r.length]; exact z, ?_⟩)
  have hf : H1 s1.heap.objs.size = none := I1.hok.fresh (Nat.le_refl _)
  refine ⟨.ref s1.heap.objs.size, upd H1 s1.heap.objs.size (.tup xs), I1.laid (t' := s1.toks) (fun b u e => Heap.get?_push_of_some _ e) (Nat.le_refl _) ?_, rfl, q _ hf⟩
  exact ⟨z, us, r, ⟨_, Heap.get?_push_size _ rfl, rfl, _, rfl⟩⟩
end
abbrev Sp := List V → Hp → VK → XK → Prop
abbrev CXT := List Env → Hp → Shared → XK → Value → Shared → Prop
structure Env0 (P : Program) (w : World) (K : PySem.W.Frag) (mg : Str → Option Value) (base : Heap) (A : Around) (outer : List Env) (s : Shared) (H : Hp) : Prop where
  frames : A.frames = some outer
  mod : Mod K mg base
  bs : ∀ b o, base.get? b = some o → s.heap.get? b = some o ∧ H b = none
  bsz : base.objs.size ≤ s.heap.objs.size
  funs : s.heap.FunFrames base outer
  frf : ∀ b ∈ frs outer, H b = none
  hok : HOk P w H s.heap
  bare : AllBare s.gens
def CE (outer : List Env) (P : Program) (w : World) (H : Hp) (s : Shared) (Q : VK) (u : Value) (s' : Shared) : Prop :=
  ∃ v H', s'.os = s.os ∧ AllBare s'.gens ∧ Un (frs outer) [] H H' s.heap s'.heap ∧ HOk P w H' s'.heap ∧ RelV v u ∧ Q v H'
def CR (CX : CXT) (outer : List Env) (P : Program) (w : World) (H : Hp) (s : Shared) (Q : VK) (E : XK) (r : Result) (s' : Shared) : Prop :=
  match r with
  | .ok (.ret u) => CE outer P w H s Q u s'
  | .ok _ => False
  | .error e => CX outer H s E e s'
structure FnOk (P : Program) (w : World) (K : PySem.W.Frag) (mg : Str → Option Value) (base : Heap) (CX : CXT) (k : Nat) (f : Addr) (fd : FuncData) (ps : List Str) (sp : Sp) : Prop where
  len : ∀ vs H Q E, sp vs H Q E → vs.length = ps.length
  run : ∀ (A : Around) (outer : List Env) (s : Shared) (H : Hp) (args : Args) (us : List Value) (vs : List V) (Q : VK) (E : XK), Room k A → Env0 P w K mg base A outer s H → BindsTo s fd args (ps.zip us) → Vals vs us → sp vs H Q E →
    codeAny (model P w) A (.call (.ref f) args) (CR CX outer P w H s Q E) s
theorem FnOk.mono {P : Program} {w : World} {K : PySem.W.Frag} {mg : Str → Option Value} {base : Heap} {CX : CXT} {j k : Nat} {f : Addr} {fd : FuncData} {ps : List Str} {sp : Sp} (F : FnOk P w K mg base CX j f fd ps sp) (h : j ≤ k) :
    FnOk P w K mg base CX k f fd ps sp := ⟨F.len, fun A outer s H args us vs Q E hr => F.run A outer s H args us vs Q E (hr.mono h)⟩
theorem FnOk.imp {P : Program} {w : World} {K : PySem.W.Frag} {mg : Str → Option Value} {base : Heap} {CX : CXT} {k : Nat} {f : Addr} {fd : FuncData} {ps : List Str} {sp sp' : Sp} (F : FnOk P w K mg base CX k f fd ps sp)
    (h : ∀ vs H Q E, sp' vs H Q E → sp vs H Q E) : FnOk P w K mg base CX k f fd ps sp' :=
  ⟨fun vs H Q E q => F.len vs H Q E (h _ _ _ _ q), fun A outer s H args us vs Q E hr he hb hv hs => F.run A outer s H args us vs Q E hr he hb hv (h _ _ _ _ hs)⟩
section
variable {X : Cx} {pins : List (Addr × Obj)} {σ : St} {H : Hp} {s s' : Shared}
theorem Inv.env0 (I : Inv X pins σ H s) : Env0 X.prog X.w X.K X.mg X.base X.A X.stack s H :=
  ⟨I.ok.frames, I.ok.mod, I.bs, Nat.le_trans I.ok.bsz I.sz, I.stack, I.stkFree, I.hok, I.bare⟩
theorem Inv.after {Q : VK} {u : Value} (I : Inv X pins σ H s) (h : CE X.stack X.prog X.w H s Q u s') : EP X pins σ Q u s' := by
  obtain ⟨v, H', os, bare, un, hok, r, q⟩ := h
  obtain ⟨hh, g, d, t, os'⟩ := s'
  obtain rfl : os' = s.os := os
  exact ⟨v, H', I.call (h' := hh) (g' := g) (d' := d) (t' := t) (ch := []) un hok bare (fun b z => absurd z (by simp)), r, q⟩
end
def tCall (sp : Sp) (dvs : List V) (E : XK) (t : TA) : TE := fun σ H Q => t σ H fun vs H1 => sp (vs ++ dvs) H1 Q E
def Binds (K : PySem.W.Frag) (fd : FuncData) (ps : List Str) (ds : List Value) : Prop :=
  ∀ (s : Shared) (us : List Value), K.In s.heap → (us ++ ds).length = ps.length → BindsTo s fd ⟨us, []⟩ (ps.zip (us ++ ds))
theorem Binds.all {K : PySem.W.Frag} {fd : FuncData} {ps : List Str} (h : ∀ us : List Value, us.length = ps.length → bindArgs fd ⟨us, []⟩ = pure (ps.zip us)) : Binds K fd ps [] := fun s us _ hl => by
  rw [List.append_nil] at hl ⊢
  exact .of_eq (h us hl)
def Passes (CX : CXT) (X : Cx) (E : XK) : Prop := ∀ (pins : List (Addr × Obj)) (σ : St) (H : Hp) (s : Shared) (e : Value) (s' : Shared), Inv X pins σ H s → CX X.stack H s E e s' → X.xe e s'
section
variable {X : Cx} {CX : CXT} {k : Nat} {f C : Addr} {fd : FuncData} {ps : List Str} {sp : Sp} {dvs : List V} {ds : List Value} {E : XK} {x m : Str} {p pos apos : Pos} {e o : Expr} {es : List Expr} {ta : TE} {t : TA}
theorem run_fn {pins : List (Addr × Obj)} {σ : St} {H : Hp} {s : Shared} {Q : VK} {us : List Value} {vs : List V} (F : FnOk X.prog X.w X.K X.mg X.base CX k f fd ps sp) (hr : Room k X.A) (hb : Binds X.K fd ps ds) (hd : Vals dvs ds) (hx : Passes CX X E)
    (I : Inv X pins σ H s) (r : Vals vs us) (h : sp (vs ++ dvs) H Q E) : wpAny (model X.prog X.w) X.A (call (.ref f) us) (EP X pins σ Q) X.xe s := by
  have r2 : Vals (vs ++ dvs) (us ++ ds) := r.append hd
  have hl : (us ++ ds).length = ps.length := by rw [← r2.length]; exact F.len _ _ _ _ h
  refine wpAny_call (codeAny_mono (F.run X.A X.stack s H ⟨us, []⟩ (us ++ ds) (vs ++ dvs) Q E hr I.env0 (hb s us I.kIn hl) r2 h) fun r s' hq => ?_)
  cases r with
  | error e => exact hx pins σ H s e s' I hq
  | ok fl =>
    cases fl with
    | ret u => exact I.after hq
    | next => exact False.elim hq
    | brk => exact False.elim hq
    | cont => exact False.elim hq
theorem pe_call (F : FnOk X.prog X.w X.K X.mg X.base CX k f fd ps sp) (hr : Room k X.A) (hg : Gl X x) (hm : X.mg x = some (.ref f)) (hk : PySem.W.keepIn X.K (.ref f) = true) (hb : Binds X.K fd ps ds) (hd : Vals dvs ds) (hx : Passes CX X E)
    (ha : PA X (e :: es) t) (hdb : (x == ("__debug__" : Str)) = false := by decide) (he : starEach (e :: es) X.env = (false, eval e X.env) :: starEach es X.env := by rfl) (hpl : (backTo pos (starEach es X.env)).any (·.1) = false := by rfl) :
    PE X (.Call (.Name x p) (e :: es) [] pos) (tCall sp dvs E t) := by
  intro pins s σ H Q I h
  refine wpAny_Call_Name_kw (ld_glob I hg hm ?_ hdb)
  refine PySem.W.callWith_K (h₀ := X.base) I.ok.mod.kin hk (thn (ha pos pins s σ H _ I h) fun us s1 ⟨vs, H1, I1, r, q⟩ => ⟨I1.kIn, ?_⟩) he hpl
  exact run_fn F hr hb hd hx I1 r q
structure Mk (K : PySem.W.Frag) (C f : Addr) : Prop where
  makes : PySem.W.makesIn K C = true
  init : PySem.W.findIn K (.ref C) "__init__" = some (some (.ref f))
  fn : PySem.W.isFn K (.ref f) = true
  kp : PySem.W.keepIn K (.ref C) = true
end
section
variable {X : Cx} {CX : CXT} {k : Nat} {f C : Addr} {fd : FuncData} {ps ks : List Str} {sp : Sp} {E : XK} {x m : Str} {p pos apos kpos : Pos} {e o : Expr} {es : List Expr} {kws : List Keyword} {te ta : TE} {t tk : TA} {nm : Option Str}
structure KBinds (K : PySem.W.Frag) (fd : FuncData) (ps ks : List Str) (g : List Value → List Value → List Value) (gV : List V → List V → List V) : Prop where
  to : ∀ (s : Shared) (us ws : List Value), K.In s.heap → (g us ws).length = ps.length → BindsTo s fd ⟨us, ks.zip ws⟩ (ps.zip (g us ws))
  rel : ∀ {vs : List V} {us : List Value} {zs : List V} {ws : List Value}, Vals vs us → Vals zs ws → Vals (gV vs zs) (g us ws)
variable {g : List Value → List Value → List Value} {gV : List V → List V → List V}
end
structure FnScope (N P : List Str) (sc : Scope) : Prop where
  kind : sc.kind = .function
  co : sc.isCoroutine = false
  gen : sc.isGenerator = false
  nd : N.Nodup
  pre : N.take P.length = P
  par : ∀ x ∈ P, sc.names.lookup x = some .local ∨ sc.names.lookup x = some .cell
  nofree : ∀ y ∈ sc.names, y.2 ≠ .free
theorem bindL_out {kindOf : Str → Option NameKind} {x : Str} : ∀ {binds : List (Str × Value)} {m : Str → Option Value}, (∀ v, (x, v) ∉ binds) → bindL kindOf binds m x = m x
  | [], _, _ => rfl
  | (n, v) :: r, m, h => by
    unfold bindL
    rw [bindL_out fun w hw => h w (List.mem_cons_of_mem _ hw)]
    split
    · have : x ≠ n := by rintro rfl; exact h v List.mem_cons_self
      simp [this]
    · rfl
theorem bindC_out {kindOf : Str → Option NameKind} {x : Str} : ∀ {binds : List (Str × Value)} {m : Str → Option Value}, (∀ v, (x, v) ∉ binds) → bindC kindOf binds m x = m x
  | [], _, _ => rfl
  | (n, v) :: r, m, h => by
    unfold bindC
    rw [bindC_out fun w hw => h w (List.mem_cons_of_mem _ hw)]
    split
    · rfl
    · have : x ≠ n := by rintro rfl; exact h v List.mem_cons_self
      simp [this]
theorem bindL_get {kindOf : Str → Option NameKind} {x : Str} {v : Value} : ∀ {P : List Str} {vs : List Value} {i : Nat} {m : Str → Option Value}, P.Nodup → P[i]? = some x → vs[i]? = some v → kindOf x = some .local →
    bindL kindOf (P.zip vs) m x = some v
  | [], _, _, _, _, h, _, _ => by simp at h
  | _ :: _, [], _, _, _, _, h, _ => by simp at h
  | p :: P, w :: vs, 0, m, nd, h1, h2, hk => by
    simp at h1 h2; subst h1; subst h2
    show bindL kindOf ((p, w) :: P.zip vs) m p = _
    unfold bindL
    rw [bindL_out fun v hv => (List.nodup_cons.mp nd).1 (List.of_mem_zip hv).1, if_pos hk]
    simp
  | p :: P, w :: vs, i + 1, m, nd, h1, h2, hk => by
    show bindL kindOf ((p, w) :: P.zip vs) m x = _
    unfold bindL
    exact bindL_get (i := i) (List.nodup_cons.mp nd).2 (by simpa using h1) (by simpa using h2) hk
theorem bindC_get {kindOf : Str → Option NameKind} {x : Str} {v : Value} : ∀ {P : List Str} {vs : List Value} {i : Nat} {m : Str → Option Value}, P.Nodup → P[i]? = some x → vs[i]? = some v → kindOf x ≠ some .local →
    bindC kindOf (P.zip vs) m x = some v
  | [], _, _, _, _, h, _, _ => by simp at h
  | _ :: _, [], _, _, _, _, h, _ => by simp at h
  | p :: P, w :: vs, 0, m, nd, h1, h2, hk => by
    simp at h1 h2; subst h1; subst h2
    show bindC kindOf ((p, w) :: P.zip vs) m p = _
    unfold bindC
    rw [bindC_out fun v hv => (List.nodup_cons.mp nd).1 (List.of_mem_zip hv).1, if_neg hk]
    simp
  | p :: P, w :: vs, i + 1, m, nd, h1, h2, hk => by
    show bindC kindOf ((p, w) :: P.zip vs) m x = _
    unfold bindC
    exact bindC_get (i := i) (List.nodup_cons.mp nd).2 (by simpa using h1) (by simpa using h2) hk
def start (N : List Str) (vs : List V) : St := vs.map some ++ List.replicate (N.length - vs.length) none
def cxOf (CX : CXT) (P : Program) (w : World) (K : PySem.W.Frag) (mg : Str → Option Value) (base : Heap) (N : List Str) (qual : Str) (scope : Scope) (f : Addr) (cd : Value) (A : Around) (outer : List Env) (s : Shared) (H : Hp) (E : XK) : Cx where
  prog := P
  w := w
  K := K
  mg := mg
  base := base
  A := A.deeper (envOfC qual scope s.heap.objs.size f cd)
  N := N
  s₀ := s
  H₀ := H
  env := envOfC qual scope s.heap.objs.size f cd
  outer := outer
  stack := envOfC qual scope s.heap.objs.size f cd :: outer
  ex := []
  calm := true
  fn := fun _ => true
  pn := []
  xe := fun e s' => wpAny (model P w) (A.deeper (envOfC qual scope s.heap.objs.size f cd)) (leaving (envOfC qual scope s.heap.objs.size f cd) e) (fun _ s'' => CX outer H s E e s'') (fun e' s'' => CX outer H s E e' s'') s'
theorem cell_has {sc : Scope} {n : Nat} {x : Str} (h : sc.names.lookup x = some .cell) : ∃ c, (cellsFrom n sc.names []).lookup x = some c := by
  have q := PySem.W.cellsFrom_some sc.names n [] (.inl h)
  exact Option.isSome_iff_exists.mp q
theorem inv_start {CX : CXT} {P : Program} {w : World} {K : PySem.W.Frag} {mg : Str → Option Value} {base : Heap} {N ps : List Str} {qual : Str} {scope : Scope} {f : Addr} {cd : Value} {A : Around} {outer : List Env} {s s1 : Shared} {H : Hp} {E : XK} {us : List Value} {vs : List V}
    (S : FnScope N ps scope) (hd : A.handled = none) (e0 : Env0 P w K mg base A outer s H) (hl : vs.length = ps.length) (r : Vals vs us)
    (x : InCallC s s.heap.objs.size (bindL (envOfC qual scope s.heap.objs.size f cd).kindOf (ps.zip us) fun _ => none) (cellsFrom (s.heap.objs.size + 1) scope.names []) (bindC (envOfC qual scope s.heap.objs.size f cd).kindOf (ps.zip us) fun _ => none) s1) :
    Inv (cxOf CX P w K mg base N qual scope f cd A outer s H E) [] (start N vs) H s1 := by
  have hpl : ps.length ≤ N.length := by have := congrArg List.length S.pre; rw [List.length_take] at this; omega
  obtain ⟨h1, tk, rfl, hk⟩ := x.done
  have noA : ∀ b : Addr, b ∉ (cxOf CX P w K mg base N qual scope f cd A outer s H E).ex := fun b z => absurd (show b ∈ ([] : List Addr) from z) (by simp)
  refine ⟨⟨e0.mod, S.kind, rfl, rfl, Nat.le_refl _, fun y z c h1 h2 => ?_, fun y hy => ?_, fun y c _ h => ?_, fun _ => hd, Around.frames_deeper e0.frames, .inr ⟨rfl, rfl⟩, fun b z => absurd z (noA b), e0.bs, e0.bsz, fun b _ _ => noA b, fun b z => absurd z (noA b), e0.funs, e0.frf⟩,
    rfl, e0.bare, Un.kept hk, ⟨_, x.toInCall.ns, fun i y v h1 h2 h3 => ?_⟩, fun y c h => ⟨_, x.cell y c h⟩, e0.hok.fresh (Nat.le_refl _), fun y c h => ?_, fun p hp => absurd (show p ∈ ([] : List (Addr × Obj)) from hp) (by simp), e0.hok.kept hk, ?_⟩
  · exact name_of_addr x.apart (PySem.mem_of_lookup h1) (PySem.mem_of_lookup h2)
  · have hy : scope.names.lookup y = some .cell ∨ scope.names.lookup y = some .free := hy
    rcases hy with hy | hy
    · exact cell_has hy
    · exact absurd rfl (S.nofree _ (PySem.mem_of_lookup hy))
  · exact Nat.le_of_lt (x.above y c (PySem.mem_of_lookup h))
  · have hi : i < vs.length := by
      unfold start at h2
      by_cases hi : i < vs.length
      · exact hi
      · rw [List.getElem?_append_right (by simpa using hi)] at h2
        rw [List.getElem?_replicate] at h2
        split at h2 <;> cases h2
    have ha : vs[i]? = some v := by
      unfold start at h2
      rw [List.getElem?_append_left (by simpa using hi), List.getElem?_map] at h2
      cases e : vs[i]? with
      | none => rw [e] at h2; cases h2
      | some a => rw [e] at h2; cases h2; rfl
    obtain ⟨u, hu, rv⟩ := r.get ha
    have hp : ps[i]? = some y := by
      rw [← S.pre, List.getElem?_take_of_lt (by omega)]; exact h1
    have ndP : ps.Nodup := by rw [← S.pre]; exact S.nd.sublist (List.take_sublist _ _)
    refine ⟨u, rv, ?_⟩
    rcases S.par y (List.mem_of_getElem? hp) with k | k
    · exact .inl ⟨k, bindL_get ndP hp hu k⟩
    · obtain ⟨c, e⟩ := cell_has (n := s.heap.objs.size + 1) k
      refine .inr ⟨.inl k, c, e, ?_⟩
      have q := x.cell y c e
      rw [bindC_get ndP hp hu (by show scope.names.lookup y ≠ _; rw [k]; decide)] at q
      exact q
  · exact e0.hok.fresh (Nat.le_of_lt (x.above y c (PySem.mem_of_lookup h)))
  · unfold start
    show _ = N.length
    rw [List.length_append, List.length_map, List.length_replicate]
    omega
theorem fn_of {CX : CXT} {P : Program} {w : World} {K : PySem.W.Frag} {mg : Str → Option Value} {base : Heap} {k : Nat} {f : Addr} {name qual : Str} {params : Arguments} {body : List Stmt} {scope : Scope} {dV kV doc pm cdv ct oc : Value} {an od : Option Addr}
    {osl : Array (Option Value)} {N ps : List Str} {sp : Sp} (lk : K.lookup f = some ⟨oc, od, .func (PySem.W.fnOf name qual params body scope dV kV doc pm an cdv ct), osl⟩) (hcd : PySem.W.codeIn K cdv qual = true) (S : FnScope N ps scope)
    (len : ∀ vs H Q E, sp vs H Q E → vs.length = ps.length)
    (hbody : ∀ (A : Around) (outer : List Env) (s : Shared) (H : Hp) (vs : List V) (Q : VK) (E : XK), Room k (A.deeper (envOfC qual scope s.heap.objs.size f cdv)) → sp vs H Q E →
      ∃ t, PSs (cxOf CX P w K mg base N qual scope f cdv A outer s H E) body t ∧ t { nx := fun _ H' => Q .non H', rt := Q } (start N vs) H) :
    FnOk P w K mg base CX (k + 1) f (PySem.W.fnOf name qual params body scope dV kV doc pm an cdv ct) ps sp := by
  refine ⟨len, fun A outer s H args us vs Q E hr e0 hb r hsp => ?_⟩
  have hl := len _ _ _ _ hsp
  have KX : K.In s.heap := e0.mod.kin.keeps fun b o e => (e0.bs b o e).1
  have lim : s.heap.NoLimit := e0.mod.nolimit.keeps fun b o e => (e0.bs b o e).1
  have hkind : ∀ y ∈ ps.zip us, scope.names.lookup y.1 = some .local ∨ (scope.names.lookup y.1 = some .cell ∧ ((cellsFrom (s.heap.objs.size + 1) scope.names []).lookup y.1).isSome = true) := fun ⟨n, v⟩ hy => by
    rcases S.par n (List.of_mem_zip hy).1 with q | q
    · exact .inl q
    · exact .inr ⟨q, PySem.W.cellsFrom_some _ _ _ (.inl q)⟩
  refine codeAny_call_function hr.depth (KX _ _ lk) rfl S.co S.gen rfl (PySem.W.codeRec_of KX hcd) (hb _ _ _ _ ?_)
  refine wpAny_newFunctionEnv_cells S.kind hkind fun env he s1 x => ?_
  subst he
  refine ⟨lim.keeps x.toInCall.keep, codeAny_func ?_⟩
  obtain ⟨t, ht, hq⟩ := hbody A outer s H vs Q E (hr.deeper _) hsp
  have I : Inv (cxOf CX P w K mg base N qual scope f cdv A outer s H E) [] (start N vs) H s1 := inv_start S hr.hd e0 hl r x
  refine wpAny_mono (ht [] s1 (start N vs) H _ I hq) (fun fl s' hs => ?_) fun e s' hs => hs
  have fin : ∀ {σ' : St} {H' : Hp} {v : V} {u : Value}, Inv (cxOf CX P w K mg base N qual scope f cdv A outer s H E) [] σ' H' s' → RelV v u → Q v H' → CE outer P w H s Q u s' :=
    fun {σ' H' v u} J rv q => ⟨v, H', J.os, J.bare, J.base, J.hok, rv, q⟩
  cases fl with
  | ret u =>
    obtain ⟨v, σ', H', J, rv, q⟩ := hs
    exact fin J rv q
  | next =>
    obtain ⟨σ', H', J, q⟩ := hs
    exact fin (v := V.non) (u := Value.none) J rfl q
  | brk =>
    obtain ⟨_, _, _, q⟩ := hs
    exact False.elim q
  | cont =>
    obtain ⟨_, _, _, q⟩ := hs
    exact False.elim q
end L2
namespace L2
open PySem PySem.Spec PyProof.Rows
section
variable {X : Cx} {x : Str} {p pos : Pos} {e : Expr} {es : List Expr} {t : TA} {id T : String} {r : List V → Hp → VK → Prop}
def tCB (r : List V → Hp → VK → Prop) (t : TA) : TE := fun σ H Q => t σ H fun vs H1 => r vs H1 Q
theorem pe_callB (hc : CallR X (.builtin id) r) (hg : Gl X x) (hm : X.mg x = none) (hv : bootBuiltins x = some (.builtin id)) (ha : PA X (e :: es) t) (hn : x ≠ "__name__" := by decide) (hdb : (x == ("__debug__" : Str)) = false := by decide)
    (he : starEach (e :: es) X.env = (false, eval e X.env) :: starEach es X.env := by rfl) (hpl : (backTo pos (starEach es X.env)).any (·.1) = false := by rfl) : PE X (.Call (.Name x p) (e :: es) [] pos) (tCB r t) := by
  intro pins s σ H Q I h
  refine wpAny_Call_Name_kw (ld_blt I hg hm hv ?_ hn hdb)
  exact PyProof.Rows.callWith_builtin1 (thn (ha pos pins s σ H _ I h) fun us s1 ⟨vs, H1, I1, r1, q1⟩ => hc pins s1 σ H1 vs us Q I1 r1 q1) he hpl
end
end L2
namespace HT
open PySem PyProof.Rows
section
open PySem.SeqAt
open PySem.AutoSeq1 (wpAny_loadPart')
open PySem.MeetsSeq PySem.MeetsSeq2 PySem.MeetsSeq3
end
section
variable {prog : Program} {w : World} {A : Around} {E : Value → Shared → Prop} {s : Shared}
def sIx (n d : Nat) : Option Int → Nat
  | none => d
  | some v => if v < 0 then (v + (n : Int)).toNat else min v.toNat n
theorem sIx_none (n d : Nat) : sIx n d none = d := rfl
theorem sIx_nat (n d k : Nat) : sIx n d (some (k : Int)) = min k n := by
  show (if (k : Int) < 0 then ((k : Int) + (n : Int)).toNat else min (k : Int).toNat n) = min k n
  rw [if_neg (by omega), Int.toNat_natCast]
end
end HT
namespace L2
open PySem PySem.Spec PyProof.Rows
abbrev TO := St → Hp → (Option Int → Hp → Prop) → Prop
def PO (X : Cx) (e : Option Expr) (t : TO) : Prop :=
  ∀ (pins : List (Addr × Obj)) (s : Shared) (σ : St) (H : Hp) (Q : Option Int → Hp → Prop), Inv X pins σ H s → t σ H Q →
    wpAny (model X.prog X.w) X.A (evalPart e X.env) (fun u s' => ∃ o H', Inv X pins σ H' s' ∧ IsPart u o ∧ Q o H') X.xe s
def tNoPart : TO := fun _ H Q => Q none H
def tPart (t : TE) : TO := fun σ H Q => t σ H fun x H1 => ∃ i, x = .int i ∧ Q (some i) H1
section
variable {X : Cx} {e : Expr} {te : TE} {lo hi : Option Expr} {tl th : TO} {pos p2 : Pos}
theorem po_none : PO X none tNoPart := by
  intro pins s σ H Q I h
  rw [evalPart_none]
  exact wpAny_pure ⟨none, H, I, .none, h⟩
theorem po_some (h : PE X e te) : PO X (some e) (tPart te) := by
  intro pins s σ H Q I hw
  rw [evalPart_some]
  refine thn (h pins s σ H _ I hw) fun u s1 ⟨x, H1, I1, r1, q1⟩ => ?_
  obtain ⟨i, rfl, q⟩ := q1
  obtain ⟨t, rfl⟩ := r1
  exact ⟨some i, H1, I1, .int i t, q⟩
def SlR (X : Cx) (r : V → Option Int → Option Int → Hp → VK → Prop) : Prop :=
  ∀ (pins : List (Addr × Obj)) (s : Shared) (σ : St) (H : Hp) (x : V) (v vl vu : Value) (lo hi : Option Int) (sl : Addr) (Q : VK), Inv X pins σ H s → RelV x v → s.heap.IsSliceOf sl vl vu .none → IsPart vl lo → IsPart vu hi → r x lo hi H Q →
    ∃ T id, typeLookup (.type T) "__getitem__" = pure (some (.builtin id)) ∧ s.TypeIs v T ∧ wpAny (model X.prog X.w) X.A (getItem v (.ref sl)) (EP X pins σ Q) X.xe s
theorem SlR.or {r r' : V → Option Int → Option Int → Hp → VK → Prop} (h : SlR X r) (h' : SlR X r') : SlR X (fun x lo hi H Q => r x lo hi H Q ∨ r' x lo hi H Q) := by
  intro pins s σ H x v vl vu lo hi sl Q I rx hs pl pu q
  rcases q with q | q
  · exact h pins s σ H x v vl vu lo hi sl Q I rx hs pl pu q
  · exact h' pins s σ H x v vl vu lo hi sl Q I rx hs pl pu q
def tSl (r : V → Option Int → Option Int → Hp → VK → Prop) (te : TE) (tl th : TO) : TE := fun σ H Q => te σ H fun x H1 => tl σ H1 fun l H2 => th σ H2 fun u H3 => r x l u H3 Q
theorem pe_slice {r : V → Option Int → Option Int → Hp → VK → Prop} (hr : SlR X r) (he : PE X e te) (hl : PO X lo tl) (hu : PO X hi th) : PE X (.Subscript e (.Slice lo hi none p2) pos) (tSl r te tl th) := by
  intro pins s σ H Q I h
  refine Subscript_ (thn (he pins s σ H _ I h) fun v s1 ⟨x, H1, I1, r1, q1⟩ => ?_)
  refine wpAny_Slice (thn (hl pins s1 σ H1 _ I1 q1) fun vl s2 ⟨l, H2, I2, pl, q2⟩ => thn (hu pins s2 σ H2 _ I2 q2) fun vu s3 ⟨u, H3, I3, pu, q3⟩ => ?_)
  rw [evalPart_none]
  refine wpAny_pure ?_
  have I4 : Inv X pins σ H3 { s3 with heap := s3.heap.push { cls := .type "slice", data := .fields #[vl, vu, .none] } } := I3.kept (t' := s3.toks) fun b ob q => Heap.get?_push_of_some _ q
  obtain ⟨T, id, hT, ht, hg⟩ := hr pins { s3 with heap := s3.heap.push { cls := .type "slice", data := .fields #[vl, vu, .none] } } σ H3 x v vl vu l u s3.heap.objs.size Q I4 r1 (Heap.IsSliceOf.new ..) pl pu q3
  show wpAny (model X.prog X.w) X.A (subscriptTail e (.Slice lo hi none p2) v (.ref s3.heap.objs.size)) (EP X pins σ Q) X.xe { s3 with heap := s3.heap.push { cls := .type "slice", data := .fields #[vl, vu, .none] } }
  exact tail_any (ops := [.ref s3.heap.objs.size, v]) ht hT hg (by with_unfolding_all rfl)
def cutV (xs : List V) (lo hi : Option Int) : List V := (xs.drop (HT.sIx xs.length 0 lo)).take (HT.sIx xs.length xs.length hi - HT.sIx xs.length 0 lo)
theorem cutV_length (xs : List V) (lo hi : Option Int) : (cutV xs lo hi).length ≤ xs.length := by
  unfold cutV
  rw [List.length_take, List.length_drop]
  omega
end
end L2
namespace L2
open PySem PySem.Spec PyProof.Rows
def ixN (n : Nat) (i : Int) : Option Nat := if 0 ≤ i then (if i < n then some i.toNat else none) else if -(n : Int) ≤ i then some (i + n).toNat else none
def atI {α : Type} (xs : List α) (i : Int) : Option α := (ixN xs.length i).bind fun j => xs[j]?
theorem ixN_seq {n : Nat} {i : Int} {j : Nat} (h : ixN n i = some j) : seqIndex? i n = some j ∧ j < n ∧ -(n : Int) ≤ i ∧ i < n := by
  unfold ixN at h
  by_cases h0 : 0 ≤ i
  · rw [if_pos h0] at h
    by_cases h1 : i < n
    · rw [if_pos h1] at h
      have e : i.toNat = j := Option.some.inj h
      exact ⟨by rw [seqIndex_of h0 h1, e], by omega, by omega, h1⟩
    · rw [if_neg h1] at h; cases h
  · rw [if_neg h0] at h
    by_cases h1 : -(n : Int) ≤ i
    · rw [if_pos h1] at h
      have e : (i + n).toNat = j := Option.some.inj h
      exact ⟨by rw [seqIndex_neg (by omega) h1, e], by omega, h1, by omega⟩
    · rw [if_neg h1] at h; cases h
theorem atI_get {α : Type} {xs : List α} {i : Int} {v : α} (h : atI xs i = some v) : ∃ j, seqIndex? i xs.length = some j ∧ xs[j]? = some v ∧ j < xs.length ∧ -(xs.length : Int) ≤ i ∧ i < xs.length := by
  unfold atI at h
  cases e : ixN xs.length i with
  | none => rw [e] at h; cases h
  | some j =>
    rw [e] at h
    obtain ⟨h1, h2, h3, h4⟩ := ixN_seq e
    exact ⟨j, h1, h, h2, h3, h4⟩
def PlainIx (b : Expr) : Prop := ∀ o i, subscripted b false o i = operate [o, i] (getItem o i)
def IxR (X : Cx) (r : R2) : Prop :=
  ∀ (value slice : Expr) (pins : List (Addr × Obj)) (s : Shared) (σ : St) (H : Hp) (x y : V) (v u : Value) (Q : VK), Inv X pins σ H s → RelV x v → RelV y u → r x y H Q →
    subscripted slice false v u = operate [v, u] (getItem v u) → wpAny (model X.prog X.w) X.A (subscriptTail value slice v u) (EP X pins σ Q) X.xe s
def MtR (X : Cx) (id : String) (r : V → List V → Hp → VK → Prop) : Prop :=
  ∀ (pins : List (Addr × Obj)) (s : Shared) (σ : St) (H : Hp) (x : V) (xs : List V) (v : Value) (us : List Value) (Q : VK), Inv X pins σ H s → RelV x v → Vals xs us → r x xs H Q →
    wpAny (model X.prog X.w) X.A (call (.builtin id) (v :: us)) (EP X pins σ Q) X.xe s
section
variable {X : Cx} {a b : Expr} {ta tb : TE} {pos : Pos}
theorem IxR.or {r r' : R2} (h : IxR X r) (h' : IxR X r') : IxR X (fun x y H Q => r x y H Q ∨ r' x y H Q) := by
  intro value slice pins s σ H x y v u Q I rx ry q hs
  rcases q with q | q
  · exact h value slice pins s σ H x y v u Q I rx ry q hs
  · exact h' value slice pins s σ H x y v u Q I rx ry q hs
theorem MtR.or {id : String} {r r' : V → List V → Hp → VK → Prop} (h : MtR X id r) (h' : MtR X id r') : MtR X id (fun x xs H Q => r x xs H Q ∨ r' x xs H Q) := by
  intro pins s σ H x xs v us Q I rx rs q
  rcases q with q | q
  · exact h pins s σ H x xs v us Q I rx rs q
  · exact h' pins s σ H x xs v us Q I rx rs q
theorem pe_ix {r : R2} (hr : IxR X r) (ha : PE X a ta) (hb : PE X b tb) (hs : PlainIx b) : PE X (.Subscript a b pos) (tOp r ta tb) := by
  intro pins s σ H Q I h
  exact Subscript_ (binT ha hb I h fun v u s2 x y H2 I2 rx ry q => hr a b pins s2 σ H2 x y v u Q I2 rx ry q (hs _ _))
def rIxL (K : PySem.W.Frag) : R2 := fun x y H Q => ∃ p xs i v, x = .ref p ∧ y = .int i ∧ SqL K H p xs ∧ atI xs i = some v ∧ Q v H
def rIxT (K : PySem.W.Frag) : R2 := fun x y H Q => ∃ p xs i v, x = .ref p ∧ y = .int i ∧ SqT K H p xs ∧ atI xs i = some v ∧ Q v H
def rIxS : R2 := fun x y H Q => ∃ z i c, x = .str z ∧ y = .int i ∧ z.length ≤ sizeLine ∧ atI z.cps.toList i = some c ∧ Q (.str ⟨#[c]⟩) H
theorem ix_list : IxR X (rIxL X.K) := by
  intro value slice pins s σ H x y v u Q I rx ry h hs
  obtain ⟨p, xs, i, z, rfl, rfl, hq, he, q⟩ := h
  cases rx
  obtain ⟨t, rfl⟩ := ry
  obtain ⟨its, r, pl, hz⟩ := I.list hq
  obtain ⟨j, h1, h2, h3, h4, h5⟩ := atI_get he
  obtain ⟨w, ew, rw'⟩ := r.get h2
  have hl := r.length
  have hn := line63
  have fin : EP X pins σ Q w s := ⟨z, H, I, rw', q⟩
  by_cases h0 : 0 ≤ i
  · have hj : i.toNat = j := by
      rw [seqIndex_of h0 h5] at h1
      exact Option.some.inj h1
    exact item_listR pl.isList h0 (by omega) (by rw [hj]; simpa using ew) fin hs
  · have hj : (i + (its.toArray.size : Int)).toNat = j := by
      rw [seqIndex_neg (by omega) h4] at h1
      rw [List.size_toArray, ← hl]
      exact Option.some.inj h1
    exact subscriptTail_builtinR (x := w) pl.isList.typeIs slot_list_getitem.lookup
      (wpAny_getItem_list_neg (Q := fun r s' => r = w ∧ EP X pins σ Q r s') pl.isList (by omega) (by rw [List.size_toArray] <;> omega) (by omega) (by rw [hj]; simpa using ew) ⟨rfl, fin⟩) hs
theorem ix_tup : IxR X (rIxT X.K) := by
  intro value slice pins s σ H x y v u Q I rx ry h hs
  obtain ⟨p, xs, i, z, rfl, rfl, hq, he, q⟩ := h
  cases rx
  obtain ⟨t, rfl⟩ := ry
  obtain ⟨its, r, pl, hz⟩ := I.tuple hq
  obtain ⟨j, h1, h2, h3, h4, h5⟩ := atI_get he
  obtain ⟨w, ew, rw'⟩ := r.get h2
  have hl := r.length
  have hn := line63
  have fin : EP X pins σ Q w s := ⟨z, H, I, rw', q⟩
  exact subscriptTail_builtinR (x := w) pl.typeIs slot_tuple_getitem.lookup
    (getItem_tuple (j := j) (Q := fun r s' => r = w ∧ EP X pins σ Q r s') pl (by omega) (by omega) (by rw [List.size_toArray, ← hl]; exact h1) (by simpa using ew) ⟨rfl, fin⟩) hs
theorem ix_str : IxR X rIxS := by
  intro value slice pins s σ H x y v u Q I rx ry h hs
  obtain ⟨z, i, c, rfl, rfl, hz, he, q⟩ := h
  obtain ⟨t, rfl⟩ := rx
  obtain ⟨t', rfl⟩ := ry
  obtain ⟨j, h1, h2, h3, h4, h5⟩ := atI_get he
  have hl : z.cps.toList.length = z.length := by simp [Str.length]
  rw [hl] at h1 h4 h5
  have hn := line63
  exact tail_any (typeIs_str s z t) slot_str_getitem.lookup (getItem_str (c := c) (by
    have e1 : decide (i < -(2 ^ 63 : Int)) = false := decide_eq_false (by omega)
    have e2 : decide (i ≥ 2 ^ 63) = false := decide_eq_false (by omega)
    rw [e1, e2, Bool.or_false]) (by rw [h1]; simpa using h2) ⟨.str ⟨#[c]⟩, H, I.tok _, ⟨_, rfl⟩, q⟩) hs
def rIx (K : PySem.W.Frag) : R2 := fun x y H Q => rIxL K x y H Q ∨ rIxT K x y H Q ∨ rIxS x y H Q
theorem ix_seq : IxR X (rIx X.K) := ix_list.or (ix_tup.or ix_str)
theorem Inv.lst {pins : List (Addr × Obj)} {σ : St} {H : Hp} {s : Shared} {p : Addr} {xs : List V} (I : Inv X pins σ H s) (h : H p = some (.lst xs)) :
    ∃ (its : List Value) (n : Nat), Vals xs its ∧ s.heap.get? p = some { cls := .type "list", data := .seq its.toArray n } ∧ xs.length ≤ sizeLine := by
  obtain ⟨z, its, n, r, e⟩ := I.hok p _ h
  exact ⟨its, n, r, e, z⟩
theorem slice_bounds (lo hi : Option Int) (n : Nat) : (sliceBounds lo hi none n).1 = ((HT.sIx n 0 lo : Nat) : Int) ∧ (sliceBounds lo hi none n).2.1 = ((HT.sIx n n hi : Nat) : Int) ∧ (sliceBounds lo hi none n).2.2 = 1 := by
  refine ⟨?_, ?_, rfl⟩
  · cases lo with
    | none => simp [sliceBounds, HT.sIx]
    | some i =>
      simp only [sliceBounds, HT.sIx, Option.getD_none, show (1 : Int) > 0 by decide, if_true]
      by_cases h : i < 0
      · simp only [h, if_true] <;> omega
      · simp only [h, if_false] <;> omega
  · cases hi with
    | none => simp [sliceBounds, HT.sIx]
    | some i =>
      simp only [sliceBounds, HT.sIx, Option.getD_none, show (1 : Int) > 0 by decide, if_true]
      by_cases h : i < 0
      · simp only [h, if_true] <;> omega
      · simp only [h, if_false] <;> omega
theorem slicePick_cut (its : List Value) (lo hi : Option Int) : slicePick its.toArray lo hi none = ((its.drop (HT.sIx its.length 0 lo)).take (HT.sIx its.length its.length hi - HT.sIx its.length 0 lo)).toArray := by
  obtain ⟨h1, h2, h3⟩ := slice_bounds lo hi its.toArray.size
  unfold slicePick
  rw [h1, h2, h3]
  simp only [sliceRange_one, pick_run, List.size_toArray] <;> rfl
def rSlL (K : PySem.W.Frag) : V → Option Int → Option Int → Hp → VK → Prop := fun x lo hi H Q => ∃ a xs, x = .ref a ∧ SqL K H a xs ∧ ∀ p, H p = none → Q (.ref p) (upd H p (.lst (cutV xs lo hi)))
theorem sl_list : SlR X (rSlL X.K) := by
  intro pins s σ H x v vl vu lo hi sl Q I rx hs pl pu h
  obtain ⟨a, xs, rfl, hx, q⟩ := h
  cases rx
  obtain ⟨its, r, ht, hz⟩ := I.list hx
  have hlen := r.length
  refine ⟨"list", _, slot_list_getitem.lookup, ht.isList.typeIs, ?_⟩
  refine wpAny_getItem_list_slice ht.isList hs pl pu .none (by simp) ?_ (by rw [List.size_toArray] <;> omega)
  rw [slicePick_cut, ← hlen]
  refine ⟨.ref s.heap.objs.size, _, I.laid (t' := s.toks) (o := .lst (cutV xs lo hi)) (fun b ob q => Heap.get?_push_of_some _ q) (Nat.le_refl _) ?_, rfl, q _ (I.hok.fresh (Nat.le_refl _))⟩
  exact ⟨Nat.le_trans (cutV_length xs lo hi) hz, _, 0, (r.drop (HT.sIx xs.length 0 lo)).take (HT.sIx xs.length xs.length hi - HT.sIx xs.length 0 lo), Heap.get?_push_size _ rfl⟩
theorem CallR.or {f : Value} {r r' : List V → Hp → VK → Prop} (h : CallR X f r) (h' : CallR X f r') : CallR X f (fun xs H Q => r xs H Q ∨ r' xs H Q) := by
  intro pins s σ H xs us Q I rs q
  rcases q with q | q
  · exact h pins s σ H xs us Q I rs q
  · exact h' pins s σ H xs us Q I rs q
variable {o e : Expr} {es : List Expr} {to : TE} {t : TA} {name : Str} {apos cpos : Pos} {T id : String} {r : V → List V → Hp → VK → Prop}
end
end L2
namespace L2
open PySem PySem.Spec PyProof.Rows
theorem Vals.one : ∀ {x : V} {us : List Value}, Vals [x] us → ∃ u, us = [u] ∧ RelV x u
  | _, _, .cons r .nil => ⟨_, rfl, r⟩
theorem Vals.two : ∀ {x y : V} {us : List Value}, Vals [x, y] us → ∃ u v, us = [u, v] ∧ RelV x u ∧ RelV y v
  | _, _, _, .cons r (.cons q .nil) => ⟨_, _, rfl, r, q⟩
theorem Vals.zero : ∀ {us : List Value}, Vals [] us → us = []
  | _, .nil => rfl
theorem Vals.eraseIdx : ∀ {xs : List V} {us : List Value} (i : Nat), Vals xs us → Vals (xs.eraseIdx i) (us.eraseIdx i)
  | _, _, _, .nil => .nil
  | _, _, 0, .cons _ t => t
  | _, _, i + 1, .cons r t => .cons r (Vals.eraseIdx i t)
section
variable {X : Cx} {pins : List (Addr × Obj)} {σ : St} {H : Hp} {s : Shared} {l b : Addr} {xs ys zs : List V}
theorem Inv.lnew {its : List Value} {t' : Nat} (I : Inv X pins σ H s) (hv : Vals ys its) (hz : ys.length ≤ sizeLine) :
    Inv X pins σ (upd H s.heap.objs.size (.lst ys)) { s with heap := s.heap.push { cls := .type "list", data := .seq its.toArray }, toks := t' } :=
  I.laid (fun _ _ q => Heap.get?_push_of_some _ q) (Nat.le_refl _) ⟨hz, its, 0, hv, Heap.get?_push_size _ rfl⟩
theorem Inv.fresh (I : Inv X pins σ H s) : H s.heap.objs.size = none := I.hok.fresh (Nat.le_refl _)
theorem Inv.lstM (I : Inv X pins σ H s) (hH : H l = some (.lst xs)) : xs.length ≤ sizeLine ∧ ∃ (its : List Value) (n : Nat), Vals xs its ∧ xs.length = its.length ∧ s.heap.get? l = some { cls := .type "list", data := .seq its.toArray n } := by
  obtain ⟨z, its, n, r, e⟩ := I.hok l _ hH
  exact ⟨z, its, n, r, r.length, e⟩
end
section
variable {X : Cx}
end
section
variable {prog : Program} {w : World} {A : Around} {E : Value → Shared → Prop} {s : Shared}
end
section
variable {X : Cx}
end
end L2
namespace Att
open PySem PySem.W PySem.Calls PyProof.Rows
theorem ints_of_wellAll {P : Params} {h : Heap} : ∀ (ns : List Int) (vs : List Value), WellAll P h vs (ns.map WData.int) → IntsAre vs ns := by
  intro ns
  induction ns with
  | nil =>
    intro vs w
    rw [List.map_nil] at w
    cases w
    exact .nil
  | cons n ns ih =>
    intro vs w
    rw [List.map_cons] at w
    cases w with
    | cons a b =>
      cases a
      exact .cons _ _ (ih _ b)
theorem script_of {l : OpenLaw} {n : Nat} (hn : l.most = some n) {P : Params} {h : Heap} {args : List WData} {vals : List Value}
    (hpre : l.row.toRowW.claim.pre args = true) (hwl : WellAll P h vals args) :
    ∃ a vs ns, vals = [Value.ref a] ∧ args = [WData.list (ns.map WData.int)] ∧ h.get? a = some { cls := .type "list", data := .seq vs.toArray } ∧ IntsAre vs ns ∧ ns.length ≤ n := by
  have hsh : WShape.hasAll [] args [.list .int] = true := (pre_splitW hpre).1
  have hc : l.pre.holds [] { args := args } = true := (pre_splitW hpre).2
  obtain ⟨d, r, rfl, h1, h2⟩ := hasAllW_cons hsh
  obtain rfl := hasAllW_nil h2
  obtain ⟨xs, rfl, h3⟩ := hasW_list h1
  obtain ⟨ns, rfl⟩ := items_int h3
  have hlen : ns.length ≤ n := by
    unfold OpenLaw.pre at hc
    have h4 : (WTm.not (.lt (.lit (.int (n : Int))) (.len (.arg 0)))).holds [] { args := [.list (ns.map .int)] } = true := by
      have h4 := (holds_andW hc).1
      rw [hn] at h4
      exact h4
    have h5 := condW_of h4 (w_not (w_lt w_lit (w_len_list (w_arg rfl))))
    rw [List.length_map] at h5
    refine Nat.le_of_not_lt fun q => ?_
    have q' : (n : Int) < ((ns.length : Nat) : Int) := by omega
    first
      | (rw [decide_eq_true q'] at h5; exact absurd h5 (by decide))
      | (simp at h5; omega)
  cases hwl with
  | cons w1 w2 =>
    cases w2
    cases w1 with
    | list ho hall => exact ⟨_, _, ns, rfl, rfl, ho, ints_of_wellAll ns _ hall, hlen⟩
theorem post_true (l : OpenLaw) (args : List WData) : l.row.toRowW.claim.post args (.bool true) args = true :=
  postW_of (r := l.row.toRowW) (X := (true == true))
    (show WShape.has [] (.bool true) .bool = true by first | rfl | decide | simp [WShape.has, WShape.arms, WShape.armsAll])
    (show (WTm.eq .res (.lit (.bool true))).value [] { args := args, res := some (.bool true), after := args } = some (.bool (true == true)) from w_eq_bool (w_res rfl) w_lit) rfl
theorem attach_call {l : OpenLaw} {n : Nat} {q : Program} {loose : List Str} {XP : (Str → Option Value) → Heap → Prop} {YP : World → Heap → Prop} {d : DefRec}
    (hn : l.most = some n) (hdf : d.params.defaults = [])
    (call : ∀ (w : World) (s₀ s₁ : Shared) (mg mb : Str → Option Value) (fa : Addr) (o : Obj) (pm cd doc : Value) (a : Addr) (vs : List Value) (ns : List Int),
      Ground q loose [] XP w s₀ mg mb s₁.heap → YP w s₁.heap →
      s₁.heap.get? fa = some o → o.data = .func (docDef d.name d.params d.body d.scope pm cd doc) → s₁.heap.CodeRec cd d.name → mg d.name = some (.ref fa) →
      s₁.heap.get? a = some { cls := .type "list", data := .seq vs.toArray } → IntsAre vs ns → ns.length ≤ n → s₁.gens = #[] →
      codeAny (model l.prog w) callerA (.call (.ref fa) ⟨[.ref a], []⟩) (fun r s' => r = .ok (.ret (.bool true)) ∧ OldK s₁.heap s'.heap ∧ s'.os = s₁.os ∧ AllBare s'.gens) s₁) :
    WalkO q loose XP YP l.row.toRowW d [] (fun f vs => PySem.call f vs) := by
  intro w s₀ s₁ mg mb G Y fa o pm cd doc dV kV ho hd hcd hD hmg hg args vals as hpre hlay hrd hwl hlo
  obtain rfl : dV = .none := Dflts.none hD hdf
  obtain rfl : kV = .none := Dflts.noKw hD
  obtain ⟨a, vs, ns, rfl, rfl, hobj, hints, hlen⟩ := script_of hn hpre hwl
  refine enter_call (codeAny_mono (call w s₀ s₁ mg mb fa o pm cd doc a vs ns G Y ho (fd_plain hd) hcd hmg hobj hints hlen hg) fun r s' hq => ?_)
  obtain ⟨rfl, h2, h3, h4⟩ := hq
  exact ⟨.inl ⟨.bool true, .bool true, [], rfl, fun _ => rfl, .bool true, post_true l _, fun _ => ⟨List.Pairwise.nil, fun _ hm => (nomatch hm)⟩⟩, h2, h3, h4⟩
section
variable {prog : Program} {w : World} {A : Around} {E : Value → Shared → Prop} {s : Shared} {K : Frag}
end
end Att
namespace L2
open PySem PySem.Spec PyProof.Rows
theorem vals_ints : ∀ {vs : List Value} {ns : List Int}, IntsAre vs ns → Vals (ns.map V.int) vs
  | _, _, .nil => .nil
  | _, _, .cons n t h => .cons ⟨t, rfl⟩ (vals_ints h)
def Only (H : Hp) : Prop := ∀ b, H b = none ∨ ∃ o xs, H b = some (.frz o (.lst xs))
theorem law_call {P : Program} {w : World} {K : PySem.W.Frag} {mg mb : Str → Option Value} {CX : CXT} {k : Nat} {fa a : Addr} {fd : FuncData} {x : Str} {sp : Sp} {s₁ : Shared} {vs : List Value} {ns : List Int}
    (KX : K.In s₁.heap) (hns : s₁.heap.Ns mainGlobals mg) (hb : s₁.heap.Ns builtinsNs mb) (hbb : ∀ x : Str, x ≠ "__name__" → mb x = bootBuiltins x) (hlim : s₁.heap.NoLimit) (hseer : s₁.heap.NoSeer) (hg : s₁.gens = #[])
    (ha : s₁.heap.get? a = some { cls := .type "list", data := .seq vs.toArray }) (hi : IntsAre vs ns) (hl : ns.length ≤ sizeLine) (hr : Room k callerA)
    (F : ∀ base : Heap, K.In base → base.Ns mainGlobals mg → FnOk P w K mg base CX k fa fd [x] sp) (hbind : ∀ (s : Shared) (u : Value), BindsTo s fd ⟨[u], []⟩ [(x, u)])
    (hsp : ∀ H : Hp, Only H → SqL K H a (ns.map V.int) → sp [.ref a] H (fun v _ => v = .bl true) fun _ _ _ => False)
    (hCX : ∀ H e s', CX [] H s₁ (fun _ _ _ => False) e s' → False) :
    codeAny (model P w) callerA (.call (.ref fa) ⟨[.ref a], []⟩) (fun r s' => r = .ok (.ret (.bool true)) ∧ OldK s₁.heap s'.heap ∧ s'.os = s₁.os ∧ AllBare s'.gens) s₁ := by
  have rv := vals_ints hi
  have lenV := hi.length
  have core : ∀ H : Hp, Only H → SqL K H a (ns.map V.int) → HOk P w H s₁.heap → (∀ b, H b ≠ none → b = a) → (H a ≠ none → K.lookup a = none) →
      codeAny (model P w) callerA (.call (.ref fa) ⟨[.ref a], []⟩) (fun r s' => r = .ok (.ret (.bool true)) ∧ OldK s₁.heap s'.heap ∧ s'.os = s₁.os ∧ AllBare s'.gens) s₁ := by
    intro H hO hS hok hA hK
    have base_of : ∀ {b : Addr} {o : Obj}, s₁.heap.get? b = some o → H b = none → (hidT s₁.heap H).get? b = some o := fun e n => hidT_get e n
    have noA : ∀ {b : Addr} {o : Obj} {es : Array DictEntry} {ep : Nat}, s₁.heap.get? b = some o → o.data = .dict es ep → H b = none := fun {b o es ep} e d => by
      cases q : H b with
      | none => rfl
      | some u =>
        have e' : b = a := hA b (by rw [q]; simp)
        subst e'
        rw [ha] at e; cases e
        have d' : Data.seq vs.toArray _ = Data.dict es ep := d
        cases d'
    have nsK : ∀ {b : Addr} {m : Str → Option Value}, s₁.heap.Ns b m → (hidT s₁.heap H).Ns b m := fun {b m} ⟨o, es, ep, e, d, r⟩ => ⟨o, es, ep, base_of e (noA e d), d, r⟩
    have hKb : K.In (hidT s₁.heap H) := fun b o e => base_of (KX b o e) (by
      cases q : H b with
      | none => rfl
      | some u =>
        have e' : b = a := hA b (by rw [q]; simp)
        subst e'
        rw [hK (by rw [q]; simp)] at e; cases e)
    have noM : ∀ {b : Addr} {o : Obj}, s₁.heap.get? b = some o → o.cls = .type "module" → H b = none := fun {b o} e d => by
      cases q : H b with
      | none => rfl
      | some u =>
        have e' : b = a := hA b (by rw [q]; simp)
        subst e'
        rw [ha] at e; cases e
        exact absurd (show Value.type "list" = Value.type "module" from d) (by decide)
    have hN : (hidT s₁.heap H).NoSeer := ⟨let ⟨mc, x, y⟩ := hseer.statics; ⟨mc, nsK x, y⟩, let ⟨mc, x, y⟩ := hseer.mods; ⟨mc, nsK x, y⟩, let ⟨mc, x, y⟩ := hseer.imp; ⟨mc, nsK x, y⟩, let ⟨mg', bm, ob, x, y, z, u, v⟩ := hseer.main; ⟨mg', bm, ob, nsK x, y, base_of z (noM z u), u, v⟩⟩
    have hM : Mod K mg (hidT s₁.heap H) := ⟨hKb, nsK hns, ⟨mb, nsK hb, hbb⟩, (let ⟨mc, h1, h2⟩ := hlim; ⟨mc, nsK h1, h2⟩), hN⟩
    have e0 : Env0 P w K mg (hidT s₁.heap H) callerA [] s₁ H := ⟨rfl, hM, fun b o e => of_hidT e, Nat.le_of_eq (hidT_size _ _), trivial, fun b hb => absurd (show b ∈ ([] : List Addr) from hb) (by simp), hok, .of_eq hg⟩
    refine codeAny_mono ((F _ hKb (nsK hns)).run callerA [] s₁ H ⟨[.ref a], []⟩ [.ref a] [.ref a] _ _ hr e0 (hbind s₁ (.ref a)) (.cons rfl .nil) (hsp H hO hS)) fun r s' h => ?_
    cases r with
    | error e => exact (hCX H e s' h).elim
    | ok fl =>
      cases fl with
      | next => exact False.elim h
      | brk => exact False.elim h
      | cont => exact False.elim h
      | ret u =>
        obtain ⟨v, H', os, bare, un, hok', r', q⟩ := h
        have q' : v = .bl true := q
        subst q'
        obtain rfl : u = Value.bool true := r'
        refine ⟨rfl, OldK.of_keep fun b o e => ?_, os, bare⟩
        cases q : H b with
        | none => exact un.keep b o e q (by intro z; exact absurd (show b ∈ ([] : List Addr) from z) (by simp)) (by simp)
        | some u =>
          rcases hO b with z | ⟨ob, xs, z⟩
          · rw [q] at z; cases z
          · have z2 := un.frzs b ob _ z
            obtain ⟨e1, _⟩ := hok b _ z
            obtain ⟨e2, _⟩ := hok' b _ z2
            rw [e] at e1; cases e1
            exact e2
  cases hk : K.lookup a with
  | some o =>
    have e := KX a o hk
    rw [ha] at e
    cases e
    refine core (fun _ => none) (fun _ => .inl rfl) (.inr ⟨_, vs.toArray, _, hk, rfl, rfl, rfl, by rw [List.size_toArray, lenV]; exact hl, by simpa using rv⟩) (fun b u z => by have z' : (none : Option HO) = some u := z; cases z') (fun b z => absurd rfl z) fun z => absurd rfl z
  | none =>
    refine core (fun b => if b = a then some (.frz { cls := .type "list", data := .seq vs.toArray } (.lst (ns.map V.int))) else none) (fun b => ?_) (.inl (.inr ⟨{ cls := .type "list", data := .seq vs.toArray }, if_pos rfl⟩)) (fun b u z => ?_) (fun b z => ?_) fun _ => hk
    · by_cases hb : b = a
      · exact .inr ⟨_, _, if_pos hb⟩
      · exact .inl (if_neg hb)
    · by_cases hb : b = a
      · have z' := (if_pos hb).symm.trans z
        cases z'
        subst hb
        exact ⟨ha, by rw [List.length_map]; exact hl, vs, _, rv, ha⟩
      · have z' := (if_neg hb).symm.trans z
        cases z'
    · by_cases hb : b = a
      · exact hb
      · exact absurd (if_neg hb) z
end L2
namespace L2
open PySem PySem.Spec PyProof.Rows
theorem walk_of {l : PySem.W.OpenLaw} {n k : Nat} {q : Program} {loose : List Str} {XP : (Str → Option Value) → Heap → Prop} {YP : World → Heap → Prop} {d : DefRec} {K : Params → PySem.W.Frag} {CX : World → CXT} {sp : World → Sp} {x : Str}
    (hn : l.most = some n) (hn2 : n ≤ sizeLine) (hdf : d.params.defaults = []) (hr : Room k callerA) (hi : importsNone q = true)
    (hY : ∀ (w : World) (h : Heap), YP w h → (K w.params).In h)
    (F : ∀ (w : World) (mg : Str → Option Value) (fa : Addr) (h : Heap), (K w.params).In h → h.Ns mainGlobals mg → mg d.name = some (.ref fa) →
      ∃ fd : FuncData, (∀ (s : Shared) (u : Value), BindsTo s fd ⟨[u], []⟩ [(x, u)]) ∧
        ∀ base : Heap, (K w.params).In base → base.Ns mainGlobals mg → FnOk l.prog w (K w.params) mg base (CX w) k fa fd [x] (sp w))
    (hsp : ∀ (w : World) (H : Hp) (a : Addr) (ns : List Int), ns.length ≤ n → Only H → SqL (K w.params) H a (ns.map V.int) → sp w [.ref a] H (fun v _ => v = .bl true) fun _ _ _ => False)
    (hCX : ∀ (w : World) (H : Hp) (s : Shared) (e : Value) (s' : Shared), CX w [] H s (fun _ _ _ => False) e s' → False) :
    PySem.W.WalkO q loose XP YP l.row.toRowW d [] (fun f vs => PySem.call f vs) := by
  refine Att.attach_call hn hdf fun w s₀ s₁ mg mb fa o pm cd doc a vs ns G Y ho hd hcd hmg hobj hints hlen hg => ?_
  have KX := hY w _ Y
  obtain ⟨fd, hb, hF⟩ := F w mg fa _ KX G.T.g hmg
  exact law_call KX G.T.g G.T.b G.T.builtins G.T.nolimit (G.T.seer hi) hg hobj hints (Nat.le_trans hlen hn2) hr hF hb (fun H hO hS => hsp w H a ns hlen hO hS) fun H e s' => hCX w H s₁ e s'
end L2
namespace L2
open PySem PySem.Spec PyProof.Rows
def defArgs (s : Stmt) : Arguments := match s with
  | .FunctionDef _ a _ _ _ _ _ _ _ _ => a
  | _ => { posonlyargs := [], args := [], vararg := none, kwonlyargs := [], kw_defaults := [], kwarg := none, defaults := [] }
def defBody (s : Stmt) : List Stmt := match s with
  | .FunctionDef _ _ b _ _ _ _ _ _ _ => b
  | _ => []
def defScope (s : Stmt) : Scope := match s with
  | .FunctionDef _ _ _ _ _ _ sc _ _ _ => sc
  | _ => { kind := .function, names := [], isGenerator := false, isCoroutine := false }
abbrev CX0 : CXT := fun _ _ _ _ _ _ => False
abbrev E0 : XK := fun _ _ _ => False
structure Fun (K : PySem.W.Frag) (x qual : Str) (st : Stmt) (f : Addr) (fd : FuncData) : Prop where
  ex : ∃ (oc : Value) (od : Option Addr) (kV doc pm : Value) (an : Option Addr) (cdv ct : Value) (osl : Array (Option Value)),
    fd = PySem.W.fnOf x qual (defArgs st) (defBody st) (defScope st) .none kV doc pm an cdv ct ∧ K.lookup f = some ⟨oc, od, .func fd, osl⟩ ∧ PySem.W.codeIn K cdv qual = true
  kp : PySem.W.keepIn K (.ref f) = true
section
variable {P : Program} {w : World} {K : PySem.W.Frag} {mg : Str → Option Value} {base : Heap}
theorem Fun.ok {x qual : Str} {st : Stmt} {f : Addr} {fd : FuncData} {N ps : List Str} {k : Nat} {sp : Sp} (F : Fun K x qual st f fd) (S : FnScope N ps (defScope st)) (len : ∀ vs H Q E, sp vs H Q E → vs.length = ps.length)
    (hbody : ∀ (cdv : Value) (A : Around) (outer : List Env) (s : Shared) (H : Hp) (vs : List V) (Q : VK) (E : XK), Room k (A.deeper (envOfC qual (defScope st) s.heap.objs.size f cdv)) → sp vs H Q E →
      ∃ t, PSs (cxOf CX0 P w K mg base N qual (defScope st) f cdv A outer s H E).nox (defBody st) t ∧ t { nx := fun _ H' => Q .non H', rt := Q } (start N vs) H) : FnOk P w K mg base CX0 (k + 1) f fd ps sp := by
  obtain ⟨oc, od, kV, doc, pm, an, cdv, ct, osl, rfl, lk, hcd⟩ := F.ex
  refine fn_of lk hcd S len fun A outer s H vs Q E hr hsp => ?_
  obtain ⟨t, h, q⟩ := hbody cdv A outer s H vs Q E hr hsp
  exact ⟨t, h.nox, q⟩
theorem Fun.binds {x qual : Str} {st : Stmt} {f : Addr} {fd : FuncData} {ps : List Str} (F : Fun K x qual st f fd)
    (h : ∀ (kV doc pm : Value) (an : Option Addr) (cdv ct : Value) (us : List Value), us.length = ps.length → bindArgs (PySem.W.fnOf x qual (defArgs st) (defBody st) (defScope st) .none kV doc pm an cdv ct) ⟨us, []⟩ = pure (ps.zip us)) : Binds K fd ps [] := by
  obtain ⟨oc, od, kV, doc, pm, an, cdv, ct, osl, rfl, lk, hcd⟩ := F.ex
  exact .all (h kV doc pm an cdv ct)
theorem fun_mk {x qual : Str} {st : Stmt} {f : Addr} {oc : Value} {od an : Option Addr} {osl : Array (Option Value)} {kV doc pm cdv ct : Value} (l : K.lookup f = some ⟨oc, od, .func (PySem.W.fnOf x qual (defArgs st) (defBody st) (defScope st) .none kV doc pm an cdv ct), osl⟩)
    (c : PySem.W.codeIn K cdv qual = true) (k : PySem.W.keepIn K (.ref f) = true) : Fun K x qual st f (PySem.W.fnOf x qual (defArgs st) (defBody st) (defScope st) .none kV doc pm an cdv ct) := ⟨⟨oc, od, kV, doc, pm, an, cdv, ct, osl, rfl, l, c⟩, k⟩
end
section
variable {X : Cx}
theorem pv (i : Nat) {x : Str} {pos : Pos} (hN : X.N[i]? = some x := by rfl) (hv : Vis X.env.scope x := by first | exact Or.inl rfl | exact Or.inr (Or.inl rfl) | exact Or.inr (Or.inr rfl)) (hd : (x == ("__debug__" : Str)) = false := by decide)
    (hcd : (x == ("__classdict__" : Str)) = false := by decide) : PE X (.Name x pos) (tVar i) := pe_var hN hv hd hcd
end
theorem iteF {A B : Prop} (h : B) : if false = true then A else B := by
  rw [if_neg Bool.false_ne_true]
  exact h
theorem iteT {A B : Prop} (h : A) : if true = true then A else B := by
  rw [if_pos rfl]
  exact h
def Same (H H' : Hp) : Prop := ∀ b o, H b = some o → H' b = some o
theorem Same.refl (H : Hp) : Same H H := fun _ _ h => h
theorem Same.trans {H H1 H2 : Hp} (a : Same H H1) (b : Same H1 H2) : Same H H2 := fun c o h => b c o (a c o h)
theorem Same.free {H H' : Hp} (e : Same H H') {l : Addr} (h : H' l = Option.none) : H l = Option.none := by
  cases q : H l with
  | none => rfl
  | some o =>
    rw [e l o q] at h
    cases h
theorem Same.seq {K : PySem.W.Frag} {H H' : Hp} {a : Addr} {xs : List V} (e : Same H H') (h : SqL K H a xs) : SqL K H' a xs := by
  rcases h with (h | ⟨o, h⟩) | h
  · exact .inl (.inl (e _ _ h))
  · exact .inl (.inr ⟨o, e _ _ h⟩)
  · exact .inr h
end L2
set_option maxRecDepth 100000
set_option maxHeartbeats 4000000
namespace L2
open PySem PySem.Spec PyProof.Rows
def closOf (env : Env) : List (Str × NameKind) → List (Str × Addr) → List (Str × Addr)
  | [], cs => cs
  | (n, k) :: r, cs => if k == .free then closOf env r ((n, (env.cells.lookup n).getD 0) :: cs) else closOf env r cs
theorem clos_go {env : Env} : ∀ (names : List (Str × NameKind)) (cs : List (Str × Addr)), (∀ n, (n, NameKind.free) ∈ names → ∃ c, env.cells.lookup n = some c) →
    (forIn names cs fun (x : Str × NameKind) (r : List (Str × Addr)) => (if (x.2 == NameKind.free) = true then do
        let a ← cellOf env x.1
        pure (ForInStep.yield ((x.1, a) :: r)) else pure (ForInStep.yield r) : Sem (ForInStep (List (Str × Addr))))) = pure (closOf env names cs)
  | [], cs, _ => rfl
  | (n, k) :: r, cs, h => by
    rw [List.forIn_cons]
    by_cases hk : (k == NameKind.free) = true
    · have hk' : k = .free := by simpa using hk
      subst hk'
      obtain ⟨c, hc⟩ := h n List.mem_cons_self
      simp only [hk, if_true, closOf, cellOf, hc, pure_bind, Option.getD_some]
      exact clos_go r _ fun m hm => h m (List.mem_cons_of_mem _ hm)
    · simp only [hk, if_false, closOf, pure_bind]
      exact clos_go r cs fun m hm => h m (List.mem_cons_of_mem _ hm)
theorem closureFor_of {scope : Scope} {env : Env} (h : ∀ n, (n, NameKind.free) ∈ scope.names → ∃ c, env.cells.lookup n = some c) : closureFor scope env = pure (closOf env scope.names []) := by
  have := clos_go scope.names [] h
  simp only [closureFor]
  rw [← this]
  exact bind_pure _
def CapsOk (X : Cx) (scope : Scope) : List Str → List Nat → Prop
  | [], [] => True
  | x :: xs, j :: js => X.N[j]? = some x ∧ (X.env.scope.names.lookup x = some .cell ∨ X.env.scope.names.lookup x = some .free) ∧ scope.names.lookup x = some .free ∧ CapsOk X scope xs js
  | _, _ => False
theorem CapsOk.get {X : Cx} {scope : Scope} : ∀ {xs : List Str} {js : List Nat} {i : Nat} {x : Str}, CapsOk X scope xs js → xs[i]? = some x →
    ∃ j, js[i]? = some j ∧ X.N[j]? = some x ∧ (X.env.scope.names.lookup x = some .cell ∨ X.env.scope.names.lookup x = some .free) ∧ scope.names.lookup x = some .free
  | [], _, _, _, _, e => by simp at e
  | _ :: _, [], _, _, h, _ => h.elim
  | y :: ys, j :: js, 0, x, h, e => by
    simp at e; subst e
    exact ⟨j, rfl, h.1, h.2.1, h.2.2.1⟩
  | y :: ys, j :: js, i + 1, x, h, e => by
    obtain ⟨j', e1, r⟩ := CapsOk.get (i := i) (x := x) h.2.2.2 (by simpa using e)
    exact ⟨j', by simpa using e1, r⟩
theorem CapsOk.length {X : Cx} {scope : Scope} : ∀ {xs : List Str} {js : List Nat}, CapsOk X scope xs js → xs.length = js.length
  | [], [], _ => rfl
  | [], _ :: _, h => h.elim
  | _ :: _, [], h => h.elim
  | _ :: _, _ :: _, h => by rw [List.length_cons, List.length_cons, CapsOk.length h.2.2.2]
section
variable {X : Cx}
structure CompSc (X : Cx) (scope : Scope) (own cap : List Str) (caps : List Nat) : Prop where
  kind : scope.kind = .function
  cell : ∀ y ∈ scope.names, y.2 ≠ .cell
  nm : ∀ y ∈ scope.names, y.2 = .local → scope.names.lookup y.1 = some .local
  fr : ∀ y ∈ scope.names, y.2 = .free → y.1 ∈ cap
  caps : CapsOk X scope cap caps
  nd : (own ++ cap).Nodup
theorem CompSc.out {X : Cx} {scope : Scope} {own cap : List Str} {caps : List Nat} (S : CompSc X scope own cap caps) {n : Str} (h : (n, NameKind.free) ∈ scope.names) : X.env.scope.names.lookup n = some .cell ∨ X.env.scope.names.lookup n = some .free := by
  obtain ⟨i, hi, e⟩ := List.getElem_of_mem (S.fr _ h rfl)
  obtain ⟨_, _, _, k, _⟩ := S.caps.get (i := i) (x := n) (by rw [List.getElem?_eq_getElem hi, e])
  exact k
theorem PTs.ok {X : Cx} {scope : Scope} {own cap : List Str} {caps : List Nat} {pins : List (Addr × Obj)} {σ : St} {H : Hp} {s : Shared} (I : Inv X pins σ H s) (Sc : CompSc X scope own cap caps) : closureFor scope X.env = pure (closOf X.env scope.names []) :=
  closureFor_of fun n hn => I.ok.has n (Sc.out hn)
end
end L2
set_option maxRecDepth 100000
set_option maxHeartbeats 4000000
namespace L2
open PySem PySem.Spec PyProof.Rows
section
variable {X : Cx}
def rCatL (K : PySem.W.Frag) : R2 := fun x y H Q => ∃ l b xs zs, x = .ref l ∧ y = .ref b ∧ SqL K H l xs ∧ SqL K H b zs ∧ xs.length + zs.length ≤ sizeLine ∧ ∀ p, H p = none → Q (.ref p) (upd H p (.lst (xs ++ zs)))
theorem op_catL : OpR X (binaryOp .Add) (rCatL X.K) := by
  intro pins s σ H x y v u Q I rx ry h
  obtain ⟨l, b, xs, zs, rfl, rfl, hH, hB, hz, q⟩ := h
  cases rx
  cases ry
  obtain ⟨its, r, pl, _⟩ := I.list hH
  obtain ⟨its2, r2, pl2, _⟩ := I.list hB
  obtain ⟨⟨cls, dd, data, sl⟩, ho, hc, n, hd⟩ := pl.isList
  obtain ⟨⟨cls2, dd2, data2, sl2⟩, ho2, hc2, n2, hd2⟩ := pl2.isList
  simp only at hc hd hc2 hd2
  subst hc hd hc2 hd2
  have e : its.toArray ++ its2.toArray = (its ++ its2).toArray := by simp
  have hl1 := r.length
  have hl2 := r2.length
  refine concat_meets ⟨_, ho, rfl⟩ ⟨_, ho2, rfl⟩ noFill_list_add seq_list_add PySem.F.slot_list_add PySem.F.entry_list_add (PySem.F.args_list_add_2 _ _) (list_addW l b its.toArray its2.toArray n n2 dd dd2 sl sl2 (by simp only [List.size_toArray]; omega)) ⟨ho, ho2, ?_⟩
  rw [e]
  exact ⟨.ref _, _, I.lnew (t' := s.toks) (r.append r2) (by rw [List.length_append]; omega), rfl, q _ I.fresh⟩
mutual
def RdV (K : PySem.W.Frag) (H : Hp) : PyData → V → Prop
  | .none, v => v = .non
  | .bool b, v => v = .bl b
  | .int i, v => v = .int i
  | .str x, v => v = .str x
  | .list ds, v => ∃ a xs, v = .ref a ∧ SqL K H a xs ∧ RdVs K H ds xs
  | .tuple ds, v => ∃ a xs, v = .ref a ∧ SqT K H a xs ∧ RdVs K H ds xs
  | .dict _, _ => False
def RdVs (K : PySem.W.Frag) (H : Hp) : List PyData → List V → Prop
  | [], xs => xs = []
  | d :: ds, xs => ∃ v r, xs = v :: r ∧ RdV K H d v ∧ RdVs K H ds r
end
mutual
theorem rdv_reads {pins : List (Addr × Obj)} {σ : St} {H : Hp} {s : Shared} (I : Inv X pins σ H s) : ∀ {d : PyData} {v : V} {u : Value}, RdV X.K H d v → RelV v u → ∃ as, Reads s.heap u d as
  | .none, v, u, h, r => by
    unfold RdV at h; subst h
    cases (show u = Value.none from r); exact ⟨_, .none⟩
  | .bool b, v, u, h, r => by
    unfold RdV at h; subst h
    cases (show u = Value.bool b from r); exact ⟨_, .bool b⟩
  | .int i, v, u, h, r => by
    unfold RdV at h; subst h
    obtain ⟨t, rfl⟩ := (show ∃ t, u = Value.int i t from r); exact ⟨_, .int i t⟩
  | .str x, v, u, h, r => by
    unfold RdV at h; subst h
    obtain ⟨t, rfl⟩ := (show ∃ t, u = Value.str x t from r); exact ⟨_, .str x t⟩
  | .list ds, v, u, h, r => by
    unfold RdV at h
    obtain ⟨a, xs, rfl, hs, hr⟩ := h
    cases (show u = Value.ref a from r)
    obtain ⟨its, rv, pl, _⟩ := I.list hs
    obtain ⟨o, ho, hc, n, hd⟩ := pl.isList
    obtain ⟨as, ra⟩ := rdvs_reads I hr rv
    exact ⟨_, .list ho hc hd (by simpa using ra)⟩
  | .tuple ds, v, u, h, r => by
    unfold RdV at h
    obtain ⟨a, xs, rfl, hs, hr⟩ := h
    cases (show u = Value.ref a from r)
    obtain ⟨its, rv, ⟨o, ho, hc, n, hd⟩, _⟩ := I.tuple hs
    obtain ⟨as, ra⟩ := rdvs_reads I hr rv
    exact ⟨_, .tuple ho hc hd (by simpa using ra)⟩
  | .dict _, v, u, h, r => by unfold RdV at h; exact h.elim
theorem rdvs_reads {pins : List (Addr × Obj)} {σ : St} {H : Hp} {s : Shared} (I : Inv X pins σ H s) : ∀ {ds : List PyData} {xs : List V} {us : List Value}, RdVs X.K H ds xs → Vals xs us → ∃ as, ReadsAll s.heap us ds as
  | [], xs, us, h, r => by
    unfold RdVs at h; subst h
    cases r; exact ⟨_, .nil⟩
  | d :: ds, xs, us, h, r => by
    unfold RdVs at h
    obtain ⟨v, w, rfl, h1, h2⟩ := h
    cases r with
    | cons r1 r2 =>
      obtain ⟨as, a1⟩ := rdv_reads I h1 r1
      obtain ⟨bs, a2⟩ := rdvs_reads I h2 r2
      exact ⟨_, .cons a1 a2⟩
end
def rEqD (K : PySem.W.Frag) : R2 := fun x y H Q => ∃ d e, RdV K H d x ∧ RdV K H e y ∧ SeqAt.shaped d = true ∧ SeqAt.shaped e = true ∧ Q (.bl (PyData.eqv d e)) H
def rNeD (K : PySem.W.Frag) : R2 := fun x y H Q => ∃ d e, RdV K H d x ∧ RdV K H e y ∧ SeqAt.shaped d = true ∧ SeqAt.shaped e = true ∧ Q (.bl (!PyData.eqv d e)) H
theorem op_eqD (hu : X.A.units + 64 < cLine) : OpR X (compareOp .Eq) (rEqD X.K) := by
  intro pins s σ H x y v u Q I rx ry h
  obtain ⟨d, e, h1, h2, s1, s2, q⟩ := h
  obtain ⟨as, ra⟩ := rdv_reads I h1 rx
  obtain ⟨bs, rb⟩ := rdv_reads I h2 ry
  exact SeqAt.compareEq_shaped ra rb s1 s2 hu ⟨.bl _, H, I, rfl, q⟩
theorem op_neD (hu : X.A.units + 64 < cLine) : OpR X (compareOp .NotEq) (rNeD X.K) := by
  intro pins s σ H x y v u Q I rx ry h
  obtain ⟨d, e, h1, h2, s1, s2, q⟩ := h
  obtain ⟨as, ra⟩ := rdv_reads I h1 rx
  obtain ⟨bs, rb⟩ := rdv_reads I h2 ry
  exact SeqAt.compareNe_shaped ra rb s1 s2 hu ⟨.bl _, H, I, rfl, q⟩
def tyOfV (K : PySem.W.Frag) (H : Hp) (x : V) (T : String) : Prop := match x with
  | .non => T = "NoneType"
  | .bl _ => T = "bool"
  | .int _ => T = "int"
  | .str _ => T = "str"
  | .ref a => (T = "list" ∧ ∃ xs, SqL K H a xs) ∨ (T = "tuple" ∧ ∃ xs, SqT K H a xs)
  | _ => False
def rIsi (K : PySem.W.Frag) : List V → Hp → VK → Prop := fun xs H Q => ∃ x c T b, xs = [x, .ty c] ∧ tyOfV K H x T ∧ PySem.W.kitOne K (.type T) (.type c) = some b ∧ Q (.bl b) H
theorem call_isi : CallR X (.builtin "isinstance") (rIsi X.K) := by
  intro pins s σ H xs us Q I r h
  obtain ⟨x, c, T, b, rfl, hT, hk, q⟩ := h
  obtain ⟨u, w, rfl, r1, r2⟩ := vals2 r
  cases (show w = Value.type c from r2)
  have fin : ∀ tk, EP X pins σ Q (.bool b) { s with toks := tk } := fun tk => ⟨.bl b, H, I.tok tk, rfl, q⟩
  cases x with
  | non => cases (show u = Value.none from r1); cases (show T = "NoneType" from hT); exact PySem.W.kia_one PySem.W.kitx_none I.kIn True.intro hk (fun z => nomatch z) fin
  | bl y => cases (show u = Value.bool y from r1); cases (show T = "bool" from hT); exact PySem.W.kia_one PySem.W.kitx_bool I.kIn True.intro hk (fun z => nomatch z) fin
  | int i => obtain ⟨t, e⟩ := (show ∃ t, u = Value.int i t from r1); cases e; cases (show T = "int" from hT); exact PySem.W.kia_one PySem.W.kitx_int I.kIn True.intro hk (fun z => nomatch z) fin
  | str y => obtain ⟨t, e⟩ := (show ∃ t, u = Value.str y t from r1); cases e; cases (show T = "str" from hT); exact PySem.W.kia_one PySem.W.kitx_str I.kIn True.intro hk (fun z => nomatch z) fin
  | ref a =>
    cases (show u = Value.ref a from r1)
    rcases hT with ⟨rfl, xs, hs⟩ | ⟨rfl, xs, hs⟩
    · obtain ⟨its, rv, ⟨o, n, ho, hc, _⟩, _⟩ := I.list hs
      exact PySem.W.kia_one PySem.W.kitx_list I.kIn ⟨o, ho, hc⟩ hk (fun z => nomatch z) fin
    · obtain ⟨its, rv, ⟨o, ho, hc, _⟩, _⟩ := I.tuple hs
      exact PySem.W.kia_one PySem.W.kitx_tuple I.kIn ⟨o, ho, hc⟩ hk (fun z => nomatch z) fin
  | byt y => exact False.elim hT
  | flt y => exact False.elim hT
  | ty y => exact False.elim hT
end
end L2
set_option maxRecDepth 100000
set_option maxHeartbeats 4000000
namespace L2
open PySem PySem.Spec PyProof.Rows
structure XLeft (S : List Addr) (e : Addr) (oe : Obj) (h h' : Heap) (T : Addr) : Prop where
  keep : ∀ b o, h.get? b = some o → b ∉ S → b ≠ e → h'.get? b = some o
  slot : ∀ b o, h.get? b = some o → b ∈ S → ∃ sl, h'.get? b = some { o with slots := sl }
  new : h.objs.size ≤ T
  ne : T ≠ e
  exc : ∃ oe' vs, h'.get? e = some oe' ∧ oe'.cls = oe.cls ∧ oe'.dict = oe.dict ∧ oe'.data = .fields vs ∧ vs[1]? = some (.ref T)
  trc : ∃ oT ts, h'.get? T = some oT ∧ oT.data = .fields ts ∧ ts[3]? = some .none
theorem map_dict (o : Obj) (f : Array Value → Array Value) : (Obj.mapFields f o).dict = o.dict := by
  unfold Obj.mapFields
  split <;> rfl
section
variable {M : Model} {A : Around} {E : Value → Shared → Prop} {s : Shared}
theorem entry_ok {base : Heap} {env : Env} {outer : List Env} {L e : Addr} {oe : Obj} {vs : Array Value} {head : Value} {hadNext : Bool} {Q : Unit → Shared → Prop} (hfr : A.frames = some (env :: outer))
    (hl : s.heap.FunFrames base (env :: outer)) (hf : env.frame = some L) (he : s.heap.get? e = some oe) (hd : oe.data = .fields vs) (hsz : 1 < vs.size)
    (h : ∀ h' T, XLeft (frs (env :: outer)) e oe s.heap h' T → Q () { s with heap := h' }) :
    wpAny M A (do
      let a ← frameOf env
      let pl ← entryPlaceOf L hadNext
      let b ← EntryCells.newEntry head a .none (rawInt L) .none pl
      setField (.ref e) 1 b) (fun _ s' => wpAny M A (setFlight (.ref e) none) Q E s') E s := by
  have out : e ∉ frs (env :: outer) := fun hm => by
    obtain ⟨_, o, ho, hnf⟩ := hl.mem hm
    cases he.symm.trans ho
    exact hnf vs hd
  refine wpAny_bind (wpAny_frameOf_fun hfr hl hf fun h1 x1 => wpAny_bind (wpAny_entryPlaceOf fun pl hpl => ?_))
  unfold EntryCells.newEntry newFields
  refine wpAny_bind (wpAny_newObj_type ?_ (hpl.sizeOk5 _ _ _ _ _))
  generalize hob : ({ cls := .type "traceback", dict := none, data := .fields ([head, .ref L, .none, rawInt L, .none] ++ (if pl.isEmpty then List.replicate 6 Value.none else pl)).toArray } : Obj) = ob
  have e1 : h1.get? e = some oe := (x1.2.1 e out).trans he
  have e2 : (h1.push ob).get? e = some oe := Heap.get?_push_of_some ob e1
  refine wpAny_setField e2 hd hsz ?_
  have ne : h1.objs.size ≠ e := Nat.ne_of_gt (Heap.lt_size e1)
  have d3 := Obj.data_mapFields hd (·.setIfInBounds 1 (Value.ref h1.objs.size))
  have e3 := Heap.get?_update_self (Obj.mapFields (·.setIfInBounds 1 (Value.ref h1.objs.size))) e2 (Obj.isFreed_of_fields d3)
  have obd : ob.data = .fields ([head, .ref L, .none, rawInt L, .none] ++ (if pl.isEmpty then List.replicate 6 Value.none else pl)).toArray := by rw [← hob]
  have t2 : (h1.push ob).get? h1.objs.size = some ob := Heap.get?_push_size h1 (by rw [← hob]; rfl)
  have t3 := (Heap.get?_update_other (h1.push ob) (Obj.mapFields (·.setIfInBounds 1 (Value.ref h1.objs.size))) (Ne.symm ne)).trans t2
  unfold setFlight
  refine wpAny_bind (wpAny_field e3 d3 (x := .ref h1.objs.size) (by simp [hsz]) ?_)
  rw [if_pos (by simp)]
  refine wpAny_setField t3 obd (by simp only [List.size_toArray, List.length_append, List.length_cons, List.length_nil]; omega) (h _ h1.objs.size ?_)
  have kp : ∀ b o, b ≠ e → h1.get? b = some o → (((h1.push ob).update e (Obj.mapFields (·.setIfInBounds 1 (Value.ref h1.objs.size)))).update h1.objs.size (Obj.mapFields (·.setIfInBounds 3 ((none : Option Addr).elim Value.none fun f => rawInt f)))).get? b = some o := fun b o n1 hb => by
    rw [Heap.get?_update_other _ _ (Nat.ne_of_gt (Heap.lt_size hb)), Heap.get?_update_other _ _ (Ne.symm n1)]
    exact Heap.get?_push_of_some ob hb
  refine ⟨fun b o hb hS hbe => kp b o hbe ((x1.2.1 b hS).trans hb), fun b o hb hS => ?_, Nat.le_of_eq x1.1.symm, ne, ⟨_, _, ?_, Obj.cls_mapFields _ _, map_dict _ _, d3, by simp [hsz]⟩, ⟨_, _, Heap.get?_update_self _ t3 (Obj.isFreed_of_fields (Obj.data_mapFields obd _)), Obj.data_mapFields obd _, ?_⟩⟩
  · obtain ⟨sl, q⟩ := x1.2.2 b o hb
    exact ⟨sl, kp b _ (fun z => out (z ▸ hS)) q⟩
  · rw [Heap.get?_update_other _ _ ne]; exact e3
  · first | (simp; done) | (rcases hpl with rfl | ⟨_, _, _, _, _, _, _, rfl⟩ <;> simp)
theorem leave_first {base : Heap} {env : Env} {outer : List Env} {L e : Addr} {oe : Obj} {vs : Array Value} {Q : Unit → Shared → Prop} (hfr : A.frames = some (env :: outer)) (hl : s.heap.FunFrames base (env :: outer)) (hf : env.frame = some L)
    (he : s.heap.get? e = some oe) (hd : oe.data = .fields vs) (h1 : vs[1]? = some .none) (h : ∀ h' T, XLeft (frs (env :: outer)) e oe s.heap h' T → Q () { s with heap := h' }) : wpAny M A (leaving env (.ref e)) Q E s := by
  unfold leaving noteFrame
  simp only [hf]
  refine wpAny_bind (wpAny_bind (wpAny_field he hd h1 ?_))
  rw [if_neg (by decide)]
  exact entry_ok hfr hl hf he hd (Array.getElem?_eq_some_iff.mp h1).1 h
structure Trc (h : Heap) (e : Addr) (oe : Obj) (T : Addr) : Prop where
  exc : h.get? e = some oe
  dat : ∃ vs, oe.data = .fields vs ∧ vs[1]? = some (.ref T)
  ne : T ≠ e
  trc : ∃ oT ts, h.get? T = some oT ∧ oT.data = .fields ts ∧ ts[3]? = some .none
theorem land_next {base : Heap} {env : Env} {outer : List Env} {L e T0 : Addr} {oe : Obj} {Q : Unit → Shared → Prop} (hfr : A.frames = some (env :: outer)) (hl : s.heap.FunFrames base (env :: outer)) (hf : env.frame = some L)
    (ht : Trc s.heap e oe T0) (h : ∀ h1 h' T, (∀ b, b ≠ T0 → h1.get? b = s.heap.get? b) → h1.objs.size = s.heap.objs.size → XLeft (frs (env :: outer)) e oe h1 h' T → Q () { s with heap := h' }) :
    wpAny M A (noteFrame (.ref e) env) (fun _ s' => wpAny M A (setFlight (.ref e) none) Q E s') E s := by
  obtain ⟨he, ⟨vs, hd, h1⟩, hne, oT, ts, hT, hdT, h3⟩ := ht
  unfold noteFrame
  simp only [hf]
  refine wpAny_bind (wpAny_field he hd h1 ?_)
  rw [if_pos (by simp)]
  refine wpAny_bind (wpAny_field hT hdT h3 ?_)
  rw [if_neg (by simp [rawInt])]
  refine wpAny_bind (wpAny_setField hT hdT (Array.getElem?_eq_some_iff.mp h3).1 ?_)
  have oth : ∀ b, b ≠ T0 → (s.heap.update T0 (Obj.mapFields (·.setIfInBounds 3 Value.none))).get? b = s.heap.get? b := fun b hb => Heap.get?_update_other _ _ (Ne.symm hb)
  refine entry_ok (base := base) hfr (hl.of_keeps fun b o hb hnf => ⟨o, (oth b fun q => ?_).trans hb, rfl⟩) hf ((oth e (Ne.symm hne)).trans he) hd (Array.getElem?_eq_some_iff.mp h1).1 fun h' T x => h _ h' T oth (Heap.size_after_update ..) x
  subst q
  cases hT.symm.trans hb
  exact hnf ts hdT
theorem leave_next {base : Heap} {env : Env} {outer : List Env} {L e T0 : Addr} {oe : Obj} {Q : Unit → Shared → Prop} (hfr : A.frames = some (env :: outer)) (hl : s.heap.FunFrames base (env :: outer)) (hf : env.frame = some L)
    (ht : Trc s.heap e oe T0) (h : ∀ h1 h' T, (∀ b, b ≠ T0 → h1.get? b = s.heap.get? b) → h1.objs.size = s.heap.objs.size → XLeft (frs (env :: outer)) e oe h1 h' T → Q () { s with heap := h' }) : wpAny M A (leaving env (.ref e)) Q E s := by
  unfold leaving
  exact wpAny_bind (land_next hfr hl hf ht h)
end
end L2
set_option maxRecDepth 100000
set_option maxHeartbeats 4000000
namespace L2
open PySem PySem.Spec PyProof.Rows
theorem ObjOk.there {P : Program} {w : World} {H : Hp} {h : Heap} {a : Addr} {o : HO} (x : ObjOk P w H h a o) : ∃ u, h.get? a = some u := by
  cases o with
  | lst xs => exact let ⟨_, _, _, _, e⟩ := x; ⟨_, e⟩
  | tup xs => exact let ⟨_, _, _, ob, e, _⟩ := x; ⟨_, e⟩
  | dK kvs => exact let ⟨_, _, _, _, ob, _, _, e, _⟩ := x; ⟨_, e⟩
  | dT kvs => exact let ⟨_, _, _, _, ob, _, _, e, _⟩ := x; ⟨_, e⟩
  | set S n => exact let ⟨ob, _, _, _, e, _⟩ := x; ⟨_, e⟩
  | ins C dx fs => exact let ⟨_, _, _, e, _⟩ := x; ⟨_, e⟩
  | own y => exact x
  | xd fs => exact let ⟨_, ⟨_, _, _, e, _⟩, _⟩ := x; ⟨_, e⟩
  | rng lo hi => exact let ⟨_, _, _, e⟩ := x; ⟨_, e⟩
  | frz ob u => exact let ⟨e, _⟩ := x; ⟨_, e⟩
  | tbl ps => exact ⟨_, x⟩
  | met f y => exact ⟨_, x⟩
  | ext φ => exact x.2.1
theorem HOk.free {P : Program} {w : World} {H : Hp} {h : Heap} {a : Addr} (x : HOk P w H h) (n : h.get? a = none) : H a = none := by
  cases e : H a with
  | none => rfl
  | some o =>
    obtain ⟨u, hu⟩ := (x a o e).there
    rw [n] at hu; cases hu
structure Flies (P : Program) (w : World) (fs : List Addr) (H : Hp) (h : Heap) (x : Addr) (H' : Hp) (h' : Heap) (oe : Obj) (T C : Addr) : Prop where
  un : Un fs [] H H' h h'
  hok : HOk P w H' h'
  nx : h.get? x = none
  nT : h.get? T = none
  hx : H' x = none
  hT : H' T = none
  tr : Trc h' x oe T
  cls : oe.cls = .ref C
def CXE (P : Program) (w : World) : CXT := fun outer H s E e s' => ∃ x oe T H' C, e = .ref x ∧ s'.os = s.os ∧ AllBare s'.gens ∧ Flies P w (frs outer) H s.heap x H' s'.heap oe T C ∧ E (.ref C) oe.dict H'
section
variable {X : Cx} {pins : List (Addr × Obj)} {σ : St} {H : Hp} {s : Shared}
theorem Inv.old (I : Inv X pins σ H s) (hex : X.ex = []) {a : Addr} (n : s.heap.get? a = none) : X.s₀.heap.get? a = none := by
  cases e : X.s₀.heap.get? a with
  | none => rfl
  | some o =>
    obtain ⟨o', q⟩ := I.base.there a o e (by rw [hex]; simp)
    rw [n] at q; cases q
theorem left_flies {x T0 T C : Addr} {oe : Obj} {h1 h' : Heap} (I : Inv X pins σ H s) (hstk : X.stack = X.env :: X.outer) (hfr : X.env.frame = some X.env.locals) (hex : X.ex = []) (hx0 : X.s₀.heap.get? x = none) (hx : H x = none)
    (hT0 : X.s₀.heap.get? T0 = none) (hHT0 : H T0 = none) (h01 : ∀ b, b ≠ T0 → h1.get? b = s.heap.get? b) (hsz : h1.objs.size = s.heap.objs.size) (xl : XLeft (frs X.stack) x oe h1 h' T) (hc : oe.cls = .ref C) :
    ∃ oe', Flies X.prog X.w X.fs X.H₀ X.s₀.heap x H h' oe' T C ∧ oe'.dict = oe.dict := by
  have sub : ∀ b ∈ X.fs, b ∈ frs X.stack := fun b hb => by
    rw [hstk]
    show b ∈ (X.env :: X.outer).filterMap (·.frame)
    rw [List.filterMap_cons, hfr]
    exact List.mem_cons_of_mem _ hb
  have nex : ∀ b : Addr, b ∉ X.ex := fun b z => by rw [hex] at z; cases z
  have ne0 : ∀ b o, X.s₀.heap.get? b = some o → b ≠ T0 ∧ b ≠ x ∧ b ≠ X.env.locals := fun b o e => ⟨fun z => (by rw [z, hT0] at e; cases e), fun z => (by rw [z, hx0] at e; cases e), Nat.ne_of_lt (Nat.lt_of_lt_of_le (Heap.lt_size e) I.ok.above)⟩
  obtain ⟨oe', vs, e1, e2, e3, e4, e5⟩ := xl.exc
  have nT : s.heap.objs.size ≤ T := hsz ▸ xl.new
  have gT : X.s₀.heap.get? T = none := by
    cases e : X.s₀.heap.get? T with
    | none => rfl
    | some o => exact absurd (Nat.lt_of_lt_of_le (Heap.lt_size e) (Nat.le_trans I.sz nT)) (Nat.lt_irrefl _)
  refine ⟨oe', ⟨⟨fun b o e n hb _ => ?_, fun b o e n hb _ => ?_, fun b o e n _ => I.base.free b o e n (nex b), fun b o e _ => ?_, I.base.tups, I.base.frzs, I.base.tbls⟩, fun a o e => ?_, hx0, gT, hx, I.hok.fresh nT, ⟨e1, ⟨vs, e4, e5⟩, xl.ne, xl.trc⟩, e2.trans hc⟩, e3⟩
  · obtain ⟨n1, n2, n3⟩ := ne0 b o e
    refine xl.keep b o ((h01 b n1).trans (I.base.keep b o e n hb (nex b))) (fun z => ?_) n2
    rcases List.mem_cons.mp (I.stkSub b z) with q | q
    · exact n3 q
    · exact hb q
  · obtain ⟨n1, n2, n3⟩ := ne0 b o e
    obtain ⟨sl, q⟩ := I.base.slot b o e n hb (nex b)
    obtain ⟨sl', q'⟩ := xl.slot b _ ((h01 b n1).trans q) (sub b hb)
    exact ⟨sl', q'⟩
  · obtain ⟨n1, n2, n3⟩ := ne0 b o e
    obtain ⟨o', q⟩ := I.base.there b o e (nex b)
    by_cases hb : b ∈ frs X.stack
    · obtain ⟨sl', q'⟩ := xl.slot b _ ((h01 b n1).trans q) hb
      exact ⟨_, q'⟩
    · exact ⟨o', xl.keep b o' ((h01 b n1).trans q) hb n2⟩
  · refine (I.hok a o e).stay (fun b u hb q => ?_) (fun _ q => q) fun _ _ q => q
    have tr : ∃ v, H b = some v := by
      rcases hb with rfl | hb
      · exact ⟨o, e⟩
      · exact ⟨_, hb⟩
    obtain ⟨v, hv⟩ := tr
    refine xl.keep b u ((h01 b fun z => ?_).trans q) (fun z => ?_) fun z => ?_
    · rw [z, hHT0] at hv; cases hv
    · rw [I.stkFree b z] at hv; cases hv
    · rw [z, hx] at hv; cases hv
end
section
variable {P : Program} {w : World} {K : PySem.W.Frag} {mg : Str → Option Value} {base : Heap} {N : List Str} {qual : Str} {scope : Scope} {f : Addr} {cd : Value} {A : Around} {outer : List Env} {s0 : Shared} {H0 : Hp} {E : XK}
theorem passE : Passes (CXE P w) (cxOf (CXE P w) P w K mg base N qual scope f cd A outer s0 H0 E) E := by
  intro pins σ H s e s' I ⟨x, oe, T0, H', C, he, os, bare, fl, hE⟩
  subst he
  have J := I.call' os fl.un fl.hok bare (fun b z => absurd z (by simp))
  have hx0 := I.old rfl fl.nx
  have hT0 := I.old rfl fl.nT
  refine leave_next (base := base) (L := s0.heap.objs.size) J.ok.frames J.stack rfl fl.tr fun h1 h' T h01 hsz xl => ?_
  obtain ⟨oe', fl', hd⟩ := left_flies J rfl rfl rfl hx0 fl.hx hT0 fl.hT h01 hsz xl fl.cls
  exact ⟨x, oe', T, H', C, rfl, J.os, J.bare, fl', by rw [hd]; exact hE⟩
def Raises (X : Cx) (E : XK) : Prop := ∀ (pins : List (Addr × Obj)) (σ : St) (H : Hp) (s : Shared) (h' : Heap) (x C : Addr) (args : List Value), Inv X pins σ H s → Heap.MadeExcOf s.heap h' x (.ref C) args → E (.ref C) none H → X.xe (.ref x) { s with heap := h' }
theorem raiseE : Raises (cxOf (CXE P w) P w K mg base N qual scope f cd A outer s0 H0 E) E := by
  intro pins σ H s h' x C args I m hE
  have J : Inv (cxOf (CXE P w) P w K mg base N qual scope f cd A outer s0 H0 E) pins σ H { s with heap := h' } := I.kept (t' := s.toks) m.keeps
  have hx0 := I.old rfl m.new
  have hx := I.hok.free m.new
  obtain ⟨t, e1, _, _⟩ := m.there
  refine leave_first (base := base) (L := s0.heap.objs.size) J.ok.frames J.stack rfl e1 rfl rfl fun h2 T xl => ?_
  obtain ⟨oe', fl', hd⟩ := left_flies J rfl rfl rfl hx0 hx hx0 hx (fun _ _ => rfl) rfl xl rfl
  exact ⟨x, oe', T, H, C, rfl, J.os, J.bare, fl', by rw [hd]; exact hE⟩
end
end L2
set_option maxRecDepth 100000
set_option maxHeartbeats 4000000
namespace L2
open PySem PySem.Spec PyProof.Rows
abbrev bmV : List Value := [.type "ValueError", .type "Exception", .type "BaseException", .type "object"]
theorem exc_obj {K : PySem.W.Frag} {h : Heap} {C : Addr} {bmB : List Value} {newId : String} (X : K.In h) (q : PySem.W.excIn K C bmB newId = true) :
    ∃ bm N nm qn bs hd sn sub ab col dd k0 k1 k2 k3 k5 mN, h.get? C = some (excClassObj nm qn C N bs bm hd sn sub ab col dd k0 k1 k2 k3 k5 newId) ∧ h.Ns N mN ∧ mN "__init__" = none ∧ OwnTail h bmB bm := by
  unfold PySem.W.excIn at q
  split at q
  · rename_i dd cd sl look
    split at q
    · rename_i C' bm k0 k1 k2 k3 n k5 em es
      simp only [Bool.and_eq_true, beq_iff_eq, Bool.not_eq_true'] at q
      obtain ⟨⟨⟨⟨⟨q1, q2⟩, q3⟩, q4⟩, q5⟩, q6⟩ := q
      subst q1; subst q2
      obtain ⟨nm, bs, mro, ns, qn, hd, sn, sub, ab, col, del⟩ := cd
      simp only at em q3 q5 q6
      subst em; subst q3
      obtain ⟨l⟩ := sl
      simp only at es
      subst es
      refine ⟨bm, ns, nm, qn, bs, hd, sn, sub, ab, col, dd, k0, k1, k2, k3, k5, h.nsMap ns, X _ _ look, ?_, ?_, PySem.W.tail_of_in X q4⟩
      · exact Heap.Ns.of_isNs (PySem.W.isNs_of_in X q5)
      · exact PySem.W.nsMap_none_of_in X q5 q6
    · cases q
  · cases q
def tRaise (C : Addr) (E : XK) (t : TA) : TS := fun _ σ H => t σ H fun vs H1 => vs.length ≤ sizeLine ∧ E (.ref C) none H1
section
variable {X : Cx} {E : XK} {c : Str} {C : Addr} {np cpos pos : Pos} {e : Expr} {es : List Expr} {t : TA} {B newId initId : String} {bmB : List Value}
theorem ps_raise (hx : Raises X E) (hq : PySem.W.excIn X.K C bmB newId = true) (FB : ExcBaseFacts B newId initId bmB) (hcalm : X.calm = true) (hg : Gl X c) (hm : X.mg c = some (.ref C)) (ha : PA X (e :: es) t)
    (hdb : (c == ("__debug__" : Str)) = false := by decide) (he : starEach (e :: es) X.env = (false, eval e X.env) :: starEach es X.env := by rfl) (hpl : (backTo cpos (starEach es X.env)).any (·.1) = false := by rfl) :
    PS X (.Raise (some (.Call (.Name c np) (e :: es) [] cpos)) none pos) (tRaise C E t) := by
  intro pins s σ H D I h
  obtain ⟨bm, N, nm, qn, bs, hd, sn, sub, ab, col, dd, k0, k1, k2, k3, k5, mN, g1, g2, g3, g4⟩ := exc_obj I.ok.mod.kin hq
  refine wpAny_Raise_call_subT (C := C) (nm := nm) (q := qn) (N := N) (bs := bs) (bm := bm) (hdct := hd) (sn := sn) (sub := sub) (ab := ab) (col := col) (dd := dd) (k0 := k0) (k1 := k1) (k2 := k2) (k3 := k3) (k5 := k5)
    FB (mN := mN) (g4.hasType FB.hasBase) (I.ok.hd hcalm) ?_ g3 (ld_glob I hg hm ⟨rfl, ?_⟩ hdb)
  · rw [he]
    show (false || _) = false
    rw [Bool.false_or]; exact hpl
  · have z := ha cpos pins s σ H _ I h
    rw [he] at z ⊢
    refine Calls.evalArgs_plain (thn z fun us s2 ⟨vs, H1, I1, r, hl, hE⟩ => ⟨rfl, by rw [← r.length]; exact hl, I1.bk _ _ g1, g2.keeps I1.bk, g4.keeps I1.bk, fun h' x m => hx pins σ H1 s2 h' x C us I1 m hE⟩)
end
section
variable {P : Program} {w : World} {K : PySem.W.Frag} {mg : Str → Option Value} {base : Heap}
theorem Fun.okE {CX : CXT} {x qual : Str} {st : Stmt} {f : Addr} {fd : FuncData} {N ps : List Str} {k : Nat} {sp : Sp} (F : Fun K x qual st f fd) (S : FnScope N ps (defScope st)) (len : ∀ vs H Q E, sp vs H Q E → vs.length = ps.length)
    (hb : ∀ (cdv : Value) (A : Around) (outer : List Env) (s : Shared) (H : Hp) (vs : List V) (Q : VK) (E : XK), Room k (A.deeper (envOfC qual (defScope st) s.heap.objs.size f cdv)) → sp vs H Q E →
      ∃ t, PSs (cxOf CX P w K mg base N qual (defScope st) f cdv A outer s H E) (defBody st) t ∧ t { nx := fun _ H' => Q .non H', rt := Q } (start N vs) H) : FnOk P w K mg base CX (k + 1) f fd ps sp := by
  obtain ⟨oc, od, kV, doc, pm, an, cdv, ct, osl, rfl, look, hcd⟩ := F.ex
  exact fn_of look hcd S len (hb cdv)
end
theorem walk_ofE {l : PySem.W.OpenLaw} {n k : Nat} {q : Program} {loose : List Str} {XP : (Str → Option Value) → Heap → Prop} {YP : World → Heap → Prop} {d : DefRec} {K : Params → PySem.W.Frag} {sp : PySem.W.Frag → Sp} {x : Str} (hn : l.most = some n) (hn2 : n ≤ sizeLine)
    (hdf : d.params.defaults = []) (hr : Room k callerA) (hi : importsNone q = true) (hY : ∀ (w : World) (h : Heap), YP w h → (K w.params).In h) (F : ∀ (w : World) (mg : Str → Option Value) (fa : Addr) (h : Heap), (K w.params).In h → h.Ns mainGlobals mg → mg d.name = some (.ref fa) →
      ∃ fd : FuncData, (∀ (s : Shared) (u : Value), BindsTo s fd ⟨[u], []⟩ [(x, u)]) ∧ ∀ base : Heap, (K w.params).In base → base.Ns mainGlobals mg → FnOk l.prog w (K w.params) mg base (CXE l.prog w) k fa fd [x] (sp (K w.params)))
    (hsp : ∀ (K : PySem.W.Frag) (H : Hp) (a : Addr) (ns : List Int), ns.length ≤ n → Only H → SqL K H a (ns.map V.int) → sp K [.ref a] H (fun v _ => v = .bl true) fun _ _ _ => False) : PySem.W.WalkO q loose XP YP l.row.toRowW d [] (fun f vs => PySem.call f vs) :=
  walk_of (K := K) (CX := fun w => CXE l.prog w) (sp := fun w => sp (K w.params)) hn hn2 hdf hr hi hY F (fun w H a ns h1 h2 h3 => hsp (K w.params) H a ns h1 h2 h3) fun _ _ _ _ _ ⟨_, _, _, _, _, _, _, _, _, z⟩ => z
end L2
set_option maxRecDepth 100000
set_option maxHeartbeats 4000000
namespace L2
open PySem PySem.Spec PyProof.Rows
def tCallS (sp : Sp) (dvs : List V) (Es : St → XK) (t : TA) : TE := fun σ H Q => t σ H fun vs H1 => sp (vs ++ dvs) H1 Q (Es σ)
def PassesS (CX : CXT) (X : Cx) (Es : St → XK) : Prop := ∀ (pins : List (Addr × Obj)) (σ : St) (H : Hp) (s : Shared) (e : Value) (s' : Shared), Inv X pins σ H s → CX X.stack H s (Es σ) e s' → X.xe e s'
theorem Passes.s {CX : CXT} {X : Cx} {E : XK} (h : Passes CX X E) : PassesS CX X fun _ => E := h
section
variable {X : Cx} {CX : CXT} {k : Nat} {f C : Addr} {fd : FuncData} {ps : List Str} {sp : Sp} {dvs : List V} {ds : List Value} {Es : St → XK} {x m : Str} {p pos apos : Pos} {e o : Expr} {es : List Expr} {ta : TE} {t : TA}
theorem run_fnS {pins : List (Addr × Obj)} {σ : St} {H : Hp} {s : Shared} {Q : VK} {us : List Value} {vs : List V} (F : FnOk X.prog X.w X.K X.mg X.base CX k f fd ps sp) (hr : Room k X.A) (hb : Binds X.K fd ps ds) (hd : Vals dvs ds) (hx : PassesS CX X Es)
    (I : Inv X pins σ H s) (r : Vals vs us) (h : sp (vs ++ dvs) H Q (Es σ)) : wpAny (model X.prog X.w) X.A (call (.ref f) us) (EP X pins σ Q) X.xe s := by
  have r2 : Vals (vs ++ dvs) (us ++ ds) := r.append hd
  have hl : (us ++ ds).length = ps.length := r2.length ▸ F.len _ _ _ _ h
  refine wpAny_call (codeAny_mono (F.run X.A X.stack s H ⟨us, []⟩ (us ++ ds) (vs ++ dvs) Q (Es σ) hr I.env0 (hb s us I.kIn hl) r2 h) fun res s' z => ?_)
  match res, z with
  | .error e, z => exact hx pins σ H s e s' I z
  | .ok (.ret u), z => exact I.after z
theorem pe_callS (F : FnOk X.prog X.w X.K X.mg X.base CX k f fd ps sp) (hr : Room k X.A) (hg : Gl X x) (hm : X.mg x = some (.ref f)) (hk : PySem.W.keepIn X.K (.ref f) = true) (hb : Binds X.K fd ps ds) (hd : Vals dvs ds) (hx : PassesS CX X Es)
    (ha : PA X (e :: es) t) (hdb : (x == ("__debug__" : Str)) = false := by decide) (he : starEach (e :: es) X.env = (false, eval e X.env) :: starEach es X.env := by rfl) (hpl : (backTo pos (starEach es X.env)).any (·.1) = false := by rfl) :
    PE X (.Call (.Name x p) (e :: es) [] pos) (tCallS sp dvs Es t) := fun pins s σ H Q I h =>
  wpAny_Call_Name_kw (ld_glob I hg hm (PySem.W.callWith_K (h₀ := X.base) I.ok.mod.kin hk (thn (ha pos pins s σ H _ I h) fun us s1 ⟨vs, H1, I1, r, q⟩ => ⟨I1.kIn, run_fnS F hr hb hd hx I1 r q⟩) he hpl) hdb)
end
abbrev Cx.pinned (X : Cx) (p : List (Addr × Obj)) (E : Value → Shared → Prop) : Cx := { X with pn := p, xe := E }
theorem Cx.Ok.pinned {X : Cx} (ok : X.Ok) (p : List (Addr × Obj)) (E : Value → Shared → Prop) : (X.pinned p E).Ok := ⟨ok.mod, ok.kind, ok.glob, ok.blt, ok.above, ok.inj, ok.has, ok.cab, ok.hd, ok.frames, ok.stk, ok.exf, ok.bs, ok.bsz, ok.noex, ok.exfs, ok.funs, ok.frf⟩
theorem Cx.Ok.unpinned {X : Cx} {p : List (Addr × Obj)} {E : Value → Shared → Prop} (ok : (X.pinned p E).Ok) : X.Ok := ⟨ok.mod, ok.kind, ok.glob, ok.blt, ok.above, ok.inj, ok.has, ok.cab, ok.hd, ok.frames, ok.stk, ok.exf, ok.bs, ok.bsz, ok.noex, ok.exfs, ok.funs, ok.frf⟩
section
variable {X : Cx} {pins : List (Addr × Obj)} {σ : St} {H : Hp} {s : Shared} {E : Value → Shared → Prop}
theorem Inv.toPinned (I : Inv X pins σ H s) (E : Value → Shared → Prop) : Inv (X.pinned (X.pn ++ pins) E) [] σ H s :=
  ⟨I.ok.pinned _ _, I.os, I.bare, I.base, I.loc, I.cell, I.free, I.freeC, fun p hp => I.pin p (by simpa using hp), I.hok, I.len⟩
theorem Inv.ofPinned {pins' : List (Addr × Obj)} (I : Inv (X.pinned (X.pn ++ pins) E) pins' σ H s) : Inv X pins σ H s :=
  ⟨I.ok.unpinned, I.os, I.bare, I.base, I.loc, I.cell, I.free, I.freeC, fun p hp => I.pin p (List.mem_append_left _ hp), I.hok, I.len⟩
theorem Inv.landed {s1 : Shared} {H1 : Hp} {x T0 T C : Addr} {oe : Obj} {h1 h' : Heap} (I : Inv X pins σ H s) (J : Inv X pins σ H1 s1) (hstk : X.stack = X.env :: X.outer) (hfr : X.env.frame = some X.env.locals) (hex : X.ex = []) (nx : s.heap.get? x = none) (hx : H1 x = none)
    (nT0 : s.heap.get? T0 = none) (hT0 : H1 T0 = none) (h01 : ∀ b, b ≠ T0 → h1.get? b = s1.heap.get? b) (hsz : h1.objs.size = s1.heap.objs.size) (xl : XLeft (frs X.stack) x oe h1 h' T) (hc : oe.cls = .ref C) : Inv X pins σ H1 { s1 with heap := h' } := by
  obtain ⟨oe', fl, _⟩ := left_flies J hstk hfr hex (I.old hex nx) hx (I.old hex nT0) hT0 h01 hsz xl hc
  have ne : ∀ b o, s.heap.get? b = some o → b ≠ T0 ∧ b ≠ x := fun b o e => ⟨fun z => (by rw [z, nT0] at e; cases e), fun z => (by rw [z, nx] at e; cases e)⟩
  have mv : ∀ b u o, s.heap.get? b = some u → s1.heap.get? b = some o → ∃ sl, h'.get? b = some { o with slots := sl } := fun b u o e1 e2 => by
    obtain ⟨n1, n2⟩ := ne b u e1
    by_cases hb : b ∈ frs X.stack
    · exact xl.slot b o ((h01 b n1).trans e2) hb
    · exact ⟨o.slots, xl.keep b o ((h01 b n1).trans e2) hb n2⟩
  have cellK : ∀ y c, X.env.cells.lookup y = some c → ∀ v, s1.heap.IsCell c v → h'.IsCell c v := fun y c e v ⟨o, ho, hd⟩ => by
    obtain ⟨v0, o0, ho0, _⟩ := I.cell y c e
    obtain ⟨sl, q⟩ := mv c o0 o ho0 ho
    exact ⟨_, q, hd⟩
  refine ⟨J.ok, J.os, J.bare, ?_, ?_, fun y c e => ?_, J.free, J.freeC, fun p hp => ?_, fl.hok, J.len⟩
  · show Un X.fs X.ex X.H₀ H1 X.s₀.heap h'
    rw [hex]; exact fl.un
  · obtain ⟨m, ⟨o, es, ep, ho, r⟩, hl⟩ := J.loc
    obtain ⟨m0, ⟨o0, _, _, ho0, _⟩, _⟩ := I.loc
    obtain ⟨sl, q⟩ := mv _ o0 o ho0 ho
    refine ⟨m, ⟨_, es, ep, q, r⟩, fun i y v e1 e2 e3 => ?_⟩
    obtain ⟨u, rv, l⟩ := hl i y v e1 e2 e3
    refine ⟨u, rv, ?_⟩
    rcases l with l | ⟨k, c, e, z⟩
    · exact .inl l
    · exact .inr ⟨k, c, e, cellK y c e _ z⟩
  · obtain ⟨v, z⟩ := J.cell y c e
    exact ⟨v, cellK y c e v z⟩
  · obtain ⟨e0, _⟩ := I.pin p hp
    obtain ⟨e, n, nl, nf, d⟩ := J.pin p hp
    obtain ⟨n1, n2⟩ := ne _ _ e0
    refine ⟨xl.keep p.1 p.2 ((h01 _ n1).trans e) (fun z => ?_) n2, n, nl, nf, d⟩
    rcases List.mem_cons.mp (J.stkSub _ z) with q | q
    · exact nl q
    · exact nf q
end
end L2
set_option maxRecDepth 100000
set_option maxHeartbeats 4000000
namespace L2
open PySem PySem.Spec PyProof.Rows
def exO (a C : Addr) : HO := .ext fun h => ∃ o, h.get? a = some o ∧ o.cls = .ref C ∧ o.dict = none ∧ (∀ cd, o.data ≠ .cls cd)
abbrev Cx.hand (X : Cx) (v : Value) : Cx := { X with A := X.A.mark (some v), calm := false, xe := fun _ _ => False }
section
variable {X : Cx} {pins : List (Addr × Obj)} {σ : St} {H : Hp} {s : Shared} {v : Value}
theorem Inv.hand (I : Inv X pins σ H s) (v : Value) : Inv (X.hand v) pins σ H s :=
  ⟨⟨I.ok.mod, I.ok.kind, I.ok.glob, I.ok.blt, I.ok.above, I.ok.inj, I.ok.has, I.ok.cab, (fun z => nomatch z), I.ok.frames, I.ok.stk, I.ok.exf, I.ok.bs, I.ok.bsz, I.ok.noex, I.ok.exfs, I.ok.funs, I.ok.frf⟩, I.os, I.bare, I.base, I.loc, I.cell, I.free, I.freeC, I.pin, I.hok, I.len⟩
theorem Inv.unhand (I : Inv (X.hand v) pins σ H s) (ok : X.Ok) : Inv X pins σ H s := ⟨ok, I.os, I.bare, I.base, I.loc, I.cell, I.free, I.freeC, I.pin, I.hok, I.len⟩
theorem SP.unhand {D : Ends} {f : Flow} {s' : Shared} (ok : X.Ok) (h : SP (X.hand v) pins D f s') : SP X pins D f s' := by
  cases f with
  | next => exact let ⟨σ', H', I, q⟩ := h; ⟨σ', H', I.unhand ok, q⟩
  | brk => exact let ⟨σ', H', I, q⟩ := h; ⟨σ', H', I.unhand ok, q⟩
  | cont => exact let ⟨σ', H', I, q⟩ := h; ⟨σ', H', I.unhand ok, q⟩
  | ret u => exact let ⟨v, σ', H', I, r, q⟩ := h; ⟨v, σ', H', I.unhand ok, r, q⟩
theorem Inv.track {x C : Addr} (I : Inv X pins σ H s) (hx : H x = none) (h0 : X.s₀.heap.get? x = none) (hC : ∃ o, s.heap.get? x = some o ∧ o.cls = .ref C ∧ o.dict = none ∧ ∀ cd, o.data ≠ .cls cd) (nl : x ≠ X.env.locals) (nc : ∀ y c, X.env.cells.lookup y = some c → c ≠ x) (np : ∀ p ∈ X.pn ++ pins, p.1 ≠ x) :
    Inv X pins σ (upd H x (exO x C)) s := by
  have ne : ∀ b u, H b = some u → b ≠ x := fun b u e z => by rw [z, hx] at e; cases e
  have ne0 : ∀ b o, X.s₀.heap.get? b = some o → b ≠ x := fun b o e z => by rw [z, h0] at e; cases e
  refine ⟨I.ok, I.os, I.bare, ⟨I.base.keep, I.base.slot, fun b o e n hb => ?_, I.base.there, fun b xs e => ?_, fun b o u e => ?_, fun b ps e => ?_⟩, I.loc, I.cell, ?_, fun y c e => ?_, fun p hp => ?_, fun a o e => ?_, I.len⟩
  · rw [upd_ne (ne0 b o e)]; exact I.base.free b o e n hb
  · have := I.base.tups b xs e
    rw [upd_ne (ne b _ this)]; exact this
  · have := I.base.frzs b o u e
    rw [upd_ne (ne b _ this)]; exact this
  · obtain ⟨more, q⟩ := I.base.tbls b ps e
    exact ⟨more, by rw [upd_ne (ne b _ q)]; exact q⟩
  · rw [upd_ne (Ne.symm nl)]; exact I.free
  · rw [upd_ne (nc y c e)]; exact I.freeC y c e
  · obtain ⟨q1, q2, q3⟩ := I.pin p hp
    exact ⟨q1, by rw [upd_ne (np p hp)]; exact q2, q3⟩
  · by_cases z : a = x
    · subst z
      rw [upd_same] at e
      cases e
      obtain ⟨o, q1, q2, q4, q3⟩ := hC
      exact ⟨⟨o, q1, q2, q4, q3⟩, ⟨o, q1⟩, fun h1 h2 ⟨o', p1, p2, p3, p4⟩ k => ⟨o', k o' p1, p2, p3, p4⟩⟩
    · rw [upd_ne z] at e
      refine (I.hok a o e).stay (fun _ _ _ q => q) (fun b q => ?_) fun b xs q => ?_
      · rw [upd_ne (ne b _ q)]; exact q
      · rw [upd_ne (ne b _ q)]; exact q
theorem name_goes {M : Model} {A : Around} {E : Value → Shared → Prop} {i : Nat} {n : Str} {pos : Pos} {Q : Unit → Shared → Prop} (I : Inv X pins σ H s) (hN : X.N.Nodup) (hi : X.N[i]? = some n) (hl : X.env.scope.names.lookup n = some .local)
    (h : ∀ s', Inv X pins (σ.set i none) H s' → Q () s') : wpAny M A (do bindName X.env n .none; unbindBehindTheSuite X.env n pos) Q E s := by
  have hcls : (X.env.scope.kind == .class || (X.env.scope.kind == .module && X.env.locals != X.env.globals)) = false := by rw [I.ok.kind]; rfl
  have hk : X.env.kindOf n = some .local := hl
  refine wpAny_bind (wpAny_bindName (store_ok I hN hi (.inl hl) (v := .non) (u := .none) rfl (fun s1 I1 => ?_) (.inr hl)))
  obtain ⟨m, hn, hm⟩ := id I1.loc
  unfold unbindBehindTheSuite
  refine wpAny_onRaise ?_
  unfold unbindName
  refine wpAny_bind (wpAny_point (wpAny_bind ?_))
  unfold deleteName
  simp only [hk, hcls]
  rw [if_neg (by decide)]
  refine wpAny_bind (wpAny_nsDel_keeps hn fun h2 w hn2 hs => ?_)
  have hiσ : i < σ.length := by rw [I.len]; exact (List.getElem?_eq_some_iff.mp hi).1
  have some_n : (m n).isSome = true := by
    obtain ⟨u, r, q⟩ := hm i n .non hi (List.getElem?_set_self hiσ) (.inl hl)
    rcases q with ⟨_, q⟩ | ⟨q, _⟩
    · rw [q]; rfl
    · rw [hk] at q; rcases q with q | q <;> cases q
  rw [some_n]
  simp only [if_true, Bool.not_true, Bool.false_eq_true, if_false]
  refine wpAny_pure (wpAny_point (h _ ?_))
  have hs : Heap.SameBut X.env.locals s1.heap h2 := hs
  refine ⟨I1.ok, I1.os, I1.bare, ⟨fun b o e n hb hx => ?_, fun b o e n hb hx => ?_, I1.base.free, fun b o e hx => ?_, I1.base.tups, I1.base.frzs, I1.base.tbls⟩, ⟨_, hn2, fun j y v' e1 e2 e3 => ?_⟩, fun y c e => ?_, I1.free, I1.freeC, fun p hp => ?_, fun b ob e => ?_, by simpa using I.len⟩
  · exact (hs.2 b (Nat.ne_of_lt (Nat.lt_of_lt_of_le (Heap.lt_size e) I.ok.above))).trans (I1.base.keep b o e n hb hx)
  · obtain ⟨sl, e1⟩ := I1.base.slot b o e n hb hx
    exact ⟨sl, (hs.2 b (Nat.ne_of_lt (Nat.lt_of_lt_of_le (Heap.lt_size e) I.ok.above))).trans e1⟩
  · obtain ⟨o', e1⟩ := I1.base.there b o e hx
    exact ⟨o', (hs.2 b (Nat.ne_of_lt (Nat.lt_of_lt_of_le (Heap.lt_size e) I.ok.above))).trans e1⟩
  · by_cases hj : i = j
    · subst hj
      rw [List.getElem?_set_self hiσ] at e2; cases e2
    · rw [List.getElem?_set_ne hj] at e2
      obtain ⟨u, r, q⟩ := hm j y v' e1 (by rw [List.getElem?_set_ne hj]; exact e2) e3
      refine ⟨u, r, ?_⟩
      have yn : y ≠ n := fun z => hj (nodup_ix hN hi (z ▸ e1))
      rcases q with ⟨k1, q⟩ | ⟨k1, c, e, z⟩
      · exact .inl ⟨k1, by show (if y = n then w else m y) = _; rw [if_neg yn]; exact q⟩
      · exact .inr ⟨k1, c, e, z.sameBut hs (I1.cne y c e)⟩
  · obtain ⟨w', z⟩ := I1.cell y c e
    exact ⟨w', z.sameBut hs (I1.cne y c e)⟩
  · obtain ⟨e, n, ne, nf, d⟩ := I1.pin p hp
    exact ⟨(hs.2 p.1 ne).trans e, n, ne, nf, d⟩
  · refine (I1.hok b ob e).stay (fun c w' hc q => (hs.2 c ?_).trans q) (fun _ q => q) fun _ _ q => q
    rintro rfl
    rcases hc with rfl | hc
    · rw [I1.free] at e; cases e
    · rw [I1.free] at hc; cases hc
theorem flight_over {M : Model} {A : Around} {E : Value → Shared → Prop} {x T : Addr} {oe : Obj} {Q : Unit → Shared → Prop} (ht : Trc s.heap x oe T) (h : ∀ h', (∀ b u, s.heap.get? b = some u → h'.get? b = some u) → Q () { s with heap := h' }) : wpAny M A (setFlight (.ref x) none) Q E s := by
  obtain ⟨he, ⟨vs, hd, h1⟩, hne, oT, ts, hT, hdT, h3⟩ := ht
  unfold setFlight
  refine wpAny_bind (wpAny_field he hd h1 ?_)
  rw [if_pos (by simp)]
  refine wpAny_setField hT hdT (Array.getElem?_eq_some_iff.mp h3).1 (h _ fun b u e => ?_)
  by_cases z : b = T
  · subst z
    cases hT.symm.trans e
    have same : Obj.mapFields (·.setIfInBounds 3 ((none : Option Addr).elim Value.none fun f => rawInt f)) oT = oT := by
      obtain ⟨c, d, dt, sl⟩ := oT
      cases hdT
      show (Obj.mk c d (.fields (ts.setIfInBounds 3 Value.none)) sl) = _
      congr 2
      apply Array.ext
      · simp
      · intro k hk1 hk2
        rw [Array.getElem_setIfInBounds (by simpa using hk2)]
        split
        · rename_i q
          subst q
          have := (Array.getElem?_eq_some_iff.mp h3).2
          exact this.symm
        · rfl
    have := Heap.get?_update_self (Obj.mapFields (·.setIfInBounds 3 ((none : Option Addr).elim Value.none fun f => rawInt f))) hT (by rw [same]; exact Obj.isFreed_of_fields hdT)
    rw [same] at this
    exact this
  · rw [Heap.get?_update_other _ _ (Ne.symm z)]; exact e
end
end L2
set_option maxRecDepth 100000
set_option maxHeartbeats 4000000
namespace L2
open PySem PySem.Spec PyProof.Rows
structure Caught (X : Cx) (pins : List (Addr × Obj)) (H : Hp) (s : Shared) (x C : Addr) : Prop where
  tr : ∃ oe T, Trc s.heap x oe T ∧ oe.cls = .ref C ∧ oe.dict = none
  hx : H x = none
  h0 : X.s₀.heap.get? x = none
  nl : x ≠ X.env.locals
  nc : ∀ y c, X.env.cells.lookup y = some c → c ≠ x
  np : ∀ p ∈ X.pn ++ pins, p.1 ≠ x
theorem Caught.kept {X : Cx} {pins : List (Addr × Obj)} {H : Hp} {s : Shared} {x C : Addr} {h' : Heap} (c : Caught X pins H s x C) (k : ∀ b u, s.heap.get? b = some u → h'.get? b = some u) : Caught X pins H { s with heap := h' } x C :=
  let ⟨oe, T, ⟨e, d, n, oT, ts, a1, a2⟩, hc⟩ := c.tr
  ⟨⟨oe, T, ⟨k _ _ e, d, n, oT, ts, k _ _ a1, a2⟩, hc⟩, c.hx, c.h0, c.nl, c.nc, c.np⟩
theorem Caught.obj {X : Cx} {pins : List (Addr × Obj)} {H : Hp} {s : Shared} {x C : Addr} (c : Caught X pins H s x C) : ∃ o, s.heap.get? x = some o ∧ o.cls = .ref C ∧ o.dict = none ∧ ∀ cd, o.data ≠ .cls cd :=
  let ⟨oe, T, ⟨e, ⟨vs, d, _⟩, _, _⟩, hc, hd⟩ := c.tr
  ⟨oe, e, hc, hd, fun cd z => by rw [d] at z; cases z⟩
def HB (X : Cx) (hs : List ExceptHandler) (th : Addr → TS) : Prop := ∀ (pins : List (Addr × Obj)) (σ : St) (H : Hp) (s : Shared) (x C : Addr) (D : Ends), Inv X pins σ H s → Caught X pins H s x C → th C D σ H → wpAny (model X.prog X.w) X.A (handleBy (.ref x) X.env hs) (SP X pins D) X.xe s
theorem hb_nil {X : Cx} : HB X [] fun _ _ _ _ => False := fun _ _ _ _ _ _ _ _ _ z => z.elim
def tEx (sub : Addr → Option Bool) (tb : Addr → TS) (th : Addr → TS) : Addr → TS := fun C D σ H => match sub C with
  | some true => tb C D σ H
  | some false => th C D σ H
  | none => False
def tAs (i : Nat) (tb : TS) : Addr → TS := fun C D σ H => ∀ x, H x = none → tb { nx := fun σ' H' => D.nx (σ'.set i none) H', rt := D.rt, bk := fun σ' H' => D.bk (σ'.set i none) H', ct := fun σ' H' => D.ct (σ'.set i none) H' } (σ.set i (some (.ref x))) (upd H x (exO x C))
section
variable {X : Cx} {c : Str} {Dc : Addr} {np pos : Pos} {b0 : Stmt} {suite : List Stmt} {rest : List ExceptHandler} {sub : Addr → Option Bool} {tb : TS} {th : Addr → TS}
theorem hb_test {pins : List (Addr × Obj)} {σ : St} {H : Hp} {s : Shared} {x C : Addr} {name : Option Str} {body : List Stmt} {b : Bool} {Q : Flow → Shared → Prop} (I : Inv X pins σ H s) (cg : Caught X pins H s x C) (hg : Gl X c) (hm : X.mg c = some (.ref Dc)) (hs : PySem.W.exmOne X.K (.ref C) (.ref Dc) = some b)
    (h : if b then codeAny (model X.prog X.w) (X.A.mark (some (.ref x))) (.handlers (.ref x) [.ExceptHandler none name body pos] X.env) (fun r s₂ => match r with
        | .ok f => (match name with
          | none => Q f s₂
          | some n => wpAny (model X.prog X.w) X.A (do bindName X.env n .none; unbindBehindTheSuite X.env n pos) (fun _ s₃ => Q f s₃) X.xe s₂)
        | .error x => cameBackBy (model X.prog X.w) X.A X.env X.xe x s₂) s
      else wpAny (model X.prog X.w) X.A (handleBy (.ref x) X.env rest) Q X.xe s) (hdb : (c == ("__debug__" : Str)) = false) : wpAny (model X.prog X.w) X.A (handleBy (.ref x) X.env (.ExceptHandler (some (.Name c np)) name body pos :: rest)) Q X.xe s := by
  obtain ⟨o, ho, hc, _⟩ := cg.obj
  have LT : PySem.W.Looks (model X.prog X.w) s.heap (typeOf (.ref x)) (.ref C) := hc ▸ (PySem.W.Looks.ld ho).andThen .now
  refine wpAny_handleBy_cons (codeAny_handlers_test ?_) (by intro q; cases q)
  refine ld_glob (I.hand (.ref x)) hg hm ((PySem.W.exm_one I.kIn LT hs).here ?_) hdb
  cases b with
  | true => exact h
  | false => exact h
theorem hb_one (hg : Gl X c) (hm : X.mg c = some (.ref Dc)) (hs : ∀ C b, sub C = some b → PySem.W.exmOne X.K (.ref C) (.ref Dc) = some b) (hb : ∀ v, PSs (X.hand v) (b0 :: suite) tb) (hr : HB X rest th) (hdb : (c == ("__debug__" : Str)) = false := by decide) :
    HB X (.ExceptHandler (some (.Name c np)) none (b0 :: suite) pos :: rest) (tEx sub (fun _ => tb) th) := by
  intro pins σ H s x C D I cg h
  unfold tEx at h
  split at h
  · rename_i e
    refine hb_test I cg hg hm (hs C _ e) ?_ hdb
    rw [if_pos rfl]
    obtain ⟨oe, T, tr, _⟩ := cg.tr
    refine codeAny_handlers_suite (flight_over tr fun h' k => ?_)
    have J := (I.kept (t' := s.toks) k).hand (.ref x)
    exact wpAny_mono (hb (.ref x) pins _ σ H D J h) (fun f s2 q => q.unhand I.ok) fun _ _ z => False.elim z
  · rename_i e
    exact hb_test I cg hg hm (hs C _ e) (hr pins σ H s x C D I cg h) hdb
  · exact h.elim
theorem hb_as {i : Nat} {n : Str} (hN : X.N.Nodup) (hi : X.N[i]? = some n) (hl : X.env.scope.names.lookup n = some .local) (hg : Gl X c) (hm : X.mg c = some (.ref Dc)) (hs : ∀ C b, sub C = some b → PySem.W.exmOne X.K (.ref C) (.ref Dc) = some b)
    (hb : ∀ v, PSs (X.hand v) (b0 :: suite) tb) (hr : HB X rest th) (hdb : (c == ("__debug__" : Str)) = false := by decide) : HB X (.ExceptHandler (some (.Name c np)) (some n) (b0 :: suite) pos :: rest) (tEx sub (tAs i tb) th) := by
  intro pins σ H s x C D I cg h
  unfold tEx at h
  split at h
  · rename_i e
    refine hb_test I cg hg hm (hs C _ e) ?_ hdb
    rw [if_pos rfl]
    obtain ⟨oe, T, tr, _⟩ := cg.tr
    refine codeAny_handlers_suite_as (flight_over tr fun h' k => ?_)
    have I2 := I.kept (t' := s.toks) k
    have cg2 := cg.kept k
    have J := (I2.track cg2.hx cg2.h0 cg2.obj cg2.nl cg2.nc cg2.np).hand (.ref x)
    refine store_ok (X := X.hand (.ref x)) J hN hi (.inl hl) (v := .ref x) rfl (fun s3 J3 => ?_) (.inr hl)
    refine wpAny_mono (hb (.ref x) pins s3 _ _ _ J3 (h x cg.hx)) (fun f s4 q => ?_) fun _ _ z => False.elim z
    have q := q.unhand I.ok
    cases f with
    | next =>
      obtain ⟨σ', H', I4, q⟩ := q
      exact name_goes I4 hN hi hl fun s5 I5 => ⟨_, _, I5, q⟩
    | brk =>
      obtain ⟨σ', H', I4, q⟩ := q
      exact name_goes I4 hN hi hl fun s5 I5 => ⟨_, _, I5, q⟩
    | cont =>
      obtain ⟨σ', H', I4, q⟩ := q
      exact name_goes I4 hN hi hl fun s5 I5 => ⟨_, _, I5, q⟩
    | ret u =>
      obtain ⟨v, σ', H', I4, r, q⟩ := q
      exact name_goes I4 hN hi hl fun s5 I5 => ⟨v, _, _, I5, r, q⟩
  · rename_i e
    exact hb_test I cg hg hm (hs C _ e) (hr pins σ H s x C D I cg h) hdb
  · exact h.elim
end
def tTry (tb : (St → XK) → TS) (th : Addr → TS) : TS := fun D σ H => tb (fun σ' cls dx H' => ∃ C, cls = .ref C ∧ dx = none ∧ th C D σ' H') D σ H
theorem ps_try {X : Cx} {body : List Stmt} {h0 : ExceptHandler} {hs : List ExceptHandler} {pos : Pos} {tb : (St → XK) → TS} {th : Addr → TS} (hstk : X.stack = X.env :: X.outer) (hfr : X.env.frame = some X.env.locals) (hex : X.ex = [])
    (hb : ∀ (p : List (Addr × Obj)) (E' : Value → Shared → Prop) (Es : St → XK), PassesS (CXE X.prog X.w) (X.pinned p E') Es → PSs (X.pinned p E') body (tb Es)) (hh : HB X (h0 :: hs) th) : PS X (.Try body (h0 :: hs) [] [] pos) (tTry tb th) := by
  intro pins s σ H D I h
  let Es : St → XK := fun σ' cls dx H' => ∃ C, cls = .ref C ∧ dx = none ∧ th C D σ' H'
  let E' : Value → Shared → Prop := fun e s' => ∃ σ1 H1 s1, Inv X pins σ1 H1 s1 ∧ CXE X.prog X.w X.stack H1 s1 (Es σ1) e s'
  have hp : PassesS (CXE X.prog X.w) (X.pinned (X.pn ++ pins) E') Es := fun p1 σ1 H1 s1 e s' I1 c => ⟨σ1, H1, s1, I1.ofPinned, c⟩
  refine wpAny_Try_except (wpAny_mono (hb (X.pn ++ pins) E' Es hp [] s σ H D (I.toPinned E') h) (fun f s1 q => ?_) fun e s1 ⟨σ1, H1, s2, I1, x, oe, T0, H2, C, he, os, bare, fl, hE⟩ => ?_)
  · cases f with
    | next =>
      obtain ⟨σ1, H1, I1, q⟩ := q
      exact wpAny_execs_nil ⟨σ1, H1, I1.ofPinned, q⟩
    | brk => exact let ⟨σ1, H1, I1, q⟩ := q; ⟨σ1, H1, I1.ofPinned, q⟩
    | cont => exact let ⟨σ1, H1, I1, q⟩ := q; ⟨σ1, H1, I1.ofPinned, q⟩
    | ret u => exact let ⟨v, σ1, H1, I1, r, q⟩ := q; ⟨v, σ1, H1, I1.ofPinned, r, q⟩
  · subst he
    have J := I1.call' os fl.un fl.hok bare (fun b z => absurd z (by simp))
    have fs := J.stack
    have ff := J.ok.frames
    rw [hstk] at fs ff
    refine land_next (base := X.base) ff fs hfr fl.tr fun h1 h' T h01 hsz xl => ?_
    rw [← hstk] at xl
    have J2 := I1.landed J hstk hfr hex fl.nx fl.hx fl.nT fl.hT h01 hsz xl fl.cls
    obtain ⟨oe', vs, e1, e2, e3, e4, e5⟩ := xl.exc
    obtain ⟨C', hC', hdx, q⟩ := hE
    cases hC'
    refine hh pins σ1 H2 _ x C D J2 ⟨⟨oe', T, ⟨e1, ⟨vs, e4, e5⟩, xl.ne, xl.trc⟩, e2.trans fl.cls, e3.trans hdx⟩, fl.hx, I1.old hex fl.nx, fun z => ?_, fun y c e z => ?_, fun p hp z => ?_⟩ q
    · obtain ⟨m, ⟨o, _, _, ho, _⟩, _⟩ := I1.loc
      rw [← z, fl.nx] at ho; cases ho
    · obtain ⟨v, o, ho, _⟩ := I1.cell y c e
      rw [z, fl.nx] at ho; cases ho
    · obtain ⟨e, _⟩ := I1.pin p hp
      rw [z, fl.nx] at e; cases e
end L2
set_option maxRecDepth 100000
set_option maxHeartbeats 4000000
namespace L2
open PySem PySem.Spec PyProof.Rows PySem.W
structure ExK (K : PySem.W.Frag) (D : Addr) : Prop where
  ga : findIn K (.ref D) "__getattribute__" = some (some (.builtin "BaseException.__getattribute__"))
  hk : findIn K (.ref D) "__getattr__" = some none
  cl : findIn K (.ref D) "__class__" = some (some (.builtin "object.__class__"))
  gt : specialIn K (.builtin "object.__class__") "__get__" = some (some (.builtin "getset_descriptor.__get__"))
  tk : takesIn K (.builtin "object.__class__") = some true
  ob : mroIn K D (.type "object") = some true
  be : mroIn K D (.type "BaseException") = some true
section
variable {prog : Program} {w : World} {A : Around} {E : Value → Shared → Prop} {s : Shared} {K : PySem.W.Frag} {x D : Addr} {ox : Obj}
theorem findObj_dataN {C : Addr} {name : Str} {a g : Value} (hc : (clsIn K C).isSome = true) (ha : findIn K (.ref C) name = some (some a)) (hg : specialIn K a "__get__" = some (some g)) (ht : takesIn K a = some true) : findObj K C none name = some (.bind g a) := by
  obtain ⟨cd, hc⟩ := Option.isSome_iff_exists.mp hc
  unfold findObj
  rw [hc, Option.bind_some, ha, Option.bind_some]
  simp [hg, ht]
theorem ExK.cls (k : ExK K D) : (clsIn K D).isSome = true := by
  obtain ⟨cd, hc, _⟩ := Option.bind_eq_some_iff.mp k.ob
  rw [hc]; rfl
theorem exc_class {Q : Option Value → Shared → Prop} (k : ExK K D) (X : K.In s.heap) (I : InstAt s.heap x ox D none) (h : Q (some (.ref D)) { s with toks := s.toks + 1 }) : wpAny (model prog w) A (getAttr? (.ref x) "__class__") Q E s := by
  obtain ⟨hh, g, d, t, os⟩ := s
  have L0 := I.type (M := model prog w)
  have L1 := looks_findIn (M := model prog w) X k.ga
  have L2 := looks_findIn (M := model prog w) X k.hk
  have L3 := looks_mroIn (M := model prog w) X k.be
  have L4 := looks_find (M := model prog w) X I (findObj_dataN k.cls k.cl k.gt k.tk)
  unfold getAttr? getAttrBy? getAttrBy
  refine wpAny_bind (wpAny_mkText (wpAny_bind (wpAny_attempt (wpAny_holding (wpAny_bind (L0.at (wpAny_bind (L1.at ?_))))))))
  have ne : (onTheHeap (Value.ref D) && (Value.builtin "BaseException.__getattribute__" == Value.builtin "object.__getattribute__")) = false := by
    rw [show (Value.builtin "BaseException.__getattribute__" == Value.builtin "object.__getattribute__") = false by decide +kernel, Bool.and_false]
  dsimp only
  rw [if_neg (by rw [ne]; decide)]
  unfold getAttrByItsOwn hookBefore
  rw [if_pos (by rfl)]
  refine wpAny_bind (L2.at ?_)
  unfold callGetattribute
  rw [if_neg (by decide)]
  unfold boundAndCalled
  refine wpAny_bind (wpAny_attempt (wpAny_holding (wpAny_bind ?_)))
  rw [F.attr_ValueError.ga.bind]
  refine wpAny_pure ?_
  refine wpAny_call (codeAny_call_builtin F.attr_ValueError.ga.plain F.entry_bexc_ga ?_)
  have hkd : builtinKind "BaseException.__getattribute__" = some .slot := by decide +kernel
  have hsp : splitId "BaseException.__getattribute__" = some ("BaseException", "__getattribute__") := by decide +kernel
  have ha := F.args_bexc_ga (.ref x) (.str "__class__" t)
  have LI : Looks (model prog w) hh (isInstance (.ref x) (.type "BaseException")) true := L0.andThen L3
  show wpAny _ _ (checkBuiltinCall "BaseException.__getattribute__" ⟨[.ref x, .str "__class__" t], []⟩) _ _ _
  simp only [checkBuiltinCall, hkd, hsp]
  refine wpAny_bind (LI.at ?_)
  repeat wp_step
  refine wpAny_loadPart I.at_ ?_
  rw [I.cls]
  refine wpAny_pure (wpAny_bind (L4.at ?_))
  dsimp only
  unfold Builtin.ObjectAttr.bindTo
  dsimp only
  repeat wp_step
  refine class_get (ox := ox) (od := none) X I k.ob ?_
  exact wpAny_pure (handed_on rfl (wpAny_pure h))
def ExAt (x D : Addr) (h : Heap) : Prop := ∃ o, h.get? x = some o ∧ o.cls = .ref D ∧ o.dict = none ∧ (∀ cd, o.data ≠ .cls cd)
theorem ExAt.inst {h : Heap} (e : ExAt x D h) : ∃ ox, InstAt h x ox D none := by
  obtain ⟨o, h1, h2, h3, h4⟩ := e
  refine ⟨o, h1, h2, ?_, by rw [h3]; trivial⟩
  unfold notCls
  split
  · rename_i cd z; exact absurd z (h4 cd)
  · rfl
theorem kitx_exc (k : ExK K D) : KitX K (.ref x) (.ref D) (ExAt x D) where
  ty := fun _ _ _ e => let ⟨_, i⟩ := e.inst; i.type
  it := fun _ _ X _ => by
    obtain ⟨cd, hc⟩ := Option.isSome_iff_exists.mp k.cls
    unfold clsIn at hc
    split at hc
    · rename_i look
      intro A' Q' E' s' kp q
      unfold isType loadHead
      exact wpAny_bind (wpAny_loadPart (kp _ _ (X _ _ look)) (wpAny_pure q))
    · cases hc
  ne := fun h tp dd its n sl X htp => by
    obtain ⟨cd, hc⟩ := Option.isSome_iff_exists.mp k.cls
    refine Bool.eq_false_iff.mpr fun q => ?_
    cases Value.ref.inj (beq_iff_eq.mp q)
    unfold clsIn at hc
    split at hc
    · rename_i look
      cases (X _ _ look).symm.trans htp
    · cases hc
  ca := fun X e h => let ⟨_, i⟩ := e.inst; exc_class k X i h
end
def rIsx (K : PySem.W.Frag) : List V → Hp → VK → Prop := fun xs H Q => ∃ a D b, H a = some (exO a D) ∧ ExK K D ∧ Q (.bl b) H ∧
  ((∃ C, xs = [.ref a, .ref C] ∧ kitOne K (.ref D) (.ref C) = some b) ∨ (∃ T, xs = [.ref a, .ty T] ∧ kitOne K (.ref D) (.type T) = some b) ∨ ∃ (tp : Addr) (Cs : List Addr), xs = [.ref a, .ref tp] ∧ H tp = some (.tup (Cs.map V.ref)) ∧ kitAny K (.ref D) (Cs.map Value.ref) = some b)
theorem vals_refs : ∀ {Cs : List Addr} {us : List Value}, Vals (Cs.map V.ref) us → us = Cs.map Value.ref
  | [], _, h => by cases h; rfl
  | C :: Cs, _, h => by
    cases h with
    | cons r t =>
      rw [vals_refs t]
      cases r
      rfl
theorem call_isx {X : Cx} : CallR X (.builtin "isinstance") (rIsx X.K) := by
  intro pins s σ H xs us Q I r h
  obtain ⟨a, D, b, ha, k, q, h⟩ := h
  have at_ : ExAt a D s.heap := (I.hok a _ ha).1
  have fin : ∀ tk, EP X pins σ Q (.bool b) { s with toks := tk } := fun tk => ⟨.bl b, H, I.tok tk, rfl, q⟩
  rcases h with ⟨C, rfl, hk⟩ | ⟨T, rfl, hk⟩ | ⟨tp, Cs, rfl, htp, hk⟩
  · obtain ⟨u, v, rfl, r1, r2⟩ := vals2 r
    cases (show u = Value.ref a from r1)
    cases (show v = Value.ref C from r2)
    exact kia_one (kitx_exc k) I.kIn at_ hk (fun z => nomatch z) fin
  · obtain ⟨u, v, rfl, r1, r2⟩ := vals2 r
    cases (show u = Value.ref a from r1)
    cases (show v = Value.type T from r2)
    exact kia_one (kitx_exc k) I.kIn at_ hk (fun z => nomatch z) fin
  · obtain ⟨u, v, rfl, r1, r2⟩ := vals2 r
    cases (show u = Value.ref a from r1)
    cases (show v = Value.ref tp from r2)
    obtain ⟨_, its, rv, ob, ho, hc, n, hd⟩ := I.hok tp _ htp
    cases vals_refs rv
    obtain ⟨c0, d0, dt, sl⟩ := ob
    cases hc
    cases hd
    exact kia_tup (kitx_exc k) I.kIn at_ ho hk (fun z => nomatch z) fin
end L2
set_option maxRecDepth 100000
set_option maxHeartbeats 4000000
namespace L2
open PySem PySem.Spec PyProof.Rows
section
variable {X : Cx} {pins : List (Addr × Obj)} {σ : List (Option V)} {H : Hp} {s : Shared} {h' : Heap}
end
section
variable {X : Cx} {tg : Expr}
end
end L2
set_option maxRecDepth 100000
set_option maxHeartbeats 4000000
namespace L2
open PySem PySem.Spec PyProof.Rows
section
variable {X : Cx} {e se : Expr} {te : TE} {lo hi : Option Expr} {tl th ts : TO} {pos p2 : Pos}
end
end L2
set_option maxRecDepth 100000
set_option maxHeartbeats 4000000
namespace L2
open PySem PySem.Spec PyProof.Rows
section
variable {X : Cx} {tg : Expr}
end
end L2
set_option maxRecDepth 100000
set_option maxHeartbeats 4000000
namespace L2
open PySem PySem.Spec PyProof.Rows
section
variable {X : Cx}
end
end L2
set_option maxRecDepth 100000
set_option maxHeartbeats 4000000
namespace M
open PySem L2
inductive D where
  | non | bl (b : Bool) | int (i : Int) | str (x : Str) | lst (xs : List D) | tup (xs : List D) | ptr (k : Nat) | obj (c : Nat) (ns : List Str) (ds : List D) | exn (c : Nat)
inductive Cell where
  | dead | lst (xs : List D) | ins (c : Nat) (ns : List Str) (ds : List D)
abbrev Store := List Cell
structure S where
  r : List (Option D)
  o : Store
inductive Res (α : Type) where
  | ok (a : α) | exc (c : Nat) (a : D) (o : S) | bad
def Res.bind {α β : Type} (x : Res α) (f : α → Res β) : Res β := match x with
  | .ok a => f a
  | .exc c a o => .exc c a o
  | .bad => .bad
@[simp] theorem bind_ok {α β : Type} (a : α) (f : α → Res β) : (Res.ok a).bind f = f a := rfl
@[simp] theorem bind_exc {α β : Type} (c : Nat) (a : D) (o : S) (f : α → Res β) : (Res.exc c a o : Res α).bind f = .exc c a o := rfl
@[simp] theorem bind_bad {α β : Type} (f : α → Res β) : (Res.bad : Res α).bind f = .bad := rfl
abbrev Wsh := Nat → D → S → Hp → Hp → List Addr → Prop
structure Ct where
  K : PySem.W.Frag
  ca : Nat → Addr
  W : Wsh
mutual
def Rep (K : PySem.W.Frag) (ca : Nat → Addr) (θ : List Addr) (F : Hp) : D → V → Prop
  | .non, v => v = .non
  | .bl b, v => v = .bl b
  | .int i, v => v = .int i
  | .str x, v => v = .str x
  | .lst ds, v => ∃ a xs, v = .ref a ∧ SqL K F a xs ∧ Reps K ca θ F ds xs
  | .tup ds, v => ∃ a xs, v = .ref a ∧ SqT K F a xs ∧ Reps K ca θ F ds xs
  | .ptr k, v => ∃ a, v = .ref a ∧ θ[k]? = some a
  | .obj c ns ds, v => ∃ a dx xs, v = .ref a ∧ F a = some (.ins (ca c) dx (ns.zip xs)) ∧ ns.length = xs.length ∧ Reps K ca θ F ds xs
  | .exn c, v => ∃ a, v = .ref a ∧ F a = some (exO a (ca c))
def Reps (K : PySem.W.Frag) (ca : Nat → Addr) (θ : List Addr) (F : Hp) : List D → List V → Prop
  | [], xs => xs = []
  | d :: ds, xs => ∃ v r, xs = v :: r ∧ Rep K ca θ F d v ∧ Reps K ca θ F ds r
end
mutual
def pureD : D → Bool
  | .lst ds => pureDs ds
  | .tup ds => pureDs ds
  | .ptr _ => false
  | .obj _ _ ds => pureDs ds
  | _ => true
def pureDs : List D → Bool
  | [] => true
  | d :: ds => pureD d && pureDs ds
end
def scalD : D → Bool
  | .non => true | .bl _ => true | .int _ => true | .str _ => true | _ => false
theorem Same.seqT {K : PySem.W.Frag} {H H' : Hp} {a : Addr} {xs : List V} (e : Same H H') (h : SqT K H a xs) : SqT K H' a xs := by
  rcases h with (h | ⟨o, h⟩) | h
  · exact .inl (.inl (e _ _ h))
  · exact .inl (.inr ⟨o, e _ _ h⟩)
  · exact .inr h
section
variable {K : PySem.W.Frag} {ca : Nat → Addr} {θ θ1 : List Addr} {F F1 : Hp}
mutual
theorem Rep.mono (hF : Same F F1) (hθ : ∃ r, θ1 = θ ++ r) : ∀ {d : D} {v : V}, Rep K ca θ F d v → Rep K ca θ1 F1 d v
  | .non, _, h => h
  | .bl _, _, h => h
  | .int _, _, h => h
  | .str _, _, h => h
  | .lst ds, _, h => by
    unfold Rep at h ⊢
    obtain ⟨a, xs, e, hs, hr⟩ := h
    exact ⟨a, xs, e, hF.seq hs, Reps.mono hF hθ hr⟩
  | .tup ds, _, h => by
    unfold Rep at h ⊢
    obtain ⟨a, xs, e, hs, hr⟩ := h
    exact ⟨a, xs, e, Same.seqT hF hs, Reps.mono hF hθ hr⟩
  | .ptr k, _, h => by
    unfold Rep at h ⊢
    obtain ⟨a, e, hk⟩ := h
    obtain ⟨r, rfl⟩ := hθ
    refine ⟨a, e, ?_⟩
    rw [List.getElem?_append_left (List.getElem?_eq_some_iff.mp hk).1]
    exact hk
  | .obj c ns ds, _, h => by
    unfold Rep at h ⊢
    obtain ⟨a, dx, xs, e, ha, hl, hr⟩ := h
    exact ⟨a, dx, xs, e, hF _ _ ha, hl, Reps.mono hF hθ hr⟩
  | .exn c, _, h => by
    unfold Rep at h ⊢
    obtain ⟨a, e, ha⟩ := h
    exact ⟨a, e, hF _ _ ha⟩
theorem Reps.mono (hF : Same F F1) (hθ : ∃ r, θ1 = θ ++ r) : ∀ {ds : List D} {xs : List V}, Reps K ca θ F ds xs → Reps K ca θ1 F1 ds xs
  | [], _, h => h
  | d :: ds, _, h => by
    unfold Reps at h ⊢
    obtain ⟨v, r, e, h1, h2⟩ := h
    exact ⟨v, r, e, Rep.mono hF hθ h1, Reps.mono hF hθ h2⟩
end
mutual
theorem Rep.pure : ∀ {d : D} {v : V}, pureD d = true → Rep K ca θ F d v → Rep K ca θ1 F d v
  | .non, _, _, h => h
  | .bl _, _, _, h => h
  | .int _, _, _, h => h
  | .str _, _, _, h => h
  | .lst ds, _, p, h => by
    unfold Rep at h ⊢
    obtain ⟨a, xs, e, hs, hr⟩ := h
    exact ⟨a, xs, e, hs, Reps.pure (by simpa [pureD] using p) hr⟩
  | .tup ds, _, p, h => by
    unfold Rep at h ⊢
    obtain ⟨a, xs, e, hs, hr⟩ := h
    exact ⟨a, xs, e, hs, Reps.pure (by simpa [pureD] using p) hr⟩
  | .ptr k, _, p, h => by simp [pureD] at p
  | .obj c ns ds, _, p, h => by
    unfold Rep at h ⊢
    obtain ⟨a, dx, xs, e, ha, hl, hr⟩ := h
    exact ⟨a, dx, xs, e, ha, hl, Reps.pure (by simpa [pureD] using p) hr⟩
  | .exn c, _, _, h => by
    unfold Rep at h ⊢
    exact h
theorem Reps.pure : ∀ {ds : List D} {xs : List V}, pureDs ds = true → Reps K ca θ F ds xs → Reps K ca θ1 F ds xs
  | [], _, _, h => h
  | d :: ds, _, p, h => by
    unfold Reps at h ⊢
    obtain ⟨v, r, e, h1, h2⟩ := h
    simp only [pureDs, Bool.and_eq_true] at p
    exact ⟨v, r, e, Rep.pure p.1 h1, Reps.pure p.2 h2⟩
end
theorem Rep.scal {d : D} {v : V} (p : scalD d = true) (h : Rep K ca θ F d v) : Rep K ca θ1 F1 d v := by
  cases d <;> first | exact h | (simp [scalD] at p)
theorem Reps.length : ∀ {ds : List D} {xs : List V}, Reps K ca θ F ds xs → xs.length = ds.length
  | [], _, h => by unfold Reps at h; rw [h]; rfl
  | d :: ds, _, h => by
    unfold Reps at h
    obtain ⟨v, r, rfl, _, h2⟩ := h
    rw [List.length_cons, List.length_cons, Reps.length h2]
theorem Reps.get : ∀ {ds : List D} {xs : List V} {i : Nat} {d : D}, Reps K ca θ F ds xs → ds[i]? = some d → ∃ v, xs[i]? = some v ∧ Rep K ca θ F d v
  | [], _, _, _, _, e => by simp at e
  | d :: ds, _, 0, _, h, e => by
    unfold Reps at h
    obtain ⟨v, r, rfl, h1, _⟩ := h
    simp at e
    subst e
    exact ⟨v, rfl, h1⟩
  | d :: ds, _, i + 1, x, h, e => by
    unfold Reps at h
    obtain ⟨v, r, rfl, _, h2⟩ := h
    obtain ⟨u, e1, e2⟩ := Reps.get (i := i) (d := x) h2 (by simpa using e)
    exact ⟨u, by simpa using e1, e2⟩
theorem Reps.append : ∀ {ds es : List D} {xs ys : List V}, Reps K ca θ F ds xs → Reps K ca θ F es ys → Reps K ca θ F (ds ++ es) (xs ++ ys)
  | [], _, _, _, h, k => by unfold Reps at h; rw [h]; exact k
  | d :: ds, _, _, _, h, k => by
    unfold Reps at h
    obtain ⟨v, r, rfl, h1, h2⟩ := h
    show Reps K ca θ F (d :: (ds ++ _)) (v :: (r ++ _))
    unfold Reps
    exact ⟨v, _, rfl, h1, Reps.append h2 k⟩
theorem Reps.one {d : D} {v : V} (h : Rep K ca θ F d v) : Reps K ca θ F [d] [v] := by
  unfold Reps
  exact ⟨v, [], rfl, h, by unfold Reps; rfl⟩
theorem Reps.nil : Reps K ca θ F [] [] := by unfold Reps; rfl
theorem Reps.cons {d : D} {v : V} {ds : List D} {xs : List V} (h : Rep K ca θ F d v) (k : Reps K ca θ F ds xs) : Reps K ca θ F (d :: ds) (v :: xs) := by
  unfold Reps
  exact ⟨v, xs, rfl, h, k⟩
theorem Reps.take : ∀ {ds : List D} {xs : List V} (n : Nat), Reps K ca θ F ds xs → Reps K ca θ F (ds.take n) (xs.take n)
  | _, _, 0, _ => by simp; exact Reps.nil
  | [], _, n + 1, h => by unfold Reps at h; rw [h]; exact Reps.nil
  | d :: ds, _, n + 1, h => by
    unfold Reps at h
    obtain ⟨v, r, rfl, h1, h2⟩ := h
    exact Reps.cons h1 (Reps.take n h2)
theorem Reps.drop : ∀ {ds : List D} {xs : List V} (n : Nat), Reps K ca θ F ds xs → Reps K ca θ F (ds.drop n) (xs.drop n)
  | _, _, 0, h => h
  | [], _, n + 1, h => by unfold Reps at h; rw [h]; exact Reps.nil
  | d :: ds, _, n + 1, h => by
    unfold Reps at h
    obtain ⟨v, r, rfl, h1, h2⟩ := h
    exact Reps.drop n h2
theorem Reps.set {d : D} {v : V} (h : Rep K ca θ F d v) : ∀ {ds : List D} {xs : List V} (i : Nat), Reps K ca θ F ds xs → Reps K ca θ F (ds.set i d) (xs.set i v)
  | [], _, _, k => by unfold Reps at k; rw [k]; exact Reps.nil
  | _ :: _, _, 0, k => by
    unfold Reps at k
    obtain ⟨v, r, rfl, h1, h2⟩ := k
    exact Reps.cons h h2
  | _ :: _, _, i + 1, k => by
    unfold Reps at k
    obtain ⟨v, r, rfl, h1, h2⟩ := k
    exact Reps.cons h1 (Reps.set h i h2)
end
structure Stp (H F : Hp) (θ : List Addr) (H1 F1 : Hp) (θ1 : List Addr) : Prop where
  ff : Same F F1
  th : ∃ r, θ1 = θ ++ r ∧ ∀ a ∈ r, H a = none
  kp : ∀ b o, H b = some o → b ∉ θ → H1 b = some o
  al : ∀ b o, H b = some o → ∃ o', H1 b = some o'
  nf : ∀ b o, F1 b = some o → F b = some o ∨ H b = none ∨ b ∈ θ
theorem Stp.refl {H F : Hp} {θ : List Addr} : Stp H F θ H F θ := ⟨Same.refl _, ⟨[], by simp, by simp⟩, fun _ _ h _ => h, fun _ o h => ⟨o, h⟩, fun _ _ h => .inl h⟩
theorem Stp.pre {H F H1 F1 : Hp} {θ θ1 : List Addr} (x : Stp H F θ H1 F1 θ1) : ∃ r, θ1 = θ ++ r := let ⟨r, e, _⟩ := x.th; ⟨r, e⟩
theorem Stp.trans {H F H1 F1 H2 F2 : Hp} {θ θ1 θ2 : List Addr} (x : Stp H F θ H1 F1 θ1) (y : Stp H1 F1 θ1 H2 F2 θ2) : Stp H F θ H2 F2 θ2 := by
  obtain ⟨r, rfl, hr⟩ := x.th
  obtain ⟨r2, rfl, hr2⟩ := y.th
  refine ⟨x.ff.trans y.ff, ⟨r ++ r2, by rw [List.append_assoc], fun a ha => ?_⟩, fun b o h hb => ?_, fun b o h => ?_, fun b o h => ?_⟩
  · rcases List.mem_append.mp ha with z | z
    · exact hr a z
    · cases e : H a with
      | none => rfl
      | some o =>
        obtain ⟨o', e'⟩ := x.al a o e
        rw [hr2 a z] at e'
        cases e'
  · refine y.kp b o (x.kp b o h hb) fun hm => ?_
    rcases List.mem_append.mp hm with z | z
    · exact hb z
    · rw [hr b z] at h
      cases h
  · obtain ⟨o', e'⟩ := x.al b o h
    exact y.al b o' e'
  · rcases y.nf b o h with z | z | z
    · exact x.nf b o z
    · refine .inr (.inl ?_)
      cases e : H b with
      | none => rfl
      | some o' =>
        obtain ⟨o2, e2⟩ := x.al b o' e
        rw [z] at e2
        cases e2
    · rcases List.mem_append.mp z with q | q
      · exact .inr (.inr q)
      · exact .inr (.inl (hr b q))
def CellOk (K : PySem.W.Frag) (ca : Nat → Addr) (H F : Hp) (θ : List Addr) (a : Addr) : Cell → Prop
  | .dead => ∃ o, H a = some o
  | .lst ds => F a = none ∧ ∃ xs, H a = some (.lst xs) ∧ Reps K ca θ F ds xs
  | .ins c ns ds => F a = none ∧ ∃ dx xs, H a = some (.ins (ca c) dx (ns.zip xs)) ∧ ns.length = xs.length ∧ Reps K ca θ F ds xs
theorem CellOk.there {K : PySem.W.Frag} {ca : Nat → Addr} {H F : Hp} {θ : List Addr} {a : Addr} {c : Cell} (h : CellOk K ca H F θ a c) : ∃ o, H a = some o := by
  cases c with
  | dead => exact h
  | lst ds => obtain ⟨_, xs, e, _⟩ := h; exact ⟨_, e⟩
  | ins c ns ds => obtain ⟨_, dx, xs, e, _⟩ := h; exact ⟨_, e⟩
structure Now (K : PySem.W.Frag) (ca : Nat → Addr) (H F : Hp) (θ : List Addr) (O : Store) : Prop where
  fh : Same F H
  nd : θ.Nodup
  ln : θ.length = O.length
  ce : ∀ (k : Nat) a c, θ[k]? = some a → O[k]? = some c → CellOk K ca H F θ a c
theorem Now.there {K : PySem.W.Frag} {ca : Nat → Addr} {H F : Hp} {θ : List Addr} {O : Store} (n : Now K ca H F θ O) {a : Addr} (h : a ∈ θ) : ∃ o, H a = some o := by
  obtain ⟨k, hk, e⟩ := List.getElem_of_mem h
  have h1 : θ[k]? = some a := by rw [List.getElem?_eq_getElem hk, e]
  have h2 : ∃ c, O[k]? = some c := ⟨O[k]'(by rw [← n.ln]; exact hk), List.getElem?_eq_getElem _⟩
  obtain ⟨c, h2⟩ := h2
  exact (n.ce k a c h1 h2).there
theorem Now.nil {K : PySem.W.Frag} {ca : Nat → Addr} {H F : Hp} (h : Same F H) : Now K ca H F [] [] := ⟨h, List.nodup_nil, rfl, fun k a c e _ => by simp at e⟩
structure BS (K : PySem.W.Frag) (ca : Nat → Addr) (σ : St) (H F : Hp) (θ : List Addr) (s : S) : Prop where
  now : Now K ca H F θ s.o
  len : σ.length = s.r.length
  sl : ∀ (i : Nat) d, s.r[i]? = some (some d) → ∃ v, σ[i]? = some (some v) ∧ Rep K ca θ F d v
theorem BS.newF {K : PySem.W.Frag} {ca : Nat → Addr} {σ : St} {H F : Hp} {θ : List Addr} {s : S} (b : BS K ca σ H F θ s) {p : Addr} (hp : H p = none) (o : HO) :
    Stp H F θ (upd H p o) (upd F p o) θ ∧ BS K ca σ (upd H p o) (upd F p o) θ s ∧ Same F (upd F p o) ∧ upd F p o p = some o := by
  have nm : ∀ a u, H a = some u → a ≠ p := fun a u e z => by rw [z, hp] at e; cases e
  have fp : F p = none := by
    cases e : F p with
    | none => rfl
    | some u => rw [b.now.fh p u e] at hp; cases hp
  have sF : Same F (upd F p o) := fun a u e => by rw [upd_ne (nm a u (b.now.fh a u e))]; exact e
  have sH : Same H (upd H p o) := fun a u e => by rw [upd_ne (nm a u e)]; exact e
  refine ⟨⟨sF, ⟨[], by simp, by simp⟩, fun a u e _ => sH a u e, fun a u e => ⟨u, sH a u e⟩, fun a u e => ?_⟩, ⟨⟨fun a u e => ?_, b.now.nd, b.now.ln, fun k a c e1 e2 => ?_⟩, b.len, fun i d e => ?_⟩, sF, upd_same⟩
  · by_cases h : a = p
    · subst h; exact .inr (.inl hp)
    · rw [upd_ne h] at e; exact .inl e
  · by_cases h : a = p
    · subst h; rw [upd_same] at e ⊢; exact e
    · rw [upd_ne h] at e ⊢; exact b.now.fh a u e
  · have q := b.now.ce k a c e1 e2
    obtain ⟨u, hu⟩ := q.there
    have ne := nm a u hu
    cases c with
    | dead => exact ⟨u, sH a u hu⟩
    | lst ds =>
      obtain ⟨q1, xs, q2, q3⟩ := q
      exact ⟨by rw [upd_ne ne]; exact q1, xs, sH _ _ q2, q3.mono sF ⟨[], by simp⟩⟩
    | ins c ns ds =>
      obtain ⟨q1, dx, xs, q2, q3, q4⟩ := q
      exact ⟨by rw [upd_ne ne]; exact q1, dx, xs, sH _ _ q2, q3, q4.mono sF ⟨[], by simp⟩⟩
  · obtain ⟨v, h1, h2⟩ := b.sl i d e
    exact ⟨v, h1, h2.mono sF ⟨[], by simp⟩⟩
theorem BS.set {K : PySem.W.Frag} {ca : Nat → Addr} {σ : St} {H F : Hp} {θ : List Addr} {s : S} (b : BS K ca σ H F θ s) {d : D} {v : V} (h : Rep K ca θ F d v) (i : Nat) : BS K ca (σ.set i (some v)) H F θ ⟨s.r.set i (some d), s.o⟩ := by
  refine ⟨b.now, by simp [b.len], fun j e hj => ?_⟩
  by_cases hji : i = j
  · subst hji
    have hlt : i < s.r.length := by
      have := (List.getElem?_eq_some_iff.mp hj).1
      simpa using this
    rw [List.getElem?_set_self hlt] at hj
    cases hj
    exact ⟨v, List.getElem?_set_self (by rw [b.len]; exact hlt), h⟩
  · rw [List.getElem?_set_ne hji] at hj
    obtain ⟨u, h1, h2⟩ := b.sl j e hj
    exact ⟨u, by rw [List.getElem?_set_ne hji]; exact h1, h2⟩
abbrev EM := S → Res (D × S)
abbrev AM := S → Res (List D × S)
inductive Out where
  | next (s : S) | ret (d : D) (s : S) | brk (s : S) | cnt (s : S) | exc (c : Nat) (a : D) (o : S) | bad
abbrev SM := S → Out
def PoR {α : Type} (C : Ct) (H F : Hp) (θ : List Addr) (x : Res α) (k : α → Hp → Hp → List Addr → Prop) : Prop := match x with
  | .ok a => ∀ H1 F1 θ1, Stp H F θ H1 F1 θ1 → k a H1 F1 θ1
  | .exc c a o => ∀ H1 F1 θ1, Stp H F θ H1 F1 θ1 → Now C.K C.ca H1 F1 θ1 o.o → C.W c a o H1 F1 θ1
  | .bad => False
abbrev PoE (C : Ct) (σ : St) (H F : Hp) (θ : List Addr) (x : Res (D × S)) (Q : VK) : Prop :=
  PoR C H F θ x fun y H1 F1 θ1 => BS C.K C.ca σ H1 F1 θ1 y.2 → ∀ v, Rep C.K C.ca θ1 F1 y.1 v → Q v H1
abbrev PoA (C : Ct) (σ : St) (H F : Hp) (θ : List Addr) (x : Res (List D × S)) (Q : List V → Hp → Prop) : Prop :=
  PoR C H F θ x fun y H1 F1 θ1 => BS C.K C.ca σ H1 F1 θ1 y.2 → ∀ v, Reps C.K C.ca θ1 F1 y.1 v → Q v H1
abbrev PoT (C : Ct) (σ : St) (H F : Hp) (θ : List Addr) (x : Res (Bool × S)) (Q : Bool → Hp → Prop) : Prop :=
  PoR C H F θ x fun y H1 F1 θ1 => BS C.K C.ca σ H1 F1 θ1 y.2 → Q y.1 H1
abbrev PoG (C : Ct) (H F : Hp) (θ : List Addr) (x : Res S) (Q : St → Hp → Prop) : Prop :=
  PoR C H F θ x fun y H1 F1 θ1 => ∀ σ1, BS C.K C.ca σ1 H1 F1 θ1 y → Q σ1 H1
def PoS (C : Ct) (H F : Hp) (θ : List Addr) (x : Out) (Q : Ends) : Prop := match x with
  | .next s1 => ∀ σ1 H1 F1 θ1, Stp H F θ H1 F1 θ1 → BS C.K C.ca σ1 H1 F1 θ1 s1 → Q.nx σ1 H1
  | .ret d s1 => ∀ v σ1 H1 F1 θ1, Stp H F θ H1 F1 θ1 → BS C.K C.ca σ1 H1 F1 θ1 s1 → Rep C.K C.ca θ1 F1 d v → Q.rt v H1
  | .brk s1 => ∀ σ1 H1 F1 θ1, Stp H F θ H1 F1 θ1 → BS C.K C.ca σ1 H1 F1 θ1 s1 → Q.bk σ1 H1
  | .cnt s1 => ∀ σ1 H1 F1 θ1, Stp H F θ H1 F1 θ1 → BS C.K C.ca σ1 H1 F1 θ1 s1 → Q.ct σ1 H1
  | .exc c a o => ∀ H1 F1 θ1, Stp H F θ H1 F1 θ1 → Now C.K C.ca H1 F1 θ1 o.o → C.W c a o H1 F1 θ1
  | .bad => False
theorem PoR.after {α : Type} {C : Ct} {H F H1 F1 : Hp} {θ θ1 : List Addr} {x : Res α} {k : α → Hp → Hp → List Addr → Prop} (st : Stp H F θ H1 F1 θ1) (p : PoR C H F θ x k) : PoR C H1 F1 θ1 x k := by
  unfold PoR at p ⊢
  cases x with
  | ok a => exact fun H2 F2 θ2 s2 => p H2 F2 θ2 (st.trans s2)
  | exc c a o => exact fun H2 F2 θ2 s2 n => p H2 F2 θ2 (st.trans s2) n
  | bad => exact p
theorem PoR.bind {α β : Type} {C : Ct} {H F : Hp} {θ : List Addr} {x : Res α} {f : α → Res β} {k : α → Hp → Hp → List Addr → Prop} {j : β → Hp → Hp → List Addr → Prop}
    (p : PoR C H F θ (x.bind f) j) (h : ∀ a H1 F1 θ1, x = .ok a → Stp H F θ H1 F1 θ1 → PoR C H1 F1 θ1 (f a) j → k a H1 F1 θ1) : PoR C H F θ x k := by
  cases x with
  | ok a => exact fun H1 F1 θ1 st => h a H1 F1 θ1 rfl st (PoR.after st p)
  | exc c a o => exact p
  | bad => exact p
theorem PoR.imp {α : Type} {C : Ct} {H F : Hp} {θ : List Addr} {x : Res α} {k j : α → Hp → Hp → List Addr → Prop} (p : PoR C H F θ x j) (h : ∀ a H1 F1 θ1, x = .ok a → Stp H F θ H1 F1 θ1 → j a H1 F1 θ1 → k a H1 F1 θ1) : PoR C H F θ x k := by
  cases x with
  | ok a => exact fun H1 F1 θ1 st => h a H1 F1 θ1 rfl st (p H1 F1 θ1 st)
  | exc c a o => exact p
  | bad => exact p
theorem PoS.after {C : Ct} {H F H1 F1 : Hp} {θ θ1 : List Addr} {x : Out} {Q : Ends} (st : Stp H F θ H1 F1 θ1) (p : PoS C H F θ x Q) : PoS C H1 F1 θ1 x Q := by
  unfold PoS at p ⊢
  cases x with
  | next s => exact fun v H2 F2 θ2 s2 b => p v H2 F2 θ2 (st.trans s2) b
  | ret d s => exact fun v σ2 H2 F2 θ2 s2 b r => p v σ2 H2 F2 θ2 (st.trans s2) b r
  | brk s => exact fun v H2 F2 θ2 s2 b => p v H2 F2 θ2 (st.trans s2) b
  | cnt s => exact fun v H2 F2 θ2 s2 b => p v H2 F2 θ2 (st.trans s2) b
  | exc c a o => exact fun H2 F2 θ2 s2 n => p H2 F2 θ2 (st.trans s2) n
  | bad => exact p
def Res.out {α : Type} (x : Res α) (f : α → Out) : Out := match x with
  | .ok a => f a
  | .exc c a o => .exc c a o
  | .bad => .bad
@[simp] theorem out_ok {α : Type} (a : α) (f : α → Out) : (Res.ok a).out f = f a := rfl
@[simp] theorem out_exc {α : Type} (c : Nat) (a : D) (o : S) (f : α → Out) : (Res.exc c a o : Res α).out f = .exc c a o := rfl
@[simp] theorem out_bad {α : Type} (f : α → Out) : (Res.bad : Res α).out f = .bad := rfl
theorem PoS.out {α : Type} {C : Ct} {H F : Hp} {θ : List Addr} {x : Res α} {f : α → Out} {k : α → Hp → Hp → List Addr → Prop} {Q : Ends}
    (p : PoS C H F θ (x.out f) Q) (h : ∀ a H1 F1 θ1, x = .ok a → Stp H F θ H1 F1 θ1 → PoS C H1 F1 θ1 (f a) Q → k a H1 F1 θ1) : PoR C H F θ x k := by
  cases x with
  | ok a => exact fun H1 F1 θ1 st => h a H1 F1 θ1 rfl st (PoS.after st p)
  | exc c a o => exact p
  | bad => exact p
def RdE (C : Ct) (t : TE) (m : EM) : Prop := ∀ σ H F θ s Q, BS C.K C.ca σ H F θ s → PoE C σ H F θ (m s) Q → t σ H Q
def RdA (C : Ct) (t : TA) (m : AM) : Prop := ∀ σ H F θ s Q, BS C.K C.ca σ H F θ s → PoA C σ H F θ (m s) Q → t σ H Q
abbrev TM := S → Res (Bool × S)
def RdT (C : Ct) (t : TT) (m : TM) : Prop := ∀ σ H F θ s Q, BS C.K C.ca σ H F θ s → PoT C σ H F θ (m s) Q → t σ H Q
abbrev GM := D → S → Res S
def RdG (C : Ct) (t : TG) (m : GM) : Prop := ∀ σ H F θ s d v Q, BS C.K C.ca σ H F θ s → Rep C.K C.ca θ F d v → PoG C H F θ (m d s) Q → t v σ H Q
def RdS (C : Ct) (t : TS) (m : SM) : Prop := ∀ σ H F θ s Q, BS C.K C.ca σ H F θ s → PoS C H F θ (m s) Q → t Q σ H
end M
set_option maxRecDepth 100000
set_option maxHeartbeats 4000000
namespace M
open PySem L2
section
variable {C : Ct}
@[simp] theorem rep_non {K ca θ F v} : Rep K ca θ F .non v ↔ v = .non := by unfold Rep; exact Iff.rfl
@[simp] theorem rep_bl {K ca θ F v b} : Rep K ca θ F (.bl b) v ↔ v = .bl b := by unfold Rep; exact Iff.rfl
@[simp] theorem rep_int {K ca θ F v i} : Rep K ca θ F (.int i) v ↔ v = .int i := by unfold Rep; exact Iff.rfl
@[simp] theorem rep_str {K ca θ F v x} : Rep K ca θ F (.str x) v ↔ v = .str x := by unfold Rep; exact Iff.rfl
def varM (i : Nat) : EM := fun s => match s.r[i]? with
  | some (some d) => .ok (d, s)
  | _ => .bad
theorem rd_var (i : Nat) : RdE C (tVar i) (varM i) := by
  intro σ H F θ s Q b p
  unfold varM at p
  split at p
  · rename_i d e
    obtain ⟨v, h1, h2⟩ := b.sl i d e
    exact ⟨v, h1, p H F θ .refl b v h2⟩
  · exact p.elim
def cstM (d : D) : EM := fun s => .ok (d, s)
theorem rd_int (i : Int) : RdE C (tC (.int i)) (cstM (.int i)) := fun σ H F θ s Q b p => p H F θ .refl b (.int i) (rep_int.mpr rfl)
theorem rd_bl (i : Bool) : RdE C (tC (.bl i)) (cstM (.bl i)) := fun σ H F θ s Q b p => p H F θ .refl b (.bl i) (rep_bl.mpr rfl)
theorem rd_str (i : Str) : RdE C (tC (.str i)) (cstM (.str i)) := fun σ H F θ s Q b p => p H F θ .refl b (.str i) (rep_str.mpr rfl)
abbrev Op2 := Store → D → D → Res D
abbrev Op1 := Store → D → Res D
def RdOp (C : Ct) (r : R2) (f : Op2) : Prop := ∀ σ H F θ s x y v w Q, BS C.K C.ca σ H F θ s → Rep C.K C.ca θ F x v → Rep C.K C.ca θ F y w →
  PoE C σ H F θ ((f s.o x y).bind fun d => .ok (d, s)) Q → r v w H Q
def binM (f : Op2) (ma mb : EM) : EM := fun s => (ma s).bind fun x => (mb x.2).bind fun y => (f y.2.o x.1 y.1).bind fun d => .ok (d, y.2)
theorem rd_bin {r : R2} {f : Op2} {ta tb : TE} {ma mb : EM} (ho : RdOp C r f) (ha : RdE C ta ma) (hb : RdE C tb mb) : RdE C (tOp r ta tb) (binM f ma mb) := by
  intro σ H F θ s Q b p
  refine ha σ H F θ s _ b (PoR.bind p ?_)
  rintro ⟨x, s1⟩ H1 F1 θ1 _ st1 p1 b1 v r1
  refine hb σ H1 F1 θ1 s1 _ b1 (PoR.bind p1 ?_)
  rintro ⟨y, s2⟩ H2 F2 θ2 _ st2 p2 b2 w r2
  exact ho σ H2 F2 θ2 s2 x y v w Q b2 (r1.mono st2.ff st2.pre) r2 p2
def RdUn (C : Ct) (r : V → Hp → VK → Prop) (f : Op1) : Prop := ∀ σ H F θ s x v Q, BS C.K C.ca σ H F θ s → Rep C.K C.ca θ F x v →
  PoE C σ H F θ ((f s.o x).bind fun d => .ok (d, s)) Q → r v H Q
def unM (f : Op1) (ma : EM) : EM := fun s => (ma s).bind fun x => (f x.2.o x.1).bind fun d => .ok (d, x.2)
theorem rd_un {r : V → Hp → VK → Prop} {f : Op1} {ta : TE} {ma : EM} (ho : RdUn C r f) (ha : RdE C ta ma) : RdE C (tUn r ta) (unM f ma) := by
  intro σ H F θ s Q b p
  refine ha σ H F θ s _ b (PoR.bind p ?_)
  rintro ⟨x, s1⟩ H1 F1 θ1 _ st1 p1 b1 v r1
  exact ho σ H1 F1 θ1 s1 x v Q b1 r1 p1
def nilM : AM := fun s => .ok ([], s)
def consM (m : EM) (r : AM) : AM := fun s => (m s).bind fun x => (r x.2).bind fun y => .ok (x.1 :: y.1, y.2)
theorem rd_nil : RdA C tNil nilM := fun σ H F θ s Q b p => p H F θ .refl b [] Reps.nil
theorem rd_cons {te : TE} {ta : TA} {m : EM} {r : AM} (he : RdE C te m) (ha : RdA C ta r) : RdA C (tCons te ta) (consM m r) := by
  intro σ H F θ s Q b p
  refine he σ H F θ s _ b (PoR.bind p ?_)
  rintro ⟨x, s1⟩ H1 F1 θ1 _ st1 p1 b1 v r1
  refine ha σ H1 F1 θ1 s1 _ b1 (PoR.bind p1 ?_)
  rintro ⟨y, s2⟩ H2 F2 θ2 _ st2 p2 b2 w r2
  exact p2 H2 F2 θ2 .refl b2 (v :: w) (Reps.cons (r1.mono st2.ff st2.pre) r2)
abbrev OpN := Store → List D → Res D
def RdCall (C : Ct) (r : List V → Hp → VK → Prop) (f : OpN) : Prop := ∀ σ H F θ s xs vs Q, BS C.K C.ca σ H F θ s → Reps C.K C.ca θ F xs vs →
  PoE C σ H F θ ((f s.o xs).bind fun d => .ok (d, s)) Q → r vs H Q
def calM (f : OpN) (ma : AM) : EM := fun s => (ma s).bind fun x => (f x.2.o x.1).bind fun d => .ok (d, x.2)
theorem rd_callB {r : List V → Hp → VK → Prop} {f : OpN} {ta : TA} {ma : AM} (hc : RdCall C r f) (ha : RdA C ta ma) : RdE C (tCB r ta) (calM f ma) := by
  intro σ H F θ s Q b p
  refine ha σ H F θ s _ b (PoR.bind p ?_)
  rintro ⟨x, s1⟩ H1 F1 θ1 _ st1 p1 b1 v r1
  exact hc σ H1 F1 θ1 s1 x v Q b1 r1 p1
def tupM (ma : AM) : EM := fun s => (ma s).bind fun x => if x.1.length ≤ 16777216 then .ok (.tup x.1, x.2) else .bad
theorem rd_tup {ta : TA} {ma : AM} (ha : RdA C ta ma) : RdE C (tTup ta) (tupM ma) := by
  intro σ H F θ s Q b p
  refine ha σ H F θ s _ b (PoR.bind p ?_)
  rintro ⟨x, s1⟩ H1 F1 θ1 _ st1 p1 b1 v r1
  dsimp only at p1
  split at p1
  · rename_i hl
    refine ⟨by rw [r1.length]; exact hl, fun q hq => ?_⟩
    obtain ⟨st, b2, sF, e⟩ := b1.newF hq (.tup v)
    refine p1 _ _ _ st b2 _ ?_
    unfold Rep
    exact ⟨q, v, rfl, SqT.of e, r1.mono sF ⟨[], by simp⟩⟩
  · exact p1.elim
def lstM (ma : AM) : EM := fun s => (ma s).bind fun x => if x.1.length ≤ 16777216 then .ok (.lst x.1, x.2) else .bad
def lstC (ma : AM) : EM := fun s => (ma s).bind fun x => if x.1.length ≤ 16777216 then .ok (.ptr x.2.o.length, ⟨x.2.r, x.2.o ++ [.lst x.1]⟩) else .bad
def tstM (m : EM) : TM := fun s => (m s).bind fun x => match x.1 with
  | .bl b => .ok (b, x.2)
  | _ => .bad
theorem rd_tst {t : TE} {m : EM} (h : RdE C t m) : RdT C (tTest t) (tstM m) := by
  intro σ H F θ s Q b p
  refine h σ H F θ s _ b (PoR.bind p ?_)
  rintro ⟨x, s1⟩ H1 F1 θ1 _ st1 p1 b1 v r1
  cases x <;> first | exact False.elim p1 | skip
  rename_i k _
  exact ⟨k, rep_bl.mp r1, p1 _ _ _ .refl b1⟩
theorem rd_tB {t : TE} {m : EM} (h : RdE C t m) : RdT C (tB t) (tstM m) := rd_tst h
def andT (a b : TM) : TM := fun s => (a s).bind fun x => if x.1 then b x.2 else .ok (false, x.2)
def orT (a b : TM) : TM := fun s => (a s).bind fun x => if x.1 then .ok (true, x.2) else b x.2
def notT (a : TM) : TM := fun s => (a s).bind fun x => .ok (!x.1, x.2)
theorem rd_or {t u : TT} {a b : TM} (ha : RdT C t a) (hb : RdT C u b) : RdT C (tOr t u) (orT a b) := by
  intro σ H F θ s Q bs p
  refine ha σ H F θ s _ bs (PoR.bind p ?_)
  rintro ⟨x, s1⟩ H1 F1 θ1 _ st1 p1 b1
  cases x with
  | true => exact iteT (p1 _ _ _ .refl b1)
  | false => exact iteF (hb σ H1 F1 θ1 s1 Q b1 p1)
theorem rd_not {t : TT} {a : TM} (ha : RdT C t a) : RdT C (tNot t) (notT a) := by
  intro σ H F θ s Q bs p
  refine ha σ H F θ s _ bs (PoR.bind p ?_)
  rintro ⟨x, s1⟩ H1 F1 θ1 _ st1 p1 b1
  exact p1 _ _ _ .refl b1
def andV (a b : EM) : EM := fun s => (a s).bind fun x => match x.1 with
  | .bl true => b x.2
  | .bl false => .ok (.bl false, x.2)
  | _ => .bad
def orV (a b : EM) : EM := fun s => (a s).bind fun x => match x.1 with
  | .bl true => .ok (.bl true, x.2)
  | .bl false => b x.2
  | _ => .bad
def notV (a : EM) : EM := fun s => (a s).bind fun x => match x.1 with
  | .bl k => .ok (.bl (!k), x.2)
  | _ => .bad
theorem rd_andV {t u : TE} {a b : EM} (ha : RdE C t a) (hb : RdE C u b) : RdE C (tAndV t u) (andV a b) := by
  intro σ H F θ s Q bs p
  refine ha σ H F θ s _ bs (PoR.bind p ?_)
  rintro ⟨x, s1⟩ H1 F1 θ1 _ st1 p1 b1 v r1
  cases x <;> first | exact False.elim p1 | skip
  rename_i k _
  refine ⟨k, rep_bl.mp r1, ?_⟩
  cases k with
  | true => exact iteT (hb σ H1 F1 θ1 s1 Q b1 p1)
  | false => exact iteF (p1 _ _ _ .refl b1 _ (rep_bl.mpr rfl))
theorem rd_notV {t : TE} {a : EM} (ha : RdE C t a) : RdE C (tNotV t) (notV a) := by
  intro σ H F θ s Q bs p
  refine ha σ H F θ s _ bs (PoR.bind p ?_)
  rintro ⟨x, s1⟩ H1 F1 θ1 _ st1 p1 b1 v r1
  cases x <;> first | exact False.elim p1 | skip
  rename_i k _
  exact ⟨k, rep_bl.mp r1, p1 _ _ _ .refl b1 _ (rep_bl.mpr rfl)⟩
def ifM (c : TM) (a b : EM) : EM := fun s => (c s).bind fun x => if x.1 then a x.2 else b x.2
def Out.then (x : Out) (f : S → Out) : Out := match x with
  | .next s => f s
  | o => o
@[simp] theorem then_next (s : S) (f : S → Out) : (Out.next s).then f = f s := rfl
@[simp] theorem then_ret (d : D) (s : S) (f : S → Out) : (Out.ret d s).then f = .ret d s := rfl
@[simp] theorem then_brk (s : S) (f : S → Out) : (Out.brk s).then f = .brk s := rfl
@[simp] theorem then_cnt (s : S) (f : S → Out) : (Out.cnt s).then f = .cnt s := rfl
@[simp] theorem then_exc (c : Nat) (a : D) (o : S) (f : S → Out) : (Out.exc c a o).then f = .exc c a o := rfl
@[simp] theorem then_bad (f : S → Out) : Out.bad.then f = .bad := rfl
def seqM (a b : SM) : SM := fun s => (a s).then b
def skipM : SM := fun s => .next s
theorem rd_next : RdS C tNext skipM := fun σ H F θ s Q b p => p σ H F θ .refl b
theorem rd_seq {t u : TS} {a b : SM} (ha : RdS C t a) (hb : RdS C u b) : RdS C (tSeq t u) (seqM a b) := by
  intro σ H F θ s Q bs p
  refine ha σ H F θ s _ bs ?_
  unfold seqM at p
  cases e : a s with
  | next s1 =>
    rw [e] at p
    intro σ1 H1 F1 θ1 st1 b1
    exact hb σ1 H1 F1 θ1 s1 Q b1 (PoS.after st1 p)
  | ret d s1 => rw [e] at p; exact p
  | brk s1 => rw [e] at p; exact p
  | cnt s1 => rw [e] at p; exact p
  | exc c a o => rw [e] at p; exact p
  | bad => rw [e] at p; exact p
def dropM (m : EM) : SM := fun s => (m s).out fun x => .next x.2
theorem rd_drop {t : TE} {m : EM} (h : RdE C t m) : RdS C (tDrop t) (dropM m) := by
  intro σ H F θ s Q b p
  refine h σ H F θ s _ b (PoS.out p ?_)
  rintro ⟨x, s1⟩ H1 F1 θ1 _ st1 p1 b1 v r1
  exact p1 σ H1 F1 θ1 .refl b1
def retM (m : EM) : SM := fun s => (m s).out fun x => .ret x.1 x.2
theorem rd_ret {t : TE} {m : EM} (h : RdE C t m) : RdS C (tRet t) (retM m) := by
  intro σ H F θ s Q b p
  refine h σ H F θ s _ b (PoS.out p ?_)
  rintro ⟨x, s1⟩ H1 F1 θ1 _ st1 p1 b1 v r1
  exact p1 v σ H1 F1 θ1 .refl b1 r1
def ret0 : SM := fun s => .ret .non s
def ifS (c : TM) (a b : SM) : SM := fun s => (c s).out fun x => if x.1 then a x.2 else b x.2
theorem rd_if {t : TT} {u w : TS} {c : TM} {a b : SM} (hc : RdT C t c) (ha : RdS C u a) (hb : RdS C w b) : RdS C (tIfS t u w) (ifS c a b) := by
  intro σ H F θ s Q bs p
  refine hc σ H F θ s _ bs (PoS.out p ?_)
  rintro ⟨x, s1⟩ H1 F1 θ1 _ st1 p1 b1
  cases x with
  | true => exact iteT (ha σ H1 F1 θ1 s1 Q b1 p1)
  | false => exact iteF (hb σ H1 F1 θ1 s1 Q b1 p1)
def badM : SM := fun _ => .bad
def nameG (i : Nat) : GM := fun d s => .ok ⟨s.r.set i (some d), s.o⟩
theorem rd_gname (i : Nat) : RdG C (gName i) (nameG i) := fun σ H F θ s d v Q b r p => p H F θ .refl _ (b.set r i)
def nilG : List D → S → Res S := fun ds s => match ds with
  | [] => .ok s
  | _ => .bad
def consG (g : GM) (r : List D → S → Res S) : List D → S → Res S := fun ds s => match ds with
  | d :: ds => (g d s).bind fun s1 => r ds s1
  | [] => .bad
def tupG (m : List D → S → Res S) (n : Nat) : GM := fun d s => match d with
  | .tup ds => if ds.length = n then m ds s else .bad
  | _ => .bad
def asgM (m : EM) (g : GM) : SM := fun s => ((m s).bind fun x => g x.1 x.2).out fun s => .next s
theorem rd_asg {t : TE} {m : EM} {g : TG} {gm : GM} (h : RdE C t m) (hg : RdG C g gm) : RdS C (tAsg t g) (asgM m gm) := by
  intro σ H F θ s Q b p
  have p' : PoG C H F θ ((m s).bind fun x => gm x.1 x.2) Q.nx := PoS.out p fun s1 H1 F1 θ1 _ st1 p1 σ1 b1 => p1 σ1 H1 F1 θ1 .refl b1
  refine h σ H F θ s _ b (PoR.bind p' ?_)
  rintro ⟨x, s1⟩ H1 F1 θ1 _ st1 p1 b1 v r1
  exact hg σ H1 F1 θ1 s1 x v Q.nx b1 r1 p1
abbrev setM (i : Nat) (m : EM) : SM := asgM m (nameG i)
theorem rd_set {t : TE} {m : EM} {i : Nat} (h : RdE C t m) : RdS C (tAsg t (gName i)) (setM i m) := rd_asg h (rd_gname i)
def augM (i : Nat) (f : Op2) (m : EM) : SM := setM i (binM f (varM i) m)
end
end M
set_option maxRecDepth 100000
set_option maxHeartbeats 4000000
namespace M
open PySem PySem.Spec PyProof.Rows L2
section
variable {C : Ct}
structure ItIs (C : Ct) (J : It) (ds : List D) (ok : Store → Prop) (H F : Hp) (θ : List Addr) : Prop where
  go : ∀ (i : Nat) H2 F2 θ2 O2, i < ds.length → Stp H F θ H2 F2 θ2 → Now C.K C.ca H2 F2 θ2 O2 → ok O2 → J.go i H2
  yl : ∀ (i : Nat) d σ H2 F2 θ2 s2 x H3, ds[i]? = some d → Stp H F θ H2 F2 θ2 → BS C.K C.ca σ H2 F2 θ2 s2 → ok s2.o → J.yld i H2 x H3 → ∃ F3, Stp H2 F2 θ2 H3 F3 θ2 ∧ BS C.K C.ca σ H3 F3 θ2 s2 ∧ Rep C.K C.ca θ2 F3 d x
  st : ∀ (i : Nat) H2 F2 θ2 O2, ds.length ≤ i → Stp H F θ H2 F2 θ2 → Now C.K C.ca H2 F2 θ2 O2 → ok O2 → J.stop i H2
def okC (ds : List D) : Option Nat → Store → Prop
  | none, _ => True
  | some k, O => O[k]? = some (.lst ds)
abbrev IM := S → Res ((List D × Option Nat) × S)
def RdI (C : Ct) (wi : TI) (im : IM) : Prop := ∀ σ H F θ s R, BS C.K C.ca σ H F θ s →
  PoR C H F θ (im s) (fun y H1 F1 θ1 => BS C.K C.ca σ H1 F1 θ1 y.2 → ∀ J, ItIs C J y.1.1 (okC y.1.1 y.1.2) H1 F1 θ1 → R J H1) → wi σ H R
open Classical in
noncomputable def forGo (ok : Store → Prop) (g : GM) (body : SM) : List D → S → Out
  | [], s => if ok s.o then .next s else .bad
  | d :: ds, s => if ok s.o then (g d s).out fun s1 => match body s1 with
      | .next s2 => forGo ok g body ds s2
      | .cnt s2 => forGo ok g body ds s2
      | .brk s2 => .next s2
      | o => o
    else .bad
noncomputable def forS (im : IM) (g : GM) (body : SM) : SM := fun s => (im s).out fun y => forGo (okC y.1.1 y.1.2) g body y.1.1 y.2
theorem rd_for {wi : TI} {g : TG} {tb : TS} {im : IM} {gm : GM} {bm : SM} (hi : RdI C wi im) (hg : RdG C g gm) (hb : RdS C tb bm) : RdS C (tFor wi g tb) (forS im gm bm) := by
  intro σ H F θ s Q b p
  refine hi σ H F θ s _ b (PoS.out p ?_)
  rintro ⟨⟨ds, k⟩, s1⟩ H1 F1 θ1 _ st1 p1 b1 J it
  dsimp only at p1 it b1
  refine ⟨fun i m σ' H' => m = ds.length - i ∧ i ≤ ds.length ∧ ∃ F' θ' s', Stp H1 F1 θ1 H' F' θ' ∧ BS C.K C.ca σ' H' F' θ' s' ∧ PoS C H' F' θ' (forGo (okC ds k) gm bm (ds.drop i) s') Q, ⟨ds.length, by simp, Nat.zero_le _, F1, θ1, s1, .refl, b1, by simpa using p1⟩, ?_⟩
  rintro i m σ' H' ⟨rfl, hil, F', θ', s', st, bs, po⟩
  by_cases lt : i < ds.length
  · right
    rw [List.drop_eq_getElem_cons lt, forGo] at po
    split at po
    · rename_i hok
      refine ⟨it.go i H' F' θ' s'.o lt st bs.now hok, fun σ2 H2 => i + 1 ≤ ds.length ∧ ∃ F2 θ2 s2, Stp H1 F1 θ1 H2 F2 θ2 ∧ BS C.K C.ca σ2 H2 F2 θ2 s2 ∧ PoS C H2 F2 θ2 (forGo (okC ds k) gm bm (ds.drop (i + 1)) s2) Q, fun σ2 H2 n => ⟨ds.length - (i + 1), by omega, rfl, n⟩, ?_⟩
      intro x H3 hy
      obtain ⟨F3, st3, b3, rp⟩ := it.yl i ds[i] σ' H' F' θ' s' x H3 (List.getElem?_eq_getElem lt) st bs hok hy
      refine hg σ' H3 F3 θ' s' ds[i] x _ b3 rp (PoS.out (PoS.after st3 po) ?_)
      intro s4 H4 F4 θ4 _ st4 p4 σ4 b4
      refine hb σ4 H4 F4 θ4 s4 _ b4 ?_
      have fin : ∀ s5, PoS C H4 F4 θ4 (forGo (okC ds k) gm bm (ds.drop (i + 1)) s5) Q → ∀ σ5 H5 F5 θ5, Stp H4 F4 θ4 H5 F5 θ5 → BS C.K C.ca σ5 H5 F5 θ5 s5 → i + 1 ≤ ds.length ∧ ∃ F2 θ2 s2, Stp H1 F1 θ1 H5 F2 θ2 ∧ BS C.K C.ca σ5 H5 F2 θ2 s2 ∧ PoS C H5 F2 θ2 (forGo (okC ds k) gm bm (ds.drop (i + 1)) s2) Q :=
        fun s5 p5 σ5 H5 F5 θ5 st5 b5 => ⟨lt, F5, θ5, s5, st.trans (st3.trans (st4.trans st5)), b5, PoS.after st5 p5⟩
      cases e : bm s4 with
      | next s5 => rw [e] at p4; exact fin s5 p4
      | cnt s5 => rw [e] at p4; exact fin s5 p4
      | brk s5 => rw [e] at p4; exact p4
      | ret d s5 => rw [e] at p4; exact p4
      | exc c a o => rw [e] at p4; exact p4
      | bad => rw [e] at p4; exact p4
    · exact False.elim po
  · left
    rw [List.drop_eq_nil_of_le (by omega), forGo] at po
    split at po
    · rename_i hok
      exact ⟨it.st i H' F' θ' s'.o (by omega) st bs.now hok, po σ' H' F' θ' .refl bs⟩
    · exact False.elim po
def whileGo (c : TM) (b : SM) : Nat → S → Out
  | 0, _ => .bad
  | n + 1, s => (c s).out fun x => if x.1 then (match b x.2 with
      | .next s2 => whileGo c b n s2
      | .cnt s2 => whileGo c b n s2
      | .brk s2 => .next s2
      | o => o) else .next x.2
def whileM (φ : S → Nat) (c : TM) (b : SM) : SM := fun s => whileGo c b (φ s) s
theorem rd_while {tc : TT} {tb : TS} {φ : S → Nat} {c : TM} {b : SM} (hc : RdT C tc c) (hb : RdS C tb b) : RdS C (tWhile tc tb) (whileM φ c b) := by
  intro σ H F θ s Q bs p
  refine ⟨fun m σ' H' => ∃ F' θ' s', BS C.K C.ca σ' H' F' θ' s' ∧ PoS C H' F' θ' (whileGo c b m s') Q, ⟨φ s, F, θ, s, bs, p⟩, ?_⟩
  rintro m σ' H' ⟨F', θ', s', b', po⟩
  cases m with
  | zero => exact False.elim po
  | succ m =>
    rw [whileGo] at po
    refine hc σ' H' F' θ' s' _ b' (PoS.out po ?_)
    rintro ⟨x, s1⟩ H1 F1 θ1 _ st1 p1 b1
    cases x with
    | false => exact iteF (p1 σ' H1 F1 θ1 .refl b1)
    | true =>
      refine iteT ⟨fun σ2 H2 => ∃ F2 θ2 s2, BS C.K C.ca σ2 H2 F2 θ2 s2 ∧ PoS C H2 F2 θ2 (whileGo c b m s2) Q, fun σ2 H2 n => ⟨m, Nat.lt_succ_self _, n⟩, ?_⟩
      refine hb σ' H1 F1 θ1 s1 _ b1 ?_
      dsimp only [if_true] at p1
      cases e : b s1 with
      | next s5 => rw [e] at p1; exact fun σ5 H5 F5 θ5 st5 b5 => ⟨F5, θ5, s5, b5, PoS.after st5 p1⟩
      | cnt s5 => rw [e] at p1; exact fun σ5 H5 F5 θ5 st5 b5 => ⟨F5, θ5, s5, b5, PoS.after st5 p1⟩
      | brk s5 => rw [e] at p1; exact p1
      | ret d s5 => rw [e] at p1; exact p1
      | exc c a o => rw [e] at p1; exact p1
      | bad => rw [e] at p1; exact p1
def itemsOf (O : Store) : D → Res (List D × Option Nat)
  | .lst ds => .ok (ds, none)
  | .ptr k => match O[k]? with
    | some (.lst ds) => .ok (ds, some k)
    | _ => .bad
  | _ => .bad
def listI (m : EM) : IM := fun s => (m s).bind fun x => (itemsOf x.2.o x.1).bind fun y => .ok (y, x.2)
def rangeD (lo hi : Int) : List D := (List.range (hi - lo).toNat).map fun i => .int (lo + (i : Nat))
theorem rangeD_length (lo hi : Int) : (rangeD lo hi).length = (hi - lo).toNat := by unfold rangeD; simp
theorem it_range {lo hi : Int} {H F : Hp} {θ : List Addr} : ItIs C (Itr lo (hi - lo).toNat) (rangeD lo hi) (okC (rangeD lo hi) none) H F θ where
  go := fun i H2 F2 θ2 O2 h st n _ => by rw [rangeD_length] at h; exact h
  yl := fun i d σ H2 F2 θ2 s2 x H3 hd st b _ hy => by
    obtain ⟨rfl, rfl⟩ := hy
    refine ⟨F2, .refl, b, ?_⟩
    unfold rangeD at hd
    rw [List.getElem?_map] at hd
    cases e : (List.range (hi - lo).toNat)[i]? with
    | none => rw [e] at hd; cases hd
    | some j =>
      rw [e] at hd
      cases hd
      obtain ⟨_, rfl⟩ : ∃ h, j = i := ⟨trivial, by have := (List.getElem?_eq_some_iff.mp e).2; simpa using this.symm⟩
      exact rep_int.mpr rfl
  st := fun i H2 F2 θ2 O2 h st n _ => by rw [rangeD_length] at h; exact h
def rng1 (ma : AM) : IM := fun s => (ma s).bind fun x => match x.1 with
  | [.int j] => if -(2 ^ 62) ≤ j ∧ j < 2 ^ 62 then .ok ((rangeD 0 j, none), x.2) else .bad
  | _ => .bad
theorem reps_ints1 {K ca θ F i vs} (h : Reps K ca θ F [.int i] vs) : vs = [.int i] := by
  unfold Reps at h
  obtain ⟨v, r, rfl, h1, h2⟩ := h
  unfold Reps at h2
  rw [h2, rep_int.mp h1]
theorem rd_rng1 {ta : TA} {m : AM} (h : RdA C ta m) : RdI C (iRng1 ta) (rng1 m) := by
  intro σ H F θ s R b p
  refine h σ H F θ s _ b (PoR.bind p ?_)
  rintro ⟨x, s1⟩ H1 F1 θ1 _ st1 p1 b1 v r1
  dsimp only at p1 b1 r1
  split at p1
  · rename_i j _
    split at p1
    · rename_i hj
      refine ⟨j, reps_ints1 r1, hj.1, hj.2, ?_⟩
      have := p1 _ _ _ .refl b1 _ (it_range (lo := 0) (hi := j))
      rw [Int.sub_zero] at this
      exact this
    · exact False.elim p1
  · exact False.elim p1
abbrev FM := List D → Store → Res (D × Store)
def spM (K : PySem.W.Frag) (ca : Nat → Addr) (n : Nat) (f : FM) : Sp := fun vs H Q E => ∃ F θ ds O, Now K ca H F θ O ∧ Reps K ca θ F ds vs ∧ ds.length = n ∧ match f ds O with
  | .ok (d, O1) => ∀ v H1 F1 θ1, Stp H F θ H1 F1 θ1 → Now K ca H1 F1 θ1 O1 → Rep K ca θ1 F1 d v → Q v H1
  | .exc c _ s1 => ∀ H1 F1 θ1, Stp H F θ H1 F1 θ1 → Now K ca H1 F1 θ1 s1.o → E (.ref (ca c)) none H1
  | .bad => False
def runM (n : Nat) (m : SM) : FM := fun ds O => match m ⟨ds.map some ++ List.replicate (n - ds.length) none, O⟩ with
  | .next s => .ok (.non, s.o)
  | .ret d s => .ok (d, s.o)
  | _ => .bad
def runE (n : Nat) (m : SM) : FM := fun ds O => match m ⟨ds.map some ++ List.replicate (n - ds.length) none, O⟩ with
  | .next s => .ok (.non, s.o)
  | .ret d s => .ok (d, s.o)
  | .exc c a o => .exc c a o
  | _ => .bad
theorem bs_start {K : PySem.W.Frag} {ca : Nat → Addr} {N : List Str} {H F : Hp} {θ : List Addr} {O : Store} {ds : List D} {vs : List V} (n : Now K ca H F θ O) (r : Reps K ca θ F ds vs) :
    BS K ca (L2.start N vs) H F θ ⟨ds.map some ++ List.replicate (N.length - ds.length) none, O⟩ := by
  refine ⟨n, by unfold L2.start; simp [r.length], fun i d e => ?_⟩
  dsimp only at e
  have hi : i < ds.length := by
    by_cases hi : i < ds.length
    · exact hi
    · rw [List.getElem?_append_right (by simpa using hi), List.getElem?_replicate] at e
      split at e <;> cases e
  rw [List.getElem?_append_left (by simpa using hi), List.getElem?_map] at e
  cases e1 : ds[i]? with
  | none => rw [e1] at e; cases e
  | some d' =>
    rw [e1] at e
    cases e
    obtain ⟨v, h1, h2⟩ := r.get e1
    refine ⟨v, ?_, h2⟩
    unfold L2.start
    rw [List.getElem?_append_left (by simpa [r.length] using hi), List.getElem?_map, h1]
    rfl
def W0 : Wsh := fun _ _ _ _ _ _ => False
theorem def_ok {P : Program} {w : World} {K : PySem.W.Frag} {mg : Str → Option Value} {base : Heap} {ca : Nat → Addr} {x qual : Str} {st : Stmt} {f : Addr} {fd : FuncData} {N ps : List Str} {k n : Nat} {m : SM}
    (F : Fun K x qual st f fd) (S : FnScope N ps (defScope st)) (hn : N.length = n)
    (hm : ∀ (cdv : Value) (A : Around) (outer : List Env) (s : Shared) (H : Hp) (E : XK), Room k (A.deeper (envOfC qual (defScope st) s.heap.objs.size f cdv)) →
      ∃ t, PSs (cxOf (CXE P w) P w K mg base N qual (defScope st) f cdv A outer s H E).nox (defBody st) t ∧ RdS ⟨K, ca, W0⟩ t m) :
    FnOk P w K mg base (CXE P w) (k + 1) f fd ps (spM K ca ps.length (runM n m)) := by
  refine F.okE S (fun vs H Q E h => ?_) (fun cdv A outer s H vs Q E hr h => ?_)
  · obtain ⟨F, θ, ds, O, _, r, hl, _⟩ := h
    rw [r.length, hl]
  · obtain ⟨F, θ, ds, O, now, r, hl, q⟩ := h
    obtain ⟨t, ht, rd⟩ := hm cdv A outer s H E hr
    refine ⟨t, ht.nox, rd _ H F θ _ _ (bs_start now r) ?_⟩
    subst hn
    unfold runM at q
    cases e : m ⟨ds.map some ++ List.replicate (N.length - ds.length) none, O⟩ with
    | next s1 => rw [e] at q; exact fun σ1 H1 F1 θ1 st b => q .non H1 F1 θ1 st b.now (rep_non.mpr rfl)
    | ret d s1 => rw [e] at q; exact fun v σ1 H1 F1 θ1 st b rv => q v H1 F1 θ1 st b.now rv
    | exc c a o => rw [e] at q; exact False.elim q
    | brk s1 => rw [e] at q; exact False.elim q
    | cnt s1 => rw [e] at q; exact False.elim q
    | bad => rw [e] at q; exact False.elim q
def WE (ca : Nat → Addr) (E : XK) : Wsh := fun c _ _ H1 _ _ => E (.ref (ca c)) none H1
theorem def_okE {P : Program} {w : World} {K : PySem.W.Frag} {mg : Str → Option Value} {base : Heap} {ca : Nat → Addr} {x qual : Str} {st : Stmt} {f : Addr} {fd : FuncData} {N ps : List Str} {k n : Nat} {m : SM} (F : Fun K x qual st f fd) (S : FnScope N ps (defScope st)) (hn : N.length = n)
    (hm : ∀ (cdv : Value) (A : Around) (outer : List Env) (s : Shared) (H : Hp) (E : XK), Room k (A.deeper (envOfC qual (defScope st) s.heap.objs.size f cdv)) → ∃ t, PSs (cxOf (CXE P w) P w K mg base N qual (defScope st) f cdv A outer s H E) (defBody st) t ∧ RdS ⟨K, ca, WE ca E⟩ t m) :
    FnOk P w K mg base (CXE P w) (k + 1) f fd ps (spM K ca ps.length (runE n m)) := by
  refine F.okE S (fun vs H Q E h => ?_) (fun cdv A outer s H vs Q E hr h => ?_)
  · obtain ⟨F, θ, ds, O, _, r, hl, _⟩ := h
    rw [r.length, hl]
  · obtain ⟨F, θ, ds, O, now, r, hl, q⟩ := h
    obtain ⟨t, ht, rd⟩ := hm cdv A outer s H E hr
    refine ⟨t, ht, rd _ H F θ _ _ (bs_start now r) ?_⟩
    subst hn
    unfold runE at q
    cases e : m ⟨ds.map some ++ List.replicate (N.length - ds.length) none, O⟩ with
    | next s1 => rw [e] at q; exact fun σ1 H1 F1 θ1 st b => q .non H1 F1 θ1 st b.now (rep_non.mpr rfl)
    | ret d s1 => rw [e] at q; exact fun v σ1 H1 F1 θ1 st b rv => q v H1 F1 θ1 st b.now rv
    | exc c a o => rw [e] at q; exact fun H1 F1 θ1 st n => q H1 F1 θ1 st n
    | brk s1 => rw [e] at q; exact False.elim q
    | cnt s1 => rw [e] at q; exact False.elim q
    | bad => rw [e] at q; exact False.elim q
theorem BS.called {K : PySem.W.Frag} {ca : Nat → Addr} {σ : L2.St} {H F H1 F1 : Hp} {θ θ1 : List Addr} {s : S} {O1 : Store} (b : BS K ca σ H F θ s) (st : Stp H F [] H1 F1 θ1) (n : Now K ca H1 F1 θ1 O1) :
    Stp H F θ H1 F1 θ ∧ BS K ca σ H1 F1 θ s := by
  have kp : ∀ b o, H b = some o → H1 b = some o := fun b o h => st.kp b o h (by simp)
  have nf : ∀ b o, F1 b = some o → F b = some o ∨ H b = none := fun b o h => by
    rcases st.nf b o h with z | z | z
    · exact .inl z
    · exact .inr z
    · simp at z
  refine ⟨⟨st.ff, ⟨[], by simp, by simp⟩, fun b o h _ => kp b o h, st.al, fun b o h => (nf b o h).elim .inl fun z => .inr (.inl z)⟩, ⟨⟨n.fh, b.now.nd, b.now.ln, fun k a c e1 e2 => ?_⟩, b.len, fun i d e => ?_⟩⟩
  · have q := b.now.ce k a c e1 e2
    obtain ⟨u, hu⟩ := q.there
    have fn : F a = none → F1 a = none := fun h => by
      cases e : F1 a with
      | none => rfl
      | some o =>
        rcases nf a o e with z | z
        · rw [h] at z; cases z
        · rw [hu] at z; cases z
    cases c with
    | dead => exact ⟨u, kp a u hu⟩
    | lst ds =>
      obtain ⟨q1, xs, q2, q3⟩ := q
      exact ⟨fn q1, xs, kp _ _ q2, q3.mono st.ff ⟨[], by simp⟩⟩
    | ins c ns ds =>
      obtain ⟨q1, dx, xs, q2, q3, q4⟩ := q
      exact ⟨fn q1, dx, xs, kp _ _ q2, q3, q4.mono st.ff ⟨[], by simp⟩⟩
  · obtain ⟨v, h1, h2⟩ := b.sl i d e
    exact ⟨v, h1, h2.mono st.ff ⟨[], by simp⟩⟩
def callP (n : Nat) (f : FM) (ma : AM) : EM := fun s => (ma s).bind fun x => if pureDs x.1 = true ∧ x.1.length = n then (match f x.1 [] with
  | .ok (d, _) => if pureD d = true then .ok (d, x.2) else .bad
  | _ => .bad) else .bad
theorem rd_callP {n : Nat} {f : FM} {ta : TA} {ma : AM} {E : XK} (ha : RdA C ta ma) : RdE C (tCall (spM C.K C.ca n f) [] E ta) (callP n f ma) := by
  intro σ H F θ s Q b p
  refine ha σ H F θ s _ b (PoR.bind p ?_)
  rintro ⟨x, s1⟩ H1 F1 θ1 _ st1 p1 b1 v r1
  dsimp only at p1 b1 r1 ⊢
  split at p1
  · rename_i hp
    rw [List.append_nil]
    refine ⟨F1, [], x, [], Now.nil b1.now.fh, r1.pure hp.1, hp.2, ?_⟩
    split at p1
    · rename_i d O1 e
      rw [e]
      intro v H2 F2 θ2 st2 n2 rv
      split at p1
      · rename_i pd
        obtain ⟨st3, b3⟩ := b1.called st2 n2
        exact p1 H2 F2 θ1 st3 b3 v (rv.pure pd)
      · exact False.elim p1
    · exact False.elim p1
  · exact False.elim p1
end
end M
set_option maxRecDepth 100000
set_option maxHeartbeats 4000000
namespace M
open PySem PySem.Spec PyProof.Rows L2
section
variable {C : Ct}
theorem po_val {σ : L2.St} {H F : Hp} {θ : List Addr} {s : S} {d : D} {Q : VK} (p : PoE C σ H F θ ((Res.ok d).bind fun d => .ok (d, s)) Q) (b : BS C.K C.ca σ H F θ s) {v : V} (r : Rep C.K C.ca θ F d v) : Q v H := p H F θ .refl b v r
theorem po_lst {σ : L2.St} {H F : Hp} {θ : List Addr} {s : S} {ds : List D} {Q : VK} (p : PoE C σ H F θ ((Res.ok (D.lst ds)).bind fun d => .ok (d, s)) Q) (b : BS C.K C.ca σ H F θ s) {xs : List V} (r : Reps C.K C.ca θ F ds xs) :
    ∀ q, H q = none → Q (.ref q) (upd H q (.lst xs)) := fun q hq => by
  obtain ⟨st, b2, sF, e⟩ := b.newF hq (.lst xs)
  refine p _ _ _ st b2 _ ?_
  unfold Rep
  exact ⟨q, xs, rfl, SqL.of e, r.mono sF ⟨[], by simp⟩⟩
def lsD (O : Store) : D → Option (List D)
  | .lst ds => some ds
  | .ptr k => match O[k]? with
    | some (.lst ds) => some ds
    | _ => none
  | _ => none
@[simp] theorem lsD_lst {O : Store} {ds : List D} : lsD O (.lst ds) = some ds := rfl
theorem ls_rep {σ : L2.St} {H F : Hp} {θ : List Addr} {s : S} {d : D} {ds : List D} {v : V} (b : BS C.K C.ca σ H F θ s) (r : Rep C.K C.ca θ F d v) (e : lsD s.o d = some ds) : ∃ a xs, v = .ref a ∧ SqL C.K H a xs ∧ Reps C.K C.ca θ F ds xs := by
  cases d <;> first | (simp [lsD] at e; done) | skip
  · cases e
    unfold Rep at r
    obtain ⟨a, xs, rfl, hs, hr⟩ := r
    exact ⟨a, xs, rfl, b.now.fh.seq hs, hr⟩
  · rename_i k
    unfold Rep at r
    obtain ⟨a, rfl, hk⟩ := r
    unfold lsD at e
    dsimp only at e
    split at e
    · rename_i ds' ek
      cases e
      obtain ⟨_, xs, h1, h2⟩ : CellOk C.K C.ca H F θ a (.lst ds) := b.now.ce k a _ hk ek
      exact ⟨a, xs, rfl, SqL.of h1, h2⟩
    · cases e
theorem tp_rep {σ : L2.St} {H F : Hp} {θ : List Addr} {s : S} {ds : List D} {v : V} (b : BS C.K C.ca σ H F θ s) (r : Rep C.K C.ca θ F (.tup ds) v) : ∃ a xs, v = .ref a ∧ SqT C.K H a xs ∧ Reps C.K C.ca θ F ds xs := by
  unfold Rep at r
  obtain ⟨a, xs, rfl, hs, hr⟩ := r
  exact ⟨a, xs, rfl, Same.seqT b.now.fh hs, hr⟩
def intD (g : Int → Int → Res D) : Op2 := fun _ x y => match x, y with
  | .int i, .int j => g i j
  | _, _ => .bad
theorem rd_rI0 {g : Int → Int → V} {f : Int → Int → D} (h : ∀ K ca θ F i j, Rep K ca θ F (f i j) (g i j)) : RdOp C (rI0 g) (intD fun i j => .ok (f i j)) := by
  intro σ H F θ s x y v w Q b rx ry p
  unfold intD at p
  split at p
  · rename_i i j
    exact ⟨i, j, rep_int.mp rx, rep_int.mp ry, po_val p b (h ..)⟩
  · exact False.elim p
open Classical in
noncomputable def intC (c : Int → Int → Prop) (f : Int → Int → D) : Op2 := intD fun i j => if c i j then .ok (f i j) else .bad
theorem rd_rI {c : Int → Int → Prop} {g : Int → Int → V} {f : Int → Int → D} (h : ∀ K ca θ F i j, Rep K ca θ F (f i j) (g i j)) : RdOp C (rI c g) (intC c f) := by
  intro σ H F θ s x y v w Q b rx ry p
  unfold intC intD at p
  split at p
  · rename_i i j
    dsimp only at p
    split at p
    · rename_i hc
      exact ⟨i, j, rep_int.mp rx, rep_int.mp ry, hc, po_val p b (h ..)⟩
    · exact False.elim p
  · exact False.elim p
def subD : Op2 := intD fun i j => .ok (.int (i - j))
noncomputable def mulD : Op2 := intC IntMulOk fun i j => .int (i * j)
noncomputable def fdivD : Op2 := intC (fun i j => j ≠ 0) fun i j => .int (i.fdiv j)
noncomputable def modD : Op2 := intC (fun _ j => j ≠ 0) fun i j => .int (i.fmod j)
noncomputable def powD : Op2 := intC CPow fun i j => .int (i ^ j.toNat)
def ltD : Op2 := intD fun i j => .ok (.bl (decide (i < j)))
def leD : Op2 := intD fun i j => .ok (.bl (decide (i ≤ j)))
def gtD : Op2 := intD fun i j => .ok (.bl (decide (j < i)))
def geD : Op2 := intD fun i j => .ok (.bl (decide (j ≤ i)))
def negD : Op1 := fun _ x => match x with
  | .int i => .ok (.int (-i))
  | _ => .bad
section
variable {X : Cx}
theorem o_mul : OpR X (binaryOp .Mult) (rI IntMulOk fun i j => .int (i * j)) := opI fun _ _ _ _ _ _ _ hc q => mul_int q hc
theorem o_fdiv (hd : X.A.depth + 100 < recursionLimit) (ht : X.prog.given.tree = none) (hs : ∃ env l, X.stack = env :: l ∧ env.scope.isGenerator = false ∧ env.scope.isCoroutine = false ∧ env.builtins = builtinsNs ∧ env.globals = mainGlobals) :
    OpR X (binaryOp .FloorDiv) (rI (fun i j => j ≠ 0) fun i j => .int (i.fdiv j)) := by
  intro pins s σ H x y v u Q I rx ry h
  obtain ⟨i, j, rfl, rfl, hc, q⟩ := h
  obtain ⟨t, rfl⟩ := rx
  obtain ⟨t', rfl⟩ := ry
  obtain ⟨env, l, e, h1, h2, h3, h4⟩ := hs
  exact floordiv_int hc ⟨.int _, H, I.tok _, ⟨_, rfl⟩, q⟩ (.inr (PylongRoom.of I.nolimit hd (SeerAt.of I.noseer ht (I.ok.frames.trans (by rw [e])) h1 h2 h3 h4)))
def rAddA (K : PySem.W.Frag) : R2 := fun x y H Q => rI0 (fun i j => .int (i + j)) x y H Q ∨ (∃ i j, x = .str i ∧ y = .str j ∧ i.length + j.length ≤ sizeLine ∧ Q (.str (i ++ j)) H) ∨ rCatL K x y H Q
theorem o_add : OpR X (binaryOp .Add) (rAddA X.K) := op_add.or (op_add_str.or op_catL)
end
def addI : Op2 := intD fun i j => .ok (.int (i + j))
def addD : Op2 := fun O x y => match x, y with
  | .int i, .int j => .ok (.int (i + j))
  | .str a, .str b => if a.length + b.length ≤ 16777216 then .ok (.str (a ++ b)) else .bad
  | x, y => match lsD O x, lsD O y with
    | some a, some b => if a.length + b.length ≤ 16777216 then .ok (.lst (a ++ b)) else .bad
    | _, _ => .bad
theorem rd_add : RdOp C (rAddA C.K) addD := by
  intro σ H F θ s x y v w Q b rx ry p
  have lists : ∀ {a c : List D}, lsD s.o x = some a → lsD s.o y = some c → PoE C σ H F θ ((if a.length + c.length ≤ 16777216 then Res.ok (D.lst (a ++ c)) else .bad).bind fun d => .ok (d, s)) Q → rAddA C.K v w H Q := fun {a c} e1 e2 p => by
    split at p
    · rename_i hl
      obtain ⟨l1, xs, rfl, s1, r1⟩ := ls_rep b rx e1
      obtain ⟨l2, ys, rfl, s2, r2⟩ := ls_rep b ry e2
      exact .inr (.inr ⟨l1, l2, xs, ys, rfl, rfl, s1, s2, by rw [r1.length, r2.length]; exact hl, po_lst p b (r1.append r2)⟩)
    · exact False.elim p
  unfold addD at p
  split at p
  · rename_i i j
    exact .inl ⟨i, j, rep_int.mp rx, rep_int.mp ry, po_val p b (rep_int.mpr rfl)⟩
  · rename_i i j
    split at p
    · rename_i hl
      exact .inr (.inl ⟨i, j, rep_str.mp rx, rep_str.mp ry, hl, po_val p b (rep_str.mpr rfl)⟩)
    · exact False.elim p
  · split at p
    · rename_i a c e1 e2
      exact lists e1 e2 p
    · exact False.elim p
theorem rd_sub : RdOp C (rI0 fun i j => .int (i - j)) subD := rd_rI0 fun _ _ _ _ _ _ => rep_int.mpr rfl
theorem rd_mul : RdOp C (rI IntMulOk fun i j => .int (i * j)) mulD := rd_rI fun _ _ _ _ _ _ => rep_int.mpr rfl
theorem rd_fdiv : RdOp C (rI (fun i j => j ≠ 0) fun i j => .int (i.fdiv j)) fdivD := rd_rI fun _ _ _ _ _ _ => rep_int.mpr rfl
theorem rd_mod : RdOp C (rI (fun _ j => j ≠ 0) fun i j => .int (i.fmod j)) modD := rd_rI fun _ _ _ _ _ _ => rep_int.mpr rfl
theorem rd_pow : RdOp C (rI CPow fun i j => .int (i ^ j.toNat)) powD := rd_rI fun _ _ _ _ _ _ => rep_int.mpr rfl
theorem rd_lt : RdOp C (rI0 fun i j => .bl (decide (i < j))) ltD := rd_rI0 fun _ _ _ _ _ _ => rep_bl.mpr rfl
theorem rd_gt : RdOp C (rI0 fun i j => .bl (decide (j < i))) gtD := rd_rI0 fun _ _ _ _ _ _ => rep_bl.mpr rfl
theorem rd_neg : RdUn C (rU fun i => .int (-i)) negD := by
  intro σ H F θ s x v Q b rx p
  unfold negD at p
  split at p
  · rename_i i
    exact ⟨i, rep_int.mp rx, po_val p b (rep_int.mpr rfl)⟩
  · exact False.elim p
mutual
def toPy : D → Option PyData
  | .non => some .none
  | .bl b => some (.bool b)
  | .int i => some (.int i)
  | .str x => some (.str x)
  | .lst ds => (toPys ds).map .list
  | .tup ds => (toPys ds).map .tuple
  | .ptr _ => none
  | .obj _ _ _ => none
  | .exn _ => none
def toPys : List D → Option (List PyData)
  | [] => some []
  | d :: ds => match toPy d, toPys ds with
    | some a, some b => some (a :: b)
    | _, _ => none
end
mutual
def res (O : Store) : D → D
  | .lst ds => .lst (ress O ds)
  | .tup ds => .tup (ress O ds)
  | .ptr k => match O[k]? with
    | some (.lst ds) => .lst ds
    | _ => .ptr k
  | .non => .non
  | .bl b => .bl b
  | .int i => .int i
  | .str x => .str x
  | .obj c ns ds => .obj c ns ds
  | .exn c => .exn c
def ress (O : Store) : List D → List D
  | [] => []
  | d :: ds => res O d :: ress O ds
end
section
variable {K : PySem.W.Frag} {ca : Nat → Addr} {H F G : Hp} {θ : List Addr} {O : Store}
mutual
theorem res_rep (n : Now K ca H F θ O) (hF : Same F G) (hG : Same G H) : ∀ {d : D} {v : V}, Rep K ca θ G d v → Rep K ca θ H (res O d) v
  | .non, _, h => by unfold res; exact h
  | .bl _, _, h => by unfold res; exact h
  | .int _, _, h => by unfold res; exact h
  | .str _, _, h => by unfold res; exact h
  | .lst ds, _, h => by
    unfold res
    unfold Rep at h ⊢
    obtain ⟨a, xs, e, hs, hr⟩ := h
    exact ⟨a, xs, e, hG.seq hs, ress_rep n hF hG hr⟩
  | .tup ds, _, h => by
    unfold res
    unfold Rep at h ⊢
    obtain ⟨a, xs, e, hs, hr⟩ := h
    exact ⟨a, xs, e, Same.seqT hG hs, ress_rep n hF hG hr⟩
  | .ptr k, v, h => by
    unfold res
    split
    · rename_i ds e
      unfold Rep at h ⊢
      obtain ⟨a, ev, hk⟩ := h
      obtain ⟨_, xs, h1, h2⟩ : CellOk K ca H F θ a (.lst ds) := n.ce k a _ hk e
      exact ⟨a, xs, ev, SqL.of h1, h2.mono n.fh ⟨[], by simp⟩⟩
    · exact h.mono hG ⟨[], by simp⟩
  | .obj c ns ds, _, h => by unfold res; exact h.mono hG ⟨[], by simp⟩
  | .exn c, _, h => by unfold res; exact h.mono hG ⟨[], by simp⟩
theorem ress_rep (n : Now K ca H F θ O) (hF : Same F G) (hG : Same G H) : ∀ {ds : List D} {xs : List V}, Reps K ca θ G ds xs → Reps K ca θ H (ress O ds) xs
  | [], _, h => by unfold ress; exact h
  | d :: ds, _, h => by
    unfold ress
    unfold Reps at h ⊢
    obtain ⟨v, r, e, h1, h2⟩ := h
    exact ⟨v, r, e, res_rep n hF hG h1, ress_rep n hF hG h2⟩
end
mutual
theorem toPy_rd : ∀ {d : D} {v : V} {p : PyData}, Rep K ca θ H d v → toPy d = some p → RdV K H p v
  | .non, _, _, h, e => by unfold toPy at e; cases e; unfold RdV; exact rep_non.mp h
  | .bl b, _, _, h, e => by unfold toPy at e; cases e; unfold RdV; exact rep_bl.mp h
  | .int b, _, _, h, e => by unfold toPy at e; cases e; unfold RdV; exact rep_int.mp h
  | .str b, _, _, h, e => by unfold toPy at e; cases e; unfold RdV; exact rep_str.mp h
  | .lst ds, _, _, h, e => by
    unfold toPy at e
    cases e1 : toPys ds with
    | none => rw [e1] at e; cases e
    | some ps =>
      rw [e1] at e
      cases e
      unfold Rep at h
      obtain ⟨a, xs, ev, hs, hr⟩ := h
      unfold RdV
      exact ⟨a, xs, ev, hs, toPys_rd hr e1⟩
  | .tup ds, _, _, h, e => by
    unfold toPy at e
    cases e1 : toPys ds with
    | none => rw [e1] at e; cases e
    | some ps =>
      rw [e1] at e
      cases e
      unfold Rep at h
      obtain ⟨a, xs, ev, hs, hr⟩ := h
      unfold RdV
      exact ⟨a, xs, ev, hs, toPys_rd hr e1⟩
  | .ptr _, _, _, _, e => by unfold toPy at e; cases e
  | .obj _ _ _, _, _, _, e => by unfold toPy at e; cases e
  | .exn _, _, _, _, e => by unfold toPy at e; cases e
theorem toPys_rd : ∀ {ds : List D} {xs : List V} {ps : List PyData}, Reps K ca θ H ds xs → toPys ds = some ps → RdVs K H ps xs
  | [], _, _, h, e => by unfold toPys at e; cases e; unfold RdVs; unfold Reps at h; exact h
  | d :: ds, _, _, h, e => by
    unfold toPys at e
    cases e1 : toPy d with
    | none => rw [e1] at e; cases e
    | some p =>
      cases e2 : toPys ds with
      | none => rw [e1, e2] at e; cases e
      | some ps =>
        rw [e1, e2] at e
        cases e
        unfold Reps at h
        obtain ⟨v, r, ev, h1, h2⟩ := h
        unfold RdVs
        exact ⟨v, r, ev, toPy_rd h1 e1, toPys_rd h2 e2⟩
end
end
def eqDeep (O : Store) (x y : D) : Option Bool := match toPy (res O (res O x)), toPy (res O (res O y)) with
  | some a, some b => if SeqAt.shaped a = true ∧ SeqAt.shaped b = true then some (PyData.eqv a b) else none
  | _, _ => none
def eqB (O : Store) (x y : D) : Option Bool := match x, y with
  | .int i, .int j => some (decide (i = j))
  | .str i, .str j => some (decide (i = j))
  | .bl i, .bl j => some (decide (i = j))
  | .non, .non => some true
  | x, y => eqDeep O x y
def eqD : Op2 := fun O x y => match eqB O x y with
  | some b => .ok (.bl b)
  | none => .bad
def neD : Op2 := fun O x y => match eqB O x y with
  | some b => .ok (.bl (!b))
  | none => .bad
section
variable {X : Cx}
def rEqA (K : PySem.W.Frag) : R2 := fun x y H Q => rEq x y H Q ∨ rEqD K x y H Q
def rNeA (K : PySem.W.Frag) : R2 := fun x y H Q => rNe x y H Q ∨ rNeD K x y H Q
theorem o_eq (hu : X.A.units + 64 < cLine) : OpR X (compareOp .Eq) (rEqA X.K) := op_eq.or (op_eqD hu)
theorem o_ne (hu : X.A.units + 64 < cLine) : OpR X (compareOp .NotEq) (rNeA X.K) := op_ne.or (op_neD hu)
end
theorem eqDeep_rd {σ : L2.St} {H F : Hp} {θ : List Addr} {s : S} {x y : D} {v w : V} {k : Bool} (b : BS C.K C.ca σ H F θ s) (rx : Rep C.K C.ca θ F x v) (ry : Rep C.K C.ca θ F y w) (e : eqDeep s.o x y = some k) :
    ∃ d e, RdV C.K H d v ∧ RdV C.K H e w ∧ SeqAt.shaped d = true ∧ SeqAt.shaped e = true ∧ PyData.eqv d e = k := by
  unfold eqDeep at e
  split at e
  · rename_i a c e1 e2
    split at e
    · rename_i hs
      cases e
      have rr : ∀ {d : D} {u : V}, Rep C.K C.ca θ F d u → Rep C.K C.ca θ H (res s.o (res s.o d)) u := fun h => res_rep b.now b.now.fh (Same.refl _) (res_rep b.now (Same.refl _) b.now.fh h)
      exact ⟨a, c, toPy_rd (rr rx) e1, toPy_rd (rr ry) e2, hs.1, hs.2, rfl⟩
    · cases e
  · cases e
theorem rd_eq : RdOp C (rEqA C.K) eqD := by
  intro σ H F θ s x y v w Q b rx ry p
  unfold eqD at p
  split at p
  · rename_i k e
    have q := fun H' (h : H' = H) => h ▸ po_val p b (v := .bl k) (rep_bl.mpr rfl)
    have q := q H rfl
    unfold eqB at e
    split at e
    · rename_i i j
      cases e
      cases rep_int.mp rx; cases rep_int.mp ry
      exact .inl ⟨rfl, by rw [dec_int, Bool.beq_eq_decide_eq]; exact q⟩
    · cases e
      cases rep_str.mp rx; cases rep_str.mp ry
      exact .inl ⟨rfl, by rw [dec_str, Bool.beq_eq_decide_eq]; exact q⟩
    · cases e
      cases rep_bl.mp rx; cases rep_bl.mp ry
      exact .inl ⟨rfl, by rw [dec_bl, Bool.beq_eq_decide_eq]; exact q⟩
    · cases e
      cases rep_non.mp rx; cases rep_non.mp ry
      exact .inl ⟨rfl, by simpa using q⟩
    · obtain ⟨d, e', h1, h2, h3, h4, h5⟩ := eqDeep_rd b rx ry e
      exact .inr ⟨d, e', h1, h2, h3, h4, by rw [h5]; exact q⟩
  · exact False.elim p
theorem rd_ne : RdOp C (rNeA C.K) neD := by
  intro σ H F θ s x y v w Q b rx ry p
  unfold neD at p
  split at p
  · rename_i k e
    have q := po_val p b (v := .bl (!k)) (rep_bl.mpr rfl)
    unfold eqB at e
    split at e
    · rename_i i j
      cases e
      cases rep_int.mp rx; cases rep_int.mp ry
      exact .inl ⟨rfl, by rw [dec_int, Bool.beq_eq_decide_eq]; exact q⟩
    · cases e
      cases rep_str.mp rx; cases rep_str.mp ry
      exact .inl ⟨rfl, by rw [dec_str, Bool.beq_eq_decide_eq]; exact q⟩
    · cases e
      cases rep_bl.mp rx; cases rep_bl.mp ry
      exact .inl ⟨rfl, by rw [dec_bl, Bool.beq_eq_decide_eq]; exact q⟩
    · cases e
      cases rep_non.mp rx; cases rep_non.mp ry
      exact .inl ⟨rfl, by simpa using q⟩
    · obtain ⟨d, e', h1, h2, h3, h4, h5⟩ := eqDeep_rd b rx ry e
      exact .inr ⟨d, e', h1, h2, h3, h4, by rw [h5]; exact q⟩
  · exact False.elim p
def ixD : Op2 := fun O x y => match y with
  | .int i => match x with
    | .tup ds => match atI ds i with
      | some d => .ok d
      | none => .bad
    | .str z => if z.length ≤ 16777216 then (match atI z.cps.toList i with
      | some c => .ok (.str ⟨#[c]⟩)
      | none => .bad) else .bad
    | x => match lsD O x with
      | some ds => match atI ds i with
        | some d => .ok d
        | none => .bad
      | none => .bad
  | _ => .bad
theorem reps_at {K ca θ F} {ds : List D} {xs : List V} {i : Int} {d : D} (r : Reps K ca θ F ds xs) (e : atI ds i = some d) : ∃ v, atI xs i = some v ∧ Rep K ca θ F d v := by
  unfold atI at e ⊢
  rw [r.length]
  cases q : ixN ds.length i with
  | none => rw [q] at e; cases e
  | some j =>
    rw [q] at e
    exact r.get e
theorem rd_ix : RdOp C (rIx C.K) ixD := by
  intro σ H F θ s x y v w Q b rx ry p
  unfold ixD at p
  split at p
  · rename_i i
    split at p
    · rename_i ds
      obtain ⟨a, xs, rfl, hs, hr⟩ := tp_rep b rx
      split at p
      · rename_i d e
        obtain ⟨u, e1, r1⟩ := reps_at hr e
        exact .inr (.inl ⟨a, xs, i, u, rfl, rep_int.mp ry, hs, e1, po_val p b r1⟩)
      · exact False.elim p
    · rename_i z
      split at p
      · rename_i hz
        split at p
        · rename_i c e
          exact .inr (.inr ⟨z, i, c, rep_str.mp rx, rep_int.mp ry, hz, e, po_val p b (rep_str.mpr rfl)⟩)
        · exact False.elim p
      · exact False.elim p
    · split at p
      · rename_i ds e0
        obtain ⟨a, xs, rfl, hs, hr⟩ := ls_rep b rx e0
        split at p
        · rename_i d e
          obtain ⟨u, e1, r1⟩ := reps_at hr e
          exact .inl ⟨a, xs, i, u, rfl, rep_int.mp ry, hs, e1, po_val p b r1⟩
        · exact False.elim p
      · exact False.elim p
  · exact False.elim p
abbrev OM := S → Res (Option Int × S)
def RdO (C : Ct) (t : TO) (m : OM) : Prop := ∀ σ H F θ s Q, BS C.K C.ca σ H F θ s → PoR C H F θ (m s) (fun y H1 F1 θ1 => BS C.K C.ca σ H1 F1 θ1 y.2 → Q y.1 H1) → t σ H Q
def noPart : OM := fun s => .ok (none, s)
def part (m : EM) : OM := fun s => (m s).bind fun x => match x.1 with
  | .int i => .ok (some i, x.2)
  | _ => .bad
theorem rd_noPart : RdO C tNoPart noPart := fun σ H F θ s Q b p => p H F θ .refl b
theorem rd_part {t : TE} {m : EM} (h : RdE C t m) : RdO C (tPart t) (part m) := by
  intro σ H F θ s Q b p
  refine h σ H F θ s _ b (PoR.bind p ?_)
  rintro ⟨x, s1⟩ H1 F1 θ1 _ st1 p1 b1 v r1
  cases x <;> first | exact False.elim p1 | skip
  rename_i i _
  exact ⟨i, rep_int.mp r1, p1 _ _ _ .refl b1⟩
def cutD (ds : List D) (lo hi : Option Int) : List D := (ds.drop (HT.sIx ds.length 0 lo)).take (HT.sIx ds.length ds.length hi - HT.sIx ds.length 0 lo)
theorem cut_rep {K ca θ F} {ds : List D} {xs : List V} {lo hi : Option Int} (r : Reps K ca θ F ds xs) : Reps K ca θ F (cutD ds lo hi) (cutV xs lo hi) := by
  unfold cutD cutV
  rw [r.length]
  exact (r.drop _).take _
def slM (me : EM) (ml mh : OM) : EM := fun s => (me s).bind fun x => (ml x.2).bind fun l => (mh l.2).bind fun h => match lsD h.2.o x.1 with
  | some ds => .ok (.lst (cutD ds l.1 h.1), h.2)
  | none => .bad
theorem rd_sl {te : TE} {tl th : TO} {me : EM} {ml mh : OM} (he : RdE C te me) (hl : RdO C tl ml) (hh : RdO C th mh) : RdE C (tSl (rSlL C.K) te tl th) (slM me ml mh) := by
  intro σ H F θ s Q b p
  refine he σ H F θ s _ b (PoR.bind p ?_)
  rintro ⟨x, s1⟩ H1 F1 θ1 _ st1 p1 b1 v r1
  refine hl σ H1 F1 θ1 s1 _ b1 (PoR.bind p1 ?_)
  rintro ⟨l, s2⟩ H2 F2 θ2 _ st2 p2 b2
  refine hh σ H2 F2 θ2 s2 _ b2 (PoR.bind p2 ?_)
  rintro ⟨h, s3⟩ H3 F3 θ3 _ st3 p3 b3
  dsimp only at p3 ⊢
  split at p3
  · rename_i ds e
    obtain ⟨a, xs, rfl, hs, hr⟩ := ls_rep b3 ((r1.mono st2.ff st2.pre).mono st3.ff st3.pre) e
    exact ⟨a, xs, rfl, hs, po_lst (ds := cutD ds l h) p3 b3 (cut_rep hr)⟩
  · exact False.elim p3
def lenD : OpN := fun O xs => match xs with
  | [.str z] => if z.length ≤ 16777216 then .ok (.int z.length) else .bad
  | [.tup ds] => .ok (.int ds.length)
  | [x] => match lsD O x with
    | some ds => .ok (.int ds.length)
    | none => .bad
  | _ => .bad
theorem reps1 {K ca θ F} {x : D} {vs : List V} (h : Reps K ca θ F [x] vs) : ∃ v, vs = [v] ∧ Rep K ca θ F x v := by
  unfold Reps at h
  obtain ⟨v, r, rfl, h1, h2⟩ := h
  unfold Reps at h2
  rw [h2]
  exact ⟨v, rfl, h1⟩
theorem rd_len : RdCall C (fun xs H Q => ∃ x n, xs = [x] ∧ LenV C.K x H n ∧ Q (.int n) H) lenD := by
  intro σ H F θ s xs vs Q b r p
  unfold lenD at p
  split at p
  · rename_i z
    obtain ⟨v, rfl, r1⟩ := reps1 r
    cases rep_str.mp r1
    split at p
    · rename_i hz
      exact ⟨.str z, z.length, rfl, ⟨hz, rfl⟩, po_val p b (rep_int.mpr rfl)⟩
    · exact False.elim p
  · rename_i ds
    obtain ⟨v, rfl, r1⟩ := reps1 r
    obtain ⟨a, xs, rfl, hs, hr⟩ := tp_rep b r1
    exact ⟨.ref a, ds.length, rfl, .inr ⟨xs, hs, by rw [hr.length]⟩, po_val p b (rep_int.mpr rfl)⟩
  · rename_i x _ _
    obtain ⟨v, rfl, r1⟩ := reps1 r
    split at p
    · rename_i ds e
      obtain ⟨a, xs, rfl, hs, hr⟩ := ls_rep b r1 e
      exact ⟨.ref a, ds.length, rfl, .inl ⟨xs, hs, by rw [hr.length]⟩, po_val p b (rep_int.mpr rfl)⟩
    · exact False.elim p
  · exact False.elim p
def listD : OpN := fun O xs => match xs with
  | [.tup ds] => .ok (.lst ds)
  | [x] => match lsD O x with
    | some ds => .ok (.lst ds)
    | none => .bad
  | _ => .bad
def absD : OpN := fun _ xs => match xs with
  | [.int i] => .ok (.int (if i < 0 then -i else i))
  | _ => .bad
theorem rd_abs : RdCall C (fun xs H Q => ∃ i, xs = [.int i] ∧ Q (.int (if i < 0 then -i else i)) H) absD := by
  intro σ H F θ s xs vs Q b r p
  unfold absD at p
  split at p
  · rename_i i
    exact ⟨i, reps_ints1 r, po_val p b (rep_int.mpr rfl)⟩
  · exact False.elim p
def intOf : OpN := fun _ xs => match xs with
  | [.int i] => .ok (.int i)
  | [.bl k] => .ok (.int (if k then 1 else 0))
  | _ => .bad
def tyD (O : Store) : D → Option String
  | .non => some "NoneType"
  | .bl _ => some "bool"
  | .int _ => some "int"
  | .str _ => some "str"
  | .lst _ => some "list"
  | .tup _ => some "tuple"
  | .ptr k => match O[k]? with
    | some (.lst _) => some "list"
    | _ => none
  | .obj _ _ _ => none
  | .exn _ => none
def isSub (t c : String) : Bool := t == c || (t == "bool" && c == "int")
def isiD (c : String) : Op1 := fun O x => match tyD O x with
  | some t => .ok (.bl (isSub t c))
  | none => .bad
def plainTy (c : String) : Prop := ∀ K : PySem.W.Frag, ∀ t ∈ ["NoneType", "bool", "int", "str", "list", "tuple"], PySem.W.kitOne K (.type t) (.type c) = some (isSub t c)
theorem ty_int : plainTy "int" := by
  intro K t ht
  simp only [List.mem_cons, List.mem_nil_iff, or_false] at ht
  rcases ht with rfl | rfl | rfl | rfl | rfl | rfl <;> rfl
theorem ty_bool : plainTy "bool" := by
  intro K t ht
  simp only [List.mem_cons, List.mem_nil_iff, or_false] at ht
  rcases ht with rfl | rfl | rfl | rfl | rfl | rfl <;> rfl
theorem ty_tuple : plainTy "tuple" := by
  intro K t ht
  simp only [List.mem_cons, List.mem_nil_iff, or_false] at ht
  rcases ht with rfl | rfl | rfl | rfl | rfl | rfl <;> rfl
theorem rd_isi {c : String} {te : TE} {m : EM} (hc : plainTy c) (h : RdE C te m) : RdE C (tCB (rIsi C.K) (tCons te (tCons (tC (.ty c)) tNil))) (unM (isiD c) m) := by
  intro σ H F θ s Q b p
  refine h σ H F θ s _ b (PoR.bind p ?_)
  rintro ⟨x, s1⟩ H1 F1 θ1 _ st1 p1 b1 v r1
  dsimp only at p1 b1 r1
  show rIsi C.K [v, .ty c] H1 Q
  unfold isiD at p1
  split at p1
  · rename_i t e
    have q := po_val p1 b1 (v := .bl (isSub t c)) (rep_bl.mpr rfl)
    refine ⟨v, c, t, isSub t c, rfl, ?_, ?_, q⟩
    · cases x <;> first | (unfold tyD at e; cases e; done) | skip
      · unfold tyD at e; cases e; rw [rep_non.mp r1]; rfl
      · unfold tyD at e; cases e; rw [rep_bl.mp r1]; rfl
      · unfold tyD at e; cases e; rw [rep_int.mp r1]; rfl
      · unfold tyD at e; cases e; rw [rep_str.mp r1]; rfl
      · unfold tyD at e; cases e
        unfold Rep at r1
        obtain ⟨a, xs, rfl, hs, hr⟩ := r1
        exact .inl ⟨rfl, xs, b1.now.fh.seq hs⟩
      · unfold tyD at e; cases e
        unfold Rep at r1
        obtain ⟨a, xs, rfl, hs, hr⟩ := r1
        exact .inr ⟨rfl, xs, Same.seqT b1.now.fh hs⟩
      · rename_i k _
        unfold tyD at e
        dsimp only at e
        split at e
        · rename_i ds ek
          cases e
          obtain ⟨a, xs, rfl, hs, hr⟩ := ls_rep b1 r1 (ds := ds) (by unfold lsD; simp only [ek])
          exact .inl ⟨rfl, xs, hs⟩
        · cases e
    · refine hc C.K t ?_
      cases x <;> unfold tyD at e <;> dsimp only at e <;> first | (cases e; simp; done) | (cases e; done) | skip
      split at e
      · cases e; simp
      · cases e
  · exact False.elim p1
theorem nodup_at {α : Type} {l : List α} (h : l.Nodup) {i j : Nat} {x : α} (a : l[i]? = some x) (b : l[j]? = some x) : i = j := by
  obtain ⟨h1, e1⟩ := List.getElem?_eq_some_iff.mp a
  obtain ⟨h2, e2⟩ := List.getElem?_eq_some_iff.mp b
  exact (List.getElem_inj h).mp (e1.trans e2.symm)
def celD (O : Store) : D → Option (Nat × List D)
  | .ptr k => match O[k]? with
    | some (.lst ds) => some (k, ds)
    | _ => none
  | _ => none
def appM (mo me : EM) : EM := fun s => (mo s).bind fun x => match celD x.2.o x.1 with
  | some _ => (me x.2).bind fun y => match celD y.2.o x.1 with
    | some (k, ds) => if ds.length < 16777216 then .ok (.non, ⟨y.2.r, y.2.o.set k (.lst (ds ++ [y.1]))⟩) else .bad
    | none => .bad
  | none => .bad
def met0M (f : List D → Option (List D × D)) (mo : EM) : EM := fun s => (mo s).bind fun x => match celD x.2.o x.1 with
  | some (k, ds) => match f ds with
    | some (es, r) => .ok (r, ⟨x.2.r, x.2.o.set k (.lst es)⟩)
    | none => .bad
  | none => .bad
theorem BS.frz {K : PySem.W.Frag} {ca : Nat → Addr} {σ : L2.St} {H F : Hp} {θ : List Addr} {s : S} (b : BS K ca σ H F θ s) {k : Nat} {a : Addr} {ds : List D} {xs : List V} (hk : θ[k]? = some a) (hc : s.o[k]? = some (.lst ds)) (hF : F a = none) (hH : H a = some (.lst xs)) (hr : Reps K ca θ F ds xs) :
    Stp H F θ H (upd F a (.lst xs)) θ ∧ BS K ca σ H (upd F a (.lst xs)) θ ⟨s.r, s.o.set k .dead⟩ ∧ Rep K ca θ (upd F a (.lst xs)) (.lst ds) (.ref a) := by
  have hm : a ∈ θ := List.mem_of_getElem? hk
  have sF : Same F (upd F a (.lst xs)) := fun e o he => by
    rw [upd_ne (fun z => by rw [z, hF] at he; cases he)]; exact he
  refine ⟨⟨sF, ⟨[], by simp, by simp⟩, fun e o he _ => he, fun e o he => ⟨o, he⟩, fun e o he => ?_⟩, ⟨⟨fun e o he => ?_, b.now.nd, by simpa using b.now.ln, fun j a' c' e1 e2 => ?_⟩, b.len, fun i d e => ?_⟩, ?_⟩
  · by_cases z : e = a
    · exact .inr (.inr (by rw [z]; exact hm))
    · rw [upd_ne z] at he; exact .inl he
  · by_cases z : e = a
    · subst z; rw [upd_same] at he; rw [hH]; exact he
    · rw [upd_ne z] at he; exact b.now.fh _ _ he
  · by_cases hj : k = j
    · subst hj
      rw [hk] at e1; cases e1
      have : k < s.o.length := (List.getElem?_eq_some_iff.mp hc).1
      rw [List.getElem?_set_self this] at e2
      cases e2
      exact ⟨_, hH⟩
    · rw [List.getElem?_set_ne hj] at e2
      have q := b.now.ce j a' c' e1 e2
      have ne : a' ≠ a := fun z => by
        subst z
        exact hj (nodup_at b.now.nd hk e1)
      cases c' with
      | dead => exact q
      | lst ds => obtain ⟨q1, ys, q2, q3⟩ := q; exact ⟨by rw [upd_ne ne]; exact q1, ys, q2, q3.mono sF ⟨[], by simp⟩⟩
      | ins c ns ds => obtain ⟨q1, dx, ys, q2, q3, q4⟩ := q; exact ⟨by rw [upd_ne ne]; exact q1, dx, ys, q2, q3, q4.mono sF ⟨[], by simp⟩⟩
  · obtain ⟨v, h1, h2⟩ := b.sl i d e
    exact ⟨v, h1, h2.mono sF ⟨[], by simp⟩⟩
  · unfold Rep
    exact ⟨a, xs, rfl, SqL.of upd_same, hr.mono sF ⟨[], by simp⟩⟩
def frzM (m : EM) : EM := fun s => (m s).bind fun x => match celD x.2.o x.1 with
  | some (k, ds) => .ok (.lst ds, ⟨x.2.r, x.2.o.set k .dead⟩)
  | none => .bad
def trueT : TM := fun s => .ok (true, s)
end
end M
set_option maxRecDepth 100000
set_option maxHeartbeats 4000000
namespace M
open PySem PySem.Spec PyProof.Rows L2
section
variable {C : Ct}
def seqOf (O : Store) : D → Option (List D)
  | .tup ds => some ds
  | x => lsD O x
def listC (m : EM) : EM := fun s => (m s).bind fun x => match seqOf x.2.o x.1 with
  | some ds => .ok (.ptr x.2.o.length, ⟨x.2.r, x.2.o ++ [.lst ds]⟩)
  | none => .bad
mutual
def shD (n : Nat) : D → D
  | .lst ds => .lst (shDs n ds)
  | .tup ds => .tup (shDs n ds)
  | .ptr k => .ptr (n + k)
  | .obj c ns ds => .obj c ns (shDs n ds)
  | .exn c => .exn c
  | .non => .non
  | .bl b => .bl b
  | .int i => .int i
  | .str x => .str x
def shDs (n : Nat) : List D → List D
  | [] => []
  | d :: ds => shD n d :: shDs n ds
end
def shC (n : Nat) : Cell → Cell
  | .dead => .dead
  | .lst ds => .lst (shDs n ds)
  | .ins c ns ds => .ins c ns (shDs n ds)
section
variable {K : PySem.W.Frag} {ca : Nat → Addr} {F : Hp} {θ θ1 : List Addr}
end
def callO (n : Nat) (f : FM) (ma : AM) : EM := fun s => (ma s).bind fun x => if pureDs x.1 = true ∧ x.1.length = n then (match f x.1 [] with
  | .ok (d, O1) => .ok (shD x.2.o.length d, ⟨x.2.r, x.2.o ++ O1.map (shC x.2.o.length)⟩)
  | _ => .bad) else .bad
def callV (n : Nat) (f : FM) (ma : AM) : EM := fun s => (ma s).bind fun x => if pureDs (ress x.2.o (ress x.2.o x.1)) = true ∧ x.1.length = n then (match f (ress x.2.o (ress x.2.o x.1)) [] with
  | .ok (d, _) => if scalD d = true then .ok (d, x.2) else .bad
  | _ => .bad) else .bad
end
end M
set_option maxRecDepth 100000
set_option maxHeartbeats 4000000
namespace M
open PySem PySem.Spec PyProof.Rows L2
def DefAt (P : Program) (w : World) (K : PySem.W.Frag) (mg : Str → Option Value) (base : Heap) (ca : Nat → Addr) (lv : Nat) (x : Str) (ps : List Str) (f : FM) (a : Addr) (fd : FuncData) : Prop :=
  FnOk P w K mg base (CXE P w) lv a fd ps (spM K ca ps.length f) ∧ mg x = some (.ref a) ∧ PySem.W.keepIn K (.ref a) = true ∧ Binds K fd ps []
def DefIn (P : Program) (w : World) (K : PySem.W.Frag) (mg : Str → Option Value) (base : Heap) (ca : Nat → Addr) (lv : Nat) (x : Str) (ps : List Str) (f : FM) : Prop := ∃ a fd, DefAt P w K mg base ca lv x ps f a fd
theorem DefAt.in {P : Program} {w : World} {K : PySem.W.Frag} {mg : Str → Option Value} {base : Heap} {ca : Nat → Addr} {lv : Nat} {x : Str} {ps : List Str} {f : FM} {a : Addr} {fd : FuncData} (h : DefAt P w K mg base ca lv x ps f a fd) : DefIn P w K mg base ca lv x ps f := ⟨a, fd, h⟩
theorem reps_ints {K : PySem.W.Frag} {ca : Nat → Addr} {θ : List Addr} {F : Hp} : ∀ ns : List Int, Reps K ca θ F (ns.map D.int) (ns.map V.int)
  | [] => Reps.nil
  | _ :: ns => Reps.cons (rep_int.mpr rfl) (reps_ints ns)
theorem law_sp {K : PySem.W.Frag} {ca : Nat → Addr} {H : Hp} {a : Addr} {ns : List Int} {f : FM} {E : XK} (hS : SqL K H a (ns.map V.int)) (h : ∃ O, f [.lst (ns.map D.int)] [] = .ok (.bl true, O)) : spM K ca 1 f [.ref a] H (fun v _ => v = .bl true) E := by
  obtain ⟨O, h⟩ := h
  refine ⟨H, [], [.lst (ns.map D.int)], [], Now.nil (Same.refl _), Reps.one ?_, rfl, ?_⟩
  · unfold Rep
    exact ⟨a, ns.map V.int, rfl, hS, reps_ints ns⟩
  · rw [h]
    intro v H1 F1 θ1 _ _ r
    exact rep_bl.mp r
theorem dp_of {k : Nat} {A : Around} (hr : Room k A) (hk : 32 ≤ k) : A.depth + 100 < recursionLimit := by
  have := hr.dp
  omega
def gcdFuel (i : Nat) (s : S) : Nat := match s.r[i]? with
  | some (some (.int j)) => j.natAbs + 1
  | _ => 0
end M
set_option maxRecDepth 100000
set_option maxHeartbeats 4000000
namespace M
open PySem PySem.Spec PyProof.Rows L2
section
variable {C : Ct}
def zipD (as bs : List D) : List D := List.zipWith (fun a b => .tup [a, b]) as bs
def zipI (m : AM) : IM := fun s => (m s).bind fun x => match x.1 with
  | [.lst as, .lst bs] => .ok ((zipD as bs, none), x.2)
  | _ => .bad
def enumD (ds : List D) : List D := ds.mapIdx fun i d => .tup [.int (i : Nat), d]
def enumerateI (m : AM) : IM := fun s => (m s).bind fun x => match x.1 with
  | [.lst as] => .ok ((enumD as, none), x.2)
  | _ => .bad
def signsD (x : Str) : List D := x.cps.toList.map fun c => .str ⟨#[c]⟩
def strI (m : EM) : IM := fun s => (m s).bind fun x => match x.1 with
  | .str z => .ok ((signsD z, none), x.2)
  | _ => .bad
def asInts : List D → Option (List Int)
  | [] => some []
  | .int i :: r => (asInts r).map (i :: ·)
  | _ => none
def asBools : List D → Option (List Bool)
  | [] => some []
  | .bl i :: r => (asBools r).map (i :: ·)
  | _ => none
def ofInts (f : List Int → D) : OpN := fun O xs => match xs with
  | [x] => match lsD O x with
    | some ds => match asInts ds with
      | some ns => .ok (f ns)
      | none => .bad
    | none => .bad
  | _ => .bad
def ofBools (f : List Bool → D) : OpN := fun O xs => match xs with
  | [x] => match lsD O x with
    | some ds => match asBools ds with
      | some ns => .ok (f ns)
      | none => .bad
    | none => .bad
  | _ => .bad
def sumD : OpN := ofInts fun ns => .int ns.sum
def allD : OpN := ofBools fun bs => .bl (bs.all id)
def anyD : OpN := ofBools fun bs => .bl (bs.any id)
def nonB : D → Bool
  | .non => true
  | _ => false
def isD : Op2 := fun _ x y => match x, y with
  | .bl a, .bl b => .ok (.bl (a == b))
  | x, .non => .ok (.bl (nonB x))
  | _, _ => .bad
def isnotD : Op2 := fun _ x y => match y with
  | .non => .ok (.bl (!nonB x))
  | _ => .bad
def chainM (f g : Op2) (a b c : EM) : EM := fun s => (a s).bind fun x => (b x.2).bind fun y => (f y.2.o x.1 y.1).bind fun z => match z with
  | .bl true => (c y.2).bind fun w => (g w.2.o y.1 w.1).bind fun d => .ok (d, w.2)
  | .bl false => .ok (.bl false, y.2)
  | _ => .bad
def callS (n : Nat) (f : FM) (ma : AM) : EM := fun s => (ma s).bind fun x => if x.1.length = n then (match f x.1 x.2.o with
  | .ok (d, O1) => .ok (d, ⟨x.2.r, O1⟩)
  | _ => .bad) else .bad
def repL (k : Int) (ds : List D) : List D := (List.replicate k.toNat ds).flatten
def repM (fin : S → List D → Res (D × S)) (ma : AM) (mk : EM) : EM := fun s => (ma s).bind fun x => if x.1.length ≤ 16777216 then (mk x.2).bind fun y => match y.1 with
    | .int k => if (-(2 ^ 63) ≤ k ∧ k < 2 ^ 63) ∧ x.1.length * k.toNat ≤ 16777216 then fin y.2 (repL k x.1) else .bad
    | _ => .bad
  else .bad
def finF : S → List D → Res (D × S) := fun s ds => .ok (.lst ds, s)
def finC : S → List D → Res (D × S) := fun s ds => .ok (.ptr s.o.length, ⟨s.r, s.o ++ [.lst ds]⟩)
def truM (m : EM) : TM := fun s => (m s).bind fun x => match lsD x.2.o x.1 with
  | some ds => .ok (!ds.isEmpty, x.2)
  | none => .bad
end
end M
set_option maxRecDepth 100000
set_option maxHeartbeats 4000000
namespace M
open PySem PySem.Spec PyProof.Rows L2
section
variable {C : Ct}
end
end M
set_option maxRecDepth 100000
set_option maxHeartbeats 4000000
namespace M
open PySem PySem.Spec PyProof.Rows L2
section
variable {C : Ct}
end
end M
set_option maxRecDepth 100000
set_option maxHeartbeats 4000000
namespace M
open PySem PySem.Spec PyProof.Rows L2
section
variable {C : Ct}
end
end M
set_option maxRecDepth 100000
set_option maxHeartbeats 4000000
namespace M
open PySem PySem.Spec PyProof.Rows L2
section
variable {C : Ct}
def getF (f : Str) : List Str → List D → Option D
  | n :: ns, d :: ds => if n = f then some d else getF f ns ds
  | _, _ => none
def fldM (c : Nat) (f : Str) (me : EM) : EM := fun s => (me s).bind fun x => match x.1 with
  | .obj c' ns ds => if c' = c then (match getF f ns ds with
    | some d => .ok (d, x.2)
    | none => .bad) else .bad
  | _ => .bad
theorem fldM_ev (c : Nat) (f : Str) (me : EM) (s : S) : fldM c f me s = (me s).bind fun x => match x.1 with
  | .obj c' ns ds => if c' = c then (match getF f ns ds with
    | some d => .ok (d, x.2)
    | none => .bad) else .bad
  | _ => .bad := rfl
end
end M
set_option maxRecDepth 100000
set_option maxHeartbeats 4000000
namespace M
open PySem PySem.Spec PyProof.Rows L2
section
variable {C : Ct}
def methP (c : Nat) (m : Str) (n : Nat) (f : FM) (mo : EM) (ma : AM) : EM := fun s => (mo s).bind fun x => match x.1 with
  | .obj c' ns ds => if c' = c ∧ m ∉ ns ∧ pureDs ds = true then (ma x.2).bind fun y => if pureDs y.1 = true ∧ y.1.length = n then (match f (x.1 :: y.1) [] with
    | .ok (d, _) => if pureD d = true then .ok (d, y.2) else .bad
    | _ => .bad) else .bad else .bad
  | _ => .bad
theorem methP_eq {c n : Nat} {m : Str} {f : FM} {mo : EM} {ma : AM} {s s1 s2 : S} {ns : List Str} {ds args : List D} {d : D} {O : Store} (ho : mo s = .ok (.obj c ns ds, s1)) (hm : m ∉ ns) (hd : pureDs ds = true) (ha : ma s1 = .ok (args, s2)) (hp : pureDs args = true) (hl : args.length = n) (hf : f (.obj c ns ds :: args) [] = .ok (d, O)) (hr : pureD d = true) :
    methP c m n f mo ma s = .ok (d, s2) := by
  unfold methP
  rw [ho, bind_ok]
  dsimp only
  rw [if_pos ⟨rfl, hm, hd⟩, ha, bind_ok]
  dsimp only
  rw [if_pos ⟨hp, hl⟩, hf]
  dsimp only
  rw [if_pos hr]
def methO (c : Nat) (m : Str) (n : Nat) (f : FM) (mo : EM) (ma : AM) : EM := fun s => (mo s).bind fun x => match x.1 with
  | .obj c' ns ds => if c' = c ∧ m ∉ ns ∧ pureDs ds = true then (ma x.2).bind fun y => if pureDs y.1 = true ∧ y.1.length = n then (match f (x.1 :: y.1) [] with
    | .ok (d, O1) => .ok (shD y.2.o.length d, ⟨y.2.r, y.2.o ++ O1.map (shC y.2.o.length)⟩)
    | _ => .bad) else .bad else .bad
  | _ => .bad
theorem methO_eq {c n : Nat} {m : Str} {f : FM} {mo : EM} {ma : AM} {s s1 s2 : S} {ns : List Str} {ds args : List D} {d : D} {O : Store} (ho : mo s = .ok (.obj c ns ds, s1)) (hm : m ∉ ns) (hd : pureDs ds = true) (ha : ma s1 = .ok (args, s2)) (hp : pureDs args = true) (hl : args.length = n) (hf : f (.obj c ns ds :: args) [] = .ok (d, O)) :
    methO c m n f mo ma s = .ok (shD s2.o.length d, ⟨s2.r, s2.o ++ O.map (shC s2.o.length)⟩) := by
  unfold methO
  rw [ho, bind_ok]
  dsimp only
  rw [if_pos ⟨rfl, hm, hd⟩, ha, bind_ok]
  dsimp only
  rw [if_pos ⟨hp, hl⟩, hf]
end
end M
set_option maxRecDepth 100000
set_option maxHeartbeats 4000000
namespace M
open PySem PySem.Spec PyProof.Rows L2
section
variable {K : PySem.W.Frag} {ca : Nat → Addr} {θ : List Addr} {F G : Hp}
end
open Classical in
noncomputable def withC (F H : Hp) (θ : List Addr) : Hp := fun a => if a ∈ θ then (match H a with
  | some (.lst xs) => some (.lst xs)
  | _ => F a) else F a
section
variable {C : Ct}
end
def clsAt (K : PySem.W.Frag) (x : Str) : Addr := match PySem.W.nsIn K mainGlobals x with
  | some (some (.ref C)) => C
  | _ => 0
section
variable {C : Ct}
end
end M
set_option maxRecDepth 100000
set_option maxHeartbeats 4000000
namespace M
open PySem PySem.Spec PyProof.Rows L2
def Wok (C : Ct) (Es : L2.St → XK) : Prop := ∀ σ c a s1 H1 F1 θ1, C.W c a s1 H1 F1 θ1 → BS C.K C.ca σ H1 F1 θ1 s1 → Es σ (.ref (C.ca c)) none H1
theorem wok_E {K : PySem.W.Frag} {ca : Nat → Addr} {E : XK} : Wok ⟨K, ca, WE ca E⟩ fun _ => E := fun _ _ _ _ _ _ _ h _ => h
section
variable {C : Ct} {Es : L2.St → XK}
def callX (n : Nat) (f : FM) (ma : AM) : EM := fun s => (ma s).bind fun x => if pureDs x.1 = true ∧ x.1.length = n then (match f x.1 [] with
  | .ok (d, _) => if pureD d = true then .ok (d, x.2) else .bad
  | .exc c a _ => .exc c a x.2
  | .bad => .bad) else .bad
theorem rd_callX {n : Nat} {f : FM} {ta : TA} {ma : AM} (hW : Wok C Es) (ha : RdA C ta ma) : RdE C (tCallS (spM C.K C.ca n f) [] Es ta) (callX n f ma) := by
  intro σ H F θ s Q b p
  refine ha σ H F θ s _ b (PoR.bind p ?_)
  rintro ⟨x, s1⟩ H1 F1 θ1 _ st1 p1 b1 v r1
  dsimp only at p1 b1 r1 ⊢
  split at p1
  · rename_i hp
    rw [List.append_nil]
    refine ⟨F1, [], x, [], Now.nil b1.now.fh, r1.pure hp.1, hp.2, ?_⟩
    split at p1
    · rename_i d O1 e
      try rw [e]
      intro v H2 F2 θ2 st2 n2 rv
      split at p1
      · rename_i pd
        obtain ⟨st3, b3⟩ := b1.called st2 n2
        exact p1 H2 F2 θ1 st3 b3 v (rv.pure pd)
      · exact False.elim p1
    · rename_i c a s2 e
      try rw [e]
      intro H2 F2 θ2 st2 n2
      obtain ⟨st3, b3⟩ := b1.called st2 n2
      exact hW σ c a s1 H2 F2 θ1 (p1 H2 F2 θ1 st3 b3.now) b3
    · exact False.elim p1
  · exact False.elim p1
theorem callX_eq {n : Nat} {f : FM} {ma : AM} {s s' : S} {ds : List D} {d : D} {O : Store} (h : ma s = .ok (ds, s')) (hp : pureDs ds = true) (hl : ds.length = n) (hf : f ds [] = .ok (d, O)) (hd : pureD d = true) : callX n f ma s = .ok (d, s') := by
  unfold callX
  rw [h, bind_ok]
  dsimp only
  rw [if_pos ⟨hp, hl⟩, hf]
  dsimp only
  rw [if_pos hd]
theorem callX_exc {n : Nat} {f : FM} {ma : AM} {s s' s2 : S} {ds : List D} {c : Nat} {a : D} (h : ma s = .ok (ds, s')) (hp : pureDs ds = true) (hl : ds.length = n) (hf : f ds [] = .exc c a s2) : callX n f ma s = .exc c a s' := by
  unfold callX
  rw [h, bind_ok]
  dsimp only
  rw [if_pos ⟨hp, hl⟩, hf]
def raiseM (c : Nat) (ma : AM) : SM := fun s => (ma s).out fun x => if x.1.length ≤ 16777216 then .exc c .non x.2 else .bad
theorem rd_raise {c : Nat} {E : XK} {ta : TA} {ma : AM} (hW : Wok C fun _ => E) (ha : RdA C ta ma) : RdS C (tRaise (C.ca c) E ta) (raiseM c ma) := by
  intro σ H F θ s Q b p
  refine ha σ H F θ s _ b (PoS.out p ?_)
  rintro ⟨x, s1⟩ H1 F1 θ1 _ st1 p1 b1 v r1
  dsimp only at p1 b1 r1
  split at p1
  · rename_i hl
    exact ⟨by rw [r1.length]; exact hl, hW σ c _ s1 H1 F1 θ1 (p1 H1 F1 θ1 .refl b1.now) b1⟩
  · exact False.elim p1
def tryM (mb : SM) (hs : Nat → SM) : SM := fun s => match mb s with
  | .exc c _ s1 => hs c s1
  | o => o
theorem rd_try {tb : (L2.St → XK) → TS} {th : Addr → TS} {mb : SM} {hs : Nat → SM} (hb : ∀ (W : Wsh) (Es : L2.St → XK), Wok ⟨C.K, C.ca, W⟩ Es → RdS ⟨C.K, C.ca, W⟩ (tb Es) mb) (hh : ∀ c, RdS C (th (C.ca c)) (hs c)) : RdS C (tTry tb th) (tryM mb hs) := by
  intro σ H F θ s Q b p
  refine hb (fun c _ s1 H1 F1 θ1 => ∀ σ', BS C.K C.ca σ' H1 F1 θ1 s1 → th (C.ca c) Q σ' H1) _ (fun σ' c a s1 H1 F1 θ1 h b1 => ⟨C.ca c, rfl, rfl, h σ' b1⟩) σ H F θ s Q b ?_
  unfold tryM at p
  cases e : mb s with
  | next s1 => rw [e] at p; exact p
  | ret d s1 => rw [e] at p; exact p
  | brk s1 => rw [e] at p; exact p
  | cnt s1 => rw [e] at p; exact p
  | bad => rw [e] at p; exact p
  | exc c a s1 =>
    rw [e] at p
    intro H1 F1 θ1 st n σ' b1
    exact hh c σ' H1 F1 θ1 s1 Q b1 (PoS.after st p)
def exM (sub : Nat → Option Bool) (mb mr : Nat → SM) : Nat → SM := fun c => match sub c with
  | some true => mb c
  | some false => mr c
  | none => badM
def noEx : Nat → SM := fun _ => badM
theorem rd_noEx {th : Addr → TS} (c : Nat) : RdS C (th (C.ca c)) (noEx c) := fun σ H F θ s Q b p => False.elim p
theorem rd_ex {sub : Nat → Option Bool} {Dc : Addr} {tb th : Addr → TS} {mb mr : Nat → SM} (hs : ∀ c b, sub c = some b → PySem.W.exmOne C.K (.ref (C.ca c)) (.ref Dc) = some b) (hb : ∀ c, RdS C (tb (C.ca c)) (mb c)) (hr : ∀ c, RdS C (th (C.ca c)) (mr c)) (c : Nat) :
    RdS C (tEx (fun A => PySem.W.exmOne C.K (.ref A) (.ref Dc)) tb th (C.ca c)) (exM sub mb mr c) := by
  intro σ H F θ s Q b p
  unfold exM at p
  unfold tEx
  cases e : sub c with
  | none => rw [e] at p; exact False.elim p
  | some q =>
    dsimp only
    rw [hs c _ e]
    rw [e] at p
    cases q with
    | true => exact hb c σ H F θ s Q b p
    | false => exact hr c σ H F θ s Q b p
theorem BS.unset {K : PySem.W.Frag} {ca : Nat → Addr} {σ : L2.St} {H F : Hp} {θ : List Addr} {s : S} (b : BS K ca σ H F θ s) (i : Nat) : BS K ca (σ.set i none) H F θ ⟨s.r.set i none, s.o⟩ := by
  refine ⟨b.now, by simp [b.len], fun j e hj => ?_⟩
  by_cases hji : i = j
  · subst hji
    have hlt : i < s.r.length := by
      have := (List.getElem?_eq_some_iff.mp hj).1
      simpa using this
    rw [List.getElem?_set_self hlt] at hj
    cases hj
  · rw [List.getElem?_set_ne hji] at hj
    obtain ⟨u, h1, h2⟩ := b.sl j e hj
    exact ⟨u, by rw [List.getElem?_set_ne hji]; exact h1, h2⟩
def asM (i : Nat) (mb : SM) : Nat → SM := fun c s => match mb ⟨s.r.set i (some (.exn c)), s.o⟩ with
  | .next s1 => .next ⟨s1.r.set i none, s1.o⟩
  | .brk s1 => .brk ⟨s1.r.set i none, s1.o⟩
  | .cnt s1 => .cnt ⟨s1.r.set i none, s1.o⟩
  | .ret d s1 => .ret d s1
  | _ => .bad
theorem rd_as {i : Nat} {tb : TS} {mb : SM} (hb : RdS C tb mb) (c : Nat) : RdS C (tAs i tb (C.ca c)) (asM i mb c) := by
  intro σ H F θ s Q b p x hx
  obtain ⟨st, b1, sF, fx⟩ := b.newF hx (exO x (C.ca c))
  have b2 := b1.set (d := .exn c) (v := .ref x) (by unfold Rep; exact ⟨x, rfl, fx⟩) i
  refine hb _ _ _ θ _ _ b2 ?_
  unfold asM at p
  cases e : mb ⟨s.r.set i (some (.exn c)), s.o⟩ with
  | next s1 => rw [e] at p; exact fun σ1 H1 F1 θ1 st1 b3 => p _ H1 F1 θ1 (st.trans st1) (b3.unset i)
  | brk s1 => rw [e] at p; exact fun σ1 H1 F1 θ1 st1 b3 => p _ H1 F1 θ1 (st.trans st1) (b3.unset i)
  | cnt s1 => rw [e] at p; exact fun σ1 H1 F1 θ1 st1 b3 => p _ H1 F1 θ1 (st.trans st1) (b3.unset i)
  | ret d s1 => rw [e] at p; exact fun v σ1 H1 F1 θ1 st1 b3 rv => p v σ1 H1 F1 θ1 (st.trans st1) b3 rv
  | exc c' a s1 => rw [e] at p; exact False.elim p
  | bad => rw [e] at p; exact False.elim p
def isxD (sub : Nat → Option Bool) : Op1 := fun _ x => match x with
  | .exn c => match sub c with
    | some b => .ok (.bl b)
    | none => .bad
  | _ => .bad
theorem isx_fin {sub : Nat → Option Bool} {te tc : TE} {m : EM} (h : RdE C te m) (P : Nat → Bool → Prop) (hs : ∀ c b, sub c = some b → P c b)
    (hc : ∀ (σ : L2.St) (H F : Hp) (θ : List Addr) (s : S) (Q : VK) (c : Nat) (b : Bool) (a : Addr), BS C.K C.ca σ H F θ s → F a = some (exO a (C.ca c)) → P c b → PoE C σ H F θ (.ok (.bl b, s)) Q → tc σ H fun y H2 => rIsx C.K [.ref a, y] H2 Q) :
    RdE C (tCB (rIsx C.K) (tCons te (tCons tc tNil))) (unM (isxD sub) m) := by
  intro σ H F θ s Q b p
  unfold unM at p
  refine h σ H F θ s _ b (PoR.bind p ?_)
  rintro ⟨x, s1⟩ H1 F1 θ1 _ st1 p1 b1 v r1
  dsimp only at p1 b1 r1
  unfold isxD at p1
  split at p1
  · rename_i c _
    split at p1
    · rename_i q e
      rw [bind_ok] at p1
      obtain ⟨a, rfl, hF⟩ : ∃ a, v = .ref a ∧ F1 a = some (exO a (C.ca c)) := by unfold Rep at r1; exact r1
      exact hc σ H1 F1 θ1 s1 Q c q a b1 hF (hs c q e) p1
    · exact False.elim p1
  · exact False.elim p1
theorem rd_isxTy {sub : Nat → Option Bool} {T : String} {te : TE} {m : EM} (hs : ∀ c b, sub c = some b → ExK C.K (C.ca c) ∧ PySem.W.kitOne C.K (.ref (C.ca c)) (.type T) = some b) (h : RdE C te m) : RdE C (tCB (rIsx C.K) (tCons te (tCons (tC (.ty T)) tNil))) (unM (isxD sub) m) :=
  isx_fin h (fun c b => ExK C.K (C.ca c) ∧ PySem.W.kitOne C.K (.ref (C.ca c)) (.type T) = some b) hs fun σ H F θ s Q c b a bs hF hP p => ⟨a, C.ca c, b, bs.now.fh _ _ hF, hP.1, p H F θ .refl bs (.bl b) (rep_bl.mpr rfl), .inr (.inl ⟨T, rfl, hP.2⟩)⟩
end
theorem passN {P : Program} {w : World} {X : Cx} : Passes (CXE P w) X E0 := fun _ _ _ _ _ _ _ ⟨_, _, _, _, _, _, _, _, _, z⟩ => z.elim
end M
set_option maxRecDepth 100000
set_option maxHeartbeats 4000000
namespace M
open PySem PySem.Spec PyProof.Rows L2
@[simp] theorem okC_none (ds : List D) (O : Store) : okC ds none O = True := rfl
@[simp] theorem okC_some (ds : List D) (k : Nat) (O : Store) : okC ds (some k) O = (O[k]? = some (.lst ds)) := rfl
theorem bits_of {n : Nat} {i : Int} (h : i.natAbs < 2 ^ n) : Builtin.Int.intBits i ≤ n := by
  unfold Builtin.Int.intBits
  split
  · exact Nat.zero_le _
  · rename_i h0
    have hp : i.natAbs ≠ 0 := by
      intro z
      apply h0
      simpa using z
    have := (Nat.log2_lt hp).mpr h
    omega
def Sz (n : Nat) (i : Int) : Prop := i.natAbs < 2 ^ n
theorem Sz.mono {m n : Nat} {i : Int} (h : Sz m i) (hmn : m ≤ n) : Sz n i := Nat.lt_of_lt_of_le h (Nat.pow_le_pow_right (by decide) hmn)
theorem mul_ok {m n : Nat} (hm : m ≤ 60000000) (hn : n ≤ 60000000) {i j : Int} (h : Sz m i) (h' : Sz n j) : IntMulOk i j := by
  have h1 := bits_of h
  have h2 := bits_of h'
  have e : Builtin.Int.intTooBig (Builtin.Int.intBits i + Builtin.Int.intBits j) = false := by
    unfold Builtin.Int.intTooBig
    rw [bitsLine_eq]
    exact decide_eq_false (by omega)
  unfold IntMulOk
  rw [e]
  simp
theorem mul_small {i j : Int} (h : i.natAbs < 2 ^ 64 ∨ j.natAbs < 2 ^ 64) : IntMulOk i j := by
  rcases h with h | h
  · exact .of_left (intBits_le_64 (by omega) (by omega))
  · exact .of_right (intBits_le_64 (by omega) (by omega))
theorem Sz.mul {m n : Nat} {i j : Int} (h : Sz m i) (h' : Sz n j) : Sz (m + n) (i * j) := by
  unfold Sz at *
  rw [Int.natAbs_mul, Nat.pow_add]
  exact Nat.mul_lt_mul'' h h'
theorem Sz.add {m n : Nat} {i j : Int} (h : Sz m i) (h' : Sz n j) : Sz (max m n + 1) (i + j) := by
  unfold Sz at *
  have h1 := Nat.lt_of_lt_of_le h (Nat.pow_le_pow_right (by decide) (Nat.le_max_left m n))
  have h2 := Nat.lt_of_lt_of_le h' (Nat.pow_le_pow_right (by decide) (Nat.le_max_right m n))
  have h3 : (i + j).natAbs ≤ i.natAbs + j.natAbs := Int.natAbs_add_le i j
  rw [Nat.pow_succ]
  omega
theorem fdiv_pos {i j : Int} (h : 0 < j) : i.fdiv j = i / j := Int.fdiv_eq_ediv_of_nonneg i (Int.le_of_lt h)
theorem fmod_pos {i j : Int} (h : 0 < j) : i.fmod j = i % j := Int.fmod_eq_emod_of_nonneg i (Int.le_of_lt h)
section
variable {O : Store}
@[simp] theorem subD_int (i j : Int) : subD O (.int i) (.int j) = .ok (.int (i - j)) := rfl
@[simp] theorem addD_int (i j : Int) : addD O (.int i) (.int j) = .ok (.int (i + j)) := rfl
@[simp] theorem addI_int (i j : Int) : addI O (.int i) (.int j) = .ok (.int (i + j)) := rfl
@[simp] theorem ltD_int (i j : Int) : ltD O (.int i) (.int j) = .ok (.bl (decide (i < j))) := rfl
@[simp] theorem leD_int (i j : Int) : leD O (.int i) (.int j) = .ok (.bl (decide (i ≤ j))) := rfl
@[simp] theorem gtD_int (i j : Int) : gtD O (.int i) (.int j) = .ok (.bl (decide (j < i))) := rfl
@[simp] theorem geD_int (i j : Int) : geD O (.int i) (.int j) = .ok (.bl (decide (j ≤ i))) := rfl
@[simp] theorem negD_int (i : Int) : negD O (.int i) = .ok (.int (-i)) := rfl
@[simp] theorem eqD_int (i j : Int) : eqD O (.int i) (.int j) = .ok (.bl (decide (i = j))) := rfl
@[simp] theorem neD_int (i j : Int) : neD O (.int i) (.int j) = .ok (.bl (!decide (i = j))) := rfl
@[simp] theorem eqD_str (i j : Str) : eqD O (.str i) (.str j) = .ok (.bl (decide (i = j))) := rfl
@[simp] theorem neD_str (i j : Str) : neD O (.str i) (.str j) = .ok (.bl (!decide (i = j))) := rfl
@[simp] theorem eqD_bl (i j : Bool) : eqD O (.bl i) (.bl j) = .ok (.bl (decide (i = j))) := rfl
@[simp] theorem neD_bl (i j : Bool) : neD O (.bl i) (.bl j) = .ok (.bl (!decide (i = j))) := rfl
theorem mulD_int {i j : Int} (h : IntMulOk i j) : mulD O (.int i) (.int j) = .ok (.int (i * j)) := if_pos h
theorem fdivD_int {i j : Int} (h : j ≠ 0) : fdivD O (.int i) (.int j) = .ok (.int (i.fdiv j)) := if_pos h
theorem fdivD_small {i : Int} {j : Int} (h : 0 < j) (h2 : j < 1073741824) : fdivD O (.int i) (.int j) = .ok (.int (i / j)) := by
  rw [fdivD_int (by omega), fdiv_pos h]
theorem modD_pos {i j : Int} (h : 0 < j) : modD O (.int i) (.int j) = .ok (.int (i % j)) := by
  rw [← fmod_pos h]; exact if_pos (by omega)
theorem powD_int {i j : Int} (h : 0 ≤ j) (h2 : j ≤ 1000000) (h3 : i.natAbs < 2 ^ 64) : powD O (.int i) (.int j) = .ok (.int (i ^ j.toNat)) := if_pos ⟨h, h2, h3⟩
@[simp] theorem absD_int (i : Int) : absD O [.int i] = .ok (.int (i.natAbs : Int)) := by
  show Res.ok (D.int (if i < 0 then -i else i)) = _
  congr 2
  split <;> omega
@[simp] theorem lenD_lst (ds : List D) : lenD O [.lst ds] = .ok (.int ds.length) := rfl
@[simp] theorem lenD_tup (ds : List D) : lenD O [.tup ds] = .ok (.int ds.length) := rfl
@[simp] theorem listD_lst (ds : List D) : listD O [.lst ds] = .ok (.lst ds) := rfl
@[simp] theorem listD_tup (ds : List D) : listD O [.tup ds] = .ok (.lst ds) := rfl
@[simp] theorem intOf_int (i : Int) : intOf O [.int i] = .ok (.int i) := rfl
@[simp] theorem intOf_bl (b : Bool) : intOf O [.bl b] = .ok (.int (if b then 1 else 0)) := rfl
@[simp] theorem isi_int (c : String) (i : Int) : isiD c O (.int i) = .ok (.bl (isSub "int" c)) := rfl
@[simp] theorem isi_bl (c : String) (i : Bool) : isiD c O (.bl i) = .ok (.bl (isSub "bool" c)) := rfl
@[simp] theorem isi_str (c : String) (i : Str) : isiD c O (.str i) = .ok (.bl (isSub "str" c)) := rfl
@[simp] theorem isi_lst (c : String) (i : List D) : isiD c O (.lst i) = .ok (.bl (isSub "list" c)) := rfl
@[simp] theorem isi_tup (c : String) (i : List D) : isiD c O (.tup i) = .ok (.bl (isSub "tuple" c)) := rfl
@[simp] theorem isi_non (c : String) : isiD c O .non = .ok (.bl (isSub "NoneType" c)) := rfl
@[simp] theorem sub_ii : isSub "int" "int" = true := by decide
@[simp] theorem sub_ib : isSub "int" "bool" = false := by decide
@[simp] theorem sub_bb : isSub "bool" "bool" = true := by decide
@[simp] theorem sub_bi : isSub "bool" "int" = true := by decide
@[simp] theorem sub_ll : isSub "list" "list" = true := by decide
@[simp] theorem sub_tt : isSub "tuple" "tuple" = true := by decide
@[simp] theorem sub_lt : isSub "list" "tuple" = false := by decide
@[simp] theorem sub_tl : isSub "tuple" "list" = false := by decide
@[simp] theorem sub_si : isSub "str" "int" = false := by decide
@[simp] theorem sub_ni : isSub "NoneType" "int" = false := by decide
theorem ixD_lst {ds : List D} {i : Int} {d : D} (h : atI ds i = some d) : ixD O (.lst ds) (.int i) = .ok d := by
  show (match lsD O (D.lst ds) with
      | some ds => match atI ds i with
        | some d => Res.ok d
        | none => .bad
      | none => .bad) = _
  rw [lsD_lst]
  dsimp only
  rw [h]
theorem ixD_tup {ds : List D} {i : Int} {d : D} (h : atI ds i = some d) : ixD O (.tup ds) (.int i) = .ok d := by
  show (match atI ds i with
        | some d => Res.ok d
        | none => .bad) = _
  rw [h]
theorem atI_ok {α : Type} {l : List α} {i : Int} (h0 : 0 ≤ i) (h1 : i < l.length) : atI l i = some (l[i.toNat]'(by omega)) := by
  unfold atI ixN
  rw [if_pos h0, if_pos h1]
  show l[i.toNat]? = _
  exact List.getElem?_eq_getElem _
theorem toPys_ints : ∀ ns : List Int, toPys (ns.map D.int) = some (ns.map PyData.int)
  | [] => by simp [toPys]
  | n :: ns => by simp [toPys, toPy, toPys_ints ns]
theorem ress_ints : ∀ ns : List Int, ress O (ns.map D.int) = ns.map D.int
  | [] => by simp [ress]
  | n :: ns => by simp [ress, res, ress_ints ns]
theorem canLay_ints : ∀ ns : List Int, PyData.canLayAll0 (ns.map PyData.int) = true
  | [] => by simp [PyData.canLayAll0]
  | n :: ns => by simp [PyData.canLayAll0, PyData.canLay0, canLay_ints ns]
theorem depth_ints : ∀ ns : List Int, PyData.depthAll (ns.map PyData.int) = 0
  | [] => by simp [PyData.depthAll]
  | n :: ns => by simp [PyData.depthAll, PyData.depth, depth_ints ns]
theorem shaped_ints (ns : List Int) : SeqAt.shaped (.list (ns.map PyData.int)) = true := by
  simp [SeqAt.shaped, PyData.canLay0, canLay_ints, PyData.depth, depth_ints]
theorem eqv_ints : ∀ ns ms : List Int, PyData.eqvAll (ns.map PyData.int) (ms.map PyData.int) = decide (ns = ms)
  | [], [] => by simp [PyData.eqvAll]
  | [], _ :: _ => by simp [PyData.eqvAll]
  | _ :: _, [] => by simp [PyData.eqvAll]
  | a :: r, b :: t => by
    simp only [List.map_cons, PyData.eqvAll, PyData.eqv, eqv_ints r t]
    by_cases h : a = b <;> by_cases h' : r = t <;> simp [h, h']
theorem eqB_ints (ns ms : List Int) : eqB O (.lst (ns.map D.int)) (.lst (ms.map D.int)) = some (decide (ns = ms)) := by
  show eqDeep O _ _ = _
  unfold eqDeep
  simp only [res, ress_ints, toPy, toPys_ints, Option.map_some]
  rw [if_pos ⟨shaped_ints ns, shaped_ints ms⟩]
  simp only [PyData.eqv, eqv_ints]
@[simp] theorem eqD_ints (ns ms : List Int) : eqD O (.lst (ns.map D.int)) (.lst (ms.map D.int)) = .ok (.bl (decide (ns = ms))) := by unfold eqD; rw [eqB_ints]
@[simp] theorem neD_ints (ns ms : List Int) : neD O (.lst (ns.map D.int)) (.lst (ms.map D.int)) = .ok (.bl (!decide (ns = ms))) := by unfold neD; rw [eqB_ints]
theorem pure_ints : ∀ ns : List Int, pureDs (ns.map D.int) = true
  | [] => by simp [pureDs]
  | n :: ns => by simp [pureDs, pureD, pure_ints ns]
@[simp] theorem pureD_ints (ns : List Int) : pureD (.lst (ns.map D.int)) = true := by simp [pureD, pure_ints]
end
end M
set_option maxRecDepth 100000
set_option maxHeartbeats 4000000
namespace M
open PySem PySem.Spec PyProof.Rows L2
noncomputable def gcdBody : SM := seqM (setM 2 (binM modD (varM 0) (varM 1))) (seqM (setM 0 (varM 1)) (setM 1 (varM 2)))
theorem gcd_body {a b : Int} {x : Option D} {O : Store} (hb : 0 < b) : gcdBody ⟨[some (.int a), some (.int b), x], O⟩ = .next ⟨[some (.int b), some (.int (a % b)), some (.int (a % b))], O⟩ := by
  simp [gcdBody, seqM, setM, asgM, nameG, binM, varM, modD_pos hb]
theorem gcd_while {c : TM} (hc : ∀ (a b : Int) x O, 0 ≤ b → c ⟨[some (.int a), some (.int b), x], O⟩ = .ok (decide (b ≠ 0), ⟨[some (.int a), some (.int b), x], O⟩)) :
    ∀ (n : Nat) (a b : Int) x O, 0 ≤ a → 0 ≤ b → b.natAbs < n → ∃ y, whileGo c gcdBody n ⟨[some (.int a), some (.int b), x], O⟩ = .next ⟨[some (.int (Nat.gcd a.natAbs b.natAbs : Nat)), some (.int 0), y], O⟩
  | 0, _, _, _, _, _, _, h => by omega
  | n + 1, a, b, x, O, ha, hb, hn => by
    rw [whileGo, hc a b x O hb, out_ok]
    by_cases h : b = 0
    · subst h
      refine ⟨x, ?_⟩
      have e : ((Nat.gcd a.natAbs (0 : Int).natAbs : Nat) : Int) = a := by
        rw [Int.natAbs_zero, Nat.gcd_zero_right]
        omega
      rw [e]
      simp
    · have hb' : 0 < b := by omega
      have h1 : 0 ≤ a % b := Int.emod_nonneg a h
      have h2 : a % b < b := Int.emod_lt_of_pos a hb'
      obtain ⟨y, e⟩ := gcd_while hc n b (a % b) (some (.int (a % b))) O hb h1 (by omega)
      refine ⟨y, ?_⟩
      simp only [h, ne_eq, not_false_eq_true, decide_true, if_true, gcd_body hb']
      rw [e]
      have e2 : (a % b).natAbs = a.natAbs % b.natAbs := by
        have : ((a % b).natAbs : Int) = ((a.natAbs % b.natAbs : Nat) : Int) := by
          rw [Int.natAbs_of_nonneg h1, Int.natCast_emod, Int.natAbs_of_nonneg ha, Int.natAbs_of_nonneg hb]
        omega
      rw [e2, ← Nat.gcd_rec' a.natAbs b.natAbs]
where Nat.gcd_rec' (m n : Nat) : Nat.gcd m n = Nat.gcd n (m % n) := by
        rw [Nat.gcd_comm m n, Nat.gcd_rec n m, Nat.gcd_comm]
noncomputable def gcdNe : SM := seqM (setM 0 (calM absD (consM (varM 0) nilM))) (seqM (setM 1 (calM absD (consM (varM 1) nilM))) (seqM (whileM (fun s => gcdFuel 1 s) (tstM (binM neD (varM 1) (cstM (.int 0)))) gcdBody) (retM (varM 0))))
noncomputable def gcdGt : SM := seqM (setM 0 (calM absD (consM (varM 0) nilM))) (seqM (setM 1 (calM absD (consM (varM 1) nilM))) (seqM (whileM (fun s => gcdFuel 1 s) (tstM (binM gtD (varM 1) (cstM (.int 0)))) gcdBody) (retM (varM 0))))
theorem gcdNe_ok (a b : Int) (O : Store) : ∃ s, gcdNe ⟨[some (.int a), some (.int b), none], O⟩ = .ret (.int (Int.gcd a b : Nat)) s ∧ s.o = O := by
  obtain ⟨y, e⟩ := gcd_while (c := tstM (binM neD (varM 1) (cstM (.int 0)))) (fun a b x O h => by simp [tstM, binM, varM, cstM]) (b.natAbs + 1) (a.natAbs : Int) (b.natAbs : Int) none O (by omega) (by omega) (by omega)
  refine ⟨⟨[some (.int (Int.gcd a b : Nat)), some (.int 0), y], O⟩, ?_, rfl⟩
  simp only [Int.natAbs_natCast] at e
  simp [gcdNe, seqM, setM, asgM, nameG, calM, consM, nilM, varM, whileM, gcdFuel, e, retM, Int.gcd]
theorem gcdGt_ok (a b : Int) (O : Store) : ∃ s, gcdGt ⟨[some (.int a), some (.int b), none], O⟩ = .ret (.int (Int.gcd a b : Nat)) s ∧ s.o = O := by
  obtain ⟨y, e⟩ := gcd_while (c := tstM (binM gtD (varM 1) (cstM (.int 0)))) (fun a b x O h => by
    have e : decide (0 < b) = decide (b ≠ 0) := by
      rw [decide_eq_decide]; omega
    simp only [tstM, binM, varM, cstM, List.getElem?_cons_succ, List.getElem?_cons_zero, bind_ok, gtD_int, e]) (b.natAbs + 1) (a.natAbs : Int) (b.natAbs : Int) none O (by omega) (by omega) (by omega)
  refine ⟨⟨[some (.int (Int.gcd a b : Nat)), some (.int 0), y], O⟩, ?_, rfl⟩
  simp only [Int.natAbs_natCast] at e
  simp [gcdGt, seqM, setM, asgM, nameG, calM, consM, nilM, varM, whileM, gcdFuel, e, retM, Int.gcd]
theorem runM_ret {n : Nat} {m : SM} {ds : List D} {O : Store} {d : D} {s : S} (h : m ⟨ds.map some ++ List.replicate (n - ds.length) none, O⟩ = .ret d s) : runM n m ds O = .ok (d, s.o) := by
  unfold runM; rw [h]
theorem gcdNe_run (a b : Int) : runM 3 gcdNe [.int a, .int b] [] = .ok (.int (Int.gcd a b : Nat), []) := by
  obtain ⟨s, e, eo⟩ := gcdNe_ok a b []
  rw [runM_ret (s := s) (by exact e), eo]
theorem gcdGt_run (a b : Int) : runM 3 gcdGt [.int a, .int b] [] = .ok (.int (Int.gcd a b : Nat), []) := by
  obtain ⟨s, e, eo⟩ := gcdGt_ok a b []
  rw [runM_ret (s := s) (by exact e), eo]
def gcdL (ns : List Int) : Nat := ns.foldl (fun c n => Nat.gcd c n.natAbs) 0
theorem gcdL_fold_dvd : ∀ (ns : List Int) (c : Nat), ns.foldl (fun c n => Nat.gcd c n.natAbs) c ∣ c ∧ ∀ n ∈ ns, ns.foldl (fun c n => Nat.gcd c n.natAbs) c ∣ n.natAbs
  | [], c => ⟨Nat.dvd_refl _, by simp⟩
  | m :: ns, c => by
    obtain ⟨h1, h2⟩ := gcdL_fold_dvd ns (Nat.gcd c m.natAbs)
    rw [List.foldl_cons]
    refine ⟨Nat.dvd_trans h1 (Nat.gcd_dvd_left _ _), fun n hn => ?_⟩
    rcases List.mem_cons.mp hn with rfl | hn
    · exact Nat.dvd_trans h1 (Nat.gcd_dvd_right _ _)
    · exact h2 n hn
theorem gcdL_dvd {ns : List Int} {n : Int} (h : n ∈ ns) : ((gcdL ns : Nat) : Int) ∣ n := Int.natAbs_dvd_natAbs.mp (by rw [Int.natAbs_natCast]; exact (gcdL_fold_dvd ns 0).2 n h)
theorem gcdL_fold_div (g : Nat) (hg : 0 < g) : ∀ (ns : List Int) (c : Nat), g ∣ c → (∀ n ∈ ns, (g : Int) ∣ n) →
    (ns.map (· / (g : Int))).foldl (fun c n => Nat.gcd c n.natAbs) (c / g) = ns.foldl (fun c n => Nat.gcd c n.natAbs) c / g
  | [], c, _, _ => rfl
  | m :: ns, c, hc, h => by
    have hm : g ∣ m.natAbs := by
      have := Int.natAbs_dvd_natAbs.mpr (h m List.mem_cons_self)
      rwa [Int.natAbs_natCast] at this
    have e : (m / (g : Int)).natAbs = m.natAbs / g := by
      obtain ⟨k, rfl⟩ := h m List.mem_cons_self
      rw [Int.mul_ediv_cancel_left _ (by omega : (g : Int) ≠ 0), Int.natAbs_mul, Int.natAbs_natCast, Nat.mul_div_cancel_left _ hg]
    rw [List.map_cons, List.foldl_cons, List.foldl_cons, e, Nat.gcd_div hc hm]
    exact gcdL_fold_div g hg ns _ (Nat.dvd_gcd hc hm) fun n hn => h n (List.mem_cons_of_mem _ hn)
theorem gcdL_low {ns : List Int} (h : 0 < gcdL ns) : gcdL (ns.map (· / (gcdL ns : Int))) = 1 := by
  have := gcdL_fold_div (gcdL ns) h ns 0 (Nat.dvd_zero _) fun n hn => gcdL_dvd hn
  rw [Nat.zero_div] at this
  rw [show gcdL (ns.map (· / (gcdL ns : Int))) = (ns.map (· / (gcdL ns : Int))).foldl (fun c n => Nat.gcd c n.natAbs) 0 from rfl, this]
  exact Nat.div_self h
end M
set_option maxRecDepth 100000
set_option maxHeartbeats 4000000
namespace M
open PySem PySem.Spec PyProof.Rows L2
section
variable {s s1 : S} {d : D}
@[simp] theorem varM_ev {i : Nat} (h : s.r[i]? = some (some d)) : varM i s = .ok (d, s) := by unfold varM; rw [h]
@[simp] theorem cstM_ev (d : D) (s : S) : cstM d s = .ok (d, s) := rfl
@[simp] theorem binM_ev (f : Op2) (a b : EM) (s : S) : binM f a b s = (a s).bind fun x => (b x.2).bind fun y => (f y.2.o x.1 y.1).bind fun d => .ok (d, y.2) := rfl
@[simp] theorem unM_ev (f : Op1) (a : EM) (s : S) : unM f a s = (a s).bind fun x => (f x.2.o x.1).bind fun d => .ok (d, x.2) := rfl
@[simp] theorem nilM_ev (s : S) : nilM s = .ok ([], s) := rfl
@[simp] theorem consM_ev (m : EM) (r : AM) (s : S) : consM m r s = (m s).bind fun x => (r x.2).bind fun y => .ok (x.1 :: y.1, y.2) := rfl
@[simp] theorem calM_ev (f : OpN) (m : AM) (s : S) : calM f m s = (m s).bind fun x => (f x.2.o x.1).bind fun d => .ok (d, x.2) := rfl
@[simp] theorem tupM_ev (m : AM) (s : S) : tupM m s = (m s).bind fun x => if x.1.length ≤ 16777216 then .ok (.tup x.1, x.2) else .bad := rfl
@[simp] theorem lstM_ev (m : AM) (s : S) : lstM m s = (m s).bind fun x => if x.1.length ≤ 16777216 then .ok (.lst x.1, x.2) else .bad := rfl
@[simp] theorem lstC_ev (m : AM) (s : S) : lstC m s = (m s).bind fun x => if x.1.length ≤ 16777216 then .ok (.ptr x.2.o.length, ⟨x.2.r, x.2.o ++ [.lst x.1]⟩) else .bad := rfl
@[simp] theorem tstM_ev (m : EM) (s : S) : tstM m s = (m s).bind fun x => match x.1 with
  | .bl b => .ok (b, x.2)
  | _ => .bad := rfl
@[simp] theorem andT_ev (a b : TM) (s : S) : andT a b s = (a s).bind fun x => if x.1 then b x.2 else .ok (false, x.2) := rfl
@[simp] theorem orT_ev (a b : TM) (s : S) : orT a b s = (a s).bind fun x => if x.1 then .ok (true, x.2) else b x.2 := rfl
@[simp] theorem notT_ev (a : TM) (s : S) : notT a s = (a s).bind fun x => .ok (!x.1, x.2) := rfl
@[simp] theorem andV_ev (a b : EM) (s : S) : andV a b s = (a s).bind fun x => match x.1 with
  | .bl true => b x.2
  | .bl false => .ok (.bl false, x.2)
  | _ => .bad := rfl
@[simp] theorem orV_ev (a b : EM) (s : S) : orV a b s = (a s).bind fun x => match x.1 with
  | .bl true => .ok (.bl true, x.2)
  | .bl false => b x.2
  | _ => .bad := rfl
@[simp] theorem notV_ev (a : EM) (s : S) : notV a s = (a s).bind fun x => match x.1 with
  | .bl k => .ok (.bl (!k), x.2)
  | _ => .bad := rfl
@[simp] theorem seqM_ev (a b : SM) (s : S) : seqM a b s = (a s).then b := rfl
@[simp] theorem skipM_ev (s : S) : skipM s = .next s := rfl
@[simp] theorem dropM_ev (m : EM) (s : S) : dropM m s = (m s).out fun x => .next x.2 := rfl
@[simp] theorem retM_ev (m : EM) (s : S) : retM m s = (m s).out fun x => .ret x.1 x.2 := rfl
@[simp] theorem ret0_ev (s : S) : ret0 s = .ret .non s := rfl
@[simp] theorem ifS_ev (c : TM) (a b : SM) (s : S) : ifS c a b s = (c s).out fun x => if x.1 then a x.2 else b x.2 := rfl
@[simp] theorem ifM_ev (c : TM) (a b : EM) (s : S) : ifM c a b s = (c s).bind fun x => if x.1 then a x.2 else b x.2 := rfl
@[simp] theorem nameG_ev (i : Nat) (d : D) (s : S) : nameG i d s = .ok ⟨s.r.set i (some d), s.o⟩ := rfl
@[simp] theorem asgM_ev (m : EM) (g : GM) (s : S) : asgM m g s = ((m s).bind fun x => g x.1 x.2).out fun s => .next s := rfl
@[simp] theorem augM_ev (i : Nat) (f : Op2) (m : EM) (s : S) : augM i f m s = asgM (binM f (varM i) m) (nameG i) s := rfl
@[simp] theorem trueT_ev (s : S) : trueT s = .ok (true, s) := rfl
@[simp] theorem noPart_ev (s : S) : noPart s = .ok (none, s) := rfl
@[simp] theorem part_ev (m : EM) (s : S) : part m s = (m s).bind fun x => match x.1 with
  | .int i => .ok (some i, x.2)
  | _ => .bad := rfl
@[simp] theorem slM_ev (me : EM) (ml mh : OM) (s : S) : slM me ml mh s = (me s).bind fun x => (ml x.2).bind fun l => (mh l.2).bind fun h => match lsD h.2.o x.1 with
  | some ds => .ok (.lst (cutD ds l.1 h.1), h.2)
  | none => .bad := rfl
@[simp] theorem listI_ev (m : EM) (s : S) : listI m s = (m s).bind fun x => (itemsOf x.2.o x.1).bind fun y => .ok (y, x.2) := rfl
@[simp] theorem itemsOf_lst (O : Store) (ds : List D) : itemsOf O (.lst ds) = .ok (ds, none) := rfl
theorem forS_ev (im : IM) (g : GM) (body : SM) (s : S) : forS im g body s = (im s).out fun y => forGo (okC y.1.1 y.1.2) g body y.1.1 y.2 := rfl
@[simp] theorem callP_ev (n : Nat) (f : FM) (m : AM) (s : S) : callP n f m s = (m s).bind fun x => if pureDs x.1 = true ∧ x.1.length = n then (match f x.1 [] with
  | .ok (d, _) => if pureD d = true then .ok (d, x.2) else .bad
  | _ => .bad) else .bad := rfl
@[simp] theorem callO_ev (n : Nat) (f : FM) (m : AM) (s : S) : callO n f m s = (m s).bind fun x => if pureDs x.1 = true ∧ x.1.length = n then (match f x.1 [] with
  | .ok (d, O1) => .ok (shD x.2.o.length d, ⟨x.2.r, x.2.o ++ O1.map (shC x.2.o.length)⟩)
  | _ => .bad) else .bad := rfl
@[simp] theorem callV_ev (n : Nat) (f : FM) (m : AM) (s : S) : callV n f m s = (m s).bind fun x => if pureDs (ress x.2.o (ress x.2.o x.1)) = true ∧ x.1.length = n then (match f (ress x.2.o (ress x.2.o x.1)) [] with
  | .ok (d, _) => if scalD d = true then .ok (d, x.2) else .bad
  | _ => .bad) else .bad := rfl
@[simp] theorem listC_ev (m : EM) (s : S) : listC m s = (m s).bind fun x => match seqOf x.2.o x.1 with
  | some ds => .ok (.ptr x.2.o.length, ⟨x.2.r, x.2.o ++ [.lst ds]⟩)
  | none => .bad := rfl
@[simp] theorem frzM_ev (m : EM) (s : S) : frzM m s = (m s).bind fun x => match celD x.2.o x.1 with
  | some (k, ds) => .ok (.lst ds, ⟨x.2.r, x.2.o.set k .dead⟩)
  | none => .bad := rfl
@[simp] theorem appM_ev (mo me : EM) (s : S) : appM mo me s = (mo s).bind fun x => match celD x.2.o x.1 with
  | some _ => (me x.2).bind fun y => match celD y.2.o x.1 with
    | some (k, ds) => if ds.length < 16777216 then .ok (.non, ⟨y.2.r, y.2.o.set k (.lst (ds ++ [y.1]))⟩) else .bad
    | none => .bad
  | none => .bad := rfl
@[simp] theorem lsD_ptr {O : Store} {k : Nat} {ds : List D} (h : O[k]? = some (.lst ds)) : lsD O (.ptr k) = some ds := by unfold lsD; simp only [h]
@[simp] theorem celD_ptr {O : Store} {k : Nat} {ds : List D} (h : O[k]? = some (.lst ds)) : celD O (.ptr k) = some (k, ds) := by unfold celD; simp only [h]
@[simp] theorem seqOf_lst (O : Store) (ds : List D) : seqOf O (.lst ds) = some ds := rfl
@[simp] theorem seqOf_tup (O : Store) (ds : List D) : seqOf O (.tup ds) = some ds := rfl
@[simp] theorem seqOf_ptr {O : Store} {k : Nat} {ds : List D} (h : O[k]? = some (.lst ds)) : seqOf O (.ptr k) = some ds := by show lsD O (.ptr k) = _; exact lsD_ptr h
@[simp] theorem itemsOf_ptr {O : Store} {k : Nat} {ds : List D} (h : O[k]? = some (.lst ds)) : itemsOf O (.ptr k) = .ok (ds, some k) := by unfold itemsOf; simp only [h]
@[simp] theorem shD_ptr (n k : Nat) : shD n (.ptr k) = .ptr (n + k) := by unfold shD; rfl
@[simp] theorem pureDs_nil : pureDs [] = true := by unfold pureDs; rfl
@[simp] theorem pureDs_cons (d : D) (ds : List D) : pureDs (d :: ds) = (pureD d && pureDs ds) := by conv => lhs; unfold pureDs
@[simp] theorem pureD_int (i : Int) : pureD (.int i) = true := by unfold pureD; rfl
@[simp] theorem pureD_bl (i : Bool) : pureD (.bl i) = true := by unfold pureD; rfl
@[simp] theorem pureD_str (i : Str) : pureD (.str i) = true := by unfold pureD; rfl
@[simp] theorem pureD_non : pureD .non = true := by unfold pureD; rfl
@[simp] theorem pureD_lst (ds : List D) : pureD (.lst ds) = pureDs ds := by conv => lhs; unfold pureD
@[simp] theorem pureD_tup (ds : List D) : pureD (.tup ds) = pureDs ds := by conv => lhs; unfold pureD
@[simp] theorem pureDs_ints (ns : List Int) : pureDs (ns.map D.int) = true := pure_ints ns
@[simp] theorem res_int (O : Store) (i : Int) : res O (.int i) = .int i := by unfold res; rfl
@[simp] theorem res_bl (O : Store) (i : Bool) : res O (.bl i) = .bl i := by unfold res; rfl
@[simp] theorem res_str (O : Store) (i : Str) : res O (.str i) = .str i := by unfold res; rfl
@[simp] theorem res_non (O : Store) : res O .non = .non := by unfold res; rfl
@[simp] theorem res_lst (O : Store) (ds : List D) : res O (.lst ds) = .lst (ress O ds) := by conv => lhs; unfold res
@[simp] theorem res_tup (O : Store) (ds : List D) : res O (.tup ds) = .tup (ress O ds) := by conv => lhs; unfold res
@[simp] theorem res_ptr {O : Store} {k : Nat} {ds : List D} (h : O[k]? = some (.lst ds)) : res O (.ptr k) = .lst ds := by conv => lhs; unfold res; simp only [h]
@[simp] theorem ress_nil (O : Store) : ress O [] = [] := by unfold ress; rfl
@[simp] theorem ress_cons (O : Store) (d : D) (ds : List D) : ress O (d :: ds) = res O d :: ress O ds := by conv => lhs; unfold ress
@[simp] theorem ress_ints' (O : Store) (ns : List Int) : ress O (ns.map D.int) = ns.map D.int := ress_ints ns
@[simp] theorem scalD_bl (b : Bool) : scalD (.bl b) = true := rfl
@[simp] theorem scalD_int (b : Int) : scalD (.int b) = true := rfl
@[simp] theorem scalD_str (b : Str) : scalD (.str b) = true := rfl
@[simp] theorem isi_ptr {O : Store} {k : Nat} {ds : List D} (h : O[k]? = some (.lst ds)) (c : String) : isiD c O (.ptr k) = .ok (.bl (isSub "list" c)) := by
  unfold isiD tyD; simp only [h]
@[simp] theorem shDs_ints (n : Nat) : ∀ ns : List Int, shDs n (ns.map D.int) = ns.map D.int
  | [] => by simp [shDs]
  | m :: ns => by simp [shDs, shD, shDs_ints n ns]
@[simp] theorem shC_lst (n : Nat) (ds : List D) : shC n (.lst ds) = .lst (shDs n ds) := rfl
theorem runM_ex {n : Nat} {m : SM} {ds : List D} {O : Store} {d : D} (h : ∃ s, m ⟨ds.map some ++ List.replicate (n - ds.length) none, O⟩ = .ret d s) : ∃ O1, runM n m ds O = .ok (d, O1) := by
  obtain ⟨s, h⟩ := h
  exact ⟨s.o, runM_ret h⟩
end
mutual
theorem res_pure {O : Store} : ∀ {d : D}, pureD d = true → res O d = d
  | .non, _ => by unfold res; rfl
  | .bl _, _ => by unfold res; rfl
  | .int _, _ => by unfold res; rfl
  | .str _, _ => by unfold res; rfl
  | .lst ds, h => by rw [res_lst, ress_pure (by simpa using h)]
  | .tup ds, h => by rw [res_tup, ress_pure (by simpa using h)]
  | .ptr _, h => by unfold pureD at h; cases h
  | .obj c ns ds, h => by unfold res; rfl
  | .exn c, h => by unfold res; rfl
theorem ress_pure {O : Store} : ∀ {ds : List D}, pureDs ds = true → ress O ds = ds
  | [], _ => ress_nil O
  | d :: ds, h => by
    rw [pureDs_cons, Bool.and_eq_true] at h
    rw [ress_cons, res_pure h.1, ress_pure h.2]
end
theorem eqB_ptr {O : Store} {k : Nat} {ds : List D} (h : O[k]? = some (.lst ds)) (hp : pureDs ds = true) (es : List D) : eqB O (.ptr k) (.lst es) = eqB O (.lst ds) (.lst es) := by
  show eqDeep O _ _ = eqDeep O _ _
  unfold eqDeep
  simp only [res_ptr h, res_lst, ress_pure hp]
@[simp] theorem eqD_ptr {O : Store} {k : Nat} {ds : List D} (h : O[k]? = some (.lst ds)) (hp : pureDs ds = true) (es : List D) : eqD O (.ptr k) (.lst es) = eqD O (.lst ds) (.lst es) := by unfold eqD; rw [eqB_ptr h hp]
@[simp] theorem neD_ptr {O : Store} {k : Nat} {ds : List D} (h : O[k]? = some (.lst ds)) (hp : pureDs ds = true) (es : List D) : neD O (.ptr k) (.lst es) = neD O (.lst ds) (.lst es) := by unfold neD; rw [eqB_ptr h hp]
theorem cutD_take {ms : List Int} {n : Nat} : cutD (ms.map D.int) none (some (n : Int)) = (ms.take n).map D.int := by
  unfold cutD
  rw [HT.sIx_none, HT.sIx_nat, List.drop_zero, Nat.sub_zero, List.length_map, ← List.map_take]
  congr 1
  by_cases h : n ≤ ms.length
  · rw [Nat.min_eq_left h]
  · rw [Nat.min_eq_right (by omega), List.take_of_length_le (Nat.le_refl _), List.take_of_length_le (by omega)]
end M
set_option maxRecDepth 100000
set_option maxHeartbeats 4000000
namespace M
open PySem PySem.Spec PyProof.Rows L2
def rat (a b : Int) : Int × Int := (a.fdiv (if b < 0 then -(Int.gcd a b : Int) else Int.gcd a b), b.fdiv (if b < 0 then -(Int.gcd a b : Int) else Int.gcd a b))
theorem rat_spec {a b : Int} (h : b ≠ 0) : ∃ g : Int, g ≠ 0 ∧ g.natAbs = Int.gcd a b ∧ a = g * (rat a b).1 ∧ b = g * (rat a b).2 ∧ 0 < (rat a b).2 ∧ Int.gcd (rat a b).1 (rat a b).2 = 1 := by
  have hg : 0 < Int.gcd a b := Int.gcd_pos_of_ne_zero_right a h
  have ha : (Int.gcd a b : Int) ∣ a := Int.gcd_dvd_left a b
  have hb : (Int.gcd a b : Int) ∣ b := Int.gcd_dvd_right a b
  obtain ⟨x, hx⟩ := ha
  obtain ⟨y, hy⟩ := hb
  have one : Int.gcd x y = 1 := by
    have e : Int.gcd a b = Int.gcd a b * Int.gcd x y := by
      have e0 : Int.gcd ((Int.gcd a b : Int) * x) ((Int.gcd a b : Int) * y) = Int.gcd a b * Int.gcd x y := by rw [Int.gcd_mul_left, Int.natAbs_natCast]
      rw [← hx, ← hy] at e0
      exact e0
    have : Int.gcd a b * 1 = Int.gcd a b * Int.gcd x y := by rw [Nat.mul_one]; exact e
    exact (Nat.eq_of_mul_eq_mul_left hg this).symm
  by_cases hn : b < 0
  · have hc : (-(Int.gcd a b : Int)) ≠ 0 := by omega
    have e1 : (rat a b).1 = -x := by
      unfold rat
      rw [if_pos hn]
      show a.fdiv _ = _
      conv => lhs; lhs; rw [hx, ← Int.neg_mul_neg]
      exact Int.mul_fdiv_cancel_left _ hc
    have e2 : (rat a b).2 = -y := by
      unfold rat
      rw [if_pos hn]
      show b.fdiv _ = _
      conv => lhs; lhs; rw [hy, ← Int.neg_mul_neg]
      exact Int.mul_fdiv_cancel_left _ hc
    refine ⟨-(Int.gcd a b : Int), hc, by rw [Int.natAbs_neg, Int.natAbs_natCast], by rw [e1, Int.neg_mul_neg]; exact hx, by rw [e2, Int.neg_mul_neg]; exact hy, ?_, ?_⟩
    · rw [e2]
      have : ¬ 0 ≤ y := fun z => by
        have := Int.mul_nonneg (show (0 : Int) ≤ (Int.gcd a b : Int) by omega) z
        omega
      omega
    · rw [e1, e2, Int.neg_gcd, Int.gcd_neg]; exact one
  · have hc : (Int.gcd a b : Int) ≠ 0 := by omega
    have e1 : (rat a b).1 = x := by
      unfold rat
      rw [if_neg hn]
      show a.fdiv _ = _
      conv => lhs; lhs; rw [hx]
      exact Int.mul_fdiv_cancel_left _ hc
    have e2 : (rat a b).2 = y := by
      unfold rat
      rw [if_neg hn]
      show b.fdiv _ = _
      conv => lhs; lhs; rw [hy]
      exact Int.mul_fdiv_cancel_left _ hc
    refine ⟨(Int.gcd a b : Int), hc, by rw [Int.natAbs_natCast], by rw [e1]; exact hx, by rw [e2]; exact hy, ?_, ?_⟩
    · rw [e2]
      have hbp : 0 < b := by omega
      have : ¬ y ≤ 0 := fun z => by
        have := Int.mul_nonpos_of_nonneg_of_nonpos (show (0 : Int) ≤ (Int.gcd a b : Int) by omega) z
        omega
      omega
    · rw [e1, e2]; exact one
theorem rat_abs {a b : Int} (h : b ≠ 0) : (rat a b).1.natAbs ≤ a.natAbs ∧ (rat a b).2.natAbs ≤ b.natAbs := by
  obtain ⟨g, hg, _, e1, e2, _⟩ := rat_spec (a := a) h
  have hg1 : 1 ≤ g.natAbs := by omega
  constructor
  · conv => rhs; rw [e1, Int.natAbs_mul]
    exact Nat.le_mul_of_pos_left _ hg1
  · conv => rhs; rw [e2, Int.natAbs_mul]
    exact Nat.le_mul_of_pos_left _ hg1
theorem forGo_all {ok : Store → Prop} {g : GM} {body : SM} (P : S → Prop) (hok : ∀ s, P s → ok s.o) : ∀ (ds : List D),
    (∀ d ∈ ds, ∀ s, P s → ∃ s1 s2, g d s = .ok s1 ∧ (body s1 = .next s2 ∨ body s1 = .cnt s2) ∧ P s2) → ∀ s, P s → ∃ s', forGo ok g body ds s = .next s' ∧ P s'
  | [], _, s, h => ⟨s, by rw [forGo, if_pos (hok _ h)], h⟩
  | d :: ds, step, s, h => by
    obtain ⟨s1, s2, e1, e2, h2⟩ := step d List.mem_cons_self s h
    obtain ⟨s', e3, h3⟩ := forGo_all P hok ds (fun d hd => step d (List.mem_cons_of_mem _ hd)) s2 h2
    refine ⟨s', ?_, h3⟩
    rw [forGo, if_pos (hok _ h), e1, out_ok]
    rcases e2 with e2 | e2 <;> (rw [e2]; exact e3)
theorem forS_of {im : IM} {g : GM} {body : SM} {s s1 : S} {ds : List D} {k : Option Nat} (h : im s = .ok ((ds, k), s1)) : forS im g body s = forGo (okC ds k) g body ds s1 := by rw [forS_ev, h, out_ok]
theorem rng1_nat {m : AM} {s s1 : S} {n : Nat} (h : m s = .ok ([.int (n : Int)], s1)) (hn : n ≤ 1000000) : rng1 m s = .ok ((rangeD 0 (n : Int), none), s1) := by
  show (m s).bind _ = _
  rw [h, bind_ok]
  dsimp only
  rw [if_pos (by constructor <;> omega)]
theorem mem_rangeD {lo hi : Int} {d : D} (h : d ∈ rangeD lo hi) : ∃ k : Nat, d = .int (lo + k) ∧ lo + k < hi := by
  unfold rangeD at h
  obtain ⟨k, hk, rfl⟩ := List.mem_map.mp h
  rw [List.mem_range] at hk
  exact ⟨k, rfl, by omega⟩
section
variable {O : Store}
@[simp] theorem ixT0 (d : D) (ds : List D) : ixD O (.tup (d :: ds)) (.int 0) = .ok d := ixD_tup (by rw [atI_ok (by decide) (by simp)]; rfl)
@[simp] theorem ixT1 (d e : D) (ds : List D) : ixD O (.tup (d :: e :: ds)) (.int 1) = .ok e := ixD_tup (by rw [atI_ok (by decide) (by simp; omega)]; rfl)
@[simp] theorem ixL0 (d : D) (ds : List D) : ixD O (.lst (d :: ds)) (.int 0) = .ok d := ixD_lst (by rw [atI_ok (by decide) (by simp)]; rfl)
@[simp] theorem ixL1 (d e : D) (ds : List D) : ixD O (.lst (d :: e :: ds)) (.int 1) = .ok e := ixD_lst (by rw [atI_ok (by decide) (by simp; omega)]; rfl)
theorem shaped_tints (ns : List Int) : SeqAt.shaped (.tuple (ns.map PyData.int)) = true := by
  simp [SeqAt.shaped, PyData.canLay0, canLay_ints, PyData.depth, depth_ints]
theorem eqB_tints (ns ms : List Int) : eqB O (.tup (ns.map D.int)) (.tup (ms.map D.int)) = some (decide (ns = ms)) := by
  show eqDeep O _ _ = _
  unfold eqDeep
  simp only [res, ress_ints, toPy, toPys_ints, Option.map_some]
  rw [if_pos ⟨shaped_tints ns, shaped_tints ms⟩]
  simp only [PyData.eqv, eqv_ints]
@[simp] theorem eqD_t2 (a b c d : Int) : eqD O (.tup [.int a, .int b]) (.tup [.int c, .int d]) = .ok (.bl (decide (a = c ∧ b = d))) := by
  have := eqB_tints (O := O) [a, b] [c, d]
  unfold eqD
  rw [show eqB O (.tup [.int a, .int b]) (.tup [.int c, .int d]) = _ from this]
  simp
@[simp] theorem neD_t2 (a b c d : Int) : neD O (.tup [.int a, .int b]) (.tup [.int c, .int d]) = .ok (.bl (!decide (a = c ∧ b = d))) := by
  have := eqB_tints (O := O) [a, b] [c, d]
  unfold neD
  rw [show eqB O (.tup [.int a, .int b]) (.tup [.int c, .int d]) = _ from this]
  simp
theorem fdivD_gen {n : Nat} (hn : n ≤ 9000) {i j : Int} (h : j ≠ 0) (h2 : Sz n j) : fdivD O (.int i) (.int j) = .ok (.int (i.fdiv j)) := fdivD_int h
end
noncomputable def ratTail : SM := (seqM (ifS (tstM (binM ltD (varM 1) (cstM (.int 0)))) (setM 2 (unM negD (varM 2))) skipM) (retM (tupM (consM (binM fdivD (varM 0) (varM 2)) (consM (binM fdivD (varM 1) (varM 2)) nilM)))))
theorem gcd_sz {n : Nat} {a b : Int} (hb : b ≠ 0) (h : Sz n b) : Sz n (Int.gcd a b : Int) := by
  unfold Sz at *
  rw [Int.natAbs_natCast]
  exact Nat.lt_of_le_of_lt (Nat.gcd_le_right _ (by omega)) h
theorem ratTail_ok {n : Nat} (hn : n ≤ 9000) {a b : Int} (hb : b ≠ 0) (h : Sz n b) (O : Store) : ∃ s, ratTail ⟨[some (.int a), some (.int b), some (.int (Int.gcd a b : Int))], O⟩ = .ret (.tup [.int (rat a b).1, .int (rat a b).2]) s ∧ s.o = O := by
  have hg : 0 < Int.gcd a b := Int.gcd_pos_of_ne_zero_right a hb
  have hz := gcd_sz (a := a) hb h
  by_cases hn' : b < 0
  · have hz' : Sz n (-(Int.gcd a b : Int)) := by unfold Sz at *; rw [Int.natAbs_neg]; exact hz
    refine ⟨⟨[some (.int a), some (.int b), some (.int (-(Int.gcd a b : Int)))], O⟩, ?_, rfl⟩
    simp [ratTail, hn', fdivD_gen hn (show -(Int.gcd a b : Int) ≠ 0 by omega) hz', rat]
  · refine ⟨⟨[some (.int a), some (.int b), some (.int (Int.gcd a b : Int))], O⟩, ?_, rfl⟩
    simp [ratTail, hn', fdivD_gen hn (show (Int.gcd a b : Int) ≠ 0 by omega) hz, rat]
theorem Sz.rat {n m : Nat} {a b : Int} (hb : b ≠ 0) (h : Sz n a) (h' : Sz m b) : Sz n (rat a b).1 ∧ Sz m (rat a b).2 :=
  ⟨Nat.lt_of_le_of_lt (rat_abs hb).1 h, Nat.lt_of_le_of_lt (rat_abs hb).2 h'⟩
theorem Sz.sub {m n : Nat} {i j : Int} (h : Sz m i) (h' : Sz n j) : Sz (max m n + 1) (i - j) := by
  rw [Int.sub_eq_add_neg]
  refine Sz.add h ?_
  unfold Sz at *
  rw [Int.natAbs_neg]; exact h'
theorem Sz.neg {m : Nat} {i : Int} (h : Sz m i) : Sz m (-i) := by
  unfold Sz at *
  rw [Int.natAbs_neg]; exact h
end M
set_option maxRecDepth 100000
set_option maxHeartbeats 4000000
namespace M
def sumN : Nat → (Nat → Int) → Int
  | 0, _ => 0
  | n + 1, f => sumN n f + f n
theorem sumN_congr {n : Nat} {f g : Nat → Int} (h : ∀ i, i < n → f i = g i) : sumN n f = sumN n g := by
  induction n with
  | zero => rfl
  | succ n ih => rw [sumN, sumN, ih fun i hi => h i (by omega), h n (by omega)]
theorem sumN_add (n : Nat) (f g : Nat → Int) : sumN n (fun i => f i + g i) = sumN n f + sumN n g := by
  induction n with
  | zero => rfl
  | succ n ih => simp only [sumN, ih]; omega
theorem sumN_mul (n : Nat) (c : Int) (f : Nat → Int) : sumN n (fun i => c * f i) = c * sumN n f := by
  induction n with
  | zero => simp [sumN]
  | succ n ih => simp only [sumN, ih, Int.mul_add]
def nth (r : List Int) (i : Nat) : Int := r.getD i 0
def dotN (n : Nat) (r : List Int) (x : Nat → Int) : Int := sumN n fun i => nth r i * x i
def Null (n : Nat) (R : List (List Int)) (x : Nat → Int) : Prop := ∀ r ∈ R, dotN n r x = 0
def low (ns : List Int) : List Int := if gcdL ns = 0 then ns else ns.map (· / (gcdL ns : Int))
theorem low_length (ns : List Int) : (low ns).length = ns.length := by unfold low; split <;> simp
theorem nth_map {f : Int → Int} (h0 : f 0 = 0) (r : List Int) (i : Nat) : nth (r.map f) i = f (nth r i) := by
  unfold nth
  rw [List.getD_eq_getElem?_getD, List.getD_eq_getElem?_getD, List.getElem?_map]
  cases r[i]? with
  | none => exact h0.symm
  | some a => rfl
theorem nth_mem {r : List Int} {i : Nat} (h : i < r.length) : nth r i ∈ r := by
  unfold nth
  rw [List.getD_eq_getElem?_getD, List.getElem?_eq_getElem h]
  exact List.getElem_mem h
theorem nth_out {r : List Int} {i : Nat} (h : r.length ≤ i) : nth r i = 0 := by
  unfold nth
  rw [List.getD_eq_getElem?_getD, List.getElem?_eq_none h]
  rfl
theorem gcdL_dvd_nth (r : List Int) (i : Nat) : ((gcdL r : Nat) : Int) ∣ nth r i := by
  by_cases h : i < r.length
  · exact gcdL_dvd (nth_mem h)
  · rw [nth_out (by omega)]; exact Int.dvd_zero _
def lowBy (r : List Int) : Int := if gcdL r = 0 then 1 else (gcdL r : Int)
theorem lowBy_pos (r : List Int) : 0 < lowBy r := by unfold lowBy; split <;> omega
theorem low_nth (r : List Int) (i : Nat) : nth r i = lowBy r * nth (low r) i := by
  unfold low lowBy
  split
  · omega
  · rw [nth_map (by simp), Int.mul_ediv_cancel' (gcdL_dvd_nth r i)]
theorem gcdL_eq_zero {r : List Int} (h : gcdL r = 0) (i : Nat) : nth r i = 0 := by
  have := gcdL_dvd_nth r i
  rw [h] at this
  simpa using this
theorem low_gcd {r : List Int} {i : Nat} (h : nth r i ≠ 0) : gcdL (low r) = 1 := by
  have h0 : gcdL r ≠ 0 := fun e => h (gcdL_eq_zero e i)
  unfold low
  rw [if_neg h0]
  exact gcdL_low (Nat.pos_of_ne_zero h0)
def mixL (one : List Int) (v : Int) (other : List Int) (w : Int) : List Int := List.zipWith (fun a b => a * w - b * v) one other
def offL (one : List Int) (v : Int) (other : List Int) (w : Int) : List Int := low (mixL one v other w)
theorem mixL_length {one other : List Int} (h : one.length = other.length) (v w : Int) : (mixL one v other w).length = one.length := by
  unfold mixL; rw [List.length_zipWith, ← h, Nat.min_self]
theorem mixL_nth {one other : List Int} (h : one.length = other.length) (v w : Int) (i : Nat) : nth (mixL one v other w) i = nth one i * w - nth other i * v := by
  by_cases hi : i < one.length
  · unfold mixL nth
    simp only [List.getD_eq_getElem?_getD, List.getElem?_zipWith, List.getElem?_eq_getElem hi, List.getElem?_eq_getElem (h ▸ hi : i < other.length)]
    rfl
  · rw [nth_out (by rw [mixL_length h]; omega), nth_out (r := one) (by omega), nth_out (r := other) (by omega)]
    simp
theorem offL_length {one other : List Int} (h : one.length = other.length) (v w : Int) : (offL one v other w).length = one.length := by
  unfold offL; rw [low_length, mixL_length h]
theorem offL_nth {one other : List Int} (h : one.length = other.length) (v w : Int) : ∃ g : Int, 0 < g ∧ ∀ i, g * nth (offL one v other w) i = nth one i * w - nth other i * v := by
  refine ⟨lowBy (mixL one v other w), lowBy_pos _, fun i => ?_⟩
  unfold offL
  rw [← low_nth, mixL_nth h]
theorem dotN_lin {n : Nat} {a b c : List Int} {g u v : Int} (h : ∀ i, g * nth c i = u * nth a i + v * nth b i) (x : Nat → Int) : g * dotN n c x = u * dotN n a x + v * dotN n b x := by
  unfold dotN
  rw [← sumN_mul, ← sumN_mul, ← sumN_mul, ← sumN_add]
  refine sumN_congr fun i _ => ?_
  have := h i
  grind
theorem dotN_scale {n : Nat} {a c : List Int} {g : Int} (h : ∀ i, nth a i = g * nth c i) (x : Nat → Int) : dotN n a x = g * dotN n c x := by
  unfold dotN
  rw [← sumN_mul]
  refine sumN_congr fun i _ => ?_
  rw [h i, Int.mul_assoc]
end M
set_option maxRecDepth 100000
set_option maxHeartbeats 4000000
namespace M
def firstNN : List Int → Option Nat
  | [] => none
  | a :: r => if a ≠ 0 then some 0 else (firstNN r).map (· + 1)
theorem firstNN_none : ∀ {l : List Int}, firstNN l = none → ∀ a ∈ l, a = 0
  | [], _, _, h => by simp at h
  | b :: r, e, a, h => by
    unfold firstNN at e
    split at e
    · cases e
    · rename_i hb
      rcases List.mem_cons.mp h with rfl | h
      · simpa using hb
      · exact firstNN_none (by simpa using e) a h
theorem firstNN_some : ∀ {l : List Int} {k : Nat}, firstNN l = some k → k < l.length ∧ nth l k ≠ 0 ∧ ∀ i, i < k → nth l i = 0
  | [], _, e => by cases e
  | b :: r, k, e => by
    unfold firstNN at e
    split at e
    · rename_i hb
      cases e
      exact ⟨by simp, hb, fun i hi => by omega⟩
    · rename_i hb
      cases e2 : firstNN r with
      | none => rw [e2] at e; cases e
      | some j =>
        rw [e2] at e
        cases e
        obtain ⟨h1, h2, h3⟩ := firstNN_some e2
        refine ⟨by simp; omega, by simpa [nth] using h2, fun i hi => ?_⟩
        cases i with
        | zero => simpa [nth] using hb
        | succ i => simpa [nth] using h3 i (Nat.lt_of_succ_lt_succ hi)
def sgnL (row : List Int) (at_ : Nat) : List Int := if nth row at_ > 0 then row else row.map (- ·)
def clrL (lead : List Int) (at_ : Nat) (row : List Int) : List Int := if nth row at_ = 0 then row else offL row (nth row at_) lead (nth lead at_)
def plainStep (s : List (List Int) × List (List Int)) (at_ : Nat) : List (List Int) × List (List Int) :=
  match firstNN (s.1.map (nth · at_)) with
  | none => s
  | some k => ((s.1.eraseIdx k).map (clrL (sgnL (s.1.getD k []) at_) at_), s.2.map (clrL (sgnL (s.1.getD k []) at_) at_) ++ [sgnL (s.1.getD k []) at_])
def plainL (rows : List (List Int)) (n : Nat) : List (List Int) := ((List.range n).foldl plainStep (rows.map low, [])).2
structure Good (n : Nat) (p : Nat × List Int) : Prop where
  len : p.2.length = n
  lt : p.1 < n
  pos : 0 < nth p.2 p.1
  zero : ∀ i, i < p.1 → nth p.2 i = 0
  one : gcdL p.2 = 1
structure Pl (n : Nat) (P : List (Nat × List Int)) : Prop where
  good : ∀ p ∈ P, Good n p
  pw : P.Pairwise fun p q => p.1 < q.1 ∧ nth p.2 q.1 = 0
def Lowd (r : List Int) : Prop := ∀ i, nth r i ≠ 0 → gcdL r = 1
theorem low_lowd (r : List Int) : Lowd (low r) := fun i h => low_gcd (i := i) fun z => by
  have := low_nth r i
  rw [z] at this
  rcases Int.mul_eq_zero.mp this.symm with q | q
  · have := lowBy_pos r; omega
  · exact h q
theorem gcdL_neg (r : List Int) : gcdL (r.map (- ·)) = gcdL r := by
  unfold gcdL
  have : ∀ (l : List Int) (c : Nat), (l.map (- ·)).foldl (fun c n => Nat.gcd c n.natAbs) c = l.foldl (fun c n => Nat.gcd c n.natAbs) c := by
    intro l
    induction l with
    | nil => intro c; rfl
    | cons a l ih => intro c; simp only [List.map_cons, List.foldl_cons, Int.natAbs_neg]; exact ih _
  exact this r 0
theorem sgnL_length (row : List Int) (a : Nat) : (sgnL row a).length = row.length := by unfold sgnL; split <;> simp
theorem sgnL_nth (row : List Int) (a : Nat) : ∃ g : Int, (g = 1 ∨ g = -1) ∧ ∀ i, nth (sgnL row a) i = g * nth row i := by
  unfold sgnL
  split
  · exact ⟨1, .inl rfl, fun i => by omega⟩
  · exact ⟨-1, .inr rfl, fun i => by rw [nth_map (by simp)]; omega⟩
theorem sgnL_lowd {row : List Int} {a : Nat} (h : Lowd row) : Lowd (sgnL row a) := by
  unfold sgnL
  split
  · exact h
  · intro i hi
    rw [gcdL_neg]
    refine h i fun z => hi ?_
    rw [nth_map (by simp), z]; rfl
theorem sgnL_pos {row : List Int} {a : Nat} (h : nth row a ≠ 0) : 0 < nth (sgnL row a) a := by
  unfold sgnL
  split
  · assumption
  · rw [nth_map (by simp)]; omega
theorem dot_sgn (n : Nat) (row : List Int) (a : Nat) (x : Nat → Int) : dotN n (sgnL row a) x = 0 ↔ dotN n row x = 0 := by
  obtain ⟨g, hg, e⟩ := sgnL_nth row a
  have := dotN_scale (n := n) (a := sgnL row a) (c := row) e x
  rw [this]
  rcases hg with rfl | rfl <;> omega
section
variable {lead row : List Int} {a : Nat}
theorem clrL_length (h : row.length = lead.length) : (clrL lead a row).length = row.length := by
  unfold clrL; split
  · rfl
  · exact offL_length h _ _
theorem clrL_nth (hl : 0 < nth lead a) (h : row.length = lead.length) : ∃ g u : Int, 0 < g ∧ 0 < u ∧ ∃ v : Int, (nth row a = 0 → v = 0) ∧ ∀ i, g * nth (clrL lead a row) i = u * nth row i - v * nth lead i := by
  unfold clrL
  split
  · exact ⟨1, 1, by omega, by omega, 0, fun _ => rfl, fun i => by omega⟩
  · rename_i hz
    obtain ⟨g, hg, e⟩ := offL_nth h (nth row a) (nth lead a)
    exact ⟨g, nth lead a, hg, hl, nth row a, fun z => absurd z hz, fun i => by rw [e i]; grind⟩
theorem clrL_at (hl : 0 < nth lead a) (h : row.length = lead.length) : nth (clrL lead a row) a = 0 := by
  unfold clrL
  split
  · assumption
  · obtain ⟨g, hg, e⟩ := offL_nth h (nth row a) (nth lead a)
    have := e a
    have : g * nth (offL row (nth row a) lead (nth lead a)) a = 0 := by rw [this]; grind
    rcases Int.mul_eq_zero.mp this with z | z
    · omega
    · exact z
theorem clrL_lowd (h : Lowd row) : Lowd (clrL lead a row) := by
  unfold clrL
  split
  · exact h
  · exact low_lowd _
theorem clrL_zero (hl : 0 < nth lead a) (h : row.length = lead.length) {i : Nat} (h1 : nth row i = 0) (h2 : nth lead i = 0) : nth (clrL lead a row) i = 0 := by
  obtain ⟨g, u, hg, hu, v, _, e⟩ := clrL_nth hl h
  have := e i
  rw [h1, h2] at this
  have : g * nth (clrL lead a row) i = 0 := by rw [this]; grind
  rcases Int.mul_eq_zero.mp this with z | z
  · omega
  · exact z
theorem clrL_pos (hl : 0 < nth lead a) (h : row.length = lead.length) {i : Nat} (h1 : 0 < nth row i) (h2 : nth lead i = 0) : 0 < nth (clrL lead a row) i := by
  obtain ⟨g, u, hg, hu, v, _, e⟩ := clrL_nth hl h
  have e' := e i
  rw [h2] at e'
  have : 0 < g * nth (clrL lead a row) i := by
    rw [e']
    have := Int.mul_pos hu h1
    omega
  by_cases hn : nth (clrL lead a row) i ≤ 0
  · have := Int.mul_nonpos_of_nonneg_of_nonpos (show 0 ≤ g by omega) hn
    omega
  · omega
theorem dot_clr (n : Nat) (hl : 0 < nth lead a) (h : row.length = lead.length) {x : Nat → Int} (hx : dotN n lead x = 0) : dotN n (clrL lead a row) x = 0 ↔ dotN n row x = 0 := by
  obtain ⟨g, u, hg, hu, v, _, e⟩ := clrL_nth hl h
  have := dotN_lin (n := n) (c := clrL lead a row) (a := row) (b := lead) (g := g) (u := u) (v := -v) (fun i => by rw [e i]; grind) x
  rw [hx] at this
  constructor
  · intro z
    rw [z] at this
    have : u * dotN n row x = 0 := by omega
    rcases Int.mul_eq_zero.mp this with q | q
    · omega
    · exact q
  · intro z
    rw [z] at this
    have : g * dotN n (clrL lead a row) x = 0 := by omega
    rcases Int.mul_eq_zero.mp this with q | q
    · omega
    · exact q
end
structure PSt (n a : Nat) (left : List (List Int)) (P : List (Nat × List Int)) : Prop where
  ll : ∀ r ∈ left, r.length = n
  lz : ∀ r ∈ left, ∀ i, i < a → nth r i = 0
  lw : ∀ r ∈ left, Lowd r
  pl : Pl n P
  pa : ∀ p ∈ P, p.1 < a
theorem nth_map_col (left : List (List Int)) (a k : Nat) : nth (left.map (nth · a)) k = nth (left.getD k []) a := by
  unfold nth
  simp only [List.getD_eq_getElem?_getD, List.getElem?_map]
  cases left[k]? with
  | none => rfl
  | some r => rfl
theorem getD_mem {left : List (List Int)} {k : Nat} (h : k < left.length) : left.getD k [] ∈ left := by
  rw [List.getD_eq_getElem?_getD, List.getElem?_eq_getElem h]
  exact List.getElem_mem h
theorem perm_erase : ∀ {l : List (List Int)} {k : Nat} (h : k < l.length), l.Perm (l[k] :: l.eraseIdx k)
  | [], k, h => by simp at h
  | a :: l, 0, h => by simp
  | a :: l, k + 1, h => by
    have := perm_erase (l := l) (k := k) (by simpa using h)
    simp only [List.getElem_cons_succ, List.eraseIdx_cons_succ]
    exact (this.cons a).trans (List.Perm.swap _ _ _)
theorem step_ok {n a : Nat} (ha : a < n) {left : List (List Int)} {P : List (Nat × List Int)} (h : PSt n a left P) :
    ∃ left' P', plainStep (left, P.map (·.2)) a = (left', P'.map (·.2)) ∧ PSt n (a + 1) left' P' ∧ left'.length + P'.length = left.length + P.length ∧ ∀ x, Null n (P'.map (·.2) ++ left') x ↔ Null n (P.map (·.2) ++ left) x := by
  unfold plainStep
  dsimp only
  split
  · rename_i e
    refine ⟨left, P, rfl, ⟨h.ll, fun r hr i hi => ?_, h.lw, h.pl, fun p hp => Nat.lt_succ_of_lt (h.pa p hp)⟩, rfl, fun x => Iff.rfl⟩
    by_cases hia : i = a
    · subst hia
      exact firstNN_none e _ (List.mem_map.mpr ⟨r, hr, rfl⟩)
    · exact h.lz r hr i (by omega)
  · rename_i k e
    obtain ⟨k1, k2, _⟩ := firstNN_some e
    rw [List.length_map] at k1
    rw [nth_map_col] at k2
    have hm : left.getD k [] ∈ left := getD_mem k1
    have hperm : left.Perm (left.getD k [] :: left.eraseIdx k) := by
      rw [List.getD_eq_getElem?_getD, List.getElem?_eq_getElem k1]
      exact perm_erase k1
    generalize left.getD k [] = row at *
    generalize hld : sgnL row a = lead at *
    have ll : lead.length = n := by rw [← hld, sgnL_length]; exact h.ll row hm
    have lp : 0 < nth lead a := by rw [← hld]; exact sgnL_pos k2
    have lz : ∀ i, i < a → nth lead i = 0 := fun i hi => by
      obtain ⟨g, _, e⟩ := sgnL_nth row a
      rw [← hld, e, h.lz row hm i hi]; omega
    have lw : Lowd lead := by rw [← hld]; exact sgnL_lowd (h.lw row hm)
    have sub : ∀ r ∈ left.eraseIdx k, r ∈ left := fun r hr => List.mem_of_mem_eraseIdx hr
    refine ⟨(left.eraseIdx k).map (clrL lead a), P.map (fun p => (p.1, clrL lead a p.2)) ++ [(a, lead)], ?_, ⟨?_, ?_, ?_, ⟨?_, ?_⟩, ?_⟩, ?_, ?_⟩
    · simp [Function.comp_def]
    · intro r hr
      obtain ⟨q, hq, rfl⟩ := List.mem_map.mp hr
      rw [clrL_length (by rw [ll, h.ll q (sub q hq)]), h.ll q (sub q hq)]
    · intro r hr i hi
      obtain ⟨q, hq, rfl⟩ := List.mem_map.mp hr
      have hql : q.length = lead.length := by rw [ll, h.ll q (sub q hq)]
      by_cases hia : i = a
      · subst hia; exact clrL_at lp hql
      · exact clrL_zero lp hql (h.lz q (sub q hq) i (by omega)) (lz i (by omega))
    · intro r hr
      obtain ⟨q, hq, rfl⟩ := List.mem_map.mp hr
      exact clrL_lowd (h.lw q (sub q hq))
    · intro p hp
      rcases List.mem_append.mp hp with hp | hp
      · obtain ⟨q, hq, rfl⟩ := List.mem_map.mp hp
        have g := h.pl.good q hq
        have hql : q.2.length = lead.length := by rw [ll, g.len]
        have pp := clrL_pos lp hql g.pos (lz q.1 (h.pa q hq))
        exact ⟨by rw [clrL_length hql]; exact g.len, g.lt, pp, fun i hi => clrL_zero lp hql (g.zero i hi) (lz i (Nat.lt_trans hi (h.pa q hq))), clrL_lowd (fun i _ => g.one) q.1 (by omega)⟩
      · rw [List.mem_singleton.mp hp]
        exact ⟨ll, ha, lp, lz, lw a (by omega)⟩
    · rw [List.pairwise_append]
      refine ⟨?_, by simp, fun p hp q hq => ?_⟩
      · rw [List.pairwise_map]
        refine List.Pairwise.imp_of_mem (fun {p q} hp hq hpq => ?_) h.pl.pw
        refine ⟨hpq.1, ?_⟩
        have g := h.pl.good p hp
        exact clrL_zero lp (by rw [ll, g.len]) hpq.2 (lz q.1 (h.pa q hq))
      · obtain ⟨p', hp', rfl⟩ := List.mem_map.mp hp
        rw [List.mem_singleton.mp hq]
        exact ⟨h.pa p' hp', clrL_at lp (by rw [ll, (h.pl.good p' hp').len])⟩
    · intro p hp
      rcases List.mem_append.mp hp with hp | hp
      · obtain ⟨q, hq, rfl⟩ := List.mem_map.mp hp
        exact Nat.lt_succ_of_lt (h.pa q hq)
      · rw [List.mem_singleton.mp hp]; exact Nat.lt_succ_self a
    · have := hperm.length_eq
      simp only [List.length_map, List.length_append, List.length_cons, List.length_nil] at *
      omega
    · intro x
      have hlead : dotN n lead x = 0 ↔ dotN n row x = 0 := by rw [← hld]; exact dot_sgn n row a x
      constructor
      · intro hx r hr
        have h0 : dotN n lead x = 0 := hx lead (by simp)
        rcases List.mem_append.mp hr with hr | hr
        · obtain ⟨p, hp, rfl⟩ := List.mem_map.mp hr
          exact (dot_clr n lp (by rw [ll, (h.pl.good p hp).len]) h0).mp (hx _ (List.mem_append_left _ (List.mem_map.mpr ⟨(p.1, clrL lead a p.2), by simp; exact .inl ⟨p.1, p.2, hp, rfl, rfl⟩, rfl⟩)))
        · rcases List.mem_cons.mp (hperm.mem_iff.mp hr) with rfl | hr
          · exact hlead.mp h0
          · exact (dot_clr n lp (by rw [ll, h.ll r (sub r hr)]) h0).mp (hx _ (List.mem_append_right _ (List.mem_map.mpr ⟨r, hr, rfl⟩)))
      · intro hx r hr
        have h0 : dotN n lead x = 0 := hlead.mpr (hx row (List.mem_append_right _ hm))
        rcases List.mem_append.mp hr with hr | hr
        · obtain ⟨q, hq, rfl⟩ := List.mem_map.mp hr
          rcases List.mem_append.mp hq with hq | hq
          · obtain ⟨p, hp, rfl⟩ := List.mem_map.mp hq
            exact (dot_clr n lp (by rw [ll, (h.pl.good p hp).len]) h0).mpr (hx _ (List.mem_append_left _ (List.mem_map.mpr ⟨p, hp, rfl⟩)))
          · rw [List.mem_singleton.mp hq]; exact h0
        · obtain ⟨q, hq, rfl⟩ := List.mem_map.mp hr
          exact (dot_clr n lp (by rw [ll, h.ll q (sub q hq)]) h0).mpr (hx _ (List.mem_append_right _ (sub q hq)))
theorem steps_ok {n : Nat} {left : List (List Int)} (hl : ∀ r ∈ left, r.length = n) (hw : ∀ r ∈ left, Lowd r) : ∀ a, a ≤ n →
    ∃ left' P', (List.range a).foldl plainStep (left, []) = (left', P'.map (·.2)) ∧ PSt n a left' P' ∧ left'.length + P'.length = left.length ∧ ∀ x, Null n (P'.map (·.2) ++ left') x ↔ Null n left x
  | 0, _ => ⟨left, [], rfl, ⟨hl, fun _ _ i hi => by omega, hw, ⟨by simp, by simp⟩, by simp⟩, by simp, fun x => by simp⟩
  | a + 1, ha => by
    obtain ⟨l1, P1, e1, s1, c1, n1⟩ := steps_ok hl hw a (by omega)
    obtain ⟨l2, P2, e2, s2, c2, n2⟩ := step_ok (by omega) s1
    refine ⟨l2, P2, ?_, s2, by omega, fun x => (n2 x).trans (n1 x)⟩
    rw [List.range_succ, List.foldl_append, e1]
    exact e2
end M
set_option maxRecDepth 100000
set_option maxHeartbeats 4000000
namespace M
def dotF (n : Nat) (f g : Nat → Int) : Int := sumN n fun i => f i * g i
def combN (T : List Int) (R : List (List Int)) (i : Nat) : Int := sumN R.length fun j => nth T j * nth (R.getD j []) i
def Spanned (n : Nat) (R : List (List Int)) (x : Nat → Int) : Prop := ∃ k : Int, k ≠ 0 ∧ ∃ T : List Int, T.length = R.length ∧ ∀ i, i < n → k * x i = combN T R i
def unitL (n a : Nat) : List Int := (List.replicate n 0).set a 1
def unitsL (n : Nat) : List (List Int) := (List.range n).map (unitL n)
def dotL (a b : List Int) : Int := (List.zipWith (· * ·) a b).sum
def stillStep (lists : List (List Int)) (row : List Int) : List (List Int) :=
  match firstNN (lists.map (dotL row)) with
  | none => lists
  | some k => (lists.eraseIdx k).map fun one => offL one (dotL row one) (lists.getD k []) (dotL row (lists.getD k []))
structure SSt (n : Nat) (R lists : List (List Int)) : Prop where
  len : ∀ l ∈ lists, l.length = n
  nul : ∀ r ∈ R, ∀ l ∈ lists, dotF n (nth r) (nth l) = 0
  spn : ∀ x, Null n lists x → Spanned n R x
end M
set_option maxRecDepth 100000
set_option maxHeartbeats 4000000
namespace M
theorem Pl.other {n : Nat} {P : List (Nat × List Int)} (pl : Pl n P) : ∀ {p q : Nat × List Int}, p ∈ P → q ∈ P → p.1 ≠ q.1 → nth p.2 q.1 = 0 := by
  intro p q hp hq hne
  by_cases h : q.1 < p.1
  · exact (pl.good p hp).zero _ h
  · have : ∀ {P : List (Nat × List Int)}, P.Pairwise (fun p q => p.1 < q.1 ∧ nth p.2 q.1 = 0) → p ∈ P → q ∈ P → p.1 < q.1 → nth p.2 q.1 = 0 := by
      intro P pw hp hq hlt
      induction P with
      | nil => cases hp
      | cons r P ih =>
        have h0 := List.pairwise_cons.mp pw
        rcases List.mem_cons.mp hp with rfl | hp
        · rcases List.mem_cons.mp hq with rfl | hq
          · omega
          · exact (h0.1 q hq).2
        · rcases List.mem_cons.mp hq with rfl | hq
          · have := (h0.1 p (by assumption)).1; omega
          · exact ih h0.2 hp hq
    exact this pl.pw hp hq (by omega)
end M
set_option maxRecDepth 100000
set_option maxHeartbeats 4000000
namespace M
def SzL (b : Nat) (r : List Int) : Prop := ∀ x ∈ r, Sz b x
def SzLL (b : Nat) (R : List (List Int)) : Prop := ∀ r ∈ R, SzL b r
theorem SzL.mono {b c : Nat} {r : List Int} (h : SzL b r) (hbc : b ≤ c) : SzL c r := fun x hx => (h x hx).mono hbc
theorem SzLL.mono {b c : Nat} {r : List (List Int)} (h : SzLL b r) (hbc : b ≤ c) : SzLL c r := fun x hx => (h x hx).mono hbc
theorem Sz.zero (b : Nat) : Sz b 0 := by unfold Sz; simp; exact Nat.two_pow_pos b
theorem SzL.nth {b : Nat} {r : List Int} (h : SzL b r) (i : Nat) : Sz b (M.nth r i) := by
  by_cases hi : i < r.length
  · exact h _ (nth_mem hi)
  · rw [nth_out (by omega)]; exact Sz.zero b
theorem SzL.low {b : Nat} {r : List Int} (h : SzL b r) : SzL b (M.low r) := by
  intro x hx
  unfold M.low at hx
  split at hx
  · exact h x hx
  · obtain ⟨y, hy, rfl⟩ := List.mem_map.mp hx
    exact Nat.lt_of_le_of_lt (Int.natAbs_ediv_le_natAbs y _) (h y hy)
theorem SzL.mix {b1 b2 bv bw : Nat} {one other : List Int} {v w : Int} (h1 : SzL b1 one) (h2 : SzL b2 other) (hv : Sz bv v) (hw : Sz bw w) : SzL (max (b1 + bw) (b2 + bv) + 1) (mixL one v other w) := by
  intro x hx
  unfold mixL at hx
  obtain ⟨i, hi, e⟩ := List.getElem_of_mem hx
  rw [List.getElem_zipWith] at e
  subst e
  exact Sz.sub (Sz.mul (h1 _ (List.getElem_mem _)) hw) (Sz.mul (h2 _ (List.getElem_mem _)) hv)
theorem SzL.off {b1 b2 bv bw : Nat} {one other : List Int} {v w : Int} (h1 : SzL b1 one) (h2 : SzL b2 other) (hv : Sz bv v) (hw : Sz bw w) : SzL (max (b1 + bw) (b2 + bv) + 1) (offL one v other w) := (SzL.mix h1 h2 hv hw).low
theorem SzL.sgn {b : Nat} {r : List Int} (h : SzL b r) (a : Nat) : SzL b (sgnL r a) := by
  unfold sgnL
  split
  · exact h
  · intro x hx
    obtain ⟨y, hy, rfl⟩ := List.mem_map.mp hx
    exact (h y hy).neg
theorem SzL.clr {b : Nat} {row lead : List Int} (h1 : SzL b row) (h2 : SzL b lead) (a : Nat) : SzL (2 * b + 1) (clrL lead a row) := by
  unfold clrL
  split
  · exact h1.mono (by omega)
  · exact (SzL.off h1 h2 (h1.nth a) (h2.nth a)).mono (by omega)
theorem plainStep_sz {b a : Nat} {left done : List (List Int)} (h1 : SzLL b left) (h2 : SzLL b done) : SzLL (2 * b + 1) (plainStep (left, done) a).1 ∧ SzLL (2 * b + 1) (plainStep (left, done) a).2 := by
  unfold plainStep
  dsimp only
  split
  · exact ⟨h1.mono (by omega), h2.mono (by omega)⟩
  · rename_i k e
    have k1 := (firstNN_some e).1
    rw [List.length_map] at k1
    have hl : SzL b (sgnL (left.getD k []) a) := SzL.sgn (h1 _ (getD_mem k1)) a
    refine ⟨fun r hr => ?_, fun r hr => ?_⟩
    · obtain ⟨q, hq, rfl⟩ := List.mem_map.mp hr
      exact SzL.clr (h1 q (List.mem_of_mem_eraseIdx hq)) hl a
    · rcases List.mem_append.mp hr with hr | hr
      · obtain ⟨q, hq, rfl⟩ := List.mem_map.mp hr
        exact SzL.clr (h2 q hq) hl a
      · rw [List.mem_singleton.mp hr]; exact hl.mono (by omega)
def grow (b p : Nat) : Nat := 2 ^ p * (b + 1) - 1
theorem grow_zero (b : Nat) : grow b 0 = b := by unfold grow; simp
theorem grow_succ (b p : Nat) : 2 * grow b p + 1 = grow b (p + 1) := by
  unfold grow
  have h : 0 < 2 ^ p * (b + 1) := Nat.mul_pos (Nat.two_pow_pos p) (Nat.succ_pos b)
  have e : 2 ^ (p + 1) * (b + 1) = 2 * (2 ^ p * (b + 1)) := by rw [Nat.pow_succ, Nat.mul_comm (2 ^ p) 2, Nat.mul_assoc]
  rw [e]
  omega
theorem plainStep_len {a : Nat} {left done : List (List Int)} : ((plainStep (left, done) a) = (left, done)) ∨ (plainStep (left, done) a).2.length = done.length + 1 := by
  unfold plainStep
  dsimp only
  split
  · exact .inl rfl
  · exact .inr (by simp)
structure PSz (n b a : Nat) (rows : List (List Int)) (left done : List (List Int)) : Prop where
  eq : (List.range a).foldl plainStep (rows.map low, []) = (left, done)
  ll : ∀ r ∈ left, r.length = n
  dl : ∀ r ∈ done, r.length = n
  cnt : left.length + done.length = rows.length
  ls : SzLL (grow b done.length) left
  ds : SzLL (grow b done.length) done
theorem PSz.start {n b : Nat} {rows : List (List Int)} (hl : ∀ r ∈ rows, r.length = n) (hs : SzLL b rows) : PSz n b 0 rows (rows.map low) [] := by
  refine ⟨rfl, fun r hr => ?_, by simp, by simp, fun r hr => ?_, fun r hr => by cases hr⟩
  · obtain ⟨q, hq, rfl⟩ := List.mem_map.mp hr
    rw [low_length]; exact hl q hq
  · obtain ⟨q, hq, rfl⟩ := List.mem_map.mp hr
    rw [List.length_nil, grow_zero]
    exact (hs q hq).low
theorem PSz.step {n b a : Nat} {rows left done : List (List Int)} (h : PSz n b a rows left done) (hl : ∀ r ∈ rows, r.length = n) (ha : a < n) : PSz n b (a + 1) rows (plainStep (left, done) a).1 (plainStep (left, done) a).2 := by
  have eq' : (List.range (a + 1)).foldl plainStep (rows.map low, []) = plainStep (left, done) a := by
    rw [List.range_succ, List.foldl_append, h.eq]; rfl
  obtain ⟨l', P', e, s, c, _⟩ := steps_ok (n := n) (left := rows.map low) (fun r hr => by
    obtain ⟨q, hq, rfl⟩ := List.mem_map.mp hr
    rw [low_length]; exact hl q hq) (fun r hr => by
    obtain ⟨q, hq, rfl⟩ := List.mem_map.mp hr
    exact low_lowd q) (a + 1) (by omega)
  rw [eq'] at e
  refine ⟨eq', fun r hr => ?_, fun r hr => ?_, ?_, ?_, ?_⟩
  · rw [e] at hr; exact s.ll r hr
  · rw [e] at hr
    obtain ⟨p, hp, rfl⟩ := List.mem_map.mp hr
    exact (s.pl.good p hp).len
  · rw [e]; simp; simpa using c
  · rcases plainStep_len (a := a) (left := left) (done := done) with q | q
    · rw [q]; exact h.ls
    · rw [q, ← grow_succ]; exact (plainStep_sz h.ls h.ds).1
  · rcases plainStep_len (a := a) (left := left) (done := done) with q | q
    · rw [q]; exact h.ds
    · rw [q, ← grow_succ]; exact (plainStep_sz h.ls h.ds).2
theorem PSz.done {n b : Nat} {rows left done : List (List Int)} (h : PSz n b n rows left done) : plainL rows n = done := by unfold plainL; rw [h.eq]
end M
set_option maxRecDepth 100000
set_option maxHeartbeats 4000000
namespace M
open PySem PySem.Spec PyProof.Rows L2
section
variable {s s1 : S} {d : D}
@[simp] theorem zipI_ev (m : AM) (s : S) : zipI m s = (m s).bind fun x => match x.1 with
  | [.lst as, .lst bs] => .ok ((zipD as bs, none), x.2)
  | _ => .bad := rfl
@[simp] theorem enumerateI_ev (m : AM) (s : S) : enumerateI m s = (m s).bind fun x => match x.1 with
  | [.lst as] => .ok ((enumD as, none), x.2)
  | _ => .bad := rfl
@[simp] theorem strI_ev (m : EM) (s : S) : strI m s = (m s).bind fun x => match x.1 with
  | .str z => .ok ((signsD z, none), x.2)
  | _ => .bad := rfl
@[simp] theorem chainM_ev (f g : Op2) (a b c : EM) (s : S) : chainM f g a b c s = (a s).bind fun x => (b x.2).bind fun y => (f y.2.o x.1 y.1).bind fun z => match z with
  | .bl true => (c y.2).bind fun w => (g w.2.o y.1 w.1).bind fun d => .ok (d, w.2)
  | .bl false => .ok (.bl false, y.2)
  | _ => .bad := rfl
@[simp] theorem callS_ev (n : Nat) (f : FM) (m : AM) (s : S) : callS n f m s = (m s).bind fun x => if x.1.length = n then (match f x.1 x.2.o with
  | .ok (d, O1) => .ok (d, ⟨x.2.r, O1⟩)
  | _ => .bad) else .bad := rfl
@[simp] theorem truM_ev (m : EM) (s : S) : truM m s = (m s).bind fun x => match lsD x.2.o x.1 with
  | some ds => .ok (!ds.isEmpty, x.2)
  | none => .bad := rfl
@[simp] theorem repM_ev (fin : S → List D → Res (D × S)) (ma : AM) (mk : EM) (s : S) : repM fin ma mk s = (ma s).bind fun x => if x.1.length ≤ 16777216 then (mk x.2).bind fun y => match y.1 with
    | .int k => if (-(2 ^ 63) ≤ k ∧ k < 2 ^ 63) ∧ x.1.length * k.toNat ≤ 16777216 then fin y.2 (repL k x.1) else .bad
    | _ => .bad
  else .bad := rfl
@[simp] theorem finF_ev (s : S) (ds : List D) : finF s ds = .ok (.lst ds, s) := rfl
@[simp] theorem finC_ev (s : S) (ds : List D) : finC s ds = .ok (.ptr s.o.length, ⟨s.r, s.o ++ [.lst ds]⟩) := rfl
@[simp] theorem isD_non (O : Store) : isD O .non .non = .ok (.bl true) := rfl
@[simp] theorem isD_int (O : Store) (i : Int) : isD O (.int i) .non = .ok (.bl false) := rfl
@[simp] theorem isD_lst (O : Store) (i : List D) : isD O (.lst i) .non = .ok (.bl false) := rfl
@[simp] theorem isD_tup (O : Store) (i : List D) : isD O (.tup i) .non = .ok (.bl false) := rfl
@[simp] theorem isnotD_non (O : Store) : isnotD O .non .non = .ok (.bl false) := rfl
@[simp] theorem isnotD_int (O : Store) (i : Int) : isnotD O (.int i) .non = .ok (.bl true) := rfl
@[simp] theorem isnotD_lst (O : Store) (i : List D) : isnotD O (.lst i) .non = .ok (.bl true) := rfl
@[simp] theorem isnotD_tup (O : Store) (i : List D) : isnotD O (.tup i) .non = .ok (.bl true) := rfl
@[simp] theorem tupG2_ev (g h : GM) (a b : D) (s : S) : tupG (consG g (consG h nilG)) 2 (.tup [a, b]) s = (g a s).bind fun s1 => h b s1 := by
  show (g a s).bind (fun s1 => (h b s1).bind fun s2 => .ok s2) = _
  congr 1
  funext s1
  cases h b s1 <;> rfl
@[simp] theorem asInts_ints (ns : List Int) : asInts (ns.map D.int) = some ns := by
  induction ns with
  | nil => rfl
  | cons n ns ih => rw [List.map_cons, asInts, ih]; rfl
@[simp] theorem asBools_bls (ns : List Bool) : asBools (ns.map D.bl) = some ns := by
  induction ns with
  | nil => rfl
  | cons n ns ih => rw [List.map_cons, asBools, ih]; rfl
@[simp] theorem sumD_ints (O : Store) (ns : List Int) : sumD O [.lst (ns.map D.int)] = .ok (.int ns.sum) := by
  show (match asInts (ns.map D.int) with
      | some ns => Res.ok (D.int ns.sum)
      | none => .bad) = _
  rw [asInts_ints]
@[simp] theorem allD_bls (O : Store) (ns : List Bool) : allD O [.lst (ns.map D.bl)] = .ok (.bl (ns.all id)) := by
  show (match asBools (ns.map D.bl) with
      | some ns => Res.ok (D.bl (ns.all id))
      | none => .bad) = _
  rw [asBools_bls]
@[simp] theorem anyD_bls (O : Store) (ns : List Bool) : anyD O [.lst (ns.map D.bl)] = .ok (.bl (ns.any id)) := by
  show (match asBools (ns.map D.bl) with
      | some ns => Res.ok (D.bl (ns.any id))
      | none => .bad) = _
  rw [asBools_bls]
end
section
variable {α : Type} {caps : List Nat} {im : IM} {c : TM} {e : EM} {s : S} {k : Option Nat} {l : List α} {item out : α → D} {p : α → Bool}
end
abbrev vI (r : List Int) : D := .lst (r.map .int)
@[simp] theorem pureDs_vI (R : List (List Int)) : pureDs (R.map vI) = true := by
  induction R with
  | nil => rfl
  | cons r R ih => simp [ih]
theorem ix_vI {O : Store} {r : List Int} {i : Nat} (h : i < r.length) : ixD O (vI r) (.int (i : Int)) = .ok (.int (nth r i)) := by
  refine ixD_lst ?_
  rw [atI_ok (by omega) (by simpa using h)]
  simp [nth, List.getD_eq_getElem?_getD, h]
theorem le_line {n : Nat} (h : n ≤ 1000000) : n ≤ 16777216 := Nat.le_trans h (by decide)
theorem setM_eq {m : EM} {i : Nat} {s s' : S} {d : D} (h : m s = .ok (d, s')) : setM i m s = .next ⟨s'.r.set i (some d), s'.o⟩ := by
  show ((m s).bind _).out _ = _
  rw [h]; rfl
theorem retM_eq {m : EM} {s s' : S} {d : D} (h : m s = .ok (d, s')) : retM m s = .ret d s' := by
  show (m s).out _ = _
  rw [h]; rfl
theorem ifS_T {c : TM} {a b : SM} {s s' : S} (h : c s = .ok (true, s')) : ifS c a b s = a s' := by
  show (c s).out _ = _
  rw [h]; rfl
theorem ifS_F {c : TM} {a b : SM} {s s' : S} (h : c s = .ok (false, s')) : ifS c a b s = b s' := by
  show (c s).out _ = _
  rw [h]; rfl
theorem seqM_eq {a b : SM} {s s' : S} (h : a s = .next s') : seqM a b s = b s' := by
  show (a s).then b = _
  rw [h]; rfl
theorem seqM_ret {a b : SM} {s s' : S} {d : D} (h : a s = .ret d s') : seqM a b s = .ret d s' := by
  show (a s).then b = _
  rw [h]; rfl
theorem callP_eq {n : Nat} {f : FM} {ma : AM} {s s' : S} {ds : List D} {d : D} {O : Store} (h : ma s = .ok (ds, s')) (hp : pureDs ds = true) (hl : ds.length = n) (hf : f ds [] = .ok (d, O)) (hd : pureD d = true) : callP n f ma s = .ok (d, s') := by
  rw [callP_ev, h, bind_ok, if_pos ⟨hp, hl⟩]
  dsimp only
  rw [hf]
  dsimp only
  rw [if_pos hd]
theorem callS_eq {n : Nat} {f : FM} {ma : AM} {s s' : S} {ds : List D} {d : D} {O : Store} (h : ma s = .ok (ds, s')) (hl : ds.length = n) (hf : f ds s'.o = .ok (d, O)) : callS n f ma s = .ok (d, ⟨s'.r, O⟩) := by
  rw [callS_ev, h, bind_ok, if_pos hl]
  dsimp only
  rw [hf]
theorem appM_eq {mo me : EM} {s s1 s2 : S} {k : Nat} {ds0 ds : List D} {d : D} (h1 : mo s = .ok (.ptr k, s1)) (c1 : s1.o[k]? = some (.lst ds0)) (h2 : me s1 = .ok (d, s2)) (c2 : s2.o[k]? = some (.lst ds)) (hb : ds.length ≤ 1000000) :
    appM mo me s = .ok (.non, ⟨s2.r, s2.o.set k (.lst (ds ++ [d]))⟩) := by
  rw [appM_ev, h1, bind_ok]
  dsimp only
  rw [celD_ptr c1]
  dsimp only
  rw [h2, bind_ok]
  dsimp only
  rw [celD_ptr c2]
  dsimp only
  rw [if_pos (by omega)]
theorem dropM_eq {m : EM} {s s' : S} {d : D} (h : m s = .ok (d, s')) : dropM m s = .next s' := by
  show (m s).out _ = _
  rw [h]; rfl
theorem frzM_eq {m : EM} {s s' : S} {k : Nat} {ds : List D} (h : m s = .ok (.ptr k, s')) (c : s'.o[k]? = some (.lst ds)) : frzM m s = .ok (.lst ds, ⟨s'.r, s'.o.set k .dead⟩) := by
  rw [frzM_ev, h, bind_ok]
  dsimp only
  rw [celD_ptr c]
theorem sum_sz {b : Nat} : ∀ (l : List Int) (k : Nat), (∀ x ∈ l, x.natAbs < 2 ^ b) → l.length ≤ 2 ^ k → l.sum.natAbs ≤ l.length * 2 ^ b := by
  intro l k h _
  induction l with
  | nil => simp
  | cons a l ih =>
    rw [List.sum_cons, List.length_cons, Nat.succ_mul]
    have h1 := h a List.mem_cons_self
    have h2 := ih (fun x hx => h x (List.mem_cons_of_mem _ hx)) (by simp at *; omega)
    have := Int.natAbs_add_le a l.sum
    omega
theorem dot_sz {b c : Nat} {row l : List Int} (hr : SzL c row) (hl : SzL b l) (hn : row.length ≤ 1000) : Sz (b + c + 10) (dotL row l) := by
  unfold dotL
  have h : ∀ x ∈ List.zipWith (· * ·) row l, x.natAbs < 2 ^ (c + b) := fun x hx => by
    obtain ⟨i, hi, e⟩ := List.getElem_of_mem hx
    rw [List.getElem_zipWith] at e
    subst e
    exact Sz.mul (hr _ (List.getElem_mem _)) (hl _ (List.getElem_mem _))
  have h2 := sum_sz (List.zipWith (· * ·) row l) 10 h (by rw [List.length_zipWith]; simp; omega)
  unfold Sz
  have h3 : (List.zipWith (· * ·) row l).length ≤ 1000 := by rw [List.length_zipWith]; omega
  have h4 : (List.zipWith (· * ·) row l).length * 2 ^ (c + b) ≤ 1000 * 2 ^ (c + b) := Nat.mul_le_mul_right _ h3
  have h5 : 2 ^ (b + c + 10) = 1024 * 2 ^ (c + b) := by rw [Nat.pow_add, Nat.add_comm b c, Nat.mul_comm]
  have h6 : 0 < 2 ^ (c + b) := Nat.two_pow_pos _
  rw [h5]
  omega
theorem callO_eq {n : Nat} {f : FM} {ma : AM} {s s' : S} {ds : List D} {d : D} {O1 : Store} (h : ma s = .ok (ds, s')) (hp : pureDs ds = true) (hl : ds.length = n) (hf : f ds [] = .ok (d, O1)) : callO n f ma s = .ok (shD s'.o.length d, ⟨s'.r, s'.o ++ O1.map (shC s'.o.length)⟩) := by
  rw [callO_ev, h, bind_ok, if_pos ⟨hp, hl⟩]
  dsimp only
  rw [hf]
theorem ix_ptr {O : Store} {k : Nat} {ds : List D} {i : Int} {d : D} (h : O[k]? = some (.lst ds)) (hi : atI ds i = some d) : ixD O (.ptr k) (.int i) = .ok d := by
  show (match lsD O (D.ptr k) with
      | some ds => match atI ds i with
        | some d => Res.ok d
        | none => .bad
      | none => .bad) = _
  rw [lsD_ptr h]
  dsimp only
  rw [hi]
theorem lenD_ptr {O : Store} {k : Nat} {ds : List D} (h : O[k]? = some (.lst ds)) : lenD O [.ptr k] = .ok (.int ds.length) := by
  unfold lenD
  simp only [lsD_ptr h]
theorem eq_test {m : EM} {s s' : S} {i j : Int} (h : m s = .ok (.int i, s')) : tstM (binM eqD m (cstM (.int j))) s = .ok (decide (i = j), s') := by
  rw [tstM_ev, binM_ev, h, bind_ok, cstM_ev, bind_ok, eqD_int, bind_ok, bind_ok]
end M
set_option maxRecDepth 100000
set_option maxHeartbeats 4000000
namespace M
def tk (c e : Nat) : Nat := 2 ^ e * (c + 12) - (c + 11)
theorem tk_ge (c e : Nat) : c + 12 ≤ 2 ^ e * (c + 12) := Nat.le_mul_of_pos_left _ (Nat.two_pow_pos e)
theorem tk_zero (c : Nat) : tk c 0 = 1 := by unfold tk; simp
theorem tk_succ (c e : Nat) : 2 * tk c e + c + 11 = tk c (e + 1) := by
  unfold tk
  have h := tk_ge c e
  have e2 : 2 ^ (e + 1) * (c + 12) = 2 * (2 ^ e * (c + 12)) := by rw [Nat.pow_succ, Nat.mul_comm (2 ^ e) 2, Nat.mul_assoc]
  rw [e2]
  omega
structure StSz (n c : Nat) (R lists : List (List Int)) (e : Nat) : Prop where
  eq : R.foldl stillStep (unitsL n) = lists
  ll : ∀ l ∈ lists, l.length = n
  cnt : lists.length + e = n
  sz : SzLL (tk c e) lists
theorem unit_sz (n a : Nat) : SzL 1 (unitL n a) := by
  intro x hx
  unfold unitL at hx
  rcases List.mem_or_eq_of_mem_set hx with h | h
  · rw [List.eq_of_mem_replicate h]; exact Sz.zero 1
  · rw [h]; unfold Sz; decide
theorem StSz.start (n c : Nat) : StSz n c [] (unitsL n) 0 := by
  refine ⟨rfl, fun l hl => ?_, by unfold unitsL; simp, fun l hl => ?_⟩
  · obtain ⟨a, _, rfl⟩ := List.mem_map.mp hl
    unfold unitL; simp
  · obtain ⟨a, _, rfl⟩ := List.mem_map.mp hl
    rw [tk_zero]; exact unit_sz n a
theorem StSz.step {n c e : Nat} {R lists : List (List Int)} {row : List Int} (h : StSz n c R lists e) (hr : row.length = n) (hs : SzL c row) (hn : n ≤ 1000) : ∃ e', StSz n c (R ++ [row]) (stillStep lists row) e' := by
  have eq' : (R ++ [row]).foldl stillStep (unitsL n) = stillStep lists row := by rw [List.foldl_append, h.eq]; rfl
  unfold stillStep at *
  split
  · rename_i e0
    rw [e0] at eq'
    exact ⟨e, eq', h.ll, h.cnt, h.sz⟩
  · rename_i k e0
    rw [e0] at eq'
    have k1 := (firstNN_some e0).1
    rw [List.length_map] at k1
    have hm := getD_mem k1
    refine ⟨e + 1, eq', fun l hl => ?_, ?_, fun l hl => ?_⟩
    · obtain ⟨q, hq, rfl⟩ := List.mem_map.mp hl
      have hq' := List.mem_of_mem_eraseIdx hq
      rw [offL_length (by rw [h.ll q hq', h.ll _ hm]), h.ll q hq']
    · rw [List.length_map, List.length_eraseIdx_of_lt k1]
      have := h.cnt
      omega
    · obtain ⟨q, hq, rfl⟩ := List.mem_map.mp hl
      have hq' := List.mem_of_mem_eraseIdx hq
      have hz : ∀ l ∈ lists, Sz (tk c e + c + 10) (dotL row l) := fun l h' => dot_sz hs (h.sz l h') (by rw [hr]; exact hn)
      exact (SzL.off (h.sz q hq') (h.sz _ hm) (hz q hq') (hz _ hm)).mono (by rw [← tk_succ]; omega)
end M
set_option maxRecDepth 100000
set_option maxHeartbeats 4000000
namespace M
open PySem PySem.Spec PyProof.Rows L2
end M
set_option maxRecDepth 100000
set_option maxHeartbeats 4000000
namespace M
open PySem PySem.Spec PyProof.Rows L2
end M
set_option maxRecDepth 100000
set_option maxHeartbeats 4000000
namespace M
open PySem PySem.Spec PyProof.Rows L2
end M
set_option maxRecDepth 100000
set_option maxHeartbeats 4000000
namespace M
open PySem PySem.Spec PyProof.Rows L2
section
variable {s s1 s2 : S} {R R' : List (Option D)} {O O' : Store} {d x y : D} {xs ys : List D}
theorem x_bin {f : Op2} {ma mb : EM} (ha : ma s = .ok (x, s1)) (hb : mb s1 = .ok (y, s2)) (hf : f s2.o x y = .ok d) : binM f ma mb s = .ok (d, s2) := by
  rw [binM_ev, ha, bind_ok]; dsimp only; rw [hb, bind_ok]; dsimp only; rw [hf, bind_ok]
theorem x_un {f : Op1} {ma : EM} (ha : ma s = .ok (x, s1)) (hf : f s1.o x = .ok d) : unM f ma s = .ok (d, s1) := by
  rw [unM_ev, ha, bind_ok]; dsimp only; rw [hf, bind_ok]
theorem x_cal {f : OpN} {ma : AM} (ha : ma s = .ok (xs, s1)) (hf : f s1.o xs = .ok d) : calM f ma s = .ok (d, s1) := by
  rw [calM_ev, ha, bind_ok]; dsimp only; rw [hf, bind_ok]
theorem x_cons {m : EM} {r : AM} (ha : m s = .ok (x, s1)) (hb : r s1 = .ok (ys, s2)) : consM m r s = .ok (x :: ys, s2) := by
  rw [consM_ev, ha, bind_ok]; dsimp only; rw [hb, bind_ok]
theorem x_tup {ma : AM} (ha : ma s = .ok (xs, s1)) (hl : xs.length ≤ 16777216) : tupM ma s = .ok (.tup xs, s1) := by
  rw [tupM_ev, ha, bind_ok]; dsimp only; rw [if_pos hl]
theorem x_lst {ma : AM} (ha : ma s = .ok (xs, s1)) (hl : xs.length ≤ 16777216) : lstM ma s = .ok (.lst xs, s1) := by
  rw [lstM_ev, ha, bind_ok]; dsimp only; rw [if_pos hl]
theorem x_lstC {ma : AM} {n : Nat} (ha : ma s = .ok (xs, ⟨R, O⟩)) (hl : xs.length ≤ 16777216) (hn : O.length = n) (hO : O ++ [.lst xs] = O') : lstC ma s = .ok (.ptr n, ⟨R, O'⟩) := by
  rw [lstC_ev, ha, bind_ok]; dsimp only; rw [if_pos hl, hn, hO]
theorem x_tst {m : EM} {b : Bool} (h : m s = .ok (.bl b, s1)) : tstM m s = .ok (b, s1) := by
  rw [tstM_ev, h, bind_ok]
theorem x_not {m : TM} {b : Bool} (h : m s = .ok (b, s1)) : notT m s = .ok (!b, s1) := by
  rw [notT_ev, h, bind_ok]
theorem x_notV {m : EM} {b : Bool} (h : m s = .ok (.bl b, s1)) : notV m s = .ok (.bl (!b), s1) := by
  rw [notV_ev, h, bind_ok]
theorem x_or {a b : TM} {p q : Bool} (h : a s = .ok (p, s1)) (h2 : b s1 = .ok (q, s1)) : orT a b s = .ok (p || q, s1) := by
  rw [orT_ev, h, bind_ok]; dsimp only; cases p
  · rw [if_neg (by decide), h2]; rfl
  · rfl
theorem x_and {a b : TM} {p q : Bool} (h : a s = .ok (p, s1)) (h2 : b s1 = .ok (q, s1)) : andT a b s = .ok (p && q, s1) := by
  rw [andT_ev, h, bind_ok]; dsimp only; cases p
  · rfl
  · rw [if_pos rfl, h2]; rfl
theorem x_andVT {a b : EM} {p : Bool} (h : a s = .ok (.bl p, s1)) (hp : p = true) (h2 : b s1 = .ok (x, s2)) : andV a b s = .ok (x, s2) := by
  subst hp; rw [andV_ev, h, bind_ok]; exact h2
theorem x_ifM {c : TM} {a b : EM} {p : Bool} (h : c s = .ok (p, s1)) (ha : a s1 = .ok (x, s1)) (hb : b s1 = .ok (y, s1)) : ifM c a b s = .ok (if p = true then x else y, s1) := by
  rw [ifM_ev, h, bind_ok]; dsimp only; cases p
  · exact hb
  · exact ha
theorem x_set {m : EM} {i : Nat} (h : m s = .ok (d, ⟨R, O⟩)) (hR : R.set i (some d) = R') : setM i m s = .next ⟨R', O⟩ := by
  subst hR; exact setM_eq h
theorem x_app {mo me : EM} {k : Nat} {ds0 ds : List D} (h1 : mo s = .ok (.ptr k, s1)) (c1 : s1.o[k]? = some (.lst ds0)) (h2 : me s1 = .ok (d, ⟨R, O⟩)) (c2 : O[k]? = some (.lst ds)) (hb : ds.length ≤ 1000000) (hO : O.set k (.lst (ds ++ [d])) = O') : appM mo me s = .ok (.non, ⟨R, O'⟩) := by
  subst hO; exact appM_eq (s2 := ⟨R, O⟩) h1 c1 h2 c2 hb
theorem x_frz {m : EM} {k : Nat} {ds : List D} (h : m s = .ok (.ptr k, ⟨R, O⟩)) (c : O[k]? = some (.lst ds)) (hO : O.set k .dead = O') : frzM m s = .ok (.lst ds, ⟨R, O'⟩) := by
  subst hO; exact frzM_eq h c
theorem x_met0 {f : List D → Option (List D × D)} {mo : EM} {k : Nat} {ds es : List D} (h : mo s = .ok (.ptr k, ⟨R, O⟩)) (hc : O[k]? = some (.lst ds)) (hf : f ds = some (es, d)) (hO : O.set k (.lst es) = O') : met0M f mo s = .ok (d, ⟨R, O'⟩) := by
  subst hO
  unfold met0M
  rw [h, bind_ok]
  dsimp only
  rw [celD_ptr hc]
  dsimp only
  rw [hf]
theorem x_listC {m : EM} {n : Nat} {ds : List D} (h : m s = .ok (x, ⟨R, O⟩)) (hs : seqOf O x = some ds) (hn : O.length = n) (hO : O ++ [.lst ds] = O') : listC m s = .ok (.ptr n, ⟨R, O'⟩) := by
  rw [listC_ev, h, bind_ok]; dsimp only; rw [hs]; dsimp only; rw [hn, hO]
theorem x_fld {c : Nat} {f : Str} {m : EM} {ns : List Str} {ds : List D} (h : m s = .ok (.obj c ns ds, s1)) (hd : getF f ns ds = some d) : fldM c f m s = .ok (d, s1) := by
  rw [fldM_ev, h, bind_ok]
  dsimp only
  rw [if_pos rfl, hd]
theorem x_methO {c n : Nat} {m : Str} {f : FM} {mo : EM} {ma : AM} {ns : List Str} {ds args : List D} {O1 : Store} (ho : mo s = .ok (.obj c ns ds, s1)) (ha : ma s1 = .ok (args, ⟨R, O⟩)) (hf : f (.obj c ns ds :: args) [] = .ok (x, O1)) (hm : m ∉ ns) (hd : pureDs ds = true) (hp : pureDs args = true) (hl : args.length = n) (hx : shD O.length x = y) (hO : O ++ O1.map (shC O.length) = O') :
    methO c m n f mo ma s = .ok (y, ⟨R, O'⟩) := by
  subst hx; subst hO
  exact methO_eq ho hm hd ha hp hl hf
theorem x_methP {c n : Nat} {m : Str} {f : FM} {mo : EM} {ma : AM} {ns : List Str} {ds args : List D} {O1 : Store} (ho : mo s = .ok (.obj c ns ds, s1)) (ha : ma s1 = .ok (args, s2)) (hf : f (.obj c ns ds :: args) [] = .ok (x, O1)) (hm : m ∉ ns) (hd : pureDs ds = true) (hp : pureDs args = true) (hl : args.length = n) (hr : pureD x = true) :
    methP c m n f mo ma s = .ok (x, s2) := methP_eq ho hm hd ha hp hl hf hr
theorem x_callP {n : Nat} {f : FM} {ma : AM} {ds : List D} {O1 : Store} (h : ma s = .ok (ds, s1)) (hf : f ds [] = .ok (d, O1)) (hp : pureDs ds = true) (hl : ds.length = n) (hd : pureD d = true) : callP n f ma s = .ok (d, s1) := callP_eq h hp hl hf hd
theorem x_callO {n : Nat} {f : FM} {ma : AM} {ds : List D} {O1 : Store} (h : ma s = .ok (ds, ⟨R, O⟩)) (hf : f ds [] = .ok (x, O1)) (hp : pureDs ds = true) (hl : ds.length = n) (hx : shD O.length x = y) (hO : O ++ O1.map (shC O.length) = O') : callO n f ma s = .ok (y, ⟨R, O'⟩) := by
  subst hx; subst hO; exact callO_eq h hp hl hf
theorem x_callS {n : Nat} {f : FM} {ma : AM} {ds : List D} {O1 : Store} (h : ma s = .ok (ds, ⟨R, O⟩)) (hf : f ds O = .ok (d, O1)) (hl : ds.length = n) : callS n f ma s = .ok (d, ⟨R, O1⟩) := callS_eq h hl hf
theorem x_ifT {c : TM} {A B : SM} {p : Bool} (h : c s = .ok (p, s1)) (hp : p = true) : ifS c A B s = A s1 := by subst hp; exact ifS_T h
theorem x_ifF {c : TM} {A B : SM} {p : Bool} (h : c s = .ok (p, s1)) (hp : p = false) : ifS c A B s = B s1 := by subst hp; exact ifS_F h
theorem x_noPart (s : S) : noPart s = .ok (none, s) := rfl
theorem x_part {m : EM} {i : Int} (h : m s = .ok (.int i, s1)) : part m s = .ok (some i, s1) := by rw [part_ev, h, bind_ok]
theorem x_sl {me : EM} {ml mh : OM} {lo hi : Option Int} {s3 : S} {ds es : List D} (h : me s = .ok (x, s1)) (hl : ml s1 = .ok (lo, s2)) (hh : mh s2 = .ok (hi, s3)) (hd : lsD s3.o x = some ds) (he : cutD ds lo hi = es) : slM me ml mh s = .ok (.lst es, s3) := by
  rw [slM_ev, h, bind_ok]; dsimp only; rw [hl, bind_ok]; dsimp only; rw [hh, bind_ok]; dsimp only; rw [hd]; dsimp only; rw [he]
theorem x_asg {m : EM} {g : GM} (h : m s = .ok (d, s1)) (hg : g d s1 = .ok s2) : asgM m g s = .next s2 := by
  rw [asgM_ev, h, bind_ok]; dsimp only; rw [hg, out_ok]
theorem x_aug {i : Nat} {f : Op2} {m : EM} (h : binM f (varM i) m s = .ok (d, ⟨R, O⟩)) (hR : R.set i (some d) = R') : augM i f m s = .next ⟨R', O⟩ := by
  subst hR
  rw [augM_ev]; exact x_asg h rfl
theorem x_gname {i : Nat} (hR : R.set i (some d) = R') : nameG i d ⟨R, O⟩ = .ok ⟨R', O⟩ := by subst hR; rfl
theorem x_gtup2 {g h : GM} {a b : D} (h1 : g a s = .ok s1) (h2 : h b s1 = .ok s2) : tupG (consG g (consG h nilG)) 2 (.tup [a, b]) s = .ok s2 := by
  rw [tupG2_ev, h1, bind_ok, h2]
theorem x_gtup3 {g h k : GM} {a b c : D} {s3 : S} (h1 : g a s = .ok s1) (h2 : h b s1 = .ok s2) (h3 : k c s2 = .ok s3) : tupG (consG g (consG h (consG k nilG))) 3 (.tup [a, b, c]) s = .ok s3 := by
  show (g a s).bind (fun s1 => (h b s1).bind fun s2 => (k c s2).bind fun s3 => .ok s3) = _
  rw [h1, bind_ok, h2, bind_ok, h3, bind_ok]
end
theorem pow_10_30 {O : Store} : powD O (.int 10) (.int 30) = .ok (.int 1000000000000000000000000000000) := powD_int (by decide) (by decide) (by decide)
theorem pow_10_25 {O : Store} : powD O (.int 10) (.int 25) = .ok (.int 10000000000000000000000000) := powD_int (by decide) (by decide) (by decide)
theorem pow_10_20 {O : Store} : powD O (.int 10) (.int 20) = .ok (.int 100000000000000000000) := powD_int (by decide) (by decide) (by decide)
theorem pow_2_31 {O : Store} : powD O (.int 2) (.int 31) = .ok (.int 2147483648) := powD_int (by decide) (by decide) (by decide)
section
variable {s s1 : S} {o : Out}
theorem q_seq {a b : SM} (h : a s = .next s1) (k : b s1 = o) : seqM a b s = o := (seqM_eq h).trans k
theorem q_ifT {c : TM} {A B : SM} {p : Bool} (h : c s = .ok (p, s1)) (hp : p = true) (k : A s1 = o) : ifS c A B s = o := (x_ifT h hp).trans k
theorem q_ifF {c : TM} {A B : SM} {p : Bool} (h : c s = .ok (p, s1)) (hp : p = false) (k : B s1 = o) : ifS c A B s = o := (x_ifF h hp).trans k
theorem q_run {n : Nat} {m : SM} {ds : List D} {O O1 : Store} {d : D} {R : List (Option D)} (h : m ⟨ds.map some ++ List.replicate (n - ds.length) none, O⟩ = .ret d ⟨R, O1⟩) : runM n m ds O = .ok (d, O1) := runM_ret h
end
end M
set_option maxRecDepth 100000
set_option maxHeartbeats 4000000
namespace M
open PySem PySem.Spec PyProof.Rows L2
theorem runE_ret {n : Nat} {m : SM} {ds : List D} {O : Store} {d : D} {s : S} (h : m ⟨ds.map some ++ List.replicate (n - ds.length) none, O⟩ = .ret d s) : runE n m ds O = .ok (d, s.o) := by unfold runE; rw [h]
theorem runE_exc {n : Nat} {m : SM} {ds : List D} {O : Store} {c : Nat} {a : D} {s : S} (h : m ⟨ds.map some ++ List.replicate (n - ds.length) none, O⟩ = .exc c a s) : runE n m ds O = .exc c a s := by unfold runE; rw [h]
section
variable {s s1 s2 : S} {c : Nat} {a : D} {o : Out}
theorem q_exc {A B : SM} (h : A s = .exc c a s1) : seqM A B s = .exc c a s1 := by
  show (A s).then B = _
  rw [h]; rfl
theorem x_raise {ma : AM} {xs : List D} (h : ma s = .ok (xs, s1)) (hl : xs.length ≤ 1000) : raiseM c ma s = .exc c .non s1 := by
  unfold raiseM
  rw [h, out_ok]
  dsimp only
  rw [if_pos (le_line (by omega))]
theorem x_dropE {m : EM} (h : m s = .exc c a s1) : dropM m s = .exc c a s1 := by unfold dropM; rw [h]; rfl
theorem x_retE {m : EM} (h : m s = .exc c a s1) : retM m s = .exc c a s1 := by unfold retM; rw [h]; rfl
theorem x_tryE {mb : SM} {hs : Nat → SM} (h : mb s = .exc c a s1) (k : hs c s1 = o) : tryM mb hs s = o := by unfold tryM; rw [h]; exact k
theorem x_exT {sub : Nat → Option Bool} {mb mr : Nat → SM} (h : sub c = some true) (k : mb c s = o) : exM sub mb mr c s = o := by unfold exM; rw [h]; exact k
theorem x_asR {i : Nat} {mb : SM} {d : D} {R : List (Option D)} {O : Store} (h : mb ⟨R.set i (some (.exn c)), O⟩ = .ret d s1) : asM i mb c ⟨R, O⟩ = .ret d s1 := by unfold asM; dsimp only; rw [h]
theorem x_isx {sub : Nat → Option Bool} {m : EM} {b : Bool} (h : m s = .ok (.exn c, s1)) (hs : sub c = some b) : unM (isxD sub) m s = .ok (.bl b, s1) := by
  refine x_un h ?_
  unfold isxD
  dsimp only
  rw [hs]
end
end M
set_option maxRecDepth 100000
set_option maxHeartbeats 4000000
namespace Lk04
open PySem PySem.Spec PyProof.Rows L2 M
def top (i : Nat) : Stmt := PySem.Challenge.pw_modeyard_k04_times_over_under.main.body.getD i (.Pass ⟨0, 0, 0, 0⟩)
abbrev s_is_whole : Stmt := top 4
abbrev s_measure_of_two : Stmt := top 5
abbrev s_ratio : Stmt := top 6
abbrev s_times : Stmt := top 7
abbrev s_over : Stmt := top 8
abbrev s_under : Stmt := top 9
abbrev s_law_signed : Stmt := top 11
abbrev s_law_common : Stmt := top 12
abbrev s_law_whole : Stmt := top 13
abbrev s_law_ratio : Stmt := top 14
abbrev s_law_same : Stmt := top 15
abbrev s_law_drawn : Stmt := top 16
abbrev s_law_refused : Stmt := top 17
abbrev s_law_over : Stmt := top 18
abbrev s_law_less : Stmt := top 19
abbrev s_law : Stmt := top 20
def sx_NoRatio : Nat → Option Bool := fun c => match c with
  | 1 => some true
  | _ => none
def sx_YardError : Nat → Option Bool := fun c => match c with
  | 1 => some true
  | _ => none
def sy_ValueError : Nat → Option Bool := fun c => match c with
  | 1 => some true
  | _ => none
def caK (K : PySem.W.Frag) : Nat → Addr := fun n => match n with
  | 1 => clsAt K "NoRatio"
  | 2 => clsAt K "YardError"
  | _ => 0
noncomputable def m_is_whole : SM :=
 (retM (andV (unM (isiD "int") (varM 0)) (notV (unM (isiD "bool") (varM 0)))))
noncomputable def f_is_whole : FM := runM 1 m_is_whole
noncomputable def b_measure_of_two_1 : SM :=
 (seqM (setM 2 (binM modD (varM 0) (varM 1)))
 (seqM (setM 0 (varM 1))
 (setM 1 (varM 2))))
noncomputable def m_measure_of_two : SM :=
 (seqM (setM 0 (calM absD (consM (varM 0) nilM)))
 (seqM (setM 1 (calM absD (consM (varM 1) nilM)))
 (seqM (whileM (fun s => gcdFuel 1 s) (tstM (binM neD (varM 1) (cstM (.int 0))))
 b_measure_of_two_1)
 (retM (varM 0)))))
noncomputable def f_measure_of_two : FM := runM 3 m_measure_of_two
noncomputable def m_ratio : SM :=
 (seqM (ifS (orT (notT (tstM (callP 1 f_is_whole (consM (varM 0) nilM)))) (notT (tstM (callP 1 f_is_whole (consM (varM 1) nilM)))))
 (raiseM 1 (consM (cstM (.str ("a ratio is made of two whole numbers" : Str))) nilM))
 skipM)
 (seqM (ifS (tstM (binM eqD (varM 1) (cstM (.int 0))))
 (raiseM 1 (consM (cstM (.str ("the bottom of a ratio is not 0" : Str))) nilM))
 skipM)
 (seqM (setM 2 (callP 2 f_measure_of_two (consM (varM 0) (consM (varM 1) nilM))))
 (seqM (ifS (tstM (binM ltD (varM 1) (cstM (.int 0))))
 (setM 2 (unM negD (varM 2)))
 skipM)
 (retM (tupM (consM (binM fdivD (varM 0) (varM 2)) (consM (binM fdivD (varM 1) (varM 2)) nilM))))))))
noncomputable def f_ratio : FM := runE 3 m_ratio
noncomputable def m_times : SM :=
 (retM (callP 2 f_ratio (consM (binM mulD (binM ixD (varM 0) (cstM (.int 0))) (binM ixD (varM 1) (cstM (.int 0)))) (consM (binM mulD (binM ixD (varM 0) (cstM (.int 1))) (binM ixD (varM 1) (cstM (.int 1)))) nilM))))
noncomputable def f_times : FM := runM 2 m_times
noncomputable def m_over : SM :=
 (retM (callX 2 f_ratio (consM (binM mulD (binM ixD (varM 0) (cstM (.int 0))) (binM ixD (varM 1) (cstM (.int 1)))) (consM (binM mulD (binM ixD (varM 0) (cstM (.int 1))) (binM ixD (varM 1) (cstM (.int 0)))) nilM))))
noncomputable def f_over : FM := runE 2 m_over
noncomputable def m_under : SM :=
 (retM (binM ltD (binM mulD (binM ixD (varM 0) (cstM (.int 0))) (binM ixD (varM 1) (cstM (.int 1)))) (binM mulD (binM ixD (varM 1) (cstM (.int 0))) (binM ixD (varM 0) (cstM (.int 1))))))
noncomputable def f_under : FM := runM 2 m_under
noncomputable def m_law_signed : SM :=
 (seqM (ifS (tstM (binM eqD (varM 1) (cstM (.int 0))))
 (retM (binM subD (binM modD (binM fdivD (varM 0) (cstM (.int 4))) (cstM (.int 41))) (cstM (.int 20))))
 skipM)
 (seqM (ifS (tstM (binM eqD (varM 1) (cstM (.int 1))))
 (retM (binM subD (binM modD (binM fdivD (varM 0) (cstM (.int 4))) (cstM (.int 2000001))) (cstM (.int 1000000))))
 skipM)
 (retM (binM addD (binM subD (binM modD (binM fdivD (varM 0) (cstM (.int 4))) (binM subD (binM mulD (cstM (.int 2)) (binM powD (cstM (.int 10)) (cstM (.int 30)))) (cstM (.int 1)))) (binM powD (cstM (.int 10)) (cstM (.int 30)))) (cstM (.int 1))))))
noncomputable def f_law_signed : FM := runM 2 m_law_signed
noncomputable def b_law_common_1 : SM :=
 (seqM (setM 2 (binM modD (varM 0) (varM 1)))
 (seqM (setM 0 (varM 1))
 (setM 1 (varM 2))))
noncomputable def m_law_common : SM :=
 (seqM (setM 0 (calM absD (consM (varM 0) nilM)))
 (seqM (setM 1 (calM absD (consM (varM 1) nilM)))
 (seqM (whileM (fun s => gcdFuel 1 s) (tstM (binM gtD (varM 1) (cstM (.int 0))))
 b_law_common_1)
 (retM (varM 0)))))
noncomputable def f_law_common : FM := runM 3 m_law_common
noncomputable def m_law_whole : SM :=
 (retM (andV (unM (isiD "int") (varM 0)) (notV (unM (isiD "bool") (varM 0)))))
noncomputable def f_law_whole : FM := runM 1 m_law_whole
noncomputable def m_law_ratio : SM :=
 (seqM (setM 2 (callP 2 f_law_common (consM (varM 0) (consM (varM 1) nilM))))
 (seqM (ifS (tstM (binM ltD (varM 1) (cstM (.int 0))))
 (setM 2 (unM negD (varM 2)))
 skipM)
 (retM (tupM (consM (binM fdivD (varM 0) (varM 2)) (consM (binM fdivD (varM 1) (varM 2)) nilM))))))
noncomputable def f_law_ratio : FM := runM 3 m_law_ratio
noncomputable def m_law_same : SM :=
 (seqM (ifS (orT (notT (tstM (unM (isiD "tuple") (varM 0)))) (tstM (binM neD (calM lenD (consM (varM 0) nilM)) (cstM (.int 2)))))
 (retM (cstM (.bl false)))
 skipM)
 (retM (andV (callP 1 f_law_whole (consM (binM ixD (varM 0) (cstM (.int 0))) nilM)) (andV (callP 1 f_law_whole (consM (binM ixD (varM 0) (cstM (.int 1))) nilM)) (binM eqD (varM 0) (varM 1))))))
noncomputable def f_law_same : FM := runM 2 m_law_same
noncomputable def m_law_drawn : SM :=
 (seqM (setM 2 (callP 2 f_law_signed (consM (varM 0) (consM (binM modD (varM 0) (cstM (.int 3))) nilM))))
 (seqM (setM 3 (binM addD (cstM (.int 1)) (binM modD (varM 1) (cstM (.int 12)))))
 (seqM (ifS (tstM (binM eqD (binM modD (binM fdivD (varM 0) (cstM (.int 3))) (cstM (.int 3))) (cstM (.int 1))))
 (setM 3 (binM addD (cstM (.int 1)) (binM modD (varM 1) (binM powD (cstM (.int 10)) (cstM (.int 6))))))
 skipM)
 (seqM (ifS (tstM (binM eqD (binM modD (binM fdivD (varM 0) (cstM (.int 3))) (cstM (.int 3))) (cstM (.int 2))))
 (setM 3 (binM addD (cstM (.int 1)) (binM modD (varM 1) (binM subD (binM powD (cstM (.int 10)) (cstM (.int 30))) (cstM (.int 1))))))
 skipM)
 (retM (callP 2 f_law_ratio (consM (varM 2) (consM (varM 3) nilM))))))))
noncomputable def f_law_drawn : FM := runM 4 m_law_drawn
noncomputable def m_law_refused : SM :=
 (seqM (setM 2 (cstM (.bl false)))
 (seqM (tryM (dropM (callX 2 f_over (consM (varM 0) (consM (varM 1) nilM))))
 (exM sx_NoRatio (fun _ => (setM 2 (cstM (.bl true))))
 noEx))
 (seqM (tryM (dropM (callX 2 f_over (consM (varM 0) (consM (varM 1) nilM))))
 (exM sx_YardError (asM 3 (retM (andV (varM 2) (unM (isxD sy_ValueError) (varM 3)))))
 noEx))
 (retM (cstM (.bl false))))))
noncomputable def f_law_refused : FM := runM 4 m_law_refused
noncomputable def m_law_over : SM :=
 (seqM (ifS (tstM (binM eqD (binM ixD (varM 1) (cstM (.int 0))) (cstM (.int 0))))
 (retM (callP 2 f_law_refused (consM (varM 0) (consM (varM 1) nilM))))
 skipM)
 (retM (callP 2 f_law_same (consM (callP 2 f_over (consM (varM 0) (consM (varM 1) nilM))) (consM (callP 2 f_law_ratio (consM (binM mulD (binM ixD (varM 0) (cstM (.int 0))) (binM ixD (varM 1) (cstM (.int 1)))) (consM (binM mulD (binM ixD (varM 0) (cstM (.int 1))) (binM ixD (varM 1) (cstM (.int 0)))) nilM))) nilM)))))
noncomputable def f_law_over : FM := runM 2 m_law_over
noncomputable def m_law_less : SM :=
 (seqM (setM 2 (callP 2 f_under (consM (varM 0) (consM (varM 1) nilM))))
 (retM (andV (unM (isiD "bool") (varM 2)) (binM eqD (varM 2) (binM ltD (binM mulD (binM ixD (varM 0) (cstM (.int 0))) (binM ixD (varM 1) (cstM (.int 1)))) (binM mulD (binM ixD (varM 1) (cstM (.int 0))) (binM ixD (varM 0) (cstM (.int 1)))))))))
noncomputable def f_law_less : FM := runM 3 m_law_less
noncomputable def b_law_1 : SM :=
 (seqM (setM 3 (binM ixD (varM 1) (binM modD (binM addD (varM 2) (cstM (.int 1))) (calM lenD (consM (varM 1) nilM)))))
 (seqM (setM 4 (callP 2 f_law_drawn (consM (binM ixD (varM 1) (varM 2)) (consM (binM fdivD (varM 3) (cstM (.int 2))) nilM))))
 (seqM (setM 5 (callP 2 f_law_drawn (consM (varM 3) (consM (binM fdivD (binM ixD (varM 1) (varM 2)) (cstM (.int 3))) nilM))))
 (seqM (ifS (tstM (binM eqD (binM modD (binM fdivD (binM ixD (varM 1) (varM 2)) (cstM (.int 9))) (cstM (.int 5))) (cstM (.int 1))))
 (setM 5 (tupM (consM (cstM (.int 0)) (consM (cstM (.int 1)) nilM))))
 skipM)
 (seqM (ifS (tstM (binM eqD (binM modD (binM fdivD (binM ixD (varM 1) (varM 2)) (cstM (.int 9))) (cstM (.int 5))) (cstM (.int 2))))
 (setM 4 (tupM (consM (cstM (.int 0)) (consM (cstM (.int 1)) nilM))))
 skipM)
 (seqM (ifS (tstM (binM eqD (binM modD (binM fdivD (binM ixD (varM 1) (varM 2)) (cstM (.int 9))) (cstM (.int 5))) (cstM (.int 3))))
 (setM 5 (varM 4))
 skipM)
 (seqM (ifS (tstM (binM eqD (binM modD (binM fdivD (binM ixD (varM 1) (varM 2)) (cstM (.int 9))) (cstM (.int 5))) (cstM (.int 4))))
 (seqM (setM 6 (binM addD (cstM (.int 1)) (binM modD (varM 3) (binM subD (binM powD (cstM (.int 10)) (cstM (.int 30))) (cstM (.int 1))))))
 (setM 5 (callP 2 f_law_ratio (consM (binM addD (binM mulD (binM ixD (varM 4) (cstM (.int 0))) (varM 6)) (binM ixD (varM 4) (cstM (.int 1)))) (consM (binM mulD (binM ixD (varM 4) (cstM (.int 1))) (varM 6)) nilM)))))
 skipM)
 (seqM (ifS (notT (tstM (callP 2 f_law_same (consM (callP 2 f_times (consM (varM 4) (consM (varM 5) nilM))) (consM (callP 2 f_law_ratio (consM (binM mulD (binM ixD (varM 4) (cstM (.int 0))) (binM ixD (varM 5) (cstM (.int 0)))) (consM (binM mulD (binM ixD (varM 4) (cstM (.int 1))) (binM ixD (varM 5) (cstM (.int 1)))) nilM))) nilM)))))
 (retM (cstM (.bl false)))
 skipM)
 (seqM (ifS (orT (notT (tstM (callP 2 f_law_over (consM (varM 4) (consM (varM 5) nilM))))) (notT (tstM (callP 2 f_law_over (consM (varM 5) (consM (varM 4) nilM))))))
 (retM (cstM (.bl false)))
 skipM)
 (ifS (orT (notT (tstM (callP 2 f_law_less (consM (varM 4) (consM (varM 5) nilM))))) (orT (notT (tstM (callP 2 f_law_less (consM (varM 5) (consM (varM 4) nilM))))) (notT (tstM (callP 2 f_law_less (consM (varM 4) (consM (varM 4) nilM)))))))
 (retM (cstM (.bl false)))
 skipM))))))))))
noncomputable def m_law : SM :=
 (seqM (setM 1 (slM (varM 0) noPart (part (cstM (.int 40)))))
 (seqM (forS (rng1 (consM (calM lenD (consM (varM 1) nilM)) nilM)) (nameG 2)
 b_law_1)
 (retM (cstM (.bl true)))))
noncomputable def f_law : FM := runM 7 m_law
end Lk04
set_option maxRecDepth 100000
set_option maxHeartbeats 4000000
namespace Lk04
open PySem PySem.Spec PyProof.Rows L2 M
section
variable {P : Program} {w : World} {K : PySem.W.Frag} {mg : Str → Option Value} {base : Heap} {ca : Nat → Addr}
theorem sc_is_whole : FnScope ["value"] ["value"] (defScope s_is_whole) := ⟨rfl, rfl, rfl, by decide +kernel, rfl, by decide +kernel, by decide +kernel⟩
theorem ok_is_whole {a : Addr} {fd : FuncData} (F : Fun K "is_whole" "is_whole" s_is_whole a fd) (hm : mg "is_whole" = some (.ref a)) (hpt : P.given.tree = none) (n_isinstance : mg "isinstance" = none) (n_int : mg "int" = none) (n_bool : mg "bool" = none) : DefAt P w K mg base ca 35 "is_whole" ["value"] f_is_whole a fd := by
  refine ⟨def_ok F sc_is_whole rfl fun cdv A outer s H E hr => ?_, hm, F.kp, F.binds fun _ _ _ _ _ _ us hl => match us, hl with | [_], _ => rfl⟩
  have hu := hr.units
  have hdp := dp_of hr (by decide)
  exact ⟨_, (pss_one (ps_ret (pe_and (pe_callB call_isi rfl n_isinstance Boot.«isinstance» (pa_cons (pv 0) (pa_cons (pe_bltn (v := .ty "int") rfl n_int Boot.«int» rfl) pa_nil))) (pe_one (pe_not (pe_callB call_isi rfl n_isinstance Boot.«isinstance» (pa_cons (pv 0) (pa_cons (pe_bltn (v := .ty "bool") rfl n_bool Boot.«bool» rfl) pa_nil)))))))),
   (rd_ret (rd_andV (rd_isi ty_int (rd_var 0)) (rd_notV (rd_isi ty_bool (rd_var 0)))))⟩
theorem sc_measure_of_two : FnScope ["one", "other", "rest"] ["one", "other"] (defScope s_measure_of_two) := ⟨rfl, rfl, rfl, by decide +kernel, rfl, by decide +kernel, by decide +kernel⟩
theorem ok_measure_of_two {a : Addr} {fd : FuncData} (F : Fun K "measure_of_two" "measure_of_two" s_measure_of_two a fd) (hm : mg "measure_of_two" = some (.ref a)) (hpt : P.given.tree = none) (n_abs : mg "abs" = none) : DefAt P w K mg base ca 35 "measure_of_two" ["one", "other"] f_measure_of_two a fd := by
  refine ⟨def_ok F sc_measure_of_two rfl fun cdv A outer s H E hr => ?_, hm, F.kp, F.binds fun _ _ _ _ _ _ us hl => match us, hl with | [_, _], _ => rfl⟩
  have hu := hr.units
  have hdp := dp_of hr (by decide)
  exact ⟨_, (pss_cons (ps_set (i := 0) sc_measure_of_two.nd rfl (Or.inl rfl) (pe_callB call_abs rfl n_abs Boot.«abs» (pa_cons (pv 0) pa_nil)))
 (pss_cons (ps_set (i := 1) sc_measure_of_two.nd rfl (Or.inl rfl) (pe_callB call_abs rfl n_abs Boot.«abs» (pa_cons (pv 1) pa_nil)))
 (pss_cons (ps_while PassesOwn.never (pt_cmpR (o_ne hu) (pv 1) pe_int (nomark _))
 (pss_cons (ps_set (i := 2) sc_measure_of_two.nd rfl (Or.inl rfl) (pe_op op_modN (pv 0) (pv 1)))
 (pss_cons (ps_set (i := 0) sc_measure_of_two.nd rfl (Or.inl rfl) (pv 1))
 (pss_one (ps_set (i := 1) sc_measure_of_two.nd rfl (Or.inl rfl) (pv 2))))))
 (pss_one (ps_ret (pv 0)))))),
   (rd_seq (rd_set (rd_callB rd_abs (rd_cons (rd_var 0) rd_nil)))
 (rd_seq (rd_set (rd_callB rd_abs (rd_cons (rd_var 1) rd_nil)))
 (rd_seq (rd_while (rd_tst (rd_bin rd_ne (rd_var 1) (rd_int 0)))
 (rd_seq (rd_set (rd_bin rd_mod (rd_var 0) (rd_var 1)))
 (rd_seq (rd_set (rd_var 1))
 (rd_set (rd_var 2)))))
 (rd_ret (rd_var 0)))))⟩
theorem sc_ratio : FnScope ["top", "bottom", "common"] ["top", "bottom"] (defScope s_ratio) := ⟨rfl, rfl, rfl, by decide +kernel, rfl, by decide +kernel, by decide +kernel⟩
theorem ok_ratio {a : Addr} {fd : FuncData} (F : Fun K "ratio" "ratio" s_ratio a fd) (hm : mg "ratio" = some (.ref a)) (hpt : P.given.tree = none) (xq_NoRatio : PySem.W.excIn K (ca 1) bmV "ValueError.__new__" = true) (xm_NoRatio : mg "NoRatio" = some (.ref (ca 1))) (D_is_whole : DefIn P w K mg base ca 35 "is_whole" ["value"] f_is_whole) (D_measure_of_two : DefIn P w K mg base ca 35 "measure_of_two" ["one", "other"] f_measure_of_two) : DefAt P w K mg base ca 36 "ratio" ["top", "bottom"] f_ratio a fd := by
  obtain ⟨a_is_whole, fd_is_whole, G_is_whole, m_is_whole, k_is_whole, b_is_whole⟩ := D_is_whole
  obtain ⟨a_measure_of_two, fd_measure_of_two, G_measure_of_two, m_measure_of_two, k_measure_of_two, b_measure_of_two⟩ := D_measure_of_two
  refine ⟨def_okE F sc_ratio rfl fun cdv A outer s H E hr => ?_, hm, F.kp, F.binds fun _ _ _ _ _ _ us hl => match us, hl with | [_, _], _ => rfl⟩
  have hu := hr.units
  have hdp := dp_of hr (by decide)
  exact ⟨_, (pss_cons (ps_if (PW.pt (pw_or (pt_not (pt_val (pe_call G_is_whole (hr.mono (by decide)) rfl m_is_whole k_is_whole b_is_whole .nil passN (pa_cons (pv 0) pa_nil)))) (pw_or1 (pt_not (pt_val (pe_call G_is_whole (hr.mono (by decide)) rfl m_is_whole k_is_whole b_is_whole .nil passN (pa_cons (pv 1) pa_nil)))))))
 (pss_one (ps_raise raiseE xq_NoRatio PySem.F.excBase_ValueError rfl rfl xm_NoRatio (pa_cons pe_str pa_nil)))
 pss_nil)
 (pss_cons (ps_if (pt_cmpR (o_eq hu) (pv 1) pe_int (nomark _))
 (pss_one (ps_raise raiseE xq_NoRatio PySem.F.excBase_ValueError rfl rfl xm_NoRatio (pa_cons pe_str pa_nil)))
 pss_nil)
 (pss_cons (ps_set (i := 2) sc_ratio.nd rfl (Or.inl rfl) (pe_call G_measure_of_two (hr.mono (by decide)) rfl m_measure_of_two k_measure_of_two b_measure_of_two .nil passN (pa_cons (pv 0) (pa_cons (pv 1) pa_nil))))
 (pss_cons (ps_if (pt_cmpR op_lt (pv 1) pe_int (nomark _))
 (pss_one (ps_set (i := 2) sc_ratio.nd rfl (Or.inl rfl) (pe_un un_neg (pv 2))))
 pss_nil)
 (pss_one (ps_ret (pe_tup (pa_cons (pe_op (o_fdiv hdp hpt ⟨_, _, rfl, rfl, rfl, rfl, rfl⟩) (pv 0) (pv 2)) (pa_cons (pe_op (o_fdiv hdp hpt ⟨_, _, rfl, rfl, rfl, rfl, rfl⟩) (pv 1) (pv 2)) pa_nil))))))))),
   (rd_seq (rd_if (rd_or (rd_not (rd_tB (rd_callP (n := 1) (f := f_is_whole) (rd_cons (rd_var 0) rd_nil)))) (rd_not (rd_tB (rd_callP (n := 1) (f := f_is_whole) (rd_cons (rd_var 1) rd_nil)))))
 (rd_raise (c := 1) wok_E (rd_cons (rd_str ("a ratio is made of two whole numbers" : Str)) rd_nil))
 rd_next)
 (rd_seq (rd_if (rd_tst (rd_bin rd_eq (rd_var 1) (rd_int 0)))
 (rd_raise (c := 1) wok_E (rd_cons (rd_str ("the bottom of a ratio is not 0" : Str)) rd_nil))
 rd_next)
 (rd_seq (rd_set (rd_callP (n := 2) (f := f_measure_of_two) (rd_cons (rd_var 0) (rd_cons (rd_var 1) rd_nil))))
 (rd_seq (rd_if (rd_tst (rd_bin rd_lt (rd_var 1) (rd_int 0)))
 (rd_set (rd_un rd_neg (rd_var 2)))
 rd_next)
 (rd_ret (rd_tup (rd_cons (rd_bin rd_fdiv (rd_var 0) (rd_var 2)) (rd_cons (rd_bin rd_fdiv (rd_var 1) (rd_var 2)) rd_nil))))))))⟩
theorem sc_times : FnScope ["one", "other"] ["one", "other"] (defScope s_times) := ⟨rfl, rfl, rfl, by decide +kernel, rfl, by decide +kernel, by decide +kernel⟩
theorem ok_times {a : Addr} {fd : FuncData} (F : Fun K "times" "times" s_times a fd) (hm : mg "times" = some (.ref a)) (hpt : P.given.tree = none) (D_ratio : DefIn P w K mg base ca 36 "ratio" ["top", "bottom"] f_ratio) : DefAt P w K mg base ca 37 "times" ["one", "other"] f_times a fd := by
  obtain ⟨a_ratio, fd_ratio, G_ratio, m_ratio, k_ratio, b_ratio⟩ := D_ratio
  refine ⟨def_ok F sc_times rfl fun cdv A outer s H E hr => ?_, hm, F.kp, F.binds fun _ _ _ _ _ _ us hl => match us, hl with | [_, _], _ => rfl⟩
  have hu := hr.units
  have hdp := dp_of hr (by decide)
  exact ⟨_, (pss_one (ps_ret (pe_call G_ratio (hr.mono (by decide)) rfl m_ratio k_ratio b_ratio .nil passN (pa_cons (pe_op o_mul (pe_ix ix_seq (pv 0) pe_int (fun _ _ => rfl)) (pe_ix ix_seq (pv 1) pe_int (fun _ _ => rfl))) (pa_cons (pe_op o_mul (pe_ix ix_seq (pv 0) pe_int (fun _ _ => rfl)) (pe_ix ix_seq (pv 1) pe_int (fun _ _ => rfl))) pa_nil))))),
   (rd_ret (rd_callP (n := 2) (f := f_ratio) (rd_cons (rd_bin rd_mul (rd_bin rd_ix (rd_var 0) (rd_int 0)) (rd_bin rd_ix (rd_var 1) (rd_int 0))) (rd_cons (rd_bin rd_mul (rd_bin rd_ix (rd_var 0) (rd_int 1)) (rd_bin rd_ix (rd_var 1) (rd_int 1))) rd_nil))))⟩
theorem sc_over : FnScope ["one", "other"] ["one", "other"] (defScope s_over) := ⟨rfl, rfl, rfl, by decide +kernel, rfl, by decide +kernel, by decide +kernel⟩
theorem ok_over {a : Addr} {fd : FuncData} (F : Fun K "over" "over" s_over a fd) (hm : mg "over" = some (.ref a)) (hpt : P.given.tree = none) (D_ratio : DefIn P w K mg base ca 36 "ratio" ["top", "bottom"] f_ratio) : DefAt P w K mg base ca 37 "over" ["one", "other"] f_over a fd := by
  obtain ⟨a_ratio, fd_ratio, G_ratio, m_ratio, k_ratio, b_ratio⟩ := D_ratio
  refine ⟨def_okE F sc_over rfl fun cdv A outer s H E hr => ?_, hm, F.kp, F.binds fun _ _ _ _ _ _ us hl => match us, hl with | [_, _], _ => rfl⟩
  have hu := hr.units
  have hdp := dp_of hr (by decide)
  exact ⟨_, (pss_one (ps_ret (pe_callS G_ratio (hr.mono (by decide)) rfl m_ratio k_ratio b_ratio .nil passE.s (pa_cons (pe_op o_mul (pe_ix ix_seq (pv 0) pe_int (fun _ _ => rfl)) (pe_ix ix_seq (pv 1) pe_int (fun _ _ => rfl))) (pa_cons (pe_op o_mul (pe_ix ix_seq (pv 0) pe_int (fun _ _ => rfl)) (pe_ix ix_seq (pv 1) pe_int (fun _ _ => rfl))) pa_nil))))),
   (rd_ret (rd_callX (n := 2) (f := f_ratio) wok_E (rd_cons (rd_bin rd_mul (rd_bin rd_ix (rd_var 0) (rd_int 0)) (rd_bin rd_ix (rd_var 1) (rd_int 1))) (rd_cons (rd_bin rd_mul (rd_bin rd_ix (rd_var 0) (rd_int 1)) (rd_bin rd_ix (rd_var 1) (rd_int 0))) rd_nil))))⟩
theorem sc_under : FnScope ["one", "other"] ["one", "other"] (defScope s_under) := ⟨rfl, rfl, rfl, by decide +kernel, rfl, by decide +kernel, by decide +kernel⟩
theorem ok_under {a : Addr} {fd : FuncData} (F : Fun K "under" "under" s_under a fd) (hm : mg "under" = some (.ref a)) (hpt : P.given.tree = none) : DefAt P w K mg base ca 35 "under" ["one", "other"] f_under a fd := by
  refine ⟨def_ok F sc_under rfl fun cdv A outer s H E hr => ?_, hm, F.kp, F.binds fun _ _ _ _ _ _ us hl => match us, hl with | [_, _], _ => rfl⟩
  have hu := hr.units
  have hdp := dp_of hr (by decide)
  exact ⟨_, (pss_one (ps_ret (pe_cmpR op_lt (pe_op o_mul (pe_ix ix_seq (pv 0) pe_int (fun _ _ => rfl)) (pe_ix ix_seq (pv 1) pe_int (fun _ _ => rfl))) (pe_op o_mul (pe_ix ix_seq (pv 1) pe_int (fun _ _ => rfl)) (pe_ix ix_seq (pv 0) pe_int (fun _ _ => rfl))) (nomark _)))),
   (rd_ret (rd_bin rd_lt (rd_bin rd_mul (rd_bin rd_ix (rd_var 0) (rd_int 0)) (rd_bin rd_ix (rd_var 1) (rd_int 1))) (rd_bin rd_mul (rd_bin rd_ix (rd_var 1) (rd_int 0)) (rd_bin rd_ix (rd_var 0) (rd_int 1)))))⟩
theorem sc_law_signed : FnScope ["_law_cell", "_law_way"] ["_law_cell", "_law_way"] (defScope s_law_signed) := ⟨rfl, rfl, rfl, by decide +kernel, rfl, by decide +kernel, by decide +kernel⟩
theorem ok_law_signed {a : Addr} {fd : FuncData} (F : Fun K "_law_signed" "_law_signed" s_law_signed a fd) (hm : mg "_law_signed" = some (.ref a)) (hpt : P.given.tree = none) : DefAt P w K mg base ca 35 "_law_signed" ["_law_cell", "_law_way"] f_law_signed a fd := by
  refine ⟨def_ok F sc_law_signed rfl fun cdv A outer s H E hr => ?_, hm, F.kp, F.binds fun _ _ _ _ _ _ us hl => match us, hl with | [_, _], _ => rfl⟩
  have hu := hr.units
  have hdp := dp_of hr (by decide)
  exact ⟨_, (pss_cons (ps_if (pt_cmpR (o_eq hu) (pv 1) pe_int (nomark _))
 (pss_one (ps_ret (pe_op op_sub (pe_op op_modN (pe_op (o_fdiv hdp hpt ⟨_, _, rfl, rfl, rfl, rfl, rfl⟩) (pv 0) pe_int) pe_int) pe_int)))
 pss_nil)
 (pss_cons (ps_if (pt_cmpR (o_eq hu) (pv 1) pe_int (nomark _))
 (pss_one (ps_ret (pe_op op_sub (pe_op op_modN (pe_op (o_fdiv hdp hpt ⟨_, _, rfl, rfl, rfl, rfl, rfl⟩) (pv 0) pe_int) pe_int) pe_int)))
 pss_nil)
 (pss_one (ps_ret (pe_op o_add (pe_op op_sub (pe_op op_modN (pe_op (o_fdiv hdp hpt ⟨_, _, rfl, rfl, rfl, rfl, rfl⟩) (pv 0) pe_int) (pe_op op_sub (pe_op o_mul pe_int (pe_op op_pow pe_int pe_int)) pe_int)) (pe_op op_pow pe_int pe_int)) pe_int))))),
   (rd_seq (rd_if (rd_tst (rd_bin rd_eq (rd_var 1) (rd_int 0)))
 (rd_ret (rd_bin rd_sub (rd_bin rd_mod (rd_bin rd_fdiv (rd_var 0) (rd_int 4)) (rd_int 41)) (rd_int 20)))
 rd_next)
 (rd_seq (rd_if (rd_tst (rd_bin rd_eq (rd_var 1) (rd_int 1)))
 (rd_ret (rd_bin rd_sub (rd_bin rd_mod (rd_bin rd_fdiv (rd_var 0) (rd_int 4)) (rd_int 2000001)) (rd_int 1000000)))
 rd_next)
 (rd_ret (rd_bin rd_add (rd_bin rd_sub (rd_bin rd_mod (rd_bin rd_fdiv (rd_var 0) (rd_int 4)) (rd_bin rd_sub (rd_bin rd_mul (rd_int 2) (rd_bin rd_pow (rd_int 10) (rd_int 30))) (rd_int 1))) (rd_bin rd_pow (rd_int 10) (rd_int 30))) (rd_int 1)))))⟩
theorem sc_law_common : FnScope ["_law_one", "_law_other", "_law_rest"] ["_law_one", "_law_other"] (defScope s_law_common) := ⟨rfl, rfl, rfl, by decide +kernel, rfl, by decide +kernel, by decide +kernel⟩
theorem ok_law_common {a : Addr} {fd : FuncData} (F : Fun K "_law_common" "_law_common" s_law_common a fd) (hm : mg "_law_common" = some (.ref a)) (hpt : P.given.tree = none) (n_abs : mg "abs" = none) : DefAt P w K mg base ca 35 "_law_common" ["_law_one", "_law_other"] f_law_common a fd := by
  refine ⟨def_ok F sc_law_common rfl fun cdv A outer s H E hr => ?_, hm, F.kp, F.binds fun _ _ _ _ _ _ us hl => match us, hl with | [_, _], _ => rfl⟩
  have hu := hr.units
  have hdp := dp_of hr (by decide)
  exact ⟨_, (pss_cons (ps_set (i := 0) sc_law_common.nd rfl (Or.inl rfl) (pe_callB call_abs rfl n_abs Boot.«abs» (pa_cons (pv 0) pa_nil)))
 (pss_cons (ps_set (i := 1) sc_law_common.nd rfl (Or.inl rfl) (pe_callB call_abs rfl n_abs Boot.«abs» (pa_cons (pv 1) pa_nil)))
 (pss_cons (ps_while PassesOwn.never (pt_cmpR op_gt (pv 1) pe_int (nomark _))
 (pss_cons (ps_set (i := 2) sc_law_common.nd rfl (Or.inl rfl) (pe_op op_modN (pv 0) (pv 1)))
 (pss_cons (ps_set (i := 0) sc_law_common.nd rfl (Or.inl rfl) (pv 1))
 (pss_one (ps_set (i := 1) sc_law_common.nd rfl (Or.inl rfl) (pv 2))))))
 (pss_one (ps_ret (pv 0)))))),
   (rd_seq (rd_set (rd_callB rd_abs (rd_cons (rd_var 0) rd_nil)))
 (rd_seq (rd_set (rd_callB rd_abs (rd_cons (rd_var 1) rd_nil)))
 (rd_seq (rd_while (rd_tst (rd_bin rd_gt (rd_var 1) (rd_int 0)))
 (rd_seq (rd_set (rd_bin rd_mod (rd_var 0) (rd_var 1)))
 (rd_seq (rd_set (rd_var 1))
 (rd_set (rd_var 2)))))
 (rd_ret (rd_var 0)))))⟩
theorem sc_law_whole : FnScope ["_law_found"] ["_law_found"] (defScope s_law_whole) := ⟨rfl, rfl, rfl, by decide +kernel, rfl, by decide +kernel, by decide +kernel⟩
theorem ok_law_whole {a : Addr} {fd : FuncData} (F : Fun K "_law_whole" "_law_whole" s_law_whole a fd) (hm : mg "_law_whole" = some (.ref a)) (hpt : P.given.tree = none) (n_isinstance : mg "isinstance" = none) (n_int : mg "int" = none) (n_bool : mg "bool" = none) : DefAt P w K mg base ca 35 "_law_whole" ["_law_found"] f_law_whole a fd := by
  refine ⟨def_ok F sc_law_whole rfl fun cdv A outer s H E hr => ?_, hm, F.kp, F.binds fun _ _ _ _ _ _ us hl => match us, hl with | [_], _ => rfl⟩
  have hu := hr.units
  have hdp := dp_of hr (by decide)
  exact ⟨_, (pss_one (ps_ret (pe_and (pe_callB call_isi rfl n_isinstance Boot.«isinstance» (pa_cons (pv 0) (pa_cons (pe_bltn (v := .ty "int") rfl n_int Boot.«int» rfl) pa_nil))) (pe_one (pe_not (pe_callB call_isi rfl n_isinstance Boot.«isinstance» (pa_cons (pv 0) (pa_cons (pe_bltn (v := .ty "bool") rfl n_bool Boot.«bool» rfl) pa_nil)))))))),
   (rd_ret (rd_andV (rd_isi ty_int (rd_var 0)) (rd_notV (rd_isi ty_bool (rd_var 0)))))⟩
theorem sc_law_ratio : FnScope ["_law_top", "_law_bottom", "_law_common_here"] ["_law_top", "_law_bottom"] (defScope s_law_ratio) := ⟨rfl, rfl, rfl, by decide +kernel, rfl, by decide +kernel, by decide +kernel⟩
theorem ok_law_ratio {a : Addr} {fd : FuncData} (F : Fun K "_law_ratio" "_law_ratio" s_law_ratio a fd) (hm : mg "_law_ratio" = some (.ref a)) (hpt : P.given.tree = none) (D_law_common : DefIn P w K mg base ca 35 "_law_common" ["_law_one", "_law_other"] f_law_common) : DefAt P w K mg base ca 36 "_law_ratio" ["_law_top", "_law_bottom"] f_law_ratio a fd := by
  obtain ⟨a_law_common, fd_law_common, G_law_common, m_law_common, k_law_common, b_law_common⟩ := D_law_common
  refine ⟨def_ok F sc_law_ratio rfl fun cdv A outer s H E hr => ?_, hm, F.kp, F.binds fun _ _ _ _ _ _ us hl => match us, hl with | [_, _], _ => rfl⟩
  have hu := hr.units
  have hdp := dp_of hr (by decide)
  exact ⟨_, (pss_cons (ps_set (i := 2) sc_law_ratio.nd rfl (Or.inl rfl) (pe_call G_law_common (hr.mono (by decide)) rfl m_law_common k_law_common b_law_common .nil passN (pa_cons (pv 0) (pa_cons (pv 1) pa_nil))))
 (pss_cons (ps_if (pt_cmpR op_lt (pv 1) pe_int (nomark _))
 (pss_one (ps_set (i := 2) sc_law_ratio.nd rfl (Or.inl rfl) (pe_un un_neg (pv 2))))
 pss_nil)
 (pss_one (ps_ret (pe_tup (pa_cons (pe_op (o_fdiv hdp hpt ⟨_, _, rfl, rfl, rfl, rfl, rfl⟩) (pv 0) (pv 2)) (pa_cons (pe_op (o_fdiv hdp hpt ⟨_, _, rfl, rfl, rfl, rfl, rfl⟩) (pv 1) (pv 2)) pa_nil))))))),
   (rd_seq (rd_set (rd_callP (n := 2) (f := f_law_common) (rd_cons (rd_var 0) (rd_cons (rd_var 1) rd_nil))))
 (rd_seq (rd_if (rd_tst (rd_bin rd_lt (rd_var 1) (rd_int 0)))
 (rd_set (rd_un rd_neg (rd_var 2)))
 rd_next)
 (rd_ret (rd_tup (rd_cons (rd_bin rd_fdiv (rd_var 0) (rd_var 2)) (rd_cons (rd_bin rd_fdiv (rd_var 1) (rd_var 2)) rd_nil))))))⟩
theorem sc_law_same : FnScope ["_law_found", "_law_due"] ["_law_found", "_law_due"] (defScope s_law_same) := ⟨rfl, rfl, rfl, by decide +kernel, rfl, by decide +kernel, by decide +kernel⟩
theorem ok_law_same {a : Addr} {fd : FuncData} (F : Fun K "_law_same" "_law_same" s_law_same a fd) (hm : mg "_law_same" = some (.ref a)) (hpt : P.given.tree = none) (n_isinstance : mg "isinstance" = none) (n_tuple : mg "tuple" = none) (n_len : mg "len" = none) (D_law_whole : DefIn P w K mg base ca 35 "_law_whole" ["_law_found"] f_law_whole) : DefAt P w K mg base ca 36 "_law_same" ["_law_found", "_law_due"] f_law_same a fd := by
  obtain ⟨a_law_whole, fd_law_whole, G_law_whole, m_law_whole, k_law_whole, b_law_whole⟩ := D_law_whole
  refine ⟨def_ok F sc_law_same rfl fun cdv A outer s H E hr => ?_, hm, F.kp, F.binds fun _ _ _ _ _ _ us hl => match us, hl with | [_, _], _ => rfl⟩
  have hu := hr.units
  have hdp := dp_of hr (by decide)
  exact ⟨_, (pss_cons (ps_if (PW.pt (pw_or (pt_not (pt_val (pe_callB call_isi rfl n_isinstance Boot.«isinstance» (pa_cons (pv 0) (pa_cons (pe_bltn (v := .ty "tuple") rfl n_tuple Boot.«tuple» rfl) pa_nil))))) (pw_or1 (pt_cmpR (o_ne hu) (pe_callB call_len rfl n_len Boot.«len» (pa_cons (pv 0) pa_nil)) pe_int (nomark _)))))
 (pss_one (ps_ret pe_bl))
 pss_nil)
 (pss_one (ps_ret (pe_and (pe_call G_law_whole (hr.mono (by decide)) rfl m_law_whole k_law_whole b_law_whole .nil passN (pa_cons (pe_ix ix_seq (pv 0) pe_int (fun _ _ => rfl)) pa_nil)) (pe_and (pe_call G_law_whole (hr.mono (by decide)) rfl m_law_whole k_law_whole b_law_whole .nil passN (pa_cons (pe_ix ix_seq (pv 0) pe_int (fun _ _ => rfl)) pa_nil)) (pe_one (pe_cmpR (o_eq hu) (pv 0) (pv 1) (nomark _)))))))),
   (rd_seq (rd_if (rd_or (rd_not (rd_tB (rd_isi ty_tuple (rd_var 0)))) (rd_tst (rd_bin rd_ne (rd_callB rd_len (rd_cons (rd_var 0) rd_nil)) (rd_int 2))))
 (rd_ret (rd_bl false))
 rd_next)
 (rd_ret (rd_andV (rd_callP (n := 1) (f := f_law_whole) (rd_cons (rd_bin rd_ix (rd_var 0) (rd_int 0)) rd_nil)) (rd_andV (rd_callP (n := 1) (f := f_law_whole) (rd_cons (rd_bin rd_ix (rd_var 0) (rd_int 1)) rd_nil)) (rd_bin rd_eq (rd_var 0) (rd_var 1))))))⟩
theorem sc_law_drawn : FnScope ["_law_cell", "_law_other", "_law_top", "_law_bottom"] ["_law_cell", "_law_other"] (defScope s_law_drawn) := ⟨rfl, rfl, rfl, by decide +kernel, rfl, by decide +kernel, by decide +kernel⟩
theorem ok_law_drawn {a : Addr} {fd : FuncData} (F : Fun K "_law_drawn" "_law_drawn" s_law_drawn a fd) (hm : mg "_law_drawn" = some (.ref a)) (hpt : P.given.tree = none) (D_law_signed : DefIn P w K mg base ca 35 "_law_signed" ["_law_cell", "_law_way"] f_law_signed) (D_law_ratio : DefIn P w K mg base ca 36 "_law_ratio" ["_law_top", "_law_bottom"] f_law_ratio) : DefAt P w K mg base ca 37 "_law_drawn" ["_law_cell", "_law_other"] f_law_drawn a fd := by
  obtain ⟨a_law_signed, fd_law_signed, G_law_signed, m_law_signed, k_law_signed, b_law_signed⟩ := D_law_signed
  obtain ⟨a_law_ratio, fd_law_ratio, G_law_ratio, m_law_ratio, k_law_ratio, b_law_ratio⟩ := D_law_ratio
  refine ⟨def_ok F sc_law_drawn rfl fun cdv A outer s H E hr => ?_, hm, F.kp, F.binds fun _ _ _ _ _ _ us hl => match us, hl with | [_, _], _ => rfl⟩
  have hu := hr.units
  have hdp := dp_of hr (by decide)
  exact ⟨_, (pss_cons (ps_set (i := 2) sc_law_drawn.nd rfl (Or.inl rfl) (pe_call G_law_signed (hr.mono (by decide)) rfl m_law_signed k_law_signed b_law_signed .nil passN (pa_cons (pv 0) (pa_cons (pe_op op_modN (pv 0) pe_int) pa_nil))))
 (pss_cons (ps_set (i := 3) sc_law_drawn.nd rfl (Or.inl rfl) (pe_op o_add pe_int (pe_op op_modN (pv 1) pe_int)))
 (pss_cons (ps_if (pt_cmpR (o_eq hu) (pe_op op_modN (pe_op (o_fdiv hdp hpt ⟨_, _, rfl, rfl, rfl, rfl, rfl⟩) (pv 0) pe_int) pe_int) pe_int (nomark _))
 (pss_one (ps_set (i := 3) sc_law_drawn.nd rfl (Or.inl rfl) (pe_op o_add pe_int (pe_op op_modN (pv 1) (pe_op op_pow pe_int pe_int)))))
 pss_nil)
 (pss_cons (ps_if (pt_cmpR (o_eq hu) (pe_op op_modN (pe_op (o_fdiv hdp hpt ⟨_, _, rfl, rfl, rfl, rfl, rfl⟩) (pv 0) pe_int) pe_int) pe_int (nomark _))
 (pss_one (ps_set (i := 3) sc_law_drawn.nd rfl (Or.inl rfl) (pe_op o_add pe_int (pe_op op_modN (pv 1) (pe_op op_sub (pe_op op_pow pe_int pe_int) pe_int)))))
 pss_nil)
 (pss_one (ps_ret (pe_call G_law_ratio (hr.mono (by decide)) rfl m_law_ratio k_law_ratio b_law_ratio .nil passN (pa_cons (pv 2) (pa_cons (pv 3) pa_nil))))))))),
   (rd_seq (rd_set (rd_callP (n := 2) (f := f_law_signed) (rd_cons (rd_var 0) (rd_cons (rd_bin rd_mod (rd_var 0) (rd_int 3)) rd_nil))))
 (rd_seq (rd_set (rd_bin rd_add (rd_int 1) (rd_bin rd_mod (rd_var 1) (rd_int 12))))
 (rd_seq (rd_if (rd_tst (rd_bin rd_eq (rd_bin rd_mod (rd_bin rd_fdiv (rd_var 0) (rd_int 3)) (rd_int 3)) (rd_int 1)))
 (rd_set (rd_bin rd_add (rd_int 1) (rd_bin rd_mod (rd_var 1) (rd_bin rd_pow (rd_int 10) (rd_int 6)))))
 rd_next)
 (rd_seq (rd_if (rd_tst (rd_bin rd_eq (rd_bin rd_mod (rd_bin rd_fdiv (rd_var 0) (rd_int 3)) (rd_int 3)) (rd_int 2)))
 (rd_set (rd_bin rd_add (rd_int 1) (rd_bin rd_mod (rd_var 1) (rd_bin rd_sub (rd_bin rd_pow (rd_int 10) (rd_int 30)) (rd_int 1)))))
 rd_next)
 (rd_ret (rd_callP (n := 2) (f := f_law_ratio) (rd_cons (rd_var 2) (rd_cons (rd_var 3) rd_nil))))))))⟩
theorem sc_law_refused : FnScope ["_law_one", "_law_nought", "_law_by_name", "e"] ["_law_one", "_law_nought"] (defScope s_law_refused) := ⟨rfl, rfl, rfl, by decide +kernel, rfl, by decide +kernel, by decide +kernel⟩
theorem ok_law_refused {a : Addr} {fd : FuncData} (F : Fun K "_law_refused" "_law_refused" s_law_refused a fd) (hm : mg "_law_refused" = some (.ref a)) (hpt : P.given.tree = none) (n_isinstance : mg "isinstance" = none) (n_ValueError : mg "ValueError" = none) (xm_NoRatio : mg "NoRatio" = some (.ref (ca 1))) (ex_NoRatio : ∀ c b, sx_NoRatio c = some b → PySem.W.exmOne K (.ref (ca c)) (.ref (ca 1)) = some b) (xm_YardError : mg "YardError" = some (.ref (ca 2))) (ex_YardError : ∀ c b, sx_YardError c = some b → PySem.W.exmOne K (.ref (ca c)) (.ref (ca 2)) = some b) (iy_ValueError : ∀ c b, sy_ValueError c = some b → ExK K (ca c) ∧ PySem.W.kitOne K (.ref (ca c)) (.type "ValueError") = some b) (D_over : DefIn P w K mg base ca 37 "over" ["one", "other"] f_over) : DefAt P w K mg base ca 38 "_law_refused" ["_law_one", "_law_nought"] f_law_refused a fd := by
  obtain ⟨a_over, fd_over, G_over, m_over, k_over, b_over⟩ := D_over
  refine ⟨def_ok F sc_law_refused rfl fun cdv A outer s H E hr => ?_, hm, F.kp, F.binds fun _ _ _ _ _ _ us hl => match us, hl with | [_, _], _ => rfl⟩
  have hu := hr.units
  have hdp := dp_of hr (by decide)
  exact ⟨_, (pss_cons (ps_set (i := 2) sc_law_refused.nd rfl (Or.inl rfl) pe_bl)
 (pss_cons (ps_try rfl rfl rfl (fun p E1 Es hps => (pss_one (ps_expr (pe_callS G_over (hr.mono (by decide)) rfl m_over k_over b_over .nil hps (pa_cons (pv 0) (pa_cons (pv 1) pa_nil))))))
 (hb_one rfl xm_NoRatio (fun _ _ h => h) (fun v => (pss_one (ps_set (i := 2) sc_law_refused.nd rfl (Or.inl rfl) pe_bl)))
 hb_nil))
 (pss_cons (ps_try rfl rfl rfl (fun p E1 Es hps => (pss_one (ps_expr (pe_callS G_over (hr.mono (by decide)) rfl m_over k_over b_over .nil hps (pa_cons (pv 0) (pa_cons (pv 1) pa_nil))))))
 (hb_as (i := 3) sc_law_refused.nd rfl rfl rfl xm_YardError (fun _ _ h => h) (fun v => (pss_one (ps_ret (pe_and (pv 2) (pe_one (pe_callB call_isx rfl n_isinstance Boot.«isinstance» (pa_cons (pv 3) (pa_cons (pe_bltn (v := .ty "ValueError") rfl n_ValueError (by boot_by_name) rfl) pa_nil))))))))
 hb_nil))
 (pss_one (ps_ret pe_bl))))),
   (rd_seq (rd_set (rd_bl false))
 (rd_seq (rd_try (fun W Es hW => (rd_drop (rd_callX (n := 2) (f := f_over) hW (rd_cons (rd_var 0) (rd_cons (rd_var 1) rd_nil)))))
 (fun c => rd_ex ex_NoRatio (fun c => (rd_set (rd_bl true)))
 rd_noEx c))
 (rd_seq (rd_try (fun W Es hW => (rd_drop (rd_callX (n := 2) (f := f_over) hW (rd_cons (rd_var 0) (rd_cons (rd_var 1) rd_nil)))))
 (fun c => rd_ex ex_YardError (fun c => rd_as (i := 3) (rd_ret (rd_andV (rd_var 2) (rd_isxTy iy_ValueError (rd_var 3)))) c)
 rd_noEx c))
 (rd_ret (rd_bl false)))))⟩
theorem sc_law_over : FnScope ["_law_one", "_law_other"] ["_law_one", "_law_other"] (defScope s_law_over) := ⟨rfl, rfl, rfl, by decide +kernel, rfl, by decide +kernel, by decide +kernel⟩
theorem ok_law_over {a : Addr} {fd : FuncData} (F : Fun K "_law_over" "_law_over" s_law_over a fd) (hm : mg "_law_over" = some (.ref a)) (hpt : P.given.tree = none) (D_law_refused : DefIn P w K mg base ca 38 "_law_refused" ["_law_one", "_law_nought"] f_law_refused) (D_law_same : DefIn P w K mg base ca 36 "_law_same" ["_law_found", "_law_due"] f_law_same) (D_over : DefIn P w K mg base ca 37 "over" ["one", "other"] f_over) (D_law_ratio : DefIn P w K mg base ca 36 "_law_ratio" ["_law_top", "_law_bottom"] f_law_ratio) : DefAt P w K mg base ca 39 "_law_over" ["_law_one", "_law_other"] f_law_over a fd := by
  obtain ⟨a_law_refused, fd_law_refused, G_law_refused, m_law_refused, k_law_refused, b_law_refused⟩ := D_law_refused
  obtain ⟨a_law_same, fd_law_same, G_law_same, m_law_same, k_law_same, b_law_same⟩ := D_law_same
  obtain ⟨a_over, fd_over, G_over, m_over, k_over, b_over⟩ := D_over
  obtain ⟨a_law_ratio, fd_law_ratio, G_law_ratio, m_law_ratio, k_law_ratio, b_law_ratio⟩ := D_law_ratio
  refine ⟨def_ok F sc_law_over rfl fun cdv A outer s H E hr => ?_, hm, F.kp, F.binds fun _ _ _ _ _ _ us hl => match us, hl with | [_, _], _ => rfl⟩
  have hu := hr.units
  have hdp := dp_of hr (by decide)
  exact ⟨_, (pss_cons (ps_if (pt_cmpR (o_eq hu) (pe_ix ix_seq (pv 1) pe_int (fun _ _ => rfl)) pe_int (nomark _))
 (pss_one (ps_ret (pe_call G_law_refused (hr.mono (by decide)) rfl m_law_refused k_law_refused b_law_refused .nil passN (pa_cons (pv 0) (pa_cons (pv 1) pa_nil)))))
 pss_nil)
 (pss_one (ps_ret (pe_call G_law_same (hr.mono (by decide)) rfl m_law_same k_law_same b_law_same .nil passN (pa_cons (pe_call G_over (hr.mono (by decide)) rfl m_over k_over b_over .nil passN (pa_cons (pv 0) (pa_cons (pv 1) pa_nil))) (pa_cons (pe_call G_law_ratio (hr.mono (by decide)) rfl m_law_ratio k_law_ratio b_law_ratio .nil passN (pa_cons (pe_op o_mul (pe_ix ix_seq (pv 0) pe_int (fun _ _ => rfl)) (pe_ix ix_seq (pv 1) pe_int (fun _ _ => rfl))) (pa_cons (pe_op o_mul (pe_ix ix_seq (pv 0) pe_int (fun _ _ => rfl)) (pe_ix ix_seq (pv 1) pe_int (fun _ _ => rfl))) pa_nil))) pa_nil)))))),
   (rd_seq (rd_if (rd_tst (rd_bin rd_eq (rd_bin rd_ix (rd_var 1) (rd_int 0)) (rd_int 0)))
 (rd_ret (rd_callP (n := 2) (f := f_law_refused) (rd_cons (rd_var 0) (rd_cons (rd_var 1) rd_nil))))
 rd_next)
 (rd_ret (rd_callP (n := 2) (f := f_law_same) (rd_cons (rd_callP (n := 2) (f := f_over) (rd_cons (rd_var 0) (rd_cons (rd_var 1) rd_nil))) (rd_cons (rd_callP (n := 2) (f := f_law_ratio) (rd_cons (rd_bin rd_mul (rd_bin rd_ix (rd_var 0) (rd_int 0)) (rd_bin rd_ix (rd_var 1) (rd_int 1))) (rd_cons (rd_bin rd_mul (rd_bin rd_ix (rd_var 0) (rd_int 1)) (rd_bin rd_ix (rd_var 1) (rd_int 0))) rd_nil))) rd_nil)))))⟩
theorem sc_law_less : FnScope ["_law_one", "_law_other", "_law_found"] ["_law_one", "_law_other"] (defScope s_law_less) := ⟨rfl, rfl, rfl, by decide +kernel, rfl, by decide +kernel, by decide +kernel⟩
theorem ok_law_less {a : Addr} {fd : FuncData} (F : Fun K "_law_less" "_law_less" s_law_less a fd) (hm : mg "_law_less" = some (.ref a)) (hpt : P.given.tree = none) (n_isinstance : mg "isinstance" = none) (n_bool : mg "bool" = none) (D_under : DefIn P w K mg base ca 35 "under" ["one", "other"] f_under) : DefAt P w K mg base ca 36 "_law_less" ["_law_one", "_law_other"] f_law_less a fd := by
  obtain ⟨a_under, fd_under, G_under, m_under, k_under, b_under⟩ := D_under
  refine ⟨def_ok F sc_law_less rfl fun cdv A outer s H E hr => ?_, hm, F.kp, F.binds fun _ _ _ _ _ _ us hl => match us, hl with | [_, _], _ => rfl⟩
  have hu := hr.units
  have hdp := dp_of hr (by decide)
  exact ⟨_, (pss_cons (ps_set (i := 2) sc_law_less.nd rfl (Or.inl rfl) (pe_call G_under (hr.mono (by decide)) rfl m_under k_under b_under .nil passN (pa_cons (pv 0) (pa_cons (pv 1) pa_nil))))
 (pss_one (ps_ret (pe_and (pe_callB call_isi rfl n_isinstance Boot.«isinstance» (pa_cons (pv 2) (pa_cons (pe_bltn (v := .ty "bool") rfl n_bool Boot.«bool» rfl) pa_nil))) (pe_one (pe_cmpR (o_eq hu) (pv 2) (pe_cmpR op_lt (pe_op o_mul (pe_ix ix_seq (pv 0) pe_int (fun _ _ => rfl)) (pe_ix ix_seq (pv 1) pe_int (fun _ _ => rfl))) (pe_op o_mul (pe_ix ix_seq (pv 1) pe_int (fun _ _ => rfl)) (pe_ix ix_seq (pv 0) pe_int (fun _ _ => rfl))) (nomark _)) (nomark _))))))),
   (rd_seq (rd_set (rd_callP (n := 2) (f := f_under) (rd_cons (rd_var 0) (rd_cons (rd_var 1) rd_nil))))
 (rd_ret (rd_andV (rd_isi ty_bool (rd_var 2)) (rd_bin rd_eq (rd_var 2) (rd_bin rd_lt (rd_bin rd_mul (rd_bin rd_ix (rd_var 0) (rd_int 0)) (rd_bin rd_ix (rd_var 1) (rd_int 1))) (rd_bin rd_mul (rd_bin rd_ix (rd_var 1) (rd_int 0)) (rd_bin rd_ix (rd_var 0) (rd_int 1))))))))⟩
theorem sc_law : FnScope ["_law_script", "_law_cells", "_law_k", "_law_behind", "_law_one", "_law_other", "_law_near"] ["_law_script"] (defScope s_law) := ⟨rfl, rfl, rfl, by decide +kernel, rfl, by decide +kernel, by decide +kernel⟩
theorem ok_law {a : Addr} {fd : FuncData} (F : Fun K "law" "law" s_law a fd) (hm : mg "law" = some (.ref a)) (hpt : P.given.tree = none) (n_len : mg "len" = none) (n_range : mg "range" = none) (D_law_drawn : DefIn P w K mg base ca 37 "_law_drawn" ["_law_cell", "_law_other"] f_law_drawn) (D_law_ratio : DefIn P w K mg base ca 36 "_law_ratio" ["_law_top", "_law_bottom"] f_law_ratio) (D_law_same : DefIn P w K mg base ca 36 "_law_same" ["_law_found", "_law_due"] f_law_same) (D_times : DefIn P w K mg base ca 37 "times" ["one", "other"] f_times) (D_law_over : DefIn P w K mg base ca 39 "_law_over" ["_law_one", "_law_other"] f_law_over) (D_law_less : DefIn P w K mg base ca 36 "_law_less" ["_law_one", "_law_other"] f_law_less) : DefAt P w K mg base ca 40 "law" ["_law_script"] f_law a fd := by
  obtain ⟨a_law_drawn, fd_law_drawn, G_law_drawn, m_law_drawn, k_law_drawn, b_law_drawn⟩ := D_law_drawn
  obtain ⟨a_law_ratio, fd_law_ratio, G_law_ratio, m_law_ratio, k_law_ratio, b_law_ratio⟩ := D_law_ratio
  obtain ⟨a_law_same, fd_law_same, G_law_same, m_law_same, k_law_same, b_law_same⟩ := D_law_same
  obtain ⟨a_times, fd_times, G_times, m_times, k_times, b_times⟩ := D_times
  obtain ⟨a_law_over, fd_law_over, G_law_over, m_law_over, k_law_over, b_law_over⟩ := D_law_over
  obtain ⟨a_law_less, fd_law_less, G_law_less, m_law_less, k_law_less, b_law_less⟩ := D_law_less
  refine ⟨def_ok F sc_law rfl fun cdv A outer s H E hr => ?_, hm, F.kp, F.binds fun _ _ _ _ _ _ us hl => match us, hl with | [_], _ => rfl⟩
  have hu := hr.units
  have hdp := dp_of hr (by decide)
  exact ⟨_, (pss_cons (ps_set (i := 1) sc_law.nd rfl (Or.inl rfl) (pe_slice sl_list (pv 0) po_none (po_some pe_int)))
 (pss_cons (ps_for PassesOwn.never rfl (pi_range1 rfl n_range (pa_cons (pe_callB call_len rfl n_len Boot.«len» (pa_cons (pv 1) pa_nil)) pa_nil)) (pg_name (i := 2) sc_law.nd rfl (Or.inl rfl))
 (pss_cons (ps_set (i := 3) sc_law.nd rfl (Or.inl rfl) (pe_ix ix_seq (pv 1) (pe_op op_modN (pe_op o_add (pv 2) pe_int) (pe_callB call_len rfl n_len Boot.«len» (pa_cons (pv 1) pa_nil))) (fun _ _ => rfl)))
 (pss_cons (ps_set (i := 4) sc_law.nd rfl (Or.inl rfl) (pe_call G_law_drawn (hr.mono (by decide)) rfl m_law_drawn k_law_drawn b_law_drawn .nil passN (pa_cons (pe_ix ix_seq (pv 1) (pv 2) (fun _ _ => rfl)) (pa_cons (pe_op (o_fdiv hdp hpt ⟨_, _, rfl, rfl, rfl, rfl, rfl⟩) (pv 3) pe_int) pa_nil))))
 (pss_cons (ps_set (i := 5) sc_law.nd rfl (Or.inl rfl) (pe_call G_law_drawn (hr.mono (by decide)) rfl m_law_drawn k_law_drawn b_law_drawn .nil passN (pa_cons (pv 3) (pa_cons (pe_op (o_fdiv hdp hpt ⟨_, _, rfl, rfl, rfl, rfl, rfl⟩) (pe_ix ix_seq (pv 1) (pv 2) (fun _ _ => rfl)) pe_int) pa_nil))))
 (pss_cons (ps_if (pt_cmpR (o_eq hu) (pe_op op_modN (pe_op (o_fdiv hdp hpt ⟨_, _, rfl, rfl, rfl, rfl, rfl⟩) (pe_ix ix_seq (pv 1) (pv 2) (fun _ _ => rfl)) pe_int) pe_int) pe_int (nomark _))
 (pss_one (ps_set (i := 5) sc_law.nd rfl (Or.inl rfl) (pe_tup (pa_cons pe_int (pa_cons pe_int pa_nil)))))
 pss_nil)
 (pss_cons (ps_if (pt_cmpR (o_eq hu) (pe_op op_modN (pe_op (o_fdiv hdp hpt ⟨_, _, rfl, rfl, rfl, rfl, rfl⟩) (pe_ix ix_seq (pv 1) (pv 2) (fun _ _ => rfl)) pe_int) pe_int) pe_int (nomark _))
 (pss_one (ps_set (i := 4) sc_law.nd rfl (Or.inl rfl) (pe_tup (pa_cons pe_int (pa_cons pe_int pa_nil)))))
 pss_nil)
 (pss_cons (ps_if (pt_cmpR (o_eq hu) (pe_op op_modN (pe_op (o_fdiv hdp hpt ⟨_, _, rfl, rfl, rfl, rfl, rfl⟩) (pe_ix ix_seq (pv 1) (pv 2) (fun _ _ => rfl)) pe_int) pe_int) pe_int (nomark _))
 (pss_one (ps_set (i := 5) sc_law.nd rfl (Or.inl rfl) (pv 4)))
 pss_nil)
 (pss_cons (ps_if (pt_cmpR (o_eq hu) (pe_op op_modN (pe_op (o_fdiv hdp hpt ⟨_, _, rfl, rfl, rfl, rfl, rfl⟩) (pe_ix ix_seq (pv 1) (pv 2) (fun _ _ => rfl)) pe_int) pe_int) pe_int (nomark _))
 (pss_cons (ps_set (i := 6) sc_law.nd rfl (Or.inl rfl) (pe_op o_add pe_int (pe_op op_modN (pv 3) (pe_op op_sub (pe_op op_pow pe_int pe_int) pe_int))))
 (pss_one (ps_set (i := 5) sc_law.nd rfl (Or.inl rfl) (pe_call G_law_ratio (hr.mono (by decide)) rfl m_law_ratio k_law_ratio b_law_ratio .nil passN (pa_cons (pe_op o_add (pe_op o_mul (pe_ix ix_seq (pv 4) pe_int (fun _ _ => rfl)) (pv 6)) (pe_ix ix_seq (pv 4) pe_int (fun _ _ => rfl))) (pa_cons (pe_op o_mul (pe_ix ix_seq (pv 4) pe_int (fun _ _ => rfl)) (pv 6)) pa_nil))))))
 pss_nil)
 (pss_cons (ps_if (pt_not (pt_val (pe_call G_law_same (hr.mono (by decide)) rfl m_law_same k_law_same b_law_same .nil passN (pa_cons (pe_call G_times (hr.mono (by decide)) rfl m_times k_times b_times .nil passN (pa_cons (pv 4) (pa_cons (pv 5) pa_nil))) (pa_cons (pe_call G_law_ratio (hr.mono (by decide)) rfl m_law_ratio k_law_ratio b_law_ratio .nil passN (pa_cons (pe_op o_mul (pe_ix ix_seq (pv 4) pe_int (fun _ _ => rfl)) (pe_ix ix_seq (pv 5) pe_int (fun _ _ => rfl))) (pa_cons (pe_op o_mul (pe_ix ix_seq (pv 4) pe_int (fun _ _ => rfl)) (pe_ix ix_seq (pv 5) pe_int (fun _ _ => rfl))) pa_nil))) pa_nil)))))
 (pss_one (ps_ret pe_bl))
 pss_nil)
 (pss_cons (ps_if (PW.pt (pw_or (pt_not (pt_val (pe_call G_law_over (hr.mono (by decide)) rfl m_law_over k_law_over b_law_over .nil passN (pa_cons (pv 4) (pa_cons (pv 5) pa_nil))))) (pw_or1 (pt_not (pt_val (pe_call G_law_over (hr.mono (by decide)) rfl m_law_over k_law_over b_law_over .nil passN (pa_cons (pv 5) (pa_cons (pv 4) pa_nil))))))))
 (pss_one (ps_ret pe_bl))
 pss_nil)
 (pss_one (ps_if (PW.pt (pw_or (pt_not (pt_val (pe_call G_law_less (hr.mono (by decide)) rfl m_law_less k_law_less b_law_less .nil passN (pa_cons (pv 4) (pa_cons (pv 5) pa_nil))))) (pw_or (pt_not (pt_val (pe_call G_law_less (hr.mono (by decide)) rfl m_law_less k_law_less b_law_less .nil passN (pa_cons (pv 5) (pa_cons (pv 4) pa_nil))))) (pw_or1 (pt_not (pt_val (pe_call G_law_less (hr.mono (by decide)) rfl m_law_less k_law_less b_law_less .nil passN (pa_cons (pv 4) (pa_cons (pv 4) pa_nil)))))))))
 (pss_one (ps_ret pe_bl))
 pss_nil))))))))))))
 (pss_one (ps_ret pe_bl)))),
   (rd_seq (rd_set (rd_sl (rd_var 0) rd_noPart (rd_part (rd_int 40))))
 (rd_seq (rd_for (rd_rng1 (rd_cons (rd_callB rd_len (rd_cons (rd_var 1) rd_nil)) rd_nil)) (rd_gname 2)
 (rd_seq (rd_set (rd_bin rd_ix (rd_var 1) (rd_bin rd_mod (rd_bin rd_add (rd_var 2) (rd_int 1)) (rd_callB rd_len (rd_cons (rd_var 1) rd_nil)))))
 (rd_seq (rd_set (rd_callP (n := 2) (f := f_law_drawn) (rd_cons (rd_bin rd_ix (rd_var 1) (rd_var 2)) (rd_cons (rd_bin rd_fdiv (rd_var 3) (rd_int 2)) rd_nil))))
 (rd_seq (rd_set (rd_callP (n := 2) (f := f_law_drawn) (rd_cons (rd_var 3) (rd_cons (rd_bin rd_fdiv (rd_bin rd_ix (rd_var 1) (rd_var 2)) (rd_int 3)) rd_nil))))
 (rd_seq (rd_if (rd_tst (rd_bin rd_eq (rd_bin rd_mod (rd_bin rd_fdiv (rd_bin rd_ix (rd_var 1) (rd_var 2)) (rd_int 9)) (rd_int 5)) (rd_int 1)))
 (rd_set (rd_tup (rd_cons (rd_int 0) (rd_cons (rd_int 1) rd_nil))))
 rd_next)
 (rd_seq (rd_if (rd_tst (rd_bin rd_eq (rd_bin rd_mod (rd_bin rd_fdiv (rd_bin rd_ix (rd_var 1) (rd_var 2)) (rd_int 9)) (rd_int 5)) (rd_int 2)))
 (rd_set (rd_tup (rd_cons (rd_int 0) (rd_cons (rd_int 1) rd_nil))))
 rd_next)
 (rd_seq (rd_if (rd_tst (rd_bin rd_eq (rd_bin rd_mod (rd_bin rd_fdiv (rd_bin rd_ix (rd_var 1) (rd_var 2)) (rd_int 9)) (rd_int 5)) (rd_int 3)))
 (rd_set (rd_var 4))
 rd_next)
 (rd_seq (rd_if (rd_tst (rd_bin rd_eq (rd_bin rd_mod (rd_bin rd_fdiv (rd_bin rd_ix (rd_var 1) (rd_var 2)) (rd_int 9)) (rd_int 5)) (rd_int 4)))
 (rd_seq (rd_set (rd_bin rd_add (rd_int 1) (rd_bin rd_mod (rd_var 3) (rd_bin rd_sub (rd_bin rd_pow (rd_int 10) (rd_int 30)) (rd_int 1)))))
 (rd_set (rd_callP (n := 2) (f := f_law_ratio) (rd_cons (rd_bin rd_add (rd_bin rd_mul (rd_bin rd_ix (rd_var 4) (rd_int 0)) (rd_var 6)) (rd_bin rd_ix (rd_var 4) (rd_int 1))) (rd_cons (rd_bin rd_mul (rd_bin rd_ix (rd_var 4) (rd_int 1)) (rd_var 6)) rd_nil)))))
 rd_next)
 (rd_seq (rd_if (rd_not (rd_tB (rd_callP (n := 2) (f := f_law_same) (rd_cons (rd_callP (n := 2) (f := f_times) (rd_cons (rd_var 4) (rd_cons (rd_var 5) rd_nil))) (rd_cons (rd_callP (n := 2) (f := f_law_ratio) (rd_cons (rd_bin rd_mul (rd_bin rd_ix (rd_var 4) (rd_int 0)) (rd_bin rd_ix (rd_var 5) (rd_int 0))) (rd_cons (rd_bin rd_mul (rd_bin rd_ix (rd_var 4) (rd_int 1)) (rd_bin rd_ix (rd_var 5) (rd_int 1))) rd_nil))) rd_nil)))))
 (rd_ret (rd_bl false))
 rd_next)
 (rd_seq (rd_if (rd_or (rd_not (rd_tB (rd_callP (n := 2) (f := f_law_over) (rd_cons (rd_var 4) (rd_cons (rd_var 5) rd_nil))))) (rd_not (rd_tB (rd_callP (n := 2) (f := f_law_over) (rd_cons (rd_var 5) (rd_cons (rd_var 4) rd_nil))))))
 (rd_ret (rd_bl false))
 rd_next)
 (rd_if (rd_or (rd_not (rd_tB (rd_callP (n := 2) (f := f_law_less) (rd_cons (rd_var 4) (rd_cons (rd_var 5) rd_nil))))) (rd_or (rd_not (rd_tB (rd_callP (n := 2) (f := f_law_less) (rd_cons (rd_var 5) (rd_cons (rd_var 4) rd_nil))))) (rd_not (rd_tB (rd_callP (n := 2) (f := f_law_less) (rd_cons (rd_var 4) (rd_cons (rd_var 4) rd_nil)))))))
 (rd_ret (rd_bl false))
 rd_next)))))))))))
 (rd_ret (rd_bl true))))⟩
end
end Lk04
set_option maxRecDepth 100000
set_option maxHeartbeats 4000000
namespace Lk04
open PySem PySem.Spec PyProof.Rows L2 M
local macro_rules | `(tactic| array_mem_dec) => `(tactic| first | with_reducible assumption | with_reducible exact addD_int _ _ | with_reducible exact subD_int _ _ | with_reducible exact addI_int _ _ | with_reducible exact eqD_int _ _ | with_reducible exact neD_int _ _ | with_reducible exact ltD_int _ _ | with_reducible exact leD_int _ _ | with_reducible exact gtD_int _ _ | with_reducible exact geD_int _ _ | with_reducible exact negD_int _ | with_reducible exact eqD_str _ _ | with_reducible exact neD_str _ _ | with_reducible exact eqD_bl _ _ | with_reducible exact neD_bl _ _ | ((with_reducible apply modD_pos); first | decide | assumption | omega) | ((with_reducible apply fdivD_small); (first | decide | assumption | omega); (first | decide | assumption | omega)) | with_reducible exact pow_10_30 | with_reducible exact pow_10_25 | with_reducible exact pow_10_20 | with_reducible exact pow_2_31 | ((with_reducible apply powD_int); decide; decide; decide) | ((with_reducible apply mulD_int); first | with_reducible assumption | exact mul_small (.inl (by decide)) | exact mul_small (.inr (by decide))) | with_reducible exact lenD_lst _ | with_reducible exact lenD_tup _ | ((with_reducible apply lenD_ptr); first | rfl | assumption) | with_reducible exact listD_lst _ | with_reducible exact listD_tup _ | with_reducible exact intOf_bl _ | with_reducible exact intOf_int _ | with_reducible exact absD_int _ | with_reducible exact isi_int _ _ | with_reducible exact isi_bl _ _ | with_reducible exact isi_str _ _ | with_reducible exact isi_lst _ _ | with_reducible exact isi_tup _ _ | with_reducible exact isi_non _ | ((with_reducible apply isi_ptr); first | rfl | assumption) | with_reducible exact eqD_ints _ _ | with_reducible exact neD_ints _ _ | with_reducible exact sumD_ints _ _ | with_reducible exact allD_bls _ _ | with_reducible exact anyD_bls _ _ | with_reducible exact ixT0 _ _ | with_reducible exact ixT1 _ _ _ | with_reducible exact ixL0 _ _ | with_reducible exact ixL1 _ _ _ | ((with_reducible apply ix_vI); first | assumption | omega) | ((with_reducible apply ixD_lst); rfl) | ((with_reducible apply ixD_tup); rfl) | ((with_reducible apply ix_ptr); rfl; rfl))
local macro_rules | `(tactic| sizeOf_list_dec) => `(tactic| first | ((with_reducible apply varM_ev); rfl) | with_reducible exact cstM_ev _ _ | with_reducible exact nilM_ev _ | with_reducible exact x_noPart _ | with_reducible exact trueT_ev _ | with_reducible exact skipM_ev _ | with_reducible assumption | ((with_reducible apply x_bin); sizeOf_list_dec; sizeOf_list_dec; array_mem_dec) | ((with_reducible apply x_un); sizeOf_list_dec; array_mem_dec) | ((with_reducible apply x_cal); sizeOf_list_dec; array_mem_dec) | ((with_reducible apply x_cons); sizeOf_list_dec; sizeOf_list_dec) | ((with_reducible apply x_tup); sizeOf_list_dec; (first | assumption | decide | omega | (focus simp only [List.length_map, List.length_append, List.length_cons, List.length_nil, List.length_range] at *; omega))) | ((with_reducible apply x_lst); sizeOf_list_dec; (first | assumption | decide | omega | (focus simp only [List.length_map, List.length_append, List.length_cons, List.length_nil, List.length_range] at *; omega))) | ((with_reducible apply x_lstC); sizeOf_list_dec; (first | assumption | decide | omega | (focus simp only [List.length_map, List.length_append, List.length_cons, List.length_nil, List.length_range] at *; omega)); (first | (focus (conv => lhs; dsimp only [List.set_cons_succ, List.set_cons_zero, List.nil_append, List.cons_append, List.length_cons, List.length_nil, List.map_cons, List.map_nil, Nat.reduceAdd]); done) | (focus (conv => lhs; dsimp only [List.set_cons_succ, List.set_cons_zero, List.nil_append, List.cons_append, List.length_cons, List.length_nil, List.map_cons, List.map_nil, Nat.reduceAdd]); exact rfl) | exact rfl); (first | (focus (conv => lhs; dsimp only [List.set_cons_succ, List.set_cons_zero, List.nil_append, List.cons_append, List.length_cons, List.length_nil, List.map_cons, List.map_nil, Nat.reduceAdd]); done) | (focus (conv => lhs; dsimp only [List.set_cons_succ, List.set_cons_zero, List.nil_append, List.cons_append, List.length_cons, List.length_nil, List.map_cons, List.map_nil, Nat.reduceAdd]); exact rfl) | exact rfl)) | ((with_reducible apply x_tst); sizeOf_list_dec) | ((with_reducible apply x_not); sizeOf_list_dec) | ((with_reducible apply x_notV); sizeOf_list_dec) | ((with_reducible apply x_or); sizeOf_list_dec; sizeOf_list_dec) | ((with_reducible apply x_and); sizeOf_list_dec; sizeOf_list_dec) | ((with_reducible apply x_ifM); sizeOf_list_dec; sizeOf_list_dec; sizeOf_list_dec) | ((with_reducible apply x_set); sizeOf_list_dec; (first | (focus (conv => lhs; dsimp only [List.set_cons_succ, List.set_cons_zero, List.nil_append, List.cons_append, List.length_cons, List.length_nil, List.map_cons, List.map_nil, Nat.reduceAdd]); done) | (focus (conv => lhs; dsimp only [List.set_cons_succ, List.set_cons_zero, List.nil_append, List.cons_append, List.length_cons, List.length_nil, List.map_cons, List.map_nil, Nat.reduceAdd]); exact rfl) | exact rfl)) | ((with_reducible apply x_aug); sizeOf_list_dec; (first | (focus (conv => lhs; dsimp only [List.set_cons_succ, List.set_cons_zero, List.nil_append, List.cons_append, List.length_cons, List.length_nil, List.map_cons, List.map_nil, Nat.reduceAdd]); done) | (focus (conv => lhs; dsimp only [List.set_cons_succ, List.set_cons_zero, List.nil_append, List.cons_append, List.length_cons, List.length_nil, List.map_cons, List.map_nil, Nat.reduceAdd]); exact rfl) | exact rfl)) | ((with_reducible apply x_app); sizeOf_list_dec; (first | rfl | assumption); sizeOf_list_dec; (first | rfl | assumption); (first | assumption | decide | omega | (focus simp only [List.length_map, List.length_append, List.length_cons, List.length_nil, List.length_range] at *; omega)); (first | (focus (conv => lhs; dsimp only [List.set_cons_succ, List.set_cons_zero, List.nil_append, List.cons_append, List.length_cons, List.length_nil, List.map_cons, List.map_nil, Nat.reduceAdd]); done) | (focus (conv => lhs; dsimp only [List.set_cons_succ, List.set_cons_zero, List.nil_append, List.cons_append, List.length_cons, List.length_nil, List.map_cons, List.map_nil, Nat.reduceAdd]); exact rfl) | exact rfl)) | ((with_reducible apply x_frz); sizeOf_list_dec; (first | rfl | assumption); (first | (focus (conv => lhs; dsimp only [List.set_cons_succ, List.set_cons_zero, List.nil_append, List.cons_append, List.length_cons, List.length_nil, List.map_cons, List.map_nil, Nat.reduceAdd]); done) | (focus (conv => lhs; dsimp only [List.set_cons_succ, List.set_cons_zero, List.nil_append, List.cons_append, List.length_cons, List.length_nil, List.map_cons, List.map_nil, Nat.reduceAdd]); exact rfl) | exact rfl)) | ((with_reducible apply x_met0); sizeOf_list_dec; (first | rfl | assumption); rfl; (first | (focus (conv => lhs; dsimp only [List.set_cons_succ, List.set_cons_zero, List.nil_append, List.cons_append, List.length_cons, List.length_nil, List.map_cons, List.map_nil, Nat.reduceAdd]); done) | (focus (conv => lhs; dsimp only [List.set_cons_succ, List.set_cons_zero, List.nil_append, List.cons_append, List.length_cons, List.length_nil, List.map_cons, List.map_nil, Nat.reduceAdd]); exact rfl) | exact rfl)) | ((with_reducible apply x_listC); sizeOf_list_dec; (first | rfl | assumption); (first | (focus (conv => lhs; dsimp only [List.set_cons_succ, List.set_cons_zero, List.nil_append, List.cons_append, List.length_cons, List.length_nil, List.map_cons, List.map_nil, Nat.reduceAdd]); done) | (focus (conv => lhs; dsimp only [List.set_cons_succ, List.set_cons_zero, List.nil_append, List.cons_append, List.length_cons, List.length_nil, List.map_cons, List.map_nil, Nat.reduceAdd]); exact rfl) | exact rfl); (first | (focus (conv => lhs; dsimp only [List.set_cons_succ, List.set_cons_zero, List.nil_append, List.cons_append, List.length_cons, List.length_nil, List.map_cons, List.map_nil, Nat.reduceAdd]); done) | (focus (conv => lhs; dsimp only [List.set_cons_succ, List.set_cons_zero, List.nil_append, List.cons_append, List.length_cons, List.length_nil, List.map_cons, List.map_nil, Nat.reduceAdd]); exact rfl) | exact rfl)) | ((with_reducible apply x_fld); sizeOf_list_dec; rfl) | ((with_reducible apply x_methO); sizeOf_list_dec; sizeOf_list_dec; (with_reducible assumption); decide; (first | rfl | assumption | (focus simp only [pureDs_cons, pureDs_nil, pureD_int, pureD_bl, pureD_str, pureD_non, pureD_lst, pureD_tup, pureDs_ints, pureDs_vI, Bool.and_true, Bool.true_and, *]; done) | (focus simp; done)); (first | rfl | assumption | (focus simp only [pureDs_cons, pureDs_nil, pureD_int, pureD_bl, pureD_str, pureD_non, pureD_lst, pureD_tup, pureDs_ints, pureDs_vI, Bool.and_true, Bool.true_and, *]; done) | (focus simp; done)); rfl; (first | (focus (conv => lhs; simp only [shD_ptr, shC_lst, shDs_ints, shD, shDs, List.set_cons_succ, List.set_cons_zero, List.nil_append, List.cons_append, List.length_cons, List.length_nil, List.map_cons, List.map_nil, Nat.reduceAdd, Nat.add_zero, Nat.zero_add]); done) | (focus (conv => lhs; simp only [shD_ptr, shC_lst, shDs_ints, shD, shDs, List.set_cons_succ, List.set_cons_zero, List.nil_append, List.cons_append, List.length_cons, List.length_nil, List.map_cons, List.map_nil, Nat.reduceAdd, Nat.add_zero, Nat.zero_add]); exact rfl) | exact rfl); (first | (focus (conv => lhs; simp only [shD_ptr, shC_lst, shDs_ints, shD, shDs, List.set_cons_succ, List.set_cons_zero, List.nil_append, List.cons_append, List.length_cons, List.length_nil, List.map_cons, List.map_nil, Nat.reduceAdd, Nat.add_zero, Nat.zero_add]); done) | (focus (conv => lhs; simp only [shD_ptr, shC_lst, shDs_ints, shD, shDs, List.set_cons_succ, List.set_cons_zero, List.nil_append, List.cons_append, List.length_cons, List.length_nil, List.map_cons, List.map_nil, Nat.reduceAdd, Nat.add_zero, Nat.zero_add]); exact rfl) | exact rfl)) | ((with_reducible apply x_methP); sizeOf_list_dec; sizeOf_list_dec; (with_reducible assumption); decide; (first | rfl | assumption | (focus simp only [pureDs_cons, pureDs_nil, pureD_int, pureD_bl, pureD_str, pureD_non, pureD_lst, pureD_tup, pureDs_ints, pureDs_vI, Bool.and_true, Bool.true_and, *]; done) | (focus simp; done)); (first | rfl | assumption | (focus simp only [pureDs_cons, pureDs_nil, pureD_int, pureD_bl, pureD_str, pureD_non, pureD_lst, pureD_tup, pureDs_ints, pureDs_vI, Bool.and_true, Bool.true_and, *]; done) | (focus simp; done)); rfl; (first | rfl | assumption | (focus simp only [pureDs_cons, pureDs_nil, pureD_int, pureD_bl, pureD_str, pureD_non, pureD_lst, pureD_tup, pureDs_ints, pureDs_vI, Bool.and_true, Bool.true_and, *]; done) | (focus simp; done))) | ((with_reducible apply x_callP); sizeOf_list_dec; (with_reducible assumption); (first | rfl | assumption | (focus simp only [pureDs_cons, pureDs_nil, pureD_int, pureD_bl, pureD_str, pureD_non, pureD_lst, pureD_tup, pureDs_ints, pureDs_vI, Bool.and_true, Bool.true_and, *]; done) | (focus simp; done)); rfl; (first | rfl | assumption | (focus simp only [pureDs_cons, pureDs_nil, pureD_int, pureD_bl, pureD_str, pureD_non, pureD_lst, pureD_tup, pureDs_ints, pureDs_vI, Bool.and_true, Bool.true_and, *]; done) | (focus simp; done))) | ((with_reducible apply x_callO); sizeOf_list_dec; (with_reducible assumption); (first | rfl | assumption | (focus simp only [pureDs_cons, pureDs_nil, pureD_int, pureD_bl, pureD_str, pureD_non, pureD_lst, pureD_tup, pureDs_ints, pureDs_vI, Bool.and_true, Bool.true_and, *]; done) | (focus simp; done)); rfl; (first | (focus (conv => lhs; simp only [shD_ptr, shC_lst, shDs_ints, shD, shDs, List.set_cons_succ, List.set_cons_zero, List.nil_append, List.cons_append, List.length_cons, List.length_nil, List.map_cons, List.map_nil, Nat.reduceAdd, Nat.add_zero, Nat.zero_add]); done) | (focus (conv => lhs; simp only [shD_ptr, shC_lst, shDs_ints, shD, shDs, List.set_cons_succ, List.set_cons_zero, List.nil_append, List.cons_append, List.length_cons, List.length_nil, List.map_cons, List.map_nil, Nat.reduceAdd, Nat.add_zero, Nat.zero_add]); exact rfl) | exact rfl); (first | (focus (conv => lhs; simp only [shD_ptr, shC_lst, shDs_ints, shD, shDs, List.set_cons_succ, List.set_cons_zero, List.nil_append, List.cons_append, List.length_cons, List.length_nil, List.map_cons, List.map_nil, Nat.reduceAdd, Nat.add_zero, Nat.zero_add]); done) | (focus (conv => lhs; simp only [shD_ptr, shC_lst, shDs_ints, shD, shDs, List.set_cons_succ, List.set_cons_zero, List.nil_append, List.cons_append, List.length_cons, List.length_nil, List.map_cons, List.map_nil, Nat.reduceAdd, Nat.add_zero, Nat.zero_add]); exact rfl) | exact rfl)) | ((with_reducible apply x_callS); sizeOf_list_dec; (with_reducible assumption); rfl) | ((with_reducible apply x_part); sizeOf_list_dec) | ((with_reducible apply x_asg); sizeOf_list_dec; sizeOf_list_dec) | ((with_reducible apply x_gname); (first | (focus (conv => lhs; dsimp only [List.set_cons_succ, List.set_cons_zero, List.nil_append, List.cons_append, List.length_cons, List.length_nil, List.map_cons, List.map_nil, Nat.reduceAdd]); done) | (focus (conv => lhs; dsimp only [List.set_cons_succ, List.set_cons_zero, List.nil_append, List.cons_append, List.length_cons, List.length_nil, List.map_cons, List.map_nil, Nat.reduceAdd]); exact rfl) | exact rfl)) | ((with_reducible apply x_gtup2); sizeOf_list_dec; sizeOf_list_dec) | ((with_reducible apply x_gtup3); sizeOf_list_dec; sizeOf_list_dec; sizeOf_list_dec) | ((with_reducible apply dropM_eq); sizeOf_list_dec) | ((with_reducible apply retM_eq); sizeOf_list_dec))
theorem mot (a b : Int) : f_measure_of_two [.int a, .int b] [] = .ok (.int (Int.gcd a b : Nat), []) := gcdNe_run a b
theorem com (a b : Int) : f_law_common [.int a, .int b] [] = .ok (.int (Int.gcd a b : Nat), []) := gcdGt_run a b
theorem iswhole_ok (i : Int) : f_is_whole [.int i] [] = .ok (.bl true, []) := by
  refine runM_ret (s := ⟨[some (.int i)], []⟩) ?_
  simp [m_is_whole]
theorem whole_ok (i : Int) : f_law_whole [.int i] [] = .ok (.bl true, []) := by
  refine runM_ret (s := ⟨[some (.int i)], []⟩) ?_
  simp [m_law_whole]
theorem ratio_ok {n : Nat} (hn : n ≤ 9000) {a b : Int} (hb : b ≠ 0) (h : Sz n b) : f_ratio [.int a, .int b] [] = .ok (.tup [.int (rat a b).1, .int (rat a b).2], []) := by
  obtain ⟨s, e, eo⟩ := ratTail_ok hn (a := a) hb h []
  have q := runE_ret (n := 3) (m := m_ratio) (ds := [.int a, .int b]) (O := []) (s := s) (Eq.trans (by simp [m_ratio, iswhole_ok, mot, hb, ratTail]) e)
  rw [eo] at q
  exact q
theorem ratio_0 (a : Int) : f_ratio [.int a, .int 0] [] = .exc 1 .non ⟨[some (.int a), some (.int 0), none], []⟩ := by
  refine runE_exc ?_
  show m_ratio ⟨[some (.int a), some (.int 0), none], []⟩ = _
  have h1 := iswhole_ok a
  have h2 := iswhole_ok 0
  rw [m_ratio]
  apply q_seq
  · apply q_ifF
    · sizeOf_list_dec
    · rfl
    · sizeOf_list_dec
  · apply q_exc
    apply q_ifT
    · sizeOf_list_dec
    · rfl
    · exact x_raise (x_cons (cstM_ev _ _) (nilM_ev _)) (by decide)
theorem signed_ok (c w : Int) : ∃ r, f_law_signed [.int c, .int w] [] = .ok (.int r, []) ∧ r.natAbs < 2 ^ 100 := by
  by_cases h : w = 0
  · refine ⟨c / 4 % 41 - 20, runM_ret (s := ⟨[some (.int c), some (.int w)], []⟩) ?_, by omega⟩
    simp [m_law_signed, h, fdivD_small, modD_pos]
  · by_cases h1 : w = 1
    · refine ⟨c / 4 % 2000001 - 1000000, runM_ret (s := ⟨[some (.int c), some (.int w)], []⟩) ?_, by omega⟩
      simp [m_law_signed, h1, fdivD_small, modD_pos]
    · refine ⟨c / 4 % (2 * 10 ^ 30 - 1) - 10 ^ 30 + 1, runM_ret (s := ⟨[some (.int c), some (.int w)], []⟩) ?_, by omega⟩
      simp [m_law_signed, h, h1, fdivD_small, modD_pos, powD_int, mulD_int (mul_small (i := 2) (j := 1000000000000000000000000000000) (.inl (by decide)))]
theorem lratio_ok {n : Nat} (hn : n ≤ 9000) {a b : Int} (hb : b ≠ 0) (h : Sz n b) : f_law_ratio [.int a, .int b] [] = .ok (.tup [.int (rat a b).1, .int (rat a b).2], []) := by
  obtain ⟨s, e, eo⟩ := ratTail_ok hn (a := a) hb h []
  have q := runM_ret (n := 3) (m := m_law_ratio) (ds := [.int a, .int b]) (O := []) (s := s) (Eq.trans (by simp [m_law_ratio, com, ratTail]) e)
  rw [eo] at q
  exact q
theorem same_ok (a b : Int) : f_law_same [.tup [.int a, .int b], .tup [.int a, .int b]] [] = .ok (.bl true, []) := by
  refine runM_ret (s := ⟨[some (.tup [.int a, .int b]), some (.tup [.int a, .int b])], []⟩) ?_
  simp [m_law_same, whole_ok]
theorem drawn_ok (c o : Int) : ∃ t b, f_law_drawn [.int c, .int o] [] = .ok (.tup [.int t, .int b], []) ∧ 0 < b ∧ Sz 101 t ∧ Sz 101 b := by
  obtain ⟨r, e1, h1⟩ := signed_ok c (c % 3)
  have fin : ∀ B : Int, 0 < B → B.natAbs < 2 ^ 101 → 0 < (rat r B).2 ∧ Sz 101 (rat r B).1 ∧ Sz 101 (rat r B).2 := fun B h0 hB => by
    obtain ⟨g, _, _, _, _, hp, _⟩ := rat_spec (a := r) (b := B) (by omega)
    have := Sz.rat (n := 101) (m := 101) (a := r) (b := B) (by omega) (Nat.lt_of_lt_of_le h1 (by decide)) hB
    exact ⟨hp, this.1, this.2⟩
  have rr : ∀ B : Int, 0 < B → B.natAbs < 2 ^ 101 → f_law_ratio [.int r, .int B] [] = .ok (.tup [.int (rat r B).1, .int (rat r B).2], []) := fun B h0 hB => lratio_ok (n := 101) (by decide) (by omega) hB
  by_cases c1 : c / 3 % 3 = 1
  · refine ⟨_, _, ?_, fin (1 + o % 1000000) (by omega) (by omega)⟩
    refine runM_ret (s := ⟨[some (.int c), some (.int o), some (.int r), some (.int (1 + o % 1000000))], []⟩) ?_
    simp [m_law_drawn, e1, c1, fdivD_small, modD_pos, powD_int, rr (1 + o % 1000000) (by omega) (by omega)]
  · by_cases c2 : c / 3 % 3 = 2
    · refine ⟨_, _, ?_, fin (1 + o % 999999999999999999999999999999) (by omega) (by omega)⟩
      refine runM_ret (s := ⟨[some (.int c), some (.int o), some (.int r), some (.int (1 + o % 999999999999999999999999999999))], []⟩) ?_
      simp [m_law_drawn, e1, c1, c2, fdivD_small, modD_pos, powD_int, rr (1 + o % 999999999999999999999999999999) (by omega) (by omega)]
    · refine ⟨_, _, ?_, fin (1 + o % 12) (by omega) (by omega)⟩
      refine runM_ret (s := ⟨[some (.int c), some (.int o), some (.int r), some (.int (1 + o % 12))], []⟩) ?_
      simp [m_law_drawn, e1, c1, c2, fdivD_small, modD_pos, powD_int, rr (1 + o % 12) (by omega) (by omega)]
abbrev pr (t b : Int) : D := .tup [.int t, .int b]
section
variable {t b u c : Int} (hb : 0 < b) (hc : 0 < c) (h1 : Sz 300 t) (h2 : Sz 300 b) (h3 : Sz 300 u) (h4 : Sz 300 c)
theorem mk {x y : Int} (hx : Sz 300 x) (hy : Sz 300 y) : IntMulOk x y := mul_ok (m := 300) (n := 300) (by decide) (by decide) hx hy
include hb hc h1 h2 h3 h4
theorem times_ok : f_times [pr t b, pr u c] [] = .ok (pr (rat (t * u) (b * c)).1 (rat (t * u) (b * c)).2, []) := by
  have k1 := mk h1 h3
  have k2 := mk h2 h4
  have hz : Sz 600 (b * c) := Sz.mul h2 h4
  have r := ratio_ok (n := 600) (by decide) (a := t * u) (b := b * c) (Int.mul_ne_zero (by omega) (by omega)) hz
  ((apply q_run; rw [m_times]; simp only [List.map_cons, List.map_nil, List.length_cons, List.length_nil, Nat.reduceAdd, Nat.reduceSub, List.replicate_succ, List.replicate_zero, List.cons_append, List.nil_append]))
  sizeOf_list_dec
theorem over_ok (hu : u ≠ 0) : f_over [pr t b, pr u c] [] = .ok (pr (rat (t * c) (b * u)).1 (rat (t * c) (b * u)).2, []) := by
  have k1 := mk h1 h4
  have k2 := mk h2 h3
  have hz : Sz 600 (b * u) := Sz.mul h2 h3
  have r := ratio_ok (n := 600) (by decide) (a := t * c) (b := b * u) (Int.mul_ne_zero (by omega) hu) hz
  refine runE_ret (s := ⟨[some (pr t b), some (pr u c)], []⟩) ?_
  show m_over ⟨[some (pr t b), some (pr u c)], []⟩ = _
  rw [m_over]
  refine retM_eq (callX_eq (ds := [.int (t * c), .int (b * u)]) ?_ (by simp) rfl r (by simp))
  sizeOf_list_dec
theorem less_ok : f_law_less [pr t b, pr u c] [] = .ok (.bl true, []) := by
  have k1 := mk h1 h4
  have k2 := mk h3 h2
  have hu : f_under [pr t b, pr u c] [] = .ok (.bl (decide (t * c < u * b)), []) := by
    ((apply q_run; rw [m_under]; simp only [List.map_cons, List.map_nil, List.length_cons, List.length_nil, Nat.reduceAdd, Nat.reduceSub, List.replicate_succ, List.replicate_zero, List.cons_append, List.nil_append]))
    sizeOf_list_dec
  refine runM_ret (s := ⟨[some (pr t b), some (pr u c), some (.bl (decide (t * c < u * b)))], []⟩) ?_
  show m_law_less ⟨[some (pr t b), some (pr u c), none], []⟩ = _
  rw [m_law_less]
  ((apply q_seq; sizeOf_list_dec))
  refine retM_eq (x_andVT (p := true) (x_un (varM_ev rfl) (isi_bl _ _)) rfl (x_bin (y := .bl (decide (t * c < u * b))) (varM_ev rfl) ?_ ?_))
  · sizeOf_list_dec
  · rw [eqD_bl, decide_eq_true rfl]
end
section
variable {t b c : Int} (hb : 0 < b) (hc : 0 < c) (h1 : Sz 300 t) (h2 : Sz 300 b) (h4 : Sz 300 c)
include h1 h2 h4
theorem over_0 : f_over [pr t b, pr 0 c] [] = .exc 1 .non ⟨[some (pr t b), some (pr 0 c)], []⟩ := by
  have k1 := mk h1 h4
  have k2 : IntMulOk b 0 := mul_small (.inr (by decide))
  have r := ratio_0 (t * c)
  refine runE_exc ?_
  show m_over ⟨[some (pr t b), some (pr 0 c)], []⟩ = _
  rw [m_over]
  refine x_retE (callX_exc (ds := [.int (t * c), .int (b * 0)]) ?_ (by simp) rfl (by rw [Int.mul_zero]; exact r))
  sizeOf_list_dec
theorem refused_ok : f_law_refused [pr t b, pr 0 c] [] = .ok (.bl true, []) := by
  have ho := over_0 h1 h2 h4
  refine runM_ret (s := ⟨[some (pr t b), some (pr 0 c), some (.bl true), some (.exn 1)], []⟩) ?_
  show m_law_refused ⟨[some (pr t b), some (pr 0 c), none, none], []⟩ = _
  rw [m_law_refused]
  ((apply q_seq; sizeOf_list_dec))
  have call : ∀ x2 : Option D, callX 2 f_over (consM (varM 0) (consM (varM 1) nilM)) ⟨[some (pr t b), some (pr 0 c), x2, none], []⟩ = .exc 1 .non ⟨[some (pr t b), some (pr 0 c), x2, none], []⟩ := fun x2 =>
    callX_exc (ds := [pr t b, pr 0 c]) (x_cons (varM_ev rfl) (x_cons (varM_ev rfl) (nilM_ev _))) (by simp) rfl ho
  refine q_seq (x_tryE (x_dropE (call _)) (x_exT rfl (x_set (R' := [some (pr t b), some (pr 0 c), some (.bl true), none]) (cstM_ev _ _) rfl))) ?_
  apply seqM_ret
  refine x_tryE (x_dropE (call _)) (x_exT rfl (x_asR (retM_eq (x_andVT (p := true) (varM_ev rfl) rfl (x_isx (varM_ev rfl) rfl)))))
end
theorem lover_ok {t b u c : Int} (hb : 0 < b) (hc : 0 < c) (h1 : Sz 300 t) (h2 : Sz 300 b) (h3 : Sz 300 u) (h4 : Sz 300 c) : f_law_over [pr t b, pr u c] [] = .ok (.bl true, []) := by
  refine runM_ret (s := ⟨[some (pr t b), some (pr u c)], []⟩) ?_
  show m_law_over ⟨[some (pr t b), some (pr u c)], []⟩ = _
  rw [m_law_over]
  by_cases h : u = 0
  · subst h
    have hr := refused_ok h1 h2 h4
    apply seqM_ret
    apply q_ifT
    · sizeOf_list_dec
    · rfl
    · sizeOf_list_dec
  · have k1 := mk h1 h4
    have k2 := mk h2 h3
    have ho := over_ok hb hc h1 h2 h3 h4 h
    have hz : Sz 600 (b * u) := Sz.mul h2 h3
    have hl := lratio_ok (n := 600) (by decide) (a := t * c) (b := b * u) (Int.mul_ne_zero (by omega) h) hz
    have hs := same_ok (rat (t * c) (b * u)).1 (rat (t * c) (b * u)).2
    apply q_seq
    · apply q_ifF
      · sizeOf_list_dec
      · exact decide_eq_false h
      · sizeOf_list_dec
    · sizeOf_list_dec
theorem tail_ok (L cs k z : D) {t b u c : Int} (hb : 0 < b) (hc : 0 < c) (h1 : Sz 300 t) (h2 : Sz 300 b) (h3 : Sz 300 u) (h4 : Sz 300 c) (x6 : Option D) :
    (seqM (ifS (notT (tstM (callP 2 f_law_same (consM (callP 2 f_times (consM (varM 4) (consM (varM 5) nilM))) (consM (callP 2 f_law_ratio (consM (binM mulD (binM ixD (varM 4) (cstM (.int 0))) (binM ixD (varM 5) (cstM (.int 0)))) (consM (binM mulD (binM ixD (varM 4) (cstM (.int 1))) (binM ixD (varM 5) (cstM (.int 1)))) nilM))) nilM)))))
     (retM (cstM (.bl false)))
     skipM)
     (seqM (ifS (orT (notT (tstM (callP 2 f_law_over (consM (varM 4) (consM (varM 5) nilM))))) (notT (tstM (callP 2 f_law_over (consM (varM 5) (consM (varM 4) nilM))))))
     (retM (cstM (.bl false)))
     skipM)
     (ifS (orT (notT (tstM (callP 2 f_law_less (consM (varM 4) (consM (varM 5) nilM))))) (orT (notT (tstM (callP 2 f_law_less (consM (varM 5) (consM (varM 4) nilM))))) (notT (tstM (callP 2 f_law_less (consM (varM 4) (consM (varM 4) nilM)))))))
     (retM (cstM (.bl false)))
     skipM))) ⟨[some L, some cs, some k, some z, some (pr t b), some (pr u c), x6], []⟩ = .next ⟨[some L, some cs, some k, some z, some (pr t b), some (pr u c), x6], []⟩ := by
  have k1 := mk h1 h3
  have k2 := mk h2 h4
  have ht := times_ok hb hc h1 h2 h3 h4
  have hz : Sz 600 (b * c) := Sz.mul h2 h4
  have hl := lratio_ok (n := 600) (by decide) (a := t * u) (b := b * c) (Int.mul_ne_zero (by omega) (by omega)) hz
  have hs := same_ok (rat (t * u) (b * c)).1 (rat (t * u) (b * c)).2
  have o1 := lover_ok hb hc h1 h2 h3 h4
  have o2 := lover_ok hc hb h3 h4 h1 h2
  have l1 := less_ok hb hc h1 h2 h3 h4
  have l2 := less_ok hc hb h3 h4 h1 h2
  have l3 := less_ok hb hb h1 h2 h1 h2
  apply q_seq
  · apply q_ifF
    · sizeOf_list_dec
    · rfl
    · sizeOf_list_dec
  apply q_seq
  · apply q_ifF
    · sizeOf_list_dec
    · rfl
    · sizeOf_list_dec
  apply q_ifF
  · sizeOf_list_dec
  · rfl
  · sizeOf_list_dec
theorem body_ok (L : D) (ns : List Int) (k : Nat) (hk : k < ns.length) (x3 x4 x5 x6 : Option D) :
    ∃ y3 y4 y5 y6, b_law_1 ⟨[some L, some (.lst (ns.map D.int)), some (.int (k : Int)), x3, x4, x5, x6], []⟩ = .next ⟨[some L, some (.lst (ns.map D.int)), some (.int (k : Int)), y3, y4, y5, y6], []⟩ := by
  have hl : 0 < (ns.length : Int) := by omega
  have hm : ((k : Int) + 1) % (ns.length : Int) < ns.length := Int.emod_lt_of_pos _ hl
  have hm0 : 0 ≤ ((k : Int) + 1) % (ns.length : Int) := Int.emod_nonneg _ (by omega)
  have e1 : ixD [] (.lst (ns.map D.int)) (.int (((k : Int) + 1) % ((ns.map D.int).length : Int))) = .ok (.int (ns[(((k : Int) + 1) % (ns.length : Int)).toNat]'(by omega))) := by
    rw [List.length_map]
    refine ixD_lst ?_
    rw [atI_ok hm0 (by simpa using hm)]; simp
  have e2 : ixD [] (.lst (ns.map D.int)) (.int (k : Int)) = .ok (.int (ns[k]'hk)) := by
    refine ixD_lst ?_
    rw [atI_ok (by omega) (by simpa using hk)]; simp
  have hl2 : 0 < ((ns.map D.int).length : Int) := by rw [List.length_map]; exact hl
  generalize ns[(((k : Int) + 1) % (ns.length : Int)).toNat]'(by omega) = z at e1
  generalize ns[k]'hk = c at e2
  generalize hN : ns.map D.int = N at *
  obtain ⟨t, b, d1, hb, h1, h2⟩ := drawn_ok c (z / 2)
  obtain ⟨u, v, d2, hv, h3, h4⟩ := drawn_ok z (c / 3)
  have h1' := h1
  have h2' := h2
  have h1 : Sz 300 t := h1.mono (by decide)
  have h2 : Sz 300 b := h2.mono (by decide)
  have h3 : Sz 300 u := h3.mono (by decide)
  have h4 : Sz 300 v := h4.mono (by decide)
  have s0 : Sz 300 0 := by unfold Sz; decide
  have s1 : Sz 300 1 := by unfold Sz; decide
  have P : ∀ (w : Int) (f : SM) (R1 R2 : List (Option D)), (c / 9 % 5 = w → f ⟨R1, []⟩ = .next ⟨R2, []⟩) → R1[1]? = some (some (.lst N)) → R1[2]? = some (some (.int (k : Int))) → (c / 9 % 5 ≠ w → R2 = R1) → ifS (tstM (binM eqD (binM modD (binM fdivD (binM ixD (varM 1) (varM 2)) (cstM (.int 9))) (cstM (.int 5))) (cstM (.int w)))) f skipM ⟨R1, []⟩ = .next ⟨R2, []⟩ := fun w f R1 R2 hf g1 g2 hn => by
    have ct : binM modD (binM fdivD (binM ixD (varM 1) (varM 2)) (cstM (.int 9))) (cstM (.int 5)) ⟨R1, []⟩ = .ok (.int (c / 9 % 5), ⟨R1, []⟩) := x_bin (x_bin (x_bin (varM_ev g1) (varM_ev g2) e2) (cstM_ev _ _) (fdivD_small (by decide) (by decide))) (cstM_ev _ _) (modD_pos (by decide))
    by_cases h : c / 9 % 5 = w
    · exact q_ifT (eq_test ct) (decide_eq_true h) (hf h)
    · exact q_ifF (eq_test ct) (decide_eq_false h) (by rw [hn h]; rfl)
  have near : ∃ T B, c / 9 % 5 = 4 → 0 < B ∧ Sz 300 T ∧ Sz 300 B ∧ (seqM (setM 6 (binM addD (cstM (.int 1)) (binM modD (varM 3) (binM subD (binM powD (cstM (.int 10)) (cstM (.int 30))) (cstM (.int 1))))))
      (setM 5 (callP 2 f_law_ratio (consM (binM addD (binM mulD (binM ixD (varM 4) (cstM (.int 0))) (varM 6)) (binM ixD (varM 4) (cstM (.int 1)))) (consM (binM mulD (binM ixD (varM 4) (cstM (.int 1))) (varM 6)) nilM))))) ⟨[some L, some (.lst N), some (.int (k : Int)), some (.int z), some (pr t b), some (pr u v), x6], []⟩ = .next ⟨[some L, some (.lst N), some (.int (k : Int)), some (.int z), some (pr t b), some (pr T B), some (.int (1 + z % 999999999999999999999999999999))], []⟩ := by
    have hq : 1 ≤ 1 + z % 999999999999999999999999999999 ∧ Sz 101 (1 + z % 999999999999999999999999999999) := ⟨by omega, by unfold Sz; omega⟩
    have eq : 1000000000000000000000000000000 - 1 = (999999999999999999999999999999 : Int) := by decide
    have pw : binM subD (binM powD (cstM (.int 10)) (cstM (.int 30))) (cstM (.int 1)) ⟨[some L, some (.lst N), some (.int (k : Int)), some (.int z), some (pr t b), some (pr u v), x6], []⟩ = .ok (.int 999999999999999999999999999999, ⟨[some L, some (.lst N), some (.int (k : Int)), some (.int z), some (pr t b), some (pr u v), x6], []⟩) := x_bin (x_bin (cstM_ev _ _) (cstM_ev _ _) pow_10_30) (cstM_ev _ _) (by rw [subD_int, eq])
    generalize hQ : 1 + z % 999999999999999999999999999999 = q at *
    have k1 : IntMulOk t q := mul_ok (m := 300) (n := 101) (by decide) (by decide) h1 hq.2
    have k2 : IntMulOk b q := mul_ok (m := 300) (n := 101) (by decide) (by decide) h2 hq.2
    have hB : b * q ≠ 0 := Int.mul_ne_zero (by omega) (by omega)
    have hz : Sz 401 (b * q) := Sz.mul h2 hq.2
    have hlr := lratio_ok (n := 401) (by decide) (a := t * q + b) (b := b * q) hB hz
    obtain ⟨g, _, _, _, _, hp, _⟩ := rat_spec (a := t * q + b) (b := b * q) hB
    have hs1 : Sz 203 (t * q + b) := by
      have := Sz.add (Sz.mul (m := 101) (n := 101) h1' hq.2) h2'
      exact this.mono (by decide)
    have hs2 : Sz 202 (b * q) := Sz.mul (m := 101) (n := 101) h2' hq.2
    have hs := Sz.rat (n := 203) (m := 202) (a := t * q + b) hB hs1 hs2
    refine ⟨_, _, fun _ => ⟨hp, hs.1.mono (by decide), hs.2.mono (by decide), ?_⟩⟩
    ((apply q_seq; sizeOf_list_dec))
    rw [hQ]
    sizeOf_list_dec
  obtain ⟨T, B, near⟩ := near
  obtain ⟨T1, B1, U1, V1, y6, hB1, hV1, q1, q2, q3, q4, run⟩ : ∃ T1 B1 U1 V1 y6, 0 < B1 ∧ 0 < V1 ∧ Sz 300 T1 ∧ Sz 300 B1 ∧ Sz 300 U1 ∧ Sz 300 V1 ∧ ∀ rest : SM, (seqM (ifS (tstM (binM eqD (binM modD (binM fdivD (binM ixD (varM 1) (varM 2)) (cstM (.int 9))) (cstM (.int 5))) (cstM (.int 1))))
 (setM 5 (tupM (consM (cstM (.int 0)) (consM (cstM (.int 1)) nilM))))
 skipM)
 (seqM (ifS (tstM (binM eqD (binM modD (binM fdivD (binM ixD (varM 1) (varM 2)) (cstM (.int 9))) (cstM (.int 5))) (cstM (.int 2))))
 (setM 4 (tupM (consM (cstM (.int 0)) (consM (cstM (.int 1)) nilM))))
 skipM)
 (seqM (ifS (tstM (binM eqD (binM modD (binM fdivD (binM ixD (varM 1) (varM 2)) (cstM (.int 9))) (cstM (.int 5))) (cstM (.int 3))))
 (setM 5 (varM 4))
 skipM)
 (seqM (ifS (tstM (binM eqD (binM modD (binM fdivD (binM ixD (varM 1) (varM 2)) (cstM (.int 9))) (cstM (.int 5))) (cstM (.int 4))))
 (seqM (setM 6 (binM addD (cstM (.int 1)) (binM modD (varM 3) (binM subD (binM powD (cstM (.int 10)) (cstM (.int 30))) (cstM (.int 1))))))
 (setM 5 (callP 2 f_law_ratio (consM (binM addD (binM mulD (binM ixD (varM 4) (cstM (.int 0))) (varM 6)) (binM ixD (varM 4) (cstM (.int 1)))) (consM (binM mulD (binM ixD (varM 4) (cstM (.int 1))) (varM 6)) nilM)))))
 skipM) rest)))) ⟨[some L, some (.lst N), some (.int (k : Int)), some (.int z), some (pr t b), some (pr u v), x6], []⟩ = rest ⟨[some L, some (.lst N), some (.int (k : Int)), some (.int z), some (pr T1 B1), some (pr U1 V1), y6], []⟩ := by
    by_cases w1 : c / 9 % 5 = 1
    · exact ⟨t, b, 0, 1, x6, hb, by decide, h1, h2, s0, s1, fun rest => q_seq (P 1 _ _ [some L, some (.lst N), some (.int (k : Int)), some (.int z), some (pr t b), some (pr 0 1), x6] (fun _ => by sizeOf_list_dec) rfl rfl (fun h => absurd w1 h)) (q_seq (P 2 _ _ _ (fun h => by omega) rfl rfl fun _ => rfl) (q_seq (P 3 _ _ _ (fun h => by omega) rfl rfl fun _ => rfl) (q_seq (P 4 _ _ _ (fun h => by omega) rfl rfl fun _ => rfl) rfl)))⟩
    · by_cases w2 : c / 9 % 5 = 2
      · exact ⟨0, 1, u, v, x6, by decide, hv, s0, s1, h3, h4, fun rest => q_seq (P 1 _ _ _ (fun h => by omega) rfl rfl fun _ => rfl) (q_seq (P 2 _ _ [some L, some (.lst N), some (.int (k : Int)), some (.int z), some (pr 0 1), some (pr u v), x6] (fun _ => by sizeOf_list_dec) rfl rfl (fun h => absurd w2 h)) (q_seq (P 3 _ _ _ (fun h => by omega) rfl rfl fun _ => rfl) (q_seq (P 4 _ _ _ (fun h => by omega) rfl rfl fun _ => rfl) rfl)))⟩
      · by_cases w3 : c / 9 % 5 = 3
        · exact ⟨t, b, t, b, x6, hb, hb, h1, h2, h1, h2, fun rest => q_seq (P 1 _ _ _ (fun h => by omega) rfl rfl fun _ => rfl) (q_seq (P 2 _ _ _ (fun h => by omega) rfl rfl fun _ => rfl) (q_seq (P 3 _ _ [some L, some (.lst N), some (.int (k : Int)), some (.int z), some (pr t b), some (pr t b), x6] (fun _ => by sizeOf_list_dec) rfl rfl (fun h => absurd w3 h)) (q_seq (P 4 _ _ _ (fun h => by omega) rfl rfl fun _ => rfl) rfl)))⟩
        · by_cases w4 : c / 9 % 5 = 4
          · obtain ⟨n1, n2, n3, n4⟩ := near w4
            exact ⟨t, b, T, B, _, hb, n1, h1, h2, n2, n3, fun rest => q_seq (P 1 _ _ _ (fun h => by omega) rfl rfl fun _ => rfl) (q_seq (P 2 _ _ _ (fun h => by omega) rfl rfl fun _ => rfl) (q_seq (P 3 _ _ _ (fun h => by omega) rfl rfl fun _ => rfl) (q_seq (P 4 _ _ _ (fun _ => n4) rfl rfl (fun h => absurd w4 h)) rfl)))⟩
          · exact ⟨t, b, u, v, x6, hb, hv, h1, h2, h3, h4, fun rest => q_seq (P 1 _ _ _ (fun h => by omega) rfl rfl fun _ => rfl) (q_seq (P 2 _ _ _ (fun h => by omega) rfl rfl fun _ => rfl) (q_seq (P 3 _ _ _ (fun h => by omega) rfl rfl fun _ => rfl) (q_seq (P 4 _ _ _ (fun h => by omega) rfl rfl fun _ => rfl) rfl)))⟩
  refine ⟨some (.int z), some (pr T1 B1), some (pr U1 V1), y6, ?_⟩
  rw [b_law_1]
  ((apply q_seq; sizeOf_list_dec))
  ((apply q_seq; sizeOf_list_dec))
  ((apply q_seq; sizeOf_list_dec))
  exact (run _).trans (tail_ok L (.lst N) (.int (k : Int)) (.int z) hB1 hV1 q1 q2 q3 q4 y6)
theorem law_true (ns : List Int) (h : ns.length ≤ 63) : ∃ O, f_law [.lst (ns.map D.int)] [] = .ok (.bl true, O) := by
  have t40 : cutD (ns.map D.int) none (some 40) = (ns.take 40).map D.int := cutD_take (n := 40)
  have hl : (ns.take 40).length ≤ 40 := by simp; omega
  generalize ns.take 40 = cs at t40 hl
  obtain ⟨s', e, x2, x3, x4, x5, x6, h1⟩ := forGo_all (ok := okC (rangeD 0 (cs.length : Int)) none) (g := nameG 2) (body := b_law_1)
    (fun s => ∃ x2 x3 x4 x5 x6, s = ⟨[some (.lst (ns.map D.int)), some (.lst (cs.map D.int)), x2, x3, x4, x5, x6], []⟩) (fun _ _ => trivial) (rangeD 0 (cs.length : Int)) (by
      rintro d hd s ⟨x2, x3, x4, x5, x6, rfl⟩
      obtain ⟨k, hk1, hk⟩ := mem_rangeD hd
      rw [Int.zero_add] at hk1 hk
      subst hk1
      obtain ⟨y3, y4, y5, y6, e⟩ := body_ok (.lst (ns.map D.int)) cs k (by omega) x3 x4 x5 x6
      exact ⟨_, _, rfl, .inl e, _, _, _, _, _, rfl⟩) ⟨[some (.lst (ns.map D.int)), some (.lst (cs.map D.int)), none, none, none, none, none], []⟩ ⟨_, _, _, _, _, rfl⟩
  have hf := forS_of (im := rng1 (consM (calM lenD (consM (varM 1) nilM)) nilM)) (g := nameG 2) (body := b_law_1) (s := ⟨[some (.lst (ns.map D.int)), some (.lst (cs.map D.int)), none, none, none, none, none], []⟩) (rng1_nat (s1 := ⟨[some (.lst (ns.map D.int)), some (.lst (cs.map D.int)), none, none, none, none, none], []⟩) (n := cs.length) (by simp) (by omega))
  rw [e, h1] at hf
  refine runM_ex ?_
  show ∃ s, m_law ⟨[some (.lst (ns.map D.int)), none, none, none, none, none, none], []⟩ = _
  rw [m_law]
  exact ⟨_, q_seq (x_set (R := [some (.lst (ns.map D.int)), none, none, none, none, none, none]) (O := []) (R' := [some (.lst (ns.map D.int)), some (.lst (cs.map D.int)), none, none, none, none, none]) (x_sl (varM_ev rfl) (x_noPart _) (x_part (cstM_ev _ _)) rfl t40) rfl) (q_seq hf (retM_eq (cstM_ev _ _)))⟩
end Lk04
namespace Lk04
open PySem PySem.Spec PyProof.Rows L2 M
theorem all_mk {l : PySem.W.OpenLaw} {w : World} {K : PySem.W.Frag} {h : Heap} {mg : Str → Option Value} {fa f0 f1 f2 f3 f4 f5 f6 f7 f8 f9 f10 f11 f12 f13 f14 f15 C_NoRatio C_YardError : Addr} (X : K.In h) (G : h.Ns mainGlobals mg) (hfa : mg "law" = some (.ref fa)) (hpt : l.prog.given.tree = none)
  {od0 an0 od1 an1 od2 an2 od3 an3 od4 an4 od5 an5 od6 an6 od7 an7 od8 an8 od9 an9 od10 an10 od11 an11 od12 an12 od13 an13 od14 an14 od15 an15 : Option Addr} {sl0 sl1 sl2 sl3 sl4 sl5 sl6 sl7 sl8 sl9 sl10 sl11 sl12 sl13 sl14 sl15 : Array (Option Value)} {oc0 kV0 dc0 pm0 cd0 ct0 oc1 kV1 dc1 pm1 cd1 ct1 oc2 kV2 dc2 pm2 cd2 ct2 oc3 kV3 dc3 pm3 cd3 ct3 oc4 kV4 dc4 pm4 cd4 ct4 oc5 kV5 dc5 pm5 cd5 ct5 oc6 kV6 dc6 pm6 cd6 ct6 oc7 kV7 dc7 pm7 cd7 ct7 oc8 kV8 dc8 pm8 cd8 ct8 oc9 kV9 dc9 pm9 cd9 ct9 oc10 kV10 dc10 pm10 cd10 ct10 oc11 kV11 dc11 pm11 cd11 ct11 oc12 kV12 dc12 pm12 cd12 ct12 oc13 kV13 dc13 pm13 cd13 ct13 oc14 kV14 dc14 pm14 cd14 ct14 oc15 kV15 dc15 pm15 cd15 ct15 : Value}
  (aC_NoRatio : PySem.W.nsIn K mainGlobals "NoRatio" = some (some (.ref C_NoRatio)))
  (aC_YardError : PySem.W.nsIn K mainGlobals "YardError" = some (some (.ref C_YardError)))
  (gt0 : PySem.W.specialIn K (.builtin "object.__class__") "__get__" = some (some (.builtin "getset_descriptor.__get__")))
  (tk0 : PySem.W.takesIn K (.builtin "object.__class__") = some true)
  (ga_NoRatio : PySem.W.findIn K (.ref C_NoRatio) "__getattribute__" = some (some (.builtin "BaseException.__getattribute__")))
  (gh_NoRatio : PySem.W.findIn K (.ref C_NoRatio) "__getattr__" = some none)
  (gc_NoRatio : PySem.W.findIn K (.ref C_NoRatio) "__class__" = some (some (.builtin "object.__class__")))
  (mo_NoRatio : PySem.W.mroIn K C_NoRatio (.type "object") = some true)
  (mb_NoRatio : PySem.W.mroIn K C_NoRatio (.type "BaseException") = some true)
  (xq_NoRatio : PySem.W.excIn K C_NoRatio bmV "ValueError.__new__" = true)
  (ex_NoRatio_NoRatio : PySem.W.exmOne K (.ref C_NoRatio) (.ref C_NoRatio) = some true)
  (ex_YardError_NoRatio : PySem.W.exmOne K (.ref C_NoRatio) (.ref C_YardError) = some true)
  (iy_ValueError_NoRatio : PySem.W.kitOne K (.ref C_NoRatio) (.type "ValueError") = some true)
  (a0 : PySem.W.nsIn K mainGlobals "is_whole" = some (some (.ref f0)))
  (l0 : K.lookup f0 = some ⟨oc0, od0, .func (PySem.W.fnOf "is_whole" "is_whole" (defArgs s_is_whole) (defBody s_is_whole) (defScope s_is_whole) .none kV0 dc0 pm0 an0 cd0 ct0), sl0⟩)
  (c0 : PySem.W.codeIn K cd0 "is_whole" = true)
  (k0 : PySem.W.keepIn K (.ref f0) = true)
  (a1 : PySem.W.nsIn K mainGlobals "measure_of_two" = some (some (.ref f1)))
  (l1 : K.lookup f1 = some ⟨oc1, od1, .func (PySem.W.fnOf "measure_of_two" "measure_of_two" (defArgs s_measure_of_two) (defBody s_measure_of_two) (defScope s_measure_of_two) .none kV1 dc1 pm1 an1 cd1 ct1), sl1⟩)
  (c1 : PySem.W.codeIn K cd1 "measure_of_two" = true)
  (k1 : PySem.W.keepIn K (.ref f1) = true)
  (a2 : PySem.W.nsIn K mainGlobals "ratio" = some (some (.ref f2)))
  (l2 : K.lookup f2 = some ⟨oc2, od2, .func (PySem.W.fnOf "ratio" "ratio" (defArgs s_ratio) (defBody s_ratio) (defScope s_ratio) .none kV2 dc2 pm2 an2 cd2 ct2), sl2⟩)
  (c2 : PySem.W.codeIn K cd2 "ratio" = true)
  (k2 : PySem.W.keepIn K (.ref f2) = true)
  (a3 : PySem.W.nsIn K mainGlobals "times" = some (some (.ref f3)))
  (l3 : K.lookup f3 = some ⟨oc3, od3, .func (PySem.W.fnOf "times" "times" (defArgs s_times) (defBody s_times) (defScope s_times) .none kV3 dc3 pm3 an3 cd3 ct3), sl3⟩)
  (c3 : PySem.W.codeIn K cd3 "times" = true)
  (k3 : PySem.W.keepIn K (.ref f3) = true)
  (a4 : PySem.W.nsIn K mainGlobals "over" = some (some (.ref f4)))
  (l4 : K.lookup f4 = some ⟨oc4, od4, .func (PySem.W.fnOf "over" "over" (defArgs s_over) (defBody s_over) (defScope s_over) .none kV4 dc4 pm4 an4 cd4 ct4), sl4⟩)
  (c4 : PySem.W.codeIn K cd4 "over" = true)
  (k4 : PySem.W.keepIn K (.ref f4) = true)
  (a5 : PySem.W.nsIn K mainGlobals "under" = some (some (.ref f5)))
  (l5 : K.lookup f5 = some ⟨oc5, od5, .func (PySem.W.fnOf "under" "under" (defArgs s_under) (defBody s_under) (defScope s_under) .none kV5 dc5 pm5 an5 cd5 ct5), sl5⟩)
  (c5 : PySem.W.codeIn K cd5 "under" = true)
  (k5 : PySem.W.keepIn K (.ref f5) = true)
  (a6 : PySem.W.nsIn K mainGlobals "_law_signed" = some (some (.ref f6)))
  (l6 : K.lookup f6 = some ⟨oc6, od6, .func (PySem.W.fnOf "_law_signed" "_law_signed" (defArgs s_law_signed) (defBody s_law_signed) (defScope s_law_signed) .none kV6 dc6 pm6 an6 cd6 ct6), sl6⟩)
  (c6 : PySem.W.codeIn K cd6 "_law_signed" = true)
  (k6 : PySem.W.keepIn K (.ref f6) = true)
  (a7 : PySem.W.nsIn K mainGlobals "_law_common" = some (some (.ref f7)))
  (l7 : K.lookup f7 = some ⟨oc7, od7, .func (PySem.W.fnOf "_law_common" "_law_common" (defArgs s_law_common) (defBody s_law_common) (defScope s_law_common) .none kV7 dc7 pm7 an7 cd7 ct7), sl7⟩)
  (c7 : PySem.W.codeIn K cd7 "_law_common" = true)
  (k7 : PySem.W.keepIn K (.ref f7) = true)
  (a8 : PySem.W.nsIn K mainGlobals "_law_whole" = some (some (.ref f8)))
  (l8 : K.lookup f8 = some ⟨oc8, od8, .func (PySem.W.fnOf "_law_whole" "_law_whole" (defArgs s_law_whole) (defBody s_law_whole) (defScope s_law_whole) .none kV8 dc8 pm8 an8 cd8 ct8), sl8⟩)
  (c8 : PySem.W.codeIn K cd8 "_law_whole" = true)
  (k8 : PySem.W.keepIn K (.ref f8) = true)
  (a9 : PySem.W.nsIn K mainGlobals "_law_ratio" = some (some (.ref f9)))
  (l9 : K.lookup f9 = some ⟨oc9, od9, .func (PySem.W.fnOf "_law_ratio" "_law_ratio" (defArgs s_law_ratio) (defBody s_law_ratio) (defScope s_law_ratio) .none kV9 dc9 pm9 an9 cd9 ct9), sl9⟩)
  (c9 : PySem.W.codeIn K cd9 "_law_ratio" = true)
  (k9 : PySem.W.keepIn K (.ref f9) = true)
  (a10 : PySem.W.nsIn K mainGlobals "_law_same" = some (some (.ref f10)))
  (l10 : K.lookup f10 = some ⟨oc10, od10, .func (PySem.W.fnOf "_law_same" "_law_same" (defArgs s_law_same) (defBody s_law_same) (defScope s_law_same) .none kV10 dc10 pm10 an10 cd10 ct10), sl10⟩)
  (c10 : PySem.W.codeIn K cd10 "_law_same" = true)
  (k10 : PySem.W.keepIn K (.ref f10) = true)
  (a11 : PySem.W.nsIn K mainGlobals "_law_drawn" = some (some (.ref f11)))
  (l11 : K.lookup f11 = some ⟨oc11, od11, .func (PySem.W.fnOf "_law_drawn" "_law_drawn" (defArgs s_law_drawn) (defBody s_law_drawn) (defScope s_law_drawn) .none kV11 dc11 pm11 an11 cd11 ct11), sl11⟩)
  (c11 : PySem.W.codeIn K cd11 "_law_drawn" = true)
  (k11 : PySem.W.keepIn K (.ref f11) = true)
  (a12 : PySem.W.nsIn K mainGlobals "_law_refused" = some (some (.ref f12)))
  (l12 : K.lookup f12 = some ⟨oc12, od12, .func (PySem.W.fnOf "_law_refused" "_law_refused" (defArgs s_law_refused) (defBody s_law_refused) (defScope s_law_refused) .none kV12 dc12 pm12 an12 cd12 ct12), sl12⟩)
  (c12 : PySem.W.codeIn K cd12 "_law_refused" = true)
  (k12 : PySem.W.keepIn K (.ref f12) = true)
  (a13 : PySem.W.nsIn K mainGlobals "_law_over" = some (some (.ref f13)))
  (l13 : K.lookup f13 = some ⟨oc13, od13, .func (PySem.W.fnOf "_law_over" "_law_over" (defArgs s_law_over) (defBody s_law_over) (defScope s_law_over) .none kV13 dc13 pm13 an13 cd13 ct13), sl13⟩)
  (c13 : PySem.W.codeIn K cd13 "_law_over" = true)
  (k13 : PySem.W.keepIn K (.ref f13) = true)
  (a14 : PySem.W.nsIn K mainGlobals "_law_less" = some (some (.ref f14)))
  (l14 : K.lookup f14 = some ⟨oc14, od14, .func (PySem.W.fnOf "_law_less" "_law_less" (defArgs s_law_less) (defBody s_law_less) (defScope s_law_less) .none kV14 dc14 pm14 an14 cd14 ct14), sl14⟩)
  (c14 : PySem.W.codeIn K cd14 "_law_less" = true)
  (k14 : PySem.W.keepIn K (.ref f14) = true)
  (a15 : PySem.W.nsIn K mainGlobals "law" = some (some (.ref f15)))
  (l15 : K.lookup f15 = some ⟨oc15, od15, .func (PySem.W.fnOf "law" "law" (defArgs s_law) (defBody s_law) (defScope s_law) .none kV15 dc15 pm15 an15 cd15 ct15), sl15⟩)
  (c15 : PySem.W.codeIn K cd15 "law" = true)
  (k15 : PySem.W.keepIn K (.ref f15) = true)
  (z_isinstance : PySem.W.nsIn K mainGlobals "isinstance" = some none)
  (z_int : PySem.W.nsIn K mainGlobals "int" = some none)
  (z_bool : PySem.W.nsIn K mainGlobals "bool" = some none)
  (z_abs : PySem.W.nsIn K mainGlobals "abs" = some none)
  (z_tuple : PySem.W.nsIn K mainGlobals "tuple" = some none)
  (z_len : PySem.W.nsIn K mainGlobals "len" = some none)
  (z_ValueError : PySem.W.nsIn K mainGlobals "ValueError" = some none)
  (z_range : PySem.W.nsIn K mainGlobals "range" = some none) :
  ∃ fd : FuncData, (∀ (s : Shared) (v : Value), BindsTo s fd ⟨[v], []⟩ [("_law_script", v)]) ∧ ∀ base : Heap, K.In base → base.Ns mainGlobals mg → FnOk l.prog w K mg base (CXE l.prog w) 40 fa fd ["_law_script"] (spM K (caK K) 1 f_law) := by
  have e := hfa.symm.trans (PySem.W.mg_of X G a15)
  cases e
  have hC_NoRatio : caK K 1 = C_NoRatio := by show clsAt K "NoRatio" = _; unfold clsAt; rw [aC_NoRatio]
  have hC_YardError : caK K 2 = C_YardError := by show clsAt K "YardError" = _; unfold clsAt; rw [aC_YardError]
  have xm_NoRatio : mg "NoRatio" = some (.ref (caK K 1)) := by rw [hC_NoRatio]; exact PySem.W.mg_of X G aC_NoRatio
  have xm_YardError : mg "YardError" = some (.ref (caK K 2)) := by rw [hC_YardError]; exact PySem.W.mg_of X G aC_YardError
  have xk_NoRatio : ExK K (caK K 1) := by rw [hC_NoRatio]; exact ⟨ga_NoRatio, gh_NoRatio, gc_NoRatio, gt0, tk0, mo_NoRatio, mb_NoRatio⟩
  have xxq_NoRatio : PySem.W.excIn K (caK K 1) bmV "ValueError.__new__" = true := by rw [hC_NoRatio]; exact xq_NoRatio
  have xex_NoRatio : ∀ c b, sx_NoRatio c = some b → PySem.W.exmOne K (.ref (caK K c)) (.ref (caK K 1)) = some b := by
    intro c b h
    unfold sx_NoRatio at h
    split at h
    · cases h; exact (by rw [hC_NoRatio]; exact ex_NoRatio_NoRatio)
    · cases h
  have xex_YardError : ∀ c b, sx_YardError c = some b → PySem.W.exmOne K (.ref (caK K c)) (.ref (caK K 2)) = some b := by
    intro c b h
    unfold sx_YardError at h
    split at h
    · cases h; exact (by rw [hC_NoRatio, hC_YardError]; exact ex_YardError_NoRatio)
    · cases h
  have xiy_ValueError : ∀ c b, sy_ValueError c = some b → ExK K (caK K c) ∧ PySem.W.kitOne K (.ref (caK K c)) (.type "ValueError") = some b := by
    intro c b h
    unfold sy_ValueError at h
    split at h
    · cases h; exact ⟨xk_NoRatio, by rw [hC_NoRatio]; exact iy_ValueError_NoRatio⟩
    · cases h
  have F0 := fun_mk (st := s_is_whole) l0 c0 k0
  have F1 := fun_mk (st := s_measure_of_two) l1 c1 k1
  have F2 := fun_mk (st := s_ratio) l2 c2 k2
  have F3 := fun_mk (st := s_times) l3 c3 k3
  have F4 := fun_mk (st := s_over) l4 c4 k4
  have F5 := fun_mk (st := s_under) l5 c5 k5
  have F6 := fun_mk (st := s_law_signed) l6 c6 k6
  have F7 := fun_mk (st := s_law_common) l7 c7 k7
  have F8 := fun_mk (st := s_law_whole) l8 c8 k8
  have F9 := fun_mk (st := s_law_ratio) l9 c9 k9
  have F10 := fun_mk (st := s_law_same) l10 c10 k10
  have F11 := fun_mk (st := s_law_drawn) l11 c11 k11
  have F12 := fun_mk (st := s_law_refused) l12 c12 k12
  have F13 := fun_mk (st := s_law_over) l13 c13 k13
  have F14 := fun_mk (st := s_law_less) l14 c14 k14
  have F15 := fun_mk (st := s_law) l15 c15 k15
  refine ⟨PySem.W.fnOf "law" "law" (defArgs s_law) (defBody s_law) (defScope s_law) .none kV15 dc15 pm15 an15 cd15 ct15, fun s v => .of_eq rfl, fun base _ _ => ?_⟩
  have E_is_whole := ok_is_whole (P := l.prog) (w := w) (mg := mg) (base := base) (ca := caK K) F0 (PySem.W.mg_of X G a0) hpt (PySem.W.mg_none_of X G z_isinstance) (PySem.W.mg_none_of X G z_int) (PySem.W.mg_none_of X G z_bool)
  have E_measure_of_two := ok_measure_of_two (P := l.prog) (w := w) (mg := mg) (base := base) (ca := caK K) F1 (PySem.W.mg_of X G a1) hpt (PySem.W.mg_none_of X G z_abs)
  have E_ratio := ok_ratio (P := l.prog) (w := w) (mg := mg) (base := base) (ca := caK K) F2 (PySem.W.mg_of X G a2) hpt xxq_NoRatio xm_NoRatio E_is_whole.in E_measure_of_two.in
  have E_times := ok_times (P := l.prog) (w := w) (mg := mg) (base := base) (ca := caK K) F3 (PySem.W.mg_of X G a3) hpt E_ratio.in
  have E_over := ok_over (P := l.prog) (w := w) (mg := mg) (base := base) (ca := caK K) F4 (PySem.W.mg_of X G a4) hpt E_ratio.in
  have E_under := ok_under (P := l.prog) (w := w) (mg := mg) (base := base) (ca := caK K) F5 (PySem.W.mg_of X G a5) hpt
  have E_law_signed := ok_law_signed (P := l.prog) (w := w) (mg := mg) (base := base) (ca := caK K) F6 (PySem.W.mg_of X G a6) hpt
  have E_law_common := ok_law_common (P := l.prog) (w := w) (mg := mg) (base := base) (ca := caK K) F7 (PySem.W.mg_of X G a7) hpt (PySem.W.mg_none_of X G z_abs)
  have E_law_whole := ok_law_whole (P := l.prog) (w := w) (mg := mg) (base := base) (ca := caK K) F8 (PySem.W.mg_of X G a8) hpt (PySem.W.mg_none_of X G z_isinstance) (PySem.W.mg_none_of X G z_int) (PySem.W.mg_none_of X G z_bool)
  have E_law_ratio := ok_law_ratio (P := l.prog) (w := w) (mg := mg) (base := base) (ca := caK K) F9 (PySem.W.mg_of X G a9) hpt E_law_common.in
  have E_law_same := ok_law_same (P := l.prog) (w := w) (mg := mg) (base := base) (ca := caK K) F10 (PySem.W.mg_of X G a10) hpt (PySem.W.mg_none_of X G z_isinstance) (PySem.W.mg_none_of X G z_tuple) (PySem.W.mg_none_of X G z_len) E_law_whole.in
  have E_law_drawn := ok_law_drawn (P := l.prog) (w := w) (mg := mg) (base := base) (ca := caK K) F11 (PySem.W.mg_of X G a11) hpt E_law_signed.in E_law_ratio.in
  have E_law_refused := ok_law_refused (P := l.prog) (w := w) (mg := mg) (base := base) (ca := caK K) F12 (PySem.W.mg_of X G a12) hpt (PySem.W.mg_none_of X G z_isinstance) (PySem.W.mg_none_of X G z_ValueError) xm_NoRatio xex_NoRatio xm_YardError xex_YardError xiy_ValueError E_over.in
  have E_law_over := ok_law_over (P := l.prog) (w := w) (mg := mg) (base := base) (ca := caK K) F13 (PySem.W.mg_of X G a13) hpt E_law_refused.in E_law_same.in E_over.in E_law_ratio.in
  have E_law_less := ok_law_less (P := l.prog) (w := w) (mg := mg) (base := base) (ca := caK K) F14 (PySem.W.mg_of X G a14) hpt (PySem.W.mg_none_of X G z_isinstance) (PySem.W.mg_none_of X G z_bool) E_under.in
  have E_law := ok_law (P := l.prog) (w := w) (mg := mg) (base := base) (ca := caK K) F15 (PySem.W.mg_of X G a15) hpt (PySem.W.mg_none_of X G z_len) (PySem.W.mg_none_of X G z_range) E_law_drawn.in E_law_ratio.in E_law_same.in E_times.in E_law_over.in E_law_less.in
  exact E_law.1
end Lk04
open PySem PySem.W PyProof.Rows
set_option maxRecDepth 100000 in
set_option maxHeartbeats 0 in
theorem PySem.Challenge.cw_modeyard_k04_times_over_under_holds : PySem.Challenge.rw_modeyard_k04_times_over_under.Holds := by
  w_on; o_law; k_head; (case hw => w_witness2)
  k_fill
  refine L2.walk_ofE (l := PySem.Challenge.rw_modeyard_k04_times_over_under) (n := 63) (k := 40) (x := "_law_script") (sp := fun K => M.spM K (Lk04.caK K) 1 Lk04.f_law) rfl (by decide) rfl ⟨rfl, by decide, by decide⟩ (by decide +kernel) (fun w h Y => PySem.W.kIn_of Y) ?F ?S
  case F =>
    intro w mg fa h KX G hmg
    refine' Lk04.all_mk KX G hmg rfl ?aC_NoRatio ?aC_YardError ?gt0 ?tk0 ?ga_NoRatio ?gh_NoRatio ?gc_NoRatio ?mo_NoRatio ?mb_NoRatio ?xq_NoRatio ?ex_NoRatio_NoRatio ?ex_YardError_NoRatio ?iy_ValueError_NoRatio ?a0 ?l0 ?c0 ?k0 ?a1 ?l1 ?c1 ?k1 ?a2 ?l2 ?c2 ?k2 ?a3 ?l3 ?c3 ?k3 ?a4 ?l4 ?c4 ?k4 ?a5 ?l5 ?c5 ?k5 ?a6 ?l6 ?c6 ?k6 ?a7 ?l7 ?c7 ?k7 ?a8 ?l8 ?c8 ?k8 ?a9 ?l9 ?c9 ?k9 ?a10 ?l10 ?c10 ?k10 ?a11 ?l11 ?c11 ?k11 ?a12 ?l12 ?c12 ?k12 ?a13 ?l13 ?c13 ?k13 ?a14 ?l14 ?c14 ?k14 ?a15 ?l15 ?c15 ?k15 ?z_isinstance ?z_int ?z_bool ?z_abs ?z_tuple ?z_len ?z_ValueError ?z_range
    (case aC_NoRatio => k_is)
    (case aC_YardError => k_is)
    (case gt0 => k_is)
    (case tk0 => k_is)
    (case ga_NoRatio => k_is)
    (case gh_NoRatio => k_is)
    (case gc_NoRatio => k_is)
    (case mo_NoRatio => k_is)
    (case mb_NoRatio => k_is)
    (case xq_NoRatio => k_exc)
    (case ex_NoRatio_NoRatio => kts_exm)
    (case ex_YardError_NoRatio => kts_exm)
    (case iy_ValueError_NoRatio => kit_is)
    (case a0 => k_is)
    (case l0 => k_is)
    (case c0 => k_is)
    (case k0 => k_is)
    (case a1 => k_is)
    (case l1 => k_is)
    (case c1 => k_is)
    (case k1 => k_is)
    (case a2 => k_is)
    (case l2 => k_is)
    (case c2 => k_is)
    (case k2 => k_is)
    (case a3 => k_is)
    (case l3 => k_is)
    (case c3 => k_is)
    (case k3 => k_is)
    (case a4 => k_is)
    (case l4 => k_is)
    (case c4 => k_is)
    (case k4 => k_is)
    (case a5 => k_is)
    (case l5 => k_is)
    (case c5 => k_is)
    (case k5 => k_is)
    (case a6 => k_is)
    (case l6 => k_is)
    (case c6 => k_is)
    (case k6 => k_is)
    (case a7 => k_is)
    (case l7 => k_is)
    (case c7 => k_is)
    (case k7 => k_is)
    (case a8 => k_is)
    (case l8 => k_is)
    (case c8 => k_is)
    (case k8 => k_is)
    (case a9 => k_is)
    (case l9 => k_is)
    (case c9 => k_is)
    (case k9 => k_is)
    (case a10 => k_is)
    (case l10 => k_is)
    (case c10 => k_is)
    (case k10 => k_is)
    (case a11 => k_is)
    (case l11 => k_is)
    (case c11 => k_is)
    (case k11 => k_is)
    (case a12 => k_is)
    (case l12 => k_is)
    (case c12 => k_is)
    (case k12 => k_is)
    (case a13 => k_is)
    (case l13 => k_is)
    (case c13 => k_is)
    (case k13 => k_is)
    (case a14 => k_is)
    (case l14 => k_is)
    (case c14 => k_is)
    (case k14 => k_is)
    (case a15 => k_is)
    (case l15 => k_is)
    (case c15 => k_is)
    (case k15 => k_is)
    (case z_isinstance => k_is)
    (case z_int => k_is)
    (case z_bool => k_is)
    (case z_abs => k_is)
    (case z_tuple => k_is)
    (case z_len => k_is)
    (case z_ValueError => k_is)
    (case z_range => k_is)
  case S => exact fun K H a ns hl _ hS => M.law_sp hS (Lk04.law_true ns hl)
