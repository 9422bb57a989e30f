import PyProof.Rows.All
import Wide.All
import OpenK.AllK
import Wide.FinOn
import Lean
import PyProof.EqAt
import PyProof.EqKinds
import PyProof.TupleCall
import PySem.Challenge.RW_modeyard_k21_lone_ways
set_option Elab.async false
set_option linter.all false
set_option maxRecDepth 100000
namespace L2
open PySem PySem.Spec PyProof.Rows
abbrev Key:=Sum Int Str
def IC:Key->Value->Bool
 | .inl k,v=>Value.isInt k v
 | .inr x,v=>Value.isStrOf x v
def NA(w:World):Key->Int
 | .inl k=>hashInt k
 | .inr x=>hashStr w x
theorem fe:∀{k:Key} {v:Value},IC k v=true->(∃i t,k=Sum.inl i/\v=Value.int i t)\/(∃x t,k=Sum.inr x/\v=Value.str x t)
 | .inl i,v,h=>by
  obtain⟨t,e⟩:=Value.isInt_shape (k:=i) (v:=v) h
  exact .inl ⟨i,t,rfl,e⟩
 | .inr x,v,h=>by
  obtain⟨t,e⟩:=Value.isStrOf_shape (x:=x) (v:=v) h
  exact .inr ⟨x,t,rfl,e⟩
theorem Ll(a b:Int):decide ((Sum.inl a:Key)=Sum.inl b)=(a == b):=by
 by_cases e:a=b
 ·subst e;simp
 ·have h:¬(Sum.inl a:Key)=Sum.inl b:=λq=>e (Sum.inl.inj q)
  rw[decide_eq_false h]
  exact(beq_eq_false_iff_ne.mpr e).symm
theorem L6(a b:Str):decide ((Sum.inr a:Key)=Sum.inr b)=decide (a=b):=by
 by_cases e:a=b
 ·subst e;simp
 ·have h:¬(Sum.inr a:Key)=Sum.inr b:=λq=>e (Sum.inr.inj q)
  rw[decide_eq_false h,decide_eq_false e]
theorem Lm(a:Int)(b:Str):decide ((Sum.inl a:Key)=Sum.inr b)=false:=decide_eq_false (λq=>nomatch q)
theorem LJ(a:Str)(b:Int):decide ((Sum.inr a:Key)=Sum.inl b)=false:=decide_eq_false (λq=>nomatch q)
def wo(prog:Program)(w:World):PySem.KeyKind prog w Key where
 is:=IC
 hash:=NA w
 inj:=λv a b ha hb=>by
  rcases fe ha with⟨i,t,rfl,rfl⟩ | ⟨x,t,rfl,rfl⟩
  ·rcases fe hb with⟨j,u,rfl,e⟩ | ⟨y,u,rfl,e⟩
   ·injection e with e1 _;rw[e1]
   ·exact nomatch e
  ·rcases fe hb with⟨j,u,rfl,e⟩ | ⟨y,u,rfl,e⟩
   ·exact nomatch e
   ·injection e with e1 _;rw[e1]
 byValue:=λk v h=>by
  rcases fe h with⟨i,t,rfl,rfl⟩ | ⟨x,t,rfl,rfl⟩ <;> rfl
 pyHash:=λhv h=>by
  rcases fe hv with⟨i,t,rfl,rfl⟩ | ⟨x,t,rfl,rfl⟩
  ·exact wpAny_pyHash_int h
  ·exact wpAny_pyHash_str h
 eqBool:=λhu hv h=>by
  rcases fe hu with⟨i,t,rfl,rfl⟩ | ⟨x,t,rfl,rfl⟩
  ·rcases fe hv with⟨j,u,rfl,rfl⟩ | ⟨y,u,rfl,rfl⟩
   ·rw[Ll] at h;exact wpAny_eqBool_int h
   ·rw[Lm] at h;exact SeqAt.EqAt.int_str i t y u _ _ _ _ h
  ·rcases fe hv with⟨j,u,rfl,rfl⟩ | ⟨y,u,rfl,rfl⟩
   ·rw[LJ] at h;exact SeqAt.EqAt.str_int x t j u _ _ _ _ h
   ·rw[L6] at h;exact wpAny_eqBool_str h
 «strs»:=λk x t v h=>by
  rcases fe h with⟨i,u,rfl,e⟩ | ⟨y,u,rfl,e⟩
  ·exact nomatch e
  ·injection e with e1 _
   subst e1
   cases v <;> rfl
end L2
namespace L2
open PySem PySem.Spec PyProof.Rows
inductive V where
 | non | bl (b:Bool) | int (i:Int) | str (x:Str) | byt (b:Array UInt8) | flt (b:UInt64) | ref (a:Addr) | ty (n:String)
 deriving DecidableEq
def RelV:V->Value->Prop
 | .non,u=>u=Value.none
 | .bl b,u=>u=Value.bool b
 | .int i,u=>∃t,u=Value.int i t
 | .str x,u=>∃t,u=Value.str x t
 | .byt b,u=>∃t,u=Value.bytes b t
 | .flt b,u=>∃t,u=Value.float b t
 | .ref a,u=>u=Value.ref a
 | .ty n,u=>u=Value.type n
abbrev Vals:List V->List Value->Prop:=Paired RelV
theorem Vals.length{xs:List V}{us:List Value}(r:Vals xs us):xs.length=us.length:=Paired.length r
theorem Vals.get:∀{xs:List V} {us:List Value} {i:Nat} {x:V},Vals xs us->xs[i]? =some x->∃u,us[i]? =some u/\RelV x u
 | _,_,_,_,.nil,e=>by simp at e
 | _,_,0,_,.cons r _,e=>by simp at e;subst e;exact⟨_,rfl,r⟩
 | _,_,i+1,x,.cons _ t,e=>by
  obtain⟨u,h1,h2⟩:=Vals.get (i:=i) (x:=x) t (by simpa using e)
  exact⟨u,by simpa using h1,h2⟩
theorem Vals.set{x:V}{u:Value}(r:RelV x u):∀{xs:List V} {us:List Value} (i:Nat),Vals xs us->Vals (xs.set i x) (us.set i u)
 | _,_,_,.nil=>.nil
 | _,_,0,.cons _ t=>.cons r t
 | _,_,i+1,.cons q t=>.cons q (Vals.set r i t)
theorem Vals.append:∀{xs ys:List V} {us ws:List Value},Vals xs us->Vals ys ws->Vals (xs++ys) (us++ws)
 | _,_,_,_,.nil,s=>s
 | _,_,_,_,.cons r t,s=>.cons r (Vals.append t s)
theorem Vals.take:∀{xs:List V} {us:List Value} (n:Nat),Vals xs us->Vals (xs.take n) (us.take n)
 | _,_,0,_=>.nil
 | _,_,_+1,.nil=>.nil
 | _,_,n+1,.cons r t=>.cons r (Vals.take n t)
theorem Vals.drop:∀{xs:List V} {us:List Value} (n:Nat),Vals xs us->Vals (xs.drop n) (us.drop n)
 | _,_,0,r=>r
 | _,_,_+1,.nil=>.nil
 | _,_,n+1,.cons _ t=>Vals.drop n t
theorem Vals.none_of:∀{xs:List V} {us:List Value} {i:Nat},Vals xs us->xs[i]? =none->us[i]? =none:=λ{xs us i} r e=>by
 have h1:=r.length
 have h2:xs.length<=i:=List.getElem?_eq_none_iff.mp e
 exact List.getElem?_eq_none_iff.mpr (by omega)
def pf:Option V->Option Value->Prop
 | some v,some u=>RelV v u
 | none,none=>True
 | _,_=>False
def KV{κ:Type}:List (κ×V)->List (κ×Value)->Prop:=Paired λ(p:κ×V) (q:κ×Value)=>p.1=q.1/\RelV p.2 q.2
def kV:Key->V
 | .inl i=>.int i
 | .inr x=>.str x
inductive HO where
 | lst (xs:List V)
 | tup (xs:List V)
 | dK (kvs:List (Key×V)) | dT (kvs:List (List Key×V))
 | set (S:Int->Bool) (n:Nat)
 | ins (C dx:Addr) (fs:List (Str×V))
 | own (x:Addr)
 | xd (fs:List (Str×V))
 | met (f x:Addr)
 | rng (lo hi:Int)
 | frz (o:Obj) (u:HO)
 | tbl (ps:Array Value)
 | ext (φ:Heap->Prop)
abbrev Hp:=Addr->Option HO
def upd(H:Hp)(a:Addr)(o:HO):Hp:=λb=>if b=a then some o else H b
theorem cV{H:Hp}{a:Addr}{o:HO}:upd H a o a=some o:=by unfold upd;rw[if_pos rfl]
theorem aS{H:Hp}{a b:Addr}{o:HO}(h:b≠a):upd H a o b=H b:=by unfold upd;rw[if_neg h]
theorem fb{H:Hp}{a b:Addr}{o:HO}(h:H a=some o)(h':H b=none):a≠b:=by
 intro e;subst e;rw[h] at h';cases h'
section
variable (P : Program) (w : World)
def gd(H:Hp)(h:Heap)(a:Addr):HO->Prop
 | .lst xs=>xs.length<=sizeLine/\∃(its:List Value) (n:Nat),Vals xs its/\h.get? a=some {cls:=.type "list",data:=.seq its.toArray n}
 | .tup xs=>xs.length<=sizeLine/\∃its:List Value,Vals xs its/\IsTup h a its.toArray
 | .dK kvs=>kvs.length<=sizeLine/\(a == sysModules)=false/\∃vs,KV kvs vs/\h.DictOf (wo P w) a vs
 | .dT kvs=>kvs.length<=sizeLine/\(a == sysModules)=false/\∃xs:List (List Key×Addr×Value),
  Paired (λ(p:List Key×V) (q:List Key×Addr×Value)=>p.1=q.1/\H q.2.1=some (.tup (p.1.map kV))/\RelV p.2 q.2.2) kvs xs/\
  ∃o es ep,h.get? a=some o/\o.ExactDict/\o.data=.dict es ep/\es.toList=xs.map (entryOfKey (tupleKind (wo P w)))/\(xs.map (·.1)).Nodup
 | .set S n=>h.SetOf (intKind P w) a S n
 | .ins C dx fs=>H dx=some (.own a)/\fs.length<=1000/\dx≠a/\h.get? a=some (PySem.W.instObj C dx)/\
  ∃mA,h.Ns1 dx mA/\(∀f,pf (fs.lookup f) (mA f))/\PySem.Within mA (fs.map (·.1))
 | .own _=>∃o,h.get? a=some o
 | .xd fs=>∃mA,h.Ns1 a mA/\∀f,pf (fs.lookup f) (mA f)
 | .rng lo hi=>∃t u v,h.get? a=some {cls:=.type "range",data:=.fields #[.int lo t,.int hi u,.int 1 v]}
 | .frz o u=>h.get? a=some o/\gd H h a u
 | .tbl ps=>h.get? a=some {cls:=.none,data:=.fields ps}
 | .met f x=>h.get? a=some (PySem.W.methodObj (.ref f) (.ref x))
 | .ext φ=>φ h/\(∃o,h.get? a=some o)/\∀h1 h2:Heap,φ h1->(∀o,h1.get? a=some o->h2.get? a=some o)->φ h2
def HOk(H:Hp)(h:Heap):Prop:=∀a o,H a=some o->gd P w H h a o
end
section
variable {P : Program} {w : World} {H H' : Hp} {h h' : Heap} {a : Addr} {o : HO}
theorem gd.lt(x:gd P w H h a o):a<h.objs.size:=by
 cases o with
 | lst xs=>obtain⟨_,_,_,_,e⟩:=x;exact Heap.lt_size e
 | tup xs=>obtain⟨_,_,_,p⟩:=x;exact p.lt
 | dK kvs=>obtain⟨_,_,_,_,o,_,_,e,_⟩:=x;exact Heap.lt_size e
 | dT kvs=>obtain⟨_,_,_,_,o,_,_,e,_⟩:=x;exact Heap.lt_size e
 | set S n=>obtain⟨o,_,_,_,e,_⟩:=x;exact Heap.lt_size e
 | ins C dx fs=>obtain⟨_,_,_,e,_⟩:=x;exact Heap.lt_size e
 | own y=>obtain⟨_,e⟩:=x;exact Heap.lt_size e
 | xd fs=>obtain⟨_,⟨_,_,_,e,_⟩,_⟩:=x;exact Heap.lt_size e
 | rng lo hi=>obtain⟨_,_,_,e⟩:=x;exact Heap.lt_size e
 | frz ob u=>obtain⟨e,_⟩:=x;exact Heap.lt_size e
 | tbl ps=>exact Heap.lt_size (show h.get? a=some _ from x)
 | met f y=>exact Heap.lt_size (show h.get? a=some _ from x)
 | ext φ=>obtain⟨_,⟨_,e⟩,_⟩:=x;exact Heap.lt_size e
theorem Paired.mapP{α β:Type}{F G:α->β->Prop}:∀{l₁:List α} {l₂:List β},Paired F l₁ l₂->(∀a b,F a b->G a b)->Paired G l₁ l₂
 | _,_,.nil,_=>.nil
 | _,_,.cons r t,f=>.cons (f _ _ r) (Paired.mapP t f)
theorem gd.stay (x:gd P w H h a o) (k:∀b u,(b=a\/H b=some (.own a))->h.get? b=some u->h'.get? b=some u)
 (ho:∀b,H b=some (.own a)->H' b=some (.own a)) (ht:∀b xs,H b=some (.tup xs)->H' b=some (.tup xs)):gd P w H' h' a o:=by
 induction o with
 | lst xs=>obtain⟨z,its,n,r,e⟩:=x;exact⟨z,its,n,r,k _ _ (.inl rfl) e⟩
 | tup xs=>obtain⟨z,its,r,ob,e,c⟩:=x;exact⟨z,its,r,ob,k _ _ (.inl rfl) e,c⟩
 | dK kvs=>obtain⟨z,y,vs,r,ob,es,ep,e,c⟩:=x;exact⟨z,y,vs,r,ob,es,ep,k _ _ (.inl rfl) e,c⟩
 | dT kvs=>
  obtain⟨z,y,xs,r,ob,es,ep,e,c⟩:=x
  exact⟨z,y,xs,Paired.mapP r λp q z=>⟨z.1,ht _ _ z.2.1,z.2.2⟩,ob,es,ep,k _ _ (.inl rfl) e,c⟩
 | set S n=>obtain⟨ob,es,ep,t,e,c⟩:=x;exact⟨ob,es,ep,t,k _ _ (.inl rfl) e,c⟩
 | ins C dx fs=>
  obtain⟨d,z,ne,e,mA,⟨od,es,ep,e2,c⟩,r⟩:=x
  exact⟨ho _ d,z,ne,k _ _ (.inl rfl) e,mA,⟨od,es,ep,k _ _ (.inr d) e2,c⟩,r⟩
 | own y=>obtain⟨ob,e⟩:=x;exact⟨ob,k _ _ (.inl rfl) e⟩
 | xd fs=>obtain⟨mA,⟨od,es,ep,e,c⟩,r⟩:=x;exact⟨mA,⟨od,es,ep,k _ _ (.inl rfl) e,c⟩,r⟩
 | rng lo hi=>obtain⟨t,u,v,e⟩:=x;exact⟨t,u,v,k _ _ (.inl rfl) e⟩
 | frz ob u ih=>obtain⟨e,q⟩:=x;exact⟨k _ _ (.inl rfl) e,ih q⟩
 | tbl ps=>
  have e:h.get? a=some {cls:=.none,data:=.fields ps}:=x
  show h'.get? a=some {cls:=.none,data:=.fields ps}
  exact k a _ (.inl rfl) e
 | met f y=>
  have e:h.get? a=some (PySem.W.methodObj (.ref f) (.ref y)):=x
  show h'.get? a=some (PySem.W.methodObj (.ref f) (.ref y))
  exact k a _ (.inl rfl) e
 | ext φ=>obtain⟨p,⟨o,e⟩,st⟩:=x;exact⟨st _ _ p λo q=>k _ _ (.inl rfl) q,⟨o,k _ _ (.inl rfl) e⟩,st⟩
theorem HOk.lt(x:HOk P w H h)(e:H a=some o):a<h.objs.size:=(x a o e).lt
theorem HOk.fresh(x:HOk P w H h)(e:h.objs.size<=a):H a=none:=by
 cases q:H a with
 | none=>rfl
 | some u=>exact absurd (Nat.lt_of_lt_of_le (x.lt q) e) (Nat.lt_irrefl _)
theorem HOk.kept(x:HOk P w H h)(k:∀b u,h.get? b=some u->h'.get? b=some u):HOk P w H h':=λa o e=>
 (x a o e).stay (λb u _ q=>k b u q) (λ_ q=>q) λ_ _ q=>q
theorem HOk.laid(x:HOk P w H h)(k:∀b u,h.get? b=some u->h'.get? b=some u)(hp:h.objs.size<=a)(new:gd P w (upd H a o) h' a o):HOk P w (upd H a o) h':=λb u e=>by
 have hn:=x.fresh hp
 by_cases hb:b=a
 ·subst hb;rw[cV] at e;cases e;exact new
 ·rw[aS hb] at e
  exact(x b u e).stay (λc v _ q=>k c v q) (λc q=>by rw[aS (fb q hn)];exact q) λc xs q=>by rw[aS (fb q hn)];exact q
end
def Rd(H:Hp)(a:Addr)(u:HO):Prop:=H a=some u\/∃o,H a=some (.frz o u)
theorem Rd.of{H:Hp}{a:Addr}{u:HO}(h:H a=some u):Rd H a u:=.inl h
theorem Rd.ok{P:Program}{w:World}{H:Hp}{h:Heap}{a:Addr}{u:HO}(r:Rd H a u)(x:HOk P w H h):gd P w H h a u:=by
 rcases r with r | ⟨o,r⟩
 ·exact x a u r
 ·obtain⟨_,q⟩:=x a _ r
  exact q
def Mut:Option HO->Prop
 | some (.lst _)=>True
 | some (.dK _)=>True
 | some (.dT _)=>True
 | some (.set _ _)=>True
 | some (.ins _ _ _)=>True
 | some (.ext _)=>True
 | _=>False
section
variable {P : Program} {w : World} {H : Hp} {h h' : Heap} {x e : Addr} {o' : HO}
theorem HOk.write (ok:HOk P w H h) (mu:Mut (H x)) (he:e=x\/H e=some (.own x)) (k:∀b u,b≠e->h.get? b=some u->h'.get? b=some u) (heo:∃u,h'.get? e=some u)
 (new:gd P w (upd H x o') h' x o'):HOk P w (upd H x o') h':=λb u q=>by
 have nown:∀c y,H c=some (.own y)->c≠x:=λc y r z=>by subst z;rw[r] at mu;exact mu
 have ntup:∀c xs,H c=some (.tup xs)->c≠x:=λc xs r z=>by subst z;rw[r] at mu;exact mu
 by_cases hb:b=x
 ·subst hb;rw[cV] at q;cases q;exact new
 ·rw[aS hb] at q
  by_cases hbe:b=e
  ·have q':H b=some (.own x):=by
    rcases he with z | z
    ·exact absurd (hbe.trans z) hb
    ·rw[hbe];exact z
   rw[q] at q';cases q'
   obtain⟨v,hv⟩:=heo
   exact⟨v,by rw[hbe];exact hv⟩
  ·refine(ok b u q).stay (λc v hc r=>k c v ?_ r) (λc r=>by rw[aS (nown c b r)];exact r) λc xs r=>by rw[aS (ntup c xs r)];exact r
   rcases hc with rfl | hc
   ·exact hbe
   ·rintro rfl
    rcases he with z | z
    ·exact nown c b hc z
    ·rw[hc] at z;cases z;exact hb rfl
end
structure Un(fs ex:List Addr)(H H':Hp)(h h':Heap):Prop where
 keep:∀b o,h.get? b=some o->H b=none->b∉fs->b∉ex->h'.get? b=some o
 slot:∀b o,h.get? b=some o->H b=none->b∈fs->b∉ex->∃sl,h'.get? b=some {o with slots:=sl}
 free:∀b o,h.get? b=some o->H b=none->b∉ex->H' b=none
 there:∀b o,h.get? b=some o->b∉ex->∃o',h'.get? b=some o'
 tups:∀b xs,H b=some (.tup xs)->H' b=some (.tup xs)
 frzs:∀b o u,H b=some (.frz o u)->H' b=some (.frz o u)
 tbls:∀b ps,H b=some (.tbl ps)->∃more,H' b=some (.tbl (ps++more))
section
variable {fs fs' ex ex' : List Addr} {H H1 H2 : Hp} {h h1 h2 h' : Heap} {a x e : Addr} {o : HO}
theorem Un.any(u:Un fs ex H H1 h h1){b:Addr}{ob:Obj}(q:h.get? b=some ob)(n:H b=none)(hx:b∉ex):∃sl,h1.get? b=some {ob with slots:=sl}:=by
 by_cases hb:b∈fs
 ·exact u.slot b ob q n hb hx
 ·exact⟨ob.slots,u.keep b ob q n hb hx⟩
theorem Un.trans(a:Un fs ex H H1 h h1)(b:Un fs ex H1 H2 h1 h2):Un fs ex H H2 h h2 where
 keep:=λc ob q n hc hx=>b.keep c ob (a.keep c ob q n hc hx) (a.free c ob q n hx) hc hx
 slot:=λc ob q n hc hx=>by
  obtain⟨sl,e1⟩:=a.slot c ob q n hc hx
  obtain⟨sl',e2⟩:=b.slot c _ e1 (a.free c ob q n hx) hc hx
  exact⟨sl',e2⟩
 free:=λc ob q n hx=>by
  obtain⟨o',e1⟩:=a.there c ob q hx
  exact b.free c o' e1 (a.free c ob q n hx) hx
 there:=λc ob q hx=>by
  obtain⟨o',e1⟩:=a.there c ob q hx
  exact b.there c o' e1 hx
 tups:=λc xs q=>b.tups c xs (a.tups c xs q)
 frzs:=λc ob xs q=>b.frzs c ob xs (a.frzs c ob xs q)
 tbls:=λc ps q=>by
  obtain⟨m1,e1⟩:=a.tbls c ps q
  obtain⟨m2,e2⟩:=b.tbls c _ e1
  exact⟨m1++m2,by rw[e2,Array.append_assoc]⟩
theorem Un.kept(k:∀b u,h.get? b=some u->h'.get? b=some u):Un fs ex H H h h':=
 ⟨λb ob q _ _ _=>k b ob q,λb ob q _ _ _=>⟨ob.slots,k b ob q⟩,λ_ _ _ n _=>n,λb ob q _=>⟨ob,k b ob q⟩,λ_ _ q=>q,λ_ _ _ q=>q,λ_ ps q=>⟨#[],by rw[q];simp⟩⟩
theorem Un.refl:Un fs ex H H h h:=Un.kept λ_ _ q=>q
theorem Un.laid(k:∀b u,h.get? b=some u->h'.get? b=some u)(hp:h.objs.size<=a)(hn:H a=none):Un fs ex H (upd H a o) h h' where
 keep:=λb u q _ _ _=>k b u q
 slot:=λb u q _ _ _=>⟨u.slots,k b u q⟩
 free:=λb u q n _=>by rw[aS (Nat.ne_of_lt (Nat.lt_of_lt_of_le (Heap.lt_size q) hp))];exact n
 there:=λb u q _=>⟨u,k b u q⟩
 tups:=λb xs q=>by rw[aS (fb q hn)];exact q
 frzs:=λb u xs q=>by rw[aS (fb q hn)];exact q
 tbls:=λb ps q=>⟨#[],by rw[aS (fb q hn),q];simp⟩
theorem Un.write(mu:Mut (H x))(he:e=x\/H e=some (.own x))(k:∀b u,b≠e->h.get? b=some u->h'.get? b=some u)(heo:∃u,h'.get? e=some u):Un fs ex H (upd H x o) h h':=by
 have hx:∀b,H b=none->b≠x:=λb n z=>by subst z;rw[n] at mu;exact mu
 have hb:∀b,H b=none->b≠e:=λb n z=>by
  subst z
  rcases he with r | r
  ·exact hx b n r
  ·rw[n] at r;cases r
 have hm:∀b u,H b=some u->¬Mut (some u)->b≠x:=λb u q nm z=>by subst z;rw[q] at mu;exact nm mu
 refine⟨λb u q n _ _=>k b u (hb b n) q,λb u q n _ _=>⟨u.slots,k b u (hb b n) q⟩,λb u q n _=>by rw[aS (hx b n)];exact n,λb u q _=> ?_,
  λb xs q=>by rw[aS (hm b _ q λz=>z)];exact q,λb u xs q=>by rw[aS (hm b _ q λz=>z)];exact q,λb ps q=>⟨#[],by rw[aS (hm b _ q λz=>z),q];simp⟩⟩
 by_cases hbe:b=e
 ·subst hbe;exact heo
 ·exact⟨u,k b u hbe q⟩
theorem Un.mono(u:Un fs ex H H1 h h1)(hs:∀b∈fs,b∈fs')(hx:∀b∈ex,b∈ex'):Un fs' ex' H H1 h h1:=
 ⟨λb ob q n hb he=>u.keep b ob q n (λz=>hb (hs b z)) λz=>he (hx b z),λ_ _ q n _ he=>u.any q n λz=>he (hx _ z),λb ob q n he=>u.free b ob q n λz=>he (hx b z),λb ob q he=>u.there b ob q λz=>he (hx b z),u.tups,u.frzs,u.tbls⟩
end
def trk(h:Heap)(H:Hp):List Addr:=(List.range h.objs.size).filter λa=>(H a).isSome
def pB(h:Heap)(H:Hp):Heap:=PySem.W.hideAll h (trk h H)
theorem EH(h:Heap)(H:Hp):(pB h H).objs.size=h.objs.size:=PySem.W.hideAll_size _ _
theorem Hu{h:Heap}{H:Hp}{b:Addr}{o:Obj}(e:h.get? b=some o)(n:H b=none):(pB h H).get? b=some o:=
 PySem.W.hideAll_get _ e λhm=>by
  have q:(H b).isSome=true:=(List.mem_filter.mp hm).2
  rw[n] at q;simp at q
theorem JA{h:Heap}{H:Hp}{b:Addr}{o:Obj}(e:(pB h H).get? b=some o):h.get? b=some o/\H b=none:=by
 have e':h.get? b=some o:=PySem.W.of_hideAll (trk h H) e
 refine⟨e', ?_⟩
 cases q:H b with
 | none=>rfl
 | some x=>
  have hm:b∈trk h H:=List.mem_filter.mpr ⟨List.mem_range.mpr (Heap.lt_size e'),by simp[q]⟩
  have z:(pB h H).get? b=none:=PySem.W.hideAll_none (trk h H) hm
  rw[z] at e;cases e
def JF(g h:Heap)(L:Addr):List (Addr×Obj):=(List.range h.objs.size).filterMap λa=>if a=L\/(g.get? a).isSome=true then none else (h.get? a).map λo=>(a,o)
def rest(g h:Heap)(L d:Addr):List (Addr×Obj):=(JF g h L).filter λp=>decide (p.1≠d)
end L2
namespace L2
open PySem PySem.Spec PyProof.Rows
structure Mod(K:PySem.W.Frag)(mg:Str->Option Value)(base:Heap):Prop where
 kin:K.In base
 glob:base.Ns mainGlobals mg
 blt:∃mb,base.Ns builtinsNs mb/\∀x:Str,x≠"__name__" ->mb x=bootBuiltins x
 nolimit:base.NoLimit
 seer:base.NoSeer
structure Cx where
 prog:Program
 w:World
 K:PySem.W.Frag
 mg:Str->Option Value
 base:Heap
 A:Around
 N:List Str
 s₀:Shared
 H₀:Hp
 env:Env
 outer:List Env
 stack:List Env
 ex:List Addr
 fn:Str->Bool
 calm:Bool
 pn:List (Addr×Obj)
 xe:Value->Shared->Prop
def frs(l:List Env):List Addr:=l.filterMap (·.frame)
abbrev Cx.fs(X:Cx):List Addr:=frs X.outer
def Vis(sc:Scope)(x:Str):Prop:=sc.names.lookup x=some .local\/sc.names.lookup x=some .cell\/sc.names.lookup x=some .free
def Loc(sc:Scope)(x:Str):Prop:=sc.names.lookup x=some .local\/sc.names.lookup x=some .cell
def Look(env:Env)(h:Heap)(m:Str->Option Value)(x:Str)(u:Value):Prop:=
 (env.kindOf x=some .local/\m x=some u)\/((env.kindOf x=some .cell\/env.kindOf x=some .free)/\∃c,env.cells.lookup x=some c/\h.IsCell c (some u))
structure Cx.Ok(X:Cx):Prop where
 mod:Mod X.K X.mg X.base
 kind:X.env.scope.kind=.function
 glob:X.env.globals=mainGlobals
 blt:X.env.builtins=builtinsNs
 above:X.s₀.heap.objs.size<=X.env.locals
 inj:∀x y c,X.env.cells.lookup x=some c->X.env.cells.lookup y=some c->x=y
 has:∀x,(X.env.kindOf x=some .cell\/X.env.kindOf x=some .free)->∃c,X.env.cells.lookup x=some c
 cab:∀x c,X.fn x=true->X.env.cells.lookup x=some c->X.s₀.heap.objs.size<=c
 hd:X.calm=true->X.A.handled=none
 frames:X.A.frames=some X.stack
 stk:X.stack=X.outer\/(X.stack=X.env::X.outer/\X.env.frame=some X.env.locals)
 exf:∀b∈X.ex,b≠X.env.locals/\∀x c,X.env.cells.lookup x=some c->c≠b
 bs:∀b o,X.base.get? b=some o->X.s₀.heap.get? b=some o/\X.H₀ b=none
 bsz:X.base.objs.size<=X.s₀.heap.objs.size
 noex:∀b o,X.base.get? b=some o->b∉X.ex
 exfs:∀b∈X.ex,b∉X.fs
 funs:X.s₀.heap.FunFrames X.base X.outer
 frf:∀b∈X.fs,X.H₀ b=none
structure Inv(X:Cx)(pins:List (Addr×Obj))(σ:List (Option V))(H:Hp)(s:Shared):Prop where
 ok:X.Ok
 os:s.os=X.s₀.os
 bare:AllBare s.gens
 base:Un X.fs X.ex X.H₀ H X.s₀.heap s.heap
 loc:∃m,s.heap.Ns X.env.locals m/\∀(i:Nat) (x:Str) (v:V),X.N[i]? =some x->σ[i]? =some (some v)->Vis X.env.scope x->∃u,RelV v u/\Look X.env s.heap m x u
 cell:∀x c,X.env.cells.lookup x=some c->∃v,s.heap.IsCell c v
 free:H X.env.locals=none
 freeC:∀x c,X.env.cells.lookup x=some c->H c=none
 pin:∀p∈X.pn++pins,s.heap.get? p.1=some p.2/\H p.1=none/\p.1≠X.env.locals/\p.1∉X.fs/\∀v,p.2.data≠ .cell v
 hok:HOk X.prog X.w H s.heap
 len:σ.length=X.N.length
section
variable {X : Cx} {pins : List (Addr × Obj)} {σ : List (Option V)} {H H' : Hp} {s : Shared} {h' : Heap}
theorem Cx.Ok.nofr(ok:X.Ok){b:Addr}{o:Obj}(e:X.base.get? b=some o):b∉X.fs:=λhb=>by
 have:=(ok.funs.mem hb).1
 rw[e] at this;cases this
theorem Inv.bs(I:Inv X pins σ H s):∀b o,X.base.get? b=some o->s.heap.get? b=some o/\H b=none:=λb o e=>
 ⟨I.base.keep b o (I.ok.bs b o e).1 (I.ok.bs b o e).2 (I.ok.nofr e) (I.ok.noex b o e),I.base.free b o (I.ok.bs b o e).1 (I.ok.bs b o e).2 (I.ok.noex b o e)⟩
theorem Inv.bk(I:Inv X pins σ H s):∀b o,X.base.get? b=some o->s.heap.get? b=some o:=λb o e=>(I.bs b o e).1
theorem Inv.mod(I:Inv X pins σ H s):Mod X.K X.mg X.base:=I.ok.mod
theorem Inv.kIn(I:Inv X pins σ H s):X.K.In s.heap:=I.ok.mod.kin.keeps I.bk
theorem Inv.nolimit(I:Inv X pins σ H s):s.heap.NoLimit:=I.ok.mod.nolimit.keeps I.bk
theorem Inv.noseer(I:Inv X pins σ H s):s.heap.NoSeer:=I.ok.mod.seer.keeps I.bk
theorem Inv.fr(I:Inv X pins σ H s):∃m,Fr X.base X.env.locals s.heap m:=
 let ⟨m,hn,_⟩:=I.loc
 ⟨m,hn,I.bk,Nat.le_trans I.ok.bsz I.ok.above⟩
theorem Inv.lt(I:Inv X pins σ H s):X.env.locals<s.heap.objs.size:=let ⟨_,hn,_⟩:=I.loc;hn.lt
theorem Inv.sz(I:Inv X pins σ H s):X.s₀.heap.objs.size<=s.heap.objs.size:=Nat.le_trans I.ok.above (Nat.le_of_lt I.lt)
theorem Inv.nofs(I:Inv X pins σ H s){a:Addr}(h:s.heap.objs.size<=a):a∉X.fs:=λhb=>by
 obtain⟨_,o,ho,_⟩:=I.ok.funs.mem hb
 exact absurd (Nat.lt_of_lt_of_le (Heap.lt_size ho) (Nat.le_trans I.sz h)) (Nat.lt_irrefl _)
theorem Inv.cne(I:Inv X pins σ H s):∀x c,X.env.cells.lookup x=some c->c≠X.env.locals:=λx c e z=>by
 obtain⟨v,o,ho,hd⟩:=I.cell x c e
 obtain⟨m,⟨o',es,ep,ho',hd',_⟩,_⟩:=I.loc
 rw[z,ho'] at ho;cases ho;rw[hd'] at hd;cases hd
theorem Inv.funs(I:Inv X pins σ H s):s.heap.FunFrames X.base X.outer:=by
 have all:∀(l:List Env),(∀b∈frs l,b∈X.fs)->X.s₀.heap.FunFrames X.base l->s.heap.FunFrames X.base l:=by
  intro l
  induction l with
  | nil=>intro _ _;trivial
  | cons env r ih=>
   intro hs hl
   obtain⟨hk,⟨L,o,hf,hn,ho,hd⟩,hr⟩:=hl
   have hL:L∈X.fs:=hs L (by unfold frs;rw[List.filterMap_cons,hf];exact List.mem_cons_self)
   obtain⟨sl,e⟩:=I.base.slot L o ho (I.ok.frf L hL) hL λz=>I.ok.exfs L z hL
   exact⟨hk,⟨L,_,hf,hn,e,hd⟩,ih (λb hb=>hs b (by unfold frs;rw[List.filterMap_cons,hf];exact List.mem_cons_of_mem _ hb)) hr⟩
 exact all X.outer (λ_ hb=>hb) I.ok.funs
theorem Inv.stack(I:Inv X pins σ H s):s.heap.FunFrames X.base X.stack:=by
 rcases I.ok.stk with e | ⟨e,hf⟩
 ·rw[e];exact I.funs
 ·rw[e]
  obtain⟨m,hn,_⟩:=I.loc
  refine .cons (by rw[I.ok.kind];decide) hf hn ?_ I.funs
  exact Heap.get?_none_of_le (Nat.le_trans I.ok.bsz I.ok.above)
theorem Inv.stkSub(I:Inv X pins σ H s):∀b∈frs X.stack,b∈X.env.locals::X.fs:=λb hb=>by
 rcases I.ok.stk with e | ⟨e,hf⟩
 ·rw[e] at hb;exact List.mem_cons_of_mem _ hb
 ·rw[e] at hb
  unfold frs at hb
  rw[List.filterMap_cons,hf] at hb
  exact hb
theorem Inv.stkFree(I:Inv X pins σ H s):∀b∈frs X.stack,H b=none:=λb hb=>by
 rcases List.mem_cons.mp (I.stkSub b hb) with e | hb
 ·rw[e];exact I.free
 ·obtain⟨_,o,ho,_⟩:=I.ok.funs.mem hb
  exact I.base.free b o ho (I.ok.frf b hb) λz=>I.ok.exfs b z hb
theorem Inv.step {g':Array GenState} {t':Nat} {d':Drawn} {ch:List Addr} (I:Inv X pins σ H s)
 (hch:∀b∈ch,(b∈X.ex\/X.s₀.heap.objs.size<=b)/\b≠X.env.locals/\(∀x c,X.env.cells.lookup x=some c->c≠b)/\∀p∈X.pn++pins,p.1≠b)
 (keep:∀b o,b≠X.env.locals->b∉X.fs->b∉ch->s.heap.get? b=some o->H b=none->h'.get? b=some o)
 (slot:∀b o,b≠X.env.locals->b∈X.fs->b∉ch->s.heap.get? b=some o->H b=none->∃sl,h'.get? b=some {o with slots:=sl}) (free:∀b o,b∉ch->s.heap.get? b=some o->H b=none->H' b=none)
 (there:∀b o,b∉ch->s.heap.get? b=some o->∃o',h'.get? b=some o')
 (tups:∀b xs,H b=some (.tup xs)->H' b=some (.tup xs)) (frzs:∀b o u,H b=some (.frz o u)->H' b=some (.frz o u)) (tbls:∀b ps,H b=some (.tbl ps)->∃more,H' b=some (.tbl (ps++more)))
 (ns:∀m,s.heap.Ns X.env.locals m->h'.Ns X.env.locals m) (hok:HOk X.prog X.w H' h') (hg:AllBare g'):
 Inv X pins σ H' {s with heap:=h',gens:=g',drawn:=d',toks:=t'}:=by
 have neL:∀b o,X.s₀.heap.get? b=some o->b≠X.env.locals:=λb o e=>Nat.ne_of_lt (Nat.lt_of_lt_of_le (Heap.lt_size e) I.ok.above)
 have neC:∀b o,X.s₀.heap.get? b=some o->b∉X.ex->b∉ch:=λb o e hx hb=>by
  rcases(hch b hb).1 with z | z
  ·exact hx z
  ·exact absurd (Nat.lt_of_lt_of_le (Heap.lt_size e) z) (Nat.lt_irrefl _)
 have cellK:∀x c,X.env.cells.lookup x=some c->∀v,s.heap.IsCell c v->h'.IsCell c v:=λx c e v ⟨o,ho,hd⟩=>by
  have nch:c∉ch:=λz=>(hch c z).2.2.1 x c e rfl
  by_cases hc:c∈X.fs
  ·obtain⟨sl,q⟩:=slot c o (I.cne x c e) hc nch ho (I.freeC x c e)
   exact⟨_,q,hd⟩
  ·exact⟨o,keep c o (I.cne x c e) hc nch ho (I.freeC x c e),hd⟩
 refine⟨I.ok,I.os,hg,⟨λb o e n hb hx=> ?_,λb o e n hb hx=> ?_,λb o e n hx=> ?_,λb o e hx=> ?_,λb xs e=>tups b xs (I.base.tups b xs e),λb o xs e=>frzs b o xs (I.base.frzs b o xs e),λb ps e=> ?_⟩, ?_,λx c e=> ?_, ?_,λx c e=> ?_,λp hp=> ?_,hok,I.len⟩
 ·exact keep b o (neL b o e) hb (neC b o e hx) (I.base.keep b o e n hb hx) (I.base.free b o e n hx)
 ·obtain⟨sl,e1⟩:=I.base.slot b o e n hb hx
  obtain⟨sl',e2⟩:=slot b _ (neL b o e) hb (neC b o e hx) e1 (I.base.free b o e n hx)
  exact⟨sl',e2⟩
 ·obtain⟨o',e1⟩:=I.base.there b o e hx
  exact free b o' (neC b o e hx) e1 (I.base.free b o e n hx)
 ·obtain⟨o',e1⟩:=I.base.there b o e hx
  exact there b o' (neC b o e hx) e1
 ·obtain⟨m1,e1⟩:=I.base.tbls b ps e
  obtain⟨m2,e2⟩:=tbls b _ e1
  exact⟨m1++m2,by rw[e2,Array.append_assoc]⟩
 ·obtain⟨m,hn,hl⟩:=I.loc
  refine⟨m,ns m hn,λi x v e1 e2 e3=> ?_⟩
  obtain⟨u,r,l⟩:=hl i x v e1 e2 e3
  refine⟨u,r, ?_⟩
  rcases l with l | ⟨k,c,e,z⟩
  ·exact .inl l
  ·exact .inr ⟨k,c,e,cellK x c e _ z⟩
 ·obtain⟨v,z⟩:=I.cell x c e
  exact⟨v,cellK x c e v z⟩
 ·obtain⟨m,⟨o,_,_,ho,_⟩,_⟩:=I.loc
  exact free _ o (λz=>(hch _ z).2.1 rfl) ho I.free
 ·obtain⟨v,o,ho,hd⟩:=I.cell x c e
  exact free c o (λz=>(hch c z).2.2.1 x c e rfl) ho (I.freeC x c e)
 ·obtain⟨e,n,ne,nf,d⟩:=I.pin p hp
  have nch:p.1∉ch:=λz=>(hch p.1 z).2.2.2 p hp rfl
  exact⟨keep p.1 p.2 ne nf nch e n,free p.1 p.2 nch e n,ne,nf,d⟩
theorem Inv.un{t':Nat}(I:Inv X pins σ H s)(u:Un X.fs [] H H' s.heap h')(hok:HOk X.prog X.w H' h'):Inv X pins σ H' {s with heap:=h',toks:=t'}:=by
 obtain⟨m,⟨o,es,ep,ho,r⟩,_⟩:=id I.loc
 obtain⟨sl,hL⟩:=u.any ho I.free (by simp)
 exact I.step (g':=s.gens) (d':=s.drawn) (ch:=[]) (λ_ z=>nomatch z) (λb o _ hb _ e n=>u.keep b o e n hb (by simp)) (λb o _ hb _ e n=>u.slot b o e n hb (by simp)) (λb o _ e n=>u.free b o e n (by simp)) (λb o _ e=>u.there b o e (by simp)) u.tups u.frzs u.tbls (λm' hm=>by
  obtain⟨o',es',ep',ho',r'⟩:=hm
  rw[ho] at ho';cases ho'
  exact⟨_,es',ep',hL,r'⟩) hok I.bare
theorem Inv.call {g':Array GenState} {t':Nat} {d':Drawn} {ch:List Addr} (I:Inv X pins σ H s) (u:Un (frs X.stack) ch H H' s.heap h') (hok:HOk X.prog X.w H' h') (hg:AllBare g')
 (hch:∀b∈ch,(b∈X.ex\/X.s₀.heap.objs.size<=b)/\b≠X.env.locals/\(∀x c,X.env.cells.lookup x=some c->c≠b)/\∀p∈X.pn++pins,p.1≠b):
 Inv X pins σ H' {s with heap:=h',gens:=g',drawn:=d',toks:=t'}:=by
 obtain⟨m,⟨o,es,ep,ho,r⟩,_⟩:=id I.loc
 obtain⟨sl,hL⟩:=u.any ho I.free λz=>(hch _ z).2.1 rfl
 exact I.step (ch:=ch) hch (λb o hL hb hc e n=>u.keep b o e n (λz=>(List.mem_cons.mp (I.stkSub b z)).elim hL hb) hc) (λb o _ _ hc e n=>u.any e n hc) (λb o hc e n=>u.free b o e n hc) (λb o hc e=>u.there b o e hc) u.tups u.frzs u.tbls (λm' hm=>by
  obtain⟨o',es',ep',ho',r'⟩:=hm
  rw[ho] at ho';cases ho'
  exact⟨_,es',ep',hL,r'⟩) hok hg
theorem Inv.turned {t':Nat} {it:Addr} (I:Inv X pins σ H s) (k:∀b o,b≠it->s.heap.get? b=some o->h'.get? b=some o) (hn:H it=none) (hL:it≠X.env.locals)
 (h1:it∈X.ex\/X.s₀.heap.objs.size<=it) (h2:∀x c,X.env.cells.lookup x=some c->c≠it) (h3:∀p∈X.pn++pins,p.1≠it):Inv X pins σ H {s with heap:=h',toks:=t'}:=by
 have nit:∀b u,H b=some u->b≠it:=λb u e z=>by rw[z,hn] at e;cases e
 refine I.step (g':=s.gens) (d':=s.drawn) (ch:=[it]) (λb hb=> ?_) (λb o _ _ hc e _=>k b o (λz=>hc (by simp[z])) e) (λb o _ _ hc e _=>⟨o.slots,k b o (λz=>hc (by simp[z])) e⟩) (λ_ _ _ _ n=>n)
  (λb o hc e=>⟨o,k b o (λz=>hc (by simp[z])) e⟩) (λ_ _ e=>e) (λ_ _ _ e=>e) (λb ps e=>⟨#[],by rw[e];simp⟩) (λm hm=> ?_) (λb u e=> ?_) I.bare
 ·have e:b=it:=by simpa using hb
  subst e
  exact⟨h1,hL,h2,h3⟩
 ·obtain⟨o,es,ep,ho,r⟩:=hm
  exact⟨o,es,ep,k _ o (Ne.symm hL) ho,r⟩
 ·refine(I.hok b u e).stay (λc v hc q=>k c v ?_ q) (λ_ q=>q) λ_ _ q=>q
  rcases hc with z | z
  ·rw[z];exact nit b u e
  ·exact nit c _ z
theorem Inv.tok(I:Inv X pins σ H s)(t:Nat):Inv X pins σ H {s with toks:=t}:=I.un (h':=s.heap) (t':=t) Un.refl I.hok
theorem Inv.kept{t':Nat}(I:Inv X pins σ H s)(k:∀b u,s.heap.get? b=some u->h'.get? b=some u):Inv X pins σ H {s with heap:=h',toks:=t'}:=I.un (Un.kept k) (I.hok.kept k)
theorem Inv.laid{a:Addr}{o:HO}{t':Nat}(I:Inv X pins σ H s)(k:∀b u,s.heap.get? b=some u->h'.get? b=some u)(hp:s.heap.objs.size<=a)(new:gd X.prog X.w (upd H a o) h' a o):
 Inv X pins σ (upd H a o) {s with heap:=h',toks:=t'}:=I.un (Un.laid k hp (I.hok.fresh hp)) (I.hok.laid k hp new)
theorem Inv.write {x e:Addr} {o:HO} {t':Nat} (I:Inv X pins σ H s) (mu:Mut (H x)) (he:e=x\/H e=some (.own x)) (k:∀b u,b≠e->s.heap.get? b=some u->h'.get? b=some u) (heo:∃u,h'.get? e=some u)
 (new:gd X.prog X.w (upd H x o) h' x o):Inv X pins σ (upd H x o) {s with heap:=h',toks:=t'}:=I.un (Un.write mu he k heo) (I.hok.write mu he k heo new)
theorem Inv.pins_of{pins':List (Addr×Obj)}(I:Inv X pins σ H s)(h:∀p∈pins',s.heap.get? p.1=some p.2/\H p.1=none/\p.1≠X.env.locals/\p.1∉X.fs/\∀v,p.2.data≠ .cell v):Inv X pins' σ H s:=
 ⟨I.ok,I.os,I.bare,I.base,I.loc,I.cell,I.free,I.freeC,λp hp=>(List.mem_append.mp hp).elim (λz=>I.pin p (List.mem_append_left _ z)) (h p),I.hok,I.len⟩
theorem zZ{N:List Str}(hN:N.Nodup){i j:Nat}{x:Str}(a:N[i]? =some x)(b:N[j]? =some x):i=j:=by
 obtain⟨h1,e1⟩:=List.getElem?_eq_some_iff.mp a
 obtain⟨h2,e2⟩:=List.getElem?_eq_some_iff.mp b
 exact(List.getElem_inj hN).mp (e1.trans e2.symm)
theorem xJ {M:Model} {A:Around} {E:Value->Shared->Prop} {i:Nat} {x:Str} {v:V} {u:Value} {Q:Unit->Shared->Prop} (I:Inv X pins σ H s) (hN:X.N.Nodup) (hi:X.N[i]? =some x) (hx:Loc X.env.scope x) (r:RelV v u)
 (h:∀s',Inv X pins (σ.set i (some v)) H s'->(∃a,Heap.SameBut a s.heap s'.heap/\(a=X.env.locals\/X.env.cells.lookup x=some a))->Q () s') (hf:X.fn x=true\/X.env.scope.names.lookup x=some .local:=by first | exact .inl rfl | exact .inr rfl | assumption):wpAny M A (storeName X.env x u) Q E s:=by
 obtain⟨m,hn,hl⟩:=id I.loc
 have hcls:(X.env.scope.kind == .class||(X.env.scope.kind == .module&&X.env.locals != X.env.globals))=false:=by rw[I.ok.kind];rfl
 have hiσ:i<σ.length:=by rw[I.len];exact(List.getElem?_eq_some_iff.mp hi).1
 have cne:=I.cne
 have tracked:∀{a:Addr} {h':Heap},(∃o,s.heap.get? a=some o/\H a=none)->Heap.SameBut a s.heap h'->HOk X.prog X.w H h':=λ{a h'} ha hs b ob e=>by
  obtain⟨_,_,hfree⟩:=ha
  refine(I.hok b ob e).stay (λc w' hc q=>(hs.2 c ?_).trans q) (λ_ q=>q) λ_ _ q=>q
  rintro rfl
  rcases hc with rfl | hc
  ·rw[hfree] at e;cases e
  ·rw[hfree] at hc;cases hc
 rcases hx with hk | hk
 ·refine wpAny_storeName_local hk hn (λh' hn' hs=> ?_) hcls
  obtain⟨oL,_,_,hoL,_⟩:=id hn
  refine h _ ⟨I.ok,I.os,I.bare,⟨λb o e n hb hx=> ?_,λb o e n hb hx=> ?_,I.base.free,λb o e hx=> ?_,I.base.tups,I.base.frzs,I.base.tbls⟩,⟨_,hn',λj y v' e1 e2 e3=> ?_⟩,λy c e=> ?_,I.free,I.freeC,λp hp=> ?_,tracked ⟨oL,hoL,I.free⟩ hs,by simpa using I.len⟩ ⟨_,hs,.inl rfl⟩
  ·exact(hs.2 b (Nat.ne_of_lt (Nat.lt_of_lt_of_le (Heap.lt_size e) I.ok.above))).trans (I.base.keep b o e n hb hx)
  ·obtain⟨sl,e1⟩:=I.base.slot b o e n hb hx
   exact⟨sl,(hs.2 b (Nat.ne_of_lt (Nat.lt_of_lt_of_le (Heap.lt_size e) I.ok.above))).trans e1⟩
  ·obtain⟨o',e1⟩:=I.base.there b o e hx
   exact⟨o',(hs.2 b (Nat.ne_of_lt (Nat.lt_of_lt_of_le (Heap.lt_size e) I.ok.above))).trans e1⟩
  ·by_cases hj:j=i
   ·subst hj
    rw[hi] at e1;cases e1
    rw[List.getElem?_set_self hiσ] at e2
    cases e2
    exact⟨u,r,.inl ⟨hk,by simp⟩⟩
   ·rw[List.getElem?_set_ne (Ne.symm hj)] at e2
    obtain⟨u',r',q⟩:=hl j y v' e1 e2 e3
    refine⟨u',r', ?_⟩
    rcases q with⟨k,e⟩ | ⟨k,c,e,z⟩
    ·refine .inl ⟨k, ?_⟩
     have:y≠x:=λe=>hj (zZ hN e1 (e▸hi))
     simp[this,e]
    ·exact .inr ⟨k,c,e,z.sameBut hs (cne y c e)⟩
  ·obtain⟨w',z⟩:=I.cell y c e
   exact⟨w',z.sameBut hs (cne y c e)⟩
  ·obtain⟨e,n,ne,nf,d⟩:=I.pin p hp
   exact⟨(hs.2 p.1 ne).trans e,n,ne,nf,d⟩
 ·have hfn:X.fn x=true:=by
   rcases hf with z | z
   ·exact z
   ·rw[z] at hk;cases hk
  obtain⟨c,hc⟩:=I.ok.has x (.inl hk)
  obtain⟨w',z⟩:=I.cell x c hc
  refine wpAny_storeName_cell I.ok.kind hk hc z (λh' hc' hs=> ?_)
  obtain⟨oc,hoc,hocd⟩:=id z
  refine h {s with heap:=h'} ⟨I.ok,I.os,I.bare,⟨λb o e n hb hx=> ?_,λb o e n hb hx=> ?_,I.base.free,λb o e hx=> ?_,I.base.tups,I.base.frzs,I.base.tbls⟩,⟨m,hn.sameBut hs (Ne.symm (cne x c hc)),λj y v' e1 e2 e3=> ?_⟩,λy c' e=> ?_,I.free,I.freeC,λp hp=> ?_,tracked ⟨oc,hoc,I.freeC x c hc⟩ hs,by simpa using I.len⟩ ⟨c,hs,.inr hc⟩
  ·exact(hs.2 b (Nat.ne_of_lt (Nat.lt_of_lt_of_le (Heap.lt_size e) (I.ok.cab x c hfn hc)))).trans (I.base.keep b o e n hb hx)
  ·obtain⟨sl,e1⟩:=I.base.slot b o e n hb hx
   exact⟨sl,(hs.2 b (Nat.ne_of_lt (Nat.lt_of_lt_of_le (Heap.lt_size e) (I.ok.cab x c hfn hc)))).trans e1⟩
  ·obtain⟨o',e1⟩:=I.base.there b o e hx
   exact⟨o',(hs.2 b (Nat.ne_of_lt (Nat.lt_of_lt_of_le (Heap.lt_size e) (I.ok.cab x c hfn hc)))).trans e1⟩
  ·by_cases hj:j=i
   ·subst hj
    rw[hi] at e1;cases e1
    rw[List.getElem?_set_self hiσ] at e2
    cases e2
    exact⟨u,r,.inr ⟨.inl hk,c,hc,hc'⟩⟩
   ·rw[List.getElem?_set_ne (Ne.symm hj)] at e2
    obtain⟨u',r',q⟩:=hl j y v' e1 e2 e3
    refine⟨u',r', ?_⟩
    rcases q with q | ⟨k,c',e,z'⟩
    ·exact .inl q
    ·refine .inr ⟨k,c',e,z'.sameBut hs ?_⟩
     rintro rfl
     exact hj (zZ hN e1 (I.ok.inj _ _ _ e hc▸hi))
  ·by_cases hcc:c'=c
   ·subst hcc;exact⟨_,hc'⟩
   ·obtain⟨w2,z2⟩:=I.cell y c' e
    exact⟨w2,z2.sameBut hs hcc⟩
  ·obtain⟨e,n,ne,nf,d⟩:=I.pin p hp
   refine⟨(hs.2 p.1 ?_).trans e,n,ne,nf,d⟩
   intro q
   rw[q,hoc] at e
   have q':oc=p.2:=Option.some.inj e
   exact d w' (by rw[<- q'];exact hocd)
theorem zW {M:Model} {A:Around} {E:Value->Shared->Prop} {i:Nat} {x:Str} {v:V} {u:Value} {Q:Unit->Shared->Prop} (I:Inv X pins σ H s) (hN:X.N.Nodup) (hi:X.N[i]? =some x) (hx:Loc X.env.scope x) (r:RelV v u)
 (h:∀s',Inv X pins (σ.set i (some v)) H s'->Q () s') (hf:X.fn x=true\/X.env.scope.names.lookup x=some .local:=by first | exact .inl rfl | exact .inr rfl | assumption):wpAny M A (storeName X.env x u) Q E s:=
 xJ I hN hi hx r (λs' I' _=>h s' I') hf
theorem Inv.call' {s':Shared} {ch:List Addr} (I:Inv X pins σ H s) (ho:s'.os=s.os) (u:Un (frs X.stack) ch H H' s.heap s'.heap) (hok:HOk X.prog X.w H' s'.heap) (hg:AllBare s'.gens)
 (hch:∀b∈ch,(b∈X.ex\/X.s₀.heap.objs.size<=b)/\b≠X.env.locals/\(∀x c,X.env.cells.lookup x=some c->c≠b)/\∀p∈X.pn++pins,p.1≠b):Inv X pins σ H' s':=by
 obtain⟨h',g',d',t',o'⟩:=s'
 have e:o'=s.os:=ho
 subst e
 exact I.call (g':=g') (t':=t') (d':=d') u hok hg hch
end
abbrev XK:=Value->Option Addr->Hp->Prop
abbrev St:=List (Option V)
abbrev VK:=V->Hp->Prop
abbrev TE:=St->Hp->VK->Prop
abbrev TT:=St->Hp->(Bool->Hp->Prop)->Prop
abbrev TA:=St->Hp->(List V->Hp->Prop)->Prop
structure Ends where
 nx:St->Hp->Prop
 rt:VK
 bk:St->Hp->Prop:=λ_ _=>False
 ct:St->Hp->Prop:=λ_ _=>False
abbrev TS:=Ends->St->Hp->Prop
def EP(X:Cx)(pins:List (Addr×Obj))(σ:St)(Q:VK)(u:Value)(s':Shared):Prop:=∃v H',Inv X pins σ H' s'/\RelV v u/\Q v H'
def TP(X:Cx)(pins:List (Addr×Obj))(σ:St)(Q:Bool->Hp->Prop)(b:Bool)(s':Shared):Prop:=∃H',Inv X pins σ H' s'/\Q b H'
def AP(X:Cx)(pins:List (Addr×Obj))(σ:St)(Q:List V->Hp->Prop)(us:List Value)(s':Shared):Prop:=∃vs H',Inv X pins σ H' s'/\Vals vs us/\Q vs H'
def SP(X:Cx)(pins:List (Addr×Obj))(D:Ends)(f:Flow)(s':Shared):Prop:=
 match f with
 | .next=>∃σ' H',Inv X pins σ' H' s'/\D.nx σ' H'
 | .brk=>∃σ' H',Inv X pins σ' H' s'/\D.bk σ' H'
 | .cont=>∃σ' H',Inv X pins σ' H' s'/\D.ct σ' H'
 | .ret u=>∃v σ' H',Inv X pins σ' H' s'/\RelV v u/\D.rt v H'
def PE(X:Cx)(e:Expr)(t:TE):Prop:=
 ∀(pins:List (Addr×Obj)) (s:Shared) (σ:St) (H:Hp) (Q:VK),Inv X pins σ H s->t σ H Q->wpAny (model X.prog X.w) X.A (eval e X.env) (EP X pins σ Q) X.xe s
def PT(X:Cx)(e:Expr)(t:TT):Prop:=
 ∀(pins:List (Addr×Obj)) (s:Shared) (σ:St) (H:Hp) (Q:Bool->Hp->Prop),Inv X pins σ H s->t σ H Q->wpAny (model X.prog X.w) X.A (isTrue e X.env (eval e X.env)) (TP X pins σ Q) X.xe s
def PW(X:Cx)(e:Expr)(t:TT):Prop:=
 ∀(whole:Sem Value) (pins:List (Addr×Obj)) (s:Shared) (σ:St) (H:Hp) (Q:Bool->Hp->Prop),Inv X pins σ H s->t σ H Q->wpAny (model X.prog X.w) X.A (isTrue e X.env whole) (TP X pins σ Q) X.xe s
theorem PW.pt{X:Cx}{e:Expr}{t:TT}(h:PW X e t):PT X e t:=h _
def PA(X:Cx)(es:List Expr)(t:TA):Prop:=
 ∀(pos:Pos) (pins:List (Addr×Obj)) (s:Shared) (σ:St) (H:Hp) (Q:List V->Hp->Prop),Inv X pins σ H s->t σ H Q->wpAny (model X.prog X.w) X.A (spliced (backTo pos (starEach es X.env))) (AP X pins σ Q) X.xe s
def PS(X:Cx)(st:Stmt)(t:TS):Prop:=
 ∀(pins:List (Addr×Obj)) (s:Shared) (σ:St) (H:Hp) (D:Ends),Inv X pins σ H s->t D σ H->wpAny (model X.prog X.w) X.A (exec st X.env) (SP X pins D) X.xe s
def PSs(X:Cx)(st:List Stmt)(t:TS):Prop:=
 ∀(pins:List (Addr×Obj)) (s:Shared) (σ:St) (H:Hp) (D:Ends),Inv X pins σ H s->t D σ H->wpAny (model X.prog X.w) X.A (execs st X.env) (SP X pins D) X.xe s
theorem thn{α:Type}{t:Sem α}{Q Q':α->Shared->Prop}{M:Model}{A:Around}{E:Value->Shared->Prop}{s:Shared}(h:wpAny M A t Q E s)(hQ:∀a s,Q a s->Q' a s):wpAny M A t Q' E s:=wpAny_mono h hQ λ_ _ x=>x
end L2
namespace L2
open PySem PySem.Spec PyProof.Rows
section
variable {X : Cx}
theorem bin {a b:Expr} {ta tb:TE} (ha:PE X a ta) (hb:PE X b tb) {pins:List (Addr×Obj)} {s:Shared} {σ:St} {H:Hp} {R:V->V->Hp->Prop} (I:Inv X pins σ H s) (h:ta σ H λx H1=>tb σ H1 λy H2=>R x y H2)
 {α:Type} {Q:α->Shared->Prop} {f:Value->Value->Sem α}
 (hf:∀v u s2 x y H2,Inv X pins σ H2 s2->RelV x v->RelV y u->R x y H2->wpAny (model X.prog X.w) X.A (f v u) Q X.xe s2):
 wpAny (model X.prog X.w) X.A (eval a X.env) (λv s₁=>wpAny (model X.prog X.w) X.A (eval b X.env) (λu s₂=>wpAny (model X.prog X.w) X.A (f v u) Q X.xe s₂) X.xe s₁) X.xe s:=by
 refine thn (ha pins s σ H _ I h) λv s1 ⟨x,H1,I1,r1,q1⟩=> ?_
 refine thn (hb pins s1 σ H1 _ I1 q1) λu s2 ⟨y,H2,I2,r2,q2⟩=> ?_
 exact hf v u s2 x y H2 I2 r1 r2 q2
def GP(i:Nat):TE:=λσ H Q=>∃v,σ[i]? =some (some v)/\Q v H
def tC(v:V):TE:=λ_ H Q=>Q v H
theorem KP{i:Nat}{x:Str}{pos:Pos}(hN:X.N[i]? =some x)(hv:Vis X.env.scope x)(hd:(x == ("__debug__" :Str))=false:=by decide)(hcd:(x == ("__classdict__" :Str))=false:=by decide):PE X (.Name x pos) (GP i):=by
 intro pins s σ H Q I h
 obtain⟨v,e,h⟩:=h
 obtain⟨m,hn,hl⟩:=I.loc
 obtain⟨u,r,l⟩:=hl i x v hN e hv
 have fin:EP X pins σ Q u s:=⟨v,H,I,r,h⟩
 rcases l with⟨hk,hm⟩ | ⟨hk,c,hc,hcell⟩
 ·exact wpAny_Name (wpAny_loadName_local I.ok.kind hk hn hm fin) hd
 ·rcases hk with hk | hk
  ·exact wpAny_Name (wpAny_loadName_cell I.ok.kind hk hc hcell fin) hd
  ·exact wpAny_Name (wpAny_loadName_free I.ok.kind hk hc hcell fin hcd) hd
theorem aE{i j pos}:PE X (.Constant (.int i) j pos) (tC (.int i)):=λ_ _ _ H _ I h=>wpAny_Constant_int ⟨.int i,H,I.tok _,⟨_,rfl⟩,h⟩
theorem nO{b j pos}:PE X (.Constant (.bool b) j pos) (tC (.bl b)):=λ_ _ _ H _ I h=>Constant_bool ⟨.bl b,H,I,rfl,h⟩
theorem vK{x j pos}:PE X (.Constant (.str x) j pos) (tC (.str x)):=λ_ _ _ H _ I h=>Calls.Constant_str ⟨.str x,H,I.tok _,⟨_,rfl⟩,h⟩
def Gl(X:Cx)(x:Str):Prop:=X.env.kindOf x=some .globalImplicit
theorem vT {E:Value->Shared->Prop} {pins:List (Addr×Obj)} {s:Shared} {σ:St} {H:Hp} {x:Str} {u:Value} {pos:Pos} {Q:Value->Shared->Prop} (I:Inv X pins σ H s) (hg:Gl X x) (hm:X.mg x=some u) (h:Q u s)
 (hd:(x == ("__debug__" :Str))=false:=by decide):wpAny (model X.prog X.w) X.A (eval (.Name x pos) X.env) Q E s:=
 Calls.Name_function_global I.ok.kind hg (Calls.loadGlobal_global (by rw[I.ok.glob];exact I.mod.glob.keeps I.bk) hm h) hd
theorem oF {E:Value->Shared->Prop} {pins:List (Addr×Obj)} {s:Shared} {σ:St} {H:Hp} {x:Str} {u:Value} {pos:Pos} {Q:Value->Shared->Prop} (I:Inv X pins σ H s) (hg:Gl X x) (hm:X.mg x=none) (hv:bootBuiltins x=some u) (h:Q u s)
 (hn:x≠"__name__" :=by decide) (hd:(x == ("__debug__" :Str))=false:=by decide):wpAny (model X.prog X.w) X.A (eval (.Name x pos) X.env) Q E s:=by
 obtain⟨mb,h1,h2⟩:=I.mod.blt
 exact Calls.Name_function_global I.ok.kind hg (Calls.loadGlobal_builtin (by rw[I.ok.glob];exact I.mod.glob.keeps I.bk) hm (by rw[I.ok.blt];exact h1.keeps I.bk) ((h2 x hn).trans hv) h) hd
theorem wJ{x:Str}{v:V}{u:Value}{pos:Pos}(hg:Gl X x)(hm:X.mg x=some u)(r:RelV v u)(hd:(x == ("__debug__" :Str))=false:=by decide):PE X (.Name x pos) (tC v):=
 λ_ _ _ H _ I h=>vT I hg hm ⟨v,H,I,r,h⟩ hd
theorem nS{x:Str}{v:V}{u:Value}{pos:Pos}(hg:Gl X x)(hm:X.mg x=none)(hv:bootBuiltins x=some u)(r:RelV v u)(hn:x≠"__name__" :=by decide)(hd:(x == ("__debug__" :Str))=false:=by decide):PE X (.Name x pos) (tC v):=
 λ_ _ _ H _ I h=>oF I hg hm hv ⟨v,H,I,r,h⟩ hn hd
variable {a b : Expr} {ta tb : TE} {pos : Pos}
def PC(X:Cx)(op:CmpOp)(a b:Expr)(t:TE):Prop:=
 ∀(pins:List (Addr×Obj)) (s:Shared) (σ:St) (H:Hp) (Q:VK),Inv X pins σ H s->t σ H Q->
  wpAny (model X.prog X.w) X.A (eval a X.env) (λv s₁=>wpAny (model X.prog X.w) X.A (eval b X.env) (λu s₂=>wpAny (model X.prog X.w) X.A (compareOp op v u) (EP X pins σ Q) X.xe s₂) X.xe s₁) X.xe s
theorem Gf(b:Expr){op:CmpOp}(h:op≠ .In)(h2:op≠ .NotIn):behindInMarks op b=false:=by
 have e1:(op == CmpOp.In)=false:=by cases op <;> first | rfl | exact absurd rfl h
 have e2:(op == CmpOp.NotIn)=false:=by cases op <;> first | rfl | exact absurd rfl h2
 cases b <;> simp[behindInMarks,e1,e2]
def tB(t:TE):TT:=λσ H Q=>t σ H λx H1=>∃c,x=.bl c/\Q c H1
theorem Ow{op:CmpOp}{t:TE}(h:PC X op a b t)(h1:behindInMarks op b=false:=by first | exact Gf _ (by decide) (by decide) | rfl):PT X (.Compare a [op] [b] pos) (tB t):=by
 intro pins s σ H Q I hw
 refine wpAny_isTrue_Compare1 (thn (h pins s σ H _ I hw) λv s1 h1=>thn h1 λu s2 h2=>thn h2 λc s3 ⟨x,H1,I1,r1,q1⟩=> ?_) h1
 obtain⟨d,rfl,q⟩:=q1
 cases r1
 exact wpAny_truthy_bool ⟨H1,I1,q⟩
theorem lG{e:Expr}{t:TE}(h:PE X e t)(he:∀whole,isTrue e X.env whole=(do let v <- whole;standAt e.pos;holding [v] (truthy v)):=by intro _;rfl):PT X e (tB t):=by
 intro pins s σ H Q I hw
 refine isTrue_plain (thn (h pins s σ H _ I hw) λv s1 ⟨x,H1,I1,r1,q1⟩=> ?_) (he _)
 obtain⟨d,rfl,q⟩:=q1
 cases r1
 exact wpAny_truthy_bool ⟨H1,I1,q⟩
variable {tA tB' : TT} {rest : List Expr}
def KG(t u:TT):TT:=λσ H Q=>t σ H λc H1=>if c=true then u σ H1 Q else Q false H1
def tOr(t u:TT):TT:=λσ H Q=>t σ H λc H1=>if c=true then Q true H1 else u σ H1 Q
def Mh(t:TT):TT:=λσ H Q=>t σ H λc H1=>Q (!c) H1
theorem pw_and1(ha:PT X a tA):PW X (.BoolOp .And [a] pos) tA:=by
 intro wh pins s σ H Q I h
 refine isTrue_and (thn (ha pins s σ H Q I h) λc s1 e=> ?_)
 cases c with
 | true=>exact isTrue_and_nil e
 | false=>exact e
theorem pw_or1(ha:PT X a tA):PW X (.BoolOp .Or [a] pos) tA:=by
 intro wh pins s σ H Q I h
 refine isTrue_or (thn (ha pins s σ H Q I h) λc s1 e=> ?_)
 cases c with
 | false=>exact isTrue_or_nil e
 | true=>exact e
theorem pw_and(ha:PT X a tA)(hb:PW X (.BoolOp .And (b::rest) pos) tB'):PW X (.BoolOp .And (a::b::rest) pos) (KG tA tB'):=by
 intro wh pins s σ H Q I h
 refine isTrue_and (thn (ha pins s σ H _ I h) λc s1 ⟨H1,I1,q1⟩=> ?_)
 cases c with
 | true=>exact hb wh pins s1 σ H1 Q I1 q1
 | false=>exact⟨H1,I1,q1⟩
theorem pw_or(ha:PT X a tA)(hb:PW X (.BoolOp .Or (b::rest) pos) tB'):PW X (.BoolOp .Or (a::b::rest) pos) (tOr tA tB'):=by
 intro wh pins s σ H Q I h
 refine isTrue_or (thn (ha pins s σ H _ I h) λc s1 ⟨H1,I1,q1⟩=> ?_)
 cases c with
 | true=>exact⟨H1,I1,q1⟩
 | false=>exact hb wh pins s1 σ H1 Q I1 q1
theorem pL(ha:PT X a tA):PT X (.UnaryOp .Not a pos) (Mh tA):=by
 intro pins s σ H Q I h
 exact isTrue_not (ha pins s σ H (λc H1=>Q (!c) H1) I h)
def IA(ta tb:TE):TE:=λσ H Q=>ta σ H λx H1=>∃c,x=.bl c/\if c=true then tb σ H1 Q else Q (.bl false) H1
def IB(ta:TE):TE:=λσ H Q=>ta σ H λx H1=>∃c,x=.bl c/\Q (.bl (!c)) H1
theorem Ek{op}{t:TE}(h:PE X a t):PE X (.BoolOp op [a] pos) t:=λpins s σ H Q I hw=>BoolOp_one (h pins s σ H Q I hw)
theorem E4(ha:PE X a ta)(hb:PE X (.BoolOp .And (b::rest) pos) tb):PE X (.BoolOp .And (a::b::rest) pos) (IA ta tb):=by
 intro pins s σ H Q I h
 refine BoolOp_and (thn (ha pins s σ H _ I h) λv s1 ⟨x,H1,I1,r1,q1⟩=> ?_)
 obtain⟨c,rfl,q1⟩:=q1
 cases r1
 refine wpAny_truthy_bool ?_
 cases c with
 | true=>exact hb pins s1 σ H1 Q I1 q1
 | false=>exact⟨.bl false,H1,I1,rfl,q1⟩
theorem FQ(ha:PE X a ta):PE X (.UnaryOp .Not a pos) (IB ta):=by
 intro pins s σ H Q I h
 refine UnaryOp_ (thn (ha pins s σ H _ I h) λv s1 ⟨x,H1,I1,r1,q1⟩=> ?_)
 obtain⟨c,rfl,q1⟩:=q1
 cases r1
 exact not_of (wpAny_truthy_bool ⟨.bl (!c),H1,I1,rfl,q1⟩)
end
end L2
namespace L2
open PySem PySem.Spec PyProof.Rows
def SqL(K:PySem.W.Frag)(H:Hp)(a:Addr)(xs:List V):Prop:=
 Rd H a (.lst xs)\/
  ∃(o:Obj) (its:Array Value) (n:Nat),K.lookup a=some o/\o.cls=.type "list" /\o.dict=none/\o.data=.seq its n/\its.size<=sizeLine/\Vals xs its.toList
def SqT(K:PySem.W.Frag)(H:Hp)(a:Addr)(xs:List V):Prop:=
 Rd H a (.tup xs)\/
  ∃(o:Obj) (its:Array Value) (n:Nat),K.lookup a=some o/\o.cls=.type "tuple" /\o.data=.seq its n/\its.size<=sizeLine/\Vals xs its.toList
def Np:Value->Option V
 | .none=>some .non
 | .bool b=>some (.bl b)
 | .int i _=>some (.int i)
 | .str x _=>some (.str x)
 | .bytes b _=>some (.byt b)
 | .float b _=>some (.flt b)
 | .ref a=>some (.ref a)
 | .type n=>some (.ty n)
 | _=>none
theorem RelV.abs{x:V}{u:Value}(r:RelV x u):Np u=some x:=by
 cases x with
 | non=>cases r;rfl
 | bl _=>cases r;rfl
 | int _=>obtain⟨t,rfl⟩:=r;rfl
 | str _=>obtain⟨t,rfl⟩:=r;rfl
 | byt _=>obtain⟨t,rfl⟩:=r;rfl
 | flt _=>obtain⟨t,rfl⟩:=r;rfl
 | ref _=>cases r;rfl
 | ty _=>cases r;rfl
theorem RelV.inj{x y:V}{u:Value}(r:RelV x u)(q:RelV y u):x=y:=Option.some.inj (r.abs.symm.trans q.abs)
theorem Vals.inj:∀{xs ys:List V} {us:List Value},Vals xs us->Vals ys us->xs=ys
 | _,_,_,.nil,.nil=>rfl
 | _,_,_,.cons r t,.cons r' t'=>by rw[r.inj r',Vals.inj t t']
section
variable {X : Cx} {pins : List (Addr × Obj)} {σ : St} {H : Hp} {s : Shared} {a : Addr} {xs ys : List V}
theorem SqL.of{K:PySem.W.Frag}(h:H a=some (.lst xs)):SqL K H a xs:=.inl (.inl h)
theorem SqT.of{K:PySem.W.Frag}(h:H a=some (.tup xs)):SqT K H a xs:=.inl (.inl h)
theorem Inv.list(I:Inv X pins σ H s)(h:SqL X.K H a xs):∃its:List Value,Vals xs its/\PlainL s.heap a its.toArray/\xs.length<=sizeLine:=by
 rcases h with h | ⟨o,its,n,hk,hc,hd,hs,hz,r⟩
 ·obtain⟨z,its,n,r,e⟩:=h.ok I.hok
  exact⟨its,r,⟨_,n,e,rfl,rfl,rfl⟩,z⟩
 ·refine⟨its.toList,r,⟨o,n,I.kIn a o hk,hc,hd,by simpa using hs⟩, ?_⟩
  have e:=r.length
  simp only[Array.length_toList] at e
  omega
theorem Inv.tuple(I:Inv X pins σ H s)(h:SqT X.K H a xs):∃its:List Value,Vals xs its/\IsTup s.heap a its.toArray/\xs.length<=sizeLine:=by
 rcases h with h | ⟨o,its,n,hk,hc,hs,hz,r⟩
 ·obtain⟨z,its,r,p⟩:=h.ok I.hok
  exact⟨its,r,p,z⟩
 ·refine⟨its.toList,r,⟨o,I.kIn a o hk,hc,n,by simpa using hs⟩, ?_⟩
  have e:=r.length
  simp only[Array.length_toList] at e
  omega
theorem Inv.list_inj(I:Inv X pins σ H s)(h:SqL X.K H a xs)(h':SqL X.K H a ys):xs=ys:=by
 obtain⟨its,r,⟨o,n,e,_,_,d⟩,_⟩:=I.list h
 obtain⟨its',r',⟨o',n',e',_,_,d'⟩,_⟩:=I.list h'
 rw[e] at e';cases e'
 rw[d] at d'
 injection d' with d1 _
 have:its=its':=by simpa using congrArg Array.toList d1
 subst this
 exact r.inj r'
end
abbrev Cx.wish(X:Cx)(E:Value->Shared->Prop):Cx:={X with xe:=E}
abbrev Cx.nox(X:Cx):Cx:=X.wish λ_ _=>False
theorem Cx.Ok.wish{X:Cx}(ok:X.Ok)(E:Value->Shared->Prop):(X.wish E).Ok:=
 ⟨ok.mod,ok.kind,ok.glob,ok.blt,ok.above,ok.inj,ok.has,ok.cab,ok.hd,ok.frames,ok.stk,ok.exf,ok.bs,ok.bsz,ok.noex,ok.exfs,ok.funs,ok.frf⟩
theorem Cx.Ok.unwish{X:Cx}{E:Value->Shared->Prop}(ok:(X.wish E).Ok):X.Ok:=
 ⟨ok.mod,ok.kind,ok.glob,ok.blt,ok.above,ok.inj,ok.has,ok.cab,ok.hd,ok.frames,ok.stk,ok.exf,ok.bs,ok.bsz,ok.noex,ok.exfs,ok.funs,ok.frf⟩
section
variable {X : Cx} {pins : List (Addr × Obj)} {σ : St} {H : Hp} {s : Shared} {E : Value → Shared → Prop}
theorem Inv.wish(I:Inv X pins σ H s)(E:Value->Shared->Prop):Inv (X.wish E) pins σ H s:=⟨I.ok.wish E,I.os,I.bare,I.base,I.loc,I.cell,I.free,I.freeC,I.pin,I.hok,I.len⟩
theorem Inv.unwish(I:Inv (X.wish E) pins σ H s):Inv X pins σ H s:=⟨I.ok.unwish,I.os,I.bare,I.base,I.loc,I.cell,I.free,I.freeC,I.pin,I.hok,I.len⟩
theorem SP.unwish{D:Ends}{f:Flow}{s':Shared}(h:SP (X.wish E) pins D f s'):SP X pins D f s':=by
 cases f with
 | next=>obtain⟨σ',H',I,q⟩:=h;exact⟨σ',H',I.unwish,q⟩
 | brk=>obtain⟨σ',H',I,q⟩:=h;exact⟨σ',H',I.unwish,q⟩
 | cont=>obtain⟨σ',H',I,q⟩:=h;exact⟨σ',H',I.unwish,q⟩
 | ret u=>obtain⟨v,σ',H',I,r,q⟩:=h;exact⟨v,σ',H',I.unwish,r,q⟩
theorem PE.nox{e:Expr}{t:TE}(h:PE X.nox e t):PE X e t:=λpins s σ H Q I hw=>
 wpAny_mono (h pins s σ H Q (I.wish _) hw) (λ_ _ ⟨v,H',I',r,q⟩=>⟨v,H',I'.unwish,r,q⟩) λ_ _ z=>False.elim z
theorem PT.nox{e:Expr}{t:TT}(h:PT X.nox e t):PT X e t:=λpins s σ H Q I hw=>
 wpAny_mono (h pins s σ H Q (I.wish _) hw) (λ_ _ ⟨H',I',q⟩=>⟨H',I'.unwish,q⟩) λ_ _ z=>False.elim z
theorem PSs.nox{st:List Stmt}{t:TS}(h:PSs X.nox st t):PSs X st t:=λpins s σ H D I hw=>
 wpAny_mono (h pins s σ H D (I.wish _) hw) (λ_ _ q=>q.unwish) λ_ _ z=>False.elim z
end
section
variable {X : Cx} {st : Stmt} {rest : List Stmt} {t u : TS} {e : Expr} {te : TE} {pos : Pos}
def Iu:TS:=λD σ H=>D.nx σ H
def Kx(t u:TS):TS:=λD σ H=>t {D with nx:=u D} σ H
theorem cI:PSs X [] Iu:=λ_ _ σ H _ I h=>wpAny_execs_nil ⟨σ,H,I,h⟩
theorem ay(h1:PS X st t)(h2:PSs X rest u):PSs X (st::rest) (Kx t u):=by
 intro pins s σ H D I h
 refine wpAny_execs_cons (thn (h1 pins s σ H {D with nx:=u D} I h) λf s1 q=> ?_)
 cases f with
 | next=>
  obtain⟨σ',H',I',q⟩:=q
  exact h2 pins s1 σ' H' D I' q
 | ret v=>exact q
 | brk=>exact q
 | cont=>exact q
theorem aI(h1:PS X st t):PSs X [st] t:=by
 intro pins s σ H D I h
 refine wpAny_execs_cons (thn (h1 pins s σ H D I h) λf s1 q=> ?_)
 cases f with
 | next=>exact wpAny_execs_nil q
 | ret v=>exact q
 | brk=>exact q
 | cont=>exact q
theorem Inv.quiet{pins:List (Addr×Obj)}{σ:St}{H:Hp}{s:Shared}(I:Inv X pins σ H s):interactive X.env=false:=by simp[interactive,I.ok.kind]
def Il(te:TE):TS:=λD σ H=>te σ H λ_ H1=>D.nx σ H1
theorem cQ(he:PE X e te)(hs:swapsWith e none pos.line X.env=pure false:=by rfl):PS X (.Expr e pos) (Il te):=by
 intro pins s σ H D I h
 exact wpAny_Expr_any (thn (he pins s σ H _ I h) λv s1 ⟨x,H1,I1,r1,q1⟩=>⟨σ,H1,I1,q1⟩) I.quiet hs
def LG(te:TE):TS:=λD σ H=>te σ H D.rt
theorem bB(he:PE X e te):PS X (.Return (some e) pos) (LG te):=by
 intro pins s σ H D I h
 exact wpAny_Return_some (thn (he pins s σ H _ I h) λv s1 ⟨x,H1,I1,r1,q1⟩=>⟨x,σ,H1,I1,r1,q1⟩)
def LZ(c:TT)(t u:TS):TS:=λD σ H=>c σ H λb H1=>if b=true then t D σ H1 else u D σ H1
theorem dH{c:Expr}{a b:List Stmt}{tc:TT}(hc:PT X c tc)(ha:PSs X a t)(hb:PSs X b u):PS X (.If c a b pos) (LZ tc t u):=by
 intro pins s σ H D I h
 refine wpAny_If (thn (hc pins s σ H _ I h) λd s1 ⟨H1,I1,q1⟩=> ?_)
 cases d with
 | true=>exact ha pins s1 σ H1 D I1 q1
 | false=>exact hb pins s1 σ H1 D I1 q1
def Fc:TS:=λ_ _ _=>False
theorem kH:PS X st Fc:=λ_ _ _ _ _ _ h=>h.elim
end
abbrev TG:=V->St->Hp->(St->Hp->Prop)->Prop
abbrev TGs:=List V->St->Hp->(St->Hp->Prop)->Prop
def PG(X:Cx)(target:Expr)(t:TG):Prop:=
 ∀(pins:List (Addr×Obj)) (s:Shared) (σ:St) (H:Hp) (v:V) (u:Value) (Q:St->Hp->Prop),Inv X pins σ H s->RelV v u->t v σ H Q->
  wpAny (model X.prog X.w) X.A (assign target X.env u) (λ_ s'=>∃σ' H',Inv X pins σ' H' s'/\Q σ' H') X.xe s
def PGs(X:Cx)(ts:List Expr)(t:TGs):Prop:=
 ∀(pins:List (Addr×Obj)) (s:Shared) (σ:St) (H:Hp) (vs:List V) (us:List Value) (Q:St->Hp->Prop),Inv X pins σ H s->Vals vs us->t vs σ H Q->
  wpAny (model X.prog X.w) X.A (assignInOrder ((assignEach ts X.env).map (·.2)) us) (λ_ s'=>∃σ' H',Inv X pins σ' H' s'/\Q σ' H') X.xe s
abbrev HQ:=V->V->V->Hp->(Hp->Prop)->Prop
def Lz(X:Cx)(t:HQ):Prop:=
 ∀(pins:List (Addr×Obj)) (s:Shared) (σ:St) (H:Hp) (o i v:V) (ov iv u:Value) (Q:Hp->Prop),Inv X pins σ H s->RelV o ov->RelV i iv->RelV v u->t o i v H Q->
  wpAny (model X.prog X.w) X.A (setItem ov iv u) (λ_ s'=>∃H',Inv X pins σ H' s'/\Q H') X.xe s
section
variable {X : Cx} {pos : Pos}
def tT(i:Nat):TG:=λv σ H Q=>Q (σ.set i (some v)) H
theorem aO{i:Nat}{x:Str}(hN:X.N.Nodup)(hi:X.N[i]? =some x)(hx:Loc X.env.scope x)(hf:X.fn x=true\/X.env.scope.names.lookup x=some .local:=by first | exact .inl rfl | exact .inr rfl | assumption):PG X (.Name x pos) (tT i):=by
 intro pins s σ H v u Q I r h
 exact wpAny_assign_Name (zW I hN hi hx r (λs' I'=>⟨_,H,I',h⟩) hf)
def Ma:TGs:=λvs σ H Q=>vs=[]/\Q σ H
def Ir(t:TG)(u:TGs):TGs:=λvs σ H Q=>∃v r,vs=v::r/\t v σ H λσ' H'=>u r σ' H' Q
theorem gs:PGs X [] Ma:=by
 intro pins s σ H vs us Q I r h
 obtain⟨e,h⟩:=h
 subst e
 cases r
 exact assignInOrder_nil ⟨σ,H,I,h⟩
theorem cq {e:Expr} {es:List Expr} {t:TG} {u:TGs} (h1:PG X e t) (h2:PGs X es u)
 (hs:(assignEach (e::es) X.env).map (·.2)=assign e X.env::(assignEach es X.env).map (·.2):=by rfl):PGs X (e::es) (Ir t u):=by
 intro pins s σ H vs us Q I r h
 obtain⟨v,vr,e1,h⟩:=h
 subst e1
 cases r with
 | cons r rr=>
  rw[hs]
  refine assignInOrder_cons (thn (h1 pins s σ H _ _ _ I r h) λ_ s1 ⟨σ1,H1,I1,q1⟩=> ?_)
  exact h2 pins s1 σ1 H1 _ _ Q I1 rr q1
def LY(K:PySem.W.Frag)(n:Nat)(t:TGs):TG:=λv σ H Q=>∃a xs,v=.ref a/\SqT K H a xs/\xs.length=n/\t xs σ H Q
theorem iN {es:List Expr} {k:Nat} {t:TGs} {n:Nat} (hc:X.calm=true) (h:PGs X es t)
 (hn:(assignEach es X.env).length=n:=by rfl) (hst:(assignEach es X.env).findIdx? (·.1)=none:=by rfl):PG X (.Tuple es k pos) (LY X.K n t):=by
 intro pins s σ H v u Q I r hw
 obtain⟨a,xs,e1,hq,hl,hw⟩:=hw
 subst e1
 cases r
 obtain⟨its,rv,ht,hz⟩:=I.tuple hq
 refine assign_Tuple_tuple (I.ok.hd hc) ht (by simp[hn,<- hl,rv.length]) hst λh' hx=> ?_
 have I1:Inv X pins σ H {s with heap:=h'}:=I.kept (t':=s.toks) λb o e=>hx b o (Nat.ne_of_lt (Heap.lt_size e)) e
 exact h pins _ σ H xs _ Q I1 (by simpa using rv) hw
def Ln(to ti:TE)(t:HQ):TG:=λv σ H Q=>to σ H λo H1=>ti σ H1 λi H2=>t o i v H2 λH3=>Q σ H3
theorem KW {o i:Expr} {to ti:TE} {t:HQ} (ho:PE X o to) (hi:PE X i ti) (hs:Lz X t)
 (ha:∀v,assign (.Subscript o i pos) X.env v=(do
  let ov <- holding [v] (eval o X.env)
  let iv <- holding [v,ov] (eval i X.env)
  standAt pos
  holding [v,ov,iv] (setItem ov iv v)
  release [v,ov,iv] []):=by intro _;rfl):PG X (.Subscript o i pos) (Ln to ti t):=by
 intro pins s σ H v u Q I r h
 rw[ha]
 refine wpAny_bind (wpAny_holding (thn (ho pins s σ H _ I h) λov s1 ⟨x,H1,I1,r1,q1⟩=> ?_))
 refine wpAny_bind (wpAny_holding (thn (hi pins s1 σ H1 _ I1 q1) λiv s2 ⟨y,H2,I2,r2,q2⟩=> ?_))
 refine wpAny_bind (wpAny_standAt (wpAny_bind (wpAny_holding (thn (hs pins s2 σ H2 x y v ov iv u _ I2 r1 r2 r q2) λ_ s3 ⟨H3,I3,q3⟩=> ?_))))
 exact wpAny_release ⟨σ,H3,I3,q3⟩
def yS(te:TE)(g:TG):TS:=λD σ H=>te σ H λx H1=>g x σ H1 D.nx
theorem Fi {tg e:Expr} {te:TE} {g:TG} (he:PE X e te) (hg:PG X tg g) (hs:swapsWithSole [tg] e pos.line X.env=pure false:=by rfl) (hw:swappedStores [tg] e X.env=pure none:=by rfl)
 (h1:(assignEach [tg] X.env).map (·.2)=[assign tg X.env]:=by rfl):PS X (.Assign [tg] e pos) (yS te g):=by
 intro pins s σ H D I h
 refine wpAny_Assign_stores (thn (he pins s σ H _ I h) λv s1 ⟨x,H1,I1,r1,q1⟩=> ?_) hs hw
 rw[h1]
 exact thn (hg pins s1 σ H1 x v _ I1 r1 q1) λ_ s2 q=>q
theorem bo{i:Nat}{x:Str}{e:Expr}{te:TE}{pos':Pos}(hN:X.N.Nodup)(hi:X.N[i]? =some x)(hx:Loc X.env.scope x)(he:PE X e te)(hs:swapsWith e (some (.Name x pos')) pos.line X.env=pure false:=by rfl)(hf:X.fn x=true\/X.env.scope.names.lookup x=some .local:=by first | exact .inl rfl | exact .inr rfl | assumption):
 PS X (.Assign [.Name x pos'] e pos) (yS te (tT i)):=by
 intro pins s σ H D I h
 refine wpAny_Assign_Name (thn (he pins s σ H _ I h) λv s1 ⟨y,H1,I1,r1,q1⟩=> ?_) hs
 exact zW I1 hN hi hx r1 (λs2 I2=>⟨_,H1,I2,q1⟩) hf
end
section
variable {X : Cx} {pos : Pos}
def Eg(c:TT)(tb:TS):TS:=λD σ H=>∃W:Nat->St->Hp->Prop,(∃m,W m σ H)/\∀m σ H,W m σ H->
 c σ H λb H1=>if b=true then ∃N:St->Hp->Prop,(∀σ' H',N σ' H'->∃m',m'<m/\W m' σ' H')/\tb {D with nx:=N,ct:=N,bk:=D.nx} σ H1 else D.nx σ H1
theorem Aj{c:Expr}{body:List Stmt}{tc:TT}{tb:TS}(hp:PassesOwn (model X.prog X.w) X.A X.env X.xe)(hc:PT X c tc)(hb:PSs X body tb):PS X (.While c body [] pos) (Eg tc tb):=by
 intro pins s σ H D I h
 obtain⟨W,⟨m0,w0⟩,turn⟩:=h
 refine wpAny_While (codeAny_whileLoop (λn s'=>∃σ' H',Inv X pins σ' H' s'/\W n σ' H') ?_ m0 ⟨σ,H,I,w0⟩)
 rintro n s1 ⟨σ1,H1,I1,w1⟩
 refine wpAny_passesOwn hp (thn (hc pins s1 σ1 H1 _ I1 (turn n σ1 H1 w1)) λb s2 ⟨H2,I2,q2⟩=> ?_)
 cases b with
 | true=>
  obtain⟨N,hN,q2⟩:=q2
  rw[if_pos rfl]
  refine wpAny_passesOwn hp (thn (hb pins s2 σ1 H2 _ I2 q2) λf s3 q3=> ?_)
  cases f with
  | next=>
   obtain⟨σ3,H3,I3,n3⟩:=q3
   obtain⟨m',hm,w3⟩:=hN σ3 H3 n3
   exact⟨m',hm,σ3,H3,I3,w3⟩
  | cont=>
   obtain⟨σ3,H3,I3,n3⟩:=q3
   obtain⟨m',hm,w3⟩:=hN σ3 H3 n3
   exact⟨m',hm,σ3,H3,I3,w3⟩
  | brk=>exact q3
  | ret v=>exact q3
 | false=>
  rw[if_neg Bool.false_ne_true]
  exact wpAny_execs_nil ⟨σ1,H2,I2,q2⟩
end
structure It where
 go:Nat->Hp->Prop
 yld:Nat->Hp->V->Hp->Prop
 stop:Nat->Hp->Prop
def lP(X:Cx)(pins:List (Addr×Obj))(H:Hp)(b:Addr):Prop:=
 H b=none/\b≠X.env.locals/\b∉X.fs/\(b∈X.ex\/X.s₀.heap.objs.size<=b)/\(∀x c,X.env.cells.lookup x=some c->c≠b)/\∀p∈X.pn++pins,p.1≠b
theorem Inv.fpOk{X:Cx}{pins:List (Addr×Obj)}{σ:St}{H H':Hp}{s:Shared}{b:Addr}(I:Inv X pins σ H s)(hb:s.heap.objs.size<=b)(hn:H' b=none):lP X pins H' b:=by
 refine⟨hn,Nat.ne_of_gt (Nat.lt_of_lt_of_le I.lt hb),I.nofs hb,.inr (Nat.le_trans I.sz hb),λx c e z=> ?_,λp hp z=> ?_⟩
 ·obtain⟨v,q⟩:=I.cell x c e
  exact absurd (Nat.lt_of_lt_of_le q.lt (by rw[z];exact hb)) (Nat.lt_irrefl _)
 ·exact absurd (Nat.lt_of_lt_of_le (Heap.lt_size (I.pin p hp).1) (by rw[z];exact hb)) (Nat.lt_irrefl _)
structure Turn(P:Program)(w:World)(K:PySem.W.Frag)(tg:Expr)(J:It)(fp:List Addr)(it:Addr)(tn:Nat->Heap->Prop):Prop where
 mem:it∈fp
 obj:∀i h,tn i h->∀b∈fp,∃o,h.get? b=some o/\∀v,o.data≠ .cell v
 keep:∀i h h',tn i h->(∀b∈fp,∀o,h.get? b=some o->h'.get? b=some o)->tn i h'
 item:∀(X:Cx),X.prog=P->X.w=w->X.K=K->X.calm=true->∀(i:Nat) (pins:List (Addr×Obj)) (s:Shared) (σ:St) (H:Hp) (E:Value->Shared->Prop),Inv X pins σ H s->(∀b∈fp,lP X pins H b)->tn i s.heap->J.go i H->
  wpAny (model P w) X.A (pyNext (.ref it)) (λr s1=>∃u,r=some u/\
   wpAny (model P w) X.A (letOwnedTupleGo tg (.ref it) u) (λ_ s2=>∃x H',Inv X pins σ H' s2/\RelV x u/\J.yld i H x H'/\tn (i+1) s2.heap/\∀b∈fp,H' b=none) E s1) E s
 done:∀(X:Cx),X.prog=P->X.w=w->X.K=K->X.calm=true->∀(i:Nat) (pins:List (Addr×Obj)) (s:Shared) (σ:St) (H:Hp) (E:Value->Shared->Prop),Inv X pins σ H s->(∀b∈fp,lP X pins H b)->tn i s.heap->J.stop i H->
  wpAny (model P w) X.A (pyNext (.ref it)) (λr s1=>r=none/\Inv X pins σ H s1) E s
 self:∀(A:Around) (i:Nat) (s:Shared) (Q:Value->Shared->Prop) (E:Value->Shared->Prop),tn i s.heap->Q (.ref it) s->wpAny (model P w) A (pyIter (.ref it)) Q E s
abbrev TI:=St->Hp->(It->Hp->Prop)->Prop
def PIE(X:Cx)(pins:List (Addr×Obj))(σ:St)(tg:Expr)(R:It->Hp->Prop)(itv:Value)(s2:Shared):Prop:=
 ∃(it:Addr) (fp:List Addr) (tn:Nat->Heap->Prop) (J:It) (H':Hp),itv=.ref it/\Inv X pins σ H' s2/\Turn X.prog X.w X.K tg J fp it tn/\tn 0 s2.heap/\(∀b∈fp,lP X pins H' b)/\R J H'
def PI(X:Cx)(tg iter:Expr)(wi:TI):Prop:=
 ∀(pins:List (Addr×Obj)) (s:Shared) (σ:St) (H:Hp) (R:It->Hp->Prop),Inv X pins σ H s->wi σ H R->
  wpAny (model X.prog X.w) X.A (eval iter X.env) (λv s1=>wpAny (model X.prog X.w) X.A (pyIter v) (PIE X pins σ tg R) X.xe s1) X.xe s
theorem Dz {M:Model} {A:Around} {E:Value->Shared->Prop} {s:Shared} {tg:Expr} {it:Addr} {u:Value} {o:Obj} {n:String} {vs:Array Value} {Q:Unit->Shared->Prop} (ho:s.heap.get? it=some o) (hc:o.cls=.type n) (hd:o.data=.fields vs)
 (hn:["enumerate","zip","dict_itemiterator","dict_reverseitemiterator","odict_iterator","itertools.zip_longest","itertools.pairwise"].contains n=false) (hQ:Q () s):wpAny M A (letOwnedTupleGo tg (.ref it) u) Q E s:=by
 unfold letOwnedTupleGo
 cases tg <;> first
  | exact wpAny_pure hQ
  | (cases u <;> first
   | exact wpAny_pure hQ
   | (
    refine wpAny_bind (wpAny_load ho ?_)
    rw[hc,hd]
    show wpAny M A (if (["enumerate","zip","dict_itemiterator","dict_reverseitemiterator","odict_iterator","itertools.zip_longest","itertools.pairwise"].contains n&&vs[0]? == some (rawInt _))=true then _ else _) Q E s
    rw[if_neg (by intro h;rw[hn,Bool.false_and] at h;cases h)]
    exact wpAny_pure hQ))
def Itl(K:PySem.W.Frag)(a:Addr):It:=
 ⟨λi H=>∃xs x,SqL K H a xs/\xs[i]? =some x,λi H x H'=>H'=H/\∀xs,SqL K H a xs->xs[i]? =some x,λi H=>∃xs,SqL K H a xs/\xs.length<=i⟩
def Itr(lo:Int)(n:Nat):It:=⟨λi _=>i<n,λi H x H'=>H'=H/\x=.int (lo+i),λi _=>n<=i⟩
theorem Ft{P:Program}{w:World}{K:PySem.W.Frag}{tg:Expr}(a it:Addr):Turn P w K tg (Itl K a) [it] it (λi h=>h.IsListIter it a i) where
 mem:=by simp
 obj:=λi h st b hb=>by
  have e:b=it:=by simpa using hb
  subst e
  obtain⟨o,e,c,d⟩:=st
  exact⟨o,e,λv z=>by rw[d] at z;cases z⟩
 keep:=λi h h' st k=>st.at λo e=>k it (by simp) o e
 item:=by
  intro X hP hw hK hc i pins s σ H E I hf st hg
  subst hP hw hK
  obtain⟨xs,x,hq,hx⟩:=hg
  obtain⟨its,rv,p,hz⟩:=I.list hq
  obtain⟨u,hu,ru⟩:=rv.get hx
  obtain⟨f0,f1,f2,f3,f4,f5⟩:=hf it (by simp)
  refine wpAny_pyNext_list_item st p.isList (x:=u) (by simpa using hu) λh' st' sb=> ?_
  have I1:Inv X pins σ H {s with heap:=h'}:=I.turned (t':=s.toks) (λb o hb e=>(sb.2 b hb).trans e) f0 f1 f3 f4 f5
  obtain⟨o,e,c,d⟩:=id st'
  exact⟨u,rfl,Dz (s:={s with heap:=h'}) e c d (by decide) ⟨x,H,I1,ru,⟨rfl,λys hy=>by rw[I.list_inj hy hq];exact hx⟩,st',λb hb=>(hf b hb).1⟩⟩
 done:=by
  intro X hP hw hK hc i pins s σ H E I hf st hg
  subst hP hw hK
  obtain⟨xs,hq,hx⟩:=hg
  obtain⟨its,rv,p,hz⟩:=I.list hq
  obtain⟨f0,f1,f2,f3,f4,f5⟩:=hf it (by simp)
  have hl:=rv.length
  exact wpAny_pyNext_list_end (I.ok.hd hc) st p.isList (by simp;omega) λh' eb=>⟨rfl,I.turned (t':=s.toks) (λb o hb e=>eb b o hb e) f0 f1 f3 f4 f5⟩
 self:=λ_ _ _ _ _ st h=>wpAny_pyIter_listiter st h
theorem Dw{P:Program}{w:World}{K:PySem.W.Frag}{tg:Expr}(it:Addr)(lo:Int)(n:Nat):Turn P w K tg (Itr lo n) [it] it (λi h=>IsRangeIter h it (lo+(i:Nat)*1) ((n:Int)-(i:Nat)) 1) where
 mem:=by simp
 obj:=λi h st b hb=>by
  have e:b=it:=by simpa using hb
  subst e
  exact⟨_,st,λv z=>by
   have z':Data.fields _=Data.cell v:=z
   cases z'⟩
 keep:=λi h h' st k=>k it (by simp) _ st
 item:=by
  intro X hP hw hK hc i pins s σ H E I hf st hg
  subst hP hw hK
  obtain⟨f0,f1,f2,f3,f4,f5⟩:=hf it (by simp)
  have W:=Walks.range (prog:=X.prog) (w:=X.w) (I.ok.hd hc) it lo 1 n
  refine W.item i s _ _ hg st λv h' tk hv st' kk=> ?_
  obtain⟨t,rfl⟩:=hv
  have I1:Inv X pins σ H {s with heap:=h',toks:=tk}:=I.turned (λb o hb e=>kk b o (by simpa using hb) e) f0 f1 f3 f4 f5
  refine⟨_,rfl,Dz (s:={s with heap:=h',toks:=tk}) (n:="range_iterator") st' rfl rfl (by decide) ⟨.int (lo+i),H,I1,⟨t, ?_⟩,⟨rfl,rfl⟩,st',λb hb=>(hf b hb).1⟩⟩
  rw[Int.mul_one]
 done:=by
  intro X hP hw hK hc i pins s σ H E I hf st hg
  subst hP hw hK
  obtain⟨f0,f1,f2,f3,f4,f5⟩:=hf it (by simp)
  exact wpAny_pyNext_range_end (I.ok.hd hc) st (by have:n<=i:=hg;omega) λh' eb=>⟨rfl,I.turned (t':=s.toks) (λb o hb e=>eb b o hb e) f0 f1 f3 f4 f5⟩
 self:=λ_ _ _ _ _ st h=>wpAny_pyIter_rangeiter st h
end L2
namespace L2
open PySem PySem.Spec PyProof.Rows
section
variable {X : Cx} {tg : Expr}
def Ie(K:PySem.W.Frag)(tl:TE):TI:=λσ H R=>tl σ H λx H1=>∃a,x=.ref a/\(∃xs,SqL K H1 a xs)/\R (Itl K a) H1
theorem bU{l:Expr}{tl:TE}(hl:PE X l tl):PI X tg l (Ie X.K tl):=by
 intro pins s σ H R I h
 refine thn (hl pins s σ H _ I h) λv s1 ⟨x,H1,I1,r1,q1⟩=> ?_
 obtain⟨a,e,⟨xs,hq⟩,q⟩:=q1
 subst e
 cases r1
 obtain⟨its,rv,p,hz⟩:=I1.list hq
 refine wpAny_pyIter_list p.isList ?_
 refine⟨s1.heap.objs.size,[s1.heap.objs.size],_,_,H1,rfl,I1.kept (t':=s1.toks) λb o e=>Heap.get?_push_of_some _ e,Ft a _,⟨_,Heap.get?_push_size _ rfl,rfl,rfl⟩,λb hb=> ?_,q⟩
 have e:b=s1.heap.objs.size:=by simpa using hb
 subst e
 exact I1.fpOk (Nat.le_refl _) (I1.hok.fresh (Nat.le_refl _))
theorem G9 {pins:List (Addr×Obj)} {σ:St} {H:Hp} {s:Shared} {R:It->Hp->Prop} {E:Value->Shared->Prop} {lo hi:Int} {t u v:Tok} {tk:Nat} (I:Inv X pins σ H s) (h1: -(2^62)<=lo) (h2:lo<2^62) (h3: -(2^62)<=hi) (h4:hi<2^62)
 (q:R (Itr lo (hi-lo).toNat) H):wpAny (model X.prog X.w) X.A (pyIter (.ref s.heap.objs.size)) (PIE X pins σ tg R) E {s with heap:=s.heap.push {cls:=.type "range",data:=.fields #[.int lo t,.int hi u,.int 1 v]},toks:=tk}:=by
 refine wpAny_pyIter_range (IsRange.new ..) (small_one h1 h2 h3 h4) ?_
 have I1:Inv X pins σ H {s with heap:=s.heap.push {cls:=.type "range",data:=.fields #[.int lo t,.int hi u,.int 1 v]},toks:=tk}:=I.kept λb o e=>Heap.get?_push_of_some _ e
 refine⟨(s.heap.push {cls:=.type "range",data:=.fields #[.int lo t,.int hi u,.int 1 v]}).objs.size,[(s.heap.push {cls:=.type "range",data:=.fields #[.int lo t,.int hi u,.int 1 v]}).objs.size],_,_,H,rfl,
  I1.kept (t':=tk) λb o e=>Heap.get?_push_of_some _ e,Dw _ lo (hi-lo).toNat, ?_,λb hb=> ?_,q⟩
 ·have e1:lo+((0:Nat):Int)*1=lo:=by simp
  have e2:(((hi-lo).toNat:Nat):Int)-((0:Nat):Int)=Builtin.Range.rangeSize lo hi 1:=by rw[rangeSize_one];split <;> omega
  show IsRangeIter _ _ (lo+((0:Nat):Int)*1) ((((hi-lo).toNat:Nat):Int)-((0:Nat):Int)) 1
  rw[e1,e2]
  exact Heap.get?_push_size _ rfl
 ·have e:b=(s.heap.push {cls:=.type "range",data:=.fields #[.int lo t,.int hi u,.int 1 v]}).objs.size:=by simpa using hb
  subst e
  exact I1.fpOk (Nat.le_refl _) (I1.hok.fresh (Nat.le_refl _))
def IE(ta:TA):TI:=λσ H R=>ta σ H λvs H1=>∃j:Int,vs=[.int j]/\ -(2^62)<=j/\j<2^62/\R (Itr 0 j.toNat) H1
theorem dB{a:Expr}{ta:TA}{p pos:Pos}(hg:Gl X "range")(hm:X.mg "range" =none)(ha:PA X [a] ta)(hs:starEach [a] X.env=[(false,eval a X.env)]:=by rfl):PI X tg (.Call (.Name "range" p) [a] [] pos) (IE ta):=by
 intro pins s σ H R I h
 refine Call_ (oF I hg hm boot_range (PyProof.Rows.callWith_type1 (thn (ha pos pins s σ H _ I h) λus s1 ⟨vs,H1,I1,r1,q1⟩=> ?_) hs rfl))
 obtain⟨j,e,q1,q2,q⟩:=q1
 subst e
 cases r1 with
 | cons r rr=>
  cases rr
  obtain⟨t,rfl⟩:=r
  exact call_range_1 (G9 I1 (by omega) (by omega) q1 q2 (by simpa using q))
def Mc(wi:TI)(g:TG)(tb:TS):TS:=λD σ H=>wi σ H λJ H1=>∃W:Nat->Nat->St->Hp->Prop,(∃m,W 0 m σ H1)/\∀i m σ H,W i m σ H->
 (J.stop i H/\D.nx σ H)\/(J.go i H/\∃N:St->Hp->Prop,(∀σ' H',N σ' H'->∃m',m'<m/\W (i+1) m' σ' H')/\∀x H',J.yld i H x H'->g x σ H' λσ2 H2=>tb {D with nx:=N,ct:=N,bk:=D.nx} σ2 H2)
def sJ(fp:List Addr)(h:Heap):List (Addr×Obj):=fp.filterMap λb=>(h.get? b).map λo=>(b,o)
theorem ng{fp:List Addr}{h:Heap}{b:Addr}{o:Obj}(hb:b∈fp)(e:h.get? b=some o):(b,o)∈sJ fp h:=List.mem_filterMap.mpr ⟨b,hb,by rw[e];rfl⟩
theorem Fu{fp:List Addr}{h:Heap}{p:Addr×Obj}(hp:p∈sJ fp h):p.1∈fp/\h.get? p.1=some p.2:=by
 obtain⟨b,hb,e⟩:=List.mem_filterMap.mp hp
 cases q:h.get? b with
 | none=>rw[q] at e;cases e
 | some o=>
  rw[q] at e
  have e':(b,o)=p:=Option.some.inj e
  subst e'
  exact⟨hb,q⟩
theorem Inv.pinned{pins:List (Addr×Obj)}{σ:St}{H:Hp}{s:Shared}{fp:List Addr}(I:Inv X pins σ H s)(hf:∀b∈fp,lP X pins H b)(ho:∀b∈fp,∃o,s.heap.get? b=some o/\∀v,o.data≠ .cell v):Inv X (pins++sJ fp s.heap) σ H s:=
 I.pins_of λp hp=>(List.mem_append.mp hp).elim (λz=>I.pin p (List.mem_append_right _ z)) λz=>by
  obtain⟨hb,e⟩:=Fu z
  obtain⟨f0,f1,f2,_⟩:=hf p.1 hb
  obtain⟨o,e',d⟩:=ho p.1 hb
  rw[e] at e';cases e'
  exact⟨e,f0,f1,f2,d⟩
theorem Inv.unpinned{pins pl:List (Addr×Obj)}{σ:St}{H:Hp}{s:Shared}(I:Inv X (pins++pl) σ H s):Inv X pins σ H s:=I.pins_of λp hp=>I.pin p (List.mem_append_right _ (List.mem_append_left _ hp))
theorem dY {iter:Expr} {body:List Stmt} {wi:TI} {g:TG} {tb:TS} {pos:Pos} (hp:PassesOwn (model X.prog X.w) X.A X.env X.xe) (hc:X.calm=true) (hi:PI X tg iter wi) (hg:PG X tg g) (hb:PSs X body tb)
 (hs:∀x,foldedSetIterable iter X.env x=pure x:=by intro _;rfl):PS X (.For tg iter body [] pos) (Mc wi g tb):=by
 intro pins s σ H D I h
 refine wpAny_For (thn (hi pins s σ H _ I h) λv s1 h1=>thn h1 λitv s2 h2=> ?_) hs
 obtain⟨it,fp,tn,J,H2,e,I2,T,st2,f2,W,⟨m0,w0⟩,turn⟩:=h2
 subst e
 have stat:∀{H':Hp},(∀b∈fp,H' b=none)->∀b∈fp,lP X pins H' b:=λhn b hb=>⟨hn b hb,(f2 b hb).2⟩
 refine codeAny_forLoop_any (λn s'=>∃i σ' H',Inv X pins σ' H' s'/\tn i s'.heap/\(∀b∈fp,H' b=none)/\W i n σ' H') ?_ m0 ⟨0,σ,H2,I2,st2,λb hb=>(f2 b hb).1,w0⟩
 rintro n s3 ⟨i,σ3,H3,I3,st3,fr3,w3⟩
 rcases turn i n σ3 H3 w3 with⟨stop,qn⟩ | ⟨go,N,hN,step⟩
 ·refine wpAny_passesOwn hp (thn (T.done X rfl rfl rfl hc i pins s3 σ3 H3 X.xe I3 (stat fr3) st3 stop) λr s4 ⟨hr,I4⟩=> ?_)
  subst hr
  exact wpAny_execs_nil ⟨σ3,H3,I4,qn⟩
 ·refine wpAny_passesOwn hp (thn (T.item X rfl rfl rfl hc i pins s3 σ3 H3 X.xe I3 (stat fr3) st3 go) λr s4 ⟨u,hr,h4⟩=> ?_)
  subst hr
  refine wpAny_passesOwn hp (thn h4 λ_ s5 ⟨x,H5,I5,r5,y5,st5,fr5⟩=> ?_)
  have I5':=I5.pinned (stat fr5) (T.obj _ _ st5)
  refine wpAny_passesOwn hp (thn (hg _ s5 σ3 H5 x u _ I5' r5 (step x H5 y5)) λ_ s6 ⟨σ6,H6,I6,q6⟩=> ?_)
  refine wpAny_passesOwn hp (thn (hb _ s6 σ6 H6 _ I6 q6) λf s7 q7=> ?_)
  have again:∀{σ7:St} {H7:Hp},Inv X (pins++sJ fp s5.heap) σ7 H7 s7->N σ7 H7->∃m,m<n/\∃i σ' H',Inv X pins σ' H' s7/\tn i s7.heap/\(∀b∈fp,H' b=none)/\W i m σ' H':=λ{σ7 H7} I7 n7=>by
   obtain⟨m',hm,w7⟩:=hN σ7 H7 n7
   refine⟨m',hm,i+1,σ7,H7,I7.unpinned,T.keep _ _ _ st5 λb hb o e=>(I7.pin (b,o) (List.mem_append_right _ (List.mem_append_right _ (ng hb e)))).1,λb hb=> ?_,w7⟩
   obtain⟨o,e,d⟩:=T.obj _ _ st5 b hb
   exact(I7.pin (b,o) (List.mem_append_right _ (List.mem_append_right _ (ng hb e)))).2.1
  cases f with
  | next=>obtain⟨σ7,H7,I7,n7⟩:=q7;exact again I7 n7
  | cont=>obtain⟨σ7,H7,I7,n7⟩:=q7;exact again I7 n7
  | brk=>obtain⟨σ7,H7,I7,q7⟩:=q7;exact⟨σ7,H7,I7.unpinned,q7⟩
  | ret v=>obtain⟨x7,σ7,H7,I7,r7,q7⟩:=q7;exact⟨x7,σ7,H7,I7.unpinned,r7,q7⟩
end
end L2
namespace L2
open PySem PySem.Spec PyProof.Rows
abbrev R2:=V->V->Hp->VK->Prop
def OpR(X:Cx)(f:Value->Value->Sem Value)(r:R2):Prop:=
 ∀(pins:List (Addr×Obj)) (s:Shared) (σ:St) (H:Hp) (x y:V) (v u:Value) (Q:VK),Inv X pins σ H s->RelV x v->RelV y u->r x y H Q->
  wpAny (model X.prog X.w) X.A (f v u) (EP X pins σ Q) X.xe s
def UnR(X:Cx)(f:Value->Sem Value)(r:V->Hp->VK->Prop):Prop:=
 ∀(pins:List (Addr×Obj)) (s:Shared) (σ:St) (H:Hp) (x:V) (v:Value) (Q:VK),Inv X pins σ H s->RelV x v->r x H Q->
  wpAny (model X.prog X.w) X.A (f v) (EP X pins σ Q) X.xe s
def iD(X:Cx)(f:Value)(r:List V->Hp->VK->Prop):Prop:=
 ∀(pins:List (Addr×Obj)) (s:Shared) (σ:St) (H:Hp) (xs:List V) (us:List Value) (Q:VK),Inv X pins σ H s->Vals xs us->r xs H Q->
  wpAny (model X.prog X.w) X.A (call f us) (EP X pins σ Q) X.xe s
def NC(X:Cx)(r:V->Hp->(Bool->Hp->Prop)->Prop):Prop:=
 ∀(pins:List (Addr×Obj)) (s:Shared) (σ:St) (H:Hp) (x:V) (v:Value) (Q:Bool->Hp->Prop),Inv X pins σ H s->RelV x v->r x H Q->
  wpAny (model X.prog X.w) X.A (truthy v) (TP X pins σ Q) X.xe s
def tOp(r:R2)(ta tb:TE):TE:=λσ H Q=>ta σ H λx H1=>tb σ H1 λy H2=>r x y H2 Q
def tUn(r:V->Hp->VK->Prop)(ta:TE):TE:=λσ H Q=>ta σ H λx H1=>r x H1 Q
def rI(C:Int->Int->Prop)(g:Int->Int->V):R2:=λx y H Q=>∃i j,x=.int i/\y=.int j/\C i j/\Q (g i j) H
def rI0(g:Int->Int->V):R2:=λx y H Q=>∃i j,x=.int i/\y=.int j/\Q (g i j) H
def rU(g:Int->V):V->Hp->VK->Prop:=λx H Q=>∃i,x=.int i/\Q (g i) H
section
variable {X : Cx} {a b c : Expr} {ta tb tc : TE} {pos : Pos}
theorem Gn (ha:PE X a ta) (hb:PE X b tb) {pins:List (Addr×Obj)} {s:Shared} {σ:St} {H:Hp} {R:V->V->Hp->Prop} (I:Inv X pins σ H s)
 (h:ta σ H λx H1=>tb σ H1 λy H2=>R x y H2) {Q:Value->Shared->Prop} {f:Value->Value->Sem Value}
 (hf:∀v u s2 x y H2,Inv X pins σ H2 s2->RelV x v->RelV y u->R x y H2->wpAny (model X.prog X.w) X.A (f v u) Q X.xe s2):
 wpAny (model X.prog X.w) X.A (eval a X.env) (λv s₁=>wpAny (model X.prog X.w) X.A (eval b X.env) (λu s₂=>wpAny (model X.prog X.w) X.A (f v u) Q X.xe s₂) X.xe s₁) X.xe s:=by
 refine thn (ha pins s σ H _ I h) λv s1 ⟨x,H1,I1,r1,q1⟩=> ?_
 refine thn (hb pins s1 σ H1 _ I1 q1) λu s2 ⟨y,H2,I2,r2,q2⟩=> ?_
 exact hf v u s2 x y H2 I2 r1 r2 q2
theorem aR{op:Operator}{r:R2}(ho:OpR X (binaryOp op) r)(ha:PE X a ta)(hb:PE X b tb):PE X (.BinOp a op b pos) (tOp r ta tb):=by
 intro pins s σ H Q I h
 exact wpAny_BinOp (Gn ha hb I h λv u s2 x y H2 I2 rx ry q=>ho pins s2 σ H2 x y v u Q I2 rx ry q)
theorem vJ{op:UnaryOp}{r:V->Hp->VK->Prop}(ho:UnR X (unaryOp op) r)(ha:PE X a ta):PE X (.UnaryOp op a pos) (tUn r ta):=by
 intro pins s σ H Q I h
 exact UnaryOp_ (thn (ha pins s σ H _ I h) λv s1 ⟨x,H1,I1,r1,q1⟩=>ho pins s1 σ H1 x v Q I1 r1 q1)
theorem opI {f:Value->Value->Sem Value} {C:Int->Int->Prop} {g:Int->Int->Int}
 (rule:∀(i j:Int) (t u:Tok) (s:Shared) (Q:Value->Shared->Prop) (E:Value->Shared->Prop),C i j->Q (.int (g i j) s.toks) {s with toks:=s.toks+1}->wpAny (model X.prog X.w) X.A (f (.int i t) (.int j u)) Q E s):
 OpR X f (rI C λi j=>.int (g i j)):=by
 intro pins s σ H x y v u Q I rx ry h
 obtain⟨i,j,rfl,rfl,hc,q⟩:=h
 obtain⟨t,rfl⟩:=rx
 obtain⟨t',rfl⟩:=ry
 exact rule i j t t' s _ _ hc ⟨.int (g i j),H,I.tok _,⟨_,rfl⟩,q⟩
theorem DF {f:Value->Value->Sem Value} {g:Int->Int->Int}
 (rule:∀(i j:Int) (t u:Tok) (s:Shared) (Q:Value->Shared->Prop) (E:Value->Shared->Prop),Q (.int (g i j) s.toks) {s with toks:=s.toks+1}->wpAny (model X.prog X.w) X.A (f (.int i t) (.int j u)) Q E s):
 OpR X f (rI0 λi j=>.int (g i j)):=by
 intro pins s σ H x y v u Q I rx ry h
 obtain⟨i,j,rfl,rfl,q⟩:=h
 obtain⟨t,rfl⟩:=rx
 obtain⟨t',rfl⟩:=ry
 exact rule i j t t' s _ _ ⟨.int (g i j),H,I.tok _,⟨_,rfl⟩,q⟩
theorem LC {f:Value->Value->Sem Value} {g:Int->Int->Bool}
 (rule:∀(i j:Int) (t u:Tok) (s:Shared) (Q:Value->Shared->Prop) (E:Value->Shared->Prop),Q (.bool (g i j)) s->wpAny (model X.prog X.w) X.A (f (.int i t) (.int j u)) Q E s):
 OpR X f (rI0 λi j=>.bl (g i j)):=by
 intro pins s σ H x y v u Q I rx ry h
 obtain⟨i,j,rfl,rfl,q⟩:=h
 obtain⟨t,rfl⟩:=rx
 obtain⟨t',rfl⟩:=ry
 exact rule i j t t' s _ _ ⟨.bl (g i j),H,I,rfl,q⟩
def vW(i j:Int):Prop:=0<=j/\j<=1000000/\i.natAbs<2^64
def Li(i j:Int):Prop:=(-(2^64)<i/\i<2^64)\/(-(2^64)<j/\j<2^64)
theorem Li.ok{i j:Int}(h:Li i j):IntMulOk i j:=by
 rcases h with⟨h1,h2⟩ | ⟨h1,h2⟩
 ·exact .of_left (intBits_le_64 h1 h2)
 ·exact .of_right (intBits_le_64 h1 h2)
theorem KA:OpR X (binaryOp .Add) (rI0 λi j=>.int (i+j)):=DF λ_ _ _ _ _ _ _ q=>add_int q
theorem oO:OpR X (binaryOp .Sub) (rI0 λi j=>.int (i-j)):=DF λ_ _ _ _ _ _ _ q=>sub_int q
theorem gy:OpR X (binaryOp .Mod) (rI (λ_ j=>j≠0) λi j=>.int (i.fmod j)):=opI λ_ _ _ _ _ _ _ hc q=>mod_int' hc q
theorem Ei:OpR X (binaryOp .Pow) (rI vW λi j=>.int (i^j.toNat)):=opI λ_ _ _ _ _ _ _ hc q=>pow_int_small hc.1 hc.2.1 hc.2.2 q
theorem LU:OpR X (binaryOp .LShift) (rI vW λi j=>.int (i*2^j.toNat)):=opI λ_ _ _ _ _ _ _ hc q=>lshift_int_small hc.1 hc.2.1 hc.2.2 q
theorem LR:OpR X (binaryOp .BitAnd) (rI0 λi j=>.int (Builtin.bitAnd i j)):=DF λ_ _ _ _ _ _ _ q=>and_int q
theorem D9:OpR X (binaryOp .BitOr) (rI0 λi j=>.int (Builtin.bitOr i j)):=DF λ_ _ _ _ _ _ _ q=>or_int q
theorem unI {f:Value->Sem Value} {g:Int->Int}
 (rule:∀(i:Int) (t:Tok) (s:Shared) (Q:Value->Shared->Prop) (E:Value->Shared->Prop),Q (.int (g i) s.toks) {s with toks:=s.toks+1}->wpAny (model X.prog X.w) X.A (f (.int i t)) Q E s):
 UnR X f (rU λi=>.int (g i)):=by
 intro pins s σ H x v Q I rx h
 obtain⟨i,rfl,q⟩:=h
 obtain⟨t,rfl⟩:=rx
 exact rule i t s _ _ ⟨.int (g i),H,I.tok _,⟨_,rfl⟩,q⟩
theorem rW:UnR X (unaryOp .USub) (rU λi=>.int (-i)):=unI λ_ _ _ _ _ q=>neg_int q
end
def LO:V->V->Bool
 | .non,.non=>true | .non,.int _=>true | .int _,.non=>true | .non,.bl _=>true | .bl _,.non=>true | .non,.str _=>true | .str _,.non=>true
 | .int _,.int _=>true | .bl _,.bl _=>true | .str _,.str _=>true | .byt _,.byt _=>true
 | .int _,.str _=>true | .str _,.int _=>true | .bl _,.str _=>true | .str _,.bl _=>true
 | _,_=>false
def rEq:R2:=λx y H Q=>LO x y=true/\Q (.bl (decide (x=y))) H
def rNe:R2:=λx y H Q=>LO x y=true/\Q (.bl (!decide (x=y))) H
theorem tJ{i j:Int}:decide (V.int i=V.int j)=(i == j):=by
 rw[Bool.eq_iff_iff]
 simp
theorem vH{i j:Bool}:decide (V.bl i=V.bl j)=(i == j):=by
 rw[Bool.eq_iff_iff]
 simp
theorem tF{i j:Str}:decide (V.str i=V.str j)=(i == j):=by
 rw[Bool.eq_iff_iff]
 simp
theorem Cz{i j:Array UInt8}:decide (V.byt i=V.byt j)=(i.toList == j.toList):=by
 rw[Bool.eq_iff_iff]
 cases i
 cases j
 simp
section
variable {X : Cx} {a b c : Expr} {ta tb tc : TE} {pos : Pos}
theorem cJ{pins:List (Addr×Obj)}{σ:St}{H:Hp}{s:Shared}{Q:VK}{k k':Bool}(I:Inv X pins σ H s)(q:Q (.bl k) H)(e:k=k'):EP X pins σ Q (.bool k') s:=by
 subst e
 exact⟨.bl k,H,I,rfl,q⟩
theorem MC:OpR X (compareOp .Eq) rEq:=by
 intro pins s σ H x y v u Q I rx ry h
 obtain⟨hs,q⟩:=h
 cases x with
 | non=>
  cases rx
  cases y with
  | non=>cases ry;exact PySem.EqNone.eq_none_none (cJ I q (by simp))
  | bl j=>cases ry;exact PySem.EqNone.eq_none_bool (cJ I q (by simp))
  | int j=>obtain⟨t',rfl⟩:=ry;exact PySem.EqNone.eq_none_int (cJ I q (by simp))
  | str j=>obtain⟨t',rfl⟩:=ry;exact PySem.EqNone.eq_none_str (cJ I q (by simp))
  | _=>exact absurd (show false=true from hs) Bool.false_ne_true
 | bl i=>
  cases rx
  cases y with
  | non=>cases ry;exact PySem.EqNone.eq_bool_none (cJ I q (by simp))
  | bl j=>cases ry;exact eq_bool (cJ I q vH)
  | str j=>obtain⟨t',rfl⟩:=ry;exact PySem.EqMixed.eq_bool_str (cJ I q (by simp))
  | _=>exact absurd (show false=true from hs) Bool.false_ne_true
 | int i=>
  obtain⟨t,rfl⟩:=rx
  cases y with
  | non=>cases ry;exact PySem.EqNone.eq_int_none (cJ I q (by simp))
  | int j=>obtain⟨t',rfl⟩:=ry;exact eq_int (cJ I q tJ)
  | str j=>obtain⟨t',rfl⟩:=ry;exact PySem.EqMixed.eq_int_str (cJ I q (by simp))
  | _=>exact absurd (show false=true from hs) Bool.false_ne_true
 | str i=>
  obtain⟨t,rfl⟩:=rx
  cases y with
  | non=>cases ry;exact PySem.EqNone.eq_str_none (cJ I q (by simp))
  | bl j=>cases ry;exact PySem.EqMixed.eq_str_bool (cJ I q (by simp))
  | int j=>obtain⟨t',rfl⟩:=ry;exact PySem.EqMixed.eq_str_int (cJ I q (by simp))
  | str j=>obtain⟨t',rfl⟩:=ry;exact eq_str (cJ I q tF)
  | _=>exact absurd (show false=true from hs) Bool.false_ne_true
 | byt i=>
  obtain⟨t,rfl⟩:=rx
  cases y with
  | byt j=>obtain⟨t',rfl⟩:=ry;exact PySem.W.eq_bytes (cJ I q Cz)
  | _=>exact absurd (show false=true from hs) Bool.false_ne_true
 | _=>cases y <;> exact absurd (show false=true from hs) Bool.false_ne_true
theorem MO:OpR X (compareOp .NotEq) rNe:=by
 intro pins s σ H x y v u Q I rx ry h
 obtain⟨hs,q⟩:=h
 cases x with
 | non=>
  cases rx
  cases y with
  | non=>cases ry;exact PySem.EqNone.ne_none_none (cJ I q (by simp))
  | bl j=>cases ry;exact PySem.EqNone.ne_none_bool (cJ I q (by simp))
  | int j=>obtain⟨t',rfl⟩:=ry;exact PySem.EqNone.ne_none_int (cJ I q (by simp))
  | str j=>obtain⟨t',rfl⟩:=ry;exact PySem.EqNone.ne_none_str (cJ I q (by simp))
  | _=>exact absurd (show false=true from hs) Bool.false_ne_true
 | bl i=>
  cases rx
  cases y with
  | non=>cases ry;exact PySem.EqNone.ne_bool_none (cJ I q (by simp))
  | bl j=>cases ry;exact ne_bool (cJ I q (congrArg not vH))
  | str j=>obtain⟨t',rfl⟩:=ry;exact PySem.EqMixed.ne_bool_str (cJ I q (by simp))
  | _=>exact absurd (show false=true from hs) Bool.false_ne_true
 | int i=>
  obtain⟨t,rfl⟩:=rx
  cases y with
  | non=>cases ry;exact PySem.EqNone.ne_int_none (cJ I q (by simp))
  | int j=>obtain⟨t',rfl⟩:=ry;exact ne_int (cJ I q (congrArg not tJ))
  | str j=>obtain⟨t',rfl⟩:=ry;exact PySem.EqMixed.ne_int_str (cJ I q (by simp))
  | _=>exact absurd (show false=true from hs) Bool.false_ne_true
 | str i=>
  obtain⟨t,rfl⟩:=rx
  cases y with
  | non=>cases ry;exact PySem.EqNone.ne_str_none (cJ I q (by simp))
  | bl j=>cases ry;exact PySem.EqMixed.ne_str_bool (cJ I q (by simp))
  | int j=>obtain⟨t',rfl⟩:=ry;exact PySem.EqMixed.ne_str_int (cJ I q (by simp))
  | str j=>obtain⟨t',rfl⟩:=ry;exact ne_str (cJ I q (congrArg not tF))
  | _=>exact absurd (show false=true from hs) Bool.false_ne_true
 | byt i=>
  obtain⟨t,rfl⟩:=rx
  cases y with
  | byt j=>obtain⟨t',rfl⟩:=ry;exact PySem.W.ne_bytes (cJ I q (congrArg not Cz))
  | _=>exact absurd (show false=true from hs) Bool.false_ne_true
 | _=>cases y <;> exact absurd (show false=true from hs) Bool.false_ne_true
theorem o9:OpR X (compareOp .Lt) (rI0 λi j=>.bl (decide (i<j))):=LC λ_ _ _ _ _ _ _ q=>lt_int q
theorem mI:OpR X (compareOp .Gt) (rI0 λi j=>.bl (decide (j<i))):=LC λ_ _ _ _ _ _ _ q=>gt_int q
theorem OpR.or{f:Value->Value->Sem Value}{r r':R2}(h:OpR X f r)(h':OpR X f r'):OpR X f (λx y H Q=>r x y H Q\/r' x y H Q):=by
 intro pins s σ H x y v u Q I rx ry q
 rcases q with q | q
 ·exact h pins s σ H x y v u Q I rx ry q
 ·exact h' pins s σ H x y v u Q I rx ry q
theorem bY(b:Expr){op:CmpOp}(h:op≠ .In:=by decide)(h2:op≠ .NotIn:=by decide):behindInMarks op b=false:=by
 have e1:(op == CmpOp.In)=false:=by cases op <;> first | rfl | exact absurd rfl h
 have e2:(op == CmpOp.NotIn)=false:=by cases op <;> first | rfl | exact absurd rfl h2
 cases b <;> simp[behindInMarks,e1,e2]
theorem sN{op:CmpOp}{r:R2}(ho:OpR X (compareOp op) r)(ha:PE X a ta)(hb:PE X b tb)(hm:behindInMarks op b=false):PE X (.Compare a [op] [b] pos) (tOp r ta tb):=by
 intro pins s σ H Q I h
 exact wpAny_Compare1 (Gn ha hb I h λv u s2 x y H2 I2 rx ry q=>ho pins s2 σ H2 x y v u Q I2 rx ry q) hm
def Dq(t:TE):TT:=λσ H Q=>t σ H λx H'=>∃k,x=.bl k/\Q k H'
theorem bM{op:CmpOp}{r:R2}(ho:OpR X (compareOp op) r)(ha:PE X a ta)(hb:PE X b tb)(hm:behindInMarks op b=false):PT X (.Compare a [op] [b] pos) (Dq (tOp r ta tb)):=by
 intro pins s σ H Q I h
 refine wpAny_isTrue_Compare1 (thn (ha pins s σ H _ I h) λv s1 ⟨x,H1,I1,r1,q1⟩=>thn (hb pins s1 σ H1 _ I1 q1) λu s2 ⟨y,H2,I2,r2,q2⟩=>
  thn (ho pins s2 σ H2 x y v u _ I2 r1 r2 q2) λc s3 ⟨z,H3,I3,r3,k,e,q3⟩=> ?_) hm
 subst e
 cases r3
 exact wpAny_truthy_bool ⟨H3,I3,q3⟩
def yV(r r':R2)(ta tb tc:TE):TE:=λσ H Q=>ta σ H λx H1=>tb σ H1 λy H2=>r x y H2 λz H3=>∃k,z=.bl k/\
 (if k=true then tc σ H3 λw' H4=>r' y w' H4 Q else Q (.bl false) H3)
theorem FZ {op op':CmpOp} {r r':R2} (ho:OpR X (compareOp op) r) (ho':OpR X (compareOp op') r') (ha:PE X a ta) (hb:PE X b tb) (hc:PE X c tc)
 (hm:lastMarks [op,op'] [b,c]=false:=by with_unfolding_all rfl):PE X (.Compare a [op,op'] [b,c] pos) (yV r r' ta tb tc):=by
 intro pins s σ H Q I h
 refine Compare_chain (thn (ha pins s σ H _ I h) λv s1 ⟨x,H1,I1,r1,q1⟩=>chain_link (thn (hb pins s1 σ H1 _ I1 q1) λu s2 ⟨y,H2,I2,r2,q2⟩=>
  thn (ho pins s2 σ H2 x y v u _ I2 r1 r2 q2) λd s3 ⟨z,H3,I3,r3,k,e,q3⟩=> ?_)) hm
 subst e
 cases r3
 refine wpAny_truthy_bool ?_
 cases k with
 | false=>exact ite_ff ⟨.bl false,H3,I3,rfl,q3⟩
 | true=>exact ite_tt (chain_last (thn (hc pins s3 σ H3 _ I3 q3) λw' s4 ⟨z',H4,I4,r4,q4⟩=>ho' pins s4 σ H4 y z' u w' Q I4 r2 r4 q4))
theorem HZ {op op':CmpOp} {r r':R2} (ho:OpR X (compareOp op) r) (ho':OpR X (compareOp op') r') (ha:PE X a ta) (hb:PE X b tb) (hc:PE X c tc)
 (hm:lastMarks [op,op'] [b,c]=false:=by with_unfolding_all rfl):PT X (.Compare a [op,op'] [b,c] pos) (Dq (yV r r' ta tb tc)):=by
 intro pins s σ H Q I h
 refine isTrue_chain (thn (ha pins s σ H _ I h) λv s1 ⟨x,H1,I1,r1,q1⟩=>test_link (thn (hb pins s1 σ H1 _ I1 q1) λu s2 ⟨y,H2,I2,r2,q2⟩=>
  thn (ho pins s2 σ H2 x y v u _ I2 r1 r2 q2) λd s3 ⟨z,H3,I3,r3,k,e,q3⟩=> ?_)) hm
 subst e
 cases r3
 refine wpAny_truthy_bool ?_
 cases k with
 | false=>
  obtain⟨k',e',q'⟩:=q3
  cases e'
  exact ite_ff ⟨H3,I3,q'⟩
 | true=>
  refine ite_tt (test_last (thn (hc pins s3 σ H3 _ I3 q3) λw' s4 ⟨z',H4,I4,r4,q4⟩=>thn (ho' pins s4 σ H4 y z' u w' _ I4 r2 r4 q4) λd' s5 ⟨z2,H5,I5,r5,k2,e2,q5⟩=> ?_))
  subst e2
  cases r5
  exact wpAny_truthy_bool ⟨H5,I5,q5⟩
def Nt(K:PySem.W.Frag)(x:V)(H:Hp)(k:Bool):Prop:=
 match x with
 | .non=>k=false
 | .bl b=>k=b
 | .int i=>k=(i != 0)
 | .str y=>y.length<=sizeLine/\k=((y.length:Int) != 0)
 | .byt y=>y.size<=sizeLine/\k=((y.size:Int) != 0)
 | .ref p=>(∃xs,SqL K H p xs/\k= !xs.isEmpty)\/(∃xs,SqT K H p xs/\k= !xs.isEmpty)\/∃kvs,H p=some (.dK kvs)/\k= !kvs.isEmpty
 | _=>False
theorem Dn{κ:Type}{kvs:List (κ×V)}{vs:List (κ×Value)}(r:KV kvs vs):(!vs.isEmpty)= !kvs.isEmpty:=by
 cases r <;> rfl
theorem vo{xs:List V}{its:List Value}(r:Vals xs its):(!its.toArray.isEmpty)= !xs.isEmpty:=by
 cases r <;> simp
theorem pS:(sizeLine:Nat)<2^63:=by rw[sizeLine_eq];decide
theorem ON:NC X (λx H Q=>∃k,Nt X.K x H k/\Q k H):=by
 intro pins s σ H x v Q I rx h
 obtain⟨k,e,q⟩:=h
 have hl:=pS
 have hs:sizeLine=16777216:=sizeLine_eq
 cases x with
 | non=>
  cases rx
  have e':k=false:=e
  subst e'
  exact truthy_none ⟨H,I,q⟩
 | bl b=>
  cases rx
  have e':k=b:=e
  subst e'
  exact wpAny_truthy_bool ⟨H,I,q⟩
 | int i=>
  obtain⟨t,rfl⟩:=rx
  have e':k=(i != 0):=e
  subst e'
  exact PySem.P.truthy_int ⟨H,I,q⟩
 | str y=>
  obtain⟨t,rfl⟩:=rx
  obtain⟨hy,e'⟩:y.length<=sizeLine/\k=((y.length:Int) != 0):=e
  subst e'
  exact PySem.P.truthy_str (by omega) ⟨H,I.tok _,q⟩
 | byt y=>
  obtain⟨t,rfl⟩:=rx
  obtain⟨hy,e'⟩:y.size<=sizeLine/\k=((y.size:Int) != 0):=e
  subst e'
  exact PySem.W.truthy_bytes (by omega) ⟨H,I.tok _,q⟩
 | ref p=>
  cases rx
  have e':(∃xs,SqL X.K H p xs/\k= !xs.isEmpty)\/(∃xs,SqT X.K H p xs/\k= !xs.isEmpty)\/∃kvs,H p=some (.dK kvs)/\k= !kvs.isEmpty:=e
  rcases e' with⟨xs,hx,e'⟩ | ⟨xs,hx,e'⟩ | ⟨kvs,hx,e'⟩
  ·subst e'
   obtain⟨its,r,pl,hz⟩:=I.list hx
   have hlen:=r.length
   exact wpAny_truthy_list pl.isList (by simp only[List.size_toArray];omega) ⟨H,I.tok _,by rw[vo r];exact q⟩
  ·subst e'
   obtain⟨its,r,pl,hz⟩:=I.tuple hx
   have hlen:=r.length
   exact truthy_tuple pl (by simp only[List.size_toArray];omega) ⟨H,I.tok _,by rw[vo r];exact q⟩
  ·subst e'
   obtain⟨hz,hS,vs,r,m⟩:kvs.length<=sizeLine/\(p == sysModules)=false/\∃vs,KV kvs vs/\s.heap.DictOf (wo X.prog X.w) p vs:=I.hok p _ hx
   have hlen:kvs.length=vs.length:=Paired.length r
   exact wpAny_truthy_dict hS m (by omega) ⟨H,I.tok _,by rw[Dn r];exact q⟩
 | _=>exact(show False from e).elim
theorem DJ:OpR X (binaryOp .Add) (λx y H Q=>∃i j,x=.str i/\y=.str j/\i.length+j.length<=sizeLine/\Q (.str (i++j)) H):=by
 intro pins s σ H x y v u Q I rx ry h
 obtain⟨i,j,rfl,rfl,hz,q⟩:=h
 obtain⟨t,rfl⟩:=rx
 obtain⟨t',rfl⟩:=ry
 exact add_str (λt' tk=>⟨.str (i++j),H,I.tok _,⟨_,rfl⟩,q⟩) hz
theorem vals1{x:V}{us:List Value}(r:Vals [x] us):∃u,us=[u]/\RelV x u:=by
 cases r with
 | cons r1 r2=>cases r2;exact⟨_,rfl,r1⟩
theorem vals2{x y:V}{us:List Value}(r:Vals [x,y] us):∃u w',us=[u,w']/\RelV x u/\RelV y w':=by
 cases r with
 | cons r1 r2=>
  cases r2 with
  | cons r3 r4=>cases r4;exact⟨_,_,rfl,r1,r3⟩
theorem uD:iD X (.builtin "abs") (λxs H Q=>∃i,xs=[.int i]/\Q (.int (if i<0 then -i else i)) H):=by
 intro pins s σ H xs us Q I r h
 obtain⟨i,rfl,q⟩:=h
 obtain⟨u,rfl,t,rfl⟩:=vals1 r
 exact call_abs_int λu tk=>⟨.int (if i<0 then -i else i),H,I.tok _,⟨_,rfl⟩,q⟩
theorem oX(hc:X.calm=true):iD X (.builtin "max") (λxs H Q=>∃i j,xs=[.int i,.int j]/\Q (.int (if j>i then j else i)) H):=by
 intro pins s σ H xs us Q I r h
 obtain⟨i,j,rfl,q⟩:=h
 obtain⟨u,w',rfl,⟨t,rfl⟩,⟨t',rfl⟩⟩:=vals2 r
 refine max_two_ints (I.ok.hd hc) λh' tk k=>⟨_,H,I.kept k, ?_,q⟩
 by_cases hj:j>i
 ·rw[if_pos hj,if_pos hj];exact⟨_,rfl⟩
 ·rw[if_neg hj,if_neg hj];exact⟨_,rfl⟩
theorem rG:iD X (.type "int") (λxs H Q=>(∃i,xs=[.int i]/\Q (.int i) H)\/∃k,xs=[.bl k]/\Q (.int (if k then 1 else 0)) H):=by
 intro pins s σ H xs us Q I r h
 rcases h with⟨i,rfl,q⟩ | ⟨k,rfl,q⟩
 ·obtain⟨u,rfl,t,rfl⟩:=vals1 r
  exact call_int_int ⟨.int i,H,I,⟨_,rfl⟩,q⟩
 ·obtain⟨u,rfl,r1⟩:=vals1 r
  cases r1
  exact call_int_bool ⟨.int (if k then 1 else 0),H,I.tok _,⟨_,rfl⟩,q⟩
def L1(K:PySem.W.Frag)(x:V)(H:Hp)(n:Nat):Prop:=
 match x with
 | .str y=>y.length<=sizeLine/\n=y.length
 | .byt y=>y.size<=sizeLine/\n=y.size
 | .ref p=>(∃xs,SqL K H p xs/\n=xs.length)\/∃xs,SqT K H p xs/\n=xs.length
 | _=>False
theorem cX:iD X (.builtin "len") (λxs H Q=>∃x n,xs=[x]/\L1 X.K x H n/\Q (.int n) H):=by
 intro pins s σ H xs us Q I r h
 obtain⟨x,n,rfl,e,q⟩:=h
 obtain⟨u,rfl,rx⟩:=vals1 r
 have hl:=pS
 have hs:sizeLine=16777216:=sizeLine_eq
 cases x with
 | str y=>
  obtain⟨t,rfl⟩:=rx
  obtain⟨hy,e'⟩:y.length<=sizeLine/\n=y.length:=e
  subst e'
  exact len_str (by omega) ⟨.int _,H,I.tok _,⟨_,rfl⟩,q⟩
 | byt y=>
  obtain⟨t,rfl⟩:=rx
  obtain⟨hy,e'⟩:y.size<=sizeLine/\n=y.size:=e
  subst e'
  exact PySem.W.len_bytes (by omega) ⟨.int _,H,I.tok _,⟨_,rfl⟩,q⟩
 | ref p=>
  cases rx
  have e':(∃xs,SqL X.K H p xs/\n=xs.length)\/∃xs,SqT X.K H p xs/\n=xs.length:=e
  rcases e' with⟨xs,hx,e'⟩ | ⟨xs,hx,e'⟩
  ·subst e'
   obtain⟨its,r',pl,hz⟩:=I.list hx
   have hlen:=r'.length
   exact Calls.call_len_list pl.isList (by simp only[List.size_toArray];omega) ⟨.int xs.length,H,I.tok _,⟨_,by simp only[List.size_toArray];rw[hlen]⟩,q⟩
  ·subst e'
   obtain⟨its,r',pl,hz⟩:=I.tuple hx
   have hlen:=r'.length
   exact len_tuple pl (by simp only[List.size_toArray];omega) ⟨.int xs.length,H,I.tok _,⟨_,by simp only[List.size_toArray];rw[hlen]⟩,q⟩
 | _=>exact(show False from e).elim
end
end L2
namespace L2
open PySem PySem.Spec PyProof.Rows
structure um(h:Heap)(x dx C:Addr)(mA:Str->Option Value):Prop where
 obj:h.get? x=some (PySem.W.instObj C dx)
 ns:h.Ns1 dx mA
 ne:dx≠x
theorem EJ{h:Heap}{dx:Addr}{mA:Str->Option Value}(n:h.Ns1 dx mA):∃od,h.get? dx=some od/\∀name,PySem.W.lookIn name od=some (mA name):=by
 obtain⟨o,es,ep,ho,hd,hk,_,hm⟩:=n
 refine⟨o,ho,λname=> ?_⟩
 have e:=hm name
 unfold nsFind findBy at e
 rw[<- Array.find?_toList] at e
 unfold PySem.W.lookIn
 rw[hd]
 dsimp only
 split
 ·rename_i y q
  rw[q] at e
  exact congrArg some e
 ·rename_i q
  rw[q] at e
  have a:es.toList.any (·.refKey)=false:=by
   rw[List.any_eq_false]
   intro y hy
   obtain⟨z,t,hkey⟩:=hk y (Array.mem_toList_iff.mp hy)
   simp[DictEntry.refKey,hkey]
  have a':¬es.toList.any (·.refKey)=true:=by rw[a];exact Bool.false_ne_true
  rw[if_neg a']
  exact congrArg some e
theorem um.look{h:Heap}{x dx C:Addr}{mA:Str->Option Value}(I:um h x dx C mA):∃od,PySem.W.InstAt h x (PySem.W.instObj C dx) C (some od)/\∀name,PySem.W.lookIn name od=some (mA name):=
 let ⟨od,ho,hl⟩:=EJ I.ns
 ⟨od,⟨I.obj,rfl,rfl,ho⟩,hl⟩
section
variable {prog : Program} {w : World} {A : Around} {E : Value → Shared → Prop} {s : Shared} {K : PySem.W.Frag} {x dx C f : Addr} {mA : Str → Option Value} {name : Str} {v : Value}
theorem get_map {expr:Bool} {Q:Value->Shared->Prop} (X:K.In s.heap) (I:um s.heap x dx C mA) (hg:PySem.W.plainGet K C name=true) (hh:PySem.W.hasDictIn K C=true)
 (ha:PySem.W.findIn K (.ref C) name=some none) (hv:mA name=some v) (hv':PySem.W.handedIn v=true) (h:Q v {s with toks:=s.toks+1}):
 wpAny (model prog w) A (getAttr (.ref x) name expr) Q E s:=by
 obtain⟨od,J,hl⟩:=I.look
 exact PySem.W.get_value X J (PySem.W.plainGet_of hg).1 (PySem.W.findObj_own hh ha rfl (by rw[hl,hv])) hv' h
theorem HK {pl:Sem Bool} {Q:Value×List Value->Shared->Prop} (X:K.In s.heap) (I:um s.heap x dx C mA) (hg:PySem.W.plainGet K C name=true)
 (hf:PySem.W.findIn K (.ref C) name=some (some (.ref f))) (ht:PySem.W.isFn K (.ref f)=true) (hv:mA name=none) (h:Q (.ref f,[.ref x]) s):
 wpAny (model prog w) A (getMethod (.ref x) name pl) Q E s:=by
 obtain⟨od,J,hl⟩:=I.look
 exact PySem.W.method_fn X J (PySem.W.plainGet_of hg).1 (PySem.W.plainGet_of hg).2 hf (beq_iff_eq.mp ht) (by show (PySem.W.lookIn name od).map (·.isSome)=some false;rw[hl,hv];rfl) h
theorem Kh {ns:List Str} {Q:Unit->Shared->Prop} (X:K.In s.heap) (I:um s.heap x dx C mA)
 (hs:PySem.W.findIn K (.ref C) "__setattr__" =some (some (.builtin "object.__setattr__"))) (hp:PySem.W.plainOver K C=true) (ht:PySem.W.takerIn K C name=some none) (hh:PySem.W.hasDictIn K C=true)
 (hw:PySem.Within mA ns) (hsz:ns.length<=sizeLine)
 (h:∀h',um h' x dx C (λy=>if y=name then some v else mA y)->Heap.SameBut dx s.heap h'->Q () {s with heap:=h',toks:=s.toks+2}):
 wpAny (model prog w) A (setAttr (.ref x) name v) Q E s:=by
 obtain⟨od,J,hl⟩:=I.look
 refine PySem.W.set_plain X J hs (PySem.W.osa_open (s:={s with toks:=s.toks+1}) (r:=none) X J hp ht λb=> ?_)
 obtain⟨cd,hc,hd'⟩:=PySem.W.any_some hh
 have hx:s.heap.get? x=some ⟨.ref C,some dx,.plain,#[]⟩:=I.obj
 refine wpAny_bind (wpAny_pure (wpAny_bind (wpAny_bind (wpAny_loadPart hx (wpAny_bind (PySem.W.Looks.here (s:={s with toks:=s.toks+1}) (PySem.W.looks_clsIn X hc) ?_))))))
 rw[hd']
 refine wpAny_pure (a:=some dx) (wpAny_bind (wpAny_pure (wpAny_bind ?_)))
 refine wpAny_nsSet1 (s:={s with toks:=s.toks+1}) I.ns λh' hn2 hs2=> ?_
 obtain⟨oD,esD,epD,hoD,hdD,hcD⟩:=hn2.count (PySem.Within.cons name v hw)
 refine wpAny_bind (wpAny_lookBehind hoD (by rw[hdD];exact pastItsLine_dict (Nat.le_trans hcD (by rw[List.length_cons];omega))) ?_)
 exact wpAny_pure (h _ ⟨(hs2.2 _ (Ne.symm I.ne)).trans I.obj,hn2,I.ne⟩ hs2)
theorem Gq {R:Result->Shared->Prop} {vs:List Value} {kw:List (Str×Value)} (X:K.In s.heap) (hm:PySem.W.makesIn K C=true)
 (hi:PySem.W.findIn K (.ref C) "__init__" =some (some (.ref f))) (hf:PySem.W.typeIn K (.ref f)=some (.type "function"))
 (h:codeAny (model prog w) (A.under (.builtin "type.__call__" ⟨.ref C::vs,kw⟩)) (.call (.ref f) ⟨.ref (s.heap.objs.size+1)::vs,kw⟩) (PySem.W.InitBack (s.heap.objs.size+1) R)
  {s with heap:=(s.heap.push PySem.W.emptyDict).push (PySem.W.instObj C s.heap.objs.size)}):
 codeAny (model prog w) A (.call (.ref C) ⟨vs,kw⟩) R s:=by
 obtain⟨hh,g,d,t,os⟩:=s
 exact PySem.W.make_core (PySem.W.makes_of X hm) (PySem.W.looks_findIn X hi) (λself=>PySem.W.bind_fn X self hf) (.inl rfl) h
end
def jf(f:Str)(v:V):List (Str×V)->List (Str×V)
 | []=>[(f,v)]
 | (g,x)::r=>if g=f then (g,v)::r else (g,x)::jf f v r
theorem uc(f g:Str)(v:V):∀fs:List (Str×V),(jf f v fs).lookup g=if g=f then some v else fs.lookup g
 | []=>by
  show List.lookup g [(f,v)]=_
  by_cases h:g=f
  ·have hb:(g == f)=true:=beq_iff_eq.mpr h
   simp only[List.lookup,hb,if_pos h]
  ·have hb:(g == f)=false:=beq_eq_false_iff_ne.mpr h
   simp only[List.lookup,hb,if_neg h]
 | (k,x)::r=>by
  have ih:=uc f g v r
  rw[show jf f v ((k,x)::r)=(if k=f then (k,v)::r else (k,x)::jf f v r) from rfl]
  by_cases hk:k=f
  ·rw[if_pos hk]
   by_cases h:g=k
   ·have hb:(g == k)=true:=beq_iff_eq.mpr h
    simp only[List.lookup,hb,if_pos (h.trans hk)]
   ·have hb:(g == k)=false:=beq_eq_false_iff_ne.mpr h
    simp only[List.lookup,hb,if_neg (λe:g=f=>h (e.trans hk.symm))]
  ·rw[if_neg hk]
   by_cases h:g=k
   ·have hb:(g == k)=true:=beq_iff_eq.mpr h
    simp only[List.lookup,hb,if_neg (λe:g=f=>hk (h.symm.trans e))]
   ·have hb:(g == k)=false:=beq_eq_false_iff_ne.mpr h
    simp only[List.lookup,hb]
    exact ih
theorem rZ(f:Str)(v:V):∀fs:List (Str×V),f∈(jf f v fs).map (·.1)/\∀g,g∈fs.map (·.1)->g∈(jf f v fs).map (·.1)
 | []=>⟨by simp[jf],λg h=>by simp at h⟩
 | (k,x)::r=>by
  obtain⟨i1,i2⟩:=rZ f v r
  rw[show jf f v ((k,x)::r)=(if k=f then (k,v)::r else (k,x)::jf f v r) from rfl]
  by_cases hk:k=f
  ·rw[if_pos hk]
   subst hk
   exact⟨by simp,λg h=>by simpa using h⟩
  ·rw[if_neg hk]
   refine⟨?_,λg h=> ?_⟩
   ·rw[List.map_cons]
    exact List.mem_cons_of_mem _ i1
   ·rw[List.map_cons] at h ⊢
    rcases List.mem_cons.mp h with e | e
    ·exact List.mem_cons.mpr (.inl e)
    ·exact List.mem_cons_of_mem _ (i2 g e)
theorem t9(f:Str)(v:V):∀fs:List (Str×V),(jf f v fs).length<=fs.length+1
 | []=>by simp[jf]
 | (k,x)::r=>by
  have ih:=t9 f v r
  rw[show jf f v ((k,x)::r)=(if k=f then (k,v)::r else (k,x)::jf f v r) from rfl]
  by_cases hk:k=f
  ·rw[if_pos hk,List.length_cons,List.length_cons];omega
  ·rw[if_neg hk,List.length_cons,List.length_cons];omega
theorem pf.some_of{v:V}{o:Option Value}(r:pf (some v) o):∃u,o=some u/\RelV v u:=by
 cases o with
 | none=>exact(show False from r).elim
 | some u=>exact⟨u,rfl,r⟩
theorem pf.none_of{o:Option Value}(r:pf none o):o=none:=by
 cases o with
 | none=>rfl
 | some u=>exact(show False from r).elim
theorem EX{v:V}{u:Value}(r:RelV v u):PySem.W.handedIn u=true:=by
 cases v with
 | non=>cases (show u=Value.none from r);rfl
 | bl b=>cases (show u=Value.bool b from r);rfl
 | int i=>obtain⟨t,e⟩:=(show ∃t,u=Value.int i t from r);cases e;rfl
 | str x=>obtain⟨t,e⟩:=(show ∃t,u=Value.str x t from r);cases e;rfl
 | byt b=>obtain⟨t,e⟩:=(show ∃t,u=Value.bytes b t from r);cases e;rfl
 | flt b=>obtain⟨t,e⟩:=(show ∃t,u=Value.float b t from r);cases e;rfl
 | ref a=>cases (show u=Value.ref a from r);rfl
 | ty n=>cases (show u=Value.type n from r);rfl
section
variable {P : Program} {w : World} {H H' : Hp} {h h' : Heap} {a C dx : Addr} {fs fs' : List (Str × V)}
theorem vV(hok:HOk P w H h)(e:H a=some (.ins C dx fs)):∃mA,um h a dx C mA/\(∀f,pf (fs.lookup f) (mA f))/\PySem.Within mA (fs.map (·.1))/\fs.length<=1000/\H dx=some (.own a):=by
 obtain⟨d,z,ne,ob,mA,n,r,q⟩:=(show gd P w H h a (.ins C dx fs) from hok a _ e)
 exact⟨mA,⟨ob,n,ne⟩,r,q,z,d⟩
end
structure Cls(K:PySem.W.Frag)(C:Addr):Prop where
 pg:PySem.W.plainGet K C Str.empty=true
 hd:PySem.W.hasDictIn K C=true
 po:PySem.W.plainOver K C=true
 sa:PySem.W.findIn K (.ref C) "__setattr__" =some (some (.builtin "object.__setattr__"))
theorem Cls.get{K:PySem.W.Frag}{C:Addr}(c:Cls K C)(f:Str):PySem.W.plainGet K C f=true:=c.pg
def fm(K:PySem.W.Frag)(C:Addr)(f:Str):Prop:=PySem.W.findIn K (.ref C) f=some none
theorem fm.taker{K:PySem.W.Frag}{C:Addr}{f:Str}(n:fm K C f):PySem.W.takerIn K C f=some none:=by
 unfold PySem.W.takerIn
 rw[show PySem.W.findIn K (.ref C) f=some none from n]
 rfl
structure Con(K:PySem.W.Frag)(C:Addr)(f:Str)(v:V)(u:Value):Prop where
 at_:PySem.W.findIn K (.ref C) f=some (some u)
 rel:RelV v u
 get:PySem.W.specialIn K u "__get__" =some none
 cp:PySem.W.copiedNames.contains f=false
structure Meth(K:PySem.W.Frag)(C:Addr)(m:Str)(f:Addr):Prop where
 at_:PySem.W.findIn K (.ref C) m=some (some (.ref f))
 fn:PySem.W.isFn K (.ref f)=true
 kp:PySem.W.keepIn K (.ref f)=true
section
variable {X : Cx} {pins : List (Addr × Obj)} {σ : St} {H : Hp} {s : Shared} {a C dx : Addr} {fs : List (Str × V)} {f : Str} {v : V} {A : Around} {E : Value → Shared → Prop}
theorem DC {b:Bool} {Q:Value->Shared->Prop} (I:Inv X pins σ H s) (e:H a=some (.ins C dx fs)) (c:Cls X.K C) (n:fm X.K C f) (l:fs.lookup f=some v)
 (h:∀u s',Inv X pins σ H s'->RelV v u->Q u s'):wpAny (model X.prog X.w) A (getAttr (.ref a) f b) Q E s:=by
 obtain⟨mA,O,r,_,_,_⟩:=vV I.hok e
 obtain⟨u,hu,ru⟩:=pf.some_of (v:=v) (o:=mA f) (by rw[<- l];exact r f)
 exact get_map I.kIn O (c.get f) c.hd n hu (EX ru) (h u _ (I.tok _) ru)
theorem qQ {m:Str} {g:Addr} {pl:Sem Bool} {Q:Value×List Value->Shared->Prop} (I:Inv X pins σ H s) (e:H a=some (.ins C dx fs)) (c:Cls X.K C) (k:Meth X.K C m g) (l:fs.lookup m=none)
 (h:Q (.ref g,[.ref a]) s):wpAny (model X.prog X.w) A (getMethod (.ref a) m pl) Q E s:=by
 obtain⟨mA,O,r,_,_,_⟩:=vV I.hok e
 have hn:mA m=none:=pf.none_of (by rw[<- l];exact r m)
 exact HK I.kIn O (c.get m) k.at_ k.fn hn h
theorem D0 {y:V} {u:Value} {Q:Unit->Shared->Prop} (I:Inv X pins σ H s) (e:H a=some (.ins C dx fs)) (c:Cls X.K C) (n:fm X.K C f) (hl:fs.length<1000) (ry:RelV y u)
 (h:∀s',Inv X pins σ (upd H a (.ins C dx (jf f y fs))) s'->Q () s'):wpAny (model X.prog X.w) A (setAttr (.ref a) f u) Q E s:=by
 obtain⟨mA,O,r,wi,_,ho⟩:=vV I.hok e
 have hz:(fs.map (·.1)).length<=sizeLine:=by rw[List.length_map,sizeLine_eq];omega
 refine Kh I.kIn O c.sa c.po n.taker c.hd wi hz λh' O' sb=>h _ ?_
 have hd:∃o,h'.get? dx=some o:=let ⟨o,_,_,e',_⟩:=O'.ns;⟨o,e'⟩
 refine I.write (x:=a) (e:=dx) (by rw[e];exact True.intro) (.inr ho) (λb q hb z=>(sb.2 b hb).trans z) hd ?_
 refine⟨by rw[aS O.ne];exact ho, ?_,O.ne,O'.obj,_,O'.ns,λg=> ?_,λg hg=> ?_⟩
 ·have:=t9 f y fs;omega
 ·show pf ((jf f y fs).lookup g) (if g=f then some u else mA g)
  rw[uc]
  by_cases q:g=f
  ·rw[if_pos q,if_pos q];exact ry
  ·rw[if_neg q,if_neg q];exact r g
 ·by_cases q:g=f
  ·rw[q];exact(rZ f y fs).1
  ·refine(rZ f y fs).2 g (wi g λz=>hg ?_)
   show (if g=f then some u else mA g)=none
   rw[if_neg q];exact z
theorem Inv.made(I:Inv X pins σ H s):Inv X pins σ (upd (upd H s.heap.objs.size (.own (s.heap.objs.size+1))) (s.heap.objs.size+1) (.ins C s.heap.objs.size []))
 {s with heap:=(s.heap.push PySem.W.emptyDict).push (PySem.W.instObj C s.heap.objs.size)}:=by
 have e1:(s.heap.push PySem.W.emptyDict).get? s.heap.objs.size=some PySem.W.emptyDict:=Heap.get?_push_size s.heap rfl
 have e2:((s.heap.push PySem.W.emptyDict).push (PySem.W.instObj C s.heap.objs.size)).get? (s.heap.objs.size+1)=some (PySem.W.instObj C s.heap.objs.size):=by
  have:=Heap.get?_push_size (s.heap.push PySem.W.emptyDict) (o:=PySem.W.instObj C s.heap.objs.size) rfl
  rwa [Heap.size_push] at this
 have e3:(s.heap.push PySem.W.emptyDict).Ns s.heap.objs.size (λ_=>none):=⟨PySem.W.emptyDict,#[],_,e1,rfl,(λe he=>absurd he (by simp)),λ_=>rfl⟩
 have I1:=I.laid (a:=s.heap.objs.size) (o:=.own (s.heap.objs.size+1)) (h':=s.heap.push PySem.W.emptyDict) (t':=s.toks) (λb u q=>Heap.get?_push_of_some _ q) (Nat.le_refl _) ⟨_,e1⟩
 refine I1.laid (a:=s.heap.objs.size+1) (o:=.ins C s.heap.objs.size []) (t':=s.toks) (λb u q=>Heap.get?_push_of_some _ q) (Nat.le_of_eq (Heap.size_push _ _)) ?_
 have ne:s.heap.objs.size≠s.heap.objs.size+1:=Nat.ne_of_lt (Nat.lt_succ_self _)
 refine⟨by rw[aS ne,cV],Nat.zero_le _,ne,e2,λ_=>none,(Heap.Ns1.of_empty e3).at λo q=>Heap.get?_push_of_some _ q,λ_=>True.intro,λy hy=>absurd rfl hy⟩
theorem IV {prog:Program} {w:World} {env:Env} {e:Expr} {f:Str} {pos:Pos} {s:Shared} {Q:Value->Shared->Prop} (hb:attributeBase e f env (eval e env)=eval e env)
 (h:wpAny (model prog w) A (eval e env) (λo s₁=>wpAny (model prog w) A (getAttr o f true) Q E s₁) E s):wpAny (model prog w) A (eval (.Attribute e f pos) env) Q E s:=
 Attribute_any_ h (by rw[arm_eval_Attribute,hb])
end
def KC(K:PySem.W.Frag)(ta:TE)(f:Str):TE:=λσ H Q=>ta σ H λx H1=>∃a C dx fs v,x=.ref a/\H1 a=some (.ins C dx fs)/\Cls K C/\fm K C f/\fs.lookup f=some v/\Q v H1
def L4(K:PySem.W.Frag)(ta tv:TE)(f:Str):TS:=λD σ H=>tv σ H λy H1=>ta σ H1 λx H2=>∃a C dx fs,x=.ref a/\H2 a=some (.ins C dx fs)/\Cls K C/\fm K C f/\fs.length<1000/\
 D.nx σ (upd H2 a (.ins C dx (jf f y fs)))
section
variable {X : Cx} {o e value : Expr} {f : Str} {pos pos' tpos : Pos} {ta tv : TE}
theorem AH(he:PE X e ta)(hb:attributeBase e f X.env (eval e X.env)=eval e X.env):PE X (.Attribute e f pos) (KC X.K ta f):=by
 intro pins s σ H Q I h
 refine IV hb (thn (he pins s σ H _ I h) λu s1 ⟨x,H1,I1,rx,a,C,dx,fs,v,ex,ea,c,n,l,q⟩=> ?_)
 subst ex
 obtain rfl:u=Value.ref a:=rx
 exact DC I1 ea c n l λu' s2 I2 ru=>⟨v,H1,I2,ru,q⟩
theorem Bg(ha:PE X o ta)(hv:PE X value tv)(hs:swapsWith value (some (.Attribute o f pos')) pos.line X.env=pure false):PS X (.Assign [.Attribute o f pos'] value pos) (L4 X.K ta tv f):=by
 intro pins s σ H D I h
 refine plainObj_wpAny_Assign_Attribute (thn (hv pins s σ H _ I h) λu s1 ⟨y,H1,I1,ry,q⟩=>thn (ha pins s1 σ H1 _ I1 q) λov s2 ⟨x,H2,I2,rx,a,C,dx,fs,ex,ea,c,n,l,q2⟩=> ?_) hs
 subst ex
 obtain rfl:ov=Value.ref a:=rx
 exact D0 I2 ea c n l ry λs3 I3=>⟨σ,_,I3,q2⟩
theorem Mt {pl:Sem Bool} {m:Str} {apos:Pos} {args:List Expr} {pins:List (Addr×Obj)} {s:Shared} {σ:St} {H:Hp} {Q:Value->Shared->Prop} {te:TE} (he:PE X e te) (I:Inv X pins σ H s)
 (h:te σ H λx H1=>∃a C dx fs g,x=.ref a/\H1 a=some (.ins C dx fs)/\Cls X.K C/\Meth X.K C m g/\fs.lookup m=none/\
  ∀s1,Inv X pins σ H1 s1->wpAny (model X.prog X.w) X.A (callWith pos (.ref g) [.ref a] (backTo pos (starEach args X.env)) (backToKw pos (keywordEach [] X.env))) Q X.xe s1)
 (ht:eval (.Call (.Attribute e m apos) args [] pos) X.env=(do
  let ov <- eval e X.env
  standAt apos.atName
  let (f,first) <- holding [ov] (getMethod ov m pl)
  callWith pos f first (backTo pos (starEach args X.env)) (backToKw pos (keywordEach [] X.env)))):
 wpAny (model X.prog X.w) X.A (eval (.Call (.Attribute e m apos) args [] pos) X.env) Q X.xe s:=by
 refine PySem.W.methodCall_KW (pl:=pl) (thn (he pins s σ H _ I h) λu s1 ⟨x,H1,I1,rx,a,C,dx,fs,g,ex,ea,c,k,l,q⟩=> ?_) ht
 subst ex
 obtain rfl:u=Value.ref a:=rx
 exact qQ I1 ea c k l (q s1 I1)
end
section
variable {X : Cx} {pins : List (Addr × Obj)} {σ : St} {H : Hp} {s : Shared} {A : Around} {E : Value → Shared → Prop} {Q : Value → Shared → Prop} {c : Value} {b : Bool}
inductive og (K:PySem.W.Frag) (H:Hp):V->Value->Prop where
 | non:og K H .non (.type "NoneType")
 | bl (x:Bool):og K H (.bl x) (.type "bool")
 | int (i:Int):og K H (.int i) (.type "int")
 | str (x:Str):og K H (.str x) (.type "str")
 | flt (x:UInt64):og K H (.flt x) (.type "float")
 | lst {a:Addr} {xs:List V} (e:H a=some (.lst xs)):og K H (.ref a) (.type "list")
 | frz {a:Addr} {o:Obj} {xs:List V} (e:H a=some (.frz o (.lst xs))):og K H (.ref a) (.type "list")
 | tup {a:Addr} {xs:List V} (e:H a=some (.tup xs)):og K H (.ref a) (.type "tuple")
 | dK {a:Addr} {kvs:List (Key×V)} (e:H a=some (.dK kvs)):og K H (.ref a) (.type "dict")
 | dT {a:Addr} {kvs:List (List Key×V)} (e:H a=some (.dT kvs)):og K H (.ref a) (.type "dict")
 | ins {a C dx:Addr} {fs:List (Str×V)} (e:H a=some (.ins C dx fs)) (cl:Cls K C) (ha:PySem.W.findIn K (.ref C) "__class__" =some (some (.builtin "object.__class__")))
  (hn:PySem.W.specialIn K (.builtin "object.__class__") "__get__" =some (some (.builtin "getset_descriptor.__get__"))) (htk:PySem.W.takesIn K (.builtin "object.__class__")=some true)
  (hm:PySem.W.mroIn K C (.type "object")=some true):og K H (.ref a) (.ref C)
end
end L2
namespace L2
open PySem PySem.Spec PyProof.Rows
structure dN(k:Nat)(A:Around):Prop where
 hd:A.handled=none
 dp:A.depth+3*k+5<recursionLimit
 un:A.units+16*k+200<cLine
theorem dN.mono{j k:Nat}{A:Around}(r:dN k A)(h:j<=k):dN j A:=⟨r.hd,by have:=r.dp;omega,by have:=r.un;omega⟩
theorem dN.deeper{k:Nat}{A:Around}(r:dN (k+1) A)(env:Env):dN k (A.deeper env):=
 ⟨r.hd,by have:=r.dp;show A.depth+1+3*k+5<_;omega,by have:=r.un;show A.units+3+16*k+200<_;omega⟩
theorem dN.in1{k:Nat}{A:Around}(r:dN (k+1) A):dN k A.in1:=
 ⟨r.hd,by have:=r.dp;show A.depth+3*k+5<_;omega,by have:=r.un;show A.units+1+16*k+200<_;omega⟩
theorem DX{A:Around}{C:Addr}{us:List Value}{kw:List (Str×Value)}:(A.under (.builtin "type.__call__" ⟨.ref C::us,kw⟩)).depth=A.depth+1:=by
 first | rfl | simp[Around.under,Code.weight,Code.isCreation,Code.isGuard,Code.isCaller,Code.frames,Code.isFrame,guardIds]
theorem DK{A:Around}{C:Addr}{us:List Value}{kw:List (Str×Value)}:(A.under (.builtin "type.__call__" ⟨.ref C::us,kw⟩)).units=A.units+1:=by
 first | rfl | simp[Around.under,Code.cUnits,Code.frames,Code.isFrame]
theorem dN.make{k:Nat}{A:Around}(r:dN (k+1) A)(C:Addr)(us:List Value)(kw:List (Str×Value)):dN k (A.under (.builtin "type.__call__" ⟨.ref C::us,kw⟩)):=
 ⟨r.hd,by have:=r.dp;rw[DX];omega,by have:=r.un;rw[DK];omega⟩
theorem dN.depth{k:Nat}{A:Around}(r:dN k A):A.depth<recursionLimit:=by have:=r.dp;omega
theorem dN.units{k:Nat}{A:Around}(r:dN k A):A.units+64<cLine:=by have:=r.un;omega
def px:TA:=λ_ H Q=>Q [] H
def lr(ta:TE)(tr:TA):TA:=λσ H Q=>ta σ H λx H1=>tr σ H1 λxs H2=>Q (x::xs) H2
section
variable {X : Cx} {e : Expr} {es : List Expr} {te : TE} {t : TA} {pos : Pos}
theorem ar:PA X [] px:=λ_ _ _ _ H Q I h=>Calls.spliced_nil ⟨[],H,I,.nil,h⟩
theorem ah(ha:PE X e te)(hr:PA X es t)(hs:starEach (e::es) X.env=(false,eval e X.env)::starEach es X.env:=by rfl):PA X (e::es) (lr te t):=by
 intro pos pins s σ H Q I h
 rw[hs]
 show wpAny _ _ (spliced ((false,eval e X.env)::backTo pos (starEach es X.env))) _ _ s
 refine Calls.spliced_cons (thn (ha pins s σ H _ I h) λu s1 ⟨x,H1,I1,r1,q1⟩=> ?_)
 exact thn (hr pos pins s1 σ H1 _ I1 q1) λus s2 ⟨xs,H2,I2,r2,q2⟩=>⟨x::xs,H2,I2,.cons r1 r2,q2⟩
def Kw(t:TA):TE:=λσ H Q=>t σ H λxs H1=>xs.length<=sizeLine/\∀p,H1 p=none->Q (.ref p) (upd H1 p (.tup xs))
def z4(t:TA):TE:=λσ H Q=>t σ H λxs H1=>xs.length<=sizeLine/\∀p,H1 p=none->Q (.ref p) (upd H1 p (.lst xs))
theorem rF{x1}(h:PA X es t):PE X (.Tuple es x1 pos) (Kw t):=by
 intro pins s σ H Q I hq
 refine wpAny_Tuple_spliced (thn (h pos pins s σ H _ I hq) λus s1 ⟨xs,H1,I1,r,z,q⟩=>⟨by rw[<- r.length];exact z, ?_⟩)
 have hf:H1 s1.heap.objs.size=none:=I1.hok.fresh (Nat.le_refl _)
 refine⟨.ref s1.heap.objs.size,upd H1 s1.heap.objs.size (.tup xs),I1.laid (t':=s1.toks) (λb u e=>Heap.get?_push_of_some _ e) (Nat.le_refl _) ?_,rfl,q _ hf⟩
 exact⟨z,us,r,⟨_,Heap.get?_push_size _ rfl,rfl,_,rfl⟩⟩
theorem fE(h:PA X es t):PE X (.List es pos) (z4 t):=by
 intro pins s σ H Q I hq
 refine wpAny_List_spliced (thn (h pos pins s σ H _ I hq) λus s1 ⟨xs,H1,I1,r,z,q⟩=>⟨by rw[<- r.length];exact z, ?_⟩)
 have hf:H1 s1.heap.objs.size=none:=I1.hok.fresh (Nat.le_refl _)
 refine⟨.ref s1.heap.objs.size,upd H1 s1.heap.objs.size (.lst xs),I1.laid (t':=s1.toks) (λb u e=>Heap.get?_push_of_some _ e) (Nat.le_refl _) ?_,rfl,q _ hf⟩
 exact⟨z,us,0,r,Heap.get?_push_size _ rfl⟩
end
abbrev Sp:=List V->Hp->VK->XK->Prop
abbrev CXT:=List Env->Hp->Shared->XK->Value->Shared->Prop
structure n9(P:Program)(w:World)(K:PySem.W.Frag)(mg:Str->Option Value)(base:Heap)(A:Around)(outer:List Env)(s:Shared)(H:Hp):Prop where
 frames:A.frames=some outer
 mod:Mod K mg base
 bs:∀b o,base.get? b=some o->s.heap.get? b=some o/\H b=none
 bsz:base.objs.size<=s.heap.objs.size
 funs:s.heap.FunFrames base outer
 frf:∀b∈frs outer,H b=none
 hok:HOk P w H s.heap
 bare:AllBare s.gens
def CE(outer:List Env)(P:Program)(w:World)(H:Hp)(s:Shared)(Q:VK)(u:Value)(s':Shared):Prop:=
 ∃v H',s'.os=s.os/\AllBare s'.gens/\Un (frs outer) [] H H' s.heap s'.heap/\HOk P w H' s'.heap/\RelV v u/\Q v H'
def CR(CX:CXT)(outer:List Env)(P:Program)(w:World)(H:Hp)(s:Shared)(Q:VK)(E:XK)(r:Result)(s':Shared):Prop:=
 match r with
 | .ok (.ret u)=>CE outer P w H s Q u s'
 | .ok _=>False
 | .error e=>CX outer H s E e s'
structure fV(P:Program)(w:World)(K:PySem.W.Frag)(mg:Str->Option Value)(base:Heap)(CX:CXT)(k:Nat)(f:Addr)(fd:FuncData)(ps:List Str)(sp:Sp):Prop where
 len:∀vs H Q E,sp vs H Q E->vs.length=ps.length
 run:∀(A:Around) (outer:List Env) (s:Shared) (H:Hp) (args:Args) (us:List Value) (vs:List V) (Q:VK) (E:XK),dN k A->n9 P w K mg base A outer s H->BindsTo s fd args (ps.zip us)->Vals vs us->sp vs H Q E->
  codeAny (model P w) A (.call (.ref f) args) (CR CX outer P w H s Q E) s
theorem fV.mono{P:Program}{w:World}{K:PySem.W.Frag}{mg:Str->Option Value}{base:Heap}{CX:CXT}{j k:Nat}{f:Addr}{fd:FuncData}{ps:List Str}{sp:Sp}(F:fV P w K mg base CX j f fd ps sp)(h:j<=k):
 fV P w K mg base CX k f fd ps sp:=⟨F.len,λA outer s H args us vs Q E hr=>F.run A outer s H args us vs Q E (hr.mono h)⟩
theorem fV.imp {P:Program} {w:World} {K:PySem.W.Frag} {mg:Str->Option Value} {base:Heap} {CX:CXT} {k:Nat} {f:Addr} {fd:FuncData} {ps:List Str} {sp sp':Sp} (F:fV P w K mg base CX k f fd ps sp)
 (h:∀vs H Q E,sp' vs H Q E->sp vs H Q E):fV P w K mg base CX k f fd ps sp':=
 ⟨λvs H Q E q=>F.len vs H Q E (h _ _ _ _ q),λA outer s H args us vs Q E hr he hb hv hs=>F.run A outer s H args us vs Q E hr he hb hv (h _ _ _ _ hs)⟩
theorem n9.make{P:Program}{w:World}{K:PySem.W.Frag}{mg:Str->Option Value}{base:Heap}{A:Around}{outer:List Env}{s:Shared}{H:Hp}(e:n9 P w K mg base A outer s H)(C:Addr)(us:List Value)(kw:List (Str×Value)):
 n9 P w K mg base (A.under (.builtin "type.__call__" ⟨.ref C::us,kw⟩)) outer s H:=⟨by first | exact e.frames | (simpa[Around.under,Code.envs,Code.isFrame,pushEnvs] using e.frames),e.mod,e.bs,e.bsz,e.funs,e.frf,e.hok,e.bare⟩
theorem n9.in1{P:Program}{w:World}{K:PySem.W.Frag}{mg:Str->Option Value}{base:Heap}{A:Around}{outer:List Env}{s:Shared}{H:Hp}(e:n9 P w K mg base A outer s H):
 n9 P w K mg base A.in1 outer s H:=⟨e.frames,e.mod,e.bs,e.bsz,e.funs,e.frf,e.hok,e.bare⟩
section
variable {X : Cx} {pins : List (Addr × Obj)} {σ : St} {H : Hp} {s s' : Shared}
theorem Inv.env0(I:Inv X pins σ H s):n9 X.prog X.w X.K X.mg X.base X.A X.stack s H:=
 ⟨I.ok.frames,I.ok.mod,I.bs,Nat.le_trans I.ok.bsz I.sz,I.stack,I.stkFree,I.hok,I.bare⟩
theorem Inv.after{Q:VK}{u:Value}(I:Inv X pins σ H s)(h:CE X.stack X.prog X.w H s Q u s'):EP X pins σ Q u s':=by
 obtain⟨v,H',os,bare,un,hok,r,q⟩:=h
 obtain⟨hh,g,d,t,os'⟩:=s'
 obtain rfl:os'=s.os:=os
 exact⟨v,H',I.call (h':=hh) (g':=g) (d':=d) (t':=t) (ch:=[]) un hok bare (λb z=>absurd z (by simp)),r,q⟩
end
def tf(sp:Sp)(dvs:List V)(E:XK)(t:TA):TE:=λσ H Q=>t σ H λvs H1=>sp (vs++dvs) H1 Q E
def DU(C:Addr)(m:Str)(sp:Sp)(dvs:List V)(E:XK)(ta:TE)(t:TA):TE:=λσ H Q=>ta σ H λx H1=>∃a dx fs,x=.ref a/\H1 a=some (.ins C dx fs)/\fs.lookup m=none/\
 t σ H1 λvs H2=>sp (x::(vs++dvs)) H2 Q E
def Ih(C:Addr)(sp:Sp)(dvs:List V)(E:XK)(t:TA):TE:=λσ H Q=>t σ H λvs H1=>∀x dx,H1 x=none->H1 dx=none->dx≠x->
 sp (.ref x::(vs++dvs)) (upd (upd H1 dx (.own x)) x (.ins C dx [])) (λv H2=>v=.non/\Q (.ref x) H2) E
def Binds(K:PySem.W.Frag)(fd:FuncData)(ps:List Str)(ds:List Value):Prop:=
 ∀(s:Shared) (us:List Value),K.In s.heap->(us++ds).length=ps.length->BindsTo s fd ⟨us,[]⟩ (ps.zip (us++ds))
theorem Binds.all{K:PySem.W.Frag}{fd:FuncData}{ps:List Str}(h:∀us:List Value,us.length=ps.length->bindArgs fd ⟨us,[]⟩=pure (ps.zip us)):Binds K fd ps []:=λs us _ hl=>by
 rw[List.append_nil] at hl ⊢
 exact .of_eq (h us hl)
def Passes(CX:CXT)(X:Cx)(E:XK):Prop:=∀(pins:List (Addr×Obj)) (σ:St) (H:Hp) (s:Shared) (e:Value) (s':Shared),Inv X pins σ H s->CX X.stack H s E e s'->X.xe e s'
section
variable {X : Cx} {CX : CXT} {k : Nat} {f C : Addr} {fd : FuncData} {ps : List Str} {sp : Sp} {dvs : List V} {ds : List Value} {E : XK} {x m : Str} {p pos apos : Pos} {e o : Expr} {es : List Expr} {ta : TE} {t : TA}
theorem zi {pins:List (Addr×Obj)} {σ:St} {H:Hp} {s:Shared} {Q:VK} {us:List Value} {vs:List V} (F:fV X.prog X.w X.K X.mg X.base CX k f fd ps sp) (hr:dN k X.A) (hb:Binds X.K fd ps ds) (hd:Vals dvs ds) (hx:Passes CX X E)
 (I:Inv X pins σ H s) (r:Vals vs us) (h:sp (vs++dvs) H Q E):wpAny (model X.prog X.w) X.A (call (.ref f) us) (EP X pins σ Q) X.xe s:=by
 have r2:Vals (vs++dvs) (us++ds):=r.append hd
 have hl:(us++ds).length=ps.length:=by rw[<- r2.length];exact F.len _ _ _ _ h
 refine wpAny_call (codeAny_mono (F.run X.A X.stack s H ⟨us,[]⟩ (us++ds) (vs++dvs) Q E hr I.env0 (hb s us I.kIn hl) r2 h) λr s' hq=> ?_)
 cases r with
 | error e=>exact hx pins σ H s e s' I hq
 | ok fl=>
  cases fl with
  | ret u=>exact I.after hq
  | next=>exact False.elim hq
  | brk=>exact False.elim hq
  | cont=>exact False.elim hq
theorem aT (F:fV X.prog X.w X.K X.mg X.base CX k f fd ps sp) (hr:dN k X.A) (hg:Gl X x) (hm:X.mg x=some (.ref f)) (hk:PySem.W.keepIn X.K (.ref f)=true) (hb:Binds X.K fd ps ds) (hd:Vals dvs ds) (hx:Passes CX X E)
 (ha:PA X (e::es) t) (hdb:(x == ("__debug__" :Str))=false:=by decide) (he:starEach (e::es) X.env=(false,eval e X.env)::starEach es X.env:=by rfl) (hpl:(backTo pos (starEach es X.env)).any (·.1)=false:=by rfl):
 PE X (.Call (.Name x p) (e::es) [] pos) (tf sp dvs E t):=by
 intro pins s σ H Q I h
 refine wpAny_Call_Name_kw (vT I hg hm ?_ hdb)
 refine PySem.W.callWith_K (h₀:=X.base) I.ok.mod.kin hk (thn (ha pos pins s σ H _ I h) λus s1 ⟨vs,H1,I1,r,q⟩=>⟨I1.kIn, ?_⟩) he hpl
 exact zi F hr hb hd hx I1 r q
theorem Ja {pl:Sem Bool} (he:PE X o ta) (c:Cls X.K C) (hm:Meth X.K C m f) (F:fV X.prog X.w X.K X.mg X.base CX k f fd ps sp) (hr:dN k X.A) (hb:Binds X.K fd ps ds) (hd:Vals dvs ds) (hx:Passes CX X E) (ha:PA X (e::es) t)
 (hst:starEach (e::es) X.env=(false,eval e X.env)::starEach es X.env:=by rfl) (hpl:(backTo pos (starEach es X.env)).any (·.1)=false:=by rfl)
 (ht:eval (.Call (.Attribute o m apos) (e::es) [] pos) X.env=(do
  let ov <- eval o X.env
  standAt apos.atName
  let (f,first) <- holding [ov] (getMethod ov m pl)
  callWith pos f first (backTo pos (starEach (e::es) X.env)) (backToKw pos (keywordEach [] X.env))):=by rfl):
 PE X (.Call (.Attribute o m apos) (e::es) [] pos) (DU C m sp dvs E ta t):=by
 intro pins s σ H Q I h
 refine PySem.W.methodCall_KW (pl:=pl) (thn (he pins s σ H _ I h) λu s1 ⟨x,H1,I1,rx,a,dx,fs,ex,ea,l,q⟩=> ?_) ht
 subst ex
 obtain rfl:u=Value.ref a:=rx
 refine qQ I1 ea c hm l ?_
 refine PySem.W.callWith_K (first:=[.ref a]) (h₀:=X.base) I.ok.mod.kin hm.kp (thn (ha pos pins s1 σ H1 _ I1 q) λus s2 ⟨vs,H2,I2,r,q2⟩=>⟨I2.kIn, ?_⟩) hst hpl
 exact zi (us:=.ref a::us) (vs:=.ref a::vs) F hr hb hd hx I2 (.cons rfl r) q2
theorem Aa {pl:Sem Bool} (he:PE X o ta) (c:Cls X.K C) (hm:Meth X.K C m f) (F:fV X.prog X.w X.K X.mg X.base CX k f fd ps sp) (hr:dN k X.A) (hb:Binds X.K fd ps ds) (hd:Vals dvs ds) (hx:Passes CX X E)
 (ht:eval (.Call (.Attribute o m apos) [] [] pos) X.env=(do
  let ov <- eval o X.env
  standAt apos.atName
  let (f,first) <- holding [ov] (getMethod ov m pl)
  callWith pos f first (backTo pos (starEach [] X.env)) (backToKw pos (keywordEach [] X.env))):=by rfl):
 PE X (.Call (.Attribute o m apos) [] [] pos) (DU C m sp dvs E ta px):=by
 intro pins s σ H Q I h
 refine PySem.W.methodCall_KW (pl:=pl) (thn (he pins s σ H _ I h) λu s1 ⟨x,H1,I1,rx,a,dx,fs,ex,ea,l,q⟩=> ?_) ht
 subst ex
 obtain rfl:u=Value.ref a:=rx
 refine qQ I1 ea c hm l ?_
 exact PySem.W.callWith_K0 (first:=[.ref a]) I1.kIn hm.kp (zi (us:=[.ref a]) (vs:=[.ref a]) F hr hb hd hx I1 (.cons rfl .nil) q)
structure Mk(K:PySem.W.Frag)(C f:Addr):Prop where
 makes:PySem.W.makesIn K C=true
 init:PySem.W.findIn K (.ref C) "__init__" =some (some (.ref f))
 fn:PySem.W.isFn K (.ref f)=true
 kp:PySem.W.keepIn K (.ref C)=true
theorem HS {pins:List (Addr×Obj)} {σ:St} {H:Hp} {s:Shared} {Q:VK} {us:List Value} {vs:List V} (M:Mk X.K C f) (F:fV X.prog X.w X.K X.mg X.base CX k f fd ps sp) (hr:dN (k+1) X.A) (hb:Binds X.K fd ps ds) (hd:Vals dvs ds)
 (hx:Passes CX X E) (I:Inv X pins σ H s) (r:Vals vs us)
 (h:∀x dx,H x=none->H dx=none->dx≠x->sp (.ref x::(vs++dvs)) (upd (upd H dx (.own x)) x (.ins C dx [])) (λv H2=>v=.non/\Q (.ref x) H2) E):
 wpAny (model X.prog X.w) X.A (call (.ref C) us) (EP X pins σ Q) X.xe s:=by
 have hq:=h (s.heap.objs.size+1) s.heap.objs.size (I.hok.fresh (Nat.le_succ _)) (I.hok.fresh (Nat.le_refl _)) (Nat.ne_of_lt (Nat.lt_succ_self _))
 have I2:=Inv.made (C:=C) I
 have r2:Vals (V.ref (s.heap.objs.size+1)::(vs++dvs)) (Value.ref (s.heap.objs.size+1)::(us++ds)):=.cons rfl (r.append hd)
 have hl:(Value.ref (s.heap.objs.size+1)::us++ds).length=ps.length:=by
  have e:=r2.length
  rw[F.len _ _ _ _ hq] at e
  exact e.symm
 refine wpAny_call (Gq (f:=f) I.kIn M.makes M.init (beq_iff_eq.mp M.fn) (codeAny_mono (F.run _ X.stack _ _ ⟨Value.ref (s.heap.objs.size+1)::us,[]⟩ (Value.ref (s.heap.objs.size+1)::(us++ds)) _ _ E (hr.make C us [])
  (I2.env0.make C us []) (hb _ (Value.ref (s.heap.objs.size+1)::us) I2.kIn hl) r2 hq) λr s' hq'=> ?_))
 cases r with
 | error e=>exact hx pins σ _ _ e s' I2 hq'
 | ok fl=>
  cases fl with
  | ret u=>
   obtain⟨v,H',I3,rv,ev,q3⟩:=I2.after hq'
   subst ev
   exact⟨rv,⟨V.ref (s.heap.objs.size+1),H',I3,rfl,q3⟩⟩
  | next=>exact False.elim hq'
  | brk=>exact False.elim hq'
  | cont=>exact False.elim hq'
theorem JG (M:Mk X.K C f) (F:fV X.prog X.w X.K X.mg X.base CX k f fd ps sp) (hr:dN (k+1) X.A) (hg:Gl X x) (hm:X.mg x=some (.ref C)) (hb:Binds X.K fd ps ds) (hd:Vals dvs ds) (hx:Passes CX X E)
 (ha:PA X (e::es) t) (hdb:(x == ("__debug__" :Str))=false:=by decide) (he:starEach (e::es) X.env=(false,eval e X.env)::starEach es X.env:=by rfl) (hpl:(backTo pos (starEach es X.env)).any (·.1)=false:=by rfl):
 PE X (.Call (.Name x p) (e::es) [] pos) (Ih C sp dvs E t):=by
 intro pins s σ H Q I h
 refine wpAny_Call_Name_kw (vT I hg hm ?_ hdb)
 refine PySem.W.callWith_K (h₀:=X.base) I.ok.mod.kin M.kp (thn (ha pos pins s σ H _ I h) λus s1 ⟨vs,H1,I1,r,q⟩=>⟨I1.kIn, ?_⟩) he hpl
 exact HS M F hr hb hd hx I1 r q
end
section
variable {X : Cx} {CX : CXT} {k : Nat} {f C : Addr} {fd : FuncData} {ps ks : List Str} {sp : Sp} {E : XK} {x m : Str} {p pos apos kpos : Pos} {e o : Expr} {es : List Expr} {kws : List Keyword} {te ta : TE} {t tk : TA} {nm : Option Str}
structure OF(K:PySem.W.Frag)(fd:FuncData)(ps ks:List Str)(g:List Value->List Value->List Value)(gV:List V->List V->List V):Prop where
 to:∀(s:Shared) (us ws:List Value),K.In s.heap->(g us ws).length=ps.length->BindsTo s fd ⟨us,ks.zip ws⟩ (ps.zip (g us ws))
 rel:∀{vs:List V} {us:List Value} {zs:List V} {ws:List Value},Vals vs us->Vals zs ws->Vals (gV vs zs) (g us ws)
variable {g : List Value → List Value → List Value} {gV : List V → List V → List V}
end
structure bq(N P:List Str)(sc:Scope):Prop where
 kind:sc.kind=.function
 co:sc.isCoroutine=false
 gen:sc.isGenerator=false
 nd:N.Nodup
 pre:N.take P.length=P
 par:∀x∈P,sc.names.lookup x=some .local\/sc.names.lookup x=some .cell
 nofree:∀y∈sc.names,y.2≠ .free
theorem xu{kindOf:Str->Option NameKind}{x:Str}:∀{binds:List (Str×Value)} {m:Str->Option Value},(∀v,(x,v)∉binds)->bindL kindOf binds m x=m x
 | [],_,_=>rfl
 | (n,v)::r,m,h=>by
  unfold bindL
  rw[xu λw hw=>h w (List.mem_cons_of_mem _ hw)]
  split
  ·have:x≠n:=by rintro rfl;exact h v List.mem_cons_self
   simp[this]
  ·rfl
theorem xK{kindOf:Str->Option NameKind}{x:Str}:∀{binds:List (Str×Value)} {m:Str->Option Value},(∀v,(x,v)∉binds)->bindC kindOf binds m x=m x
 | [],_,_=>rfl
 | (n,v)::r,m,h=>by
  unfold bindC
  rw[xK λw hw=>h w (List.mem_cons_of_mem _ hw)]
  split
  ·rfl
  ·have:x≠n:=by rintro rfl;exact h v List.mem_cons_self
   simp[this]
theorem xc{kindOf:Str->Option NameKind}{x:Str}{v:Value}:∀{P:List Str} {vs:List Value} {i:Nat} {m:Str->Option Value},P.Nodup->P[i]? =some x->vs[i]? =some v->kindOf x=some .local->
 bindL kindOf (P.zip vs) m x=some v
 | [],_,_,_,_,h,_,_=>by simp at h
 | _::_,[],_,_,_,_,h,_=>by simp at h
 | p::P,w::vs,0,m,nd,h1,h2,hk=>by
  simp at h1 h2;subst h1;subst h2
  show bindL kindOf ((p,w)::P.zip vs) m p=_
  unfold bindL
  rw[xu λv hv=>(List.nodup_cons.mp nd).1 (List.of_mem_zip hv).1,if_pos hk]
  simp
 | p::P,w::vs,i+1,m,nd,h1,h2,hk=>by
  show bindL kindOf ((p,w)::P.zip vs) m x=_
  unfold bindL
  exact xc (i:=i) (List.nodup_cons.mp nd).2 (by simpa using h1) (by simpa using h2) hk
theorem xN{kindOf:Str->Option NameKind}{x:Str}{v:Value}:∀{P:List Str} {vs:List Value} {i:Nat} {m:Str->Option Value},P.Nodup->P[i]? =some x->vs[i]? =some v->kindOf x≠some .local->
 bindC kindOf (P.zip vs) m x=some v
 | [],_,_,_,_,h,_,_=>by simp at h
 | _::_,[],_,_,_,_,h,_=>by simp at h
 | p::P,w::vs,0,m,nd,h1,h2,hk=>by
  simp at h1 h2;subst h1;subst h2
  show bindC kindOf ((p,w)::P.zip vs) m p=_
  unfold bindC
  rw[xK λv hv=>(List.nodup_cons.mp nd).1 (List.of_mem_zip hv).1,if_neg hk]
  simp
 | p::P,w::vs,i+1,m,nd,h1,h2,hk=>by
  show bindC kindOf ((p,w)::P.zip vs) m x=_
  unfold bindC
  exact xN (i:=i) (List.nodup_cons.mp nd).2 (by simpa using h1) (by simpa using h2) hk
def start(N:List Str)(vs:List V):St:=vs.map some++List.replicate (N.length-vs.length) none
def sx(CX:CXT)(P:Program)(w:World)(K:PySem.W.Frag)(mg:Str->Option Value)(base:Heap)(N:List Str)(qual:Str)(scope:Scope)(f:Addr)(cd:Value)(A:Around)(outer:List Env)(s:Shared)(H:Hp)(E:XK):Cx where
 prog:=P
 w:=w
 K:=K
 mg:=mg
 base:=base
 A:=A.deeper (envOfC qual scope s.heap.objs.size f cd)
 N:=N
 s₀:=s
 H₀:=H
 env:=envOfC qual scope s.heap.objs.size f cd
 outer:=outer
 stack:=envOfC qual scope s.heap.objs.size f cd::outer
 ex:=[]
 calm:=true
 fn:=λ_=>true
 pn:=[]
 xe:=λe s'=>wpAny (model P w) (A.deeper (envOfC qual scope s.heap.objs.size f cd)) (leaving (envOfC qual scope s.heap.objs.size f cd) e) (λ_ s''=>CX outer H s E e s'') (λe' s''=>CX outer H s E e' s'') s'
theorem A9{sc:Scope}{n:Nat}{x:Str}(h:sc.names.lookup x=some .cell):∃c,(cellsFrom n sc.names []).lookup x=some c:=by
 have q:=PySem.W.cellsFrom_some sc.names n [] (.inl h)
 exact Option.isSome_iff_exists.mp q
theorem FR {CX:CXT} {P:Program} {w:World} {K:PySem.W.Frag} {mg:Str->Option Value} {base:Heap} {N ps:List Str} {qual:Str} {scope:Scope} {f:Addr} {cd:Value} {A:Around} {outer:List Env} {s s1:Shared} {H:Hp} {E:XK} {us:List Value} {vs:List V}
 (S:bq N ps scope) (hd:A.handled=none) (e0:n9 P w K mg base A outer s H) (hl:vs.length=ps.length) (r:Vals vs us)
 (x:InCallC s s.heap.objs.size (bindL (envOfC qual scope s.heap.objs.size f cd).kindOf (ps.zip us) λ_=>none) (cellsFrom (s.heap.objs.size+1) scope.names []) (bindC (envOfC qual scope s.heap.objs.size f cd).kindOf (ps.zip us) λ_=>none) s1):
 Inv (sx CX P w K mg base N qual scope f cd A outer s H E) [] (start N vs) H s1:=by
 have hpl:ps.length<=N.length:=by have:=congrArg List.length S.pre;rw[List.length_take] at this;omega
 obtain⟨h1,tk,rfl,hk⟩:=x.done
 have noA:∀b:Addr,b∉(sx CX P w K mg base N qual scope f cd A outer s H E).ex:=λb z=>absurd (show b∈([]:List Addr) from z) (by simp)
 refine⟨⟨e0.mod,S.kind,rfl,rfl,Nat.le_refl _,λy z c h1 h2=> ?_,λy hy=> ?_,λy c _ h=> ?_,λ_=>hd,Around.frames_deeper e0.frames,.inr ⟨rfl,rfl⟩,λb z=>absurd z (noA b),e0.bs,e0.bsz,λb _ _=>noA b,λb z=>absurd z (noA b),e0.funs,e0.frf⟩,
  rfl,e0.bare,Un.kept hk,⟨_,x.toInCall.ns,λi y v h1 h2 h3=> ?_⟩,λy c h=>⟨_,x.cell y c h⟩,e0.hok.fresh (Nat.le_refl _),λy c h=> ?_,λp hp=>absurd (show p∈([]:List (Addr×Obj)) from hp) (by simp),e0.hok.kept hk, ?_⟩
 ·exact name_of_addr x.apart (PySem.mem_of_lookup h1) (PySem.mem_of_lookup h2)
 ·have hy:scope.names.lookup y=some .cell\/scope.names.lookup y=some .free:=hy
  rcases hy with hy | hy
  ·exact A9 hy
  ·exact absurd rfl (S.nofree _ (PySem.mem_of_lookup hy))
 ·exact Nat.le_of_lt (x.above y c (PySem.mem_of_lookup h))
 ·have hi:i<vs.length:=by
   unfold start at h2
   by_cases hi:i<vs.length
   ·exact hi
   ·rw[List.getElem?_append_right (by simpa using hi)] at h2
    rw[List.getElem?_replicate] at h2
    split at h2 <;> cases h2
  have ha:vs[i]? =some v:=by
   unfold start at h2
   rw[List.getElem?_append_left (by simpa using hi),List.getElem?_map] at h2
   cases e:vs[i]? with
   | none=>rw[e] at h2;cases h2
   | some a=>rw[e] at h2;cases h2;rfl
  obtain⟨u,hu,rv⟩:=r.get ha
  have hp:ps[i]? =some y:=by
   rw[<- S.pre,List.getElem?_take_of_lt (by omega)];exact h1
  have ndP:ps.Nodup:=by rw[<- S.pre];exact S.nd.sublist (List.take_sublist _ _)
  refine⟨u,rv, ?_⟩
  rcases S.par y (List.mem_of_getElem? hp) with k | k
  ·exact .inl ⟨k,xc ndP hp hu k⟩
  ·obtain⟨c,e⟩:=A9 (n:=s.heap.objs.size+1) k
   refine .inr ⟨.inl k,c,e, ?_⟩
   have q:=x.cell y c e
   rw[xN ndP hp hu (by show scope.names.lookup y≠_;rw[k];decide)] at q
   exact q
 ·exact e0.hok.fresh (Nat.le_of_lt (x.above y c (PySem.mem_of_lookup h)))
 ·unfold start
  show _=N.length
  rw[List.length_append,List.length_map,List.length_replicate]
  omega
theorem Ik {CX:CXT} {P:Program} {w:World} {K:PySem.W.Frag} {mg:Str->Option Value} {base:Heap} {k:Nat} {f:Addr} {name qual:Str} {params:Arguments} {body:List Stmt} {scope:Scope} {dV kV doc pm cdv ct oc:Value} {an od:Option Addr}
 {osl:Array (Option Value)} {N ps:List Str} {sp:Sp} (lk:K.lookup f=some ⟨oc,od,.func (PySem.W.fnOf name qual params body scope dV kV doc pm an cdv ct),osl⟩) (hcd:PySem.W.codeIn K cdv qual=true) (S:bq N ps scope)
 (len:∀vs H Q E,sp vs H Q E->vs.length=ps.length)
 (hbody:∀(A:Around) (outer:List Env) (s:Shared) (H:Hp) (vs:List V) (Q:VK) (E:XK),dN k (A.deeper (envOfC qual scope s.heap.objs.size f cdv))->sp vs H Q E->
  ∃t,PSs (sx CX P w K mg base N qual scope f cdv A outer s H E) body t/\t {nx:=λ_ H'=>Q .non H',rt:=Q} (start N vs) H):
 fV P w K mg base CX (k+1) f (PySem.W.fnOf name qual params body scope dV kV doc pm an cdv ct) ps sp:=by
 refine⟨len,λA outer s H args us vs Q E hr e0 hb r hsp=> ?_⟩
 have hl:=len _ _ _ _ hsp
 have KX:K.In s.heap:=e0.mod.kin.keeps λb o e=>(e0.bs b o e).1
 have lim:s.heap.NoLimit:=e0.mod.nolimit.keeps λb o e=>(e0.bs b o e).1
 have hkind:∀y∈ps.zip us,scope.names.lookup y.1=some .local\/(scope.names.lookup y.1=some .cell/\((cellsFrom (s.heap.objs.size+1) scope.names []).lookup y.1).isSome=true):=λ⟨n,v⟩ hy=>by
  rcases S.par n (List.of_mem_zip hy).1 with q | q
  ·exact .inl q
  ·exact .inr ⟨q,PySem.W.cellsFrom_some _ _ _ (.inl q)⟩
 refine codeAny_call_function hr.depth (KX _ _ lk) rfl S.co S.gen rfl (PySem.W.codeRec_of KX hcd) (hb _ _ _ _ ?_)
 refine wpAny_newFunctionEnv_cells S.kind hkind λenv he s1 x=> ?_
 subst he
 refine⟨lim.keeps x.toInCall.keep,codeAny_func ?_⟩
 obtain⟨t,ht,hq⟩:=hbody A outer s H vs Q E (hr.deeper _) hsp
 have I:Inv (sx CX P w K mg base N qual scope f cdv A outer s H E) [] (start N vs) H s1:=FR S hr.hd e0 hl r x
 refine wpAny_mono (ht [] s1 (start N vs) H _ I hq) (λfl s' hs=> ?_) λe s' hs=>hs
 have fin:∀{σ':St} {H':Hp} {v:V} {u:Value},Inv (sx CX P w K mg base N qual scope f cdv A outer s H E) [] σ' H' s'->RelV v u->Q v H'->CE outer P w H s Q u s':=
  λ{σ' H' v u} J rv q=>⟨v,H',J.os,J.bare,J.base,J.hok,rv,q⟩
 cases fl with
 | ret u=>
  obtain⟨v,σ',H',J,rv,q⟩:=hs
  exact fin J rv q
 | next=>
  obtain⟨σ',H',J,q⟩:=hs
  exact fin (v:=V.non) (u:=Value.none) J rfl q
 | brk=>
  obtain⟨_,_,_,q⟩:=hs
  exact False.elim q
 | cont=>
  obtain⟨_,_,_,q⟩:=hs
  exact False.elim q
end L2
namespace L2
open PySem PySem.Spec PyProof.Rows
section
variable {X : Cx} {x : Str} {p pos : Pos} {e : Expr} {es : List Expr} {t : TA} {id T : String} {r : List V → Hp → VK → Prop}
def tCB(r:List V->Hp->VK->Prop)(t:TA):TE:=λσ H Q=>t σ H λvs H1=>r vs H1 Q
theorem bc (hc:iD X (.builtin id) r) (hg:Gl X x) (hm:X.mg x=none) (hv:bootBuiltins x=some (.builtin id)) (ha:PA X (e::es) t) (hn:x≠"__name__" :=by decide) (hdb:(x == ("__debug__" :Str))=false:=by decide)
 (he:starEach (e::es) X.env=(false,eval e X.env)::starEach es X.env:=by rfl) (hpl:(backTo pos (starEach es X.env)).any (·.1)=false:=by rfl):PE X (.Call (.Name x p) (e::es) [] pos) (tCB r t):=by
 intro pins s σ H Q I h
 refine wpAny_Call_Name_kw (oF I hg hm hv ?_ hn hdb)
 exact PyProof.Rows.callWith_builtin1 (thn (ha pos pins s σ H _ I h) λus s1 ⟨vs,H1,I1,r1,q1⟩=>hc pins s1 σ H1 vs us Q I1 r1 q1) he hpl
theorem gL (hc:iD X (.type T) r) (hg:Gl X x) (hm:X.mg x=none) (hv:bootBuiltins x=some (.type T)) (ha:PA X (e::es) t) (hn:x≠"__name__" :=by decide) (hdb:(x == ("__debug__" :Str))=false:=by decide)
 (he:starEach (e::es) X.env=(false,eval e X.env)::starEach es X.env:=by rfl) (hpl:(backTo pos (starEach es X.env)).any (·.1)=false:=by rfl):PE X (.Call (.Name x p) (e::es) [] pos) (tCB r t):=by
 intro pins s σ H Q I h
 refine wpAny_Call_Name_kw (oF I hg hm hv ?_ hn hdb)
 exact PyProof.Rows.callWith_type1 (thn (ha pos pins s σ H _ I h) λus s1 ⟨vs,H1,I1,r1,q1⟩=>hc pins s1 σ H1 vs us Q I1 r1 q1) he hpl
end
end L2
namespace HT
open PySem PyProof.Rows
def lexLt:List Int->List Int->Bool
 | [],[]=>false
 | [],_::_=>true
 | _::_,[]=>false
 | x::xs,y::ys=>if x=y then lexLt xs ys else decide (x<y)
theorem nI(x y:Int)(xs ys:List Int):lexLt (x::xs) (y::ys)=if x=y then lexLt xs ys else decide (x<y):=rfl
theorem GF(A:Around)(s:Shared)(a:Int)(t:Tok)(c:Int)(u:Tok):∃e,SeqAt.EqAt A s (.int a t) (.int c u) e/\(e=true↔a=c):=
 ⟨(a == c),SeqAt.EqAt.int_int a t c u,by simp⟩
theorem zM(A:Around)(s:Shared)(a:Int)(t:Tok)(c:Int)(u:Tok)(prog:Program)(w:World)(E:Value->Shared->Prop)(Q:Value->Shared->Prop)(h:Q (.bool (decide (a<c))) s):
 wpAny (model prog w) A (richCompare .Lt (.int a t) (.int c u)) Q E s:=
 (PyProof.Rows.lt_int h:wpAny (model prog w) A (compareOp .Lt (.int a t) (.int c u)) Q E s)
section
open PySem.SeqAt
open PySem.AutoSeq1 (wpAny_loadPart')
open PySem.MeetsSeq PySem.MeetsSeq2 PySem.MeetsSeq3
end
section
variable {prog : Program} {w : World} {A : Around} {E : Value → Shared → Prop} {s : Shared}
def sIx(n d:Nat):Option Int->Nat
 | none=>d
 | some v=>if v<0 then (v+(n:Int)).toNat else min v.toNat n
theorem HF(n d:Nat):sIx n d none=d:=rfl
theorem Jq(n d k:Nat):sIx n d (some (k:Int))=min k n:=by
 show (if (k:Int)<0 then ((k:Int)+(n:Int)).toNat else min (k:Int).toNat n)=min k n
 rw[if_neg (by omega),Int.toNat_natCast]
end
end HT
namespace L2
open PySem PySem.Spec PyProof.Rows
abbrev TO:=St->Hp->(Option Int->Hp->Prop)->Prop
def PO(X:Cx)(e:Option Expr)(t:TO):Prop:=
 ∀(pins:List (Addr×Obj)) (s:Shared) (σ:St) (H:Hp) (Q:Option Int->Hp->Prop),Inv X pins σ H s->t σ H Q->
  wpAny (model X.prog X.w) X.A (evalPart e X.env) (λu s'=>∃o H',Inv X pins σ H' s'/\IsPart u o/\Q o H') X.xe s
def C7:TO:=λ_ H Q=>Q none H
def ID(t:TE):TO:=λσ H Q=>t σ H λx H1=>∃i,x=.int i/\Q (some i) H1
section
variable {X : Cx} {e : Expr} {te : TE} {lo hi : Option Expr} {tl th : TO} {pos p2 : Pos}
theorem pW:PO X none C7:=by
 intro pins s σ H Q I h
 rw[evalPart_none]
 exact wpAny_pure ⟨none,H,I,.none,h⟩
theorem tD(h:PE X e te):PO X (some e) (ID te):=by
 intro pins s σ H Q I hw
 rw[evalPart_some]
 refine thn (h pins s σ H _ I hw) λu s1 ⟨x,H1,I1,r1,q1⟩=> ?_
 obtain⟨i,rfl,q⟩:=q1
 obtain⟨t,rfl⟩:=r1
 exact⟨some i,H1,I1,.int i t,q⟩
def SlR(X:Cx)(r:V->Option Int->Option Int->Hp->VK->Prop):Prop:=
 ∀(pins:List (Addr×Obj)) (s:Shared) (σ:St) (H:Hp) (x:V) (v vl vu:Value) (lo hi:Option Int) (sl:Addr) (Q:VK),Inv X pins σ H s->RelV x v->s.heap.IsSliceOf sl vl vu .none->IsPart vl lo->IsPart vu hi->r x lo hi H Q->
  ∃T id,typeLookup (.type T) "__getitem__" =pure (some (.builtin id))/\s.TypeIs v T/\wpAny (model X.prog X.w) X.A (getItem v (.ref sl)) (EP X pins σ Q) X.xe s
theorem SlR.or{r r':V->Option Int->Option Int->Hp->VK->Prop}(h:SlR X r)(h':SlR X r'):SlR X (λx lo hi H Q=>r x lo hi H Q\/r' x lo hi H Q):=by
 intro pins s σ H x v vl vu lo hi sl Q I rx hs pl pu q
 rcases q with q | q
 ·exact h pins s σ H x v vl vu lo hi sl Q I rx hs pl pu q
 ·exact h' pins s σ H x v vl vu lo hi sl Q I rx hs pl pu q
def tSl(r:V->Option Int->Option Int->Hp->VK->Prop)(te:TE)(tl th:TO):TE:=λσ H Q=>te σ H λx H1=>tl σ H1 λl H2=>th σ H2 λu H3=>r x l u H3 Q
theorem uL{r:V->Option Int->Option Int->Hp->VK->Prop}(hr:SlR X r)(he:PE X e te)(hl:PO X lo tl)(hu:PO X hi th):PE X (.Subscript e (.Slice lo hi none p2) pos) (tSl r te tl th):=by
 intro pins s σ H Q I h
 refine Subscript_ (thn (he pins s σ H _ I h) λv s1 ⟨x,H1,I1,r1,q1⟩=> ?_)
 refine wpAny_Slice (thn (hl pins s1 σ H1 _ I1 q1) λvl s2 ⟨l,H2,I2,pl,q2⟩=>thn (hu pins s2 σ H2 _ I2 q2) λvu s3 ⟨u,H3,I3,pu,q3⟩=> ?_)
 rw[evalPart_none]
 refine wpAny_pure ?_
 have I4:Inv X pins σ H3 {s3 with heap:=s3.heap.push {cls:=.type "slice",data:=.fields #[vl,vu,.none]}}:=I3.kept (t':=s3.toks) λb ob q=>Heap.get?_push_of_some _ q
 obtain⟨T,id,hT,ht,hg⟩:=hr pins {s3 with heap:=s3.heap.push {cls:=.type "slice",data:=.fields #[vl,vu,.none]}} σ H3 x v vl vu l u s3.heap.objs.size Q I4 r1 (Heap.IsSliceOf.new ..) pl pu q3
 show wpAny (model X.prog X.w) X.A (subscriptTail e (.Slice lo hi none p2) v (.ref s3.heap.objs.size)) (EP X pins σ Q) X.xe {s3 with heap:=s3.heap.push {cls:=.type "slice",data:=.fields #[vl,vu,.none]}}
 exact tail_any (ops:=[.ref s3.heap.objs.size,v]) ht hT hg (by with_unfolding_all rfl)
def wM(xs:List V)(lo hi:Option Int):List V:=(xs.drop (HT.sIx xs.length 0 lo)).take (HT.sIx xs.length xs.length hi-HT.sIx xs.length 0 lo)
theorem BN(xs:List V)(lo hi:Option Int):(wM xs lo hi).length<=xs.length:=by
 unfold wM
 rw[List.length_take,List.length_drop]
 omega
end
end L2
namespace L2
open PySem PySem.Spec PyProof.Rows
def ixN(n:Nat)(i:Int):Option Nat:=if 0<=i then (if i<n then some i.toNat else none) else if -(n:Int)<=i then some (i+n).toNat else none
def atI{α:Type}(xs:List α)(i:Int):Option α:=(ixN xs.length i).bind λj=>xs[j]?
theorem CF{n:Nat}{i:Int}{j:Nat}(h:ixN n i=some j):seqIndex? i n=some j/\j<n/\ -(n:Int)<=i/\i<n:=by
 unfold ixN at h
 by_cases h0:0<=i
 ·rw[if_pos h0] at h
  by_cases h1:i<n
  ·rw[if_pos h1] at h
   have e:i.toNat=j:=Option.some.inj h
   exact⟨by rw[seqIndex_of h0 h1,e],by omega,by omega,h1⟩
  ·rw[if_neg h1] at h;cases h
 ·rw[if_neg h0] at h
  by_cases h1: -(n:Int)<=i
  ·rw[if_pos h1] at h
   have e:(i+n).toNat=j:=Option.some.inj h
   exact⟨by rw[seqIndex_neg (by omega) h1,e],by omega,h1,by omega⟩
  ·rw[if_neg h1] at h;cases h
theorem wA{α:Type}{xs:List α}{i:Int}{v:α}(h:atI xs i=some v):∃j,seqIndex? i xs.length=some j/\xs[j]? =some v/\j<xs.length/\ -(xs.length:Int)<=i/\i<xs.length:=by
 unfold atI at h
 cases e:ixN xs.length i with
 | none=>rw[e] at h;cases h
 | some j=>
  rw[e] at h
  obtain⟨h1,h2,h3,h4⟩:=CF e
  exact⟨j,h1,h,h2,h3,h4⟩
def Kd(b:Expr):Prop:=∀o i,subscripted b false o i=operate [o,i] (getItem o i)
def IxR(X:Cx)(r:R2):Prop:=
 ∀(value slice:Expr) (pins:List (Addr×Obj)) (s:Shared) (σ:St) (H:Hp) (x y:V) (v u:Value) (Q:VK),Inv X pins σ H s->RelV x v->RelV y u->r x y H Q->
  subscripted slice false v u=operate [v,u] (getItem v u)->wpAny (model X.prog X.w) X.A (subscriptTail value slice v u) (EP X pins σ Q) X.xe s
def MtR(X:Cx)(id:String)(r:V->List V->Hp->VK->Prop):Prop:=
 ∀(pins:List (Addr×Obj)) (s:Shared) (σ:St) (H:Hp) (x:V) (xs:List V) (v:Value) (us:List Value) (Q:VK),Inv X pins σ H s->RelV x v->Vals xs us->r x xs H Q->
  wpAny (model X.prog X.w) X.A (call (.builtin id) (v::us)) (EP X pins σ Q) X.xe s
section
variable {X : Cx} {a b : Expr} {ta tb : TE} {pos : Pos}
theorem IxR.or{r r':R2}(h:IxR X r)(h':IxR X r'):IxR X (λx y H Q=>r x y H Q\/r' x y H Q):=by
 intro value slice pins s σ H x y v u Q I rx ry q hs
 rcases q with q | q
 ·exact h value slice pins s σ H x y v u Q I rx ry q hs
 ·exact h' value slice pins s σ H x y v u Q I rx ry q hs
theorem MtR.or{id:String}{r r':V->List V->Hp->VK->Prop}(h:MtR X id r)(h':MtR X id r'):MtR X id (λx xs H Q=>r x xs H Q\/r' x xs H Q):=by
 intro pins s σ H x xs v us Q I rx rs q
 rcases q with q | q
 ·exact h pins s σ H x xs v us Q I rx rs q
 ·exact h' pins s σ H x xs v us Q I rx rs q
theorem dq{r:R2}(hr:IxR X r)(ha:PE X a ta)(hb:PE X b tb)(hs:Kd b):PE X (.Subscript a b pos) (tOp r ta tb):=by
 intro pins s σ H Q I h
 exact Subscript_ (Gn ha hb I h λv u s2 x y H2 I2 rx ry q=>hr a b pins s2 σ H2 x y v u Q I2 rx ry q (hs _ _))
def Kz(K:PySem.W.Frag):R2:=λx y H Q=>∃p xs i v,x=.ref p/\y=.int i/\SqL K H p xs/\atI xs i=some v/\Q v H
def Lu(K:PySem.W.Frag):R2:=λx y H Q=>∃p xs i v,x=.ref p/\y=.int i/\SqT K H p xs/\atI xs i=some v/\Q v H
def Lc:R2:=λx y H Q=>∃z i c,x=.str z/\y=.int i/\z.length<=sizeLine/\atI z.cps.toList i=some c/\Q (.str ⟨#[c]⟩) H
theorem J5:IxR X (Kz X.K):=by
 intro value slice pins s σ H x y v u Q I rx ry h hs
 obtain⟨p,xs,i,z,rfl,rfl,hq,he,q⟩:=h
 cases rx
 obtain⟨t,rfl⟩:=ry
 obtain⟨its,r,pl,hz⟩:=I.list hq
 obtain⟨j,h1,h2,h3,h4,h5⟩:=wA he
 obtain⟨w,ew,rw'⟩:=r.get h2
 have hl:=r.length
 have hn:=pS
 have fin:EP X pins σ Q w s:=⟨z,H,I,rw',q⟩
 by_cases h0:0<=i
 ·have hj:i.toNat=j:=by
   rw[seqIndex_of h0 h5] at h1
   exact Option.some.inj h1
  exact item_listR pl.isList h0 (by omega) (by rw[hj];simpa using ew) fin hs
 ·have hj:(i+(its.toArray.size:Int)).toNat=j:=by
   rw[seqIndex_neg (by omega) h4] at h1
   rw[List.size_toArray,<- hl]
   exact Option.some.inj h1
  exact subscriptTail_builtinR (x:=w) pl.isList.typeIs slot_list_getitem.lookup
   (wpAny_getItem_list_neg (Q:=λr s'=>r=w/\EP X pins σ Q r s') pl.isList (by omega) (by rw[List.size_toArray] <;> omega) (by omega) (by rw[hj];simpa using ew) ⟨rfl,fin⟩) hs
theorem LM:IxR X (Lu X.K):=by
 intro value slice pins s σ H x y v u Q I rx ry h hs
 obtain⟨p,xs,i,z,rfl,rfl,hq,he,q⟩:=h
 cases rx
 obtain⟨t,rfl⟩:=ry
 obtain⟨its,r,pl,hz⟩:=I.tuple hq
 obtain⟨j,h1,h2,h3,h4,h5⟩:=wA he
 obtain⟨w,ew,rw'⟩:=r.get h2
 have hl:=r.length
 have hn:=pS
 have fin:EP X pins σ Q w s:=⟨z,H,I,rw',q⟩
 exact subscriptTail_builtinR (x:=w) pl.typeIs slot_tuple_getitem.lookup
  (getItem_tuple (j:=j) (Q:=λr s'=>r=w/\EP X pins σ Q r s') pl (by omega) (by omega) (by rw[List.size_toArray,<- hl];exact h1) (by simpa using ew) ⟨rfl,fin⟩) hs
theorem K9:IxR X Lc:=by
 intro value slice pins s σ H x y v u Q I rx ry h hs
 obtain⟨z,i,c,rfl,rfl,hz,he,q⟩:=h
 obtain⟨t,rfl⟩:=rx
 obtain⟨t',rfl⟩:=ry
 obtain⟨j,h1,h2,h3,h4,h5⟩:=wA he
 have hl:z.cps.toList.length=z.length:=by simp[Str.length]
 rw[hl] at h1 h4 h5
 have hn:=pS
 exact tail_any (typeIs_str s z t) slot_str_getitem.lookup (getItem_str (c:=c) (by
  have e1:decide (i < -(2^63:Int))=false:=decide_eq_false (by omega)
  have e2:decide (i ≥ 2^63)=false:=decide_eq_false (by omega)
  rw[e1,e2,Bool.or_false]) (by rw[h1];simpa using h2) ⟨.str ⟨#[c]⟩,H,I.tok _,⟨_,rfl⟩,q⟩) hs
def rIx(K:PySem.W.Frag):R2:=λx y H Q=>Kz K x y H Q\/Lu K x y H Q\/Lc x y H Q
theorem cO:IxR X (rIx X.K):=J5.or (LM.or K9)
theorem Dh(its:List Value)(n j:Nat)(u:Value):Obj.mapSeq (·.setIfInBounds j u) {cls:=.type "list",data:=.seq its.toArray n}={cls:=.type "list",data:=.seq (its.set j u).toArray n}:=by
 simp[Obj.mapSeq]
theorem Inv.lst{pins:List (Addr×Obj)}{σ:St}{H:Hp}{s:Shared}{p:Addr}{xs:List V}(I:Inv X pins σ H s)(h:H p=some (.lst xs)):
 ∃(its:List Value) (n:Nat),Vals xs its/\s.heap.get? p=some {cls:=.type "list",data:=.seq its.toArray n}/\xs.length<=sizeLine:=by
 obtain⟨z,its,n,r,e⟩:=I.hok p _ h
 exact⟨its,n,r,e,z⟩
theorem Inv.lstUpd {pins:List (Addr×Obj)} {σ:St} {H:Hp} {s:Shared} {p:Addr} {xs ys:List V} {its its':List Value} {n n':Nat} {f:Obj->Obj} (I:Inv X pins σ H s) (h:H p=some (.lst xs))
 (ho:s.heap.get? p=some {cls:=.type "list",data:=.seq its.toArray n}) (hf:f {cls:=.type "list",data:=.seq its.toArray n}={cls:=.type "list",data:=.seq its'.toArray n'}) (r:Vals ys its') (hz:ys.length<=sizeLine) (t:Nat):
 Inv X pins σ (upd H p (.lst ys)) {s with heap:=s.heap.update p f,toks:=t}:=by
 have e:(s.heap.update p f).get? p=some {cls:=.type "list",data:=.seq its'.toArray n'}:=by
  rw[Heap.get?_update_self f ho (by rw[hf] <;> rfl),hf]
 refine I.write (x:=p) (e:=p) (by rw[h];trivial) (.inl rfl) (λb u hb q=>(Heap.get?_update_other _ _ (Ne.symm hb)).trans q) ⟨_,e⟩ ?_
 exact⟨hz,its',n',r,e⟩
def IF:V->V->V->Hp->(Hp->Prop)->Prop:=λo i v H Q=>∃p xs k j,o=.ref p/\i=.int k/\H p=some (.lst xs)/\ixN xs.length k=some j/\Q (upd H p (.lst (xs.set j v)))
theorem set_list:Lz X IF:=by
 intro pins s σ H o i v ov iv u Q I ro ri rv h
 obtain⟨p,xs,k,j,rfl,rfl,hp,hj,q⟩:=h
 cases ro
 obtain⟨t,rfl⟩:=ri
 obtain⟨its,n,r,ho,hz⟩:=I.lst hp
 obtain⟨h1,h2,h3,h4⟩:=CF hj
 have hl:=r.length
 have hn:=pS
 have I':Inv X pins σ (upd H p (.lst (xs.set j v))) {s with heap:=s.heap.update p (Obj.mapSeq (·.setIfInBounds j u))}:=
  I.lstUpd hp ho (Dh its n j u) (r.set rv j) (by rw[List.length_set];exact hz) s.toks
 by_cases h0:0<=k
 ·have hk:k.toNat=j:=by
   rw[seqIndex_of h0 h4] at h1
   exact Option.some.inj h1
  exact PySem.W.ki_setAt ho h0 (by omega) (by rw[List.size_toArray,<- hl];exact h4) (by rw[hk];exact⟨_,I',q⟩)
 ·have hk:(k+(its.toArray.size:Int)).toNat=j:=by
   rw[seqIndex_neg (by omega) h3] at h1
   rw[List.size_toArray,<- hl]
   exact Option.some.inj h1
  exact PySem.W.ki_setBack ho (by omega) (by rw[List.size_toArray,<- hl];exact h3) (by omega) (by rw[hk];exact⟨_,I',q⟩)
theorem Am(lo hi:Option Int)(n:Nat):(sliceBounds lo hi none n).1=((HT.sIx n 0 lo:Nat):Int)/\(sliceBounds lo hi none n).2.1=((HT.sIx n n hi:Nat):Int)/\(sliceBounds lo hi none n).2.2=1:=by
 refine⟨?_, ?_,rfl⟩
 ·cases lo with
  | none=>simp[sliceBounds,HT.sIx]
  | some i=>
   simp only[sliceBounds,HT.sIx,Option.getD_none,show (1:Int)>0 by decide,if_true]
   by_cases h:i<0
   ·simp only[h,if_true] <;> omega
   ·simp only[h,if_false] <;> omega
 ·cases hi with
  | none=>simp[sliceBounds,HT.sIx]
  | some i=>
   simp only[sliceBounds,HT.sIx,Option.getD_none,show (1:Int)>0 by decide,if_true]
   by_cases h:i<0
   ·simp only[h,if_true] <;> omega
   ·simp only[h,if_false] <;> omega
theorem yk(its:List Value)(lo hi:Option Int):slicePick its.toArray lo hi none=((its.drop (HT.sIx its.length 0 lo)).take (HT.sIx its.length its.length hi-HT.sIx its.length 0 lo)).toArray:=by
 obtain⟨h1,h2,h3⟩:=Am lo hi its.toArray.size
 unfold slicePick
 rw[h1,h2,h3]
 simp only[sliceRange_one,pick_run,List.size_toArray] <;> rfl
def Ly(K:PySem.W.Frag):V->Option Int->Option Int->Hp->VK->Prop:=λx lo hi H Q=>∃a xs,x=.ref a/\SqL K H a xs/\∀p,H p=none->Q (.ref p) (upd H p (.lst (wM xs lo hi)))
theorem Jc:SlR X (Ly X.K):=by
 intro pins s σ H x v vl vu lo hi sl Q I rx hs pl pu h
 obtain⟨a,xs,rfl,hx,q⟩:=h
 cases rx
 obtain⟨its,r,ht,hz⟩:=I.list hx
 have hlen:=r.length
 refine⟨"list",_,slot_list_getitem.lookup,ht.isList.typeIs, ?_⟩
 refine wpAny_getItem_list_slice ht.isList hs pl pu .none (by simp) ?_ (by rw[List.size_toArray] <;> omega)
 rw[yk,<- hlen]
 refine⟨.ref s.heap.objs.size,_,I.laid (t':=s.toks) (o:=.lst (wM xs lo hi)) (λb ob q=>Heap.get?_push_of_some _ q) (Nat.le_refl _) ?_,rfl,q _ (I.hok.fresh (Nat.le_refl _))⟩
 exact⟨Nat.le_trans (BN xs lo hi) hz,_,0,(r.drop (HT.sIx xs.length 0 lo)).take (HT.sIx xs.length xs.length hi-HT.sIx xs.length 0 lo),Heap.get?_push_size _ rfl⟩
def mn:V->Bool
 | .non=>true
 | .bl _=>true
 | .int _=>true
 | .str _=>true
 | _=>false
def eqV:V->V->Bool
 | .non,.non=>true
 | .bl a,.bl b=>a == b
 | .bl a,.int b=>(if a then 1 else 0) == b
 | .int a,.bl b=>a == (if b then 1 else 0)
 | .int a,.int b=>a == b
 | .str a,.str b=>a == b
 | _,_=>false
theorem Md{A:Around}{s:Shared}{y x:V}{u v:Value}(ry:RelV y u)(rx:RelV x v)(fy:mn y=true)(fx:mn x=true):SeqAt.EqAt A s u v (eqV y x):=by
 cases y with
 | non=>
  cases ry
  cases x with
  | non=>cases rx;exact SeqAt.EqAt.same _
  | bl b=>cases rx;exact SeqAt.EqAt.none_bool b
  | int b=>obtain⟨t,rfl⟩:=rx;exact SeqAt.EqAt.none_int b t
  | str b=>obtain⟨t,rfl⟩:=rx;exact SeqAt.EqAt.none_str b t
  | _=>exact absurd (show false=true from fx) Bool.false_ne_true
 | bl a=>
  cases ry
  cases x with
  | non=>cases rx;exact SeqAt.EqAt.bool_none a
  | bl b=>cases rx;exact SeqAt.EqAt.bool_bool a b
  | int b=>obtain⟨t,rfl⟩:=rx;exact SeqAt.EqAt.bool_int a b t
  | str b=>obtain⟨t,rfl⟩:=rx;exact SeqAt.EqAt.bool_str a b t
  | _=>exact absurd (show false=true from fx) Bool.false_ne_true
 | int a=>
  obtain⟨t',rfl⟩:=ry
  cases x with
  | non=>cases rx;exact SeqAt.EqAt.int_none a t'
  | bl b=>cases rx;exact SeqAt.EqAt.int_bool a t' b
  | int b=>obtain⟨t,rfl⟩:=rx;exact SeqAt.EqAt.int_int a t' b t
  | str b=>obtain⟨t,rfl⟩:=rx;exact SeqAt.EqAt.int_str a t' b t
  | _=>exact absurd (show false=true from fx) Bool.false_ne_true
 | str a=>
  obtain⟨t',rfl⟩:=ry
  cases x with
  | non=>cases rx;exact SeqAt.EqAt.str_none a t'
  | bl b=>cases rx;exact SeqAt.EqAt.str_bool a t' b
  | int b=>obtain⟨t,rfl⟩:=rx;exact SeqAt.EqAt.str_int a t' b t
  | str b=>obtain⟨t,rfl⟩:=rx;exact SeqAt.EqAt.str_str a t' b t
  | _=>exact absurd (show false=true from fx) Bool.false_ne_true
 | _=>exact absurd (show false=true from fy) Bool.false_ne_true
def eqU(x:V)(u:Value):Bool:=match u with
 | .none=>eqV .non x
 | .bool b=>eqV (.bl b) x
 | .int i _=>eqV (.int i) x
 | .str z _=>eqV (.str z) x
 | _=>false
theorem Fv{x y:V}{u:Value}(r:RelV y u)(f:mn y=true):eqU x u=eqV y x:=by
 cases y with
 | non=>cases r;rfl
 | bl b=>cases r;rfl
 | int i=>obtain⟨t,rfl⟩:=r;rfl
 | str z=>obtain⟨t,rfl⟩:=r;rfl
 | _=>exact absurd (show false=true from f) Bool.false_ne_true
theorem pJ{x:V}:∀{xs:List V} {us:List Value},Vals xs us->xs.all mn=true->us.any (eqU x)=xs.any λy=>eqV y x
 | _,_,.nil,_=>rfl
 | y::xs,u::us,.cons r t,f=>by
  rw[List.all_cons,Bool.and_eq_true] at f
  rw[List.any_cons,List.any_cons,Fv r f.1,pJ t f.2]
theorem oj{A:Around}{s:Shared}{x:V}{v:Value}(rx:RelV x v)(fx:mn x=true):∀{xs:List V} {us:List Value},Vals xs us->xs.all mn=true->∀u∈us,SeqAt.EqAt A s u v (eqU x u)
 | _,_,.nil,_=>λu hu=>by cases hu
 | y::xs,u::us,.cons r t,f=>λu' hu=>by
  rw[List.all_cons,Bool.and_eq_true] at f
  rcases List.mem_cons.mp hu with rfl | hu
  ·rw[Fv r f.1];exact Md r rx f.1 fx
  ·exact oj rx fx t f.2 u' hu
def inV(x:V)(xs:List V):Bool:=xs.any λy=>eqV y x
def rIn(K:PySem.W.Frag)(neg:Bool):R2:=λx y H Q=>∃p xs,y=.ref p/\(SqL K H p xs\/SqT K H p xs)/\mn x=true/\xs.all mn=true/\Q (.bl (if neg then !inV x xs else inV x xs)) H
theorem xv:OpR X (compareOp .In) (rIn X.K false):=by
 intro pins s σ H x y v u Q I rx ry h
 obtain⟨p,xs,rfl,hq,fx,fs,q⟩:=h
 cases ry
 rcases hq with hq | hq
 ·obtain⟨its,r,pl,hz⟩:=I.list hq
  refine SeqAt.in_listAt (eqU x) pl.isList (λw hw=>oj rx fx r fs w (by simpa using hw)) ⟨.bl _,H,I,rfl, ?_⟩
  rw[show its.toArray.any (eqU x)=its.any (eqU x) by simp,pJ r fs]
  exact q
 ·obtain⟨its,r,pl,hz⟩:=I.tuple hq
  refine SeqAt.in_tupleAt (eqU x) pl (λw hw=>oj rx fx r fs w (by simpa using hw)) ⟨.bl _,H,I,rfl, ?_⟩
  rw[show its.toArray.any (eqU x)=its.any (eqU x) by simp,pJ r fs]
  exact q
theorem yX:OpR X (compareOp .NotIn) (rIn X.K true):=by
 intro pins s σ H x y v u Q I rx ry h
 obtain⟨p,xs,rfl,hq,fx,fs,q⟩:=h
 cases ry
 rcases hq with hq | hq
 ·obtain⟨its,r,pl,hz⟩:=I.list hq
  refine SeqAt.notIn_listAt (eqU x) pl.isList (λw hw=>oj rx fx r fs w (by simpa using hw)) ⟨.bl _,H,I,rfl, ?_⟩
  rw[show its.toArray.any (eqU x)=its.any (eqU x) by simp,pJ r fs]
  exact q
 ·obtain⟨its,r,pl,hz⟩:=I.tuple hq
  refine SeqAt.notIn_tupleAt (eqU x) pl (λw hw=>oj rx fx r fs w (by simpa using hw)) ⟨.bl _,H,I,rfl, ?_⟩
  rw[show its.toArray.any (eqU x)=its.any (eqU x) by simp,pJ r fs]
  exact q
theorem iD.or{f:Value}{r r':List V->Hp->VK->Prop}(h:iD X f r)(h':iD X f r'):iD X f (λxs H Q=>r xs H Q\/r' xs H Q):=by
 intro pins s σ H xs us Q I rs q
 rcases q with q | q
 ·exact h pins s σ H xs us Q I rs q
 ·exact h' pins s σ H xs us Q I rs q
theorem gZ:iD X (.type "list") (λxs H Q=>∃p ys,xs=[.ref p]/\(SqL X.K H p ys\/SqT X.K H p ys)/\∀l,H l=none->Q (.ref l) (upd H l (.lst ys))):=by
 intro pins s σ H xs us Q I r h
 obtain⟨p,ys,rfl,hq,q⟩:=h
 obtain⟨u,rfl,rx⟩:=vals1 r
 cases rx
 have fin:∀(its:List Value),Vals ys its->ys.length<=sizeLine->∀(h':Heap) (c':Nat),(∀b o',s.heap.get? b=some o'->h'.get? b=some o')->
  h'.get? s.heap.objs.size=some {cls:=.type "list",dict:=none,data:=.seq its.toArray c',slots:= #[]}->EP X pins σ Q (.ref s.heap.objs.size) {s with heap:=h'}:=λits r' hz h' c' kp e=>
  ⟨.ref s.heap.objs.size,_,I.laid (t':=s.toks) kp (Nat.le_refl _) (show gd X.prog X.w _ h' _ (.lst ys) from ⟨hz,its,c',r',e⟩),rfl,q _ (I.hok.fresh (Nat.le_refl _))⟩
 rcases hq with hq | hq
 ·obtain⟨its,r',pl,hz⟩:=I.list hq
  have hlen:=r'.length
  obtain⟨o,ho,hc,n,hd⟩:=pl.isList
  exact call_list_seq p (.inl rfl) ho hc hd (λh' c' kp e=>fin its r' hz h' c' kp e) (by simp only[List.size_toArray] <;> omega)
 ·obtain⟨its,r',pl,hz⟩:=I.tuple hq
  have hlen:=r'.length
  obtain⟨o,ho,hc,n,hd⟩:=pl
  exact call_list_seq p (.inr rfl) ho hc hd (λh' c' kp e=>fin its r' hz h' c' kp e) (by simp only[List.size_toArray] <;> omega)
def tyV(K:PySem.W.Frag)(T:String)(x:V)(H:Hp):Prop:=match x with
 | .str _=>T="str"
 | .int _=>T="int"
 | .ref p=>(T="list" /\∃xs,SqL K H p xs)\/(T="tuple" /\∃o,K.lookup p=some o/\o.cls=.type "tuple" /\o.dict=none)\/
  (T="dict" /\((∃kvs,H p=some (.dK kvs))\/∃kvs,H p=some (.dT kvs)))\/(T="set" /\∃S n,H p=some (.set S n))
 | _=>False
theorem EG{pins:List (Addr×Obj)}{σ:St}{H:Hp}{s:Shared}{T:String}{x:V}{v:Value}(I:Inv X pins σ H s)(r:RelV x v)(ty:tyV X.K T x H):
 s.TypeIs v T/\∀a,v=.ref a->∃ob,s.heap.get? a=some ob/\ob.dict=none:=by
 cases x with
 | str z=>
  obtain⟨t,rfl⟩:=r
  cases (show T="str" from ty)
  exact⟨typeIs_str s z t,λ_ e=>nomatch e⟩
 | int i=>
  obtain⟨t,rfl⟩:=r
  cases (show T="int" from ty)
  exact⟨typeIs_int s i t,λ_ e=>nomatch e⟩
 | ref p=>
  cases r
  rcases ty with⟨rfl,xs,hq⟩ | ⟨rfl,o,hk,hc,hd⟩ | ⟨rfl,hk⟩ | ⟨rfl,S,n,hk⟩
  ·obtain⟨its,_,pl,_⟩:=I.list hq
   refine⟨pl.isList.typeIs,λa e=> ?_⟩
   cases e
   obtain⟨o,n,e,c,hd,_⟩:=pl
   exact⟨o,e,hd⟩
  ·refine⟨⟨o,I.kIn p o hk,hc⟩,λa e=> ?_⟩
   cases e
   exact⟨o,I.kIn _ o hk,hd⟩
  ·have z:∃o,s.heap.get? p=some o/\o.ExactDict:=by
    rcases hk with⟨kvs,hk⟩ | ⟨kvs,hk⟩
    ·obtain⟨_,_,_,_,o,_,_,e,ex,_⟩:=I.hok p _ hk
     exact⟨o,e,ex⟩
    ·obtain⟨_,_,_,_,o,_,_,e,ex,_⟩:=I.hok p _ hk
     exact⟨o,e,ex⟩
   obtain⟨o,e,ex⟩:=z
   refine⟨⟨o,e,ex.1⟩,λa e2=> ?_⟩
   cases e2
   exact⟨o,e,ex.2.1⟩
  ·obtain⟨o,_,_,_,e,ex,_⟩:=I.hok p _ hk
   refine⟨⟨o,e,ex.1⟩,λa e2=> ?_⟩
   cases e2
   exact⟨o,e,ex.2.1⟩
 | _=>exact False.elim ty
def Gx(K:PySem.W.Frag)(T:String)(r:V->List V->Hp->VK->Prop)(to:TE):TE:=λσ H Q=>to σ H λx H1=>tyV K T x H1/\r x [] H1 Q
def tBM(K:PySem.W.Frag)(T:String)(r:V->List V->Hp->VK->Prop)(to:TE)(t:TA):TE:=λσ H Q=>to σ H λx H1=>tyV K T x H1/\t σ H1 λxs H2=>r x xs H2 Q
variable {o e : Expr} {es : List Expr} {to : TE} {t : TA} {name : Str} {apos cpos : Pos} {T id : String} {r : V → List V → Hp → VK → Prop}
theorem KY (pa:PlainAttrs T) (slot:Slot T name id) (hty:typeOf (.builtin id)=pure (.type "method_descriptor")) (hm:MtR X id r) (ho:PE X o to)
 (hbase:attributeBase o name X.env (eval o X.env)=eval o X.env:=by rfl) (hline:(apos.endLine == cpos.line)=true:=by rfl):PE X (.Call (.Attribute o name apos) [] [] cpos) (Gx X.K T r to):=by
 intro pins s σ H Q I h
 refine wpAny_Call_method0_late hbase hline (thn (ho pins s σ H _ I h) λv s1 ⟨x,H1,I1,r1,ty,q1⟩=> ?_)
 obtain⟨h1,h2⟩:=EG I1 r1 ty
 exact⟨T,id,pa,slot,hty,h1,h2,Calls.callWith_builtin rfl (PySem.evalArgs_none (hm pins s1 σ H1 x [] v [] Q I1 r1 .nil q1))⟩
theorem jk (pa:PlainAttrs T) (slot:Slot T name id) (hty:typeOf (.builtin id)=pure (.type "method_descriptor")) (hm:MtR X id r) (ho:PE X o to) (ha:PA X (e::es) t)
 (hbase:attributeBase o name X.env (eval o X.env)=eval o X.env:=by rfl)
 (hfew:((backTo cpos (starEach (e::es) X.env)).all (λx=> !x.1)&&(backToKw cpos (keywordEach [] X.env)).all (λx=>x.1.isSome)
  &&decide ((e::es).length+([]:List Keyword).length+(if ([]:List Keyword).isEmpty then 0 else 1)<30))=true:=by rfl)
 (hline:(apos.endLine == cpos.line)=true:=by rfl) (hs:starEach (e::es) X.env=(false,eval e X.env)::starEach es X.env:=by rfl) (hplain:(backTo cpos (starEach es X.env)).any (·.1)=false:=by rfl):
 PE X (.Call (.Attribute o name apos) (e::es) [] cpos) (tBM X.K T r to t):=by
 intro pins s σ H Q I h
 refine wpAny_Call_method_late hbase hfew hline rfl (thn (ho pins s σ H _ I h) λv s1 ⟨x,H1,I1,r1,ty,q1⟩=> ?_)
 obtain⟨h1,h2⟩:=EG I1 r1 ty
 refine⟨T,id,pa,slot,hty,h1,h2, ?_⟩
 have hA:=ha cpos pins s1 σ H1 _ I1 q1
 rw[hs] at hA ⊢
 refine Calls.callWith_builtin (by show (false||(backTo cpos (starEach es X.env)).any (·.1))=false;rw[hplain] <;> rfl) (Calls.evalArgs_plain ?_)
 exact thn hA λus s2 ⟨vs,H2,I2,r2,q2⟩=>hm pins s2 σ H2 x vs v us Q I2 r1 r2 q2
end
end L2
namespace L2
open PySem PySem.Spec PyProof.Rows
def MtM(X:Cx)(id:String)(r:V->List V->Hp->VK->Prop):Prop:=
 ∀(pins:List (Addr×Obj)) (s:Shared) (σ:St) (H:Hp) (x:V) (xs:List V) (v:Value) (us:List Value) (Q:VK),Inv X pins σ H s->RelV x v->Vals xs us->r x xs H Q->
  wpAny (model X.prog X.w) X.A (call (.builtin id) (v::us)) (EP X pins σ Q) X.xe s
theorem Vals.one:∀{x:V} {us:List Value},Vals [x] us->∃u,us=[u]/\RelV x u
 | _,_,.cons r .nil=>⟨_,rfl,r⟩
theorem Vals.two:∀{x y:V} {us:List Value},Vals [x,y] us->∃u v,us=[u,v]/\RelV x u/\RelV y v
 | _,_,_,.cons r (.cons q .nil)=>⟨_,_,rfl,r,q⟩
theorem Vals.zero:∀{us:List Value},Vals [] us->us=[]
 | _,.nil=>rfl
theorem Vals.dropLast{xs:List V}{us:List Value}(h:Vals xs us):Vals xs.dropLast us.dropLast:=by
 induction h with
 | nil=>exact .nil
 | cons r t ih=>
  cases t with
  | nil=>exact .nil
  | cons q t'=>exact .cons r ih
theorem Vals.eraseIdx:∀{xs:List V} {us:List Value} (i:Nat),Vals xs us->Vals (xs.eraseIdx i) (us.eraseIdx i)
 | _,_,_,.nil=>.nil
 | _,_,0,.cons _ t=>t
 | _,_,i+1,.cons r t=>.cons r (Vals.eraseIdx i t)
theorem Vals.reverse{xs:List V}{us:List Value}(h:Vals xs us):Vals xs.reverse us.reverse:=by
 induction h with
 | nil=>exact .nil
 | cons r t ih=>rw[List.reverse_cons,List.reverse_cons];exact Vals.append ih (.cons r .nil)
theorem Vals.rep{xs:List V}{us:List Value}(h:Vals xs us):∀k:Nat,Vals (List.replicate k xs).flatten (List.replicate k us).flatten
 | 0=>.nil
 | k+1=>by
  rw[List.replicate_succ,List.replicate_succ,List.flatten_cons,List.flatten_cons]
  exact Vals.append h (Vals.rep h k)
theorem Dy{α:Type}(l:List α):l.eraseIdx (l.length-1)=l.dropLast:=by
 induction l with
 | nil=>rfl
 | cons a r ih=>
  cases r with
  | nil=>rfl
  | cons b r=>
   have e:(a::b::r).length-1=((b::r).length-1)+1:=by
    have h1:(a::b::r).length=r.length+2:=rfl
    have h2:(b::r).length=r.length+1:=rfl
    omega
   rw[e,List.eraseIdx_cons_succ,ih]
   all_goals rfl
theorem foldl_rep(its:List Value):∀(k:Nat) (acc:List Value),
 List.foldl (λx1 x2=>x1++x2) acc.toArray (List.replicate k its.toArray)=(acc++(List.replicate k its).flatten).toArray
 | 0,acc=>by simp
 | k+1,acc=>by
  have e:acc.toArray++its.toArray=(acc++its).toArray:=by simp
  have e2:(acc++its)++(List.replicate k its).flatten=acc++(List.replicate (k+1) its).flatten:=by
   rw[List.replicate_succ,List.flatten_cons,List.append_assoc]
  rw[<- e2,<- foldl_rep its k (acc++its),<- e,List.replicate_succ,List.foldl_cons]
section
variable {X : Cx} {pins : List (Addr × Obj)} {σ : St} {H : Hp} {s : Shared} {l b : Addr} {xs ys zs : List V}
theorem Inv.lset {its its':List Value} {n:Nat} {f:Array Value->Array Value} {t':Nat} (I:Inv X pins σ H s) (hH:H l=some (.lst xs))
 (e:s.heap.get? l=some {cls:=.type "list",data:=.seq its.toArray n}) (hf:f its.toArray=its'.toArray) (hv:Vals ys its') (hz:ys.length<=sizeLine):
 Inv X pins σ (upd H l (.lst ys)) {s with heap:=s.heap.update l (Obj.mapSeq f),toks:=t'}:=by
 have q:=PySem.IsL.update e f
 rw[hf] at q
 refine I.write (x:=l) (e:=l) (by rw[hH];exact trivial) (.inl rfl) (λb' u hb hu=>(Heap.get?_update_other s.heap (Obj.mapSeq f) (Ne.symm hb)).trans hu) ⟨_,q⟩ ?_
 exact⟨hz,its',_,hv,q⟩
theorem Inv.lnew{its:List Value}{t':Nat}(I:Inv X pins σ H s)(hv:Vals ys its)(hz:ys.length<=sizeLine):
 Inv X pins σ (upd H s.heap.objs.size (.lst ys)) {s with heap:=s.heap.push {cls:=.type "list",data:=.seq its.toArray},toks:=t'}:=
 I.laid (λ_ _ q=>Heap.get?_push_of_some _ q) (Nat.le_refl _) ⟨hz,its,0,hv,Heap.get?_push_size _ rfl⟩
theorem Inv.fresh(I:Inv X pins σ H s):H s.heap.objs.size=none:=I.hok.fresh (Nat.le_refl _)
theorem Inv.lstM(I:Inv X pins σ H s)(hH:H l=some (.lst xs)):xs.length<=sizeLine/\∃(its:List Value) (n:Nat),Vals xs its/\xs.length=its.length/\s.heap.get? l=some {cls:=.type "list",data:=.seq its.toArray n}:=by
 obtain⟨z,its,n,r,e⟩:=I.hok l _ hH
 exact⟨z,its,n,r,r.length,e⟩
theorem G5{n:Nat}(h:n<=sizeLine):Builtin.List.listTooLong n=false:=by
 unfold Builtin.List.listTooLong
 exact decide_eq_false (by omega)
end
section
variable {X : Cx}
def CY:V->List V->Hp->VK->Prop:=λx vs H Q=>∃l xs y,x=.ref l/\vs=[y]/\H l=some (.lst xs)/\xs.length<sizeLine/\Q .non (upd H l (.lst (xs++[y])))
theorem dS:MtM X "list.append" CY:=by
 intro pins s σ H x vs v us Q I rx rv h
 obtain⟨l,xs,y,rfl,rfl,hH,hz,q⟩:=h
 cases rx
 obtain⟨u,rfl,ru⟩:=rv.one
 obtain⟨z,its,n,r,hl,e⟩:=I.lstM hH
 refine call_meets F.slot_list_append ⟨_,e,rfl⟩ F.entry_list_append (F.args_list_append_2 _ _) (PySem.list_append l its.toArray n u (by rw[List.size_toArray];omega)) ⟨e, ?_⟩
 refine⟨.non,_,I.lset (its':=its++[u]) hH e (by simp) (r.append (.cons ru .nil)) ?_,rfl,q⟩
 rw[List.length_append,List.length_singleton]
 omega
def Ni:V->List V->Hp->VK->Prop:=λx vs H Q=>∃l xs y,x=.ref l/\vs=[]/\H l=some (.lst xs)/\xs[xs.length-1]? =some y/\Q y (upd H l (.lst xs.dropLast))
theorem OS:MtM X "list.pop" Ni:=by
 intro pins s σ H x vs v us Q I rx rv h
 obtain⟨l,xs,y,rfl,rfl,hH,hy,q⟩:=h
 cases rx
 have hus:=rv.zero
 subst hus
 obtain⟨z,its,n,r,hl,e⟩:=I.lstM hH
 obtain⟨u,hu,ru⟩:=r.get hy
 have hy':its.toArray[its.toArray.size-1]? =some u:=by
  show its.toArray[its.length-1]? =some u
  rw[<- Array.getElem?_toList,<- hl]
  exact hu
 refine call_meets F.slot_list_pop ⟨_,e,rfl⟩ F.entry_list_pop (F.args_list_pop_1 _) (MeetsSeq.list_pop_last l its.toArray n u hy' (by rw[List.size_toArray];omega)) ⟨e, ?_⟩
 refine⟨y,_,I.lset (its':=its.dropLast) hH e ?_ r.dropLast ?_,ru,q⟩
 ·show its.toArray.eraseIdxIfInBounds (its.toArray.size-1)=its.dropLast.toArray
  rw[List.size_toArray,List.eraseIdxIfInBounds_toArray,Dy]
 ·rw[List.length_dropLast]
  omega
def ER:V->List V->Hp->VK->Prop:=λx vs H Q=>∃l xs,x=.ref l/\vs=[]/\H l=some (.lst xs)/\Q .non (upd H l (.lst []))
theorem GD:MtM X "list.clear" ER:=by
 intro pins s σ H x vs v us Q I rx rv h
 obtain⟨l,xs,rfl,rfl,hH,q⟩:=h
 cases rx
 have hus:=rv.zero
 subst hus
 obtain⟨z,its,n,r,hl,e⟩:=I.lstM hH
 refine call_meets F.slot_list_clear ⟨_,e,rfl⟩ F.entry_list_clear (F.args_list_clear_1 _) (AutoSeq1.list_clear_list_0 l its.toArray n (by rw[List.size_toArray];omega)) ⟨e, ?_⟩
 exact⟨.non,_,I.lset (its':=[]) (ys:=[]) hH e rfl .nil (Nat.zero_le _),rfl,q⟩
def Hj:R2:=λx y H Q=>∃l k xs,x=.ref l/\y=.int k/\H l=some (.lst xs)/\ -(2^63)<=k/\k<2^63/\xs.length*k.toNat<=sizeLine/\
 ∀p,H p=none->Q (.ref p) (upd H p (.lst (List.replicate k.toNat xs).flatten))
theorem len_rep{α:Type}(xs:List α)(k:Nat):(List.replicate k xs).flatten.length=k*xs.length:=by
 induction k with
 | zero=>simp
 | succ k ih=>rw[List.replicate_succ,List.flatten_cons,List.length_append,ih,Nat.succ_mul,Nat.add_comm]
theorem KJ:OpR X (binaryOp .Mult) Hj:=by
 intro pins s σ H x y v u Q I rx ry h
 obtain⟨l,k,xs,rfl,rfl,hH,h1,h2,hz,q⟩:=h
 cases rx
 obtain⟨t,rfl⟩:=ry
 obtain⟨z,its,n,r,hl,e⟩:=I.lstM hH
 have hlen:its.toArray.size*k.toNat<=sizeLine:=by rw[List.size_toArray,<- hl];exact hz
 have hcap:¬its.toArray.size*k.toNat>(2^63-1)/8:=by
  have:(sizeLine:Nat)<=(2^63-1)/8:=by decide
  omega
 have hfit:¬(!Builtin.List.listFitsIndex k)=true:=by
  rw[fitsIndex_both h1 h2]
  exact Bool.false_ne_true
 have hlong:¬Builtin.List.listTooLong (its.toArray.size*k.toNat)=true:=by
  rw[G5 hlen]
  exact Bool.false_ne_true
 have hnew:List.foldl (λx1 x2=>x1++x2) #[] (List.replicate (if its.toArray.isEmpty=true then 0 else k.toNat) its.toArray)=(List.replicate k.toNat its).flatten.toArray:=by
  have f0:∀m:Nat,List.foldl (λx1 x2=>x1++x2) #[] (List.replicate m its.toArray)=(List.replicate m its).flatten.toArray:=λm=>by
   have:=foldl_rep its m []
   rw[List.nil_append] at this
   exact this
  rw[f0]
  cases its with
  | nil=>simp
  | cons a r'=>rw[if_neg (by simp)]
 refine wpAny_binaryOp_repeat_ref (T:="list") (U:="int") (by decide) ⟨_,e,rfl⟩ (λs'=>typeIs_int s' k t) noFill_list_mul F.fills_int_mul F.slot_int_rmul repeat_list F.slot_int_index.lookup
  (call_meets F.slot_int_rmul (typeIs_int s k t) F.entry_int_rmul (F.args_int_rmul_2 _ _) (int___rmul___int_list k t l its.toArray n)
   ⟨e,rfl,⟨_,e,rfl⟩,call_meets F.slot_list_mul ⟨_,e,rfl⟩ F.entry_list_mul (F.args_list_mul_2 _ _) (AutoListH.list___mul___list_int_3 l its.toArray n k t hfit hcap hlong) ⟨e, ?_⟩⟩)
 rw[hnew]
 exact⟨.ref _,_,I.lnew (t':=s.toks) (r.rep k.toNat) (by rw[len_rep,Nat.mul_comm];exact hz),rfl,q _ I.fresh⟩
end
section
variable {prog : Program} {w : World} {A : Around} {E : Value → Shared → Prop} {s : Shared}
end
section
variable {X : Cx}
end
end L2
namespace Att
open PySem PySem.W PySem.Calls PyProof.Rows
theorem vF{P:Params}{h:Heap}:∀(ns:List Int) (vs:List Value),WellAll P h vs (ns.map WData.int)->IntsAre vs ns:=by
 intro ns
 induction ns with
 | nil=>
  intro vs w
  rw[List.map_nil] at w
  cases w
  exact .nil
 | cons n ns ih=>
  intro vs w
  rw[List.map_cons] at w
  cases w with
  | cons a b=>
   cases a
   exact .cons _ _ (ih _ b)
theorem FH {l:OpenLaw} {n:Nat} (hn:l.most=some n) {P:Params} {h:Heap} {args:List WData} {vals:List Value}
 (hpre:l.row.toRowW.claim.pre args=true) (hwl:WellAll P h vals args):
 ∃a vs ns,vals=[Value.ref a]/\args=[WData.list (ns.map WData.int)]/\h.get? a=some {cls:=.type "list",data:=.seq vs.toArray}/\IntsAre vs ns/\ns.length<=n:=by
 have hsh:WShape.hasAll [] args [.list .int]=true:=(pre_splitW hpre).1
 have hc:l.pre.holds [] {args:=args}=true:=(pre_splitW hpre).2
 obtain⟨d,r,rfl,h1,h2⟩:=hasAllW_cons hsh
 obtain rfl:=hasAllW_nil h2
 obtain⟨xs,rfl,h3⟩:=hasW_list h1
 obtain⟨ns,rfl⟩:=items_int h3
 have hlen:ns.length<=n:=by
  unfold OpenLaw.pre at hc
  have h4:(WTm.not (.lt (.lit (.int (n:Int))) (.len (.arg 0)))).holds [] {args:=[.list (ns.map .int)]}=true:=by
   have h4:=(holds_andW hc).1
   rw[hn] at h4
   exact h4
  have h5:=condW_of h4 (w_not (w_lt w_lit (w_len_list (w_arg rfl))))
  rw[List.length_map] at h5
  refine Nat.le_of_not_lt λq=> ?_
  have q':(n:Int)<((ns.length:Nat):Int):=by omega
  first
   | (rw[decide_eq_true q'] at h5;exact absurd h5 (by decide))
   | (simp at h5;omega)
 cases hwl with
 | cons w1 w2=>
  cases w2
  cases w1 with
  | list ho hall=>exact⟨_,_,ns,rfl,rfl,ho,vF ns _ hall,hlen⟩
theorem FO(l:OpenLaw)(args:List WData):l.row.toRowW.claim.post args (.bool true) args=true:=
 postW_of (r:=l.row.toRowW) (X:=(true == true))
  (show WShape.has [] (.bool true) .bool=true by first | rfl | decide | simp[WShape.has,WShape.arms,WShape.armsAll])
  (show (WTm.eq .res (.lit (.bool true))).value [] {args:=args,res:=some (.bool true),after:=args}=some (.bool (true == true)) from w_eq_bool (w_res rfl) w_lit) rfl
theorem B5 {l:OpenLaw} {n:Nat} {q:Program} {loose:List Str} {XP:(Str->Option Value)->Heap->Prop} {YP:World->Heap->Prop} {d:DefRec}
 (hn:l.most=some n) (hdf:d.params.defaults=[])
 (call:∀(w:World) (s₀ s₁:Shared) (mg mb:Str->Option Value) (fa:Addr) (o:Obj) (pm cd doc:Value) (a:Addr) (vs:List Value) (ns:List Int),
  Ground q loose [] XP w s₀ mg mb s₁.heap->YP w s₁.heap->
  s₁.heap.get? fa=some o->o.data=.func (docDef d.name d.params d.body d.scope pm cd doc)->s₁.heap.CodeRec cd d.name->mg d.name=some (.ref fa)->
  s₁.heap.get? a=some {cls:=.type "list",data:=.seq vs.toArray}->IntsAre vs ns->ns.length<=n->s₁.gens= #[]->
  codeAny (model l.prog w) callerA (.call (.ref fa) ⟨[.ref a],[]⟩) (λr s'=>r=.ok (.ret (.bool true))/\OldK s₁.heap s'.heap/\s'.os=s₁.os/\AllBare s'.gens) s₁):
 WalkO q loose XP YP l.row.toRowW d [] (λf vs=>PySem.call f vs):=by
 intro w s₀ s₁ mg mb G Y fa o pm cd doc dV kV ho hd hcd hD hmg hg args vals as hpre hlay hrd hwl hlo
 obtain rfl:dV=.none:=Dflts.none hD hdf
 obtain rfl:kV=.none:=Dflts.noKw hD
 obtain⟨a,vs,ns,rfl,rfl,hobj,hints,hlen⟩:=FH hn hpre hwl
 refine enter_call (codeAny_mono (call w s₀ s₁ mg mb fa o pm cd doc a vs ns G Y ho (fd_plain hd) hcd hmg hobj hints hlen hg) λr s' hq=> ?_)
 obtain⟨rfl,h2,h3,h4⟩:=hq
 exact⟨.inl ⟨.bool true,.bool true,[],rfl,λ_=>rfl,.bool true,FO l _,λ_=>⟨List.Pairwise.nil,λ_ hm=>(nomatch hm)⟩⟩,h2,h3,h4⟩
section
variable {prog : Program} {w : World} {A : Around} {E : Value → Shared → Prop} {s : Shared} {K : Frag}
end
end Att
namespace L2
open PySem PySem.Spec PyProof.Rows
theorem xj:∀{vs:List Value} {ns:List Int},IntsAre vs ns->Vals (ns.map V.int) vs
 | _,_,.nil=>.nil
 | _,_,.cons n t h=>.cons ⟨t,rfl⟩ (xj h)
def DM(H:Hp):Prop:=∀b,H b=none\/∃o xs,H b=some (.frz o (.lst xs))
theorem GL {P:Program} {w:World} {K:PySem.W.Frag} {mg mb:Str->Option Value} {CX:CXT} {k:Nat} {fa a:Addr} {fd:FuncData} {x:Str} {sp:Sp} {s₁:Shared} {vs:List Value} {ns:List Int}
 (KX:K.In s₁.heap) (hns:s₁.heap.Ns mainGlobals mg) (hb:s₁.heap.Ns builtinsNs mb) (hbb:∀x:Str,x≠"__name__" ->mb x=bootBuiltins x) (hlim:s₁.heap.NoLimit) (hseer:s₁.heap.NoSeer) (hg:s₁.gens= #[])
 (ha:s₁.heap.get? a=some {cls:=.type "list",data:=.seq vs.toArray}) (hi:IntsAre vs ns) (hl:ns.length<=sizeLine) (hr:dN k callerA)
 (F:∀base:Heap,K.In base->base.Ns mainGlobals mg->fV P w K mg base CX k fa fd [x] sp) (hbind:∀(s:Shared) (u:Value),BindsTo s fd ⟨[u],[]⟩ [(x,u)])
 (hsp:∀H:Hp,DM H->SqL K H a (ns.map V.int)->sp [.ref a] H (λv _=>v=.bl true) λ_ _ _=>False)
 (hCX:∀H e s',CX [] H s₁ (λ_ _ _=>False) e s'->False):
 codeAny (model P w) callerA (.call (.ref fa) ⟨[.ref a],[]⟩) (λr s'=>r=.ok (.ret (.bool true))/\OldK s₁.heap s'.heap/\s'.os=s₁.os/\AllBare s'.gens) s₁:=by
 have rv:=xj hi
 have lenV:=hi.length
 have core:∀H:Hp,DM H->SqL K H a (ns.map V.int)->HOk P w H s₁.heap->(∀b,H b≠none->b=a)->(H a≠none->K.lookup a=none)->
  codeAny (model P w) callerA (.call (.ref fa) ⟨[.ref a],[]⟩) (λr s'=>r=.ok (.ret (.bool true))/\OldK s₁.heap s'.heap/\s'.os=s₁.os/\AllBare s'.gens) s₁:=by
  intro H hO hS hok hA hK
  have base_of:∀{b:Addr} {o:Obj},s₁.heap.get? b=some o->H b=none->(pB s₁.heap H).get? b=some o:=λe n=>Hu e n
  have noA:∀{b:Addr} {o:Obj} {es:Array DictEntry} {ep:Nat},s₁.heap.get? b=some o->o.data=.dict es ep->H b=none:=λ{b o es ep} e d=>by
   cases q:H b with
   | none=>rfl
   | some u=>
    have e':b=a:=hA b (by rw[q];simp)
    subst e'
    rw[ha] at e;cases e
    have d':Data.seq vs.toArray _=Data.dict es ep:=d
    cases d'
  have nsK:∀{b:Addr} {m:Str->Option Value},s₁.heap.Ns b m->(pB s₁.heap H).Ns b m:=λ{b m} ⟨o,es,ep,e,d,r⟩=>⟨o,es,ep,base_of e (noA e d),d,r⟩
  have hKb:K.In (pB s₁.heap H):=λb o e=>base_of (KX b o e) (by
   cases q:H b with
   | none=>rfl
   | some u=>
    have e':b=a:=hA b (by rw[q];simp)
    subst e'
    rw[hK (by rw[q];simp)] at e;cases e)
  have noM:∀{b:Addr} {o:Obj},s₁.heap.get? b=some o->o.cls=.type "module" ->H b=none:=λ{b o} e d=>by
   cases q:H b with
   | none=>rfl
   | some u=>
    have e':b=a:=hA b (by rw[q];simp)
    subst e'
    rw[ha] at e;cases e
    exact absurd (show Value.type "list" =Value.type "module" from d) (by decide)
  have hN:(pB s₁.heap H).NoSeer:=⟨let ⟨mc,x,y⟩:=hseer.statics;⟨mc,nsK x,y⟩,let ⟨mc,x,y⟩:=hseer.mods;⟨mc,nsK x,y⟩,let ⟨mc,x,y⟩:=hseer.imp;⟨mc,nsK x,y⟩,let ⟨mg',bm,ob,x,y,z,u,v⟩:=hseer.main;⟨mg',bm,ob,nsK x,y,base_of z (noM z u),u,v⟩⟩
  have hM:Mod K mg (pB s₁.heap H):=⟨hKb,nsK hns,⟨mb,nsK hb,hbb⟩,(let ⟨mc,h1,h2⟩:=hlim;⟨mc,nsK h1,h2⟩),hN⟩
  have e0:n9 P w K mg (pB s₁.heap H) callerA [] s₁ H:=⟨rfl,hM,λb o e=>JA e,Nat.le_of_eq (EH _ _),trivial,λb hb=>absurd (show b∈([]:List Addr) from hb) (by simp),hok,.of_eq hg⟩
  refine codeAny_mono ((F _ hKb (nsK hns)).run callerA [] s₁ H ⟨[.ref a],[]⟩ [.ref a] [.ref a] _ _ hr e0 (hbind s₁ (.ref a)) (.cons rfl .nil) (hsp H hO hS)) λr s' h=> ?_
  cases r with
  | error e=>exact(hCX H e s' h).elim
  | ok fl=>
   cases fl with
   | next=>exact False.elim h
   | brk=>exact False.elim h
   | cont=>exact False.elim h
   | ret u=>
    obtain⟨v,H',os,bare,un,hok',r',q⟩:=h
    have q':v=.bl true:=q
    subst q'
    obtain rfl:u=Value.bool true:=r'
    refine⟨rfl,OldK.of_keep λb o e=> ?_,os,bare⟩
    cases q:H b with
    | none=>exact un.keep b o e q (by intro z;exact absurd (show b∈([]:List Addr) from z) (by simp)) (by simp)
    | some u=>
     rcases hO b with z | ⟨ob,xs,z⟩
     ·rw[q] at z;cases z
     ·have z2:=un.frzs b ob _ z
      obtain⟨e1,_⟩:=hok b _ z
      obtain⟨e2,_⟩:=hok' b _ z2
      rw[e] at e1;cases e1
      exact e2
 cases hk:K.lookup a with
 | some o=>
  have e:=KX a o hk
  rw[ha] at e
  cases e
  refine core (λ_=>none) (λ_=>.inl rfl) (.inr ⟨_,vs.toArray,_,hk,rfl,rfl,rfl,by rw[List.size_toArray,lenV];exact hl,by simpa using rv⟩) (λb u z=>by have z':(none:Option HO)=some u:=z;cases z') (λb z=>absurd rfl z) λz=>absurd rfl z
 | none=>
  refine core (λb=>if b=a then some (.frz {cls:=.type "list",data:=.seq vs.toArray} (.lst (ns.map V.int))) else none) (λb=> ?_) (.inl (.inr ⟨{cls:=.type "list",data:=.seq vs.toArray},if_pos rfl⟩)) (λb u z=> ?_) (λb z=> ?_) λ_=>hk
  ·by_cases hb:b=a
   ·exact .inr ⟨_,_,if_pos hb⟩
   ·exact .inl (if_neg hb)
  ·by_cases hb:b=a
   ·have z':=(if_pos hb).symm.trans z
    cases z'
    subst hb
    exact⟨ha,by rw[List.length_map];exact hl,vs,_,rv,ha⟩
   ·have z':=(if_neg hb).symm.trans z
    cases z'
  ·by_cases hb:b=a
   ·exact hb
   ·exact absurd (if_neg hb) z
end L2
namespace L2
open PySem PySem.Spec PyProof.Rows
theorem JU {l:PySem.W.OpenLaw} {n k:Nat} {q:Program} {loose:List Str} {XP:(Str->Option Value)->Heap->Prop} {YP:World->Heap->Prop} {d:DefRec} {K:Params->PySem.W.Frag} {CX:World->CXT} {sp:World->Sp} {x:Str}
 (hn:l.most=some n) (hn2:n<=sizeLine) (hdf:d.params.defaults=[]) (hr:dN k callerA) (hi:importsNone q=true)
 (hY:∀(w:World) (h:Heap),YP w h->(K w.params).In h)
 (F:∀(w:World) (mg:Str->Option Value) (fa:Addr) (h:Heap),(K w.params).In h->h.Ns mainGlobals mg->mg d.name=some (.ref fa)->
  ∃fd:FuncData,(∀(s:Shared) (u:Value),BindsTo s fd ⟨[u],[]⟩ [(x,u)])/\
   ∀base:Heap,(K w.params).In base->base.Ns mainGlobals mg->fV l.prog w (K w.params) mg base (CX w) k fa fd [x] (sp w))
 (hsp:∀(w:World) (H:Hp) (a:Addr) (ns:List Int),ns.length<=n->DM H->SqL (K w.params) H a (ns.map V.int)->sp w [.ref a] H (λv _=>v=.bl true) λ_ _ _=>False)
 (hCX:∀(w:World) (H:Hp) (s:Shared) (e:Value) (s':Shared),CX w [] H s (λ_ _ _=>False) e s'->False):
 PySem.W.WalkO q loose XP YP l.row.toRowW d [] (λf vs=>PySem.call f vs):=by
 refine Att.B5 hn hdf λw s₀ s₁ mg mb fa o pm cd doc a vs ns G Y ho hd hcd hmg hobj hints hlen hg=> ?_
 have KX:=hY w _ Y
 obtain⟨fd,hb,hF⟩:=F w mg fa _ KX G.T.g hmg
 exact GL KX G.T.g G.T.b G.T.builtins G.T.nolimit (G.T.seer hi) hg hobj hints (Nat.le_trans hlen hn2) hr hF hb (λH hO hS=>hsp w H a ns hlen hO hS) λH e s'=>hCX w H s₁ e s'
end L2
namespace L2
open PySem PySem.Spec PyProof.Rows
def inClass(s:Stmt)(j:Nat):Stmt:=match s with
 | .ClassDef _ _ _ body _ _ _ _ _ _ _=>body.getD j (.Pass ⟨0,0,0,0⟩)
 | _=>.Pass ⟨0,0,0,0⟩
def br(s:Stmt):Arguments:=match s with
 | .FunctionDef _ a _ _ _ _ _ _ _ _=>a
 | _=>{posonlyargs:=[],args:=[],vararg:=none,kwonlyargs:=[],kw_defaults:=[],kwarg:=none,defaults:=[]}
def aZ(s:Stmt):List Stmt:=match s with
 | .FunctionDef _ _ b _ _ _ _ _ _ _=>b
 | _=>[]
def aC(s:Stmt):Scope:=match s with
 | .FunctionDef _ _ _ _ _ _ sc _ _ _=>sc
 | _=>{kind:=.function,names:=[],isGenerator:=false,isCoroutine:=false}
abbrev CX0:CXT:=λ_ _ _ _ _ _=>False
abbrev E0:XK:=λ_ _ _=>False
structure Fun(K:PySem.W.Frag)(x qual:Str)(st:Stmt)(f:Addr)(fd:FuncData):Prop where
 ex:∃(oc:Value) (od:Option Addr) (kV doc pm:Value) (an:Option Addr) (cdv ct:Value) (osl:Array (Option Value)),
  fd=PySem.W.fnOf x qual (br st) (aZ st) (aC st) .none kV doc pm an cdv ct/\K.lookup f=some ⟨oc,od,.func fd,osl⟩/\PySem.W.codeIn K cdv qual=true
 kp:PySem.W.keepIn K (.ref f)=true
section
variable {P : Program} {w : World} {K : PySem.W.Frag} {mg : Str → Option Value} {base : Heap}
theorem Fun.ok {x qual:Str} {st:Stmt} {f:Addr} {fd:FuncData} {N ps:List Str} {k:Nat} {sp:Sp} (F:Fun K x qual st f fd) (S:bq N ps (aC st)) (len:∀vs H Q E,sp vs H Q E->vs.length=ps.length)
 (hbody:∀(cdv:Value) (A:Around) (outer:List Env) (s:Shared) (H:Hp) (vs:List V) (Q:VK) (E:XK),dN k (A.deeper (envOfC qual (aC st) s.heap.objs.size f cdv))->sp vs H Q E->
  ∃t,PSs (sx CX0 P w K mg base N qual (aC st) f cdv A outer s H E).nox (aZ st) t/\t {nx:=λ_ H'=>Q .non H',rt:=Q} (start N vs) H):fV P w K mg base CX0 (k+1) f fd ps sp:=by
 obtain⟨oc,od,kV,doc,pm,an,cdv,ct,osl,rfl,lk,hcd⟩:=F.ex
 refine Ik lk hcd S len λA outer s H vs Q E hr hsp=> ?_
 obtain⟨t,h,q⟩:=hbody cdv A outer s H vs Q E hr hsp
 exact⟨t,h.nox,q⟩
theorem Fun.binds {x qual:Str} {st:Stmt} {f:Addr} {fd:FuncData} {ps:List Str} (F:Fun K x qual st f fd)
 (h:∀(kV doc pm:Value) (an:Option Addr) (cdv ct:Value) (us:List Value),us.length=ps.length->bindArgs (PySem.W.fnOf x qual (br st) (aZ st) (aC st) .none kV doc pm an cdv ct) ⟨us,[]⟩=pure (ps.zip us)):Binds K fd ps []:=by
 obtain⟨oc,od,kV,doc,pm,an,cdv,ct,osl,rfl,lk,hcd⟩:=F.ex
 exact .all (h kV doc pm an cdv ct)
theorem bG {x qual:Str} {st:Stmt} {f:Addr} {oc:Value} {od an:Option Addr} {osl:Array (Option Value)} {kV doc pm cdv ct:Value} (l:K.lookup f=some ⟨oc,od,.func (PySem.W.fnOf x qual (br st) (aZ st) (aC st) .none kV doc pm an cdv ct),osl⟩)
 (c:PySem.W.codeIn K cdv qual=true) (k:PySem.W.keepIn K (.ref f)=true):Fun K x qual st f (PySem.W.fnOf x qual (br st) (aZ st) (aC st) .none kV doc pm an cdv ct):=⟨⟨oc,od,kV,doc,pm,an,cdv,ct,osl,rfl,l,c⟩,k⟩
end
section
variable {X : Cx}
theorem pv (i:Nat) {x:Str} {pos:Pos} (hN:X.N[i]? =some x:=by rfl) (hv:Vis X.env.scope x:=by first | exact Or.inl rfl | exact Or.inr (Or.inl rfl) | exact Or.inr (Or.inr rfl)) (hd:(x == ("__debug__" :Str))=false:=by decide)
 (hcd:(x == ("__classdict__" :Str))=false:=by decide):PE X (.Name x pos) (GP i):=KP hN hv hd hcd
end
theorem uI{A B:Prop}(h:B):if false=true then A else B:=by
 rw[if_neg Bool.false_ne_true]
 exact h
theorem uw{A B:Prop}(h:A):if true=true then A else B:=by
 rw[if_pos rfl]
 exact h
def bC(H H':Hp):Prop:=∀b o,H b=some o->H' b=some o
theorem bC.refl(H:Hp):bC H H:=λ_ _ h=>h
theorem bC.trans{H H1 H2:Hp}(a:bC H H1)(b:bC H1 H2):bC H H2:=λc o h=>b c o (a c o h)
theorem bC.free{H H':Hp}(e:bC H H'){l:Addr}(h:H' l=Option.none):H l=Option.none:=by
 cases q:H l with
 | none=>rfl
 | some o=>
  rw[e l o q] at h
  cases h
theorem bC.seq{K:PySem.W.Frag}{H H':Hp}{a:Addr}{xs:List V}(e:bC H H')(h:SqL K H a xs):SqL K H' a xs:=by
 rcases h with(h | ⟨o,h⟩) | h
 ·exact .inl (.inl (e _ _ h))
 ·exact .inl (.inr ⟨o,e _ _ h⟩)
 ·exact .inr h
end L2
set_option maxRecDepth 100000
set_option maxHeartbeats 4000000
namespace L2
open PySem PySem.Spec PyProof.Rows
def ey(env:Env):List (Str×NameKind)->List (Str×Addr)->List (Str×Addr)
 | [],cs=>cs
 | (n,k)::r,cs=>if k == .free then ey env r ((n,(env.cells.lookup n).getD 0)::cs) else ey env r cs
theorem vP{env:Env}:∀(names:List (Str×NameKind)) (cs:List (Str×Addr)),(∀n,(n,NameKind.free)∈names->∃c,env.cells.lookup n=some c)->
 (forIn names cs λ(x:Str×NameKind) (r:List (Str×Addr))=>(if (x.2 == NameKind.free)=true then do
  let a <- cellOf env x.1
  pure (ForInStep.yield ((x.1,a)::r)) else pure (ForInStep.yield r):Sem (ForInStep (List (Str×Addr)))))=pure (ey env names cs)
 | [],cs,_=>rfl
 | (n,k)::r,cs,h=>by
  rw[List.forIn_cons]
  by_cases hk:(k == NameKind.free)=true
  ·have hk':k=.free:=by simpa using hk
   subst hk'
   obtain⟨c,hc⟩:=h n List.mem_cons_self
   simp only[hk,if_true,ey,cellOf,hc,pure_bind,Option.getD_some]
   exact vP r _ λm hm=>h m (List.mem_cons_of_mem _ hm)
  ·simp only[hk,if_false,ey,pure_bind]
   exact vP r cs λm hm=>h m (List.mem_cons_of_mem _ hm)
theorem yd{scope:Scope}{env:Env}(h:∀n,(n,NameKind.free)∈scope.names->∃c,env.cells.lookup n=some c):closureFor scope env=pure (ey env scope.names []):=by
 have:=vP scope.names [] h
 simp only[closureFor]
 rw[<- this]
 exact bind_pure _
theorem qJ{env:Env}:∀(names:List (Str×NameKind)) (cs:List (Str×Addr)),(∀n,(n,NameKind.free)∈names->∃c,env.cells.lookup n=some c)->
 (∀x c,cs.lookup x=some c->env.cells.lookup x=some c)->∀x c,(ey env names cs).lookup x=some c->env.cells.lookup x=some c
 | [],cs,_,h,x,c,e=>h x c e
 | (n,k)::r,cs,hf,h,x,c,e=>by
  unfold ey at e
  by_cases hk:(k == NameKind.free)=true
  ·rw[if_pos hk] at e
   have hk':k=.free:=by simpa using hk
   subst hk'
   refine qJ r _ (λm hm=>hf m (List.mem_cons_of_mem _ hm)) (λy d q=> ?_) x c e
   obtain⟨c',hc'⟩:=hf n List.mem_cons_self
   rw[List.lookup_cons] at q
   split at q
   ·rename_i hy
    have:y=n:=by simpa using hy
    subst this
    rw[hc',Option.getD_some] at q
    rw[hc'];exact q
   ·exact h y d q
  ·rw[if_neg hk] at e
   exact qJ r cs (λm hm=>hf m (List.mem_cons_of_mem _ hm)) h x c e
theorem pq{env:Env}:∀(names:List (Str×NameKind)) (cs:List (Str×Addr)) (x:Str),(∃c,cs.lookup x=some c)->∃c,(ey env names cs).lookup x=some c
 | [],cs,_,h=>h
 | (n,k)::r,cs,x,h=>by
  unfold ey
  by_cases hk:(k == NameKind.free)=true
  ·rw[if_pos hk]
   refine pq r _ x ?_
   rw[List.lookup_cons]
   split
   ·exact⟨_,rfl⟩
   ·exact h
  ·rw[if_neg hk]
   exact pq r cs x h
theorem nD{env:Env}:∀(names:List (Str×NameKind)) (cs:List (Str×Addr)) (x:Str),(x,NameKind.free)∈names->∃c,(ey env names cs).lookup x=some c
 | (n,k)::r,cs,x,h=>by
  unfold ey
  rcases List.mem_cons.mp h with e | h
  ·cases e
   rw[if_pos (by rfl)]
   refine pq r _ n ?_
   exact⟨_,by rw[List.lookup_cons];simp;rfl⟩
  ·by_cases hk:(k == NameKind.free)=true
   ·rw[if_pos hk];exact nD r _ x h
   ·rw[if_neg hk];exact nD r cs x h
theorem fA:∀(names:List (Str×NameKind)) (n:Nat) (acc:List (Str×Addr)),cellsFrom n names acc=cellsFrom n names []++acc
 | [],_,_=>rfl
 | (x,k)::r,n,acc=>by
  unfold cellsFrom
  split
  ·rw[fA r (n+1) ((x,n)::acc),fA r (n+1) [(x,n)],List.append_assoc];rfl
  ·exact fA r n acc
theorem mY:∀(names:List (Str×NameKind)) (n:Nat) {x:Str} {c:Addr},(x,c)∈cellsFrom n names []->(x,NameKind.cell)∈names
 | [],_,_,_,h=>nomatch h
 | (y,k)::r,n,x,c,h=>by
  unfold cellsFrom at h
  split at h
  ·rename_i hk
   have hk':k=.cell:=by simpa using hk
   rw[fA] at h
   rcases List.mem_append.mp h with q | q
   ·exact List.mem_cons_of_mem _ (mY r _ q)
   ·cases List.mem_singleton.mp q
    rw[hk']
    exact List.mem_cons_self
  ·exact List.mem_cons_of_mem _ (mY r _ h)
theorem D5{l m:List (Str×Addr)}{x:Str}{c:Addr}(h:(l++m).lookup x=some c):l.lookup x=some c\/(l.lookup x=none/\m.lookup x=some c):=by
 rw[List.lookup_append] at h
 cases e:l.lookup x with
 | none=>rw[e] at h;exact .inr ⟨rfl,h⟩
 | some d=>rw[e] at h;exact .inl h
theorem sE{l m:List (Str×Addr)}{x:Str}(h:l.lookup x=none):(l++m).lookup x=m.lookup x:=by rw[List.lookup_append,h];rfl
theorem Ba{l m:List (Str×Addr)}{x:Str}(h:∃c,m.lookup x=some c):∃c,(l++m).lookup x=some c:=by
 cases e:l.lookup x with
 | none=>rw[sE e];exact h
 | some c=>exact⟨c,by rw[List.lookup_append,e];rfl⟩
theorem FD(h:Heap)(names:List (Str×NameKind)):CellsOk (pushCells (h.push {cls:=.type "dict",data:=.dict #[]}) names) (h.objs.size+1) (cellsFrom (h.objs.size+1) names []):=by
 have:=cellsFrom_ok names (h.push {cls:=.type "dict",data:=.dict #[]}) (h.objs.size+1) [] ⟨λ_ _ hm=>(nomatch hm),List.Pairwise.nil⟩ (by rw[Heap.size_push];exact Nat.le_refl _)
 rwa [Heap.size_push] at this
theorem Cb {M:Model} {A:Around} {E:Value->Shared->Prop} {s:Shared} {scope:Scope} {globals:Addr} {closure:List (Str×Addr)} {qual:Str} {func:Option Addr} {code:Value} {outer:Env} {builtins:Addr} {Q:Env->Shared->Prop}
 (hQ:Q {scope:=scope,locals:=s.heap.objs.size,globals:=globals,cells:=cellsFrom (s.heap.objs.size+1) scope.names closure,qual:=qual,func:=func,code:=outer.code,frame:=outer.frame,builtins:=outer.builtins} {s with heap:=pushCells (s.heap.push {cls:=.type "dict",data:=.dict #[]}) scope.names}):
 wpAny M A (newFunctionEnv scope globals closure [] qual func code (some outer) builtins) Q E s:=by
 simp only[newFunctionEnv,Option.isSome_some,if_true]
 refine wpAny_bind (wpAny_alloc ?_)
 refine wpAny_bind (wpAny_layCells _ (λname kind cells=>by cases hkc:kind == NameKind.cell <;> simp[hkc]) _ _ _ _ ?_)
 rw[show ({s with heap:=s.heap.push {cls:=.type "dict",data:=.dict #[]}}:Shared).heap.objs.size=s.heap.objs.size+1 from Heap.size_push ..]
 refine wpAny_bind ?_
 rw[List.forIn_nil]
 exact wpAny_pure (wpAny_pure hQ)
def cxC(X:Cx)(scope:Scope)(N':List Str)(fp:List Addr)(s:Shared)(H:Hp):Cx where
 prog:=X.prog
 w:=X.w
 K:=X.K
 mg:=X.mg
 base:=X.base
 A:=X.A
 N:=N'
 s₀:=s
 H₀:=H
 env:=compEnvC scope (cellsFrom (s.heap.objs.size+1) scope.names (ey X.env scope.names [])) s.heap.objs.size X.env
 outer:=X.stack
 stack:=X.stack
 ex:=fp
 calm:=X.calm
 fn:=λx=>scope.names.lookup x == some .cell
 pn:=[]
 xe:=λ_ _=>False
def mP(X:Cx)(scope:Scope):List Str->List Nat->Prop
 | [],[]=>True
 | x::xs,j::js=>X.N[j]? =some x/\(X.env.scope.names.lookup x=some .cell\/X.env.scope.names.lookup x=some .free)/\scope.names.lookup x=some .free/\mP X scope xs js
 | _,_=>False
theorem mP.get{X:Cx}{scope:Scope}:∀{xs:List Str} {js:List Nat} {i:Nat} {x:Str},mP X scope xs js->xs[i]? =some x->
 ∃j,js[i]? =some j/\X.N[j]? =some x/\(X.env.scope.names.lookup x=some .cell\/X.env.scope.names.lookup x=some .free)/\scope.names.lookup x=some .free
 | [],_,_,_,_,e=>by simp at e
 | _::_,[],_,_,h,_=>h.elim
 | y::ys,j::js,0,x,h,e=>by
  simp at e;subst e
  exact⟨j,rfl,h.1,h.2.1,h.2.2.1⟩
 | y::ys,j::js,i+1,x,h,e=>by
  obtain⟨j',e1,r⟩:=mP.get (i:=i) (x:=x) h.2.2.2 (by simpa using e)
  exact⟨j',by simpa using e1,r⟩
theorem mP.length{X:Cx}{scope:Scope}:∀{xs:List Str} {js:List Nat},mP X scope xs js->xs.length=js.length
 | [],[],_=>rfl
 | [],_::_,h=>h.elim
 | _::_,[],h=>h.elim
 | _::_,_::_,h=>by rw[List.length_cons,List.length_cons,mP.length h.2.2.2]
def nM(m:Nat)(caps:List Nat)(σ:St):St:=List.replicate m none++caps.map λi=>(σ[i]?).getD none
theorem lookup_mem{α β:Type}[BEq α][LawfulBEq α]:∀{l:List (α×β)} {x:α} {b:β},l.lookup x=some b->(x,b)∈l
 | [],_,_,h=>by simp at h
 | (a,c)::r,x,b,h=>by
  rw[List.lookup_cons] at h
  split at h
  ·rename_i q
   have:x=a:=by simpa using q
   subst this
   cases h
   exact List.mem_cons_self
  ·exact List.mem_cons_of_mem _ (lookup_mem h)
section
variable {X : Cx}
theorem g9{scope:Scope}{env:Env}:∀{names:List (Str×NameKind)} {x:Str} {k:NameKind},(names.map λ(n,k)=>if (k == NameKind.free&&env.scope.kind == .function&&env.kindOf n == some .cell) then (n,NameKind.cell) else (n,k)).lookup x=some k->
 ∃k',names.lookup x=some k'/\(k'=k\/(k'=.free/\k=.cell))
 | [],_,_,h=>by simp at h
 | (n,k0)::r,x,k,h=>by
  have h':List.lookup x ((if (k0 == NameKind.free&&env.scope.kind == .function&&env.kindOf n == some .cell)=true then (n,NameKind.cell) else (n,k0))::r.map _)=some k:=h
  by_cases hc:(k0 == NameKind.free&&env.scope.kind == .function&&env.kindOf n == some .cell)=true
  ·rw[if_pos hc,List.lookup_cons] at h'
   rw[List.lookup_cons]
   split at h'
   ·rename_i q
    cases h'
    have hk:k0=.free:=by simp only[Bool.and_eq_true] at hc;simpa using hc.1.1
    exact⟨k0,rfl,.inr ⟨hk,rfl⟩⟩
   ·rename_i q
    exact g9 (scope:=scope) h'
  ·rw[if_neg hc,List.lookup_cons] at h'
   rw[List.lookup_cons]
   split at h'
   ·rename_i q
    cases h'
    exact⟨k0,rfl,.inl rfl⟩
   ·rename_i q
    exact g9 (scope:=scope) h'
structure oy(X:Cx)(scope:Scope)(own cap:List Str)(caps:List Nat):Prop where
 kind:scope.kind=.function
 cell:∀y∈scope.names,y.2=.cell->scope.names.lookup y.1=some .cell
 nm:∀y∈scope.names,y.2=.local->scope.names.lookup y.1=some .local
 fr:∀y∈scope.names,y.2=.free->y.1∈cap
 caps:mP X scope cap caps
 nd:(own++cap).Nodup
theorem oy.out{X:Cx}{scope:Scope}{own cap:List Str}{caps:List Nat}(S:oy X scope own cap caps){n:Str}(h:(n,NameKind.free)∈scope.names):X.env.scope.names.lookup n=some .cell\/X.env.scope.names.lookup n=some .free:=by
 obtain⟨i,hi,e⟩:=List.getElem_of_mem (S.fr _ h rfl)
 obtain⟨_,_,_,k,_⟩:=S.caps.get (i:=i) (x:=n) (by rw[List.getElem?_eq_getElem hi,e])
 exact k
theorem Gd {scope:Scope} {own cap:List Str} {caps:List Nat} {pins:List (Addr×Obj)} {σ:St} {H:Hp} {s:Shared} {fp:List Addr} {h1:Heap} {tk:Nat} (Sc:oy X scope own cap caps) (I:Inv X pins σ H s)
 (hfp:∀b∈fp,lP X pins H b) (hob:∀b∈fp,∃o,s.heap.get? b=some o) (hns:h1.Ns s.heap.objs.size λ_=>none)
 (hk:∀b o,s.heap.get? b=some o->h1.get? b=some o) (hnew:CellsOk h1 (s.heap.objs.size+1) (cellsFrom (s.heap.objs.size+1) scope.names [])):
 Inv (cxC X scope (own++cap) fp s H) [] (nM own.length caps σ) H {s with heap:=h1,toks:=tk}:=by
 have hcl:∀n,(n,NameKind.free)∈scope.names->∃c,X.env.cells.lookup n=some c:=λn hn=>I.ok.has n (Sc.out hn)
 have sub:∀x c,(ey X.env scope.names []).lookup x=some c->X.env.cells.lookup x=some c:=qJ scope.names [] hcl (λx c e=>by simp at e)
 have fresh:H s.heap.objs.size=none:=I.hok.fresh (Nat.le_refl _)
 have two:∀x c,(cellsFrom (s.heap.objs.size+1) scope.names (ey X.env scope.names [])).lookup x=some c->((x,c)∈cellsFrom (s.heap.objs.size+1) scope.names []/\s.heap.objs.size<c)\/((cellsFrom (s.heap.objs.size+1) scope.names []).lookup x=none/\X.env.cells.lookup x=some c/\c<s.heap.objs.size):=λx c e=>by
  rw[fA] at e
  rcases D5 e with q | ⟨q0,q⟩
  ·exact .inl ⟨mem_of_lookup q,(hnew.empty x c (mem_of_lookup q)).2⟩
  ·have q':=sub x c q
   obtain⟨v,o,ho,_⟩:=I.cell x c q'
   exact .inr ⟨q0,q',Heap.lt_size ho⟩
 have notOwn:∀x,scope.names.lookup x=some .free->(cellsFrom (s.heap.objs.size+1) scope.names []).lookup x=none:=λx hx=>by
  cases e:(cellsFrom (s.heap.objs.size+1) scope.names []).lookup x with
  | none=>rfl
  | some c=>
   have:=Sc.cell _ (mY _ _ (mem_of_lookup e)) rfl
   dsimp only at this
   rw[hx] at this
   cases this
 refine⟨⟨I.ok.mod,Sc.kind,I.ok.glob,I.ok.blt,Nat.le_refl _,λx y c e1 e2=> ?_,λx hx=> ?_,λx c h e=> ?_,I.ok.hd,I.ok.frames,.inl rfl,λb hb=>⟨?_,λx c e=> ?_⟩,I.bs,Nat.le_trans I.ok.bsz I.sz,λb o e hb=> ?_,λb hb hs=> ?_,I.stack,I.stkFree⟩,
  rfl,I.bare,Un.kept hk,⟨_,hns,λi x v e1 e2 e3=> ?_⟩,λx c e=> ?_,fresh,λx c e=> ?_,λp hp=>absurd (show p∈([]:List (Addr×Obj)) from hp) (by simp),I.hok.kept hk, ?_⟩
 ·rcases two x c e1 with⟨p1,p2⟩ | ⟨_,p1,p2⟩ <;> rcases two y c e2 with⟨q1,q2⟩ | ⟨_,q1,q2⟩
  ·exact name_of_addr hnew.apart p1 q1
  ·exact absurd p2 (Nat.not_lt.mpr (Nat.le_of_lt q2))
  ·exact absurd q2 (Nat.not_lt.mpr (Nat.le_of_lt p2))
  ·exact I.ok.inj x y c p1 q1
 ·have hx':(relabel scope X.env).names.lookup x=some .cell\/(relabel scope X.env).names.lookup x=some .free:=hx
  have:(x,NameKind.free)∈scope.names\/scope.names.lookup x=some .cell:=by
   rcases hx' with q | q
   ·obtain⟨k',e1,e2⟩:=g9 (scope:=scope) q
    rcases e2 with rfl | ⟨rfl,_⟩
    ·exact .inr e1
    ·exact .inl (lookup_mem e1)
   ·obtain⟨k',e1,e2⟩:=g9 (scope:=scope) q
    rcases e2 with rfl | ⟨rfl,z⟩
    ·exact .inl (lookup_mem e1)
    ·cases z
  rcases this with q | q
  ·show ∃c,(cellsFrom (s.heap.objs.size+1) scope.names (ey X.env scope.names [])).lookup x=some c
   rw[fA]
   exact Ba (nD scope.names [] x q)
  ·exact Option.isSome_iff_exists.mp (PySem.W.cellsFrom_some scope.names _ _ (.inl q))
 ·have h':scope.names.lookup x=some .cell:=by
   have:(scope.names.lookup x == some NameKind.cell)=true:=h
   simpa using this
  rcases two x c e with⟨_,p⟩ | ⟨p,_⟩
  ·exact Nat.le_of_lt p
  ·have:=PySem.W.cellsFrom_some scope.names (s.heap.objs.size+1) [] (.inl h')
   rw[p] at this
   cases this
 ·obtain⟨o,ho⟩:=hob b hb
  exact Nat.ne_of_lt (Heap.lt_size ho)
 ·rcases two x c e with⟨_,p⟩ | ⟨_,p,_⟩
  ·obtain⟨o,ho⟩:=hob b hb
   exact λz=>absurd (Heap.lt_size ho) (Nat.not_lt.mpr (Nat.le_of_lt (z▸p)))
  ·exact(hfp b hb).2.2.2.2.1 x c p
 ·rcases(hfp b hb).2.2.2.1 with z | z
  ·exact I.ok.noex b o e z
  ·exact absurd (Nat.lt_of_lt_of_le (Heap.lt_size e) (Nat.le_trans I.ok.bsz z)) (Nat.lt_irrefl _)
 ·rcases List.mem_cons.mp (I.stkSub b hs) with z | z
  ·exact(hfp b hb).2.1 z
  ·exact(hfp b hb).2.2.1 z
 ·have e1':(own++cap)[i]? =some x:=e1
  have hi:own.length<=i:=by
   by_cases q:i<own.length
   ·unfold nM at e2
    rw[List.getElem?_append_left (by simpa using q),List.getElem?_replicate] at e2
    split at e2 <;> cases e2
   ·omega
  rw[List.getElem?_append_right hi] at e1'
  obtain⟨j,hj,hN,hkd,hfr⟩:=Sc.caps.get e1'
  unfold nM at e2
  rw[List.getElem?_append_right (by simpa using hi)] at e2
  simp only[List.length_replicate,List.getElem?_map,hj,Option.map_some,Option.some.injEq] at e2
  have e2':σ[j]? =some (some v):=by
   cases q:σ[j]? with
   | none=>rw[q] at e2;simp at e2
   | some ov=>rw[q] at e2;simp at e2;rw[e2]
  obtain⟨m,hm,hl⟩:=I.loc
  obtain⟨u,ru,lk⟩:=hl j x v hN e2' (hkd.elim (λz=>.inr (.inl z)) λz=>.inr (.inr z))
  refine⟨u,ru,.inr ⟨?_, ?_⟩⟩
  ·rcases e3 with q | q | q
   ·obtain⟨k',w1,w2⟩:=g9 (scope:=scope) (show (relabel scope X.env).names.lookup x=some .local from q)
    rw[hfr] at w1
    cases w1
    rcases w2 with w | ⟨_,w⟩ <;> cases w
   ·exact .inl q
   ·exact .inr q
  ·rcases lk with⟨z,_⟩ | ⟨_,c,ec,hc⟩
   ·have z':X.env.scope.names.lookup x=some .local:=z
    rcases hkd with q | q <;> (rw[q] at z';cases z')
   ·obtain⟨c',hc'⟩:=nD (env:=X.env) scope.names [] x (lookup_mem hfr)
    have:=sub x c' hc'
    rw[ec] at this
    cases this
    obtain⟨oc,h1',h2'⟩:=hc
    refine⟨c, ?_,oc,hk _ _ h1',h2'⟩
    show (cellsFrom (s.heap.objs.size+1) scope.names (ey X.env scope.names [])).lookup x=some c
    rw[fA,sE (notOwn x hfr)]
    exact hc'
 ·rcases two x c e with⟨p,_⟩ | ⟨_,p,_⟩
  ·exact⟨none,(hnew.empty x c p).1⟩
  ·obtain⟨v,oc,h1',h2'⟩:=I.cell x c p
   exact⟨v,oc,hk _ _ h1',h2'⟩
 ·rcases two x c e with⟨_,p⟩ | ⟨_,p,_⟩
  ·exact I.hok.fresh (Nat.le_of_lt p)
  ·exact I.freeC x c p
 ·unfold nM
  have:=Sc.caps.length
  simp[cxC,this]
theorem Eh {prog:Program} {w:World} {A:Around} {R:Result->Shared->Prop} {s:Shared} {elt target iter:Expr} {ifs:List Expr} {scope:Scope} {pos:Pos} {it acc:Value} {env:Env} (I:Nat->Shared->Prop)
 (turn:∀n s,I n s->wpAny (model prog w) A (pyNext it) (λr s₁=>match r with
  | none=>R (.ok .next) s₁
  | some v=>wpAny (model prog w) A (letOwnedTupleGo target it v) (λ_ s₁'=>wpAny (model prog w) A (assign target env v) (λ_ s₂=>
   wpAny (model prog w) A (forIn ifs true λc r=>if r=true then do let ok <- isTrue c env (eval c env);pure (ForInStep.yield ok) else pure (ForInStep.yield r)) (λok s₃=>
    if ok=true then wpAny (model prog w) A (eval elt env) (λx s₄=>
     wpAny (model prog w) A (call (.builtin "list.append") [acc,x]) (λ_ s₅=>∃m,m<n/\I m s₅) (λ_ _=>False) s₄) (λ_ _=>False) s₃
    else ∃m,m<n/\I m s₃) (λ_ _=>False) s₂) (λ_ _=>False) s₁') (λ_ _=>False) s₁) (λ_ _=>False) s)
 (n:Nat) (h:I n s):
 codeAny (model prog w) A (.compLoop (.ListComp elt [⟨target,iter,ifs,0⟩] scope pos) 0 it acc env) R s:=by
 refine codeAny_loop rfl I (λn s hI=> ?_) n h
 show wpAny _ A ((compTurn (.ListComp elt [⟨target,iter,ifs,0⟩] scope pos) 0 it acc env).onRaise (λx=>do noteFrame x env;theTreesLotGoes x)) _ _ s
 refine wpAny_noted ?_
 rw[compTurn_list]
 refine wpAny_bind (wpAny_standAt (wpAny_bind (wpAny_mono (turn n s hI) (λr s₁ h₁=> ?_) λ_ _ h'=>h'.elim)))
 cases r with
 | none=>exact wpAny_pure h₁
 | some v=>
  refine wpAny_bind (wpAny_mono h₁ (λ_ s₁' h₁'=>wpAny_bind (wpAny_mono h₁' (λ_ s₂ h₂=>wpAny_bind (wpAny_mono h₂ (λok s₃ h₃=> ?_) λ_ _ h'=>h'.elim)) λ_ _ h'=>h'.elim)) λ_ _ h'=>h'.elim)
  cases ok with
  | false=>exact wpAny_pure ⟨rfl,h₃⟩
  | true=>
   exact wpAny_bind (wpAny_bind (wpAny_mono h₃ (λx s₄ h₄=>wpAny_bind (wpAny_mono h₄ (λ_ s₅ h₅=>wpAny_pure (wpAny_pure ⟨rfl,h₅⟩)) λ_ _ h'=>h'.elim)) λ_ _ h'=>h'.elim))
def PTs(X:Cx)(ifs:List Expr)(t:TT):Prop:=
 ∀(pins:List (Addr×Obj)) (s:Shared) (σ:St) (H:Hp) (Q:Bool->Hp->Prop),Inv X pins σ H s->t σ H Q->
  wpAny (model X.prog X.w) X.A (forIn ifs true λc r=>if r=true then do let ok <- isTrue c X.env (eval c X.env);pure (ForInStep.yield ok) else pure (ForInStep.yield r)) (TP X pins σ Q) X.xe s
def Iq:TT:=λ_ H Q=>Q true H
theorem cD:PTs X [] Iq:=λ_ _ _ H _ I h=>wpAny_tests_nil ⟨H,I,h⟩
theorem nY{c:Expr}{t:TT}(h:PT X c t):PTs X [c] t:=λpins s σ H Q I q=>wpAny_tests_one (h pins s σ H Q I q)
def vq(m:Nat)(caps:List Nat)(wi:TI)(g:TG)(tc:TT)(te:TE):TE:=λσ H Q=>wi σ H λJ H1=>∀p,H1 p=none->
 ∃W:Nat->Nat->List V->St->Hp->Prop,(∃k,W 0 k [] (nM m caps σ) (upd H1 p (.lst [])))/\∀i k acc σ' H',W i k acc σ' H'->
  (J.stop i H'/\H' p=some (.lst acc)/\Q (.ref p) H')\/(J.go i H'/\∀x H2,J.yld i H' x H2->g x σ' H2 λσ2 H3=>tc σ2 H3 λb H4=>if b=true then
   te σ2 H4 λy H5=>H5 p=some (.lst acc)/\acc.length<sizeLine/\∃k',k'<k/\W (i+1) k' (acc++[y]) σ2 (upd H5 p (.lst (acc++[y])))
   else ∃k',k'<k/\W (i+1) k' acc σ2 H4)
theorem Hs{scope:Scope}{N':List Str}{fp:List Addr}{pins pins':List (Addr×Obj)}{σ σ':St}{H3 H':Hp}{s3 s':Shared}(I3:Inv X pins σ H3 s3)(I':Inv (cxC X scope N' fp s3 H3) pins' σ' H' s')(hfp:∀b∈fp,lP X pins H3 b):Inv X pins σ H' s':=
 I3.call' (ch:=fp) I'.os I'.base I'.hok I'.bare λb hb=>⟨(hfp b hb).2.2.2.1,(hfp b hb).2.1,(hfp b hb).2.2.2.2.1,(hfp b hb).2.2.2.2.2⟩
theorem vx {target iter elt:Expr} {ifs:List Expr} {scope:Scope} {pos:Pos} {own cap:List Str} {caps:List Nat} {g:TG} {tc:TT} {te:TE} {pins:List (Addr×Obj)} {σ:St} {H2:Hp} {s₂:Shared} {it:Addr} {fp:List Addr} {tn:Nat->Heap->Prop} {J:It} {E:Value->Shared->Prop}
 {RR:Value->Addr->Result->Shared->Prop} {Q:VK}
 (hc:X.calm=true) (Sc:oy X scope own cap caps)
 (hg:∀s H,PG (cxC X scope (own++cap) fp s H) target g) (ht:∀s H,PTs (cxC X scope (own++cap) fp s H) ifs tc) (he:∀s H,PE (cxC X scope (own++cap) fp s H) elt te)
 (I:Inv X pins σ H2 s₂) (T:Turn X.prog X.w X.K target J fp it tn) (t0:tn 0 s₂.heap) (hfp:∀b∈fp,lP X pins H2 b)
 (hQ:∀p,H2 p=none->∃W:Nat->Nat->List V->St->Hp->Prop,(∃k,W 0 k [] (nM own.length caps σ) (upd H2 p (.lst [])))/\∀i k acc σ' H',W i k acc σ' H'->
  (J.stop i H'/\H' p=some (.lst acc)/\Q (.ref p) H')\/(J.go i H'/\∀x H2,J.yld i H' x H2->g x σ' H2 λσ2 H3=>tc σ2 H3 λb H4=>if b=true then
   te σ2 H4 λy H5=>H5 p=some (.lst acc)/\acc.length<sizeLine/\∃k',k'<k/\W (i+1) k' (acc++[y]) σ2 (upd H5 p (.lst (acc++[y])))
   else ∃k',k'<k/\W (i+1) k' acc σ2 H4))
 (hRR:∀C p H' s' m,X.s₀.heap.objs.size<=C->C≠X.env.locals->(∀x c,X.env.cells.lookup x=some c->c≠C)->(∀q∈X.pn++pins,q.1≠C)->H' C=none->s'.heap.Ns C m->Inv X pins σ H' s'->Q (.ref p) H'->RR (.ref p) C (.ok .next) s'):
 wpAny (model X.prog X.w) X.A (newList []) (λacc s₃=>wpAny (model X.prog X.w) X.A (newFunctionEnv scope X.env.globals (ey X.env scope.names []) [] X.env.qual none .none (some X.env)) (λcenv s₄=>
  codeAny (model X.prog X.w) X.A (.compStart (.ListComp elt [⟨target,iter,ifs,0⟩] scope pos) 0 (.ref it) acc {cenv with scope:=relabel scope X.env}) (RR acc cenv.locals) s₄) E s₃) E s₂:=by
 refine wpAny_newObj_type (Cb ?_)
 dsimp only
 have hD0:H2 s₂.heap.objs.size=none:=I.hok.fresh (Nat.le_refl _)
 have I3:Inv X pins σ (upd H2 s₂.heap.objs.size (.lst [])) {s₂ with heap:=s₂.heap.push {cls:=.type "list",dict:=none,data:=.seq ([]:List Value).toArray}}:=I.lnew (t':=s₂.toks) .nil (Nat.zero_le _)
 obtain⟨W,⟨k0,w0⟩,turn⟩:=hQ s₂.heap.objs.size hD0
 have old:∀b o,s₂.heap.get? b=some o->(s₂.heap.push {cls:=.type "list",dict:=none,data:=.seq ([]:List Value).toArray}).get? b=some o:=λb o e=>Heap.get?_push_of_some _ e
 have hbD:∀b∈fp,b≠s₂.heap.objs.size:=λb hb=>by
  obtain⟨o,ho,_⟩:=T.obj 0 s₂.heap t0 b hb
  exact Nat.ne_of_lt (Heap.lt_size ho)
 have hfp3:∀b∈fp,lP X pins (upd H2 s₂.heap.objs.size (.lst [])) b:=λb hb=>⟨by rw[aS (hbD b hb)];exact(hfp b hb).1,(hfp b hb).2⟩
 have hob:∀b∈fp,∃o,(s₂.heap.push {cls:=.type "list",dict:=none,data:=.seq ([]:List Value).toArray}).get? b=some o:=λb hb=>by
  obtain⟨o,ho,_⟩:=T.obj 0 s₂.heap t0 b hb
  exact⟨o,old b o ho⟩
 generalize hh₁:pushCells ((s₂.heap.push {cls:=.type "list",dict:=none,data:=.seq ([]:List Value).toArray}).push {cls:=.type "dict",data:=.dict #[]}) scope.names=h₁
 have hns₁:h₁.Ns (s₂.heap.push {cls:=.type "list",dict:=none,data:=.seq ([]:List Value).toArray}).objs.size λ_=>none:=by rw[<- hh₁];exact(Heap.Ns.new _ (.type "dict")).keeps (pushCells_keeps _ _)
 have hk:∀b o,(s₂.heap.push {cls:=.type "list",dict:=none,data:=.seq ([]:List Value).toArray}).get? b=some o->h₁.get? b=some o:=λb o e=>by rw[<- hh₁];exact pushCells_keeps _ _ b o (Heap.get?_push_of_some _ e)
 have hnew:CellsOk h₁ ((s₂.heap.push {cls:=.type "list",dict:=none,data:=.seq ([]:List Value).toArray}).objs.size+1) (cellsFrom ((s₂.heap.push {cls:=.type "list",dict:=none,data:=.seq ([]:List Value).toArray}).objs.size+1) scope.names []):=by rw[<- hh₁];exact FD _ _
 clear hh₁
 have st1:tn 0 h₁:=T.keep 0 _ _ t0 λb hb o e=>hk b o (old b o e)
 generalize hs3:({s₂ with heap:=s₂.heap.push {cls:=.type "list",dict:=none,data:=.seq ([]:List Value).toArray}}:Shared)=s3 at I3
 have hh3:s3.heap=s₂.heap.push {cls:=.type "list",dict:=none,data:=.seq ([]:List Value).toArray}:=by rw[<- hs3]
 rw[<- hh3] at hns₁ hob hk hnew ⊢
 generalize s₂.heap.objs.size=D at *
 generalize hH3:upd H2 D (.lst [])=H3 at *
 have loop:∀s₄:Shared,s₄={s3 with heap:=h₁}->
  codeAny (model X.prog X.w) X.A (.compLoop (.ListComp elt [⟨target,iter,ifs,0⟩] scope pos) 0 (.ref it) (.ref D) (compEnvC scope (cellsFrom (s3.heap.objs.size+1) scope.names (ey X.env scope.names [])) s3.heap.objs.size X.env)) (RR (.ref D) s3.heap.objs.size) s₄:=by
  rintro s₄ rfl
  have I4:=Gd (tk:=s3.toks) Sc I3 hfp3 hob hns₁ hk hnew
  have stat:∀{H':Hp},(∀b∈fp,H' b=none)->∀b∈fp,lP (cxC X scope (own++cap) fp s3 H3) [] H' b:=λhn b hb=>by
   refine⟨hn b hb,(I4.ok.exf b hb).1,I4.ok.exfs b hb,.inl hb,(I4.ok.exf b hb).2,λp hp=>absurd (show p∈([]:List (Addr×Obj)) from hp) (by simp)⟩
  refine Eh (λn s'=>∃i acc σ' H',Inv (cxC X scope (own++cap) fp s3 H3) [] σ' H' s'/\tn i s'.heap/\(∀b∈fp,H' b=none)/\W i n acc σ' H') ?_ k0 ⟨0,[],_,_,I4,st1,λb hb=>(hfp3 b hb).1,w0⟩
  rintro n s5 ⟨i,acc,σ5,H5,I5,st5,fr5,w5⟩
  rcases turn i n acc σ5 H5 w5 with⟨stop,hp,q⟩ | ⟨go,step⟩
  ·refine thn (T.done (cxC X scope (own++cap) fp s3 H3) rfl rfl rfl hc i [] s5 σ5 H5 _ I5 (stat fr5) st5 stop) λr s6 ⟨hr,I6⟩=> ?_
   subst hr
   obtain⟨m,hm,_⟩:=I6.loc
   refine hRR s3.heap.objs.size D H5 s6 m I3.sz (Nat.ne_of_gt I3.lt) (λx c e=> ?_) (λp hp=> ?_) I6.free hm (Hs I3 I6 hfp3) q
   ·obtain⟨v,o,ho,_⟩:=I3.cell x c e
    exact Nat.ne_of_lt (Heap.lt_size ho)
   ·exact Nat.ne_of_lt (Heap.lt_size (I3.pin p hp).1)
  ·refine thn (T.item (cxC X scope (own++cap) fp s3 H3) rfl rfl rfl hc i [] s5 σ5 H5 _ I5 (stat fr5) st5 go) λr s6 ⟨u,hr,h6⟩=> ?_
   subst hr
   refine thn h6 λ_ s7 ⟨x,H7,I7,r7,y7,st7,fr7⟩=> ?_
   have I7':=I7.pinned (stat fr7) (T.obj _ _ st7)
   refine thn (hg s3 H3 _ s7 σ5 H7 x u _ I7' r7 (step x H7 y7)) λ_ s8 ⟨σ8,H8,I8,q8⟩=> ?_
   refine thn (ht s3 H3 _ s8 σ8 H8 _ I8 q8) λb s9 ⟨H9,I9,q9⟩=> ?_
   have again:∀{σz:St} {Hz:Hp} {sz:Shared},Inv (cxC X scope (own++cap) fp s3 H3) ([]++sJ fp s7.heap) σz Hz sz->Inv (cxC X scope (own++cap) fp s3 H3) [] σz Hz sz/\tn (i+1) sz.heap/\∀b∈fp,Hz b=none:=λ{σz Hz sz} Iz=>by
    refine⟨Iz.unpinned,T.keep _ _ _ st7 λb hb o e=>(Iz.pin (b,o) (List.mem_append_right _ (List.mem_append_right _ (ng hb e)))).1,λb hb=> ?_⟩
    obtain⟨o,e,d⟩:=T.obj _ _ st7 b hb
    exact(Iz.pin (b,o) (List.mem_append_right _ (List.mem_append_right _ (ng hb e)))).2.1
   cases b with
   | false=>
    rw[if_neg Bool.false_ne_true] at q9 ⊢
    obtain⟨k',hk',w'⟩:=q9
    obtain⟨a1,a2,a3⟩:=again I9
    exact⟨k',hk',i+1,acc,σ8,H9,a1,a2,a3,w'⟩
   | true=>
    rw[if_pos rfl] at q9 ⊢
    refine thn (he s3 H3 _ s9 σ8 H9 _ I9 q9) λyv s10 ⟨y,H10,I10,r10,hp,hl,k',hk',w'⟩=> ?_
    refine thn (dS _ s10 σ8 H10 (.ref D) [y] (.ref D) [yv] (λv Hz=>Hz=upd H10 D (.lst (acc++[y]))) I10 rfl (.cons r10 .nil) ⟨D,acc,y,rfl,rfl,hp,hl,rfl⟩) λ_ s11 ⟨_,H11,I11,_,e11⟩=> ?_
    subst e11
    obtain⟨a1,a2,a3⟩:=again I11
    exact⟨k',hk',i+1,acc++[y],σ8,_,a1,a2,a3,w'⟩
 have fin:=loop _ rfl
 subst hs3
 exact codeAny_compStart_list fin (T.self _ _ _ _ _ st1 fin)
theorem PTs.ok{X:Cx}{scope:Scope}{own cap:List Str}{caps:List Nat}{pins:List (Addr×Obj)}{σ:St}{H:Hp}{s:Shared}(I:Inv X pins σ H s)(Sc:oy X scope own cap caps):closureFor scope X.env=pure (ey X.env scope.names []):=
 yd λn hn=>I.ok.has n (Sc.out hn)
theorem cM {target iter elt:Expr} {ifs:List Expr} {scope:Scope} {pos:Pos} {own cap:List Str} {caps:List Nat} {wi:TI} {g:TG} {tc:TT} {te:TE} (hc:X.calm=true) (Sc:oy X scope own cap caps) (hi:PI X target iter wi)
 (hg:∀fp s H,PG (cxC X scope (own++cap) fp s H) target g) (ht:∀fp s H,PTs (cxC X scope (own++cap) fp s H) ifs tc) (he:∀fp s H,PE (cxC X scope (own++cap) fp s H) elt te)
 (hs:∀x,foldedSetIterable iter X.env x=pure x:=by intro _;rfl):PE X (.ListComp elt [⟨target,iter,ifs,0⟩] scope pos) (vq own.length caps wi g tc te):=by
 intro pins s σ H Q I h
 rw[eval_ListComp]
 refine wpAny_comprehension_free (use:=none) rfl hs (PTs.ok I Sc) Sc.kind Sc.nm (thn (hi pins s σ H _ I h) λv s1 h1=>thn h1 λitv s2 h2=> ?_)
 obtain⟨it,fp,tn,J,H2,e,I2,T,st2,f2,q⟩:=h2
 subst e
 refine vx (Q:=Q) (RR:=λacc C=>compPost (model X.prog X.w) X.A X.xe none (EP X pins σ Q) acc C) hc Sc (hg fp) (ht fp) (he fp) I2 T st2 f2 q ?_
 intro C p H' s' m h1 h2 h3 h4 h5 hn I' q'
 exact⟨m,hn,λh' hs'=>⟨.ref p,H',I'.turned (it:=C) (t':=s'.toks) (λb o hb e=>hs'.extBut b o hb e) h5 (Ne.symm h2.symm) (.inr h1) h3 h4,rfl,q'⟩⟩
theorem gH {target iter elt:Expr} {ifs:List Expr} {scope:Scope} {pos spos py:Pos} {own cap:List Str} {caps:List Nat} {wi:TI} {g:TG} {tc:TT} {te:TE} {i:Nat} {y:Str} (hc:X.calm=true) (Sc:oy X scope own cap caps) (hi:PI X target iter wi)
 (hg:∀fp s H,PG (cxC X scope (own++cap) fp s H) target g) (ht:∀fp s H,PTs (cxC X scope (own++cap) fp s H) ifs tc) (he:∀fp s H,PE (cxC X scope (own++cap) fp s H) elt te)
 (hN:X.N.Nodup) (hx:X.N[i]? =some y) (hl:Loc X.env.scope y)
 (hsw:swapsWith (.ListComp elt [⟨target,iter,ifs,0⟩] scope pos) (some (.Name y py)) spos.line X.env=pure true)
 (hs:∀x,foldedSetIterable iter X.env x=pure x:=by intro _;rfl) (hf:X.fn y=true\/X.env.scope.names.lookup y=some .local:=by first | exact .inl rfl | exact .inr rfl | assumption):
 PS X (.Assign [.Name y py] (.ListComp elt [⟨target,iter,ifs,0⟩] scope pos) spos) (yS (vq own.length caps wi g tc te) (tT i)):=by
 intro pins s σ H D I h
 rw[exec_Assign_Name_used _ _ _ _ hsw]
 refine wpAny_bind (wpAny_standAt (wpAny_bind ?_))
 show wpAny _ _ (do let _ <- comprehension (.ListComp elt [⟨target,iter,ifs,0⟩] scope pos) scope X.env _ (newList []) false (eval iter X.env) (some (assign (.Name y py) X.env))) _ _ s
 refine wpAny_bind (wpAny_mono (wpAny_comprehension_free (use:=some (assign (.Name y py) X.env)) (Q:=λ_ s'=>SP X pins D .next s') rfl hs (PTs.ok I Sc) Sc.kind Sc.nm
  (thn (hi pins s σ H _ I h) λv s1 h1=>thn h1 λitv s2 h2=> ?_)) (λ_ s' hq=>wpAny_pure (wpAny_pure hq)) λ_ _ e=>e)
 obtain⟨it,fp,tn,J,H2,e,I2,T,st2,f2,q⟩:=h2
 subst e
 refine vx (Q:=λv H'=>tT i v σ H' D.nx) (RR:=λacc C=>compPost (model X.prog X.w) X.A X.xe (some (assign (.Name y py) X.env)) (λ_ s'=>SP X pins D .next s') acc C) hc Sc (hg fp) (ht fp) (he fp) I2 T st2 f2 q ?_
 intro C p H' s' m h1 h2 h3 h4 h5 hn I' q'
 show wpAny _ _ (assign (.Name y py) X.env (.ref p)) _ _ _
 refine wpAny_assign_Name (xJ I' hN hx hl (show RelV (.ref p) (.ref p) from rfl) (λs'' I'' ⟨a,hsb,ha⟩=> ?_) hf)
 have haC:C≠a:=by
  rcases ha with rfl | ha
  ·exact h2
  ·exact(h3 _ _ ha).symm
 exact⟨m,hn.sameBut hsb haC,λh' hs'=>⟨_,H',I''.turned (it:=C) (t':=s''.toks) (λb o hb e=>hs'.extBut b o hb e) h5 h2 (.inr h1) h3 h4,q'⟩⟩
end
end L2
set_option maxRecDepth 100000
set_option maxHeartbeats 4000000
namespace L2
open PySem PySem.Spec PyProof.Rows
section
variable {X : Cx}
def Ic(K:PySem.W.Frag):R2:=λx y H Q=>∃l b xs zs,x=.ref l/\y=.ref b/\SqL K H l xs/\SqL K H b zs/\xs.length+zs.length<=sizeLine/\∀p,H p=none->Q (.ref p) (upd H p (.lst (xs++zs)))
theorem IL:OpR X (binaryOp .Add) (Ic X.K):=by
 intro pins s σ H x y v u Q I rx ry h
 obtain⟨l,b,xs,zs,rfl,rfl,hH,hB,hz,q⟩:=h
 cases rx
 cases ry
 obtain⟨its,r,pl,_⟩:=I.list hH
 obtain⟨its2,r2,pl2,_⟩:=I.list hB
 obtain⟨⟨cls,dd,data,sl⟩,ho,hc,n,hd⟩:=pl.isList
 obtain⟨⟨cls2,dd2,data2,sl2⟩,ho2,hc2,n2,hd2⟩:=pl2.isList
 simp only at hc hd hc2 hd2
 subst hc hd hc2 hd2
 have e:its.toArray++its2.toArray=(its++its2).toArray:=by simp
 have hl1:=r.length
 have hl2:=r2.length
 refine concat_meets ⟨_,ho,rfl⟩ ⟨_,ho2,rfl⟩ noFill_list_add seq_list_add PySem.F.slot_list_add PySem.F.entry_list_add (PySem.F.args_list_add_2 _ _) (list_addW l b its.toArray its2.toArray n n2 dd dd2 sl sl2 (by simp only[List.size_toArray];omega)) ⟨ho,ho2, ?_⟩
 rw[e]
 exact⟨.ref _,_,I.lnew (t':=s.toks) (r.append r2) (by rw[List.length_append];omega),rfl,q _ I.fresh⟩
mutual
def RdV(K:PySem.W.Frag)(H:Hp):PyData->V->Prop
 | .none,v=>v=.non
 | .bool b,v=>v=.bl b
 | .int i,v=>v=.int i
 | .str x,v=>v=.str x
 | .list ds,v=>∃a xs,v=.ref a/\SqL K H a xs/\qw K H ds xs
 | .tuple ds,v=>∃a xs,v=.ref a/\SqT K H a xs/\qw K H ds xs
 | .dict _,_=>False
def qw(K:PySem.W.Frag)(H:Hp):List PyData->List V->Prop
 | [],xs=>xs=[]
 | d::ds,xs=>∃v r,xs=v::r/\RdV K H d v/\qw K H ds r
end
mutual
theorem mM{pins:List (Addr×Obj)}{σ:St}{H:Hp}{s:Shared}(I:Inv X pins σ H s):∀{d:PyData} {v:V} {u:Value},RdV X.K H d v->RelV v u->∃as,Reads s.heap u d as
 | .none,v,u,h,r=>by
  unfold RdV at h;subst h
  cases (show u=Value.none from r);exact⟨_,.none⟩
 | .bool b,v,u,h,r=>by
  unfold RdV at h;subst h
  cases (show u=Value.bool b from r);exact⟨_,.bool b⟩
 | .int i,v,u,h,r=>by
  unfold RdV at h;subst h
  obtain⟨t,rfl⟩:=(show ∃t,u=Value.int i t from r);exact⟨_,.int i t⟩
 | .str x,v,u,h,r=>by
  unfold RdV at h;subst h
  obtain⟨t,rfl⟩:=(show ∃t,u=Value.str x t from r);exact⟨_,.str x t⟩
 | .list ds,v,u,h,r=>by
  unfold RdV at h
  obtain⟨a,xs,rfl,hs,hr⟩:=h
  cases (show u=Value.ref a from r)
  obtain⟨its,rv,pl,_⟩:=I.list hs
  obtain⟨o,ho,hc,n,hd⟩:=pl.isList
  obtain⟨as,ra⟩:=qG I hr rv
  exact⟨_,.list ho hc hd (by simpa using ra)⟩
 | .tuple ds,v,u,h,r=>by
  unfold RdV at h
  obtain⟨a,xs,rfl,hs,hr⟩:=h
  cases (show u=Value.ref a from r)
  obtain⟨its,rv,⟨o,ho,hc,n,hd⟩,_⟩:=I.tuple hs
  obtain⟨as,ra⟩:=qG I hr rv
  exact⟨_,.tuple ho hc hd (by simpa using ra)⟩
 | .dict _,v,u,h,r=>by unfold RdV at h;exact h.elim
theorem qG{pins:List (Addr×Obj)}{σ:St}{H:Hp}{s:Shared}(I:Inv X pins σ H s):∀{ds:List PyData} {xs:List V} {us:List Value},qw X.K H ds xs->Vals xs us->∃as,ReadsAll s.heap us ds as
 | [],xs,us,h,r=>by
  unfold qw at h;subst h
  cases r;exact⟨_,.nil⟩
 | d::ds,xs,us,h,r=>by
  unfold qw at h
  obtain⟨v,w,rfl,h1,h2⟩:=h
  cases r with
  | cons r1 r2=>
   obtain⟨as,a1⟩:=mM I h1 r1
   obtain⟨bs,a2⟩:=qG I h2 r2
   exact⟨_,.cons a1 a2⟩
end
def K3(K:PySem.W.Frag):R2:=λx y H Q=>∃d e,RdV K H d x/\RdV K H e y/\SeqAt.shaped d=true/\SeqAt.shaped e=true/\Q (.bl (PyData.eqv d e)) H
def Mf(K:PySem.W.Frag):R2:=λx y H Q=>∃d e,RdV K H d x/\RdV K H e y/\SeqAt.shaped d=true/\SeqAt.shaped e=true/\Q (.bl (!PyData.eqv d e)) H
theorem K1(hu:X.A.units+64<cLine):OpR X (compareOp .Eq) (K3 X.K):=by
 intro pins s σ H x y v u Q I rx ry h
 obtain⟨d,e,h1,h2,s1,s2,q⟩:=h
 obtain⟨as,ra⟩:=mM I h1 rx
 obtain⟨bs,rb⟩:=mM I h2 ry
 exact SeqAt.compareEq_shaped ra rb s1 s2 hu ⟨.bl _,H,I,rfl,q⟩
theorem L3(hu:X.A.units+64<cLine):OpR X (compareOp .NotEq) (Mf X.K):=by
 intro pins s σ H x y v u Q I rx ry h
 obtain⟨d,e,h1,h2,s1,s2,q⟩:=h
 obtain⟨as,ra⟩:=mM I h1 rx
 obtain⟨bs,rb⟩:=mM I h2 ry
 exact SeqAt.compareNe_shaped ra rb s1 s2 hu ⟨.bl _,H,I,rfl,q⟩
def My(K:PySem.W.Frag)(H:Hp)(x:V)(T:String):Prop:=match x with
 | .non=>T="NoneType"
 | .bl _=>T="bool"
 | .int _=>T="int"
 | .str _=>T="str"
 | .ref a=>(T="list" /\∃xs,SqL K H a xs)\/(T="tuple" /\∃xs,SqT K H a xs)
 | _=>False
def GJ(K:PySem.W.Frag):List V->Hp->VK->Prop:=λxs H Q=>∃x c T b,xs=[x,.ty c]/\My K H x T/\PySem.W.kitOne K (.type T) (.type c)=some b/\Q (.bl b) H
theorem lV:iD X (.builtin "isinstance") (GJ X.K):=by
 intro pins s σ H xs us Q I r h
 obtain⟨x,c,T,b,rfl,hT,hk,q⟩:=h
 obtain⟨u,w,rfl,r1,r2⟩:=vals2 r
 cases (show w=Value.type c from r2)
 have fin:∀tk,EP X pins σ Q (.bool b) {s with toks:=tk}:=λtk=>⟨.bl b,H,I.tok tk,rfl,q⟩
 cases x with
 | non=>cases (show u=Value.none from r1);cases (show T="NoneType" from hT);exact PySem.W.kia_one PySem.W.kitx_none I.kIn True.intro hk (λz=>nomatch z) fin
 | bl y=>cases (show u=Value.bool y from r1);cases (show T="bool" from hT);exact PySem.W.kia_one PySem.W.kitx_bool I.kIn True.intro hk (λz=>nomatch z) fin
 | int i=>obtain⟨t,e⟩:=(show ∃t,u=Value.int i t from r1);cases e;cases (show T="int" from hT);exact PySem.W.kia_one PySem.W.kitx_int I.kIn True.intro hk (λz=>nomatch z) fin
 | str y=>obtain⟨t,e⟩:=(show ∃t,u=Value.str y t from r1);cases e;cases (show T="str" from hT);exact PySem.W.kia_one PySem.W.kitx_str I.kIn True.intro hk (λz=>nomatch z) fin
 | ref a=>
  cases (show u=Value.ref a from r1)
  rcases hT with⟨rfl,xs,hs⟩ | ⟨rfl,xs,hs⟩
  ·obtain⟨its,rv,⟨o,n,ho,hc,_⟩,_⟩:=I.list hs
   exact PySem.W.kia_one PySem.W.kitx_list I.kIn ⟨o,ho,hc⟩ hk (λz=>nomatch z) fin
  ·obtain⟨its,rv,⟨o,ho,hc,_⟩,_⟩:=I.tuple hs
   exact PySem.W.kia_one PySem.W.kitx_tuple I.kIn ⟨o,ho,hc⟩ hk (λz=>nomatch z) fin
 | byt y=>exact False.elim hT
 | flt y=>exact False.elim hT
 | ty y=>exact False.elim hT
end
end L2
set_option maxRecDepth 100000
set_option maxHeartbeats 4000000
namespace L2
open PySem PySem.Spec PyProof.Rows
structure OU(S:List Addr)(e:Addr)(oe:Obj)(h h':Heap)(T:Addr):Prop where
 keep:∀b o,h.get? b=some o->b∉S->b≠e->h'.get? b=some o
 slot:∀b o,h.get? b=some o->b∈S->∃sl,h'.get? b=some {o with slots:=sl}
 new:h.objs.size<=T
 ne:T≠e
 exc:∃oe' vs,h'.get? e=some oe'/\oe'.cls=oe.cls/\oe'.dict=oe.dict/\oe'.data=.fields vs/\vs[1]? =some (.ref T)
 trc:∃oT ts,h'.get? T=some oT/\oT.data=.fields ts/\ts[3]? =some .none
section
variable {M : Model} {A : Around} {E : Value → Shared → Prop} {s : Shared}
structure Trc(h:Heap)(e:Addr)(oe:Obj)(T:Addr):Prop where
 exc:h.get? e=some oe
 dat:∃vs,oe.data=.fields vs/\vs[1]? =some (.ref T)
 ne:T≠e
 trc:∃oT ts,h.get? T=some oT/\oT.data=.fields ts/\ts[3]? =some .none
end
end L2
set_option maxRecDepth 100000
set_option maxHeartbeats 4000000
namespace L2
open PySem PySem.Spec PyProof.Rows
theorem gd.there{P:Program}{w:World}{H:Hp}{h:Heap}{a:Addr}{o:HO}(x:gd P w H h a o):∃u,h.get? a=some u:=by
 cases o with
 | lst xs=>exact let ⟨_,_,_,_,e⟩:=x;⟨_,e⟩
 | tup xs=>exact let ⟨_,_,_,ob,e,_⟩:=x;⟨_,e⟩
 | dK kvs=>exact let ⟨_,_,_,_,ob,_,_,e,_⟩:=x;⟨_,e⟩
 | dT kvs=>exact let ⟨_,_,_,_,ob,_,_,e,_⟩:=x;⟨_,e⟩
 | set S n=>exact let ⟨ob,_,_,_,e,_⟩:=x;⟨_,e⟩
 | ins C dx fs=>exact let ⟨_,_,_,e,_⟩:=x;⟨_,e⟩
 | own y=>exact x
 | xd fs=>exact let ⟨_,⟨_,_,_,e,_⟩,_⟩:=x;⟨_,e⟩
 | rng lo hi=>exact let ⟨_,_,_,e⟩:=x;⟨_,e⟩
 | frz ob u=>exact let ⟨e,_⟩:=x;⟨_,e⟩
 | tbl ps=>exact⟨_,x⟩
 | met f y=>exact⟨_,x⟩
 | ext φ=>exact x.2.1
theorem HOk.free{P:Program}{w:World}{H:Hp}{h:Heap}{a:Addr}(x:HOk P w H h)(n:h.get? a=none):H a=none:=by
 cases e:H a with
 | none=>rfl
 | some o=>
  obtain⟨u,hu⟩:=(x a o e).there
  rw[n] at hu;cases hu
structure MI(P:Program)(w:World)(fs:List Addr)(H:Hp)(h:Heap)(x:Addr)(H':Hp)(h':Heap)(oe:Obj)(T C:Addr):Prop where
 un:Un fs [] H H' h h'
 hok:HOk P w H' h'
 nx:h.get? x=none
 nT:h.get? T=none
 hx:H' x=none
 hT:H' T=none
 tr:Trc h' x oe T
 cls:oe.cls=.ref C
def CXE(P:Program)(w:World):CXT:=λouter H s E e s'=>∃x oe T H' C,e=.ref x/\s'.os=s.os/\AllBare s'.gens/\MI P w (frs outer) H s.heap x H' s'.heap oe T C/\E (.ref C) oe.dict H'
section
variable {X : Cx} {pins : List (Addr × Obj)} {σ : St} {H : Hp} {s : Shared}
theorem Inv.old(I:Inv X pins σ H s)(hex:X.ex=[]){a:Addr}(n:s.heap.get? a=none):X.s₀.heap.get? a=none:=by
 cases e:X.s₀.heap.get? a with
 | none=>rfl
 | some o=>
  obtain⟨o',q⟩:=I.base.there a o e (by rw[hex];simp)
  rw[n] at q;cases q
end
section
variable {P : Program} {w : World} {K : PySem.W.Frag} {mg : Str → Option Value} {base : Heap} {N : List Str} {qual : Str} {scope : Scope} {f : Addr} {cd : Value} {A : Around} {outer : List Env} {s0 : Shared} {H0 : Hp} {E : XK}
end
end L2
set_option maxRecDepth 100000
set_option maxHeartbeats 4000000
namespace L2
open PySem PySem.Spec PyProof.Rows
section
variable {X : Cx} {E : XK} {c : Str} {C : Addr} {np cpos pos : Pos} {e : Expr} {es : List Expr} {t : TA} {B newId initId : String} {bmB : List Value}
end
section
variable {P : Program} {w : World} {K : PySem.W.Frag} {mg : Str → Option Value} {base : Heap}
theorem Fun.okE {CX:CXT} {x qual:Str} {st:Stmt} {f:Addr} {fd:FuncData} {N ps:List Str} {k:Nat} {sp:Sp} (F:Fun K x qual st f fd) (S:bq N ps (aC st)) (len:∀vs H Q E,sp vs H Q E->vs.length=ps.length)
 (hb:∀(cdv:Value) (A:Around) (outer:List Env) (s:Shared) (H:Hp) (vs:List V) (Q:VK) (E:XK),dN k (A.deeper (envOfC qual (aC st) s.heap.objs.size f cdv))->sp vs H Q E->
  ∃t,PSs (sx CX P w K mg base N qual (aC st) f cdv A outer s H E) (aZ st) t/\t {nx:=λ_ H'=>Q .non H',rt:=Q} (start N vs) H):fV P w K mg base CX (k+1) f fd ps sp:=by
 obtain⟨oc,od,kV,doc,pm,an,cdv,ct,osl,rfl,look,hcd⟩:=F.ex
 exact Ik look hcd S len (hb cdv)
end
theorem GO {l:PySem.W.OpenLaw} {n k:Nat} {q:Program} {loose:List Str} {XP:(Str->Option Value)->Heap->Prop} {YP:World->Heap->Prop} {d:DefRec} {K:Params->PySem.W.Frag} {sp:PySem.W.Frag->Sp} {x:Str} (hn:l.most=some n) (hn2:n<=sizeLine)
 (hdf:d.params.defaults=[]) (hr:dN k callerA) (hi:importsNone q=true) (hY:∀(w:World) (h:Heap),YP w h->(K w.params).In h) (F:∀(w:World) (mg:Str->Option Value) (fa:Addr) (h:Heap),(K w.params).In h->h.Ns mainGlobals mg->mg d.name=some (.ref fa)->
  ∃fd:FuncData,(∀(s:Shared) (u:Value),BindsTo s fd ⟨[u],[]⟩ [(x,u)])/\∀base:Heap,(K w.params).In base->base.Ns mainGlobals mg->fV l.prog w (K w.params) mg base (CXE l.prog w) k fa fd [x] (sp (K w.params)))
 (hsp:∀(K:PySem.W.Frag) (H:Hp) (a:Addr) (ns:List Int),ns.length<=n->DM H->SqL K H a (ns.map V.int)->sp K [.ref a] H (λv _=>v=.bl true) λ_ _ _=>False):PySem.W.WalkO q loose XP YP l.row.toRowW d [] (λf vs=>PySem.call f vs):=
 JU (K:=K) (CX:=λw=>CXE l.prog w) (sp:=λw=>sp (K w.params)) hn hn2 hdf hr hi hY F (λw H a ns h1 h2 h3=>hsp (K w.params) H a ns h1 h2 h3) λ_ _ _ _ _ ⟨_,_,_,_,_,_,_,_,_,z⟩=>z
end L2
set_option maxRecDepth 100000
set_option maxHeartbeats 4000000
namespace L2
open PySem PySem.Spec PyProof.Rows
def JV(CX:CXT)(X:Cx)(Es:St->XK):Prop:=∀(pins:List (Addr×Obj)) (σ:St) (H:Hp) (s:Shared) (e:Value) (s':Shared),Inv X pins σ H s->CX X.stack H s (Es σ) e s'->X.xe e s'
theorem Passes.s{CX:CXT}{X:Cx}{E:XK}(h:Passes CX X E):JV CX X λ_=>E:=h
section
variable {X : Cx} {CX : CXT} {k : Nat} {f C : Addr} {fd : FuncData} {ps : List Str} {sp : Sp} {dvs : List V} {ds : List Value} {Es : St → XK} {x m : Str} {p pos apos : Pos} {e o : Expr} {es : List Expr} {ta : TE} {t : TA}
end
abbrev Cx.pinned(X:Cx)(p:List (Addr×Obj))(E:Value->Shared->Prop):Cx:={X with pn:=p,xe:=E}
theorem Cx.Ok.pinned{X:Cx}(ok:X.Ok)(p:List (Addr×Obj))(E:Value->Shared->Prop):(X.pinned p E).Ok:=⟨ok.mod,ok.kind,ok.glob,ok.blt,ok.above,ok.inj,ok.has,ok.cab,ok.hd,ok.frames,ok.stk,ok.exf,ok.bs,ok.bsz,ok.noex,ok.exfs,ok.funs,ok.frf⟩
theorem Cx.Ok.unpinned{X:Cx}{p:List (Addr×Obj)}{E:Value->Shared->Prop}(ok:(X.pinned p E).Ok):X.Ok:=⟨ok.mod,ok.kind,ok.glob,ok.blt,ok.above,ok.inj,ok.has,ok.cab,ok.hd,ok.frames,ok.stk,ok.exf,ok.bs,ok.bsz,ok.noex,ok.exfs,ok.funs,ok.frf⟩
section
variable {X : Cx} {pins : List (Addr × Obj)} {σ : St} {H : Hp} {s : Shared} {E : Value → Shared → Prop}
end
end L2
set_option maxRecDepth 100000
set_option maxHeartbeats 4000000
namespace L2
open PySem PySem.Spec PyProof.Rows
def exO(a C:Addr):HO:=.ext λh=>∃o,h.get? a=some o/\o.cls=.ref C/\o.dict=none/\(∀cd,o.data≠ .cls cd)
section
variable {X : Cx} {pins : List (Addr × Obj)} {σ : St} {H : Hp} {s : Shared} {v : Value}
end
end L2
set_option maxRecDepth 100000
set_option maxHeartbeats 4000000
namespace L2
open PySem PySem.Spec PyProof.Rows
structure sr(X:Cx)(pins:List (Addr×Obj))(H:Hp)(s:Shared)(x C:Addr):Prop where
 tr:∃oe T,Trc s.heap x oe T/\oe.cls=.ref C/\oe.dict=none
 hx:H x=none
 h0:X.s₀.heap.get? x=none
 nl:x≠X.env.locals
 nc:∀y c,X.env.cells.lookup y=some c->c≠x
 np:∀p∈X.pn++pins,p.1≠x
theorem sr.kept{X:Cx}{pins:List (Addr×Obj)}{H:Hp}{s:Shared}{x C:Addr}{h':Heap}(c:sr X pins H s x C)(k:∀b u,s.heap.get? b=some u->h'.get? b=some u):sr X pins H {s with heap:=h'} x C:=
 let ⟨oe,T,⟨e,d,n,oT,ts,a1,a2⟩,hc⟩:=c.tr
 ⟨⟨oe,T,⟨k _ _ e,d,n,oT,ts,k _ _ a1,a2⟩,hc⟩,c.hx,c.h0,c.nl,c.nc,c.np⟩
theorem sr.obj{X:Cx}{pins:List (Addr×Obj)}{H:Hp}{s:Shared}{x C:Addr}(c:sr X pins H s x C):∃o,s.heap.get? x=some o/\o.cls=.ref C/\o.dict=none/\∀cd,o.data≠ .cls cd:=
 let ⟨oe,T,⟨e,⟨vs,d,_⟩,_,_⟩,hc,hd⟩:=c.tr
 ⟨oe,e,hc,hd,λcd z=>by rw[d] at z;cases z⟩
section
variable {X : Cx} {c : Str} {Dc : Addr} {np pos : Pos} {b0 : Stmt} {suite : List Stmt} {rest : List ExceptHandler} {sub : Addr → Option Bool} {tb : TS} {th : Addr → TS}
end
end L2
set_option maxRecDepth 100000
set_option maxHeartbeats 4000000
namespace L2
open PySem PySem.Spec PyProof.Rows PySem.W
structure ExK(K:PySem.W.Frag)(D:Addr):Prop where
 ga:findIn K (.ref D) "__getattribute__" =some (some (.builtin "BaseException.__getattribute__"))
 hk:findIn K (.ref D) "__getattr__" =some none
 cl:findIn K (.ref D) "__class__" =some (some (.builtin "object.__class__"))
 gt:specialIn K (.builtin "object.__class__") "__get__" =some (some (.builtin "getset_descriptor.__get__"))
 tk:takesIn K (.builtin "object.__class__")=some true
 ob:mroIn K D (.type "object")=some true
 be:mroIn K D (.type "BaseException")=some true
section
variable {prog : Program} {w : World} {A : Around} {E : Value → Shared → Prop} {s : Shared} {K : PySem.W.Frag} {x D : Addr} {ox : Obj}
theorem ExK.cls(k:ExK K D):(clsIn K D).isSome=true:=by
 obtain⟨cd,hc,_⟩:=Option.bind_eq_some_iff.mp k.ob
 rw[hc];rfl
end
end L2
set_option maxRecDepth 100000
set_option maxHeartbeats 4000000
namespace L2
open PySem PySem.Spec PyProof.Rows
section
variable {X : Cx} {pins : List (Addr × Obj)} {σ : List (Option V)} {H : Hp} {s : Shared} {h' : Heap}
theorem Inv.turnedL{t':Nat}{ch:List Addr}(I:Inv X pins σ H s)(k:∀b o,b∉ch->s.heap.get? b=some o->h'.get? b=some o)(hf:∀b∈ch,lP X pins H b):Inv X pins σ H {s with heap:=h',toks:=t'}:=by
 have nit:∀b u,H b=some u->b∉ch:=λb u e z=>by rw[(hf b z).1] at e;cases e
 refine I.step (g':=s.gens) (d':=s.drawn) (ch:=ch) (λb hb=> ?_) (λb o _ _ hc e _=>k b o hc e) (λb o _ _ hc e _=>⟨o.slots,k b o hc e⟩) (λ_ _ _ _ n=>n)
  (λb o hc e=>⟨o,k b o hc e⟩) (λ_ _ e=>e) (λ_ _ _ e=>e) (λb ps e=>⟨#[],by rw[e];simp⟩) (λm hm=> ?_) (λb u e=> ?_) I.bare
 ·obtain⟨f0,f1,f2,f3,f4,f5⟩:=hf b hb
  exact⟨f3,f1,f4,f5⟩
 ·obtain⟨o,es,ep,ho,r⟩:=hm
  exact⟨o,es,ep,k _ o (λz=>(hf _ z).2.1 rfl) ho,r⟩
 ·refine(I.hok b u e).stay (λc v hc q=>k c v ?_ q) (λ_ q=>q) λ_ _ q=>q
  rcases hc with z | z
  ·rw[z];exact nit b u e
  ·exact nit c _ z
theorem Inv.turnedT {t':Nat} {ch:List Addr} {T:Addr} {xs:List V} (I:Inv X pins σ H s) (k:∀b o,b∉ch->s.heap.get? b=some o->h'.get? b=some o) (hf:∀b∈ch,lP X pins H b) (hT:s.heap.objs.size<=T)
 (new:gd X.prog X.w (upd H T (.tup xs)) h' T (.tup xs)):Inv X pins σ (upd H T (.tup xs)) {s with heap:=h',toks:=t'}:=by
 have hn:H T=none:=I.hok.fresh hT
 have nit:∀b u,H b=some u->b∉ch:=λb u e z=>by rw[(hf b z).1] at e;cases e
 refine I.step (g':=s.gens) (d':=s.drawn) (ch:=ch) (λb hb=> ?_) (λb o _ _ hc e _=>k b o hc e) (λb o _ _ hc e _=>⟨o.slots,k b o hc e⟩) (λb o _ e n=> ?_)
  (λb o hc e=>⟨o,k b o hc e⟩) (λb xs e=>by rw[aS (fb e hn)];exact e) (λb o u e=>by rw[aS (fb e hn)];exact e) (λb ps e=>⟨#[],by rw[aS (fb e hn),e];simp⟩) (λm hm=> ?_) (λb u e=> ?_) I.bare
 ·obtain⟨f0,f1,f2,f3,f4,f5⟩:=hf b hb
  exact⟨f3,f1,f4,f5⟩
 ·have hb:b≠T:=λz=>by
   subst z
   exact absurd (Nat.lt_of_lt_of_le (Heap.lt_size e) hT) (Nat.lt_irrefl _)
  rw[aS hb];exact n
 ·obtain⟨o,es,ep,ho,r⟩:=hm
  exact⟨o,es,ep,k _ o (λz=>(hf _ z).2.1 rfl) ho,r⟩
 ·by_cases hb:b=T
  ·subst hb;rw[cV] at e;cases e;exact new
  ·rw[aS hb] at e
   refine(I.hok b u e).stay (λc v hc q=>k c v ?_ q) (λc q=>by rw[aS (fb q hn)];exact q) λc xs q=>by rw[aS (fb q hn)];exact q
   rcases hc with z | z
   ·rw[z];exact nit b u e
   ·exact nit c _ z
end
def Itz(K:PySem.W.Frag)(a b:Addr):It:=
 ⟨λi H=>∃xs ys x y,SqL K H a xs/\SqL K H b ys/\xs[i]? =some x/\ys[i]? =some y,
  λi H v H'=>∃T x y,H T=none/\v=.ref T/\H'=upd H T (.tup [x,y])/\(∀xs,SqL K H a xs->xs[i]? =some x)/\∀ys,SqL K H b ys->ys[i]? =some y,
  λi H=>∃xs ys,SqL K H a xs/\SqL K H b ys/\(xs.length<=i\/ys.length<=i)⟩
def Ite(K:PySem.W.Frag)(a:Addr):It:=
 ⟨λi H=>∃xs x,SqL K H a xs/\xs[i]? =some x,
  λi H v H'=>∃T x,H T=none/\v=.ref T/\H'=upd H T (.tup [.int i,x])/\∀xs,SqL K H a xs->xs[i]? =some x,
  λi H=>∃xs,SqL K H a xs/\xs.length<=i⟩
def Its(x:Str):It:=⟨λi _=>i<x.cps.size,λi H v H'=>H'=H/\∃c,x.cps[i]? =some c/\v=.str ⟨#[c]⟩,λi _=>x.cps.size<=i⟩
theorem E3{P:Program}{w:World}{H:Hp}{h:Heap}{T:Addr}{x y:V}{u v:Value}(rx:RelV x u)(ry:RelV y v)(hT:h.IsTuple T #[u,v]):gd P w H h T (.tup [x,y]):=by
 refine⟨by simp only[List.length_cons,List.length_nil];rw[sizeLine_eq];decide,[u,v],.cons rx (.cons ry .nil), ?_⟩
 exact hT
theorem Gy{P:Program}{w:World}{K:PySem.W.Frag}{elts:List Expr}{kk:Nat}{tp:Pos}{z TI TO i1 i2 a b:Addr}(D:ZipApart z TI TO i1 i2 a b):
 Turn P w K (.Tuple elts kk tp) (Itz K a b) [z,TI,TO,i1,i2] z (λi h=>IsZip h z TI TO .none/\IsPair h TI (.ref i1) (.ref i2)/\(∃u v,IsPair h TO u v)/\h.IsListIter i1 a i/\h.IsListIter i2 b i) where
 mem:=by simp
 obj:=λi h st c hc=>by
  obtain⟨q1,q2,⟨u,v,q3⟩,⟨o1,e1,c1,d1⟩,⟨o2,e2,c2,d2⟩⟩:=st
  simp only[List.mem_cons,List.not_mem_nil,or_false] at hc
  rcases hc with rfl | rfl | rfl | rfl | rfl
  ·exact⟨_,q1,λv z=>by have z':Data.fields _=Data.cell v:=z;cases z'⟩
  ·exact⟨_,q2,λv z=>by have z':Data.seq _ _=Data.cell v:=z;cases z'⟩
  ·exact⟨_,q3,λv z=>by have z':Data.seq _ _=Data.cell v:=z;cases z'⟩
  ·exact⟨o1,e1,λv z=>by rw[d1] at z;cases z⟩
  ·exact⟨o2,e2,λv z=>by rw[d2] at z;cases z⟩
 keep:=λi h h' st k=>by
  obtain⟨q1,q2,⟨u,v,q3⟩,q4,q5⟩:=st
  exact⟨k z (by simp) _ q1,k TI (by simp) _ q2,⟨u,v,k TO (by simp) _ q3⟩,q4.at λo e=>k i1 (by simp) o e,q5.at λo e=>k i2 (by simp) o e⟩
 item:=by
  intro X hP hw hK hc i pins s σ H E I hf st hg
  subst hP hw hK
  obtain⟨xs,ys,x,y,hq1,hq2,hx,hy⟩:=hg
  obtain⟨its1,rv1,p1,hz1⟩:=I.list hq1
  obtain⟨its2,rv2,p2,hz2⟩:=I.list hq2
  obtain⟨u,hu,ru⟩:=rv1.get hx
  obtain⟨v,hv,rv⟩:=rv2.get hy
  obtain⟨q1,q2,q3,q4,q5⟩:=id st
  have W:=WalksT.zip2 (prog:=X.prog) (w:=X.w) (A:=X.A) (I.ok.hd hc) z TI TO i1 i2 a b D its1.toArray its2.toArray
  have hi1:i<its1.length:=(List.getElem?_eq_some_iff.mp hu).1
  have hi2:i<its2.length:=(List.getElem?_eq_some_iff.mp hv).1
  refine W.item i s _ _ (by simp;omega) ⟨q1,q2,q3,q4,q5,p1.isList,p2.isList⟩ λT vals h1 tk hP hT isT mid kk1=>⟨.ref T,rfl,W.go elts _ tp i T _ _ _ mid λh2 st2 kk2=> ?_⟩
  obtain⟨u',v',e1,e2,rfl⟩:=hP
  rw[show its1.toArray[i]? =its1[i]? by simp,hu] at e1
  rw[show its2.toArray[i]? =its2[i]? by simp,hv] at e2
  cases e1;cases e2
  have nT:T∉([z,TO,i1,i2]:List Addr):=W.apart i T _ mid
  have sub:∀c,c∈([z,TO,i1,i2]:List Addr)->c∈([z,TI,TO,i1,i2]:List Addr):=λc hc=>by
   simp only[List.mem_cons,List.not_mem_nil,or_false] at hc ⊢
   rcases hc with h | h | h | h <;> simp[h]
  have kk:∀c o,c∉([z,TO,i1,i2]:List Addr)->s.heap.get? c=some o->h2.get? c=some o:=λc o hc e=>kk2 c o hc (kk1 c o hc e)
  have isT2:h2.IsTuple T #[u,v]:=by
   obtain⟨o,e,c,d⟩:=isT
   exact⟨o,kk2 T o nT e,c,d⟩
  have I2:Inv X pins σ (upd H T (.tup [x,y])) {s with heap:=h2,toks:=tk}:=I.turnedT kk (λc hc=>hf c (sub c hc)) hT (E3 ru rv isT2)
  refine⟨.ref T,_,I2,rfl,⟨T,x,y,I.hok.fresh hT,rfl,rfl,λxs' h=>by rw[I.list_inj h hq1];exact hx,λys' h=>by rw[I.list_inj h hq2];exact hy⟩,⟨st2.1,st2.2.1,st2.2.2.1,st2.2.2.2.1,st2.2.2.2.2.1⟩,λc hc=> ?_⟩
  have hc0:=(hf c hc).1
  rw[aS (λe=> ?_)]
  ·exact hc0
  ·subst e
   simp only[List.mem_cons,List.not_mem_nil,or_false] at hc
   rcases hc with h | h | h | h | h
   ·exact nT (by simp[h])
   ·have:TI<s.heap.objs.size:=Heap.lt_size q2
    rw[<- h] at this
    exact absurd (Nat.lt_of_lt_of_le this hT) (Nat.lt_irrefl _)
   ·exact nT (by simp[h])
   ·exact nT (by simp[h])
   ·exact nT (by simp[h])
 done:=by
  intro X hP hw hK hc i pins s σ H E I hf st hg
  subst hP hw hK
  obtain⟨xs,ys,hq1,hq2,hx⟩:=hg
  obtain⟨its1,rv1,p1,hz1⟩:=I.list hq1
  obtain⟨its2,rv2,p2,hz2⟩:=I.list hq2
  have l1:=rv1.length
  have l2:=rv2.length
  obtain⟨q1,q2,⟨u,v,q3⟩,q4,q5⟩:=id st
  refine wpAny_pyNext_zip_end (I.ok.hd hc) D q1 q2 q3 q4 q5 p1.isList p2.isList (by
   rcases hx with h | h
   ·left;simp;omega
   ·right;simp;omega) λh' hk=>⟨rfl, ?_⟩
  exact I.turnedL (t':=s.toks) (ch:=[z,TI,TO,i1,i2]) (λc o hc e=>hk c o (λx=>hc (by simp[x])) (λx=>hc (by simp[x])) (λx=>hc (by simp[x])) (λx=>hc (by simp[x])) e) hf
 self:=λ_ _ _ _ _ st h=>wpAny_pyIter_zip st.1 h
theorem EV{P:Program}{w:World}{K:PySem.W.Frag}{elts:List Expr}{kk:Nat}{tp:Pos}{e it a:Addr}(hei:e≠it)(hle:a≠e)(hli:a≠it):
 Turn P w K (.Tuple elts kk tp) (Ite K a) [e,it] e (λi h=>(∃old,IsEnum h e it i old)/\h.IsListIter it a i) where
 mem:=by simp
 obj:=λi h st c hc=>by
  obtain⟨⟨old,q1⟩,⟨o1,e1,c1,d1⟩⟩:=st
  simp only[List.mem_cons,List.not_mem_nil,or_false] at hc
  rcases hc with rfl | rfl
  ·exact⟨_,q1,λv z=>by have z':Data.fields _=Data.cell v:=z;cases z'⟩
  ·exact⟨o1,e1,λv z=>by rw[d1] at z;cases z⟩
 keep:=λi h h' st k=>by
  obtain⟨⟨old,q1⟩,q4⟩:=st
  exact⟨⟨old,k e (by simp) _ q1⟩,q4.at λo e'=>k it (by simp) o e'⟩
 item:=by
  intro X hP hw hK hc i pins s σ H E I hf st hg
  subst hP hw hK
  obtain⟨xs,x,hq1,hx⟩:=hg
  obtain⟨its1,rv1,p1,hz1⟩:=I.list hq1
  obtain⟨u,hu,ru⟩:=rv1.get hx
  obtain⟨q1,q4⟩:=id st
  have W:=WalksT.enumerate (prog:=X.prog) (w:=X.w) (A:=X.A) (I.ok.hd hc) e it a hei hle hli its1.toArray
  have hi1:i<its1.length:=(List.getElem?_eq_some_iff.mp hu).1
  refine W.item i s _ _ (by simpa using hi1) ⟨q1,q4,p1.isList⟩ λT vals h1 tk hP hT isT mid kk1=>⟨.ref T,rfl,W.go elts _ tp i T _ _ _ mid λh2 st2 kk2=> ?_⟩
  obtain⟨t,u',e1,rfl⟩:=hP
  rw[show its1.toArray[i]? =its1[i]? by simp,hu] at e1
  cases e1
  have nT:T∉([e,it]:List Addr):=W.apart i T _ mid
  have kk:∀c o,c∉([e,it]:List Addr)->s.heap.get? c=some o->h2.get? c=some o:=λc o hc e=>kk2 c o hc (kk1 c o hc e)
  have isT2:h2.IsTuple T #[.int i t,u]:=by
   obtain⟨o,e,c,d⟩:=isT
   exact⟨o,kk2 T o nT e,c,d⟩
  have I2:Inv X pins σ (upd H T (.tup [.int i,x])) {s with heap:=h2,toks:=tk}:=I.turnedT kk hf hT (E3 ⟨t,rfl⟩ ru isT2)
  refine⟨.ref T,_,I2,rfl,⟨T,x,I.hok.fresh hT,rfl,rfl,λxs' h=>by rw[I.list_inj h hq1];exact hx⟩,⟨st2.1,st2.2.1⟩,λc hc=> ?_⟩
  have hcT:c≠T:=λz=>by
   subst z
   exact nT hc
  rw[aS hcT]
  exact(hf c hc).1
 done:=by
  intro X hP hw hK hc i pins s σ H E I hf st hg
  subst hP hw hK
  obtain⟨xs,hq1,hx⟩:=hg
  obtain⟨its1,rv1,p1,hz1⟩:=I.list hq1
  have l1:=rv1.length
  obtain⟨⟨old,q1⟩,q4⟩:=id st
  refine wpAny_pyNext_enum_end (I.ok.hd hc) q1 q4 p1.isList (by simp;omega) λh' hk=>⟨rfl, ?_⟩
  exact I.turnedL (t':=s.toks) (ch:=[e,it]) (λc o hc e'=>hk c o (λx=>hc (by simp[x])) e') hf
 self:=λ_ _ _ _ _ st h=>let ⟨_,q⟩:=st.1;wpAny_pyIter_enum q h
theorem Hc{P:Program}{w:World}{K:PySem.W.Frag}{tg:Expr}(it:Addr)(x:Str)(t:Tok)(ty:String)(hty:ty="str_ascii_iterator" \/ty="str_iterator"):Turn P w K tg (Its x) [it] it (λi h=>h.IsStrIter it ty x t i) where
 mem:=by simp
 obj:=λi h st b hb=>by
  have e:b=it:=by simpa using hb
  subst e
  obtain⟨o,e,c,d⟩:=st
  exact⟨o,e,λv z=>by rw[d] at z;cases z⟩
 keep:=λi h h' st k=>let ⟨o,ho,r⟩:=st;⟨o,k it (by simp) o ho,r⟩
 item:=by
  intro X hP hw hK hc i pins s σ H E I hf st hg
  subst hP hw hK
  have hg:i<x.cps.size:=hg
  have W:Walks X.prog X.w X.A it [it] [it] x.cps.size (SignAt x) (λi h=>h.IsStrIter it ty x t i):=by
   rcases hty with rfl | rfl
   ·exact Walks.strAscii (I.ok.hd hc) it x t
   ·exact Walks.strWide (I.ok.hd hc) it x t
  refine W.item i s _ _ hg st λv h' tk hv st' kk=> ?_
  obtain⟨c,u,hc',rfl⟩:=hv
  have I1:Inv X pins σ H {s with heap:=h',toks:=tk}:=I.turnedL kk hf
  obtain⟨o,e,hc1,d⟩:=id st'
  exact⟨_,rfl,Dz (s:={s with heap:=h',toks:=tk}) (n:=ty) e hc1 d (by rcases hty with rfl | rfl <;> decide) ⟨.str ⟨#[c]⟩,H,I1,⟨u,rfl⟩,⟨rfl,c,hc',rfl⟩,st',λb hb=>(hf b hb).1⟩⟩
 done:=by
  intro X hP hw hK hc i pins s σ H E I hf st hg
  subst hP hw hK
  have hg:x.cps.size<=i:=hg
  rcases hty with rfl | rfl
  ·exact wpAny_pyNext_ascii_end (I.ok.hd hc) st (by simp;omega) λh' eb=>⟨rfl,I.turnedL (t':=s.toks) (ch:=[it]) (λb o hb e=>eb b o (λz=>hb (by simp[z])) e) hf⟩
  ·exact wpAny_pyNext_wide_end (I.ok.hd hc) st (by simp;omega) λh' eb=>⟨rfl,I.turnedL (t':=s.toks) (ch:=[it]) (λb o hb e=>eb b o (λz=>hb (by simp[z])) e) hf⟩
 self:=λ_ _ _ _ _ st h=>by
  rcases hty with rfl | rfl
  ·exact wpAny_pyIter_striter_ascii st h
  ·exact wpAny_pyIter_striter_wide st h
section
variable {X : Cx} {tg : Expr}
def LD(K:PySem.W.Frag)(ta:TA):TI:=λσ H R=>ta σ H λvs H1=>∃a b,vs=[.ref a,.ref b]/\(∃xs,SqL K H1 a xs)/\(∃ys,SqL K H1 b ys)/\R (Itz K a b) H1
def Im(K:PySem.W.Frag)(ta:TA):TI:=λσ H R=>ta σ H λvs H1=>∃a,vs=[.ref a]/\(∃xs,SqL K H1 a xs)/\R (Ite K a) H1
def Lo(te:TE):TI:=λσ H R=>te σ H λx H1=>∃z,x=.str z/\R (Its z) H1
theorem A0{elts:List Expr}{kk:Nat}{tp:Pos}{a b:Expr}{ta:TA}{p pos:Pos}(hg:Gl X "zip")(hm:X.mg "zip" =none)(ha:PA X [a,b] ta)(hs:starEach [a,b] X.env=[(false,eval a X.env),(false,eval b X.env)]:=by rfl)(hs2:starEach [b] X.env=[(false,eval b X.env)]:=by rfl):
 PI X (.Tuple elts kk tp) (.Call (.Name "zip" p) [a,b] [] pos) (LD X.K ta):=by
 intro pins s σ H R I h
 refine Call_ (oF I hg hm Boot.«zip» (PyProof.Rows.callWith_type1 (thn (ha pos pins s σ H _ I h) λus s1 ⟨vs,H1,I1,r1,q1⟩=> ?_) (by rw[hs,hs2]) (by rw[hs2];rfl)))
 obtain⟨l1,l2,e,⟨xs,hq1⟩,⟨ys,hq2⟩,q⟩:=q1
 subst e
 obtain⟨u,v,rfl,r,r'⟩:=vals2 r1
 cases r
 cases r'
 obtain⟨its1,rv1,p1,hz1⟩:=I1.list hq1
 obtain⟨its2,rv2,p2,hz2⟩:=I1.list hq2
 refine call_zip_2 p1.isList p2.isList λh' hz hTI hTO hi1 hi2 hsz hk=> ?_
 have a1:l1<s1.heap.objs.size:=by obtain⟨_,e,_⟩:=p1.isList;exact Heap.lt_size e
 have a2:l2<s1.heap.objs.size:=by obtain⟨_,e,_⟩:=p2.isList;exact Heap.lt_size e
 refine wpAny_pyIter_zip hz ⟨_,_,_,_,H1,rfl,I1.kept (t':=s1.toks) hk,Gy (zipApart_new a1 a2),⟨hz,hTI,⟨_,_,hTO⟩,hi1,hi2⟩,λb hb=> ?_,q⟩
 have:s1.heap.objs.size<=b:=by
  simp only[List.mem_cons,List.not_mem_nil,or_false] at hb
  rcases hb with rfl | rfl | rfl | rfl | rfl <;> omega
 exact I1.fpOk this (I1.hok.fresh this)
theorem nV{elts:List Expr}{kk:Nat}{tp:Pos}{a:Expr}{ta:TA}{p pos:Pos}(hg:Gl X "enumerate")(hm:X.mg "enumerate" =none)(ha:PA X [a] ta)(hs:starEach [a] X.env=[(false,eval a X.env)]:=by rfl):
 PI X (.Tuple elts kk tp) (.Call (.Name "enumerate" p) [a] [] pos) (Im X.K ta):=by
 intro pins s σ H R I h
 refine Call_ (oF I hg hm Boot.«enumerate» (PyProof.Rows.callWith_type1 (thn (ha pos pins s σ H _ I h) λus s1 ⟨vs,H1,I1,r1,q1⟩=> ?_) hs rfl))
 obtain⟨l1,e,⟨xs,hq1⟩,q⟩:=q1
 subst e
 obtain⟨u,rfl,ru⟩:=vals1 r1
 cases ru
 obtain⟨its1,rv1,p1,hz1⟩:=I1.list hq1
 refine call_enumerate_list p1.isList λh' hz hi1 hsz hk=> ?_
 have a1:l1<s1.heap.objs.size:=by obtain⟨_,e,_⟩:=p1.isList;exact Heap.lt_size e
 refine wpAny_pyIter_enum hz ⟨_,_,_,_,H1,rfl,I1.kept (t':=s1.toks) hk,EV (e:=s1.heap.objs.size+1) (it:=s1.heap.objs.size) (a:=l1) (Nat.succ_ne_self _) (Nat.ne_of_lt (Nat.lt_succ_of_lt a1)) (Nat.ne_of_lt a1),⟨⟨_,hz⟩,hi1⟩,λb hb=> ?_,q⟩
 have:s1.heap.objs.size<=b:=by
  simp only[List.mem_cons,List.not_mem_nil,or_false] at hb
  rcases hb with rfl | rfl <;> omega
 exact I1.fpOk this (I1.hok.fresh this)
theorem K5{l:Expr}{tl:TE}(hl:PE X l tl):PI X tg l (Lo tl):=by
 intro pins s σ H R I h
 refine thn (hl pins s σ H _ I h) λv s1 ⟨x,H1,I1,r1,q1⟩=> ?_
 obtain⟨z,e,q⟩:=q1
 subst e
 obtain⟨t,rfl⟩:=r1
 have fin:∀(ty:String),(ty="str_ascii_iterator" \/ty="str_iterator")->PIE X pins σ tg R (.ref s1.heap.objs.size) {s1 with heap:=s1.heap.push {cls:=.type ty,data:=.fields #[.str z t,.int 0 0]}}:=λty hty=>by
  refine⟨s1.heap.objs.size,[s1.heap.objs.size],_,_,H1,rfl,I1.kept (t':=s1.toks) λb o e=>Heap.get?_push_of_some _ e,Hc _ z t ty hty,⟨_,Heap.get?_push_size _ rfl,rfl,rfl⟩,λb hb=> ?_,q⟩
  have e:b=s1.heap.objs.size:=by simpa using hb
  subst e
  exact I1.fpOk (Nat.le_refl _) (I1.hok.fresh (Nat.le_refl _))
 cases ha:z.cps.all (· < 128)
 ·exact wpAny_pyIter_wide ha (fin _ (.inr rfl))
 ·exact wpAny_pyIter_ascii ha (fin _ (.inl rfl))
theorem nB:∀{ns:List Int} {its:List Value},Vals (ns.map V.int) its->IntsAre its ns
 | [],_,r=>by cases r;exact .nil
 | n::ns,_,r=>by
  cases r with
  | cons r1 r2=>
   obtain⟨t,rfl⟩:=r1
   exact .cons _ _ (nB r2)
theorem o3(hc:X.calm=true:=by rfl):iD X (.builtin "sum") (λxs H Q=>∃(p:Addr) (ns:List Int),xs=[.ref p]/\SqL X.K H p (ns.map V.int)/\Q (.int ns.sum) H):=by
 intro pins s σ H xs us Q I r h
 obtain⟨p,ns,rfl,hq,q⟩:=h
 obtain⟨u,rfl,ru⟩:=vals1 r
 cases ru
 obtain⟨its,rv,pl,hz⟩:=I.list hq
 have hI:=nB rv
 obtain⟨xs,exs⟩:=hI.allInts.items
 have hn:numsOf its=ns:=hI.numsOf
 rw[show its=its.toArray.toList by simp,exs,nums_intItems] at hn
 refine sum_intListG (I.ok.hd hc) (exs▸pl.isList) λh' tk t' hk=> ?_
 rw[preSum_eq,List.take_of_length_le (by simp),hn]
 exact⟨.int ns.sum,H,I.kept (t':=tk) hk,⟨t',rfl⟩,q⟩
theorem MY{bs:List Bool}{its:List Value}(rv:Vals (bs.map V.bl) its){i:Nat}{v:Value}(h:its.toArray[i]? =some v):v=.bool (bs.getD i false):=by
 have hi:i<its.length:=by
  have:=(Array.getElem?_eq_some_iff.mp h).1
  simpa using this
 have hb:i<bs.length:=by have:=rv.length;rw[List.length_map] at this;omega
 obtain⟨u,hu,ru⟩:=rv.get (i:=i) (x:=.bl bs[i]) (by simp[hb])
 rw[show its.toArray[i]? =its[i]? by simp,hu] at h
 cases h
 cases ru
 simp[List.getD_eq_getElem?_getD,hb]
theorem all_range(bs:List Bool):(List.range bs.length).all (λi=>bs.getD i false)=bs.all id:=by
 induction bs with
 | nil=>rfl
 | cons b bs ih=>
  rw[List.length_cons,List.range_succ_eq_map,List.all_cons,List.all_map,List.all_cons]
  simp only[Function.comp_def,List.getD_cons_succ,List.getD_cons_zero,id]
  rw[ih]
theorem rS(hc:X.calm=true:=by rfl):iD X (.builtin "all") (λxs H Q=>∃(p:Addr) (bs:List Bool),xs=[.ref p]/\SqL X.K H p (bs.map V.bl)/\Q (.bl (bs.all id)) H):=by
 intro pins s σ H xs us Q I r h
 obtain⟨p,bs,rfl,hq,q⟩:=h
 obtain⟨u,rfl,ru⟩:=vals1 r
 cases ru
 obtain⟨its,rv,pl,hz⟩:=I.list hq
 have hl:=pl.isList
 have lt:p<s.heap.objs.size:=by obtain⟨_,e,_⟩:=hl;exact Heap.lt_size e
 have hlen:its.toArray.size=bs.length:=by have:=rv.length;rw[List.length_map] at this;simp;omega
 refine call_all_walk (wpAny_pyIter_list hl ?_)
 refine⟨_,_,_,_,_,_,λi=>bs.getD i false,rfl,Walks.list (A:=X.A.in1) (I.ok.hd hc) s.heap.objs.size p (Nat.ne_of_lt lt) its.toArray,⟨⟨_,Heap.get?_push_size _ rfl,rfl,rfl⟩,hl.push _⟩,λi v s' Q' E' hP hQ=> ?_,λh' tk hk=> ?_⟩
 ·rw[MY rv hP]
  exact wpAny_truthy_bool hQ
 ·rw[hlen,all_range]
  refine⟨.bl (bs.all id),H,I.kept (t':=tk) λb o e=>hk b o (λz=> ?_) (Heap.get?_push_of_some _ e),rfl,q⟩
  have hb:=Heap.lt_size e
  rw[List.mem_singleton.mp z] at hb
  exact absurd hb (Nat.lt_irrefl _)
end
end L2
set_option maxRecDepth 100000
set_option maxHeartbeats 4000000
namespace L2
open PySem PySem.Spec PyProof.Rows
def pick{α:Type}(xs:List α)(lo hi st:Option Int):List α:=(sliceRange (sliceBounds lo hi st xs.length).1 (sliceBounds lo hi st xs.length).2.1 (sliceBounds lo hi st xs.length).2.2).filterMap (xs[·]?)
theorem pF{xs:List V}{us:List Value}(r:Vals xs us):∀js:List Nat,Vals (js.filterMap (xs[·]?)) (js.filterMap (us[·]?))
 | []=>.nil
 | j::js=>by
  have ih:=pF r js
  cases hn:xs[j]? with
  | some x=>
   obtain⟨u,hu,ru⟩:=r.get hn
   simp only[List.filterMap_cons,hn,hu]
   exact .cons ru ih
  | none=>
   have hv:us[j]? =none:=by
    rw[List.getElem?_eq_none_iff] at hn ⊢
    rw[<- r.length];exact hn
   simp only[List.filterMap_cons,hn,hv]
   exact ih
def Nr(K:PySem.W.Frag):V->Option Int->Option Int->Option Int->Hp->VK->Prop:=λx lo hi st H Q=>∃a xs,x=.ref a/\SqL K H a xs/\st≠some 0/\∀p,H p=none->Q (.ref p) (upd H p (.lst (pick xs lo hi st)))
def GH(K:PySem.W.Frag)(te:TE)(tl th ts:TO):TE:=λσ H Q=>te σ H λx H1=>tl σ H1 λl H2=>th σ H2 λu H3=>ts σ H3 λst H4=>Nr K x l u st H4 Q
section
variable {X : Cx} {e se : Expr} {te : TE} {lo hi : Option Expr} {tl th ts : TO} {pos p2 : Pos}
theorem JR(he:PE X e te)(hl:PO X lo tl)(hu:PO X hi th)(hs:PO X (some se) ts):PE X (.Subscript e (.Slice lo hi (some se) p2) pos) (GH X.K te tl th ts):=by
 intro pins s σ H Q I h
 refine Subscript_ (thn (he pins s σ H _ I h) λv s1 ⟨x,H1,I1,r1,q1⟩=> ?_)
 refine wpAny_Slice (thn (hl pins s1 σ H1 _ I1 q1) λvl s2 ⟨l,H2,I2,pl,q2⟩=>thn (hu pins s2 σ H2 _ I2 q2) λvu s3 ⟨u,H3,I3,pu,q3⟩=>thn (hs pins s3 σ H3 _ I3 q3) λvs s4 ⟨st,H4,I4,ps,q4⟩=> ?_)
 have I5:Inv X pins σ H4 {s4 with heap:=s4.heap.push {cls:=.type "slice",data:=.fields #[vl,vu,vs]}}:=I4.kept (t':=s4.toks) λb ob q=>Heap.get?_push_of_some _ q
 obtain⟨a,xs,rfl,hx,h0,q⟩:=q4
 cases r1
 obtain⟨its,r,ht,hz⟩:=I5.list hx
 have hlen:=r.length
 show wpAny (model X.prog X.w) X.A (subscriptTail e (.Slice lo hi (some se) p2) (.ref a) (.ref s4.heap.objs.size)) (EP X pins σ Q) X.xe {s4 with heap:=s4.heap.push {cls:=.type "slice",data:=.fields #[vl,vu,vs]}}
 refine tail_any (ops:=[.ref a,.ref s4.heap.objs.size]) ht.isList.typeIs slot_list_getitem.lookup ?_ (by with_unfolding_all rfl)
 refine wpAny_getItem_list_slice ht.isList (Heap.IsSliceOf.new ..) pl pu ps h0 ?_ (by rw[List.size_toArray] <;> omega)
 have hp:slicePick its.toArray l u st=((sliceRange (sliceBounds l u st xs.length).1 (sliceBounds l u st xs.length).2.1 (sliceBounds l u st xs.length).2.2).filterMap (its[·]?)).toArray:=by
  unfold slicePick
  rw[List.size_toArray,<- hlen]
  simp
 have hle:(pick xs l u st).length<=xs.length:=by
  have h1:=slicePick_size_le its.toArray l u st
  rw[hp,List.size_toArray,List.size_toArray,<- hlen] at h1
  have h2:=(pF r (sliceRange (sliceBounds l u st xs.length).1 (sliceBounds l u st xs.length).2.1 (sliceBounds l u st xs.length).2.2)).length
  show (List.filterMap (xs[·]?) _).length<=_
  rw[h2];exact h1
 rw[hp]
 refine⟨.ref _,_,I5.laid (t':=s4.toks) (o:=.lst (pick xs l u st)) (λb ob q=>Heap.get?_push_of_some _ q) (Nat.le_refl _) ?_,rfl,q _ (I5.hok.fresh (Nat.le_refl _))⟩
 exact⟨Nat.le_trans hle hz,_,0,pF r _,Heap.get?_push_size _ rfl⟩
end
end L2
set_option maxRecDepth 100000
set_option maxHeartbeats 4000000
namespace L2
open PySem PySem.Spec PyProof.Rows
section
variable {X : Cx} {tg : Expr}
end
end L2
set_option maxRecDepth 100000
set_option maxHeartbeats 4000000
namespace L2
open PySem PySem.Spec PyProof.Rows
def lE(x:Str)(lo hi:Option Int):Str:=
 if ((Builtin.Str.strSliceIndices lo hi 1 x.length).length == x.length)=true then x else ⟨((Builtin.Str.strSliceIndices lo hi 1 x.length).filterMap (x.cps[·]?)).toArray⟩
section
variable {X : Cx}
def Ip:V->Option Int->Option Int->Hp->VK->Prop:=λx lo hi H Q=>∃z,x=.str z/\z.length<=sizeLine/\Q (.str (lE z lo hi)) H
theorem Fh:SlR X Ip:=by
 intro pins s σ H x v vl vu lo hi sl Q I rx hs pl pu h
 obtain⟨z,rfl,hz,q⟩:=h
 obtain⟨t,rfl⟩:=rx
 refine⟨"str",_,F.slot_str_getitem.lookup,typeIs_str _ _ _, ?_⟩
 have part:∀{v:Value} {o:Option Int},IsPart v o->∃p:Option (Int×Tok),v=partValue p/\p.map (·.1)=o:=λh=>by
  cases h with
  | none=>exact⟨none,rfl,rfl⟩
  | int i t=>exact⟨some (i,t),rfl,rfl⟩
 obtain⟨l,rfl,rfl⟩:=part pl
 obtain⟨u,rfl,rfl⟩:=part pu
 refine wpAny_getItem_str_slice (l:=l) (u:=u) (st:=none) hs rfl ?_
 unfold sliceMade
 show Made.post (if (true&&((Builtin.Str.strSliceIndices (l.map (·.1)) (u.map (·.1)) 1 z.length).length == z.length))=true then _ else _) _ _
 unfold lE at q
 rw[Bool.true_and]
 by_cases hc:((Builtin.Str.strSliceIndices (l.map (·.1)) (u.map (·.1)) 1 z.length).length == z.length)=true
 ·rw[if_pos hc] at q ⊢
  exact⟨.str z,H,I,⟨t,rfl⟩,q⟩
 ·rw[if_neg hc] at q ⊢
  refine⟨?_,⟨.str _,H,I.tok _,⟨_,rfl⟩,q⟩⟩
  show (List.toArray _).size<=_
  rw[List.size_toArray]
  exact Nat.le_trans (Nat.le_trans (List.length_filterMap_le _ _) (sliceIndices_le _ _ _)) hz
end
end L2
set_option maxRecDepth 100000
set_option maxHeartbeats 4000000
namespace L2
open PySem PySem.Spec PyProof.Rows
section
variable {X : Cx}
end
end L2
set_option maxRecDepth 100000
set_option maxHeartbeats 4000000
namespace L2
open PySem PySem.Spec PyProof.Rows
section
variable {X : Cx}
end
end L2
set_option maxRecDepth 100000
set_option maxHeartbeats 4000000
namespace L2
open PySem PySem.Spec PyProof.Rows
section
variable {X : Cx}
def isT(y:Str):Value->Bool
 | .str a _=>a == y
 | _=>false
end
end L2
set_option maxRecDepth 100000
set_option maxHeartbeats 4000000
namespace L2
open PySem PySem.Spec PyProof.Rows
section
variable {prog : Program} {w : World} {A : Around} {R : Result → Shared → Prop} {I : Addr} {fp wr : List Addr} {G : Array GenState → Array GenState → Prop} {n : Nat} {P : Nat → Value → Prop} {St : Nat → Shared → Prop}
end
section
variable {prog : Program} {w : World} {A : Around} {E : Value → Shared → Prop} {s : Shared}
end
section
variable {X : Cx} {e : Expr} {te : TE} {x y : Str} {p1 p2 q1 q2 : Pos}
end
end L2
set_option maxRecDepth 100000
set_option maxHeartbeats 1000000
namespace L2
open PySem PySem.Spec PyProof.Rows PySem.W
def jg{α:Type}(lt:Nat->Nat->Bool):KasT α->α
 | .ret a=>a
 | .ask i j k=>jg lt (k (lt i j))
theorem kQ{α β:Type}(lt:Nat->Nat->Bool)(f:α->KasT β):∀t:KasT α,jg lt (t.bind f)=jg lt (f (jg lt t))
 | .ret _=>rfl
 | .ask i j k=>kQ lt f (k (lt i j))
section
variable {O : KeyOrd} (key : Nat → O.α)
def kAt(p:Array Nat)(i:Nat):O.α:=key (p.getD i 0)
abbrev ltK:Nat->Nat->Bool:=λi j=>O.blt (key i) (key j)
def eE(p:Array Nat)(m:Nat):Prop:=∀i j,i<=j->j<m->O.kle (kAt key p i) (kAt key p j)
def kA(p:Array Nat)(m:Nat):Prop:=∀i j,i<=j->j<m->O.kle (kAt key p j) (kAt key p i)
def vL(p:Array Nat)(n q:Nat):Prop:=∀i,n<=i+(q+1)->i<n->kAt key p i=kAt key p (n-1)
variable {key}
theorem rn{p p':Array Nat}{i j:Nat}(h:p'[i]? =p[j]?):kAt key p' i=kAt key p j:=by
 unfold kAt
 rw[Array.getD_eq_getD_getElem?,Array.getD_eq_getD_getElem?,h]
theorem tN{p:Array Nat}{i j:Nat}(hj:j<=p.size)(k:Nat):kAt key (kas_rev p i j) k=if i<=k/\k<j then kAt key p (i+j-1-k) else kAt key p k:=by
 have h:=getElem?_mirror_all (xs:=p) (i:=i) hj k
 split at h
 ·rename_i c
  rw[if_pos c];exact rn h
 ·rename_i c
  rw[if_neg c];exact rn h
theorem qt(p:Array Nat)(i j:Nat):(kas_rev p i j).Perm p:=mirror_perm _ _ _ _
theorem fW(p:Array Nat)(i j:Nat):(kas_rev p i j).size=p.size:=mirror_size _ _ _ _
theorem zC{p:Array Nat}{n q:Nat}(hn:n<=p.size)(hq:q+1<=n)(h:vL key p n q)(k:Nat):kAt key (kas_rev p (n-(q+1)) n) k=kAt key p k:=by
 rw[tN hn]
 split
 ·rename_i c
  rw[h _ (by omega) (by omega),h k (by omega) (by omega)]
 ·rfl
theorem eE.more{p:Array Nat}{n:Nat}(h1:1<=n)(h:eE key p n)(hn:O.kle (kAt key p (n-1)) (kAt key p n)):eE key p (n+1):=by
 intro i j hij hj
 by_cases hjn:j=n
 ·subst hjn
  by_cases hi:i=j
  ·subst hi;exact KeyOrd.kle_refl _
  ·exact KeyOrd.kle_trans (h i (j-1) (by omega) (by omega)) hn
 ·exact h i j hij (by omega)
theorem kA.more{p:Array Nat}{n:Nat}(h1:1<=n)(h:kA key p n)(hn:O.kle (kAt key p n) (kAt key p (n-1))):kA key p (n+1):=by
 intro i j hij hj
 by_cases hjn:j=n
 ·subst hjn
  by_cases hi:i=j
  ·subst hi;exact KeyOrd.kle_refl _
  ·exact KeyOrd.kle_trans hn (h i (j-1) (by omega) (by omega))
 ·exact h i j hij (by omega)
theorem wN{p:Array Nat}:∀(f n:Nat),1<=n->eE key p n->∃m,jg (ltK key) (kas_asc p f n)=m/\n<=m/\m<=n+f/\eE key p m/\(m<n+f->O.blt (kAt key p m) (kAt key p (m-1))=true)
 | 0,n,_,h=>⟨n,rfl,Nat.le_refl _,Nat.le_refl _,h,λz=>absurd z (Nat.lt_irrefl _)⟩
 | f+1,n,h1,h=>by
  show ∃m,jg (ltK key) (if O.blt (kAt key p n) (kAt key p (n-1))=true then KasT.ret n else kas_asc p f (n+1))=m/\_
  cases hc:O.blt (kAt key p n) (kAt key p (n-1)) with
  | true=>exact⟨n,rfl,Nat.le_refl _,by omega,h,λ_=>hc⟩
  | false=>
   obtain⟨m,e,a1,a2,a3,a4⟩:=wN f (n+1) (by omega) (h.more h1 hc)
   exact⟨m,e,by omega,by omega,a3,λz=>a4 (by omega)⟩
theorem qM:∀(f:Nat) (p:Array Nat) (n q:Nat),1<=n->n+f<=p.size->q+1<=n->kA key p n->vL key p n q->
 ∃p' n' q',jg (ltK key) (kas_desc f p n q)=(p',n',q')/\p'.Perm p/\p'.size=p.size/\n<=n'/\n'<=n+f/\q'+1<=n'/\kA key p' n'/\vL key p' n' q'
 | 0,p,n,q,_,_,hq,h,he=>⟨p,n,q,rfl,.refl _,rfl,Nat.le_refl _,Nat.le_refl _,hq,h,he⟩
 | f+1,p,n,q,h1,hs,hq,h,he=>by
  have even0:∀p:Array Nat,vL key p (n+1) 0:=λp i a b=>by rw[show i=n by omega];rfl
  show ∃p' n' q',jg (ltK key) (if O.blt (kAt key p n) (kAt key p (n-1))=true then (if q>0 then kas_desc f (kas_rev p (n-(q+1)) n) (n+1) 0 else kas_desc f p (n+1) 0)
   else .ask (p.getD (n-1) 0) (p.getD n 0) λd=>if d=true then .ret (p,n,q) else kas_desc f p (n+1) (q+1))=(p',n',q')/\_
  cases hc:O.blt (kAt key p n) (kAt key p (n-1)) with
  | true=>
   rw[if_pos rfl]
   have hle:O.kle (kAt key p n) (kAt key p (n-1)):=KeyOrd.kle_of_klt hc
   have hf:=h.more h1 hle
   by_cases hq0:q>0
   ·rw[if_pos hq0]
    have keep:=zC (key:=key) (p:=p) (n:=n) (q:=q) (by omega) hq he
    have hf':kA key (kas_rev p (n-(q+1)) n) (n+1):=λi j a b=>by rw[keep,keep];exact hf i j a b
    obtain⟨p',n',q',e,b1,b2,b3,b4,b5,b6,b7⟩:=qM f (kas_rev p (n-(q+1)) n) (n+1) 0 (by omega) (by rw[fW];omega) (by omega) hf' (even0 _)
    exact⟨p',n',q',e,b1.trans (qt _ _ _),b2.trans (fW _ _ _),by omega,by omega,b5,b6,b7⟩
   ·rw[if_neg hq0]
    obtain⟨p',n',q',e,b1,b2,b3,b4,b5,b6,b7⟩:=qM f p (n+1) 0 (by omega) (by omega) (by omega) hf (even0 _)
    exact⟨p',n',q',e,b1,b2,by omega,by omega,b5,b6,b7⟩
  | false=>
   rw[if_neg (by simp)]
   show ∃p' n' q',jg (ltK key) (if O.blt (kAt key p (n-1)) (kAt key p n)=true then KasT.ret (p,n,q) else kas_desc f p (n+1) (q+1))=(p',n',q')/\_
   cases hd:O.blt (kAt key p (n-1)) (kAt key p n) with
   | true=>exact⟨p,n,q,rfl,.refl _,rfl,Nat.le_refl _,by omega,hq,h,he⟩
   | false=>
    rw[if_neg (by simp)]
    have eq:kAt key p n=kAt key p (n-1):=O.total _ _ hc hd
    have he':vL key p (n+1) (q+1):=λi a b=>by
     show kAt key p i=kAt key p n
     by_cases hi:i=n
     ·rw[hi]
     ·rw[eq];exact he i (by omega) (by omega)
    obtain⟨p',n',q',e,b1,b2,b3,b4,b5,b6,b7⟩:=qM f p (n+1) (q+1) (by omega) (by omega) (by omega) (h.more h1 (by rw[eq];exact KeyOrd.kle_refl _)) he'
    exact⟨p',n',q',e,b1,b2,by omega,by omega,b5,b6,b7⟩
theorem z3{p:Array Nat}{n nrem:Nat}(h1:1<=n)(hn:n<=nrem)(hs:nrem<=p.size)(h:kA key p n):
 ∃m p',jg (ltK key) (kas_tail3 n nrem p)=(m,p')/\p'.Perm p/\p'.size=p.size/\1<=m/\m<=nrem/\eE key p' m:=by
 have so:eE key (kas_rev p 0 n) n:=λi j a b=>by
  rw[tN (by omega),tN (by omega),if_pos ⟨Nat.zero_le _,by omega⟩,if_pos ⟨Nat.zero_le _,b⟩]
  exact h _ _ (by omega) (by omega)
 obtain⟨m,e,a1,a2,a3,_⟩:=wN (nrem-n) n h1 so
 refine⟨m,kas_rev p 0 n, ?_,qt _ _ _,fW _ _ _,by omega,by omega,a3⟩
 unfold kas_tail3
 rw[kQ,e]
 rfl
theorem xb{p:Array Nat}{n nrem:Nat}(h1:1<=n)(hn:n+1<=nrem)(hs:nrem<=p.size)(h:kA key p (n+1)):
 ∃m p',jg (ltK key) (kas_descPart n nrem p)=(m,p')/\p'.Perm p/\p'.size=p.size/\1<=m/\m<=nrem/\eE key p' m:=by
 obtain⟨p1,n1,q1,e,b1,b2,b3,b4,b5,b6,b7⟩:=qM (key:=key) (nrem-(n+1)) p (n+1) 0 (by omega) (by omega) (by omega) h (λi a b=>by rw[show i=n by omega];rfl)
 unfold kas_descPart
 rw[kQ,e]
 dsimp only
 by_cases hq:q1>0
 ·rw[if_pos hq]
  have keep:=zC (key:=key) (p:=p1) (n:=n1) (q:=q1) (by omega) b5 b7
  obtain⟨m,p',e2,c1,c2,c3,c4,c5⟩:=z3 (key:=key) (p:=kas_rev p1 (n1-(q1+1)) n1) (n:=n1) (nrem:=nrem) (by omega) (by omega) (by rw[fW];omega) (λi j a b=>by rw[keep,keep];exact b6 i j a b)
  exact⟨m,p',e2,c1.trans ((qt _ _ _).trans b1),c2.trans ((fW _ _ _).trans b2),c3,c4,c5⟩
 ·rw[if_neg hq]
  obtain⟨m,p',e2,c1,c2,c3,c4,c5⟩:=z3 (key:=key) (p:=p1) (n:=n1) (nrem:=nrem) (by omega) (by omega) (by omega) b6
  exact⟨m,p',e2,c1.trans b1,c2.trans b2,c3,c4,c5⟩
theorem Fm{p:Array Nat}{nrem:Nat}(h1:1<=nrem)(hs:nrem<=p.size):
 ∃m p',jg (ltK key) (kas_count nrem p)=(m,p')/\p'.Perm p/\p'.size=p.size/\1<=m/\m<=nrem/\eE key p' m:=by
 have s1:eE key p 1:=λi j a b=>by rw[show i=j by omega];exact KeyOrd.kle_refl _
 obtain⟨n,e,a1,a2,a3,a4⟩:=wN (key:=key) (p:=p) (nrem-1) 1 (Nat.le_refl _) s1
 unfold kas_count
 rw[kQ,e]
 by_cases hn:n=nrem
 ·rw[if_pos (by simpa using hn)]
  exact⟨n,p,rfl,.refl _,rfl,a1,by omega,a3⟩
 ·rw[if_neg (by simpa using hn)]
  have down:=a4 (by omega)
  by_cases h2:n>1
  ·rw[if_pos h2]
   show ∃m p',jg (ltK key) (if O.blt (kAt key p 0) (kAt key p (n-1))=true then KasT.ret (n,p) else kas_descPart n nrem (kas_rev p 0 n))=(m,p')/\_
   cases hc:O.blt (kAt key p 0) (kAt key p (n-1)) with
   | true=>exact⟨n,p,rfl,.refl _,rfl,a1,by omega,a3⟩
   | false=>
    rw[if_neg (by simp)]
    have same:∀i,i<n->kAt key p i=kAt key p (n-1):=λi hi=>by
     refine KeyOrd.kle_antisymm (a3 i (n-1) (by omega) (by omega)) ?_
     exact KeyOrd.kle_trans (show O.kle (kAt key p (n-1)) (kAt key p 0) from hc) (a3 0 i (Nat.zero_le _) hi)
    have keys:∀i,i<=n->kAt key (kas_rev p 0 n) i=kAt key p i:=λi hi=>by
     rw[tN (by omega)]
     split
     ·rename_i c
      rw[same _ (by omega),same i (by omega)]
     ·rfl
    have fall:kA key (kas_rev p 0 n) (n+1):=by
     refine kA.more (by omega) (λi j a b=> ?_) ?_
     ·rw[keys i (by omega),keys j (by omega),same i (by omega),same j (by omega)];exact KeyOrd.kle_refl _
     ·rw[keys n (Nat.le_refl _),keys (n-1) (by omega)];exact KeyOrd.kle_of_klt down
    obtain⟨m,p',e2,c1,c2,c3,c4,c5⟩:=xb (key:=key) (p:=kas_rev p 0 n) (n:=n) (nrem:=nrem) (by omega) (by omega) (by rw[fW];omega) fall
    exact⟨m,p',e2,c1.trans (qt _ _ _),c2.trans (fW _ _ _),c3,c4,c5⟩
  ·rw[if_neg h2]
   obtain rfl:n=1:=by omega
   have fall:kA key p (1+1):=kA.more (Nat.le_refl _) (λi j a b=>by rw[show i=j by omega];exact KeyOrd.kle_refl _) (KeyOrd.kle_of_klt down)
   exact xb (by omega) (by omega) hs fall
theorem rP{p:Array Nat}{k:Nat}(hs:eE key p k):∀(f l r:Nat),l<=r->r<=k->r-l<=f->(∀i,i<l->O.kle (kAt key p i) (kAt key p k))->(∀i,r<=i->i<k->O.kle (kAt key p k) (kAt key p i))->
 ∃m,jg (ltK key) (kas_place p k f l r)=m/\m<=k/\(∀i,i<m->O.kle (kAt key p i) (kAt key p k))/\(∀i,m<=i->i<k->O.kle (kAt key p k) (kAt key p i))
 | 0,l,r,a,b,c,h1,h2=>⟨l,rfl,by omega,h1,λi hi hk=>h2 i (by omega) hk⟩
 | f+1,l,r,a,b,c,h1,h2=>by
  unfold kas_place
  by_cases hl:l ≥ r
  ·rw[if_pos hl]
   exact⟨l,rfl,by omega,h1,λi hi hk=>h2 i (by omega) hk⟩
  ·rw[if_neg hl]
   show ∃m,jg (ltK key) (if O.blt (kAt key p k) (kAt key p ((l+r)/2))=true then kas_place p k f l ((l+r)/2) else kas_place p k f ((l+r)/2+1) r)=m/\_
   cases hc:O.blt (kAt key p k) (kAt key p ((l+r)/2)) with
   | true=>
    rw[if_pos rfl]
    exact rP hs f l ((l+r)/2) (by omega) (by omega) (by omega) h1 λi hi hk=>KeyOrd.kle_trans (KeyOrd.kle_of_klt hc) (hs _ _ hi hk)
   | false=>
    rw[if_neg (by simp)]
    exact rP hs f ((l+r)/2+1) r (by omega) b (by omega) (λi hi=>KeyOrd.kle_trans (hs i ((l+r)/2) (by omega) (by omega)) hc) h2
theorem CJ:∀(f:Nat) (p:Array Nat) (k:Nat),k+f<=p.size->eE key p k->∃p',jg (ltK key) (kas_bin f p k)=p'/\p'.Perm p/\p'.size=p.size/\eE key p' (k+f)
 | 0,p,k,_,h=>⟨p,rfl,.refl _,rfl,h⟩
 | f+1,p,k,hk,h=>by
  obtain⟨m,e,m1,m2,m3⟩:=rP h k 0 k (Nat.zero_le _) (Nat.le_refl _) (by omega) (λi hi=>absurd hi (by omega)) (λi a b=>absurd b (by omega))
  have at_:∀i,kAt key (bubble p k (k-m)) i=if i=m then kAt key p k else if m<i/\i<=k then kAt key p (i-1) else kAt key p i:=λi=>by
   have g:=getElem?_bubble (xs:=p) (src:=k) (by omega) (k-m) (by omega) i
   rw[show k-(k-m)=m by omega] at g
   split at g
   ·rename_i c;rw[if_pos c];exact rn g
   ·rename_i c
    rw[if_neg c]
    split at g
    ·rename_i d;rw[if_pos d];exact rn g
    ·rename_i d;rw[if_neg d];exact rn g
  have so:eE key (bubble p k (k-m)) (k+1):=λi j a b=>by
   rw[at_,at_]
   by_cases hi:i=m
   ·rw[if_pos hi]
    by_cases hj:j=m
    ·rw[if_pos hj];exact KeyOrd.kle_refl _
    ·rw[if_neg hj,if_pos (by omega)];exact m3 _ (by omega) (by omega)
   ·rw[if_neg hi]
    by_cases hi2:m<i/\i<=k
    ·rw[if_pos hi2,if_neg (by omega),if_pos (by omega)]
     exact h _ _ (by omega) (by omega)
    ·rw[if_neg hi2]
     by_cases hj:j=m
     ·rw[if_pos hj];exact m2 i (by omega)
     ·rw[if_neg hj]
      by_cases hj2:m<j/\j<=k
      ·rw[if_pos hj2];exact h _ _ (by omega) (by omega)
      ·rw[if_neg hj2];exact h _ _ a (by omega)
  obtain⟨p',e2,c1,c2,c3⟩:=CJ f (bubble p k (k-m)) (k+1) (by rw[bubble_size];omega) so
  refine⟨p', ?_,c1.trans (bubble_perm _ _ _),c2.trans (bubble_size _ _ _), ?_⟩
  ·unfold kas_bin
   rw[kQ,e]
   exact e2
  ·rw[show k+(f+1)=k+1+f by omega];exact c3
theorem uT{n:Nat}(h1:1<=n):∃p,jg (ltK key) (kas_sort n)=p/\p.Perm (List.toArray (List.range n))/\p.size=n/\eE key p n:=by
 have sz:(List.toArray (List.range n)).size=n:=by simp
 obtain⟨m,p1,e,a1,a2,a3,a4,a5⟩:=Fm (key:=key) (p:=List.toArray (List.range n)) (nrem:=n) h1 (by omega)
 unfold kas_sort
 rw[kQ,e]
 dsimp only
 by_cases hm:m<n
 ·rw[if_pos hm,Nat.max_eq_left a3]
  obtain⟨p2,e2,b1,b2,b3⟩:=CJ (key:=key) (n-m) p1 m (by omega) a5
  exact⟨p2,e2,b1.trans a1,by omega,by rw[show m+(n-m)=n by omega] at b3;exact b3⟩
 ·rw[if_neg hm]
  obtain rfl:m=n:=by omega
  exact⟨p1,rfl,a1,by omega,a5⟩
end
end L2
set_option maxRecDepth 100000
set_option maxHeartbeats 1000000
namespace L2
open PySem PySem.Spec PyProof.Rows PySem.W
theorem lex_irrefl:∀a:List Int,HT.lexLt a a=false
 | []=>rfl
 | x::a=>by rw[HT.nI,if_pos rfl];exact lex_irrefl a
theorem lex_trans:∀a b c:List Int,HT.lexLt a b=true->HT.lexLt b c=true->HT.lexLt a c=true
 | [],[],_,h,_=>by cases h
 | [],_::_,[],_,h=>by cases h
 | [],_::_,_::_,_,_=>rfl
 | _::_,[],_,h,_=>by cases h
 | _::_,_::_,[],_,h=>by cases h
 | x::a,y::b,z::c,h1,h2=>by
  rw[HT.nI] at h1 h2 ⊢
  by_cases e1:x=y
  ·by_cases e2:y=z
   ·rw[if_pos e1] at h1
    rw[if_pos e2] at h2
    rw[if_pos (e1.trans e2)]
    exact lex_trans a b c h1 h2
   ·rw[if_neg e2] at h2
    rw[e1,if_neg e2];exact h2
  ·rw[if_neg e1] at h1
   have l1:=of_decide_eq_true h1
   by_cases e2:y=z
   ·rw[<- e2,if_neg e1];exact h1
   ·rw[if_neg e2] at h2
    have l2:=of_decide_eq_true h2
    rw[if_neg (by omega)];exact decide_eq_true (by omega)
theorem oZ:∀a b:List Int,HT.lexLt a b=false->HT.lexLt b a=false->a=b
 | [],[],_,_=>rfl
 | [],_::_,h,_=>by cases h
 | _::_,[],_,h=>by cases h
 | x::a,y::b,h1,h2=>by
  rw[HT.nI] at h1 h2
  by_cases e:x=y
  ·rw[if_pos e] at h1
   rw[if_pos e.symm] at h2
   rw[e,oZ a b h1 h2]
  ·rw[if_neg e] at h1
   rw[if_neg (Ne.symm e)] at h2
   have l1:=of_decide_eq_false h1
   have l2:=of_decide_eq_false h2
   omega
def KH:KeyOrd where
 α:=List Int
 blt:=HT.lexLt
 irrefl:=lex_irrefl
 trans:=lex_trans
 negTrans:=λa b c h=>by
  cases h1:HT.lexLt a b with
  | true=>exact .inl rfl
  | false=>
   right
   cases h2:HT.lexLt b c with
   | true=>rfl
   | false=>
    cases h3:HT.lexLt b a with
    | true=>
     have:=lex_trans b a c h3 h
     rw[h2] at this;cases this
    | false=>
     have:=oZ a b h1 h3
     subst this
     rw[h] at h2;cases h2
 total:=oZ
def Lv{α:Type}(N:Nat)(P:α->Prop):KasT α->Prop
 | .ret a=>P a
 | .ask i j k=>i<N/\j<N/\∀b,Lv N P (k b)
theorem Lv.bind{α β:Type}{N:Nat}{P:α->Prop}{P':β->Prop}{f:α->KasT β}(hf:∀a,P a->Lv N P' (f a)):∀{t:KasT α},Lv N P t->Lv N P' (t.bind f)
 | .ret a,h=>hf a h
 | .ask i j k,h=>⟨h.1,h.2.1,λb=>Lv.bind hf (h.2.2 b)⟩
def Und(N:Nat)(p:Array Nat):Prop:=∀i,p.getD i 0<N
theorem Und.of{N:Nat}{p p':Array Nat}(h:Und N p)(hp:∀i:Nat,∃j:Nat,p'[i]? =p[j]?):Und N p':=λi=>by
 obtain⟨j,e⟩:=hp i
 have:=h j
 rw[Array.getD_eq_getD_getElem?] at this ⊢
 rw[e];exact this
theorem Und.rev{N:Nat}{p:Array Nat}(h:Und N p){i j:Nat}(hj:j<=p.size):Und N (kas_rev p i j):=h.of λk=>by
 have g:=getElem?_mirror_all (xs:=p) (i:=i) hj k
 split at g
 ·exact⟨_,g⟩
 ·exact⟨_,g⟩
theorem Und.bub{N:Nat}{p:Array Nat}(h:Und N p){k d:Nat}(hk:k<p.size)(hd:d<=k):Und N (bubble p k d):=h.of λi=>by
 have g:=getElem?_bubble (xs:=p) hk d hd i
 split at g
 ·exact⟨_,g⟩
 ·split at g
  ·exact⟨_,g⟩
  ·exact⟨_,g⟩
theorem Bk{N:Nat}{p:Array Nat}(h:Und N p):∀(f n:Nat),Lv N (λm=>n<=m/\m<=n+f) (kas_asc p f n)
 | 0,n=>⟨Nat.le_refl _,Nat.le_refl _⟩
 | f+1,n=>⟨h _,h _,λb=>by
  cases b with
  | true=>exact⟨Nat.le_refl _,by omega⟩
  | false=>
   have:=Lv.bind (f:=KasT.ret) (P':=λm=>n<=m/\m<=n+(f+1)) (λa ha=>(⟨by omega,by omega⟩:n<=a/\a<=n+(f+1))) (Bk h f (n+1))
   rw[show (kas_asc p f (n+1)).bind KasT.ret=kas_asc p f (n+1) from bind_ret _] at this
   exact this⟩
where bind_ret {α:Type}:∀t:KasT α,t.bind KasT.ret=t
  | .ret _=>rfl
  | .ask i j k=>congrArg (KasT.ask i j) (funext λb=>bind_ret (k b))
theorem Lv.mono{α:Type}{N:Nat}{P P':α->Prop}(h:∀a,P a->P' a):∀{t:KasT α},Lv N P t->Lv N P' t
 | .ret a,x=>h a x
 | .ask i j k,x=>⟨x.1,x.2.1,λb=>Lv.mono h (x.2.2 b)⟩
theorem tH{N S:Nat}:∀(f:Nat) (p:Array Nat) (n q:Nat),p.size=S->n+f<=S->Und N p->Lv N (λr:Array Nat×Nat×Nat=>r.1.size=S/\Und N r.1/\n<=r.2.1/\r.2.1<=n+f) (kas_desc f p n q)
 | 0,p,n,q,hz,_,h=>⟨hz,h,Nat.le_refl _,Nat.le_refl _⟩
 | f+1,p,n,q,hz,hs,h=>⟨h _,h _,λc=>by
  have up:∀{t:KasT (Array Nat×Nat×Nat)},Lv N (λr:Array Nat×Nat×Nat=>r.1.size=S/\Und N r.1/\n+1<=r.2.1/\r.2.1<=n+1+f) t->Lv N (λr:Array Nat×Nat×Nat=>r.1.size=S/\Und N r.1/\n<=r.2.1/\r.2.1<=n+(f+1)) t:=
   Lv.mono λr ⟨a,b,c,d⟩=>⟨a,b,by omega,by omega⟩
  cases c with
  | true=>
   show Lv N _ (if q>0 then kas_desc f (kas_rev p (n-(q+1)) n) (n+1) 0 else kas_desc f p (n+1) 0)
   split
   ·exact up (tH f _ (n+1) 0 (by rw[fW];exact hz) (by omega) (h.rev (by omega)))
   ·exact up (tH f p (n+1) 0 hz (by omega) h)
  | false=>
   refine⟨h _,h _,λd=> ?_⟩
   cases d with
   | true=>exact⟨hz,h,Nat.le_refl _,Nat.le_add_right _ _⟩
   | false=>exact up (tH f p (n+1) (q+1) hz (by omega) h)⟩
theorem CM{N S n nrem:Nat}{p:Array Nat}(hz:p.size=S)(hn:n<=nrem)(hs:nrem<=S)(h:Und N p):Lv N (λr:Nat×Array Nat=>r.2.size=S/\Und N r.2/\r.1<=nrem) (kas_tail3 n nrem p):=by
 have h':Und N (kas_rev p 0 n):=h.rev (by omega)
 exact Lv.bind (f:=λm=>KasT.ret (m,kas_rev p 0 n)) (P':=λr:Nat×Array Nat=>r.2.size=S/\Und N r.2/\r.1<=nrem) (λm hm=>(⟨by rw[fW];exact hz,h',by have:=hm.2;show m<=nrem;omega⟩:(kas_rev p 0 n).size=S/\Und N (kas_rev p 0 n)/\m<=nrem)) (Bk h' (nrem-n) n)
theorem Af{N S n nrem:Nat}{p:Array Nat}(hz:p.size=S)(hn:n+1<=nrem)(hs:nrem<=S)(h:Und N p):Lv N (λr:Nat×Array Nat=>r.2.size=S/\Und N r.2/\r.1<=nrem) (kas_descPart n nrem p):=by
 refine Lv.bind (λr hr=> ?_) (tH (nrem-(n+1)) p (n+1) 0 hz (by omega) h)
 obtain⟨a,b,c,d⟩:=hr
 split
 ·exact CM (by rw[fW];exact a) (by omega) hs (b.rev (by omega))
 ·exact CM a (by omega) hs b
theorem FX{N S nrem:Nat}{p:Array Nat}(hz:p.size=S)(h1:1<=nrem)(hs:nrem<=S)(h:Und N p):Lv N (λr:Nat×Array Nat=>r.2.size=S/\Und N r.2/\r.1<=nrem) (kas_count nrem p):=by
 refine Lv.bind (λn hn=> ?_) (Bk h (nrem-1) 1)
 split
 ·exact⟨hz,h,by omega⟩
 ·rename_i hne
  have hne:¬n=nrem:=by simpa using hne
  split
  ·refine⟨h _,h _,λc=> ?_⟩
   cases c with
   | true=>exact⟨hz,h,by omega⟩
   | false=>exact Af (by rw[fW];exact hz) (by omega) hs (h.rev (by omega))
  ·exact Af hz (by omega) hs h
theorem u2{N:Nat}{p:Array Nat}{k:Nat}(h:Und N p):∀(f l r:Nat),l<=k->r<=k->Lv N (λm=>m<=k) (kas_place p k f l r)
 | 0,l,r,a,b=>a
 | f+1,l,r,a,b=>by
  unfold kas_place
  split
  ·exact a
  ·refine⟨h _,h _,λc=> ?_⟩
   cases c with
   | true=>exact u2 h f l ((l+r)/2) a (by omega)
   | false=>exact u2 h f ((l+r)/2+1) r (by omega) b
theorem EZ{N S:Nat}:∀(f:Nat) (p:Array Nat) (k:Nat),p.size=S->k+f<=S->Und N p->Lv N (λp':Array Nat=>p'.size=S) (kas_bin f p k)
 | 0,p,k,hz,_,_=>hz
 | f+1,p,k,hz,hk,h=>Lv.bind (λm hm=>EZ f _ (k+1) (by rw[bubble_size];exact hz) (by omega) (h.bub (by omega) (by omega))) (u2 h k 0 k (Nat.zero_le _) (Nat.le_refl _))
theorem Js{n:Nat}(h1:1<=n):Lv n (λp:Array Nat=>p.size=n) (kas_sort n):=by
 have sz:(List.toArray (List.range n)).size=n:=by simp
 have und:Und n (List.toArray (List.range n)):=λi=>by
  rw[Array.getD_eq_getD_getElem?,List.getElem?_toArray]
  by_cases hi:i<n
  ·simp[hi]
  ·rw[List.getElem?_eq_none (by simpa using hi)];exact h1
 refine Lv.bind (λr hr=> ?_) (FX sz h1 (Nat.le_refl _) und)
 obtain⟨a,b,c⟩:=hr
 split
 ·exact EZ _ _ _ a (by omega) b
 ·exact a
theorem Bo{α:Type}{N:Nat}{P:α->Prop}{lt:Nat->Nat->Bool}{cmp:Nat->Nat->(Bool->Shared->Prop)->Shared->Prop}{Q:α->Shared->Prop}{s:Shared}(hc:∀i j C,i<N->j<N->C (lt i j) s->cmp i j C s):
 ∀(t:KasT α),Lv N P t->Q (jg lt t) s->t.kasWp cmp Q s
 | .ret a,_,h=>h
 | .ask i j k,l,h=>hc i j _ l.1 l.2.1 (Bo hc (k (lt i j)) (l.2.2 _) h)
section
open PySem.SeqAt
open PySem.AutoSeq1 (wpAny_loadPart')
open PySem.MeetsSeq PySem.MeetsSeq2 PySem.MeetsSeq3
theorem ints_get{vs:List Value}{ns:List Int}(h:IntsAre vs ns){i:Nat}(hi:i<ns.length):∃t,vs[i]? =some (.int ns[i] t):=by
 have hl:=h.length
 have e:vs[i]? =some vs[i]:=List.getElem?_eq_getElem (by omega)
 obtain⟨t,q⟩:=h.int_at i _ e
 refine⟨t, ?_⟩
 rw[e,q]
 simp[List.getD_eq_getElem?_getD,hi]
theorem GC(l b:Addr)(items items2:Array Value)(n n2:Nat)(dd dd2:Option Addr)(sl sl2:Array (Option Value))(ns ms:List Int)(hi:IntsAre items.toList ns)(hj:IntsAre items2.toList ms)(k:Nat):
 ∀i:Nat,ns.length-i=k->i<=ns.length->i<=ms.length->Meets (Builtin.«list.__eq__.loop» ⟨[.ref l,.ref b,rawInt i,rawInt 0],[]⟩)
  (λ_ R s=>s.heap.get? l=some {cls:=.type "list",dict:=dd,data:=.seq items n,slots:=sl}/\s.heap.get? b=some {cls:=.type "list",dict:=dd2,data:=.seq items2 n2,slots:=sl2}/\
   R (.ok (.ret (.bool (HT.lexLt (ns.drop i) (ms.drop i))))) s):=by
 have z1:items.size=ns.length:=by rw[<- hi.length];simp
 have z2:items2.size=ms.length:=by rw[<- hj.length];simp
 have stop:∀i:Nat,i<=ns.length->i<=ms.length->(i=ns.length\/i=ms.length)->HT.lexLt (ns.drop i) (ms.drop i)=decide (items.size<items2.size):=by
  intro i h1 h2 h3
  by_cases e1:i=ns.length
  ·rw[e1,List.drop_length]
   by_cases e2:ns.length=ms.length
   ·rw[e2,List.drop_length];exact(decide_eq_false (by omega)).symm
   ·rw[List.drop_eq_getElem_cons (by omega)];exact(decide_eq_true (by omega)).symm
  ·have e2:i=ms.length:=by omega
   rw[e2,List.drop_length,List.drop_eq_getElem_cons (by omega)];exact(decide_eq_false (by omega)).symm
 induction k with
 | zero=>
  intro i hk h1 h2 prog w A R s h
  obtain⟨hp,g,d,tk,os⟩:=s;obtain⟨hl,hb,h⟩:=h
  have hin:i=ns.length:=by omega
  wp_walk using wpAny_loadPart' hl,wpAny_loadPart' hb
  have hi1:items[((i:Nat):Int).toNat]? =none:=by simp;omega
  rw[hi1]
  rw[stop i h1 h2 (.inl hin)] at h
  wp_walk using wpAny_loadPart' hl,wpAny_loadPart' hb
  exact h
 | succ k ih=>
  intro i hk h1 h2 prog w A R s h
  obtain⟨hp,g,d,tk,os⟩:=s;obtain⟨hl,hb,h⟩:=h
  have lt1:i<ns.length:=by omega
  obtain⟨t,et⟩:=ints_get hi lt1
  have hi1:items[((i:Nat):Int).toNat]? =some (.int ns[i] t):=by rw[Array.getElem?_toList] at et;simpa using et
  by_cases lt2:i<ms.length
  ·obtain⟨u,eu⟩:=ints_get hj lt2
   have hi2:items2[((i:Nat):Int).toNat]? =some (.int ms[i] u):=by rw[Array.getElem?_toList] at eu;simpa using eu
   wp_walk using wpAny_loadPart' hl,wpAny_loadPart' hb
   rw[hi1,hi2]
   rw[List.drop_eq_getElem_cons lt1,List.drop_eq_getElem_cons lt2,HT.nI] at h
   have hc:((i:Int)+1)=((i+1:Nat):Int):=by push_cast;rfl
   obtain⟨e,he,hiff⟩:=HT.GF A.in1 ⟨hp,g,d,tk,os⟩ ns[i] t ms[i] u
   refine wpAny_bind (he prog w _ _ ?_)
   cases e with
   | true=>
    rw[if_pos (hiff.mp rfl)] at h
    wp_walk
    rw[hc]
    exact⟨plainId_quiet plain_eq_loop _,codeAny_builtin entry_eq_loop (by
     rw[Around.under_plainId plain_eq_loop _]
     exact ih (i+1) (by omega) (by omega) (by omega) prog w A R _ ⟨hl,hb,h⟩)⟩
   | false=>
    rw[if_neg (λq=>absurd (hiff.mpr q) Bool.false_ne_true)] at h
    have hri:=HT.zM A.in1 ⟨hp,g,d,tk,os⟩ ns[i] t ms[i] u prog w
    wp_walk using wpAny_loadPart' hl,wpAny_loadPart' hb
    rw[hi1,hi2]
    wp_walk using hri
    exact h
  ·have hi2:items2[((i:Nat):Int).toNat]? =none:=by simp;omega
   wp_walk using wpAny_loadPart' hl,wpAny_loadPart' hb
   rw[hi1,hi2]
   rw[stop i h1 h2 (.inr (by omega))] at h
   wp_walk using wpAny_loadPart' hl,wpAny_loadPart' hb
   exact h
theorem Ht(l b:Addr)(items items2:Array Value)(n n2:Nat)(dd dd2:Option Addr)(sl sl2:Array (Option Value))(ns ms:List Int)(hi:IntsAre items.toList ns)(hj:IntsAre items2.toList ms):
 Meets (Builtin.«list.__lt__» ⟨[.ref l,.ref b],[]⟩)
  (λ_ R s=>s.heap.get? l=some {cls:=.type "list",dict:=dd,data:=.seq items n,slots:=sl}/\s.heap.get? b=some {cls:=.type "list",dict:=dd2,data:=.seq items2 n2,slots:=sl2}/\
   R (.ok (.ret (.bool (HT.lexLt ns ms)))) s):=by
 intro prog w A R s h
 obtain⟨hp,g,d,tk,os⟩:=s;obtain⟨hl,hb,h⟩:=h
 have f2:=AutoSeq1.sub_list_list
 wp_walk using wpAny_loadPart' hl,wpAny_loadPart' hb
 exact⟨plainId_quiet plain_eq_loop _,codeAny_builtin entry_eq_loop (by
  rw[Around.under_plainId plain_eq_loop _]
  exact GC l b items items2 n n2 dd dd2 sl sl2 ns ms hi hj _ 0 rfl (Nat.zero_le _) (Nat.zero_le _) prog w A R _ ⟨hl,hb,by simpa using h⟩)⟩
end
section
variable {prog : Program} {w : World} {A : Around} {E : Value → Shared → Prop} {s : Shared}
theorem BE {l b:Addr} {its its2:Array Value} {ns ms:List Int} {Q:Bool->Shared->Prop} (hl:s.heap.IsList l its) (hb:s.heap.IsList b its2) (hi:IntsAre its.toList ns) (hj:IntsAre its2.toList ms) (hu:A.units<cLine)
 (h:Q (HT.lexLt ns ms) s):wpAny (model prog w) A (keyLt' oneType' (.ref l) (.ref b)) Q E s:=by
 obtain⟨⟨cls,dd,data,sl⟩,ho,hc,n,hd⟩:=id hl
 obtain⟨⟨cls2,dd2,data2,sl2⟩,ho2,hc2,n2,hd2⟩:=id hb
 dsimp only at hc hd hc2 hd2
 subst hc hd hc2 hd2
 rw[keyLt'_oneType,oneLt'_eq]
 simp only[if_true]
 refine wpAny_bind (wpAny_cRoomFor hu ?_)
 refine wpAny_bind (wpAny_callSpecialIfBound?_slot ⟨_,ho,rfl⟩ PySem.F.slot_list_lt (call_meets PySem.F.slot_list_lt ⟨_,ho,rfl⟩ PySem.F.entry_list_lt (PySem.F.args_list_lt_2 _ _) (Ht l b its its2 n n2 dd dd2 sl sl2 ns ms hi hj) ⟨ho,ho2, ?_⟩))
 exact wpAny_truthy_bool h
end
end L2
set_option maxRecDepth 100000
set_option maxHeartbeats 1000000
namespace L2
open PySem PySem.Spec PyProof.Rows PySem.W
section
variable {prog : Program} {w : World} {A : Around} {E : Value → Shared → Prop} {s : Shared}
abbrev zV(nss:List (List Int)):Nat->KH.α:=λi=>nss.getD i []
def oY(vs:List Value)(p:Array Nat):Array Value:=(p.toList.map λi=>vs.getD i Value.none).toArray
def MH(h:Heap)(vs:List Value)(nss:List (List Int))(a:Addr):Prop:=∀i,i<vs.length->∃(l:Addr) (its:Array Value),vs.getD i Value.none=.ref l/\l≠a/\h.IsList l its/\IntsAre its.toList (nss.getD i [])
theorem BX(vs:List Value):oY vs (List.toArray (List.range vs.length))=vs.toArray:=by
 unfold oY
 congr 1
 refine List.ext_getElem (by simp) λi h1 h2=> ?_
 simp[List.getD_eq_getElem?_getD,h2]
theorem Lb {a:Addr} {vs:List Value} {nss:List (List Int)} {n:Nat} {P:PySem.Fin->Shared->Prop} (ho:s.heap.get? a=some (seqObj "list" vs.toArray n)) (h64:vs.length<64) (hu:A.units<cLine) (hit:MH s.heap vs nss a)
 (h:∀p:Array Nat,p.Perm (List.toArray (List.range vs.length))->eE (zV nss) p vs.length->P (.done (.ret .none)) {s with heap:=sortedHeap s.heap a vs (oY vs p)}):
 wpAny (model prog w) A (Builtin.«list.sort» ⟨[.ref a],[]⟩) P E s:=by
 rw[list_sort_plain]
 have ha:a<s.heap.objs.size:=Heap.lt_size ho
 have hln:vs.length<=sizeLine:=by rw[sizeLine_eq];omega
 refine wpAny_bind (listItems_at ho rfl ?_)
 refine wpAny_bind (listUpdate_at ho rfl ?_ (by rw[List.size_toArray];exact hln) (Nat.zero_le _))
 obtain⟨e1,ho1⟩:∃e1,(s.heap.update a (Obj.mapSeq λ_=> #[])).get? a=some (seqObj "list" #[] e1):=⟨_,get?_update_seq ho (λ_=> #[])⟩
 refine wpAny_bind (seqEpoch_at ho1 rfl ?_)
 refine wpAny_bind (wpAny_newTuple ?_ hln)
 refine wpAny_bind (wpAny_newList ?_ (Nat.zero_le _))
 refine wpAny_holding ?_
 have old:∀b o,b≠a->s.heap.get? b=some o->(((s.heap.update a (Obj.mapSeq λ_=> #[])).push (seqObj "tuple" vs.toArray 0)).push (seqObj "list" #[] 0)).get? b=some o:=λb o hb e=>
  Heap.get?_push_of_some _ (Heap.get?_push_of_some _ ((Heap.get?_update_ne _ _ _ _ hb).trans e))
 have ho6:(((s.heap.update a (Obj.mapSeq λ_=> #[])).push (seqObj "tuple" vs.toArray 0)).push (seqObj "list" #[] 0)).get? a=some (seqObj "list" #[] e1):=Heap.get?_push_of_some _ (Heap.get?_push_of_some _ ho1)
 show wpAny (model prog w) A _ P E {s with heap:=((s.heap.update a (Obj.mapSeq λ_=> #[])).push (seqObj "tuple" vs.toArray 0)).push (seqObj "list" #[] 0)}
 dsimp only
 by_cases h2:vs.toArray.size<2
 ·have fin:=h (List.toArray (List.range vs.length)) (Array.Perm.refl _) λi j hij hj=>by
   have:i=j:=by rw[List.size_toArray] at h2;omega
   subst this;exact KeyOrd.kle_refl _
  rw[BX] at fin
  rw[if_pos h2,if_pos h2]
  refine wpAny_bind (wpAny_pure ?_)
  rw[StateT.run_pure]
  refine wpAny_bind (wpAny_pure ?_)
  dsimp only
  have hz:(Array.map (λx:Keyed=>x.2) (vs.toArray.zip vs.toArray))=vs.toArray:=by
   apply Array.toList_inj.mp
   rw[Array.toList_map,Array.toList_zip]
   exact List.map_snd_zip (Nat.le_refl _)
  refine wpAny_bind (seqEpoch_at ho6 rfl ?_)
  show wpAny (model prog w) A (Builtin.List.listUpdate (.ref a) (λ_=>Array.map (λx:Keyed=>x.2) (vs.toArray.zip vs.toArray)) >>= _) P E _
  rw[hz]
  refine wpAny_bind (listUpdate_at ho6 rfl ?_ (Nat.zero_le _) (by rw[List.size_toArray];omega))
  simp only[bne_self_eq_false,Bool.false_eq_true,if_false]
  exact wpAny_pure fin
 ·rw[if_neg h2,if_neg h2]
  have l2:2<=vs.length:=by rw[List.size_toArray] at h2;omega
  obtain⟨p0,e0,q1,q2,q3⟩:=uT (key:=zV nss) (n:=vs.length) (by omega)
  refine wpAny_bind (kas_kind (T:=.type "list") l2 (λv hv=> ?_) (by decide) (by decide) ?_)
  ·obtain⟨i,hi,rfl⟩:=List.getElem_of_mem hv
   obtain⟨l,its,el,la,il,_⟩:=hit i hi
   rw[List.getD_eq_getElem?_getD,List.getElem?_eq_getElem hi] at el
   rw[show vs[i]=.ref l from el]
   intro A Q E s' k q
   obtain⟨o,ho',hc,_⟩:=il
   exact wpAny_typeOf (T:="list") ⟨o,k _ _ (old _ _ la ho'),hc⟩ q
  have est:SortSt.mk' oneType' (vs.toArray.zip vs.toArray) #[] 7 none=kas_st oneType' (pairsOf vs) (List.toArray (List.range vs.length)):=by
   have e:=kas_range (pairsOf vs)
   rw[pairsOf_size] at e
   show SortSt.mk' oneType' (pairsOf vs) #[] 7 none=SortSt.mk' oneType' ((List.toArray (List.range vs.length)).map (kas_item (pairsOf vs))) #[] 7 none
   rw[e]
  have ask:(kas_sort vs.length).kasWp (kas_ask prog w A oneType' vs) (λp s'=>p=p0/\s'={s with heap:=((s.heap.update a (Obj.mapSeq λ_=> #[])).push (seqObj "tuple" vs.toArray 0)).push (seqObj "list" #[] 0)})
   {s with heap:=((s.heap.update a (Obj.mapSeq λ_=> #[])).push (seqObj "tuple" vs.toArray 0)).push (seqObj "list" #[] 0)}:=by
   refine Bo (lt:=ltK (zV nss)) (λi j C hi hj hC=> ?_) _ (Js (by omega)) ⟨e0,rfl⟩
   obtain⟨l,its,el,la,il,ii⟩:=hit i hi
   obtain⟨m,its2,em,ma,im,ij⟩:=hit j hj
   unfold kas_ask
   rw[el,em]
   have up:∀{x:Addr} {xs:Array Value},x≠a->s.heap.IsList x xs->(((s.heap.update a (Obj.mapSeq λ_=> #[])).push (seqObj "tuple" vs.toArray 0)).push (seqObj "list" #[] 0)).IsList x xs:=λhx ⟨o,e,r⟩=>⟨o,old _ _ hx e,r⟩
   exact BE (up la il) (up ma im) ii ij hu hC
  rw[kas_ask_eq] at ask
  have run:=kas_runs (E:=E) (Q:=λ_ st' s'=>arrOf st'=p0.map (kas_item (pairsOf vs))/\failedOf st'=none/\s'={s with heap:=((s.heap.update a (Obj.mapSeq λ_=> #[])).push (seqObj "tuple" vs.toArray 0)).push (seqObj "list" #[] 0)})
   l2 h64 (λp' st' s' a1 a2 a3 a4=>⟨by rw[a2,a4.1],a3,a4.2⟩) ask
  rw[<- est] at run
  refine wpAny_bind (wpAny_mono run ?_ λ_ _ e=>e)
  rintro ⟨⟨⟩,st'⟩ s' ⟨har,hf,rfl⟩
  dsimp only
  have hout:(arrOf st').map (·.2)=oY vs p0:=by
   apply Array.toList_inj.mp
   rw[har,Array.map_map,Array.toList_map]
   exact List.map_congr_left λi _=>by show (kas_item (pairsOf vs) i).2=_;rw[kas_item_eq]
  rw[hout]
  refine wpAny_bind (seqEpoch_at ho6 rfl ?_)
  refine wpAny_bind (listUpdate_at ho6 rfl ?_ (Nat.zero_le _) (by unfold oY;rw[List.size_toArray,List.length_map,Array.length_toList,q2];omega))
  rw[hf]
  simp only[bne_self_eq_false,Bool.false_eq_true,if_false]
  exact wpAny_pure (h p0 q1 q3)
theorem Ka {l:Addr} {vs:List Value} {nss:List (List Int)} {Q:Value->Shared->Prop} (hl:s.heap.IsList l vs.toArray) (h64:vs.length<64) (hu:A.units+64<cLine)
 (hit:∀i,i<vs.length->∃(l:Addr) (its:Array Value),vs.getD i Value.none=.ref l/\s.heap.IsList l its/\IntsAre its.toList (nss.getD i []))
 (h:∀p:Array Nat,p.Perm (List.toArray (List.range vs.length))->eE (zV nss) p vs.length->Q (.ref (s.heap.objs.size+1)) {s with heap:=sortedAll s.heap vs (oY vs p)}):
 wpAny (model prog w) A (call (.builtin "sorted") [.ref l]) Q E s:=by
 have hln:vs.length<=sizeLine:=by rw[sizeLine_eq];omega
 refine Calls.call_function_entry kind_sorted plain_sorted entry_sorted (args_sorted1 _) ?_
 unfold Builtin.«sorted»
 refine wpAny_bind (m:=checkCount "sorted" 1 1 _) (wpAny_pure ?_)
 refine wpAny_bind (collect_list hl ?_ hln)
 refine wpAny_bind (wpAny_newList ?_ hln)
 have hsz:((s.heap.push (seqObj "list" #[] 0)).update s.heap.objs.size (Obj.mapSeq (·++vs.toArray))).objs.size=s.heap.objs.size+1:=by
  rw[Heap.size_update,size_push']
 have hoL:(((s.heap.push (seqObj "list" #[] 0)).update s.heap.objs.size (Obj.mapSeq (·++vs.toArray))).push (seqObj "list" vs.toArray 0)).get? (s.heap.objs.size+1)=some (seqObj "list" vs.toArray 0):=by
  rw[<- hsz];exact Heap.get?_push_size _ rfl
 have keep:∀b o,s.heap.get? b=some o->(((s.heap.push (seqObj "list" #[] 0)).update s.heap.objs.size (Obj.mapSeq (·++vs.toArray))).push (seqObj "list" vs.toArray 0)).get? b=some o:=λb o q=>by
  have hlt:b<s.heap.objs.size:=Heap.lt_size q
  exact Heap.get?_push_of_some _ ((Heap.get?_update_ne _ _ _ _ (Nat.ne_of_lt hlt)).trans (Heap.get?_push_of_some _ q))
 show wpAny _ _ _ _ _ {s with heap:=((s.heap.push (seqObj "list" #[] 0)).update s.heap.objs.size (Obj.mapSeq (·++vs.toArray))).push (seqObj "list" vs.toArray 0)}
 rw[hsz]
 refine wpAny_bind (wpAny_holding (wpAny_call_entry slot_list_sort ⟨_,hoL,rfl⟩ entry_list_sort (Lb (nss:=nss) hoL h64 ?_ (λi hi=> ?_) λp a1 a2=>⟨_,rfl, ?_⟩) (args_list_sort _)))
 ·simp only[units_in1];omega
 ·obtain⟨x,its,e,il,ii⟩:=hit i hi
  obtain⟨o,ho,r⟩:=il
  exact⟨x,its,e,Nat.ne_of_lt (Nat.lt_succ_of_lt (Heap.lt_size ho)),⟨o,keep _ _ ho,r⟩,ii⟩
 ·exact wpAny_pure ⟨_,rfl,h p a1 a2⟩
end
section
variable {α β : Type}
def qz(x:α×List Int):List (α×List Int)->List (α×List Int)
 | []=>[x]
 | y::l=>if HT.lexLt x.2 y.2=true then x::y::l else y::qz x l
def d7:List (α×List Int)->List (α×List Int)
 | []=>[]
 | x::l=>qz x (d7 l)
theorem zN{g:α×List Int->β×List Int}(hg:∀x,(g x).2=x.2)(x:α×List Int):∀l,qz (g x) (l.map g)=(qz x l).map g
 | []=>rfl
 | y::l=>by
  rw[List.map_cons]
  unfold qz
  rw[hg,hg]
  split
  ·rfl
  ·rw[List.map_cons,zN hg x l]
theorem kN{g:α×List Int->β×List Int}(hg:∀x,(g x).2=x.2):∀l,d7 (l.map g)=(d7 l).map g
 | []=>rfl
 | x::l=>by
  rw[List.map_cons]
  unfold d7
  rw[kN hg l,zN hg]
theorem r8(x:α×List Int):∀l,(qz x l).Perm (x::l)
 | []=>.refl _
 | y::l=>by
  unfold qz
  split
  ·exact .refl _
  ·exact((r8 x l).cons y).trans (List.Perm.swap x y l)
theorem gD:∀l:List (α×List Int),(d7 l).Perm l
 | []=>.refl _
 | x::l=>(r8 x _).trans ((gD l).cons x)
abbrev wz(l:List (α×List Int)):Prop:=l.Pairwise λa b=>HT.lexLt b.2 a.2=false
theorem lex_asymm{a b:List Int}(h:HT.lexLt a b=true):HT.lexLt b a=false:=by
 cases h2:HT.lexLt b a with
 | false=>rfl
 | true=>
  have:=lex_trans a b a h h2
  rw[lex_irrefl] at this;cases this
theorem D4{a b c:List Int}(h1:HT.lexLt b a=false)(h2:HT.lexLt c b=false):HT.lexLt c a=false:=KeyOrd.kle_trans (O:=KH) (a:=a) (b:=b) (c:=c) h1 h2
theorem xk(x:α×List Int):∀{l},wz l->wz (qz x l)
 | [],_=>List.pairwise_singleton _ _
 | y::l,h=>by
  unfold qz
  have hy:=List.pairwise_cons.mp h
  split
  ·rename_i c
   refine List.pairwise_cons.mpr ⟨λz hz=> ?_,h⟩
   rcases List.mem_cons.mp hz with rfl | hz
   ·exact lex_asymm c
   ·exact D4 (lex_asymm c) (hy.1 z hz)
  ·rename_i c
   refine List.pairwise_cons.mpr ⟨λz hz=> ?_,xk x hy.2⟩
   rcases List.mem_cons.mp ((r8 x l).mem_iff.mp hz) with rfl | hz
   ·exact eq_false_of_ne_true c
   ·exact hy.1 z hz
theorem nH:∀l:List (α×List Int),wz (d7 l)
 | []=>.nil
 | x::l=>xk x (nH l)
theorem JK{l:List (α×List Int)}(nd:(l.map (·.2)).Nodup){a b:α×List Int}(ha:a∈l)(hb:b∈l)(h:a.2=b.2):a=b:=by
 induction l with
 | nil=>cases ha
 | cons x l ih=>
  rw[List.map_cons,List.nodup_cons] at nd
  rcases List.mem_cons.mp ha with rfl | ha'
  ·rcases List.mem_cons.mp hb with rfl | hb
   ·rfl
   ·have q:b.2∈l.map (·.2):=List.mem_map_of_mem hb
    rw[<- h] at q
    exact absurd q nd.1
  ·rcases List.mem_cons.mp hb with rfl | hb
   ·have q:a.2∈l.map (·.2):=List.mem_map_of_mem ha'
    rw[h] at q
    exact absurd q nd.1
   ·exact ih nd.2 ha' hb
theorem uy:∀{l m:List (α×List Int)},l.Perm m->(l.map (·.2)).Nodup->wz l->wz m->l=m
 | [],m,h,_,_,_=>(List.nil_perm.mp h).symm
 | a::l,[],h,_,_,_=>absurd h.symm (by simp)
 | a::l,b::m,h,nd,hl,hm=>by
  have e:a=b:=by
   have ha:a∈b::m:=h.mem_iff.mp List.mem_cons_self
   have hb:b∈a::l:=h.mem_iff.mpr List.mem_cons_self
   rcases List.mem_cons.mp ha with e | ha
   ·exact e
   ·rcases List.mem_cons.mp hb with e | hb'
    ·exact e.symm
    ·refine JK nd List.mem_cons_self hb (oZ _ _ ((List.pairwise_cons.mp hm).1 a ha) ((List.pairwise_cons.mp hl).1 b hb'))
  subst e
  rw[uy (List.Perm.cons_inv h) (List.nodup_cons.mp nd).2 (List.pairwise_cons.mp hl).2 (List.pairwise_cons.mp hm).2]
end
section
variable {X : Cx}
def qp(K:PySem.W.Frag):List V->Hp->VK->Prop:=λxs H Q=>∃(p:Addr) (ls:List (Addr×List Int)),xs=[.ref p]/\SqL K H p (ls.map λx=>V.ref x.1)/\(∀x∈ls,SqL K H x.1 (x.2.map V.int))/\ls.length<64/\(ls.map (·.2)).Nodup/\
 ∀d,H d=none->Q (.ref d) (upd H d (.lst ((d7 ls).map λx=>V.ref x.1)))
theorem u5:∀{ls:List (Addr×List Int)} {its:List Value},Vals (ls.map λx=>V.ref x.1) its->its=ls.map λx=>Value.ref x.1
 | [],_,h=>by cases h;rfl
 | x::ls,_,h=>by
  cases h with
  | cons r rs=>cases r;rw[u5 rs];rfl
theorem vf:∀(ls:List (Addr×List Int)),Vals (ls.map λx=>V.ref x.1) (ls.map λx=>Value.ref x.1)
 | []=>.nil
 | x::ls=>.cons rfl (vf ls)
theorem sm(hu:X.A.units+64<cLine):iD X (.builtin "sorted") (qp X.K):=by
 intro pins s σ H xs us Q I r h
 obtain⟨p,ls,rfl,hq,hi,h64,nd,q⟩:=h
 obtain⟨u,rfl,ru⟩:=vals1 r
 cases ru
 obtain⟨its,rv,pl,hz⟩:=I.list hq
 obtain rfl:=u5 rv
 have ln:(ls.map λx=>Value.ref x.1).length=ls.length:=List.length_map _
 refine Ka (nss:=ls.map (·.2)) pl.isList (by rw[ln];exact h64) hu (λi hi'=> ?_) λp0 a1 a2=> ?_
 ·rw[ln] at hi'
  obtain⟨its2,r2,pl2,_⟩:=I.list (hi ls[i] (List.getElem_mem _))
  refine⟨ls[i].1,its2.toArray,by simp[List.getD_eq_getElem?_getD,hi'],pl2.isList, ?_⟩
  rw[show (ls.map (·.2)).getD i []=ls[i].2 by simp[List.getD_eq_getElem?_getD,hi']]
  simpa using nB r2
 ·rw[ln] at a1 a2
  have hm:∀i∈p0.toList,i<ls.length:=λi hi=>by
   have:=(Array.perm_iff_toList_perm.mp a1).mem_iff.mp hi
   simpa using this
  have e1:oY (ls.map λx=>Value.ref x.1) p0=((p0.toList.map λi=>ls.getD i (0,[])).map λx=>Value.ref x.1).toArray:=by
   unfold oY
   congr 1
   rw[List.map_map]
   refine List.map_congr_left λi hi=> ?_
   have:=hm i hi
   simp[List.getD_eq_getElem?_getD,this]
  have e2:(p0.toList.map λi=>ls.getD i (0,[])).Perm ls:=by
   have:=(Array.perm_iff_toList_perm.mp a1).map λi=>ls.getD i (0,[])
   refine this.trans (List.Perm.of_eq ?_)
   refine List.ext_getElem (by simp) λi h1 h2=> ?_
   simp[List.getD_eq_getElem?_getD,h2]
  have sz:p0.size=ls.length:=by have:=a1.size_eq;simpa using this
  have e3:wz (p0.toList.map λi=>ls.getD i (0,[])):=by
   refine List.pairwise_iff_getElem.mpr ?_
   intro i j hi hj hij
   have hi':i<p0.size:=by simpa using hi
   have hj':j<p0.size:=by simpa using hj
   have:=a2 i j (Nat.le_of_lt hij) (by omega)
   have k1:∀(i:Nat) (h:i<p0.size),kAt (zV (ls.map (·.2))) p0 i=(ls.getD p0[i] (0,[])).2:=λi h=>by
    have hb:=hm p0[i] (by simp)
    have e:p0.getD i 0=p0[i]:=by simp[Array.getD,h]
    unfold kAt
    rw[e]
    show (ls.map (·.2)).getD p0[i] []=_
    rw[List.getD_eq_getElem?_getD,List.getElem?_map,List.getD_eq_getElem?_getD,List.getElem?_eq_getElem hb]
    rfl
   rw[k1 i hi',k1 j hj'] at this
   rw[List.getElem_map,List.getElem_map,Array.getElem_toList,Array.getElem_toList]
   exact this
  have e4:(p0.toList.map λi=>ls.getD i (0,[]))=d7 ls:=uy (e2.trans (gD ls).symm) ((e2.map (·.2)).nodup_iff.mpr nd) e3 (nH ls)
  rw[e1,e4]
  obtain⟨e,he⟩:=sortedAll_at s.heap (ls.map λx=>Value.ref x.1) ((d7 ls).map λx=>Value.ref x.1).toArray
  have fresh:H (s.heap.objs.size+1)=none:=I.hok.fresh (Nat.le_succ _)
  refine⟨.ref (s.heap.objs.size+1),_,I.laid (t':=s.toks) (o:=.lst ((d7 ls).map λx=>V.ref x.1)) (λb o q=>sortedAll_old q) (Nat.le_succ _) ?_,rfl,q _ fresh⟩
  exact⟨by rw[List.length_map,(gD ls).length_eq];rw[List.length_map] at hz;exact hz,_,e,vf _,he⟩
end
end L2
set_option maxRecDepth 100000
set_option maxHeartbeats 1000000
namespace L2
open PySem PySem.Spec PyProof.Rows
section
variable {prog : Program} {w : World} {A : Around} {R : Result → Shared → Prop} {I : Addr} {fp wr : List Addr} {n : Nat} {P : Nat → Value → Prop} {St : Nat → Heap → Prop} {kw : List (Str × Value)}
theorem tx:(toString "min" ++toString ".loop" :String)="min.loop" :=by decide
theorem J1(W:Walks prog w A.in1 I fp wr n P St)(bt:Nat->Nat->Bool)(hcmp:CmpOf prog w A.in1 .Lt P bt)(S:Addr)(hSf:S∉fp):∀(k j:Nat) (s:Shared) (vb:Value) (c:Nat),n-(j+1)=k->j+1<=n->St (j+1) s.heap->P (argBest bt j) vb->
 s.heap.get? S=some {cls:=.type "list",dict:=none,data:=.seq #[vb,vb] c,slots:= #[]}->
 (∀v h' tk,P (argBest bt (n-1)) v->(∀b o,b∉wr->b≠S->s.heap.get? b=some o->h'.get? b=some o)->R (.ok (.ret v)) {s with heap:=h',toks:=tk})->
 codeAny (model prog w) A (.builtin "min.loop" ⟨[.ref I,.none,.ref S],kw⟩) R s:=by
 have nw:S∉wr:=λh=>hSf (W.sub _ h)
 intro k
 induction k with
 | zero=>
  intro j s vb c hk hj hst hPb hS hR
  have e:j+1=n:=by omega
  refine codeAny_builtin PySem.F.entry_min_loop ?_
  rw[Around.under_plainId PySem.F.plain_min_loop _]
  show wpAny _ A.in1 (seqItems? (.ref S) >>= _) _ _ s;refine wpAny_bind (wpAny_seqItems hS rfl ?_)
  show wpAny _ A.in1 (tryCatch (pyNext (.ref I)) _ >>= _) _ _ s;refine wpAny_bind (wpAny_tryCatch (W.done s _ _ (e▸hst) λh' tk hk'=> ?_))
  have hS1:=hk' S _ nw hS
  show wpAny _ A.in1 (updateSeq S (λ_=> #[]) >>= _) _ _ _;refine wpAny_bind ?_
  refine wpAny_updateSeq hS1 rfl (wpAny_bind (wpAny_letGo (wpAny_pure ?_)))
  exact hR vb _ tk (by rw[<- e];exact hPb) λb o h1 h2 q=>(Heap.get?_update_other _ _ (Ne.symm h2)).trans (hk' b o h1 q)
 | succ k ih=>
  intro j s vb c hk hj hst hPb hS hR
  have lt:j+1<n:=by omega
  refine codeAny_builtin PySem.F.entry_min_loop ?_
  rw[Around.under_plainId PySem.F.plain_min_loop _]
  show wpAny _ A.in1 (seqItems? (.ref S) >>= _) _ _ s;refine wpAny_bind (wpAny_seqItems hS rfl ?_)
  show wpAny _ A.in1 (tryCatch (pyNext (.ref I)) _ >>= _) _ _ s;refine wpAny_bind (wpAny_tryCatch (W.item (j+1) s _ _ lt hst λv h' tk hP hst' hk'=> ?_))
  have hS1:=hk' S _ nw hS
  show wpAny _ A.in1 (tryCatch (holding [v,v] (richCompare .Lt v vb >>= _)) _ >>= _) _ _ _;refine wpAny_bind (wpAny_tryCatch (wpAny_holding (wpAny_bind (hcmp (j+1) (argBest bt j) v vb _ _ _ hP hPb ?_))))
  refine wpAny_bind (wpAny_holding (wpAny_truthy_bool (wpAny_bind (wpAny_letGo (wpAny_pure ?_)))))
  cases hb:bt (j+1) (argBest bt j) with
  | true=>
   simp only[if_true]
   refine wpAny_bind ?_
   refine wpAny_updateSeq hS1 rfl (wpAny_bind (wpAny_letGo ?_))
   rw[tx]
   refine wpAny_pure ⟨plainId_quiet PySem.F.plain_min_loop _,ih (j+1) _ v _ (by omega) lt (W.frame _ _ _ hst' λb h1 o q=> ?_) (by simp only[argBest,hb,if_true];exact hP) (Heap.get?_update_self _ hS1 rfl) λv1 h2 tk2 hP1 hk2=> ?_⟩
   ·exact(Heap.get?_update_other _ _ (λh:S=b=>hSf (by rw[h];exact h1))).trans q
   ·exact hR v1 h2 tk2 hP1 λb o h3 h4 q=>hk2 b o h3 h4 ((Heap.get?_update_other _ _ (Ne.symm h4)).trans (hk' b o h3 q))
  | false=>
   simp only[Bool.false_eq_true,if_false]
   refine wpAny_bind (wpAny_letGo ?_)
   rw[tx]
   refine wpAny_pure ⟨plainId_quiet PySem.F.plain_min_loop _,ih (j+1) _ vb c (by omega) lt hst' (by simp only[argBest,hb,Bool.false_eq_true,if_false];exact hPb) hS1 λv1 h2 tk2 hP1 hk2=> ?_⟩
   exact hR v1 h2 tk2 hP1 λb o h3 h4 q=>hk2 b o h3 h4 (hk' b o h3 q)
end
section
variable {prog : Program} {w : World} {A : Around} {E : Value → Shared → Prop} {s : Shared}
theorem Hq(a v:Value):argsOk "min" ⟨[a],[(Str.ofString "default",v)]⟩:=by unfold argsOk;kernel_rfl
theorem BI {l:Addr} {its:List Value} {ns:List Int} {d:Value} {Q:Value->Shared->Prop} (hh:A.handled=none) (hl:s.heap.IsList l its.toArray) (hI:IntsAre its ns) (hne:0<ns.length)
 (h:∀(m:Int) (t:Tok) (h':Heap) (k:Nat),m∈ns->(∀x∈ns,m<=x)->(∀b o,s.heap.get? b=some o->h'.get? b=some o)->Q (.int m t) {s with heap:=h',toks:=k}):
 wpAny (model prog w) A (call (.builtin "min") [.ref l] [(Str.ofString "default",d)]) Q E s:=by
 have hlen:its.length=ns.length:=hI.length
 have num:∀(i:Nat) (v:Value),its.toArray[i]? =some v->∃t,v=.int (ns.getD i 0) t:=λi v e=>hI.int_at i v (by simpa using e)
 refine PyProof.Rows.kmk_tree PySem.F.kind_min PySem.F.plain_min PySem.F.entry_min (Hq _ _) ?_
 show wpAny _ A.in1 (Builtin.Builtins.bindParams "min" ["key","default"] 0 ⟨[],[(Str.ofString "default",d)]⟩ >>= _) _ _ s
 refine wpAny_bind (wpAny_of_eq (show Builtin.Builtins.bindParams "min" ["key","default"] 0 ⟨[],[(Str.ofString "default",d)]⟩=pure [none,some d] from rfl) ?_)
 refine wpAny_bind (wpAny_pure (wpAny_bind (wpAny_pyIter_list hl ?_)))
 refine wpAny_bind (wpAny_newList ?_ (Nat.zero_le _))
 rw[tx]
 have lt:l<s.heap.objs.size:=by obtain⟨_,e,_⟩:=hl;exact Heap.lt_size e
 have W:=Walks.list (prog:=prog) (w:=w) (A:=A.in1) hh s.heap.objs.size l (Nat.ne_of_lt lt) its.toArray
 have sz:its.toArray.size=ns.length:=by simp[hlen]
 have hS:(s.heap.push {cls:=.type "list_iterator",data:=.fields #[.ref l,.int 0 0]}).objs.size=s.heap.objs.size+1:=size_push' ..
 have cmp:CmpOf prog w A.in1 .Lt (λi v=>its.toArray[i]? =some v) (λi j=>decide (ns.getD i 0<ns.getD j 0)):=λi j vi vj s' Q' E' hi hj hq=>by
  obtain⟨t,rfl⟩:=num i vi hi
  obtain⟨u,rfl⟩:=num j vj hj
  exact HT.zM _ _ _ _ _ _ _ _ _ _ hq
 obtain⟨b1,b2⟩:=argBest_lt (λi=>ns.getD i 0) (ns.length-1)
 refine wpAny_pure ⟨plainId_quiet PySem.F.plain_min_loop _,codeAny_builtin PySem.F.entry_min_loop ?_⟩
 rw[Around.under_plainId PySem.F.plain_min_loop _]
 have gS:((s.heap.push {cls:=.type "list_iterator",data:=.fields #[.ref l,.int 0 0]}).push (seqObj "list" #[] 0)).get? (s.heap.push {cls:=.type "list_iterator",data:=.fields #[.ref l,.int 0 0]}).objs.size=some (seqObj "list" #[] 0):=Heap.get?_push_size _ rfl
 have gI:((s.heap.push {cls:=.type "list_iterator",data:=.fields #[.ref l,.int 0 0]}).push (seqObj "list" #[] 0)).get? s.heap.objs.size=some {cls:=.type "list_iterator",data:=.fields #[.ref l,.int 0 0]}:=Heap.get?_push_of_some _ (Heap.get?_push_size _ rfl)
 have nf:(s.heap.push {cls:=.type "list_iterator",data:=.fields #[.ref l,.int 0 0]}).objs.size∉[s.heap.objs.size,l]:=by
  rw[hS];simp only[List.mem_cons,List.mem_singleton,List.not_mem_nil,or_false,not_or]
  exact⟨Nat.ne_of_gt (Nat.lt_succ_self _),Nat.ne_of_gt (Nat.lt_succ_of_lt lt)⟩
 have nw:(s.heap.push {cls:=.type "list_iterator",data:=.fields #[.ref l,.int 0 0]}).objs.size∉[s.heap.objs.size]:=λq=>nf (by rw[List.mem_singleton.mp q];exact List.mem_cons_self)
 show wpAny _ A.in1 (seqItems? (.ref _) >>= _) _ _ _;refine wpAny_bind (wpAny_seqItems gS rfl ?_)
 show wpAny _ A.in1 (tryCatch (pyNext (.ref s.heap.objs.size)) _ >>= _) _ _ _
 refine wpAny_bind (wpAny_tryCatch (W.item 0 _ _ _ (by rw[sz];exact hne) ⟨⟨_,gI,rfl,rfl⟩,(hl.push _).push _⟩ λv h1 k1 hP hst hk1=> ?_))
 have hS1:=hk1 _ _ nw gS
 show wpAny _ A.in1 (updateSeq _ (λ_=> #[v,v]) >>= _) _ _ _
 refine wpAny_bind ?_
 refine wpAny_updateSeq hS1 rfl ?_
 rw[tx]
 refine wpAny_pure ⟨plainId_quiet PySem.F.plain_min_loop _,J1 W (λi j=>decide (ns.getD i 0<ns.getD j 0)) cmp _ nf _ 0 _ v _ rfl (by rw[sz];exact hne) (W.frame _ _ _ hst λb h2 o q=> ?_) hP (Heap.get?_update_self _ hS1 rfl) λv2 h2 k2 hP2 hk2=> ?_⟩
 ·exact(Heap.get?_update_other _ _ (λq1=>nf (by rw[q1];exact h2))).trans q
 ·obtain⟨t,rfl⟩:=num _ _ hP2
  rw[sz]
  have lb:argBest (λi j=>decide (ns.getD i 0<ns.getD j 0)) (ns.length-1)<ns.length:=by omega
  refine h _ t h2 k2 ?_ (λx hx=> ?_) λb o e=> ?_
  ·rw[List.getD_eq_getElem?_getD,List.getElem?_eq_getElem lb];exact List.getElem_mem _
  ·obtain⟨j,hj,rfl⟩:=List.getElem_of_mem hx
   have:=b2 j (by omega)
   simpa[List.getD_eq_getElem?_getD,hj] using this
  ·have hb:=Heap.lt_size e
   have n1:b≠s.heap.objs.size:=Nat.ne_of_lt hb
   have n2:b≠(s.heap.push {cls:=.type "list_iterator",data:=.fields #[.ref l,.int 0 0]}).objs.size:=by rw[hS];exact Nat.ne_of_lt (Nat.lt_succ_of_lt hb)
   refine hk2 b o (by simpa using n1) n2 ((Heap.get?_update_other _ _ (Ne.symm n2)).trans (hk1 b o (by simpa using n1) (Heap.get?_push_of_some _ (Heap.get?_push_of_some _ e))))
end
section
variable {X : Cx} {e d : Expr} {te td : TE} {p q kp : Pos}
def Ig(K:PySem.W.Frag)(te td:TE):TE:=λσ H Q=>te σ H λv H1=>td σ H1 λ_ H2=>∃(a:Addr) (ns:List Int),[v]=[V.ref a]/\SqL K H2 a (ns.map V.int)/\0<ns.length/\∀m:Int,m∈ns->(∀x∈ns,m<=x)->Q (.int m) H2
theorem JM(hc:X.calm=true)(hg:Gl X "min")(hm:X.mg "min" =none)(hv:bootBuiltins "min" =some (.builtin "min"))(he:PE X e te)(hd:PE X d td)(s1:starEach [e] X.env=[(false,eval e X.env)]:=by rfl):
 PE X (.Call (.Name "min" p) [e] [⟨some "default",d,kp⟩] q) (Ig X.K te td):=by
 intro pins s σ H Q I h
 refine wpAny_Call_Name_kw (oF I hg hm hv ?_)
 refine callWith_kw ?_ (by rw[s1];rfl) (by rw[s1];rfl)
 refine thn ((ah he ar s1) q pins s σ H (λvs H1=>td σ H1 λ_ H2=>∃(a:Addr) (ns:List Int),vs=[V.ref a]/\SqL X.K H2 a (ns.map V.int)/\0<ns.length/\∀m:Int,m∈ns->(∀x∈ns,m<=x)->Q (.int m) H2) I h) λus s2 ⟨vs,H1,I1,r1,q1⟩=> ?_
 refine kws_cons (thn (hd pins s2 σ H1 _ I1 q1) λu s3 ⟨x,H2,I2,r2,q2⟩=>kws_nil ?_)
 obtain⟨a,ns,rfl,hs,h0,qq⟩:=q2
 obtain⟨w,rfl,rw⟩:=vals1 r1
 cases rw
 obtain⟨its,rv,pl,hz⟩:=I2.list hs
 exact BI (I2.ok.hd hc) pl.isList (nB rv) h0 λm t h' k a1 a2 a3=>⟨.int m,H2,I2.kept (t':=k) a3,⟨t,rfl⟩,qq m a1 a2⟩
end
end L2
set_option maxRecDepth 100000
set_option maxHeartbeats 1000000
namespace L2
open PySem PySem.Spec PyProof.Rows
section
variable {X : Cx}
end
end L2
set_option maxRecDepth 100000
set_option maxHeartbeats 1000000
namespace L2
open PySem PySem.Spec PyProof.Rows
end L2
set_option maxRecDepth 100000
set_option maxHeartbeats 1000000
namespace L2
open PySem PySem.Spec PyProof.Rows
section
variable {X : Cx}
end
end L2
set_option maxRecDepth 100000
set_option maxHeartbeats 4000000
namespace L2
open PySem PySem.Spec PyProof.Rows
section
variable {X : Cx}
def Ii:V->List V->Hp->VK->Prop:=λx vs H Q=>∃l xs y,x=.ref l/\vs=[.int 0,y]/\H l=some (.lst xs)/\xs.length<sizeLine/\Q .non (upd H l (.lst (y::xs)))
theorem Kg:MtM X "list.insert" Ii:=by
 intro pins s σ H x vs v us Q I rx rv h
 obtain⟨l,xs,y,rfl,rfl,hH,hz,q⟩:=h
 cases rx
 cases rv with
 | cons r0 rv=>
  obtain⟨u,rfl,ru⟩:=Vals.one (show Vals [y] _ from rv)
  obtain⟨t,rfl⟩:=r0
  obtain⟨z,its,n,r,hl,e⟩:=I.lstM hH
  refine call_meets F.slot_list_insert ⟨_,e,rfl⟩ F.entry_list_insert (F.args_list_insert_3 _ _ _) (AutoSeq1.list_insert_list_int_val_1 l its.toArray n 0 t u (by decide) (by rw[List.size_toArray];omega)) ⟨e, ?_⟩
  refine⟨.non,_,I.lset (its':=u::its) hH e (by simp) (.cons ru r) ?_,rfl,q⟩
  rw[List.length_cons]
  omega
end
end L2
set_option maxRecDepth 100000
set_option maxHeartbeats 4000000
namespace M
open PySem L2
inductive D where
 | non | bl (b:Bool) | int (i:Int) | str (x:Str) | lst (xs:List D) | tup (xs:List D) | ptr (k:Nat) | obj (c:Nat) (ns:List Str) (ds:List D) | exn (c:Nat)
inductive Cell where
 | dead | lst (xs:List D) | ins (c:Nat) (ns:List Str) (ds:List D)
abbrev au:=List Cell
structure S where
 r:List (Option D)
 o:au
inductive Res (α:Type) where
 | ok (a:α) | exc (c:Nat) (a:D) (o:S) | bad
def Res.bind{α β:Type}(x:Res α)(f:α->Res β):Res β:=match x with
 | .ok a=>f a
 | .exc c a o=>.exc c a o
 | .bad=>.bad
@[simp] theorem aj {α β:Type} (a:α) (f:α->Res β):(Res.ok a).bind f=f a:=rfl
@[simp] theorem Nv {α β:Type} (c:Nat) (a:D) (o:S) (f:α->Res β):(Res.exc c a o:Res α).bind f=.exc c a o:=rfl
@[simp] theorem NB {α β:Type} (f:α->Res β):(Res.bad:Res α).bind f=.bad:=rfl
abbrev Wsh:=Nat->D->S->Hp->Hp->List Addr->Prop
structure Ct where
 K:PySem.W.Frag
 ca:Nat->Addr
 W:Wsh
mutual
def Rep(K:PySem.W.Frag)(ca:Nat->Addr)(θ:List Addr)(F:Hp):D->V->Prop
 | .non,v=>v=.non
 | .bl b,v=>v=.bl b
 | .int i,v=>v=.int i
 | .str x,v=>v=.str x
 | .lst ds,v=>∃a xs,v=.ref a/\SqL K F a xs/\ax K ca θ F ds xs
 | .tup ds,v=>∃a xs,v=.ref a/\SqT K F a xs/\ax K ca θ F ds xs
 | .ptr k,v=>∃a,v=.ref a/\θ[k]? =some a
 | .obj c ns ds,v=>∃a dx xs,v=.ref a/\F a=some (.ins (ca c) dx (ns.zip xs))/\ns.length=xs.length/\ax K ca θ F ds xs
 | .exn c,v=>∃a,v=.ref a/\F a=some (exO a (ca c))
def ax(K:PySem.W.Frag)(ca:Nat->Addr)(θ:List Addr)(F:Hp):List D->List V->Prop
 | [],xs=>xs=[]
 | d::ds,xs=>∃v r,xs=v::r/\Rep K ca θ F d v/\ax K ca θ F ds r
end
mutual
def cK:D->Bool
 | .lst ds=>aM ds
 | .tup ds=>aM ds
 | .ptr _=>false
 | .obj _ _ ds=>aM ds
 | _=>true
def aM:List D->Bool
 | []=>true
 | d::ds=>cK d&&aM ds
end
def nP:D->Bool
 | .non=>true | .bl _=>true | .int _=>true | .str _=>true | _=>false
theorem bC.seqT{K:PySem.W.Frag}{H H':Hp}{a:Addr}{xs:List V}(e:bC H H')(h:SqT K H a xs):SqT K H' a xs:=by
 rcases h with(h | ⟨o,h⟩) | h
 ·exact .inl (.inl (e _ _ h))
 ·exact .inl (.inr ⟨o,e _ _ h⟩)
 ·exact .inr h
section
variable {K : PySem.W.Frag} {ca : Nat → Addr} {θ θ1 : List Addr} {F F1 : Hp}
mutual
theorem Rep.mono(hF:bC F F1)(hθ:∃r,θ1=θ++r):∀{d:D} {v:V},Rep K ca θ F d v->Rep K ca θ1 F1 d v
 | .non,_,h=>h
 | .bl _,_,h=>h
 | .int _,_,h=>h
 | .str _,_,h=>h
 | .lst ds,_,h=>by
  unfold Rep at h ⊢
  obtain⟨a,xs,e,hs,hr⟩:=h
  exact⟨a,xs,e,hF.seq hs,ax.mono hF hθ hr⟩
 | .tup ds,_,h=>by
  unfold Rep at h ⊢
  obtain⟨a,xs,e,hs,hr⟩:=h
  exact⟨a,xs,e,bC.seqT hF hs,ax.mono hF hθ hr⟩
 | .ptr k,_,h=>by
  unfold Rep at h ⊢
  obtain⟨a,e,hk⟩:=h
  obtain⟨r,rfl⟩:=hθ
  refine⟨a,e, ?_⟩
  rw[List.getElem?_append_left (List.getElem?_eq_some_iff.mp hk).1]
  exact hk
 | .obj c ns ds,_,h=>by
  unfold Rep at h ⊢
  obtain⟨a,dx,xs,e,ha,hl,hr⟩:=h
  exact⟨a,dx,xs,e,hF _ _ ha,hl,ax.mono hF hθ hr⟩
 | .exn c,_,h=>by
  unfold Rep at h ⊢
  obtain⟨a,e,ha⟩:=h
  exact⟨a,e,hF _ _ ha⟩
theorem ax.mono(hF:bC F F1)(hθ:∃r,θ1=θ++r):∀{ds:List D} {xs:List V},ax K ca θ F ds xs->ax K ca θ1 F1 ds xs
 | [],_,h=>h
 | d::ds,_,h=>by
  unfold ax at h ⊢
  obtain⟨v,r,e,h1,h2⟩:=h
  exact⟨v,r,e,Rep.mono hF hθ h1,ax.mono hF hθ h2⟩
end
mutual
theorem Rep.pure:∀{d:D} {v:V},cK d=true->Rep K ca θ F d v->Rep K ca θ1 F d v
 | .non,_,_,h=>h
 | .bl _,_,_,h=>h
 | .int _,_,_,h=>h
 | .str _,_,_,h=>h
 | .lst ds,_,p,h=>by
  unfold Rep at h ⊢
  obtain⟨a,xs,e,hs,hr⟩:=h
  exact⟨a,xs,e,hs,ax.pure (by simpa[cK] using p) hr⟩
 | .tup ds,_,p,h=>by
  unfold Rep at h ⊢
  obtain⟨a,xs,e,hs,hr⟩:=h
  exact⟨a,xs,e,hs,ax.pure (by simpa[cK] using p) hr⟩
 | .ptr k,_,p,h=>by simp[cK] at p
 | .obj c ns ds,_,p,h=>by
  unfold Rep at h ⊢
  obtain⟨a,dx,xs,e,ha,hl,hr⟩:=h
  exact⟨a,dx,xs,e,ha,hl,ax.pure (by simpa[cK] using p) hr⟩
 | .exn c,_,_,h=>by
  unfold Rep at h ⊢
  exact h
theorem ax.pure:∀{ds:List D} {xs:List V},aM ds=true->ax K ca θ F ds xs->ax K ca θ1 F ds xs
 | [],_,_,h=>h
 | d::ds,_,p,h=>by
  unfold ax at h ⊢
  obtain⟨v,r,e,h1,h2⟩:=h
  simp only[aM,Bool.and_eq_true] at p
  exact⟨v,r,e,Rep.pure p.1 h1,ax.pure p.2 h2⟩
end
theorem Rep.scal{d:D}{v:V}(p:nP d=true)(h:Rep K ca θ F d v):Rep K ca θ1 F1 d v:=by
 cases d <;> first | exact h | (simp[nP] at p)
theorem ax.length:∀{ds:List D} {xs:List V},ax K ca θ F ds xs->xs.length=ds.length
 | [],_,h=>by unfold ax at h;rw[h];rfl
 | d::ds,_,h=>by
  unfold ax at h
  obtain⟨v,r,rfl,_,h2⟩:=h
  rw[List.length_cons,List.length_cons,ax.length h2]
theorem ax.get:∀{ds:List D} {xs:List V} {i:Nat} {d:D},ax K ca θ F ds xs->ds[i]? =some d->∃v,xs[i]? =some v/\Rep K ca θ F d v
 | [],_,_,_,_,e=>by simp at e
 | d::ds,_,0,_,h,e=>by
  unfold ax at h
  obtain⟨v,r,rfl,h1,_⟩:=h
  simp at e
  subst e
  exact⟨v,rfl,h1⟩
 | d::ds,_,i+1,x,h,e=>by
  unfold ax at h
  obtain⟨v,r,rfl,_,h2⟩:=h
  obtain⟨u,e1,e2⟩:=ax.get (i:=i) (d:=x) h2 (by simpa using e)
  exact⟨u,by simpa using e1,e2⟩
theorem ax.append:∀{ds es:List D} {xs ys:List V},ax K ca θ F ds xs->ax K ca θ F es ys->ax K ca θ F (ds++es) (xs++ys)
 | [],_,_,_,h,k=>by unfold ax at h;rw[h];exact k
 | d::ds,_,_,_,h,k=>by
  unfold ax at h
  obtain⟨v,r,rfl,h1,h2⟩:=h
  show ax K ca θ F (d::(ds++_)) (v::(r++_))
  unfold ax
  exact⟨v,_,rfl,h1,ax.append h2 k⟩
theorem ax.one{d:D}{v:V}(h:Rep K ca θ F d v):ax K ca θ F [d] [v]:=by
 unfold ax
 exact⟨v,[],rfl,h,by unfold ax;rfl⟩
theorem ax.nil:ax K ca θ F [] []:=by unfold ax;rfl
theorem ax.cons{d:D}{v:V}{ds:List D}{xs:List V}(h:Rep K ca θ F d v)(k:ax K ca θ F ds xs):ax K ca θ F (d::ds) (v::xs):=by
 unfold ax
 exact⟨v,xs,rfl,h,k⟩
theorem ax.take:∀{ds:List D} {xs:List V} (n:Nat),ax K ca θ F ds xs->ax K ca θ F (ds.take n) (xs.take n)
 | _,_,0,_=>by simp;exact ax.nil
 | [],_,n+1,h=>by unfold ax at h;rw[h];exact ax.nil
 | d::ds,_,n+1,h=>by
  unfold ax at h
  obtain⟨v,r,rfl,h1,h2⟩:=h
  exact ax.cons h1 (ax.take n h2)
theorem ax.drop:∀{ds:List D} {xs:List V} (n:Nat),ax K ca θ F ds xs->ax K ca θ F (ds.drop n) (xs.drop n)
 | _,_,0,h=>h
 | [],_,n+1,h=>by unfold ax at h;rw[h];exact ax.nil
 | d::ds,_,n+1,h=>by
  unfold ax at h
  obtain⟨v,r,rfl,h1,h2⟩:=h
  exact ax.drop n h2
theorem ax.set{d:D}{v:V}(h:Rep K ca θ F d v):∀{ds:List D} {xs:List V} (i:Nat),ax K ca θ F ds xs->ax K ca θ F (ds.set i d) (xs.set i v)
 | [],_,_,k=>by unfold ax at k;rw[k];exact ax.nil
 | _::_,_,0,k=>by
  unfold ax at k
  obtain⟨v,r,rfl,h1,h2⟩:=k
  exact ax.cons h h2
 | _::_,_,i+1,k=>by
  unfold ax at k
  obtain⟨v,r,rfl,h1,h2⟩:=k
  exact ax.cons h1 (ax.set h i h2)
theorem ax.reverse:∀{ds:List D} {xs:List V},ax K ca θ F ds xs->ax K ca θ F ds.reverse xs.reverse
 | [],_,h=>by unfold ax at h;rw[h];exact ax.nil
 | d::ds,_,h=>by
  unfold ax at h
  obtain⟨v,r,rfl,h1,h2⟩:=h
  rw[List.reverse_cons,List.reverse_cons]
  exact ax.append (ax.reverse h2) (ax.one h1)
end
structure Stp(H F:Hp)(θ:List Addr)(H1 F1:Hp)(θ1:List Addr):Prop where
 ff:bC F F1
 th:∃r,θ1=θ++r/\∀a∈r,H a=none
 kp:∀b o,H b=some o->b∉θ->H1 b=some o
 al:∀b o,H b=some o->∃o',H1 b=some o'
 nf:∀b o,F1 b=some o->F b=some o\/H b=none\/b∈θ
theorem Stp.refl{H F:Hp}{θ:List Addr}:Stp H F θ H F θ:=⟨bC.refl _,⟨[],by simp,by simp⟩,λ_ _ h _=>h,λ_ o h=>⟨o,h⟩,λ_ _ h=>.inl h⟩
theorem Stp.pre{H F H1 F1:Hp}{θ θ1:List Addr}(x:Stp H F θ H1 F1 θ1):∃r,θ1=θ++r:=let ⟨r,e,_⟩:=x.th;⟨r,e⟩
theorem Stp.trans{H F H1 F1 H2 F2:Hp}{θ θ1 θ2:List Addr}(x:Stp H F θ H1 F1 θ1)(y:Stp H1 F1 θ1 H2 F2 θ2):Stp H F θ H2 F2 θ2:=by
 obtain⟨r,rfl,hr⟩:=x.th
 obtain⟨r2,rfl,hr2⟩:=y.th
 refine⟨x.ff.trans y.ff,⟨r++r2,by rw[List.append_assoc],λa ha=> ?_⟩,λb o h hb=> ?_,λb o h=> ?_,λb o h=> ?_⟩
 ·rcases List.mem_append.mp ha with z | z
  ·exact hr a z
  ·cases e:H a with
   | none=>rfl
   | some o=>
    obtain⟨o',e'⟩:=x.al a o e
    rw[hr2 a z] at e'
    cases e'
 ·refine y.kp b o (x.kp b o h hb) λhm=> ?_
  rcases List.mem_append.mp hm with z | z
  ·exact hb z
  ·rw[hr b z] at h
   cases h
 ·obtain⟨o',e'⟩:=x.al b o h
  exact y.al b o' e'
 ·rcases y.nf b o h with z | z | z
  ·exact x.nf b o z
  ·refine .inr (.inl ?_)
   cases e:H b with
   | none=>rfl
   | some o'=>
    obtain⟨o2,e2⟩:=x.al b o' e
    rw[z] at e2
    cases e2
  ·rcases List.mem_append.mp z with q | q
   ·exact .inr (.inr q)
   ·exact .inr (.inl (hr b q))
def kb(K:PySem.W.Frag)(ca:Nat->Addr)(H F:Hp)(θ:List Addr)(a:Addr):Cell->Prop
 | .dead=>∃o,H a=some o
 | .lst ds=>F a=none/\∃xs,H a=some (.lst xs)/\ax K ca θ F ds xs
 | .ins c ns ds=>F a=none/\∃dx xs,H a=some (.ins (ca c) dx (ns.zip xs))/\ns.length=xs.length/\ax K ca θ F ds xs
theorem kb.there{K:PySem.W.Frag}{ca:Nat->Addr}{H F:Hp}{θ:List Addr}{a:Addr}{c:Cell}(h:kb K ca H F θ a c):∃o,H a=some o:=by
 cases c with
 | dead=>exact h
 | lst ds=>obtain⟨_,xs,e,_⟩:=h;exact⟨_,e⟩
 | ins c ns ds=>obtain⟨_,dx,xs,e,_⟩:=h;exact⟨_,e⟩
structure Now(K:PySem.W.Frag)(ca:Nat->Addr)(H F:Hp)(θ:List Addr)(O:au):Prop where
 fh:bC F H
 nd:θ.Nodup
 ln:θ.length=O.length
 ce:∀(k:Nat) a c,θ[k]? =some a->O[k]? =some c->kb K ca H F θ a c
theorem Now.there{K:PySem.W.Frag}{ca:Nat->Addr}{H F:Hp}{θ:List Addr}{O:au}(n:Now K ca H F θ O){a:Addr}(h:a∈θ):∃o,H a=some o:=by
 obtain⟨k,hk,e⟩:=List.getElem_of_mem h
 have h1:θ[k]? =some a:=by rw[List.getElem?_eq_getElem hk,e]
 have h2:∃c,O[k]? =some c:=⟨O[k]'(by rw[<- n.ln];exact hk),List.getElem?_eq_getElem _⟩
 obtain⟨c,h2⟩:=h2
 exact(n.ce k a c h1 h2).there
theorem Now.nil{K:PySem.W.Frag}{ca:Nat->Addr}{H F:Hp}(h:bC F H):Now K ca H F [] []:=⟨h,List.nodup_nil,rfl,λk a c e _=>by simp at e⟩
structure BS(K:PySem.W.Frag)(ca:Nat->Addr)(σ:St)(H F:Hp)(θ:List Addr)(s:S):Prop where
 now:Now K ca H F θ s.o
 len:σ.length=s.r.length
 sl:∀(i:Nat) d,s.r[i]? =some (some d)->∃v,σ[i]? =some (some v)/\Rep K ca θ F d v
theorem BS.newF{K:PySem.W.Frag}{ca:Nat->Addr}{σ:St}{H F:Hp}{θ:List Addr}{s:S}(b:BS K ca σ H F θ s){p:Addr}(hp:H p=none)(o:HO):
 Stp H F θ (upd H p o) (upd F p o) θ/\BS K ca σ (upd H p o) (upd F p o) θ s/\bC F (upd F p o)/\upd F p o p=some o:=by
 have nm:∀a u,H a=some u->a≠p:=λa u e z=>by rw[z,hp] at e;cases e
 have fp:F p=none:=by
  cases e:F p with
  | none=>rfl
  | some u=>rw[b.now.fh p u e] at hp;cases hp
 have sF:bC F (upd F p o):=λa u e=>by rw[aS (nm a u (b.now.fh a u e))];exact e
 have sH:bC H (upd H p o):=λa u e=>by rw[aS (nm a u e)];exact e
 refine⟨⟨sF,⟨[],by simp,by simp⟩,λa u e _=>sH a u e,λa u e=>⟨u,sH a u e⟩,λa u e=> ?_⟩,⟨⟨λa u e=> ?_,b.now.nd,b.now.ln,λk a c e1 e2=> ?_⟩,b.len,λi d e=> ?_⟩,sF,cV⟩
 ·by_cases h:a=p
  ·subst h;exact .inr (.inl hp)
  ·rw[aS h] at e;exact .inl e
 ·by_cases h:a=p
  ·subst h;rw[cV] at e ⊢;exact e
  ·rw[aS h] at e ⊢;exact b.now.fh a u e
 ·have q:=b.now.ce k a c e1 e2
  obtain⟨u,hu⟩:=q.there
  have ne:=nm a u hu
  cases c with
  | dead=>exact⟨u,sH a u hu⟩
  | lst ds=>
   obtain⟨q1,xs,q2,q3⟩:=q
   exact⟨by rw[aS ne];exact q1,xs,sH _ _ q2,q3.mono sF ⟨[],by simp⟩⟩
  | ins c ns ds=>
   obtain⟨q1,dx,xs,q2,q3,q4⟩:=q
   exact⟨by rw[aS ne];exact q1,dx,xs,sH _ _ q2,q3,q4.mono sF ⟨[],by simp⟩⟩
 ·obtain⟨v,h1,h2⟩:=b.sl i d e
  exact⟨v,h1,h2.mono sF ⟨[],by simp⟩⟩
theorem BS.newC{K:PySem.W.Frag}{ca:Nat->Addr}{σ:St}{H F:Hp}{θ:List Addr}{s:S}(b:BS K ca σ H F θ s){p:Addr}(hp:H p=none){ds:List D}{xs:List V}(hr:ax K ca θ F ds xs):
 Stp H F θ (upd H p (.lst xs)) F (θ++[p])/\BS K ca σ (upd H p (.lst xs)) F (θ++[p]) ⟨s.r,s.o++[.lst ds]⟩/\Rep K ca (θ++[p]) F (.ptr s.o.length) (.ref p):=by
 have nm:∀a u,H a=some u->a≠p:=λa u e z=>by rw[z,hp] at e;cases e
 have fp:F p=none:=by
  cases e:F p with
  | none=>rfl
  | some u=>rw[b.now.fh p u e] at hp;cases hp
 have sH:bC H (upd H p (.lst xs)):=λa u e=>by rw[aS (nm a u e)];exact e
 have pt:p∉θ:=λh=>by obtain⟨u,hu⟩:=b.now.there h;rw[hp] at hu;cases hu
 refine⟨⟨bC.refl _,⟨[p],rfl,by simpa using hp⟩,λa u e _=>sH a u e,λa u e=>⟨u,sH a u e⟩,λa u e=>.inl e⟩,⟨⟨b.now.fh.trans sH, ?_, ?_,λk a c e1 e2=> ?_⟩,b.len,λi d e=> ?_⟩, ?_⟩
 ·refine List.nodup_append.mpr ⟨b.now.nd,by simp,λa ha x hx=> ?_⟩
  rw[List.mem_singleton.mp hx]
  rintro rfl
  exact pt ha
 ·simp[b.now.ln]
 ·by_cases hk:k<θ.length
  ·rw[List.getElem?_append_left hk] at e1
   rw[List.getElem?_append_left (by rw[<- b.now.ln];exact hk)] at e2
   have q:=b.now.ce k a c e1 e2
   obtain⟨u,hu⟩:=q.there
   cases c with
   | dead=>exact⟨u,sH a u hu⟩
   | lst ds=>
    obtain⟨q1,ys,q2,q3⟩:=q
    exact⟨q1,ys,sH _ _ q2,q3.mono (bC.refl _) ⟨[p],rfl⟩⟩
   | ins c ns ds=>
    obtain⟨q1,dx,ys,q2,q3,q4⟩:=q
    exact⟨q1,dx,ys,sH _ _ q2,q3,q4.mono (bC.refl _) ⟨[p],rfl⟩⟩
  ·have hk1:k<(θ++[p]).length:=(List.getElem?_eq_some_iff.mp e1).1
   have hk2:k=θ.length:=by simp at hk1;omega
   subst hk2
   rw[List.getElem?_append_right (Nat.le_refl _)] at e1
   rw[List.getElem?_append_right (by rw[b.now.ln];exact Nat.le_refl _),b.now.ln] at e2
   simp at e1 e2
   subst e1;subst e2
   exact⟨fp,xs,cV,hr.mono (bC.refl _) ⟨[p],rfl⟩⟩
 ·obtain⟨v,h1,h2⟩:=b.sl i d e
  exact⟨v,h1,h2.mono (bC.refl _) ⟨[p],rfl⟩⟩
 ·unfold Rep
  exact⟨p,rfl,by rw[<- b.now.ln];simp⟩
theorem BS.set{K:PySem.W.Frag}{ca:Nat->Addr}{σ:St}{H F:Hp}{θ:List Addr}{s:S}(b:BS K ca σ H F θ s){d:D}{v:V}(h:Rep K ca θ F d v)(i:Nat):BS K ca (σ.set i (some v)) H F θ ⟨s.r.set i (some d),s.o⟩:=by
 refine⟨b.now,by simp[b.len],λj e hj=> ?_⟩
 by_cases hji:i=j
 ·subst hji
  have hlt:i<s.r.length:=by
   have:=(List.getElem?_eq_some_iff.mp hj).1
   simpa using this
  rw[List.getElem?_set_self hlt] at hj
  cases hj
  exact⟨v,List.getElem?_set_self (by rw[b.len];exact hlt),h⟩
 ·rw[List.getElem?_set_ne hji] at hj
  obtain⟨u,h1,h2⟩:=b.sl j e hj
  exact⟨u,by rw[List.getElem?_set_ne hji];exact h1,h2⟩
abbrev EM:=S->Res (D×S)
abbrev AM:=S->Res (List D×S)
inductive Out where
 | next (s:S) | ret (d:D) (s:S) | brk (s:S) | cnt (s:S) | exc (c:Nat) (a:D) (o:S) | bad
abbrev SM:=S->Out
def PoR{α:Type}(C:Ct)(H F:Hp)(θ:List Addr)(x:Res α)(k:α->Hp->Hp->List Addr->Prop):Prop:=match x with
 | .ok a=>∀H1 F1 θ1,Stp H F θ H1 F1 θ1->k a H1 F1 θ1
 | .exc c a o=>∀H1 F1 θ1,Stp H F θ H1 F1 θ1->Now C.K C.ca H1 F1 θ1 o.o->C.W c a o H1 F1 θ1
 | .bad=>False
abbrev PoE(C:Ct)(σ:St)(H F:Hp)(θ:List Addr)(x:Res (D×S))(Q:VK):Prop:=
 PoR C H F θ x λy H1 F1 θ1=>BS C.K C.ca σ H1 F1 θ1 y.2->∀v,Rep C.K C.ca θ1 F1 y.1 v->Q v H1
abbrev PoA(C:Ct)(σ:St)(H F:Hp)(θ:List Addr)(x:Res (List D×S))(Q:List V->Hp->Prop):Prop:=
 PoR C H F θ x λy H1 F1 θ1=>BS C.K C.ca σ H1 F1 θ1 y.2->∀v,ax C.K C.ca θ1 F1 y.1 v->Q v H1
abbrev PoT(C:Ct)(σ:St)(H F:Hp)(θ:List Addr)(x:Res (Bool×S))(Q:Bool->Hp->Prop):Prop:=
 PoR C H F θ x λy H1 F1 θ1=>BS C.K C.ca σ H1 F1 θ1 y.2->Q y.1 H1
abbrev PoG(C:Ct)(H F:Hp)(θ:List Addr)(x:Res S)(Q:St->Hp->Prop):Prop:=
 PoR C H F θ x λy H1 F1 θ1=>∀σ1,BS C.K C.ca σ1 H1 F1 θ1 y->Q σ1 H1
def PoS(C:Ct)(H F:Hp)(θ:List Addr)(x:Out)(Q:Ends):Prop:=match x with
 | .next s1=>∀σ1 H1 F1 θ1,Stp H F θ H1 F1 θ1->BS C.K C.ca σ1 H1 F1 θ1 s1->Q.nx σ1 H1
 | .ret d s1=>∀v σ1 H1 F1 θ1,Stp H F θ H1 F1 θ1->BS C.K C.ca σ1 H1 F1 θ1 s1->Rep C.K C.ca θ1 F1 d v->Q.rt v H1
 | .brk s1=>∀σ1 H1 F1 θ1,Stp H F θ H1 F1 θ1->BS C.K C.ca σ1 H1 F1 θ1 s1->Q.bk σ1 H1
 | .cnt s1=>∀σ1 H1 F1 θ1,Stp H F θ H1 F1 θ1->BS C.K C.ca σ1 H1 F1 θ1 s1->Q.ct σ1 H1
 | .exc c a o=>∀H1 F1 θ1,Stp H F θ H1 F1 θ1->Now C.K C.ca H1 F1 θ1 o.o->C.W c a o H1 F1 θ1
 | .bad=>False
theorem PoR.after{α:Type}{C:Ct}{H F H1 F1:Hp}{θ θ1:List Addr}{x:Res α}{k:α->Hp->Hp->List Addr->Prop}(st:Stp H F θ H1 F1 θ1)(p:PoR C H F θ x k):PoR C H1 F1 θ1 x k:=by
 unfold PoR at p ⊢
 cases x with
 | ok a=>exact λH2 F2 θ2 s2=>p H2 F2 θ2 (st.trans s2)
 | exc c a o=>exact λH2 F2 θ2 s2 n=>p H2 F2 θ2 (st.trans s2) n
 | bad=>exact p
theorem PoR.bind {α β:Type} {C:Ct} {H F:Hp} {θ:List Addr} {x:Res α} {f:α->Res β} {k:α->Hp->Hp->List Addr->Prop} {j:β->Hp->Hp->List Addr->Prop}
 (p:PoR C H F θ (x.bind f) j) (h:∀a H1 F1 θ1,x=.ok a->Stp H F θ H1 F1 θ1->PoR C H1 F1 θ1 (f a) j->k a H1 F1 θ1):PoR C H F θ x k:=by
 cases x with
 | ok a=>exact λH1 F1 θ1 st=>h a H1 F1 θ1 rfl st (PoR.after st p)
 | exc c a o=>exact p
 | bad=>exact p
theorem PoR.imp{α:Type}{C:Ct}{H F:Hp}{θ:List Addr}{x:Res α}{k j:α->Hp->Hp->List Addr->Prop}(p:PoR C H F θ x j)(h:∀a H1 F1 θ1,x=.ok a->Stp H F θ H1 F1 θ1->j a H1 F1 θ1->k a H1 F1 θ1):PoR C H F θ x k:=by
 cases x with
 | ok a=>exact λH1 F1 θ1 st=>h a H1 F1 θ1 rfl st (p H1 F1 θ1 st)
 | exc c a o=>exact p
 | bad=>exact p
theorem PoS.after{C:Ct}{H F H1 F1:Hp}{θ θ1:List Addr}{x:Out}{Q:Ends}(st:Stp H F θ H1 F1 θ1)(p:PoS C H F θ x Q):PoS C H1 F1 θ1 x Q:=by
 unfold PoS at p ⊢
 cases x with
 | next s=>exact λv H2 F2 θ2 s2 b=>p v H2 F2 θ2 (st.trans s2) b
 | ret d s=>exact λv σ2 H2 F2 θ2 s2 b r=>p v σ2 H2 F2 θ2 (st.trans s2) b r
 | brk s=>exact λv H2 F2 θ2 s2 b=>p v H2 F2 θ2 (st.trans s2) b
 | cnt s=>exact λv H2 F2 θ2 s2 b=>p v H2 F2 θ2 (st.trans s2) b
 | exc c a o=>exact λH2 F2 θ2 s2 n=>p H2 F2 θ2 (st.trans s2) n
 | bad=>exact p
def Res.out{α:Type}(x:Res α)(f:α->Out):Out:=match x with
 | .ok a=>f a
 | .exc c a o=>.exc c a o
 | .bad=>.bad
@[simp] theorem ki {α:Type} (a:α) (f:α->Out):(Res.ok a).out f=f a:=rfl
@[simp] theorem Oh {α:Type} (c:Nat) (a:D) (o:S) (f:α->Out):(Res.exc c a o:Res α).out f=.exc c a o:=rfl
@[simp] theorem N3 {α:Type} (f:α->Out):(Res.bad:Res α).out f=.bad:=rfl
theorem PoS.out {α:Type} {C:Ct} {H F:Hp} {θ:List Addr} {x:Res α} {f:α->Out} {k:α->Hp->Hp->List Addr->Prop} {Q:Ends}
 (p:PoS C H F θ (x.out f) Q) (h:∀a H1 F1 θ1,x=.ok a->Stp H F θ H1 F1 θ1->PoS C H1 F1 θ1 (f a) Q->k a H1 F1 θ1):PoR C H F θ x k:=by
 cases x with
 | ok a=>exact λH1 F1 θ1 st=>h a H1 F1 θ1 rfl st (PoS.after st p)
 | exc c a o=>exact p
 | bad=>exact p
def RdE(C:Ct)(t:TE)(m:EM):Prop:=∀σ H F θ s Q,BS C.K C.ca σ H F θ s->PoE C σ H F θ (m s) Q->t σ H Q
def RdA(C:Ct)(t:TA)(m:AM):Prop:=∀σ H F θ s Q,BS C.K C.ca σ H F θ s->PoA C σ H F θ (m s) Q->t σ H Q
abbrev TM:=S->Res (Bool×S)
def RdT(C:Ct)(t:TT)(m:TM):Prop:=∀σ H F θ s Q,BS C.K C.ca σ H F θ s->PoT C σ H F θ (m s) Q->t σ H Q
abbrev GM:=D->S->Res S
def RdG(C:Ct)(t:TG)(m:GM):Prop:=∀σ H F θ s d v Q,BS C.K C.ca σ H F θ s->Rep C.K C.ca θ F d v->PoG C H F θ (m d s) Q->t v σ H Q
def RdS(C:Ct)(t:TS)(m:SM):Prop:=∀σ H F θ s Q,BS C.K C.ca σ H F θ s->PoS C H F θ (m s) Q->t Q σ H
end M
set_option maxRecDepth 100000
set_option maxHeartbeats 4000000
namespace M
open PySem L2
section
variable {C : Ct}
@[simp] theorem gU {K ca θ F v}:Rep K ca θ F .non v↔v=.non:=by unfold Rep;exact Iff.rfl
@[simp] theorem cZ {K ca θ F v b}:Rep K ca θ F (.bl b) v↔v=.bl b:=by unfold Rep;exact Iff.rfl
@[simp] theorem bh {K ca θ F v i}:Rep K ca θ F (.int i) v↔v=.int i:=by unfold Rep;exact Iff.rfl
@[simp] theorem de {K ca θ F v x}:Rep K ca θ F (.str x) v↔v=.str x:=by unfold Rep;exact Iff.rfl
def aa(i:Nat):EM:=λs=>match s.r[i]? with
 | some (some d)=>.ok (d,s)
 | _=>.bad
theorem ag(i:Nat):RdE C (GP i) (aa i):=by
 intro σ H F θ s Q b p
 unfold aa at p
 split at p
 ·rename_i d e
  obtain⟨v,h1,h2⟩:=b.sl i d e
  exact⟨v,h1,p H F θ .refl b v h2⟩
 ·exact p.elim
def aq(d:D):EM:=λs=>.ok (d,s)
theorem aD(i:Int):RdE C (tC (.int i)) (aq (.int i)):=λσ H F θ s Q b p=>p H F θ .refl b (.int i) (bh.mpr rfl)
theorem nA(i:Bool):RdE C (tC (.bl i)) (aq (.bl i)):=λσ H F θ s Q b p=>p H F θ .refl b (.bl i) (cZ.mpr rfl)
theorem u4(i:Str):RdE C (tC (.str i)) (aq (.str i)):=λσ H F θ s Q b p=>p H F θ .refl b (.str i) (de.mpr rfl)
abbrev Op2:=au->D->D->Res D
abbrev Op1:=au->D->Res D
def gf(C:Ct)(r:R2)(f:Op2):Prop:=∀σ H F θ s x y v w Q,BS C.K C.ca σ H F θ s->Rep C.K C.ca θ F x v->Rep C.K C.ca θ F y w->
 PoE C σ H F θ ((f s.o x y).bind λd=>.ok (d,s)) Q->r v w H Q
def ao(f:Op2)(ma mb:EM):EM:=λs=>(ma s).bind λx=>(mb x.2).bind λy=>(f y.2.o x.1 y.1).bind λd=>.ok (d,y.2)
theorem aw{r:R2}{f:Op2}{ta tb:TE}{ma mb:EM}(ho:gf C r f)(ha:RdE C ta ma)(hb:RdE C tb mb):RdE C (tOp r ta tb) (ao f ma mb):=by
 intro σ H F θ s Q b p
 refine ha σ H F θ s _ b (PoR.bind p ?_)
 rintro ⟨x,s1⟩ H1 F1 θ1 _ st1 p1 b1 v r1
 refine hb σ H1 F1 θ1 s1 _ b1 (PoR.bind p1 ?_)
 rintro ⟨y,s2⟩ H2 F2 θ2 _ st2 p2 b2 w r2
 exact ho σ H2 F2 θ2 s2 x y v w Q b2 (r1.mono st2.ff st2.pre) r2 p2
def LX(C:Ct)(r:V->Hp->VK->Prop)(f:Op1):Prop:=∀σ H F θ s x v Q,BS C.K C.ca σ H F θ s->Rep C.K C.ca θ F x v->
 PoE C σ H F θ ((f s.o x).bind λd=>.ok (d,s)) Q->r v H Q
def unM(f:Op1)(ma:EM):EM:=λs=>(ma s).bind λx=>(f x.2.o x.1).bind λd=>.ok (d,x.2)
theorem vk{r:V->Hp->VK->Prop}{f:Op1}{ta:TE}{ma:EM}(ho:LX C r f)(ha:RdE C ta ma):RdE C (tUn r ta) (unM f ma):=by
 intro σ H F θ s Q b p
 refine ha σ H F θ s _ b (PoR.bind p ?_)
 rintro ⟨x,s1⟩ H1 F1 θ1 _ st1 p1 b1 v r1
 exact ho σ H1 F1 θ1 s1 x v Q b1 r1 p1
def ak:AM:=λs=>.ok ([],s)
def ae(m:EM)(r:AM):AM:=λs=>(m s).bind λx=>(r x.2).bind λy=>.ok (x.1::y.1,y.2)
theorem av:RdA C px ak:=λσ H F θ s Q b p=>p H F θ .refl b [] ax.nil
theorem ai{te:TE}{ta:TA}{m:EM}{r:AM}(he:RdE C te m)(ha:RdA C ta r):RdA C (lr te ta) (ae m r):=by
 intro σ H F θ s Q b p
 refine he σ H F θ s _ b (PoR.bind p ?_)
 rintro ⟨x,s1⟩ H1 F1 θ1 _ st1 p1 b1 v r1
 refine ha σ H1 F1 θ1 s1 _ b1 (PoR.bind p1 ?_)
 rintro ⟨y,s2⟩ H2 F2 θ2 _ st2 p2 b2 w r2
 exact p2 H2 F2 θ2 .refl b2 (v::w) (ax.cons (r1.mono st2.ff st2.pre) r2)
abbrev OpN:=au->List D->Res D
def kl(C:Ct)(r:List V->Hp->VK->Prop)(f:OpN):Prop:=∀σ H F θ s xs vs Q,BS C.K C.ca σ H F θ s->ax C.K C.ca θ F xs vs->
 PoE C σ H F θ ((f s.o xs).bind λd=>.ok (d,s)) Q->r vs H Q
def aW(f:OpN)(ma:AM):EM:=λs=>(ma s).bind λx=>(f x.2.o x.1).bind λd=>.ok (d,x.2)
theorem bg{r:List V->Hp->VK->Prop}{f:OpN}{ta:TA}{ma:AM}(hc:kl C r f)(ha:RdA C ta ma):RdE C (tCB r ta) (aW f ma):=by
 intro σ H F θ s Q b p
 refine ha σ H F θ s _ b (PoR.bind p ?_)
 rintro ⟨x,s1⟩ H1 F1 θ1 _ st1 p1 b1 v r1
 exact hc σ H1 F1 θ1 s1 x v Q b1 r1 p1
def qx(ma:AM):EM:=λs=>(ma s).bind λx=>if x.1.length<=16777216 then .ok (.tup x.1,x.2) else .bad
theorem rO{ta:TA}{ma:AM}(ha:RdA C ta ma):RdE C (Kw ta) (qx ma):=by
 intro σ H F θ s Q b p
 refine ha σ H F θ s _ b (PoR.bind p ?_)
 rintro ⟨x,s1⟩ H1 F1 θ1 _ st1 p1 b1 v r1
 dsimp only at p1
 split at p1
 ·rename_i hl
  refine⟨by rw[r1.length];exact hl,λq hq=> ?_⟩
  obtain⟨st,b2,sF,e⟩:=b1.newF hq (.tup v)
  refine p1 _ _ _ st b2 _ ?_
  unfold Rep
  exact⟨q,v,rfl,SqT.of e,r1.mono sF ⟨[],by simp⟩⟩
 ·exact p1.elim
def kF(ma:AM):EM:=λs=>(ma s).bind λx=>if x.1.length<=16777216 then .ok (.lst x.1,x.2) else .bad
theorem pI{ta:TA}{ma:AM}(ha:RdA C ta ma):RdE C (z4 ta) (kF ma):=by
 intro σ H F θ s Q b p
 refine ha σ H F θ s _ b (PoR.bind p ?_)
 rintro ⟨x,s1⟩ H1 F1 θ1 _ st1 p1 b1 v r1
 dsimp only at p1
 split at p1
 ·rename_i hl
  refine⟨by rw[r1.length];exact hl,λq hq=> ?_⟩
  obtain⟨st,b2,sF,e⟩:=b1.newF hq (.lst v)
  refine p1 _ _ _ st b2 _ ?_
  unfold Rep
  exact⟨q,v,rfl,SqL.of e,r1.mono sF ⟨[],by simp⟩⟩
 ·exact p1.elim
def jm(ma:AM):EM:=λs=>(ma s).bind λx=>if x.1.length<=16777216 then .ok (.ptr x.2.o.length,⟨x.2.r,x.2.o++[.lst x.1]⟩) else .bad
theorem jJ{ta:TA}{ma:AM}(ha:RdA C ta ma):RdE C (z4 ta) (jm ma):=by
 intro σ H F θ s Q b p
 refine ha σ H F θ s _ b (PoR.bind p ?_)
 rintro ⟨x,s1⟩ H1 F1 θ1 _ st1 p1 b1 v r1
 dsimp only at p1
 split at p1
 ·rename_i hl
  refine⟨by rw[r1.length];exact hl,λq hq=> ?_⟩
  obtain⟨st,b2,rp⟩:=b1.newC hq r1
  exact p1 _ _ _ st b2 _ rp
 ·exact p1.elim
def bj(m:EM):TM:=λs=>(m s).bind λx=>match x.1 with
 | .bl b=>.ok (b,x.2)
 | _=>.bad
theorem bW{t:TE}{m:EM}(h:RdE C t m):RdT C (Dq t) (bj m):=by
 intro σ H F θ s Q b p
 refine h σ H F θ s _ b (PoR.bind p ?_)
 rintro ⟨x,s1⟩ H1 F1 θ1 _ st1 p1 b1 v r1
 cases x <;> first | exact False.elim p1 | skip
 rename_i k _
 exact⟨k,cZ.mp r1,p1 _ _ _ .refl b1⟩
theorem nr{t:TE}{m:EM}(h:RdE C t m):RdT C (tB t) (bj m):=bW h
def p9(a b:TM):TM:=λs=>(a s).bind λx=>if x.1 then b x.2 else .ok (false,x.2)
def orT(a b:TM):TM:=λs=>(a s).bind λx=>if x.1 then .ok (true,x.2) else b x.2
def mX(a:TM):TM:=λs=>(a s).bind λx=>.ok (!x.1,x.2)
theorem Ap{t u:TT}{a b:TM}(ha:RdT C t a)(hb:RdT C u b):RdT C (KG t u) (p9 a b):=by
 intro σ H F θ s Q bs p
 refine ha σ H F θ s _ bs (PoR.bind p ?_)
 rintro ⟨x,s1⟩ H1 F1 θ1 _ st1 p1 b1
 cases x with
 | true=>exact uw (hb σ H1 F1 θ1 s1 Q b1 p1)
 | false=>exact uI (p1 _ _ _ .refl b1)
theorem vz{t u:TT}{a b:TM}(ha:RdT C t a)(hb:RdT C u b):RdT C (tOr t u) (orT a b):=by
 intro σ H F θ s Q bs p
 refine ha σ H F θ s _ bs (PoR.bind p ?_)
 rintro ⟨x,s1⟩ H1 F1 θ1 _ st1 p1 b1
 cases x with
 | true=>exact uw (p1 _ _ _ .refl b1)
 | false=>exact uI (hb σ H1 F1 θ1 s1 Q b1 p1)
theorem p7{t:TT}{a:TM}(ha:RdT C t a):RdT C (Mh t) (mX a):=by
 intro σ H F θ s Q bs p
 refine ha σ H F θ s _ bs (PoR.bind p ?_)
 rintro ⟨x,s1⟩ H1 F1 θ1 _ st1 p1 b1
 exact p1 _ _ _ .refl b1
def Bi(a b:EM):EM:=λs=>(a s).bind λx=>match x.1 with
 | .bl true=>b x.2
 | .bl false=>.ok (.bl false,x.2)
 | _=>.bad
def orV(a b:EM):EM:=λs=>(a s).bind λx=>match x.1 with
 | .bl true=>.ok (.bl true,x.2)
 | .bl false=>b x.2
 | _=>.bad
def zj(a:EM):EM:=λs=>(a s).bind λx=>match x.1 with
 | .bl k=>.ok (.bl (!k),x.2)
 | _=>.bad
theorem CS{t u:TE}{a b:EM}(ha:RdE C t a)(hb:RdE C u b):RdE C (IA t u) (Bi a b):=by
 intro σ H F θ s Q bs p
 refine ha σ H F θ s _ bs (PoR.bind p ?_)
 rintro ⟨x,s1⟩ H1 F1 θ1 _ st1 p1 b1 v r1
 cases x <;> first | exact False.elim p1 | skip
 rename_i k _
 refine⟨k,cZ.mp r1, ?_⟩
 cases k with
 | true=>exact uw (hb σ H1 F1 θ1 s1 Q b1 p1)
 | false=>exact uI (p1 _ _ _ .refl b1 _ (cZ.mpr rfl))
theorem C0{t:TE}{a:EM}(ha:RdE C t a):RdE C (IB t) (zj a):=by
 intro σ H F θ s Q bs p
 refine ha σ H F θ s _ bs (PoR.bind p ?_)
 rintro ⟨x,s1⟩ H1 F1 θ1 _ st1 p1 b1 v r1
 cases x <;> first | exact False.elim p1 | skip
 rename_i k _
 exact⟨k,cZ.mp r1,p1 _ _ _ .refl b1 _ (cZ.mpr rfl)⟩
def ifM(c:TM)(a b:EM):EM:=λs=>(c s).bind λx=>if x.1 then a x.2 else b x.2
def Out.then(x:Out)(f:S->Out):Out:=match x with
 | .next s=>f s
 | o=>o
@[simp] theorem xO (s:S) (f:S->Out):(Out.next s).then f=f s:=rfl
@[simp] theorem NP (d:D) (s:S) (f:S->Out):(Out.ret d s).then f=.ret d s:=rfl
@[simp] theorem Nn (s:S) (f:S->Out):(Out.brk s).then f=.brk s:=rfl
@[simp] theorem ND (s:S) (f:S->Out):(Out.cnt s).then f=.cnt s:=rfl
@[simp] theorem Ny (c:Nat) (a:D) (o:S) (f:S->Out):(Out.exc c a o).then f=.exc c a o:=rfl
@[simp] theorem NH (f:S->Out):Out.bad.then f=.bad:=rfl
def aP(a b:SM):SM:=λs=>(a s).then b
def cL:SM:=λs=>.next s
theorem cH:RdS C Iu cL:=λσ H F θ s Q b p=>p σ H F θ .refl b
theorem aJ{t u:TS}{a b:SM}(ha:RdS C t a)(hb:RdS C u b):RdS C (Kx t u) (aP a b):=by
 intro σ H F θ s Q bs p
 refine ha σ H F θ s _ bs ?_
 unfold aP at p
 cases e:a s with
 | next s1=>
  rw[e] at p
  intro σ1 H1 F1 θ1 st1 b1
  exact hb σ1 H1 F1 θ1 s1 Q b1 (PoS.after st1 p)
 | ret d s1=>rw[e] at p;exact p
 | brk s1=>rw[e] at p;exact p
 | cnt s1=>rw[e] at p;exact p
 | exc c a o=>rw[e] at p;exact p
 | bad=>rw[e] at p;exact p
def cR(m:EM):SM:=λs=>(m s).out λx=>.next x.2
theorem cP{t:TE}{m:EM}(h:RdE C t m):RdS C (Il t) (cR m):=by
 intro σ H F θ s Q b p
 refine h σ H F θ s _ b (PoS.out p ?_)
 rintro ⟨x,s1⟩ H1 F1 θ1 _ st1 p1 b1 v r1
 exact p1 σ H1 F1 θ1 .refl b1
def cv(m:EM):SM:=λs=>(m s).out λx=>.ret x.1 x.2
theorem bD{t:TE}{m:EM}(h:RdE C t m):RdS C (LG t) (cv m):=by
 intro σ H F θ s Q b p
 refine h σ H F θ s _ b (PoS.out p ?_)
 rintro ⟨x,s1⟩ H1 F1 θ1 _ st1 p1 b1 v r1
 exact p1 v σ H1 F1 θ1 .refl b1 r1
def Nq:SM:=λs=>.ret .non s
def ifS(c:TM)(a b:SM):SM:=λs=>(c s).out λx=>if x.1 then a x.2 else b x.2
theorem dI{t:TT}{u w:TS}{c:TM}{a b:SM}(hc:RdT C t c)(ha:RdS C u a)(hb:RdS C w b):RdS C (LZ t u w) (ifS c a b):=by
 intro σ H F θ s Q bs p
 refine hc σ H F θ s _ bs (PoS.out p ?_)
 rintro ⟨x,s1⟩ H1 F1 θ1 _ st1 p1 b1
 cases x with
 | true=>exact uw (ha σ H1 F1 θ1 s1 Q b1 p1)
 | false=>exact uI (hb σ H1 F1 θ1 s1 Q b1 p1)
def rV:SM:=λ_=>.bad
theorem kD:RdS C Fc rV:=λσ H F θ s Q b p=>p
def aB(i:Nat):GM:=λd s=>.ok ⟨s.r.set i (some d),s.o⟩
theorem aL(i:Nat):RdG C (tT i) (aB i):=λσ H F θ s d v Q b r p=>p H F θ .refl _ (b.set r i)
def Dv(C:Ct)(t:TGs)(m:List D->S->Res S):Prop:=∀σ H F θ s ds vs Q,BS C.K C.ca σ H F θ s->ax C.K C.ca θ F ds vs->PoG C H F θ (m ds s) Q->t vs σ H Q
def dO:List D->S->Res S:=λds s=>match ds with
 | []=>.ok s
 | _=>.bad
def ba(g:GM)(r:List D->S->Res S):List D->S->Res S:=λds s=>match ds with
 | d::ds=>(g d s).bind λs1=>r ds s1
 | []=>.bad
theorem gv:Dv C Ma dO:=by
 intro σ H F θ s ds vs Q b r p
 cases ds with
 | nil=>exact⟨by unfold ax at r;exact r,p H F θ .refl σ b⟩
 | cons d ds=>exact False.elim p
theorem cx{t:TG}{u:TGs}{g:GM}{m:List D->S->Res S}(hg:RdG C t g)(hr:Dv C u m):Dv C (Ir t u) (ba g m):=by
 intro σ H F θ s ds vs Q b r p
 cases ds with
 | nil=>exact False.elim p
 | cons d ds=>
  unfold ax at r
  obtain⟨v,w,rfl,r1,r2⟩:=r
  refine⟨v,w,rfl,hg σ H F θ s d v _ b r1 (PoR.bind p ?_)⟩
  intro s1 H1 F1 θ1 _ st1 p1 σ1 b1
  exact hr σ1 H1 F1 θ1 s1 ds w Q b1 (r2.mono st1.ff st1.pre) p1
def dG(m:List D->S->Res S)(n:Nat):GM:=λd s=>match d with
 | .tup ds=>if ds.length=n then m ds s else .bad
 | _=>.bad
theorem gu{n:Nat}{t:TGs}{m:List D->S->Res S}(h:Dv C t m):RdG C (LY C.K n t) (dG m n):=by
 intro σ H F θ s d v Q b r p
 cases d <;> first | exact False.elim p | skip
 rename_i ds
 unfold Rep at r
 obtain⟨a,xs,rfl,hs,hr⟩:=r
 unfold dG at p
 dsimp only at p
 split at p
 ·rename_i hl
  exact⟨a,xs,rfl,bC.seqT b.now.fh hs,by rw[hr.length];exact hl,h σ H F θ s ds xs Q b hr p⟩
 ·exact False.elim p
def m5(m:EM)(g:GM):SM:=λs=>((m s).bind λx=>g x.1 x.2).out λs=>.next s
theorem yP{t:TE}{m:EM}{g:TG}{gm:GM}(h:RdE C t m)(hg:RdG C g gm):RdS C (yS t g) (m5 m gm):=by
 intro σ H F θ s Q b p
 have p':PoG C H F θ ((m s).bind λx=>gm x.1 x.2) Q.nx:=PoS.out p λs1 H1 F1 θ1 _ st1 p1 σ1 b1=>p1 σ1 H1 F1 θ1 .refl b1
 refine h σ H F θ s _ b (PoR.bind p' ?_)
 rintro ⟨x,s1⟩ H1 F1 θ1 _ st1 p1 b1 v r1
 exact hg σ H1 F1 θ1 s1 x v Q.nx b1 r1 p1
abbrev setM(i:Nat)(m:EM):SM:=m5 m (aB i)
theorem aX{t:TE}{m:EM}{i:Nat}(h:RdE C t m):RdS C (yS t (tT i)) (setM i m):=yP h (aL i)
def NG(i:Nat)(f:Op2)(m:EM):SM:=setM i (ao f (aa i) m)
end
end M
set_option maxRecDepth 100000
set_option maxHeartbeats 4000000
namespace M
open PySem PySem.Spec PyProof.Rows L2
section
variable {C : Ct}
structure vQ(C:Ct)(J:It)(ds:List D)(ok:au->Prop)(H F:Hp)(θ:List Addr):Prop where
 go:∀(i:Nat) H2 F2 θ2 O2,i<ds.length->Stp H F θ H2 F2 θ2->Now C.K C.ca H2 F2 θ2 O2->ok O2->J.go i H2
 yl:∀(i:Nat) d σ H2 F2 θ2 s2 x H3,ds[i]? =some d->Stp H F θ H2 F2 θ2->BS C.K C.ca σ H2 F2 θ2 s2->ok s2.o->J.yld i H2 x H3->∃F3,Stp H2 F2 θ2 H3 F3 θ2/\BS C.K C.ca σ H3 F3 θ2 s2/\Rep C.K C.ca θ2 F3 d x
 st:∀(i:Nat) H2 F2 θ2 O2,ds.length<=i->Stp H F θ H2 F2 θ2->Now C.K C.ca H2 F2 θ2 O2->ok O2->J.stop i H2
def okC(ds:List D):Option Nat->au->Prop
 | none,_=>True
 | some k,O=>O[k]? =some (.lst ds)
abbrev IM:=S->Res ((List D×Option Nat)×S)
def RdI(C:Ct)(wi:TI)(im:IM):Prop:=∀σ H F θ s R,BS C.K C.ca σ H F θ s->
 PoR C H F θ (im s) (λy H1 F1 θ1=>BS C.K C.ca σ H1 F1 θ1 y.2->∀J,vQ C J y.1.1 (okC y.1.1 y.1.2) H1 F1 θ1->R J H1)->wi σ H R
open Classical in
noncomputable def cS (ok:au->Prop)(g:GM)(body:SM):List D->S->Out
 | [],s=>if ok s.o then .next s else .bad
 | d::ds,s=>if ok s.o then (g d s).out λs1=>match body s1 with
  | .next s2=>cS ok g body ds s2
  | .cnt s2=>cS ok g body ds s2
  | .brk s2=>.next s2
  | o=>o
  else .bad
noncomputable def eR (im:IM)(g:GM)(body:SM):SM:=λs=>(im s).out λy=>cS (okC y.1.1 y.1.2) g body y.1.1 y.2
theorem d5{wi:TI}{g:TG}{tb:TS}{im:IM}{gm:GM}{bm:SM}(hi:RdI C wi im)(hg:RdG C g gm)(hb:RdS C tb bm):RdS C (Mc wi g tb) (eR im gm bm):=by
 intro σ H F θ s Q b p
 refine hi σ H F θ s _ b (PoS.out p ?_)
 rintro ⟨⟨ds,k⟩,s1⟩ H1 F1 θ1 _ st1 p1 b1 J it
 dsimp only at p1 it b1
 refine⟨λi m σ' H'=>m=ds.length-i/\i<=ds.length/\∃F' θ' s',Stp H1 F1 θ1 H' F' θ'/\BS C.K C.ca σ' H' F' θ' s'/\PoS C H' F' θ' (cS (okC ds k) gm bm (ds.drop i) s') Q,⟨ds.length,by simp,Nat.zero_le _,F1,θ1,s1,.refl,b1,by simpa using p1⟩, ?_⟩
 rintro i m σ' H' ⟨rfl,hil,F',θ',s',st,bs,po⟩
 by_cases lt:i<ds.length
 ·right
  rw[List.drop_eq_getElem_cons lt,cS] at po
  split at po
  ·rename_i hok
   refine⟨it.go i H' F' θ' s'.o lt st bs.now hok,λσ2 H2=>i+1<=ds.length/\∃F2 θ2 s2,Stp H1 F1 θ1 H2 F2 θ2/\BS C.K C.ca σ2 H2 F2 θ2 s2/\PoS C H2 F2 θ2 (cS (okC ds k) gm bm (ds.drop (i+1)) s2) Q,λσ2 H2 n=>⟨ds.length-(i+1),by omega,rfl,n⟩, ?_⟩
   intro x H3 hy
   obtain⟨F3,st3,b3,rp⟩:=it.yl i ds[i] σ' H' F' θ' s' x H3 (List.getElem?_eq_getElem lt) st bs hok hy
   refine hg σ' H3 F3 θ' s' ds[i] x _ b3 rp (PoS.out (PoS.after st3 po) ?_)
   intro s4 H4 F4 θ4 _ st4 p4 σ4 b4
   refine hb σ4 H4 F4 θ4 s4 _ b4 ?_
   have fin:∀s5,PoS C H4 F4 θ4 (cS (okC ds k) gm bm (ds.drop (i+1)) s5) Q->∀σ5 H5 F5 θ5,Stp H4 F4 θ4 H5 F5 θ5->BS C.K C.ca σ5 H5 F5 θ5 s5->i+1<=ds.length/\∃F2 θ2 s2,Stp H1 F1 θ1 H5 F2 θ2/\BS C.K C.ca σ5 H5 F2 θ2 s2/\PoS C H5 F2 θ2 (cS (okC ds k) gm bm (ds.drop (i+1)) s2) Q:=
    λs5 p5 σ5 H5 F5 θ5 st5 b5=>⟨lt,F5,θ5,s5,st.trans (st3.trans (st4.trans st5)),b5,PoS.after st5 p5⟩
   cases e:bm s4 with
   | next s5=>rw[e] at p4;exact fin s5 p4
   | cnt s5=>rw[e] at p4;exact fin s5 p4
   | brk s5=>rw[e] at p4;exact p4
   | ret d s5=>rw[e] at p4;exact p4
   | exc c a o=>rw[e] at p4;exact p4
   | bad=>rw[e] at p4;exact p4
  ·exact False.elim po
 ·left
  rw[List.drop_eq_nil_of_le (by omega),cS] at po
  split at po
  ·rename_i hok
   exact⟨it.st i H' F' θ' s'.o (by omega) st bs.now hok,po σ' H' F' θ' .refl bs⟩
  ·exact False.elim po
def iU(c:TM)(b:SM):Nat->S->Out
 | 0,_=>.bad
 | n+1,s=>(c s).out λx=>if x.1 then (match b x.2 with
  | .next s2=>iU c b n s2
  | .cnt s2=>iU c b n s2
  | .brk s2=>.next s2
  | o=>o) else .next x.2
def rM(φ:S->Nat)(c:TM)(b:SM):SM:=λs=>iU c b (φ s) s
theorem yM{tc:TT}{tb:TS}{φ:S->Nat}{c:TM}{b:SM}(hc:RdT C tc c)(hb:RdS C tb b):RdS C (Eg tc tb) (rM φ c b):=by
 intro σ H F θ s Q bs p
 refine⟨λm σ' H'=>∃F' θ' s',BS C.K C.ca σ' H' F' θ' s'/\PoS C H' F' θ' (iU c b m s') Q,⟨φ s,F,θ,s,bs,p⟩, ?_⟩
 rintro m σ' H' ⟨F',θ',s',b',po⟩
 cases m with
 | zero=>exact False.elim po
 | succ m=>
  rw[iU] at po
  refine hc σ' H' F' θ' s' _ b' (PoS.out po ?_)
  rintro ⟨x,s1⟩ H1 F1 θ1 _ st1 p1 b1
  cases x with
  | false=>exact uI (p1 σ' H1 F1 θ1 .refl b1)
  | true=>
   refine uw ⟨λσ2 H2=>∃F2 θ2 s2,BS C.K C.ca σ2 H2 F2 θ2 s2/\PoS C H2 F2 θ2 (iU c b m s2) Q,λσ2 H2 n=>⟨m,Nat.lt_succ_self _,n⟩, ?_⟩
   refine hb σ' H1 F1 θ1 s1 _ b1 ?_
   dsimp only[if_true] at p1
   cases e:b s1 with
   | next s5=>rw[e] at p1;exact λσ5 H5 F5 θ5 st5 b5=>⟨F5,θ5,s5,b5,PoS.after st5 p1⟩
   | cnt s5=>rw[e] at p1;exact λσ5 H5 F5 θ5 st5 b5=>⟨F5,θ5,s5,b5,PoS.after st5 p1⟩
   | brk s5=>rw[e] at p1;exact p1
   | ret d s5=>rw[e] at p1;exact p1
   | exc c a o=>rw[e] at p1;exact p1
   | bad=>rw[e] at p1;exact p1
def itemsOf(O:au):D->Res (List D×Option Nat)
 | .lst ds=>.ok (ds,none)
 | .ptr k=>match O[k]? with
  | some (.lst ds)=>.ok (ds,some k)
  | _=>.bad
 | _=>.bad
def listI(m:EM):IM:=λs=>(m s).bind λx=>(itemsOf x.2.o x.1).bind λy=>.ok (y,x.2)
theorem LI{a:Addr}{xs:List V}{ds:List D}{H F:Hp}{θ:List Addr}(hs:SqL C.K F a xs)(hr:ax C.K C.ca θ F ds xs)(inj:∀{σ H2 F2 θ2 s2},Stp H F θ H2 F2 θ2->BS C.K C.ca σ H2 F2 θ2 s2->SqL C.K H2 a xs):
 vQ C (Itl C.K a) ds (okC ds none) H F θ where
 go:=λi H2 F2 θ2 O2 hi st n _=>by
  obtain⟨x,hx⟩:∃x,xs[i]? =some x:=⟨xs[i]'(by rw[hr.length];exact hi),List.getElem?_eq_getElem _⟩
  exact⟨xs,x,n.fh.seq (st.ff.seq hs),hx⟩
 yl:=λi d σ H2 F2 θ2 s2 x H3 hd st b _ hy=>by
  obtain⟨rfl,hx⟩:=hy
  refine⟨F2,.refl,b, ?_⟩
  obtain⟨v,h1,h2⟩:=hr.get hd
  have:=hx xs (b.now.fh.seq (st.ff.seq hs))
  rw[h1] at this
  cases this
  exact h2.mono st.ff st.pre
 st:=λi H2 F2 θ2 O2 hi st n _=>⟨xs,n.fh.seq (st.ff.seq hs),by rw[hr.length];exact hi⟩
theorem bV{tl:TE}{m:EM}(h:RdE C tl m):RdI C (Ie C.K tl) (listI m):=by
 intro σ H F θ s R b p
 refine h σ H F θ s _ b (PoR.bind p ?_)
 rintro ⟨x,s1⟩ H1 F1 θ1 _ st1 p1 b1 v r1
 dsimp only at p1 b1 r1
 cases x <;> first | exact False.elim p1 | skip
 ·rename_i ds _
  unfold Rep at r1
  obtain⟨a,xs,rfl,hs,hr⟩:=r1
  exact⟨a,rfl,⟨xs,b1.now.fh.seq hs⟩,p1 _ _ _ .refl b1 _ (LI hs hr λst b=>b.now.fh.seq (st.ff.seq hs))⟩
 ·rename_i k _
  unfold Rep at r1
  obtain⟨a,rfl,hk⟩:=r1
  unfold itemsOf at p1
  dsimp only at p1
  split at p1
  ·rename_i ds ek
   obtain⟨q1,xs,q2,q3⟩:kb C.K C.ca H1 F1 θ1 a (.lst ds):=b1.now.ce k a _ hk ek
   refine⟨a,rfl,⟨xs,SqL.of q2⟩,p1 _ _ _ .refl b1 _ ?_⟩
   have cell:∀{H2 F2:Hp} {θ2:List Addr} {O2:au},Stp H1 F1 θ1 H2 F2 θ2->Now C.K C.ca H2 F2 θ2 O2->O2[k]? =some (.lst ds)->∃ys,SqL C.K H2 a ys/\ax C.K C.ca θ2 F2 ds ys:=λ{H2 F2 θ2 O2} st n e=>by
    have hk2:θ2[k]? =some a:=by
     obtain⟨r,rfl,_⟩:=st.th
     rw[List.getElem?_append_left (List.getElem?_eq_some_iff.mp hk).1]
     exact hk
    obtain⟨_,ys,w2,w3⟩:kb C.K C.ca H2 F2 θ2 a (.lst ds):=n.ce k a _ hk2 e
    exact⟨ys,SqL.of w2,w3⟩
   refine⟨λi H2 F2 θ2 O2 hi st n e=> ?_,λi d σ H2 F2 θ2 s2 x H3 hd st b e hy=> ?_,λi H2 F2 θ2 O2 hi st n e=> ?_⟩
   ·obtain⟨ys,w1,w2⟩:=cell st n e
    exact⟨ys,ys[i]'(by rw[w2.length];exact hi),w1,List.getElem?_eq_getElem _⟩
   ·obtain⟨rfl,hx⟩:=hy
    obtain⟨ys,w1,w2⟩:=cell st b.now e
    obtain⟨v,h1,h2⟩:=w2.get hd
    have:=hx ys w1
    rw[h1] at this
    cases this
    exact⟨F2,.refl,b,h2⟩
   ·obtain⟨ys,w1,w2⟩:=cell st n e
    exact⟨ys,w1,by rw[w2.length];exact hi⟩
  ·exact False.elim p1
def dZ(lo hi:Int):List D:=(List.range (hi-lo).toNat).map λi=>.int (lo+(i:Nat))
theorem gx(lo hi:Int):(dZ lo hi).length=(hi-lo).toNat:=by unfold dZ;simp
theorem Hf{lo hi:Int}{H F:Hp}{θ:List Addr}:vQ C (Itr lo (hi-lo).toNat) (dZ lo hi) (okC (dZ lo hi) none) H F θ where
 go:=λi H2 F2 θ2 O2 h st n _=>by rw[gx] at h;exact h
 yl:=λi d σ H2 F2 θ2 s2 x H3 hd st b _ hy=>by
  obtain⟨rfl,rfl⟩:=hy
  refine⟨F2,.refl,b, ?_⟩
  unfold dZ at hd
  rw[List.getElem?_map] at hd
  cases e:(List.range (hi-lo).toNat)[i]? with
  | none=>rw[e] at hd;cases hd
  | some j=>
   rw[e] at hd
   cases hd
   obtain⟨_,rfl⟩:∃h,j=i:=⟨trivial,by have:=(List.getElem?_eq_some_iff.mp e).2;simpa using this.symm⟩
   exact bh.mpr rfl
 st:=λi H2 F2 θ2 O2 h st n _=>by rw[gx] at h;exact h
def cY(ma:AM):IM:=λs=>(ma s).bind λx=>match x.1 with
 | [.int j]=>if -(2^62)<=j/\j<2^62 then .ok ((dZ 0 j,none),x.2) else .bad
 | _=>.bad
theorem nt{K ca θ F i vs}(h:ax K ca θ F [.int i] vs):vs=[.int i]:=by
 unfold ax at h
 obtain⟨v,r,rfl,h1,h2⟩:=h
 unfold ax at h2
 rw[h2,bh.mp h1]
theorem DB{K ca θ F i j vs}(h:ax K ca θ F [.int i,.int j] vs):vs=[.int i,.int j]:=by
 unfold ax at h
 obtain⟨v,r,rfl,h1,h2⟩:=h
 rw[nt h2,bh.mp h1]
theorem eT{ta:TA}{m:AM}(h:RdA C ta m):RdI C (IE ta) (cY m):=by
 intro σ H F θ s R b p
 refine h σ H F θ s _ b (PoR.bind p ?_)
 rintro ⟨x,s1⟩ H1 F1 θ1 _ st1 p1 b1 v r1
 dsimp only at p1 b1 r1
 split at p1
 ·rename_i j _
  split at p1
  ·rename_i hj
   refine⟨j,nt r1,hj.1,hj.2, ?_⟩
   have:=p1 _ _ _ .refl b1 _ (Hf (lo:=0) (hi:=j))
   rw[Int.sub_zero] at this
   exact this
  ·exact False.elim p1
 ·exact False.elim p1
abbrev FM:=List D->au->Res (D×au)
def spM(K:PySem.W.Frag)(ca:Nat->Addr)(n:Nat)(f:FM):Sp:=λvs H Q E=>∃F θ ds O,Now K ca H F θ O/\ax K ca θ F ds vs/\ds.length=n/\match f ds O with
 | .ok (d,O1)=>∀v H1 F1 θ1,Stp H F θ H1 F1 θ1->Now K ca H1 F1 θ1 O1->Rep K ca θ1 F1 d v->Q v H1
 | .exc c _ s1=>∀H1 F1 θ1,Stp H F θ H1 F1 θ1->Now K ca H1 F1 θ1 s1.o->E (.ref (ca c)) none H1
 | .bad=>False
def runM(n:Nat)(m:SM):FM:=λds O=>match m ⟨ds.map some++List.replicate (n-ds.length) none,O⟩ with
 | .next s=>.ok (.non,s.o)
 | .ret d s=>.ok (d,s.o)
 | _=>.bad
theorem GA{K:PySem.W.Frag}{ca:Nat->Addr}{N:List Str}{H F:Hp}{θ:List Addr}{O:au}{ds:List D}{vs:List V}(n:Now K ca H F θ O)(r:ax K ca θ F ds vs):
 BS K ca (L2.start N vs) H F θ ⟨ds.map some++List.replicate (N.length-ds.length) none,O⟩:=by
 refine⟨n,by unfold L2.start;simp[r.length],λi d e=> ?_⟩
 dsimp only at e
 have hi:i<ds.length:=by
  by_cases hi:i<ds.length
  ·exact hi
  ·rw[List.getElem?_append_right (by simpa using hi),List.getElem?_replicate] at e
   split at e <;> cases e
 rw[List.getElem?_append_left (by simpa using hi),List.getElem?_map] at e
 cases e1:ds[i]? with
 | none=>rw[e1] at e;cases e
 | some d'=>
  rw[e1] at e
  cases e
  obtain⟨v,h1,h2⟩:=r.get e1
  refine⟨v, ?_,h2⟩
  unfold L2.start
  rw[List.getElem?_append_left (by simpa[r.length] using hi),List.getElem?_map,h1]
  rfl
def W0:Wsh:=λ_ _ _ _ _ _=>False
theorem bH {P:Program} {w:World} {K:PySem.W.Frag} {mg:Str->Option Value} {base:Heap} {ca:Nat->Addr} {x qual:Str} {st:Stmt} {f:Addr} {fd:FuncData} {N ps:List Str} {k n:Nat} {m:SM}
 (F:Fun K x qual st f fd) (S:bq N ps (aC st)) (hn:N.length=n)
 (hm:∀(cdv:Value) (A:Around) (outer:List Env) (s:Shared) (H:Hp) (E:XK),dN k (A.deeper (envOfC qual (aC st) s.heap.objs.size f cdv))->
  ∃t,PSs (sx (CXE P w) P w K mg base N qual (aC st) f cdv A outer s H E).nox (aZ st) t/\RdS ⟨K,ca,W0⟩ t m):
 fV P w K mg base (CXE P w) (k+1) f fd ps (spM K ca ps.length (runM n m)):=by
 refine F.okE S (λvs H Q E h=> ?_) (λcdv A outer s H vs Q E hr h=> ?_)
 ·obtain⟨F,θ,ds,O,_,r,hl,_⟩:=h
  rw[r.length,hl]
 ·obtain⟨F,θ,ds,O,now,r,hl,q⟩:=h
  obtain⟨t,ht,rd⟩:=hm cdv A outer s H E hr
  refine⟨t,ht.nox,rd _ H F θ _ _ (GA now r) ?_⟩
  subst hn
  unfold runM at q
  cases e:m ⟨ds.map some++List.replicate (N.length-ds.length) none,O⟩ with
  | next s1=>rw[e] at q;exact λσ1 H1 F1 θ1 st b=>q .non H1 F1 θ1 st b.now (gU.mpr rfl)
  | ret d s1=>rw[e] at q;exact λv σ1 H1 F1 θ1 st b rv=>q v H1 F1 θ1 st b.now rv
  | exc c a o=>rw[e] at q;exact False.elim q
  | brk s1=>rw[e] at q;exact False.elim q
  | cnt s1=>rw[e] at q;exact False.elim q
  | bad=>rw[e] at q;exact False.elim q
theorem BS.called{K:PySem.W.Frag}{ca:Nat->Addr}{σ:L2.St}{H F H1 F1:Hp}{θ θ1:List Addr}{s:S}{O1:au}(b:BS K ca σ H F θ s)(st:Stp H F [] H1 F1 θ1)(n:Now K ca H1 F1 θ1 O1):
 Stp H F θ H1 F1 θ/\BS K ca σ H1 F1 θ s:=by
 have kp:∀b o,H b=some o->H1 b=some o:=λb o h=>st.kp b o h (by simp)
 have nf:∀b o,F1 b=some o->F b=some o\/H b=none:=λb o h=>by
  rcases st.nf b o h with z | z | z
  ·exact .inl z
  ·exact .inr z
  ·simp at z
 refine⟨⟨st.ff,⟨[],by simp,by simp⟩,λb o h _=>kp b o h,st.al,λb o h=>(nf b o h).elim .inl λz=>.inr (.inl z)⟩,⟨⟨n.fh,b.now.nd,b.now.ln,λk a c e1 e2=> ?_⟩,b.len,λi d e=> ?_⟩⟩
 ·have q:=b.now.ce k a c e1 e2
  obtain⟨u,hu⟩:=q.there
  have fn:F a=none->F1 a=none:=λh=>by
   cases e:F1 a with
   | none=>rfl
   | some o=>
    rcases nf a o e with z | z
    ·rw[h] at z;cases z
    ·rw[hu] at z;cases z
  cases c with
  | dead=>exact⟨u,kp a u hu⟩
  | lst ds=>
   obtain⟨q1,xs,q2,q3⟩:=q
   exact⟨fn q1,xs,kp _ _ q2,q3.mono st.ff ⟨[],by simp⟩⟩
  | ins c ns ds=>
   obtain⟨q1,dx,xs,q2,q3,q4⟩:=q
   exact⟨fn q1,dx,xs,kp _ _ q2,q3,q4.mono st.ff ⟨[],by simp⟩⟩
 ·obtain⟨v,h1,h2⟩:=b.sl i d e
  exact⟨v,h1,h2.mono st.ff ⟨[],by simp⟩⟩
def aQ(n:Nat)(f:FM)(ma:AM):EM:=λs=>(ma s).bind λx=>if aM x.1=true/\x.1.length=n then (match f x.1 [] with
 | .ok (d,_)=>if cK d=true then .ok (d,x.2) else .bad
 | _=>.bad) else .bad
theorem bf{n:Nat}{f:FM}{ta:TA}{ma:AM}{E:XK}(ha:RdA C ta ma):RdE C (tf (spM C.K C.ca n f) [] E ta) (aQ n f ma):=by
 intro σ H F θ s Q b p
 refine ha σ H F θ s _ b (PoR.bind p ?_)
 rintro ⟨x,s1⟩ H1 F1 θ1 _ st1 p1 b1 v r1
 dsimp only at p1 b1 r1 ⊢
 split at p1
 ·rename_i hp
  rw[List.append_nil]
  refine⟨F1,[],x,[],Now.nil b1.now.fh,r1.pure hp.1,hp.2, ?_⟩
  split at p1
  ·rename_i d O1 e
   rw[e]
   intro v H2 F2 θ2 st2 n2 rv
   split at p1
   ·rename_i pd
    obtain⟨st3,b3⟩:=b1.called st2 n2
    exact p1 H2 F2 θ1 st3 b3 v (rv.pure pd)
   ·exact False.elim p1
  ·exact False.elim p1
 ·exact False.elim p1
end
end M
set_option maxRecDepth 100000
set_option maxHeartbeats 4000000
namespace M
open PySem PySem.Spec PyProof.Rows L2
section
variable {C : Ct}
theorem dv{σ:L2.St}{H F:Hp}{θ:List Addr}{s:S}{d:D}{Q:VK}(p:PoE C σ H F θ ((Res.ok d).bind λd=>.ok (d,s)) Q)(b:BS C.K C.ca σ H F θ s){v:V}(r:Rep C.K C.ca θ F d v):Q v H:=p H F θ .refl b v r
theorem pH{σ:L2.St}{H F:Hp}{θ:List Addr}{s:S}{ds:List D}{Q:VK}(p:PoE C σ H F θ ((Res.ok (D.lst ds)).bind λd=>.ok (d,s)) Q)(b:BS C.K C.ca σ H F θ s){xs:List V}(r:ax C.K C.ca θ F ds xs):
 ∀q,H q=none->Q (.ref q) (upd H q (.lst xs)):=λq hq=>by
 obtain⟨st,b2,sF,e⟩:=b.newF hq (.lst xs)
 refine p _ _ _ st b2 _ ?_
 unfold Rep
 exact⟨q,xs,rfl,SqL.of e,r.mono sF ⟨[],by simp⟩⟩
def lsD(O:au):D->Option (List D)
 | .lst ds=>some ds
 | .ptr k=>match O[k]? with
  | some (.lst ds)=>some ds
  | _=>none
 | _=>none
@[simp] theorem pY {O:au} {ds:List D}:lsD O (.lst ds)=some ds:=rfl
theorem fj{σ:L2.St}{H F:Hp}{θ:List Addr}{s:S}{d:D}{ds:List D}{v:V}(b:BS C.K C.ca σ H F θ s)(r:Rep C.K C.ca θ F d v)(e:lsD s.o d=some ds):∃a xs,v=.ref a/\SqL C.K H a xs/\ax C.K C.ca θ F ds xs:=by
 cases d <;> first | (simp[lsD] at e;done) | skip
 ·cases e
  unfold Rep at r
  obtain⟨a,xs,rfl,hs,hr⟩:=r
  exact⟨a,xs,rfl,b.now.fh.seq hs,hr⟩
 ·rename_i k
  unfold Rep at r
  obtain⟨a,rfl,hk⟩:=r
  unfold lsD at e
  dsimp only at e
  split at e
  ·rename_i ds' ek
   cases e
   obtain⟨_,xs,h1,h2⟩:kb C.K C.ca H F θ a (.lst ds):=b.now.ce k a _ hk ek
   exact⟨a,xs,rfl,SqL.of h1,h2⟩
  ·cases e
theorem vm{σ:L2.St}{H F:Hp}{θ:List Addr}{s:S}{ds:List D}{v:V}(b:BS C.K C.ca σ H F θ s)(r:Rep C.K C.ca θ F (.tup ds) v):∃a xs,v=.ref a/\SqT C.K H a xs/\ax C.K C.ca θ F ds xs:=by
 unfold Rep at r
 obtain⟨a,xs,rfl,hs,hr⟩:=r
 exact⟨a,xs,rfl,bC.seqT b.now.fh hs,hr⟩
def intD(g:Int->Int->Res D):Op2:=λ_ x y=>match x,y with
 | .int i,.int j=>g i j
 | _,_=>.bad
theorem rB{g:Int->Int->V}{f:Int->Int->D}(h:∀K ca θ F i j,Rep K ca θ F (f i j) (g i j)):gf C (rI0 g) (intD λi j=>.ok (f i j)):=by
 intro σ H F θ s x y v w Q b rx ry p
 unfold intD at p
 split at p
 ·rename_i i j
  exact⟨i,j,bh.mp rx,bh.mp ry,dv p b (h ..)⟩
 ·exact False.elim p
open Classical in
noncomputable def uK (c:Int->Int->Prop)(f:Int->Int->D):Op2:=intD λi j=>if c i j then .ok (f i j) else .bad
theorem vM{c:Int->Int->Prop}{g:Int->Int->V}{f:Int->Int->D}(h:∀K ca θ F i j,Rep K ca θ F (f i j) (g i j)):gf C (rI c g) (uK c f):=by
 intro σ H F θ s x y v w Q b rx ry p
 unfold uK intD at p
 split at p
 ·rename_i i j
  dsimp only at p
  split at p
  ·rename_i hc
   exact⟨i,j,bh.mp rx,bh.mp ry,hc,dv p b (h ..)⟩
  ·exact False.elim p
 ·exact False.elim p
def jq:Op2:=intD λi j=>.ok (.int (i-j))
noncomputable def dE:Op2:=uK IntMulOk λi j=>.int (i*j)
noncomputable def gQ:Op2:=uK (λi j=>j≠0) λi j=>.int (i.fdiv j)
noncomputable def gh:Op2:=uK (λ_ j=>j≠0) λi j=>.int (i.fmod j)
noncomputable def uU:Op2:=uK vW λi j=>.int (i^j.toNat)
def ltD:Op2:=intD λi j=>.ok (.bl (decide (i<j)))
def leD:Op2:=intD λi j=>.ok (.bl (decide (i<=j)))
def gtD:Op2:=intD λi j=>.ok (.bl (decide (j<i)))
def geD:Op2:=intD λi j=>.ok (.bl (decide (j<=i)))
def lH:Op1:=λ_ x=>match x with
 | .int i=>.ok (.int (-i))
 | _=>.bad
section
variable {X : Cx}
theorem gR:OpR X (binaryOp .Mult) (rI IntMulOk λi j=>.int (i*j)):=opI λ_ _ _ _ _ _ _ hc q=>mul_int q hc
theorem oo(hd:X.A.depth+100<recursionLimit)(ht:X.prog.given.tree=none)(hs:∃env l,X.stack=env::l/\env.scope.isGenerator=false/\env.scope.isCoroutine=false/\env.builtins=builtinsNs/\env.globals=mainGlobals):
 OpR X (binaryOp .FloorDiv) (rI (λi j=>j≠0) λi j=>.int (i.fdiv j)):=by
 intro pins s σ H x y v u Q I rx ry h
 obtain⟨i,j,rfl,rfl,hc,q⟩:=h
 obtain⟨t,rfl⟩:=rx
 obtain⟨t',rfl⟩:=ry
 obtain⟨env,l,e,h1,h2,h3,h4⟩:=hs
 exact floordiv_int hc ⟨.int _,H,I.tok _,⟨_,rfl⟩,q⟩ (.inr (PylongRoom.of I.nolimit hd (SeerAt.of I.noseer ht (I.ok.frames.trans (by rw[e])) h1 h2 h3 h4)))
def yA(K:PySem.W.Frag):R2:=λx y H Q=>rI0 (λi j=>.int (i+j)) x y H Q\/(∃i j,x=.str i/\y=.str j/\i.length+j.length<=sizeLine/\Q (.str (i++j)) H)\/Ic K x y H Q
theorem cN:OpR X (binaryOp .Add) (yA X.K):=KA.or (DJ.or IL)
end
def NO:Op2:=intD λi j=>.ok (.int (i+j))
def bz:Op2:=λO x y=>match x,y with
 | .int i,.int j=>.ok (.int (i+j))
 | .str a,.str b=>if a.length+b.length<=16777216 then .ok (.str (a++b)) else .bad
 | x,y=>match lsD O x,lsD O y with
  | some a,some b=>if a.length+b.length<=16777216 then .ok (.lst (a++b)) else .bad
  | _,_=>.bad
theorem bZ:gf C (yA C.K) bz:=by
 intro σ H F θ s x y v w Q b rx ry p
 have lists:∀{a c:List D},lsD s.o x=some a->lsD s.o y=some c->PoE C σ H F θ ((if a.length+c.length<=16777216 then Res.ok (D.lst (a++c)) else .bad).bind λd=>.ok (d,s)) Q->yA C.K v w H Q:=λ{a c} e1 e2 p=>by
  split at p
  ·rename_i hl
   obtain⟨l1,xs,rfl,s1,r1⟩:=fj b rx e1
   obtain⟨l2,ys,rfl,s2,r2⟩:=fj b ry e2
   exact .inr (.inr ⟨l1,l2,xs,ys,rfl,rfl,s1,s2,by rw[r1.length,r2.length];exact hl,pH p b (r1.append r2)⟩)
  ·exact False.elim p
 unfold bz at p
 split at p
 ·rename_i i j
  exact .inl ⟨i,j,bh.mp rx,bh.mp ry,dv p b (bh.mpr rfl)⟩
 ·rename_i i j
  split at p
  ·rename_i hl
   exact .inr (.inl ⟨i,j,de.mp rx,de.mp ry,hl,dv p b (de.mpr rfl)⟩)
  ·exact False.elim p
 ·split at p
  ·rename_i a c e1 e2
   exact lists e1 e2 p
  ·exact False.elim p
theorem oh:gf C (rI0 λi j=>.int (i-j)) jq:=rB λ_ _ _ _ _ _=>bh.mpr rfl
theorem fG:gf C (rI IntMulOk λi j=>.int (i*j)) dE:=vM λ_ _ _ _ _ _=>bh.mpr rfl
theorem lU:gf C (rI (λi j=>j≠0) λi j=>.int (i.fdiv j)) gQ:=vM λ_ _ _ _ _ _=>bh.mpr rfl
theorem iJ:gf C (rI (λ_ j=>j≠0) λi j=>.int (i.fmod j)) gh:=vM λ_ _ _ _ _ _=>bh.mpr rfl
theorem EK:gf C (rI vW λi j=>.int (i^j.toNat)) uU:=vM λ_ _ _ _ _ _=>bh.mpr rfl
theorem oW:gf C (rI0 λi j=>.bl (decide (i<j))) ltD:=rB λ_ _ _ _ _ _=>cZ.mpr rfl
theorem mC:gf C (rI0 λi j=>.bl (decide (j<i))) gtD:=rB λ_ _ _ _ _ _=>cZ.mpr rfl
theorem sL:LX C (rU λi=>.int (-i)) lH:=by
 intro σ H F θ s x v Q b rx p
 unfold lH at p
 split at p
 ·rename_i i
  exact⟨i,bh.mp rx,dv p b (bh.mpr rfl)⟩
 ·exact False.elim p
mutual
def toPy:D->Option PyData
 | .non=>some .none
 | .bl b=>some (.bool b)
 | .int i=>some (.int i)
 | .str x=>some (.str x)
 | .lst ds=>(iz ds).map .list
 | .tup ds=>(iz ds).map .tuple
 | .ptr _=>none
 | .obj _ _ _=>none
 | .exn _=>none
def iz:List D->Option (List PyData)
 | []=>some []
 | d::ds=>match toPy d,iz ds with
  | some a,some b=>some (a::b)
  | _,_=>none
end
mutual
def res(O:au):D->D
 | .lst ds=>.lst (bA O ds)
 | .tup ds=>.tup (bA O ds)
 | .ptr k=>match O[k]? with
  | some (.lst ds)=>.lst ds
  | _=>.ptr k
 | .non=>.non
 | .bl b=>.bl b
 | .int i=>.int i
 | .str x=>.str x
 | .obj c ns ds=>.obj c ns ds
 | .exn c=>.exn c
def bA(O:au):List D->List D
 | []=>[]
 | d::ds=>res O d::bA O ds
end
section
variable {K : PySem.W.Frag} {ca : Nat → Addr} {H F G : Hp} {θ : List Addr} {O : au}
mutual
theorem wG(n:Now K ca H F θ O)(hF:bC F G)(hG:bC G H):∀{d:D} {v:V},Rep K ca θ G d v->Rep K ca θ H (res O d) v
 | .non,_,h=>by unfold res;exact h
 | .bl _,_,h=>by unfold res;exact h
 | .int _,_,h=>by unfold res;exact h
 | .str _,_,h=>by unfold res;exact h
 | .lst ds,_,h=>by
  unfold res
  unfold Rep at h ⊢
  obtain⟨a,xs,e,hs,hr⟩:=h
  exact⟨a,xs,e,hG.seq hs,kG n hF hG hr⟩
 | .tup ds,_,h=>by
  unfold res
  unfold Rep at h ⊢
  obtain⟨a,xs,e,hs,hr⟩:=h
  exact⟨a,xs,e,bC.seqT hG hs,kG n hF hG hr⟩
 | .ptr k,v,h=>by
  unfold res
  split
  ·rename_i ds e
   unfold Rep at h ⊢
   obtain⟨a,ev,hk⟩:=h
   obtain⟨_,xs,h1,h2⟩:kb K ca H F θ a (.lst ds):=n.ce k a _ hk e
   exact⟨a,xs,ev,SqL.of h1,h2.mono n.fh ⟨[],by simp⟩⟩
  ·exact h.mono hG ⟨[],by simp⟩
 | .obj c ns ds,_,h=>by unfold res;exact h.mono hG ⟨[],by simp⟩
 | .exn c,_,h=>by unfold res;exact h.mono hG ⟨[],by simp⟩
theorem kG(n:Now K ca H F θ O)(hF:bC F G)(hG:bC G H):∀{ds:List D} {xs:List V},ax K ca θ G ds xs->ax K ca θ H (bA O ds) xs
 | [],_,h=>by unfold bA;exact h
 | d::ds,_,h=>by
  unfold bA
  unfold ax at h ⊢
  obtain⟨v,r,e,h1,h2⟩:=h
  exact⟨v,r,e,wG n hF hG h1,kG n hF hG h2⟩
end
mutual
theorem wU:∀{d:D} {v:V} {p:PyData},Rep K ca θ H d v->toPy d=some p->RdV K H p v
 | .non,_,_,h,e=>by unfold toPy at e;cases e;unfold RdV;exact gU.mp h
 | .bl b,_,_,h,e=>by unfold toPy at e;cases e;unfold RdV;exact cZ.mp h
 | .int b,_,_,h,e=>by unfold toPy at e;cases e;unfold RdV;exact bh.mp h
 | .str b,_,_,h,e=>by unfold toPy at e;cases e;unfold RdV;exact de.mp h
 | .lst ds,_,_,h,e=>by
  unfold toPy at e
  cases e1:iz ds with
  | none=>rw[e1] at e;cases e
  | some ps=>
   rw[e1] at e
   cases e
   unfold Rep at h
   obtain⟨a,xs,ev,hs,hr⟩:=h
   unfold RdV
   exact⟨a,xs,ev,hs,uP hr e1⟩
 | .tup ds,_,_,h,e=>by
  unfold toPy at e
  cases e1:iz ds with
  | none=>rw[e1] at e;cases e
  | some ps=>
   rw[e1] at e
   cases e
   unfold Rep at h
   obtain⟨a,xs,ev,hs,hr⟩:=h
   unfold RdV
   exact⟨a,xs,ev,hs,uP hr e1⟩
 | .ptr _,_,_,_,e=>by unfold toPy at e;cases e
 | .obj _ _ _,_,_,_,e=>by unfold toPy at e;cases e
 | .exn _,_,_,_,e=>by unfold toPy at e;cases e
theorem uP:∀{ds:List D} {xs:List V} {ps:List PyData},ax K ca θ H ds xs->iz ds=some ps->qw K H ps xs
 | [],_,_,h,e=>by unfold iz at e;cases e;unfold qw;unfold ax at h;exact h
 | d::ds,_,_,h,e=>by
  unfold iz at e
  cases e1:toPy d with
  | none=>rw[e1] at e;cases e
  | some p=>
   cases e2:iz ds with
   | none=>rw[e1,e2] at e;cases e
   | some ps=>
    rw[e1,e2] at e
    cases e
    unfold ax at h
    obtain⟨v,r,ev,h1,h2⟩:=h
    unfold qw
    exact⟨v,r,ev,wU h1 e1,uP h2 e2⟩
end
end
def fS(O:au)(x y:D):Option Bool:=match toPy (res O (res O x)),toPy (res O (res O y)) with
 | some a,some b=>if SeqAt.shaped a=true/\SeqAt.shaped b=true then some (PyData.eqv a b) else none
 | _,_=>none
def eqB(O:au)(x y:D):Option Bool:=match x,y with
 | .int i,.int j=>some (decide (i=j))
 | .str i,.str j=>some (decide (i=j))
 | .bl i,.bl j=>some (decide (i=j))
 | .non,.non=>some true
 | x,y=>fS O x y
def eqD:Op2:=λO x y=>match eqB O x y with
 | some b=>.ok (.bl b)
 | none=>.bad
def neD:Op2:=λO x y=>match eqB O x y with
 | some b=>.ok (.bl (!b))
 | none=>.bad
section
variable {X : Cx}
def Ky(K:PySem.W.Frag):R2:=λx y H Q=>rEq x y H Q\/K3 K x y H Q
def Lg(K:PySem.W.Frag):R2:=λx y H Q=>rNe x y H Q\/Mf K x y H Q
theorem m4(hu:X.A.units+64<cLine):OpR X (compareOp .Eq) (Ky X.K):=MC.or (K1 hu)
theorem wO(hu:X.A.units+64<cLine):OpR X (compareOp .NotEq) (Lg X.K):=MO.or (L3 hu)
end
theorem wY{σ:L2.St}{H F:Hp}{θ:List Addr}{s:S}{x y:D}{v w:V}{k:Bool}(b:BS C.K C.ca σ H F θ s)(rx:Rep C.K C.ca θ F x v)(ry:Rep C.K C.ca θ F y w)(e:fS s.o x y=some k):
 ∃d e,RdV C.K H d v/\RdV C.K H e w/\SeqAt.shaped d=true/\SeqAt.shaped e=true/\PyData.eqv d e=k:=by
 unfold fS at e
 split at e
 ·rename_i a c e1 e2
  split at e
  ·rename_i hs
   cases e
   have rr:∀{d:D} {u:V},Rep C.K C.ca θ F d u->Rep C.K C.ca θ H (res s.o (res s.o d)) u:=λh=>wG b.now b.now.fh (bC.refl _) (wG b.now (bC.refl _) b.now.fh h)
   exact⟨a,c,wU (rr rx) e1,wU (rr ry) e2,hs.1,hs.2,rfl⟩
  ·cases e
 ·cases e
theorem kB:gf C (Ky C.K) eqD:=by
 intro σ H F θ s x y v w Q b rx ry p
 unfold eqD at p
 split at p
 ·rename_i k e
  have q:=λH' (h:H'=H)=>h▸dv p b (v:=.bl k) (cZ.mpr rfl)
  have q:=q H rfl
  unfold eqB at e
  split at e
  ·rename_i i j
   cases e
   cases bh.mp rx;cases bh.mp ry
   exact .inl ⟨rfl,by rw[tJ,Bool.beq_eq_decide_eq];exact q⟩
  ·cases e
   cases de.mp rx;cases de.mp ry
   exact .inl ⟨rfl,by rw[tF,Bool.beq_eq_decide_eq];exact q⟩
  ·cases e
   cases cZ.mp rx;cases cZ.mp ry
   exact .inl ⟨rfl,by rw[vH,Bool.beq_eq_decide_eq];exact q⟩
  ·cases e
   cases gU.mp rx;cases gU.mp ry
   exact .inl ⟨rfl,by simpa using q⟩
  ·obtain⟨d,e',h1,h2,h3,h4,h5⟩:=wY b rx ry e
   exact .inr ⟨d,e',h1,h2,h3,h4,by rw[h5];exact q⟩
 ·exact False.elim p
theorem tP:gf C (Lg C.K) neD:=by
 intro σ H F θ s x y v w Q b rx ry p
 unfold neD at p
 split at p
 ·rename_i k e
  have q:=dv p b (v:=.bl (!k)) (cZ.mpr rfl)
  unfold eqB at e
  split at e
  ·rename_i i j
   cases e
   cases bh.mp rx;cases bh.mp ry
   exact .inl ⟨rfl,by rw[tJ,Bool.beq_eq_decide_eq];exact q⟩
  ·cases e
   cases de.mp rx;cases de.mp ry
   exact .inl ⟨rfl,by rw[tF,Bool.beq_eq_decide_eq];exact q⟩
  ·cases e
   cases cZ.mp rx;cases cZ.mp ry
   exact .inl ⟨rfl,by rw[vH,Bool.beq_eq_decide_eq];exact q⟩
  ·cases e
   cases gU.mp rx;cases gU.mp ry
   exact .inl ⟨rfl,by simpa using q⟩
  ·obtain⟨d,e',h1,h2,h3,h4,h5⟩:=wY b rx ry e
   exact .inr ⟨d,e',h1,h2,h3,h4,by rw[h5];exact q⟩
 ·exact False.elim p
def ixD:Op2:=λO x y=>match y with
 | .int i=>match x with
  | .tup ds=>match atI ds i with
   | some d=>.ok d
   | none=>.bad
  | .str z=>if z.length<=16777216 then (match atI z.cps.toList i with
   | some c=>.ok (.str ⟨#[c]⟩)
   | none=>.bad) else .bad
  | x=>match lsD O x with
   | some ds=>match atI ds i with
    | some d=>.ok d
    | none=>.bad
   | none=>.bad
 | _=>.bad
theorem Cj{K ca θ F}{ds:List D}{xs:List V}{i:Int}{d:D}(r:ax K ca θ F ds xs)(e:atI ds i=some d):∃v,atI xs i=some v/\Rep K ca θ F d v:=by
 unfold atI at e ⊢
 rw[r.length]
 cases q:ixN ds.length i with
 | none=>rw[q] at e;cases e
 | some j=>
  rw[q] at e
  exact r.get e
theorem dt:gf C (rIx C.K) ixD:=by
 intro σ H F θ s x y v w Q b rx ry p
 unfold ixD at p
 split at p
 ·rename_i i
  split at p
  ·rename_i ds
   obtain⟨a,xs,rfl,hs,hr⟩:=vm b rx
   split at p
   ·rename_i d e
    obtain⟨u,e1,r1⟩:=Cj hr e
    exact .inr (.inl ⟨a,xs,i,u,rfl,bh.mp ry,hs,e1,dv p b r1⟩)
   ·exact False.elim p
  ·rename_i z
   split at p
   ·rename_i hz
    split at p
    ·rename_i c e
     exact .inr (.inr ⟨z,i,c,de.mp rx,bh.mp ry,hz,e,dv p b (de.mpr rfl)⟩)
    ·exact False.elim p
   ·exact False.elim p
  ·split at p
   ·rename_i ds e0
    obtain⟨a,xs,rfl,hs,hr⟩:=fj b rx e0
    split at p
    ·rename_i d e
     obtain⟨u,e1,r1⟩:=Cj hr e
     exact .inl ⟨a,xs,i,u,rfl,bh.mp ry,hs,e1,dv p b r1⟩
    ·exact False.elim p
   ·exact False.elim p
 ·exact False.elim p
abbrev OM:=S->Res (Option Int×S)
def RdO(C:Ct)(t:TO)(m:OM):Prop:=∀σ H F θ s Q,BS C.K C.ca σ H F θ s->PoR C H F θ (m s) (λy H1 F1 θ1=>BS C.K C.ca σ H1 F1 θ1 y.2->Q y.1 H1)->t σ H Q
def iM:OM:=λs=>.ok (none,s)
def part(m:EM):OM:=λs=>(m s).bind λx=>match x.1 with
 | .int i=>.ok (some i,x.2)
 | _=>.bad
theorem mN:RdO C C7 iM:=λσ H F θ s Q b p=>p H F θ .refl b
theorem sZ{t:TE}{m:EM}(h:RdE C t m):RdO C (ID t) (part m):=by
 intro σ H F θ s Q b p
 refine h σ H F θ s _ b (PoR.bind p ?_)
 rintro ⟨x,s1⟩ H1 F1 θ1 _ st1 p1 b1 v r1
 cases x <;> first | exact False.elim p1 | skip
 rename_i i _
 exact⟨i,bh.mp r1,p1 _ _ _ .refl b1⟩
def cutD(ds:List D)(lo hi:Option Int):List D:=(ds.drop (HT.sIx ds.length 0 lo)).take (HT.sIx ds.length ds.length hi-HT.sIx ds.length 0 lo)
theorem Jw{K ca θ F}{ds:List D}{xs:List V}{lo hi:Option Int}(r:ax K ca θ F ds xs):ax K ca θ F (cutD ds lo hi) (wM xs lo hi):=by
 unfold cutD wM
 rw[r.length]
 exact(r.drop _).take _
def slM(me:EM)(ml mh:OM):EM:=λs=>(me s).bind λx=>(ml x.2).bind λl=>(mh l.2).bind λh=>match lsD h.2.o x.1 with
 | some ds=>.ok (.lst (cutD ds l.1 h.1),h.2)
 | none=>.bad
theorem Mz{te:TE}{tl th:TO}{me:EM}{ml mh:OM}(he:RdE C te me)(hl:RdO C tl ml)(hh:RdO C th mh):RdE C (tSl (Ly C.K) te tl th) (slM me ml mh):=by
 intro σ H F θ s Q b p
 refine he σ H F θ s _ b (PoR.bind p ?_)
 rintro ⟨x,s1⟩ H1 F1 θ1 _ st1 p1 b1 v r1
 refine hl σ H1 F1 θ1 s1 _ b1 (PoR.bind p1 ?_)
 rintro ⟨l,s2⟩ H2 F2 θ2 _ st2 p2 b2
 refine hh σ H2 F2 θ2 s2 _ b2 (PoR.bind p2 ?_)
 rintro ⟨h,s3⟩ H3 F3 θ3 _ st3 p3 b3
 dsimp only at p3 ⊢
 split at p3
 ·rename_i ds e
  obtain⟨a,xs,rfl,hs,hr⟩:=fj b3 ((r1.mono st2.ff st2.pre).mono st3.ff st3.pre) e
  exact⟨a,xs,rfl,hs,pH (ds:=cutD ds l h) p3 b3 (Jw hr)⟩
 ·exact False.elim p3
def bL:OpN:=λO xs=>match xs with
 | [.str z]=>if z.length<=16777216 then .ok (.int z.length) else .bad
 | [.tup ds]=>.ok (.int ds.length)
 | [x]=>match lsD O x with
  | some ds=>.ok (.int ds.length)
  | none=>.bad
 | _=>.bad
theorem mr{K ca θ F}{x:D}{vs:List V}(h:ax K ca θ F [x] vs):∃v,vs=[v]/\Rep K ca θ F x v:=by
 unfold ax at h
 obtain⟨v,r,rfl,h1,h2⟩:=h
 unfold ax at h2
 rw[h2]
 exact⟨v,rfl,h1⟩
theorem MM{K ca θ F}{x y:D}{vs:List V}(h:ax K ca θ F [x,y] vs):∃v w,vs=[v,w]/\Rep K ca θ F x v/\Rep K ca θ F y w:=by
 unfold ax at h
 obtain⟨v,r,rfl,h1,h2⟩:=h
 obtain⟨w,rfl,h3⟩:=mr h2
 exact⟨v,w,rfl,h1,h3⟩
theorem eC:kl C (λxs H Q=>∃x n,xs=[x]/\L1 C.K x H n/\Q (.int n) H) bL:=by
 intro σ H F θ s xs vs Q b r p
 unfold bL at p
 split at p
 ·rename_i z
  obtain⟨v,rfl,r1⟩:=mr r
  cases de.mp r1
  split at p
  ·rename_i hz
   exact⟨.str z,z.length,rfl,⟨hz,rfl⟩,dv p b (bh.mpr rfl)⟩
  ·exact False.elim p
 ·rename_i ds
  obtain⟨v,rfl,r1⟩:=mr r
  obtain⟨a,xs,rfl,hs,hr⟩:=vm b r1
  exact⟨.ref a,ds.length,rfl,.inr ⟨xs,hs,by rw[hr.length]⟩,dv p b (bh.mpr rfl)⟩
 ·rename_i x _ _
  obtain⟨v,rfl,r1⟩:=mr r
  split at p
  ·rename_i ds e
   obtain⟨a,xs,rfl,hs,hr⟩:=fj b r1 e
   exact⟨.ref a,ds.length,rfl,.inl ⟨xs,hs,by rw[hr.length]⟩,dv p b (bh.mpr rfl)⟩
  ·exact False.elim p
 ·exact False.elim p
def iB:OpN:=λO xs=>match xs with
 | [.tup ds]=>.ok (.lst ds)
 | [x]=>match lsD O x with
  | some ds=>.ok (.lst ds)
  | none=>.bad
 | _=>.bad
theorem oz:kl C (λxs H Q=>∃p ys,xs=[.ref p]/\(SqL C.K H p ys\/SqT C.K H p ys)/\∀l,H l=none->Q (.ref l) (upd H l (.lst ys))) iB:=by
 intro σ H F θ s xs vs Q b r p
 unfold iB at p
 split at p
 ·rename_i ds
  obtain⟨v,rfl,r1⟩:=mr r
  obtain⟨a,xs,rfl,hs,hr⟩:=vm b r1
  exact⟨a,xs,rfl,.inr hs,pH p b hr⟩
 ·obtain⟨v,rfl,r1⟩:=mr r
  split at p
  ·rename_i ds e
   obtain⟨a,xs,rfl,hs,hr⟩:=fj b r1 e
   exact⟨a,xs,rfl,.inl hs,pH p b hr⟩
  ·exact False.elim p
 ·exact False.elim p
def rC:OpN:=λ_ xs=>match xs with
 | [.int i]=>.ok (.int (if i<0 then -i else i))
 | _=>.bad
theorem yL:kl C (λxs H Q=>∃i,xs=[.int i]/\Q (.int (if i<0 then -i else i)) H) rC:=by
 intro σ H F θ s xs vs Q b r p
 unfold rC at p
 split at p
 ·rename_i i
  exact⟨i,nt r,dv p b (bh.mpr rfl)⟩
 ·exact False.elim p
def intOf:OpN:=λ_ xs=>match xs with
 | [.int i]=>.ok (.int i)
 | [.bl k]=>.ok (.int (if k then 1 else 0))
 | _=>.bad
theorem uY:kl C (λxs H Q=>(∃i,xs=[.int i]/\Q (.int i) H)\/∃k,xs=[.bl k]/\Q (.int (if k then 1 else 0)) H) intOf:=by
 intro σ H F θ s xs vs Q b r p
 unfold intOf at p
 split at p
 ·rename_i i
  exact .inl ⟨i,nt r,dv p b (bh.mpr rfl)⟩
 ·rename_i k
  obtain⟨v,rfl,r1⟩:=mr r
  cases cZ.mp r1
  exact .inr ⟨k,rfl,dv p b (bh.mpr rfl)⟩
 ·exact False.elim p
def tyD(O:au):D->Option String
 | .non=>some "NoneType"
 | .bl _=>some "bool"
 | .int _=>some "int"
 | .str _=>some "str"
 | .lst _=>some "list"
 | .tup _=>some "tuple"
 | .ptr k=>match O[k]? with
  | some (.lst _)=>some "list"
  | _=>none
 | .obj _ _ _=>none
 | .exn _=>none
def eX(t c:String):Bool:=t == c||(t == "bool" &&c == "int")
def iC(c:String):Op1:=λO x=>match tyD O x with
 | some t=>.ok (.bl (eX t c))
 | none=>.bad
def tK(c:String):Prop:=∀K:PySem.W.Frag,∀t∈["NoneType","bool","int","str","list","tuple"],PySem.W.kitOne K (.type t) (.type c)=some (eX t c)
theorem ty_int:tK "int" :=by
 intro K t ht
 simp only[List.mem_cons,List.mem_nil_iff,or_false] at ht
 rcases ht with rfl | rfl | rfl | rfl | rfl | rfl <;> rfl
theorem ty_bool:tK "bool" :=by
 intro K t ht
 simp only[List.mem_cons,List.mem_nil_iff,or_false] at ht
 rcases ht with rfl | rfl | rfl | rfl | rfl | rfl <;> rfl
theorem ty_list:tK "list" :=by
 intro K t ht
 simp only[List.mem_cons,List.mem_nil_iff,or_false] at ht
 rcases ht with rfl | rfl | rfl | rfl | rfl | rfl <;> rfl
theorem pM{c:String}{te:TE}{m:EM}(hc:tK c)(h:RdE C te m):RdE C (tCB (GJ C.K) (lr te (lr (tC (.ty c)) px))) (unM (iC c) m):=by
 intro σ H F θ s Q b p
 refine h σ H F θ s _ b (PoR.bind p ?_)
 rintro ⟨x,s1⟩ H1 F1 θ1 _ st1 p1 b1 v r1
 dsimp only at p1 b1 r1
 show GJ C.K [v,.ty c] H1 Q
 unfold iC at p1
 split at p1
 ·rename_i t e
  have q:=dv p1 b1 (v:=.bl (eX t c)) (cZ.mpr rfl)
  refine⟨v,c,t,eX t c,rfl, ?_, ?_,q⟩
  ·cases x <;> first | (unfold tyD at e;cases e;done) | skip
   ·unfold tyD at e;cases e;rw[gU.mp r1];rfl
   ·unfold tyD at e;cases e;rw[cZ.mp r1];rfl
   ·unfold tyD at e;cases e;rw[bh.mp r1];rfl
   ·unfold tyD at e;cases e;rw[de.mp r1];rfl
   ·unfold tyD at e;cases e
    unfold Rep at r1
    obtain⟨a,xs,rfl,hs,hr⟩:=r1
    exact .inl ⟨rfl,xs,b1.now.fh.seq hs⟩
   ·unfold tyD at e;cases e
    unfold Rep at r1
    obtain⟨a,xs,rfl,hs,hr⟩:=r1
    exact .inr ⟨rfl,xs,bC.seqT b1.now.fh hs⟩
   ·rename_i k _
    unfold tyD at e
    dsimp only at e
    split at e
    ·rename_i ds ek
     cases e
     obtain⟨a,xs,rfl,hs,hr⟩:=fj b1 r1 (ds:=ds) (by unfold lsD;simp only[ek])
     exact .inl ⟨rfl,xs,hs⟩
    ·cases e
  ·refine hc C.K t ?_
   cases x <;> unfold tyD at e <;> dsimp only at e <;> first | (cases e;simp;done) | (cases e;done) | skip
   split at e
   ·cases e;simp
   ·cases e
 ·exact False.elim p1
theorem qC{α:Type}{l:List α}(h:l.Nodup){i j:Nat}{x:α}(a:l[i]? =some x)(b:l[j]? =some x):i=j:=by
 obtain⟨h1,e1⟩:=List.getElem?_eq_some_iff.mp a
 obtain⟨h2,e2⟩:=List.getElem?_eq_some_iff.mp b
 exact(List.getElem_inj h).mp (e1.trans e2.symm)
theorem BS.setC{K:PySem.W.Frag}{ca:Nat->Addr}{σ:L2.St}{H F:Hp}{θ:List Addr}{s:S}(b:BS K ca σ H F θ s){k:Nat}{a:Addr}{c:Cell}(hk:θ[k]? =some a)(hc:s.o[k]? =some c)(hF:F a=none){ds:List D}{xs:List V}(hr:ax K ca θ F ds xs):
 Stp H F θ (upd H a (.lst xs)) F θ/\BS K ca σ (upd H a (.lst xs)) F θ ⟨s.r,s.o.set k (.lst ds)⟩:=by
 have hm:a∈θ:=List.mem_of_getElem? hk
 refine⟨⟨bC.refl _,⟨[],by simp,by simp⟩,λe o he hb=> ?_,λe o he=> ?_,λe o he=>.inl he⟩,⟨⟨λe o he=> ?_,b.now.nd,by simpa using b.now.ln,λj a' c' e1 e2=> ?_⟩,b.len,b.sl⟩⟩
 ·have ne:e≠a:=λz=>hb (by rw[z];exact hm)
  rw[aS ne];exact he
 ·by_cases z:e=a
  ·subst z;exact⟨_,cV⟩
  ·exact⟨o,by rw[aS z];exact he⟩
 ·have ne:e≠a:=λz=>by rw[z,hF] at he;cases he
  rw[aS ne]
  exact b.now.fh _ _ he
 ·by_cases hj:k=j
  ·subst hj
   rw[hk] at e1;cases e1
   have:k<s.o.length:=(List.getElem?_eq_some_iff.mp hc).1
   rw[List.getElem?_set_self this] at e2
   cases e2
   exact⟨hF,xs,cV,hr⟩
  ·rw[List.getElem?_set_ne hj] at e2
   have q:=b.now.ce j a' c' e1 e2
   have ne:a'≠a:=λz=>by
    subst z
    exact hj (qC b.now.nd hk e1)
   cases c' with
   | dead=>obtain⟨o,ho⟩:=q;exact⟨o,by rw[aS ne];exact ho⟩
   | lst ds=>obtain⟨q1,ys,q2,q3⟩:=q;exact⟨q1,ys,by rw[aS ne];exact q2,q3⟩
   | ins c ns ds=>obtain⟨q1,dx,ys,q2,q3⟩:=q;exact⟨q1,dx,ys,by rw[aS ne];exact q2,q3⟩
theorem jQ{σ:L2.St}{H F:Hp}{θ:List Addr}{s:S}{k:Nat}{ds:List D}{v:V}(b:BS C.K C.ca σ H F θ s)(r:Rep C.K C.ca θ F (.ptr k) v)(e:s.o[k]? =some (.lst ds)):
 ∃a xs,v=.ref a/\θ[k]? =some a/\F a=none/\H a=some (.lst xs)/\ax C.K C.ca θ F ds xs:=by
 unfold Rep at r
 obtain⟨a,rfl,hk⟩:=r
 obtain⟨h0,xs,h1,h2⟩:kb C.K C.ca H F θ a (.lst ds):=b.now.ce k a _ hk e
 exact⟨a,xs,rfl,hk,h0,h1,h2⟩
def fY(O:au):D->Option (Nat×List D)
 | .ptr k=>match O[k]? with
  | some (.lst ds)=>some (k,ds)
  | _=>none
 | _=>none
theorem mT{O:au}{d:D}{k:Nat}{ds:List D}(h:fY O d=some (k,ds)):d=.ptr k/\O[k]? =some (.lst ds):=by
 cases d <;> first | (simp[fY] at h;done) | skip
 rename_i j
 unfold fY at h
 dsimp only at h
 split at h
 ·rename_i es e
  cases h
  exact⟨rfl,e⟩
 ·cases h
def gP(mo me:EM):EM:=λs=>(mo s).bind λx=>match fY x.2.o x.1 with
 | some _=>(me x.2).bind λy=>match fY y.2.o x.1 with
  | some (k,ds)=>if ds.length<16777216 then .ok (.non,⟨y.2.r,y.2.o.set k (.lst (ds++[y.1]))⟩) else .bad
  | none=>.bad
 | none=>.bad
theorem gX{to te:TE}{mo me:EM}(ho:RdE C to mo)(he:RdE C te me):RdE C (tBM C.K "list" CY to (lr te px)) (gP mo me):=by
 intro σ H F θ s Q b p
 refine ho σ H F θ s _ b (PoR.bind p ?_)
 rintro ⟨x,s1⟩ H1 F1 θ1 _ st1 p1 b1 v r1
 dsimp only at p1 b1 r1
 split at p1
 ·rename_i kd e
  obtain⟨rfl,e'⟩:=mT (k:=kd.1) (ds:=kd.2) e
  obtain⟨a,xs,rfl,hk,_,h1,_⟩:=jQ b1 r1 e'
  refine⟨.inl ⟨rfl,xs,SqL.of h1⟩,he σ H1 F1 θ1 s1 _ b1 (PoR.bind p1 ?_)⟩
  rintro ⟨y,s2⟩ H2 F2 θ2 _ st2 p2 b2 w r2
  dsimp only at p2 b2 r2
  split at p2
  ·rename_i k ds e2
   obtain⟨ek,e2⟩:=mT e2
   cases ek
   obtain⟨a',ys,ea,hk2,hF,h2,hr⟩:=jQ b2 (r1.mono st2.ff st2.pre) e2
   cases ea
   split at p2
   ·rename_i hl
    obtain⟨st3,b3⟩:=b2.setC hk2 e2 hF (hr.append (ax.one r2))
    exact⟨a,ys,w,rfl,rfl,h2,by rw[hr.length];exact hl,p2 _ _ _ st3 b3 _ (gU.mpr rfl)⟩
   ·exact False.elim p2
  ·exact False.elim p2
 ·exact False.elim p1
def sR(f:List D->Option (List D×D))(mo:EM):EM:=λs=>(mo s).bind λx=>match fY x.2.o x.1 with
 | some (k,ds)=>match f ds with
  | some (es,r)=>.ok (r,⟨x.2.r,x.2.o.set k (.lst es)⟩)
  | none=>.bad
 | none=>.bad
theorem Je {f:List D->Option (List D×D)} {r:V->List V->Hp->VK->Prop} {to:TE} {mo:EM} (ho:RdE C to mo)
 (hr:∀K ca θ F ds xs es d,ax K ca θ F ds xs->f ds=some (es,d)->∃ys v,ax K ca θ F es ys/\Rep K ca θ F d v/\∀a (H:Hp) (Q:VK),H a=some (.lst xs)->Q v (upd H a (.lst ys))->r (.ref a) [] H Q):
 RdE C (Gx C.K "list" r to) (sR f mo):=by
 intro σ H F θ s Q b p
 refine ho σ H F θ s _ b (PoR.bind p ?_)
 rintro ⟨x,s1⟩ H1 F1 θ1 _ st1 p1 b1 v r1
 dsimp only at p1 b1 r1
 split at p1
 ·rename_i k ds e
  obtain⟨rfl,e'⟩:=mT e
  obtain⟨a,xs,rfl,hk,hF,h1,h2⟩:=jQ b1 r1 e'
  split at p1
  ·rename_i es d ef
   obtain⟨ys,u,q1,q2,q3⟩:=hr _ _ _ _ _ _ _ _ h2 ef
   obtain⟨st3,b3⟩:=b1.setC hk e' hF q1
   exact⟨.inl ⟨rfl,xs,SqL.of h1⟩,q3 a H1 Q h1 (p1 _ _ _ st3 b3 _ q2)⟩
  ·exact False.elim p1
 ·exact False.elim p1
def HD:List D->Option (List D×D):=λ_=>some ([],.non)
theorem HY{to:TE}{mo:EM}(ho:RdE C to mo):RdE C (Gx C.K "list" ER to) (sR HD mo):=Je ho λK ca θ F ds xs es d r e=>by
 cases e
 exact⟨[],.non,ax.nil,gU.mpr rfl,λa H Q h q=>⟨a,xs,rfl,rfl,h,q⟩⟩
def zU(mo mi:EM):GM:=λd s=>(mo s).bind λx=>(mi x.2).bind λy=>match y.1 with
 | .int i=>match fY y.2.o x.1 with
  | some (k,ds)=>match ixN ds.length i with
   | some j=>.ok ⟨y.2.r,y.2.o.set k (.lst (ds.set j d))⟩
   | none=>.bad
  | none=>.bad
 | _=>.bad
theorem KD{to ti:TE}{mo mi:EM}(ho:RdE C to mo)(hi:RdE C ti mi):RdG C (Ln to ti IF) (zU mo mi):=by
 intro σ H F θ s d v Q b rd p
 refine ho σ H F θ s _ b (PoR.bind p ?_)
 rintro ⟨x,s1⟩ H1 F1 θ1 _ st1 p1 b1 ov r1
 refine hi σ H1 F1 θ1 s1 _ b1 (PoR.bind p1 ?_)
 rintro ⟨y,s2⟩ H2 F2 θ2 _ st2 p2 b2 iv r2
 dsimp only at p2 b2 r2
 split at p2
 ·rename_i i _
  split at p2
  ·rename_i k ds e
   obtain⟨ek,e'⟩:=mT e
   subst ek
   obtain⟨a,xs,rfl,hk,hF,h1,h2⟩:=jQ b2 (r1.mono st2.ff st2.pre) e'
   split at p2
   ·rename_i j ej
    obtain⟨st3,b3⟩:=b2.setC hk e' hF (ax.set ((rd.mono st1.ff st1.pre).mono st2.ff st2.pre) j h2)
    exact⟨a,xs,i,j,rfl,bh.mp r2,h1,by rw[h2.length];exact ej,p2 _ _ _ st3 _ b3⟩
   ·exact False.elim p2
  ·exact False.elim p2
 ·exact False.elim p2
theorem BS.frz{K:PySem.W.Frag}{ca:Nat->Addr}{σ:L2.St}{H F:Hp}{θ:List Addr}{s:S}(b:BS K ca σ H F θ s){k:Nat}{a:Addr}{ds:List D}{xs:List V}(hk:θ[k]? =some a)(hc:s.o[k]? =some (.lst ds))(hF:F a=none)(hH:H a=some (.lst xs))(hr:ax K ca θ F ds xs):
 Stp H F θ H (upd F a (.lst xs)) θ/\BS K ca σ H (upd F a (.lst xs)) θ ⟨s.r,s.o.set k .dead⟩/\Rep K ca θ (upd F a (.lst xs)) (.lst ds) (.ref a):=by
 have hm:a∈θ:=List.mem_of_getElem? hk
 have sF:bC F (upd F a (.lst xs)):=λe o he=>by
  rw[aS (λz=>by rw[z,hF] at he;cases he)];exact he
 refine⟨⟨sF,⟨[],by simp,by simp⟩,λe o he _=>he,λe o he=>⟨o,he⟩,λe o he=> ?_⟩,⟨⟨λe o he=> ?_,b.now.nd,by simpa using b.now.ln,λj a' c' e1 e2=> ?_⟩,b.len,λi d e=> ?_⟩, ?_⟩
 ·by_cases z:e=a
  ·exact .inr (.inr (by rw[z];exact hm))
  ·rw[aS z] at he;exact .inl he
 ·by_cases z:e=a
  ·subst z;rw[cV] at he;rw[hH];exact he
  ·rw[aS z] at he;exact b.now.fh _ _ he
 ·by_cases hj:k=j
  ·subst hj
   rw[hk] at e1;cases e1
   have:k<s.o.length:=(List.getElem?_eq_some_iff.mp hc).1
   rw[List.getElem?_set_self this] at e2
   cases e2
   exact⟨_,hH⟩
  ·rw[List.getElem?_set_ne hj] at e2
   have q:=b.now.ce j a' c' e1 e2
   have ne:a'≠a:=λz=>by
    subst z
    exact hj (qC b.now.nd hk e1)
   cases c' with
   | dead=>exact q
   | lst ds=>obtain⟨q1,ys,q2,q3⟩:=q;exact⟨by rw[aS ne];exact q1,ys,q2,q3.mono sF ⟨[],by simp⟩⟩
   | ins c ns ds=>obtain⟨q1,dx,ys,q2,q3,q4⟩:=q;exact⟨by rw[aS ne];exact q1,dx,ys,q2,q3,q4.mono sF ⟨[],by simp⟩⟩
 ·obtain⟨v,h1,h2⟩:=b.sl i d e
  exact⟨v,h1,h2.mono sF ⟨[],by simp⟩⟩
 ·unfold Rep
  exact⟨a,xs,rfl,SqL.of cV,hr.mono sF ⟨[],by simp⟩⟩
def oC(m:EM):EM:=λs=>(m s).bind λx=>match fY x.2.o x.1 with
 | some (k,ds)=>.ok (.lst ds,⟨x.2.r,x.2.o.set k .dead⟩)
 | none=>.bad
theorem pQ{t:TE}{m:EM}(h:RdE C t m):RdE C t (oC m):=by
 intro σ H F θ s Q b p
 refine h σ H F θ s _ b (PoR.bind p ?_)
 rintro ⟨x,s1⟩ H1 F1 θ1 _ st1 p1 b1 v r1
 dsimp only at p1 b1 r1
 split at p1
 ·rename_i k ds e
  obtain⟨rfl,e'⟩:=mT e
  obtain⟨a,xs,rfl,hk,hF,h1,h2⟩:=jQ b1 r1 e'
  obtain⟨st2,b2,r2⟩:=b1.frz hk e' hF h1 h2
  exact p1 _ _ _ st2 b2 _ r2
 ·exact False.elim p1
def qO(m:Nat)(caps:List Nat)(r:List (Option D)):List (Option D):=List.replicate m none++caps.map λi=>(r[i]?).getD none
theorem Lq{K:PySem.W.Frag}{ca:Nat->Addr}{σ:L2.St}{H F:Hp}{θ:List Addr}{s:S}(b:BS K ca σ H F θ s)(m:Nat)(caps:List Nat):BS K ca (nM m caps σ) H F θ ⟨qO m caps s.r,s.o⟩:=by
 refine⟨b.now,by unfold nM qO;simp,λi d e=> ?_⟩
 unfold qO at e
 dsimp only at e
 by_cases hi:i<m
 ·rw[List.getElem?_append_left (by simpa using hi),List.getElem?_replicate] at e
  split at e <;> cases e
 ·rw[List.getElem?_append_right (by simpa using hi)] at e
  simp only[List.length_replicate,List.getElem?_map] at e
  cases q:caps[i-m]? with
  | none=>rw[q] at e;cases e
  | some j=>
   rw[q] at e
   simp only[Option.map_some,Option.some.injEq] at e
   have e':s.r[j]? =some (some d):=by
    cases z:s.r[j]? with
    | none=>rw[z] at e;simp at e
    | some od=>rw[z] at e;simp at e;rw[e]
   obtain⟨v,h1,h2⟩:=b.sl j d e'
   refine⟨v, ?_,h2⟩
   unfold nM
   rw[List.getElem?_append_right (by simpa using hi)]
   simp only[List.length_replicate,List.getElem?_map,q,Option.map_some,h1,Option.getD_some]
def bK:TM:=λs=>.ok (true,s)
theorem cC:RdT C Iq bK:=λσ H F θ s Q b p=>p H F θ .refl b
open Classical in
noncomputable def fU (ok:au->Prop)(g:GM)(c:TM)(e:EM):List D->List D->S->Res (List D×S)
 | [],acc,s=>if ok s.o then .ok (acc,s) else .bad
 | d::ds,acc,s=>if ok s.o/\acc.length<16777216 then (g d s).bind λs1=>(c s1).bind λx=>if x.1 then (e x.2).bind λy=>fU ok g c e ds (acc++[y.1]) y.2 else fU ok g c e ds acc x.2 else .bad
noncomputable def mE (m:Nat)(caps:List Nat)(im:IM)(g:GM)(c:TM)(e:EM):S->Res (List D×S):=λs=>(im s).bind λy=>
 (fU (okC y.1.1 y.1.2) g c e y.1.1 [] ⟨qO m caps y.2.r,y.2.o⟩).bind λz=>.ok (z.1,⟨y.2.r,z.2.o⟩)
theorem zX {m:Nat} {caps:List Nat} {wi:TI} {g:TG} {tc:TT} {te:TE} {im:IM} {gm:GM} {c:TM} {e:EM} (hi:RdI C wi im) (hg:RdG C g gm) (hc:RdT C tc c) (he:RdE C te e)
 {σ:L2.St} {H F:Hp} {θ:List Addr} {s:S} {Q:VK} (b:BS C.K C.ca σ H F θ s)
 (p:PoR C H F θ (mE m caps im gm c e s) λy H1 F1 θ1=>BS C.K C.ca σ H1 F1 θ1 y.2->∀q xs,H q=none->H1 q=some (.lst xs)->F1 q=none->q∉θ1->ax C.K C.ca θ1 F1 y.1 xs->Q (.ref q) H1):vq m caps wi g tc te σ H Q:=by
 refine hi σ H F θ s _ b (PoR.bind p ?_)
 rintro ⟨⟨ds,k⟩,s1⟩ H1 F1 θ1 _ st1 p1 b1 J it q hq
 dsimp only at p1 b1 it
 have st2:Stp H1 F1 θ1 (upd H1 q (.lst [])) F1 θ1:=by
  have nm:∀a u,H1 a=some u->a≠q:=λa u e z=>by rw[z,hq] at e;cases e
  exact⟨bC.refl _,⟨[],by simp,by simp⟩,λa u h _=>by rw[aS (nm a u h)];exact h,λa u h=>⟨u,by rw[aS (nm a u h)];exact h⟩,λa u h=>.inl h⟩
 have qθ:q∉θ1:=λh=>by obtain⟨u,hu⟩:=b1.now.there h;rw[hq] at hu;cases hu
 have qF:F1 q=none:=by
  cases e:F1 q with
  | none=>rfl
  | some u=>rw[b1.now.fh q u e] at hq;cases hq
 have hqH:H q=none:=by
  cases e:H q with
  | none=>rfl
  | some u=>obtain⟨u',e'⟩:=st1.al q u e;rw[hq] at e';cases e'
 have keep:∀{H2 F2 H3 F3:Hp} {θ2 θ3:List Addr} {o:HO},Stp H2 F2 θ2 H3 F3 θ3->H2 q=some o->F2 q=none->q∉θ2->H3 q=some o/\F3 q=none/\q∉θ3:=λ{H2 F2 H3 F3 θ2 θ3 o} st h1 h2 h3=>by
  refine⟨st.kp q o h1 h3, ?_, ?_⟩
  ·cases e:F3 q with
   | none=>rfl
   | some u=>
    rcases st.nf q u e with z | z | z
    ·rw[h2] at z;cases z
    ·rw[h1] at z;cases z
    ·exact absurd z h3
  ·obtain⟨r,rfl,hr⟩:=st.th
   intro hm
   rcases List.mem_append.mp hm with z | z
   ·exact h3 z
   ·rw[hr q z] at h1;cases h1
 have bs2:∀{σ':L2.St} {H2 F2:Hp} {θ2:List Addr} {s2:S} (o:HO),BS C.K C.ca σ' H2 F2 θ2 s2->F2 q=none->q∉θ2->BS C.K C.ca σ' (upd H2 q o) F2 θ2 s2:=λ{σ' H2 F2 θ2 s2} o b h1 h2=>by
  have ne:∀a,a∈θ2->a≠q:=λa h z=>h2 (z▸h)
  refine⟨⟨λa u h=> ?_,b.now.nd,b.now.ln,λj a c e1 e2=> ?_⟩,b.len,b.sl⟩
  ·have:a≠q:=λz=>by rw[z,h1] at h;cases h
   rw[aS this];exact b.now.fh a u h
  ·have hm:=ne a (List.mem_of_getElem? e1)
   have w:=b.now.ce j a c e1 e2
   cases c with
   | dead=>obtain⟨u,hu⟩:=w;exact⟨u,by rw[aS hm];exact hu⟩
   | lst ds=>obtain⟨q1,ys,q2,q3⟩:=w;exact⟨q1,ys,by rw[aS hm];exact q2,q3⟩
   | ins c ns ds=>obtain⟨q1,dx,ys,q2,q3,q4⟩:=w;exact⟨q1,dx,ys,by rw[aS hm];exact q2,q3,q4⟩
 have stq:∀{H2 F2:Hp} {θ2:List Addr} (o:HO),Stp H1 F1 θ1 H2 F2 θ2->Stp H1 F1 θ1 (upd H2 q o) F2 θ2:=λ{H2 F2 θ2} o st=>by
  have nm:∀a u,H1 a=some u->a≠q:=λa u e z=>by rw[z,hq] at e;cases e
  exact⟨st.ff,st.th,λa u h1 h2=>by rw[aS (nm a u h1)];exact st.kp a u h1 h2,λa u h1=>by rw[aS (nm a u h1)];exact st.al a u h1,st.nf⟩
 refine⟨λi n acc σ' H'=>n=ds.length-i/\i<=ds.length/\∃F' θ' s' as,Stp H1 F1 θ1 H' F' θ'/\H' q=some (.lst acc)/\F' q=none/\q∉θ'/\BS C.K C.ca σ' H' F' θ' s'/\ax C.K C.ca θ' F' as acc/\
  PoR C H1 F1 θ1 ((fU (okC ds k) gm c e (ds.drop i) as s').bind λz=>.ok (z.1,(⟨s1.r,z.2.o⟩:S))) (λy H1 F1 θ1=>BS C.K C.ca σ H1 F1 θ1 y.2->∀q xs,H q=none->H1 q=some (.lst xs)->F1 q=none->q∉θ1->ax C.K C.ca θ1 F1 y.1 xs->Q (.ref q) H1),
  ⟨ds.length,by simp,Nat.zero_le _,F1,θ1,⟨qO m caps s1.r,s1.o⟩,[],st2,cV,qF,qθ,bs2 _ (Lq b1 m caps) qF qθ,ax.nil,by simpa using p1⟩, ?_⟩
 rintro i n acc σ' H' ⟨rfl,hil,F',θ',s',as,st,hq',qF',qθ',bs,hacc,po⟩
 by_cases lt:i<ds.length
 ·right
  rw[List.drop_eq_getElem_cons lt,fU] at po
  split at po
  ·rename_i hok
   refine⟨it.go i H' F' θ' s'.o lt st bs.now hok.1, ?_⟩
   intro x H3 hy
   obtain⟨F3,st3,b3,rp⟩:=it.yl i ds[i] σ' H' F' θ' s' x H3 (List.getElem?_eq_getElem lt) st bs hok.1 hy
   obtain⟨k1,k2,k3⟩:=keep st3 hq' qF' qθ'
   have st13:=st.trans st3
   have po3:=PoR.after st13 po
   have w1:PoG C H3 F3 θ' (gm ds[i] s') (λσ4 H4=>tc σ4 H4 λb H4=>if b=true then
    te σ4 H4 λy H5=>H5 q=some (.lst acc)/\acc.length<sizeLine/\∃k',k'<ds.length-i/\(k'=ds.length-(i+1)/\i+1<=ds.length/\∃F' θ' s' as,Stp H1 F1 θ1 (upd H5 q (.lst (acc++[y]))) F' θ'/\(upd H5 q (.lst (acc++[y]))) q=some (.lst (acc++[y]))/\F' q=none/\q∉θ'/\BS C.K C.ca σ4 (upd H5 q (.lst (acc++[y]))) F' θ' s'/\ax C.K C.ca θ' F' as (acc++[y])/\
     PoR C H1 F1 θ1 ((fU (okC ds k) gm c e (ds.drop (i+1)) as s').bind λz=>.ok (z.1,(⟨s1.r,z.2.o⟩:S))) (λy H1 F1 θ1=>BS C.K C.ca σ H1 F1 θ1 y.2->∀q xs,H q=none->H1 q=some (.lst xs)->F1 q=none->q∉θ1->ax C.K C.ca θ1 F1 y.1 xs->Q (.ref q) H1))
    else ∃k',k'<ds.length-i/\(k'=ds.length-(i+1)/\i+1<=ds.length/\∃F' θ' s' as,Stp H1 F1 θ1 H4 F' θ'/\H4 q=some (.lst acc)/\F' q=none/\q∉θ'/\BS C.K C.ca σ4 H4 F' θ' s'/\ax C.K C.ca θ' F' as acc/\
     PoR C H1 F1 θ1 ((fU (okC ds k) gm c e (ds.drop (i+1)) as s').bind λz=>.ok (z.1,(⟨s1.r,z.2.o⟩:S))) (λy H1 F1 θ1=>BS C.K C.ca σ H1 F1 θ1 y.2->∀q xs,H q=none->H1 q=some (.lst xs)->F1 q=none->q∉θ1->ax C.K C.ca θ1 F1 y.1 xs->Q (.ref q) H1))):=by
    cases e1:gm ds[i] s' with
    | bad=>rw[e1] at po3;exact po3
    | exc a1 a2 a3=>rw[e1] at po3;exact po3
    | ok s4=>
     rw[e1] at po
     intro H4 F4 θ4 st4 σ4 b4
     obtain⟨l1,l2,l3⟩:=keep st4 k1 k2 k3
     refine hc σ4 H4 F4 θ4 s4 _ b4 ?_
     cases e2:c s4 with
     | bad=>rw[aj,e2] at po;exact po
     | exc a1 a2 a3=>rw[aj,e2] at po;exact PoR.after (st13.trans st4) po
     | ok x5=>
      obtain⟨kk,s5⟩:=x5
      rw[aj,e2,aj] at po
      intro H5 F5 θ5 st5 b5
      obtain⟨m1,m2,m3⟩:=keep st5 l1 l2 l3
      have hacc5:=((hacc.mono st3.ff st3.pre).mono st4.ff st4.pre).mono st5.ff st5.pre
      cases kk with
      | false=>
       exact uI ⟨ds.length-(i+1),by omega,rfl,by omega,F5,θ5,s5,as,st13.trans (st4.trans st5),m1,m2,m3,b5,hacc5,by simpa using po⟩
      | true=>
       refine uw (he σ4 H5 F5 θ5 s5 _ b5 ?_)
       dsimp only[if_true] at po
       cases e3:e s5 with
       | bad=>rw[e3] at po;exact po
       | exc a1 a2 a3=>rw[e3] at po;exact PoR.after (st13.trans (st4.trans st5)) po
       | ok x6=>
        obtain⟨y,s6⟩:=x6
        rw[e3,aj] at po
        intro H6 F6 θ6 st6 b6 w r6
        obtain⟨n1,n2,n3⟩:=keep st6 m1 m2 m3
        exact⟨n1,by rw[hacc.length];exact hok.2,ds.length-(i+1),by omega,rfl,by omega,F6,θ6,s6,as++[y],stq _ (st13.trans (st4.trans (st5.trans st6))),cV,n2,n3,bs2 _ b6 n2 n3,(hacc5.mono st6.ff st6.pre).append (ax.one r6),po⟩
   exact hg σ' H3 F3 θ' s' ds[i] x _ b3 rp w1
  ·exact False.elim po
 ·left
  rw[List.drop_eq_nil_of_le (by omega),fU] at po
  split at po
  ·rename_i hok
   refine⟨it.st i H' F' θ' s'.o (by omega) st bs.now hok,hq', ?_⟩
   refine po H' F' θ' st ⟨bs.now,b1.len,λj d e=> ?_⟩ q acc hqH hq' qF' qθ' hacc
   obtain⟨v,h1,h2⟩:=b1.sl j d e
   exact⟨v,h1,h2.mono st.ff st.pre⟩
  ·exact False.elim po
noncomputable def bF (m:Nat)(caps:List Nat)(im:IM)(g:GM)(c:TM)(e:EM):EM:=λs=>(mE m caps im g c e s).bind λy=>.ok (.lst y.1,y.2)
theorem bT{m:Nat}{caps:List Nat}{wi:TI}{g:TG}{tc:TT}{te:TE}{im:IM}{gm:GM}{c:TM}{e:EM}(hi:RdI C wi im)(hg:RdG C g gm)(hc:RdT C tc c)(he:RdE C te e):RdE C (vq m caps wi g tc te) (bF m caps im gm c e):=by
 intro σ H F θ s Q b p
 refine zX hi hg hc he b ?_
 unfold bF at p
 cases e1:mE m caps im gm c e s with
 | bad=>rw[e1] at p;exact p
 | exc a1 a2 a3=>rw[e1] at p;exact p
 | ok y=>
  rw[e1,aj] at p
  intro H1 F1 θ1 st1 b1 q xs h0 h1 h2 h3 hr
  have sF:bC F1 (upd F1 q (.lst xs)):=λa u h=>by
   rw[aS (λz=>by rw[z,h2] at h;cases h)];exact h
  refine p H1 (upd F1 q (.lst xs)) θ1 ⟨st1.ff.trans sF,st1.th,st1.kp,st1.al,λa u h=> ?_⟩ ⟨⟨λa u h=> ?_,b1.now.nd,b1.now.ln,λj a c e2 e3=> ?_⟩,b1.len,λi d e2=> ?_⟩ (.ref q) ?_
  ·by_cases z:a=q
   ·subst z;exact .inr (.inl h0)
   ·rw[aS z] at h;exact st1.nf a u h
  ·by_cases z:a=q
   ·subst z;rw[cV] at h;rw[h1];exact h
   ·rw[aS z] at h;exact b1.now.fh a u h
  ·have ne:a≠q:=λz=>h3 (z▸List.mem_of_getElem? e2)
   have w:=b1.now.ce j a c e2 e3
   cases c with
   | dead=>exact w
   | lst ds=>obtain⟨q1,ys,q2,q3⟩:=w;exact⟨by rw[aS ne];exact q1,ys,q2,q3.mono sF ⟨[],by simp⟩⟩
   | ins c ns ds=>obtain⟨q1,dx,ys,q2,q3,q4⟩:=w;exact⟨by rw[aS ne];exact q1,dx,ys,q2,q3,q4.mono sF ⟨[],by simp⟩⟩
  ·obtain⟨v,w1,w2⟩:=b1.sl i d e2
   exact⟨v,w1,w2.mono sF ⟨[],by simp⟩⟩
  ·unfold Rep
   exact⟨q,xs,rfl,SqL.of cV,hr.mono sF ⟨[],by simp⟩⟩
noncomputable def nL (m:Nat)(caps:List Nat)(im:IM)(g:GM)(c:TM)(e:EM):EM:=λs=>(mE m caps im g c e s).bind λy=>.ok (.ptr y.2.o.length,⟨y.2.r,y.2.o++[.lst y.1]⟩)
theorem qN{m:Nat}{caps:List Nat}{wi:TI}{g:TG}{tc:TT}{te:TE}{im:IM}{gm:GM}{c:TM}{e:EM}(hi:RdI C wi im)(hg:RdG C g gm)(hc:RdT C tc c)(he:RdE C te e):RdE C (vq m caps wi g tc te) (nL m caps im gm c e):=by
 intro σ H F θ s Q b p
 refine zX hi hg hc he b ?_
 unfold nL at p
 cases e1:mE m caps im gm c e s with
 | bad=>rw[e1] at p;exact p
 | exc a1 a2 a3=>rw[e1] at p;exact p
 | ok y=>
  rw[e1,aj] at p
  intro H1 F1 θ1 st1 b1 q xs h0 h1 h2 h3 hr
  obtain⟨r,er,hr0⟩:=st1.th
  refine p H1 F1 (θ1++[q]) ⟨st1.ff,⟨r++[q],by rw[er,List.append_assoc],λa ha=> ?_⟩,st1.kp,st1.al,st1.nf⟩ ⟨⟨b1.now.fh, ?_,by simp[b1.now.ln],λk a c e2 e3=> ?_⟩,b1.len,λi d e2=> ?_⟩ (.ref q) ?_
  ·rcases List.mem_append.mp ha with z | z
   ·exact hr0 a z
   ·rw[List.mem_singleton.mp z];exact h0
  ·refine List.nodup_append.mpr ⟨b1.now.nd,by simp,λa ha x hx=> ?_⟩
   rw[List.mem_singleton.mp hx]
   rintro rfl
   exact h3 ha
  ·by_cases hk:k<θ1.length
   ·rw[List.getElem?_append_left hk] at e2
    dsimp only at e3
    rw[List.getElem?_append_left (by rw[<- b1.now.ln];exact hk)] at e3
    have w:=b1.now.ce k a c e2 e3
    cases c with
    | dead=>exact w
    | lst ds=>obtain⟨q1,ys,q2,q3⟩:=w;exact⟨q1,ys,q2,q3.mono (bC.refl _) ⟨[q],rfl⟩⟩
    | ins c ns ds=>obtain⟨q1,dx,ys,q2,q3,q4⟩:=w;exact⟨q1,dx,ys,q2,q3,q4.mono (bC.refl _) ⟨[q],rfl⟩⟩
   ·have hk1:k<(θ1++[q]).length:=(List.getElem?_eq_some_iff.mp e2).1
    have hk2:k=θ1.length:=by simp at hk1;omega
    subst hk2
    rw[List.getElem?_append_right (Nat.le_refl _)] at e2
    dsimp only at e3
    rw[List.getElem?_append_right (by rw[b1.now.ln];exact Nat.le_refl _),b1.now.ln] at e3
    simp at e2 e3
    subst e2;subst e3
    exact⟨h2,xs,h1,hr.mono (bC.refl _) ⟨[q],rfl⟩⟩
  ·obtain⟨v,w1,w2⟩:=b1.sl i d e2
   exact⟨v,w1,w2.mono (bC.refl _) ⟨[q],rfl⟩⟩
  ·unfold Rep
   exact⟨q,rfl,by rw[<- b1.now.ln];simp⟩
end
end M
set_option maxRecDepth 100000
set_option maxHeartbeats 4000000
namespace M
open PySem PySem.Spec PyProof.Rows L2
section
variable {C : Ct}
theorem sq{σ:L2.St}{H F:Hp}{θ:List Addr}{s:S}{ds:List D}{Q:VK}(p:PoE C σ H F θ (.ok (.ptr s.o.length,(⟨s.r,s.o++[.lst ds]⟩:S))) Q)(b:BS C.K C.ca σ H F θ s){xs:List V}(r:ax C.K C.ca θ F ds xs):
 ∀q,H q=none->Q (.ref q) (upd H q (.lst xs)):=λq hq=>by
 obtain⟨st,b2,rp⟩:=b.newC hq r
 exact p _ _ _ st b2 _ rp
def tG(O:au):D->Option (List D)
 | .tup ds=>some ds
 | x=>lsD O x
def yE(m:EM):EM:=λs=>(m s).bind λx=>match tG x.2.o x.1 with
 | some ds=>.ok (.ptr x.2.o.length,⟨x.2.r,x.2.o++[.lst ds]⟩)
 | none=>.bad
theorem Gg{t:TE}{m:EM}(h:RdE C t m):RdE C (tCB (λxs H Q=>∃p ys,xs=[.ref p]/\(SqL C.K H p ys\/SqT C.K H p ys)/\∀l,H l=none->Q (.ref l) (upd H l (.lst ys))) (lr t px)) (yE m):=by
 intro σ H F θ s Q b p
 refine h σ H F θ s _ b (PoR.bind p ?_)
 rintro ⟨x,s1⟩ H1 F1 θ1 _ st1 p1 b1 v r1
 dsimp only at p1 b1 r1
 split at p1
 ·rename_i ds e
  cases x with
  | tup es=>
   cases e
   obtain⟨a,xs,rfl,hs,hr⟩:=vm b1 r1
   exact⟨a,xs,rfl,.inr hs,sq p1 b1 hr⟩
  | _=>
   obtain⟨a,xs,rfl,hs,hr⟩:=fj b1 r1 e
   exact⟨a,xs,rfl,.inl hs,sq p1 b1 hr⟩
 ·exact False.elim p1
mutual
def shD(n:Nat):D->D
 | .lst ds=>.lst (fD n ds)
 | .tup ds=>.tup (fD n ds)
 | .ptr k=>.ptr (n+k)
 | .obj c ns ds=>.obj c ns (fD n ds)
 | .exn c=>.exn c
 | .non=>.non
 | .bl b=>.bl b
 | .int i=>.int i
 | .str x=>.str x
def fD(n:Nat):List D->List D
 | []=>[]
 | d::ds=>shD n d::fD n ds
end
def shC(n:Nat):Cell->Cell
 | .dead=>.dead
 | .lst ds=>.lst (fD n ds)
 | .ins c ns ds=>.ins c ns (fD n ds)
section
variable {K : PySem.W.Frag} {ca : Nat → Addr} {F : Hp} {θ θ1 : List Addr}
mutual
theorem EE:∀{d:D} {v:V},Rep K ca θ1 F d v->Rep K ca (θ++θ1) F (shD θ.length d) v
 | .non,_,h=>by unfold shD;exact h
 | .bl _,_,h=>by unfold shD;exact h
 | .int _,_,h=>by unfold shD;exact h
 | .str _,_,h=>by unfold shD;exact h
 | .lst ds,_,h=>by
  unfold shD
  unfold Rep at h ⊢
  obtain⟨a,xs,e,hs,hr⟩:=h
  exact⟨a,xs,e,hs,nZ hr⟩
 | .tup ds,_,h=>by
  unfold shD
  unfold Rep at h ⊢
  obtain⟨a,xs,e,hs,hr⟩:=h
  exact⟨a,xs,e,hs,nZ hr⟩
 | .ptr k,_,h=>by
  unfold shD
  unfold Rep at h ⊢
  obtain⟨a,e,hk⟩:=h
  exact⟨a,e,by rw[List.getElem?_append_right (Nat.le_add_right _ _),Nat.add_sub_cancel_left];exact hk⟩
 | .obj c ns ds,_,h=>by
  unfold shD
  unfold Rep at h ⊢
  obtain⟨a,dx,xs,e,ha,hl,hr⟩:=h
  exact⟨a,dx,xs,e,ha,hl,nZ hr⟩
 | .exn c,_,h=>by
  unfold shD
  unfold Rep at h ⊢
  exact h
theorem nZ:∀{ds:List D} {xs:List V},ax K ca θ1 F ds xs->ax K ca (θ++θ1) F (fD θ.length ds) xs
 | [],_,h=>by unfold fD;exact h
 | d::ds,_,h=>by
  unfold fD
  unfold ax at h ⊢
  obtain⟨v,r,e,h1,h2⟩:=h
  exact⟨v,r,e,EE h1,nZ h2⟩
end
end
theorem BS.calledO{K:PySem.W.Frag}{ca:Nat->Addr}{σ:L2.St}{H F H1 F1:Hp}{θ θ1:List Addr}{s:S}{O1:au}(b:BS K ca σ H F θ s)(st:Stp H F [] H1 F1 θ1)(n:Now K ca H1 F1 θ1 O1):
 Stp H F θ H1 F1 (θ++θ1)/\BS K ca σ H1 F1 (θ++θ1) ⟨s.r,s.o++O1.map (shC s.o.length)⟩:=by
 obtain⟨st0,b0⟩:=b.called st n
 obtain⟨r,er,hr⟩:=st.th
 rw[List.nil_append] at er
 subst er
 refine⟨⟨st0.ff,⟨θ1,rfl,hr⟩,st0.kp,st0.al,st0.nf⟩,⟨⟨n.fh,List.nodup_append.mpr ⟨b.now.nd,n.nd,λa ha x hx=> ?_⟩,by simp[b.now.ln,n.ln],λk a c e1 e2=> ?_⟩,b.len,λi d e=> ?_⟩⟩
 ·rintro rfl
  obtain⟨u,hu⟩:=b.now.there ha
  rw[hr a hx] at hu
  cases hu
 ·by_cases hk:k<θ.length
  ·rw[List.getElem?_append_left hk] at e1
   dsimp only at e2
   rw[List.getElem?_append_left (by rw[<- b.now.ln];exact hk)] at e2
   have w:=b0.now.ce k a c e1 e2
   cases c with
   | dead=>exact w
   | lst ds=>obtain⟨q1,ys,q2,q3⟩:=w;exact⟨q1,ys,q2,q3.mono (bC.refl _) ⟨θ1,rfl⟩⟩
   | ins c ns ds=>obtain⟨q1,dx,ys,q2,q3,q4⟩:=w;exact⟨q1,dx,ys,q2,q3,q4.mono (bC.refl _) ⟨θ1,rfl⟩⟩
  ·rw[List.getElem?_append_right (by omega)] at e1
   dsimp only at e2
   rw[List.getElem?_append_right (by rw[<- b.now.ln];omega),List.getElem?_map,<- b.now.ln] at e2
   cases e3:O1[k-θ.length]? with
   | none=>rw[e3] at e2;cases e2
   | some c'=>
    rw[e3] at e2
    cases e2
    have w:=n.ce _ a c' e1 e3
    cases c' with
    | dead=>exact w
    | lst ds=>obtain⟨q1,ys,q2,q3⟩:=w;exact⟨q1,ys,q2,nZ q3⟩
    | ins c ns ds=>obtain⟨q1,dx,ys,q2,q3,q4⟩:=w;exact⟨q1,dx,ys,q2,q3,nZ q4⟩
 ·obtain⟨v,h1,h2⟩:=b0.sl i d e
  exact⟨v,h1,h2.mono (bC.refl _) ⟨θ1,rfl⟩⟩
def gc(n:Nat)(f:FM)(ma:AM):EM:=λs=>(ma s).bind λx=>if aM x.1=true/\x.1.length=n then (match f x.1 [] with
 | .ok (d,O1)=>.ok (shD x.2.o.length d,⟨x.2.r,x.2.o++O1.map (shC x.2.o.length)⟩)
 | _=>.bad) else .bad
theorem kI{n:Nat}{f:FM}{ta:TA}{ma:AM}{E:XK}(ha:RdA C ta ma):RdE C (tf (spM C.K C.ca n f) [] E ta) (gc n f ma):=by
 intro σ H F θ s Q b p
 refine ha σ H F θ s _ b (PoR.bind p ?_)
 rintro ⟨x,s1⟩ H1 F1 θ1 _ st1 p1 b1 v r1
 dsimp only at p1 b1 r1 ⊢
 split at p1
 ·rename_i hp
  rw[List.append_nil]
  refine⟨F1,[],x,[],Now.nil b1.now.fh,r1.pure hp.1,hp.2, ?_⟩
  split at p1
  ·rename_i d O1 e
   rw[e]
   intro v H2 F2 θ2 st2 n2 rv
   obtain⟨st3,b3⟩:=b1.calledO st2 n2
   refine p1 H2 F2 _ st3 b3 v ?_
   rw[<- b1.now.ln]
   exact EE rv
  ·exact False.elim p1
 ·exact False.elim p1
def iy(n:Nat)(f:FM)(ma:AM):EM:=λs=>(ma s).bind λx=>if aM (bA x.2.o (bA x.2.o x.1))=true/\x.1.length=n then (match f (bA x.2.o (bA x.2.o x.1)) [] with
 | .ok (d,_)=>if nP d=true then .ok (d,x.2) else .bad
 | _=>.bad) else .bad
theorem ke(O:au):∀ds:List D,(bA O ds).length=ds.length
 | []=>by unfold bA;rfl
 | d::ds=>by unfold bA;rw[List.length_cons,List.length_cons,ke O ds]
theorem ot{n:Nat}{f:FM}{ta:TA}{ma:AM}{E:XK}(ha:RdA C ta ma):RdE C (tf (spM C.K C.ca n f) [] E ta) (iy n f ma):=by
 intro σ H F θ s Q b p
 refine ha σ H F θ s _ b (PoR.bind p ?_)
 rintro ⟨x,s1⟩ H1 F1 θ1 _ st1 p1 b1 v r1
 dsimp only at p1 b1 r1 ⊢
 split at p1
 ·rename_i hp
  rw[List.append_nil]
  have rr:ax C.K C.ca θ1 H1 (bA s1.o (bA s1.o x)) v:=kG b1.now b1.now.fh (bC.refl _) (kG b1.now (bC.refl _) b1.now.fh r1)
  refine⟨H1,[],bA s1.o (bA s1.o x),[],Now.nil (bC.refl _),rr.pure hp.1,by rw[ke,ke];exact hp.2, ?_⟩
  split at p1
  ·rename_i d O1 e
   rw[e]
   intro v H2 F2 θ2 st2 n2 rv
   split at p1
   ·rename_i sd
    have kp:∀a o,H1 a=some o->H2 a=some o:=λa o h=>st2.kp a o h (by simp)
    refine p1 H2 F1 θ1 ⟨bC.refl _,⟨[],by simp,by simp⟩,λa o h _=>kp a o h,st2.al,λa o h=>.inl h⟩ ⟨⟨λa o h=>kp a o (b1.now.fh a o h),b1.now.nd,b1.now.ln,λk a c e1 e2=> ?_⟩,b1.len,b1.sl⟩ v (rv.scal sd)
    have w:=b1.now.ce k a c e1 e2
    cases c with
    | dead=>obtain⟨o,ho⟩:=w;exact⟨o,kp a o ho⟩
    | lst ds=>obtain⟨q1,ys,q2,q3⟩:=w;exact⟨q1,ys,kp _ _ q2,q3⟩
    | ins c ns ds=>obtain⟨q1,dx,ys,q2,q3,q4⟩:=w;exact⟨q1,dx,ys,kp _ _ q2,q3,q4⟩
   ·exact False.elim p1
  ·exact False.elim p1
 ·exact False.elim p1
end
end M
set_option maxRecDepth 100000
set_option maxHeartbeats 4000000
namespace M
open PySem PySem.Spec PyProof.Rows L2
def cB(P:Program)(w:World)(K:PySem.W.Frag)(mg:Str->Option Value)(base:Heap)(ca:Nat->Addr)(lv:Nat)(x:Str)(ps:List Str)(f:FM)(a:Addr)(fd:FuncData):Prop:=
 fV P w K mg base (CXE P w) lv a fd ps (spM K ca ps.length f)/\mg x=some (.ref a)/\PySem.W.keepIn K (.ref a)=true/\Binds K fd ps []
def bS(P:Program)(w:World)(K:PySem.W.Frag)(mg:Str->Option Value)(base:Heap)(ca:Nat->Addr)(lv:Nat)(x:Str)(ps:List Str)(f:FM):Prop:=∃a fd,cB P w K mg base ca lv x ps f a fd
theorem cB.in{P:Program}{w:World}{K:PySem.W.Frag}{mg:Str->Option Value}{base:Heap}{ca:Nat->Addr}{lv:Nat}{x:Str}{ps:List Str}{f:FM}{a:Addr}{fd:FuncData}(h:cB P w K mg base ca lv x ps f a fd):bS P w K mg base ca lv x ps f:=⟨a,fd,h⟩
theorem xa{K:PySem.W.Frag}{ca:Nat->Addr}{θ:List Addr}{F:Hp}:∀ns:List Int,ax K ca θ F (ns.map D.int) (ns.map V.int)
 | []=>ax.nil
 | _::ns=>ax.cons (bh.mpr rfl) (xa ns)
theorem LN{K:PySem.W.Frag}{ca:Nat->Addr}{H:Hp}{a:Addr}{ns:List Int}{f:FM}{E:XK}(hS:SqL K H a (ns.map V.int))(h:∃O,f [.lst (ns.map D.int)] []=.ok (.bl true,O)):spM K ca 1 f [.ref a] H (λv _=>v=.bl true) E:=by
 obtain⟨O,h⟩:=h
 refine⟨H,[],[.lst (ns.map D.int)],[],Now.nil (bC.refl _),ax.one ?_,rfl, ?_⟩
 ·unfold Rep
  exact⟨a,ns.map V.int,rfl,hS,xa ns⟩
 ·rw[h]
  intro v H1 F1 θ1 _ _ r
  exact cZ.mp r
theorem cj{k:Nat}{A:Around}(hr:dN k A)(hk:32<=k):A.depth+100<recursionLimit:=by
 have:=hr.dp
 omega
def tE(i:Nat)(s:S):Nat:=match s.r[i]? with
 | some (some (.int j))=>j.natAbs+1
 | _=>0
end M
set_option maxRecDepth 100000
set_option maxHeartbeats 4000000
namespace M
open PySem PySem.Spec PyProof.Rows L2
section
variable {C : Ct}
def oI(as bs:List D):List D:=List.zipWith (λa b=>.tup [a,b]) as bs
def rJ(m:AM):IM:=λs=>(m s).bind λx=>match x.1 with
 | [.lst as,.lst bs]=>.ok ((oI as bs,none),x.2)
 | _=>.bad
theorem Ad{as bs:List D}{i:Nat}{d:D}(h:(oI as bs)[i]? =some d):∃x y,as[i]? =some x/\bs[i]? =some y/\d=.tup [x,y]:=by
 unfold oI at h
 rw[List.getElem?_zipWith] at h
 cases h1:as[i]? with
 | none=>rw[h1] at h;cases h
 | some x=>
  cases h2:bs[i]? with
  | none=>rw[h1,h2] at h;cases h
  | some y=>
   rw[h1,h2] at h
   cases h
   exact⟨x,y,rfl,rfl,rfl⟩
theorem Lj{a b:Addr}{xs ys:List V}{as bs:List D}{H F:Hp}{θ:List Addr}(h1:SqL C.K F a xs)(h2:SqL C.K F b ys)(r1:ax C.K C.ca θ F as xs)(r2:ax C.K C.ca θ F bs ys):
 vQ C (Itz C.K a b) (oI as bs) (okC (oI as bs) none) H F θ where
 go:=λi H2 F2 θ2 O2 hi st n _=>by
  obtain⟨x,y,e1,e2,_⟩:=Ad (List.getElem?_eq_getElem hi)
  obtain⟨v,q1,_⟩:=r1.get e1
  obtain⟨w,q2,_⟩:=r2.get e2
  exact⟨xs,ys,v,w,n.fh.seq (st.ff.seq h1),n.fh.seq (st.ff.seq h2),q1,q2⟩
 yl:=λi d σ H2 F2 θ2 s2 x H3 hd st b _ hy=>by
  obtain⟨T,v,w,hT,rfl,rfl,hv,hw⟩:=hy
  obtain⟨x,y,e1,e2,rfl⟩:=Ad hd
  obtain⟨v',q1,k1⟩:=r1.get e1
  obtain⟨w',q2,k2⟩:=r2.get e2
  have:=hv xs (b.now.fh.seq (st.ff.seq h1))
  rw[q1] at this
  cases this
  have:=hw ys (b.now.fh.seq (st.ff.seq h2))
  rw[q2] at this
  cases this
  obtain⟨st3,b3,sF,e3⟩:=b.newF hT (.tup [v,w])
  refine⟨_,st3,b3, ?_⟩
  unfold Rep
  exact⟨T,[v,w],rfl,SqT.of e3,ax.cons ((k1.mono st.ff st.pre).mono st3.ff st3.pre) (ax.one ((k2.mono st.ff st.pre).mono st3.ff st3.pre))⟩
 st:=λi H2 F2 θ2 O2 hi st n _=>by
  refine⟨xs,ys,n.fh.seq (st.ff.seq h1),n.fh.seq (st.ff.seq h2), ?_⟩
  unfold oI at hi
  rw[List.length_zipWith] at hi
  rw[r1.length,r2.length]
  omega
theorem Ag{ta:TA}{m:AM}(h:RdA C ta m):RdI C (LD C.K ta) (rJ m):=by
 intro σ H F θ s R b p
 refine h σ H F θ s _ b (PoR.bind p ?_)
 rintro ⟨x,s1⟩ H1 F1 θ1 _ st1 p1 b1 v r1
 dsimp only at p1 b1 r1
 split at p1
 ·rename_i as bs
  obtain⟨v1,v2,rfl,k1,k2⟩:=MM r1
  unfold Rep at k1 k2
  obtain⟨a,xs,rfl,hs,hr⟩:=k1
  obtain⟨b',ys,rfl,hs',hr'⟩:=k2
  exact⟨a,b',rfl,⟨xs,b1.now.fh.seq hs⟩,⟨ys,b1.now.fh.seq hs'⟩,p1 _ _ _ .refl b1 _ (Lj hs hs' hr hr')⟩
 ·exact False.elim p1
def dU(ds:List D):List D:=ds.mapIdx λi d=>.tup [.int (i:Nat),d]
def dk(m:AM):IM:=λs=>(m s).bind λx=>match x.1 with
 | [.lst as]=>.ok ((dU as,none),x.2)
 | _=>.bad
theorem xM{as:List D}{i:Nat}{d:D}(h:(dU as)[i]? =some d):∃x,as[i]? =some x/\d=.tup [.int (i:Nat),x]:=by
 unfold dU at h
 rw[List.getElem?_mapIdx] at h
 cases h1:as[i]? with
 | none=>rw[h1] at h;cases h
 | some x=>
  rw[h1] at h
  cases h
  exact⟨x,rfl,rfl⟩
theorem IU{a:Addr}{xs:List V}{as:List D}{H F:Hp}{θ:List Addr}(h1:SqL C.K F a xs)(r1:ax C.K C.ca θ F as xs):vQ C (Ite C.K a) (dU as) (okC (dU as) none) H F θ where
 go:=λi H2 F2 θ2 O2 hi st n _=>by
  obtain⟨x,e1,_⟩:=xM (List.getElem?_eq_getElem hi)
  obtain⟨v,q1,_⟩:=r1.get e1
  exact⟨xs,v,n.fh.seq (st.ff.seq h1),q1⟩
 yl:=λi d σ H2 F2 θ2 s2 x H3 hd st b _ hy=>by
  obtain⟨T,v,hT,rfl,rfl,hv⟩:=hy
  obtain⟨x,e1,rfl⟩:=xM hd
  obtain⟨v',q1,k1⟩:=r1.get e1
  have:=hv xs (b.now.fh.seq (st.ff.seq h1))
  rw[q1] at this
  cases this
  obtain⟨st3,b3,sF,e3⟩:=b.newF hT (.tup [.int (i:Nat),v])
  refine⟨_,st3,b3, ?_⟩
  unfold Rep
  exact⟨T,[.int (i:Nat),v],rfl,SqT.of e3,ax.cons (bh.mpr rfl) (ax.one ((k1.mono st.ff st.pre).mono st3.ff st3.pre))⟩
 st:=λi H2 F2 θ2 O2 hi st n _=>by
  refine⟨xs,n.fh.seq (st.ff.seq h1), ?_⟩
  unfold dU at hi
  rw[List.length_mapIdx] at hi
  rw[r1.length]
  exact hi
theorem gY{ta:TA}{m:AM}(h:RdA C ta m):RdI C (Im C.K ta) (dk m):=by
 intro σ H F θ s R b p
 refine h σ H F θ s _ b (PoR.bind p ?_)
 rintro ⟨x,s1⟩ H1 F1 θ1 _ st1 p1 b1 v r1
 dsimp only at p1 b1 r1
 split at p1
 ·rename_i as
  obtain⟨v1,rfl,k1⟩:=mr r1
  unfold Rep at k1
  obtain⟨a,xs,rfl,hs,hr⟩:=k1
  exact⟨a,rfl,⟨xs,b1.now.fh.seq hs⟩,p1 _ _ _ .refl b1 _ (IU hs hr)⟩
 ·exact False.elim p1
def oN(x:Str):List D:=x.cps.toList.map λc=>.str ⟨#[c]⟩
def Ed(m:EM):IM:=λs=>(m s).bind λx=>match x.1 with
 | .str z=>.ok ((oN z,none),x.2)
 | _=>.bad
theorem Lh{z:Str}{H F:Hp}{θ:List Addr}:vQ C (Its z) (oN z) (okC (oN z) none) H F θ where
 go:=λi H2 F2 θ2 O2 hi st n _=>by
  unfold oN at hi
  show i<z.cps.size
  simpa using hi
 yl:=λi d σ H2 F2 θ2 s2 x H3 hd st b _ hy=>by
  obtain⟨rfl,c,hc,rfl⟩:=hy
  refine⟨F2,.refl,b, ?_⟩
  unfold oN at hd
  rw[List.getElem?_map,Array.getElem?_toList,hc] at hd
  cases hd
  exact de.mpr rfl
 st:=λi H2 F2 θ2 O2 hi st n _=>by
  unfold oN at hi
  show z.cps.size<=i
  simpa using hi
theorem J4{te:TE}{m:EM}(h:RdE C te m):RdI C (Lo te) (Ed m):=by
 intro σ H F θ s R b p
 refine h σ H F θ s _ b (PoR.bind p ?_)
 rintro ⟨x,s1⟩ H1 F1 θ1 _ st1 p1 b1 v r1
 dsimp only at p1 b1 r1
 cases x <;> first | exact False.elim p1 | skip
 rename_i z _
 exact⟨z,de.mp r1,p1 _ _ _ .refl b1 _ Lh⟩
def gA:List D->Option (List Int)
 | []=>some []
 | .int i::r=>(gA r).map (i:: ·)
 | _=>none
def j7:List D->Option (List Bool)
 | []=>some []
 | .bl i::r=>(j7 r).map (i:: ·)
 | _=>none
theorem ve{K:PySem.W.Frag}{ca:Nat->Addr}{θ:List Addr}{F:Hp}:∀{ds:List D} {ns:List Int} {xs:List V},gA ds=some ns->ax K ca θ F ds xs->xs=ns.map V.int
 | [],ns,xs,e,r=>by cases e;unfold ax at r;rw[r];rfl
 | d::ds,ns,xs,e,r=>by
  cases d <;> first | (cases e;done) | skip
  rename_i i
  unfold gA at e
  cases e2:gA ds with
  | none=>rw[e2] at e;cases e
  | some ms=>
   rw[e2] at e
   cases e
   unfold ax at r
   obtain⟨v,w,rfl,h1,h2⟩:=r
   rw[ve e2 h2,bh.mp h1];rfl
theorem ub{K:PySem.W.Frag}{ca:Nat->Addr}{θ:List Addr}{F:Hp}:∀{ds:List D} {ns:List Bool} {xs:List V},j7 ds=some ns->ax K ca θ F ds xs->xs=ns.map V.bl
 | [],ns,xs,e,r=>by cases e;unfold ax at r;rw[r];rfl
 | d::ds,ns,xs,e,r=>by
  cases d <;> first | (cases e;done) | skip
  rename_i i
  unfold j7 at e
  cases e2:j7 ds with
  | none=>rw[e2] at e;cases e
  | some ms=>
   rw[e2] at e
   cases e
   unfold ax at r
   obtain⟨v,w,rfl,h1,h2⟩:=r
   rw[ub e2 h2,cZ.mp h1];rfl
def ofInts(f:List Int->D):OpN:=λO xs=>match xs with
 | [x]=>match lsD O x with
  | some ds=>match gA ds with
   | some ns=>.ok (f ns)
   | none=>.bad
  | none=>.bad
 | _=>.bad
def tI(f:List Bool->D):OpN:=λO xs=>match xs with
 | [x]=>match lsD O x with
  | some ds=>match j7 ds with
   | some ns=>.ok (f ns)
   | none=>.bad
  | none=>.bad
 | _=>.bad
def oG:OpN:=ofInts λns=>.int ns.sum
def vR:OpN:=tI λbs=>.bl (bs.all id)
def Nx:OpN:=tI λbs=>.bl (bs.any id)
theorem E7{f:List Int->D}{g:List Int->V}(h:∀K ca θ F ns,Rep K ca θ F (f ns) (g ns)):kl C (λxs H Q=>∃(p:Addr) (ns:List Int),xs=[.ref p]/\SqL C.K H p (ns.map V.int)/\Q (g ns) H) (ofInts f):=by
 intro σ H F θ s xs vs Q b r p
 unfold ofInts at p
 split at p
 ·obtain⟨v,rfl,r1⟩:=mr r
  split at p
  ·rename_i ds e
   obtain⟨a,ys,rfl,hs,hr⟩:=fj b r1 e
   split at p
   ·rename_i ns e2
    have:=ve e2 hr
    subst this
    exact⟨a,ns,rfl,hs,dv p b (h ..)⟩
   ·exact False.elim p
  ·exact False.elim p
 ·exact False.elim p
theorem Dp{f:List Bool->D}{g:List Bool->V}(h:∀K ca θ F ns,Rep K ca θ F (f ns) (g ns)):kl C (λxs H Q=>∃(p:Addr) (ns:List Bool),xs=[.ref p]/\SqL C.K H p (ns.map V.bl)/\Q (g ns) H) (tI f):=by
 intro σ H F θ s xs vs Q b r p
 unfold tI at p
 split at p
 ·obtain⟨v,rfl,r1⟩:=mr r
  split at p
  ·rename_i ds e
   obtain⟨a,ys,rfl,hs,hr⟩:=fj b r1 e
   split at p
   ·rename_i ns e2
    have:=ub e2 hr
    subst this
    exact⟨a,ns,rfl,hs,dv p b (h ..)⟩
   ·exact False.elim p
  ·exact False.elim p
 ·exact False.elim p
theorem vG:kl C (λxs H Q=>∃(p:Addr) (ns:List Int),xs=[.ref p]/\SqL C.K H p (ns.map V.int)/\Q (.int ns.sum) H) oG:=E7 λ_ _ _ _ _=>bh.mpr rfl
theorem Bb:kl C (λxs H Q=>∃(p:Addr) (bs:List Bool),xs=[.ref p]/\SqL C.K H p (bs.map V.bl)/\Q (.bl (bs.all id)) H) vR:=Dp λ_ _ _ _ _=>cZ.mpr rfl
def Lr:D->Bool
 | .non=>true
 | _=>false
def isD:Op2:=λ_ x y=>match x,y with
 | .bl a,.bl b=>.ok (.bl (a == b))
 | x,.non=>.ok (.bl (Lr x))
 | _,_=>.bad
def vv:Op2:=λ_ x y=>match y with
 | .non=>.ok (.bl (!Lr x))
 | _=>.bad
theorem Ex{X:Cx}:OpR X (compareOp .LtE) (λx y H Q=>∃i j,x=.str i/\y=.str j/\Q (.bl (!decide (j.cps.toList<i.cps.toList))) H):=by
 intro pins s σ H x y v u Q I rx ry h
 obtain⟨i,j,rfl,rfl,q⟩:=h
 obtain⟨t,rfl⟩:=rx
 obtain⟨t',rfl⟩:=ry
 exact PySem.P.le_str (cJ I q rfl)
def qf:Op2:=λ_ x y=>match x,y with
 | .str i,.str j=>.ok (.bl (!decide (j.cps.toList<i.cps.toList)))
 | _,_=>.bad
theorem Ez:gf C (λx y H Q=>∃i j,x=.str i/\y=.str j/\Q (.bl (!decide (j.cps.toList<i.cps.toList))) H) qf:=by
 intro σ H F θ s x y v w Q b rx ry p
 unfold qf at p
 split at p
 ·rename_i i j
  exact⟨i,j,de.mp rx,de.mp ry,dv p b (cZ.mpr rfl)⟩
 ·exact False.elim p
def lJ(f g:Op2)(a b c:EM):EM:=λs=>(a s).bind λx=>(b x.2).bind λy=>(f y.2.o x.1 y.1).bind λz=>match z with
 | .bl true=>(c y.2).bind λw=>(g w.2.o y.1 w.1).bind λd=>.ok (d,w.2)
 | .bl false=>.ok (.bl false,y.2)
 | _=>.bad
theorem z6{r r':R2}{f g:Op2}{ta tb tc:TE}{ma mb mc:EM}(hf:gf C r f)(hg:gf C r' g)(ha:RdE C ta ma)(hb:RdE C tb mb)(hc:RdE C tc mc):RdE C (yV r r' ta tb tc) (lJ f g ma mb mc):=by
 intro σ H F θ s Q b p
 refine ha σ H F θ s _ b (PoR.bind p ?_)
 rintro ⟨x,s1⟩ H1 F1 θ1 _ st1 p1 b1 v r1
 refine hb σ H1 F1 θ1 s1 _ b1 (PoR.bind p1 ?_)
 rintro ⟨y,s2⟩ H2 F2 θ2 _ st2 p2 b2 w r2
 dsimp only at p2
 refine hf σ H2 F2 θ2 s2 x y v w _ b2 (r1.mono st2.ff st2.pre) r2 ?_
 cases e:f s2.o x y with
 | bad=>rw[e] at p2;exact p2
 | exc a1 a2 a3=>rw[e] at p2;exact p2
 | ok z=>
  rw[e,aj] at p2
  rw[aj]
  intro H3 F3 θ3 st3 b3 u r3
  cases z <;> first | exact False.elim p2 | skip
  rename_i k
  refine⟨k,cZ.mp r3, ?_⟩
  cases k with
  | false=>exact uI (PoR.after st3 p2 _ _ _ .refl b3 _ (cZ.mpr rfl))
  | true=>
   refine uw (hc σ H3 F3 θ3 s2 _ b3 (PoR.bind (PoR.after st3 p2) ?_))
   rintro ⟨q,s4⟩ H4 F4 θ4 _ st4 p4 b4 w' r4
   exact hg σ H4 F4 θ4 s4 y q w w' Q b4 ((r2.mono st3.ff st3.pre).mono st4.ff st4.pre) r4 p4
def orD:Op2:=intD λi j=>.ok (.int (Builtin.bitOr i j))
theorem yZ:gf C (rI0 λi j=>.int (Builtin.bitOr i j)) orD:=rB λ_ _ _ _ _ _=>bh.mpr rfl
theorem ax.erase{K:PySem.W.Frag}{ca:Nat->Addr}{θ:List Addr}{F:Hp}:∀{ds:List D} {xs:List V} (i:Nat),ax K ca θ F ds xs->ax K ca θ F (ds.eraseIdx i) (xs.eraseIdx i)
 | [],_,_,k=>by unfold ax at k;rw[k];exact ax.nil
 | _::_,_,0,k=>by
  unfold ax at k
  obtain⟨v,r,rfl,h1,h2⟩:=k
  exact h2
 | _::_,_,i+1,k=>by
  unfold ax at k
  obtain⟨v,r,rfl,h1,h2⟩:=k
  exact ax.cons h1 (ax.erase i h2)
def tu(n:Nat)(f:FM)(ma:AM):EM:=λs=>(ma s).bind λx=>if x.1.length=n then (match f x.1 x.2.o with
 | .ok (d,O1)=>.ok (d,⟨x.2.r,O1⟩)
 | _=>.bad) else .bad
theorem yU{n:Nat}{f:FM}{ta:TA}{ma:AM}{E:XK}(ha:RdA C ta ma):RdE C (tf (spM C.K C.ca n f) [] E ta) (tu n f ma):=by
 intro σ H F θ s Q b p
 refine ha σ H F θ s _ b (PoR.bind p ?_)
 rintro ⟨x,s1⟩ H1 F1 θ1 _ st1 p1 b1 v r1
 dsimp only at p1 b1 r1 ⊢
 split at p1
 ·rename_i hp
  rw[List.append_nil]
  refine⟨F1,θ1,x,s1.o,b1.now,r1,hp, ?_⟩
  split at p1
  ·rename_i d O1 e
   rw[e]
   intro v H2 F2 θ2 st2 n2 rv
   exact p1 H2 F2 θ2 st2 ⟨n2,b1.len,λi d e=>by
    obtain⟨v,h1,h2⟩:=b1.sl i d e
    exact⟨v,h1,h2.mono st2.ff st2.pre⟩⟩ v rv
  ·exact False.elim p1
 ·exact False.elim p1
def De(k:Int)(ds:List D):List D:=(List.replicate k.toNat ds).flatten
def An(fin:S->List D->Res (D×S))(ma:AM)(mk:EM):EM:=λs=>(ma s).bind λx=>if x.1.length<=16777216 then (mk x.2).bind λy=>match y.1 with
 | .int k=>if (-(2^63)<=k/\k<2^63)/\x.1.length*k.toNat<=16777216 then fin y.2 (De k x.1) else .bad
 | _=>.bad
 else .bad
def uG:S->List D->Res (D×S):=λs ds=>.ok (.lst ds,s)
def rj:S->List D->Res (D×S):=λs ds=>.ok (.ptr s.o.length,⟨s.r,s.o++[.lst ds]⟩)
theorem Ah{K ca θ F}{ds:List D}{xs:List V}(r:ax K ca θ F ds xs):∀k:Nat,ax K ca θ F (List.replicate k ds).flatten (List.replicate k xs).flatten
 | 0=>ax.nil
 | k+1=>by
  rw[List.replicate_succ,List.replicate_succ,List.flatten_cons,List.flatten_cons]
  exact r.append (Ah r k)
theorem Le {fin:S->List D->Res (D×S)} {ta:TA} {tk:TE} {ma:AM} {mk:EM} (ha:RdA C ta ma) (hk:RdE C tk mk)
 (hf:∀σ H F θ s ds xs Q,BS C.K C.ca σ H F θ s->ax C.K C.ca θ F ds xs->PoE C σ H F θ (fin s ds) Q->∀q,H q=none->Q (.ref q) (upd H q (.lst xs))):RdE C (tOp Hj (z4 ta) tk) (An fin ma mk):=by
 intro σ H F θ s Q b p
 refine ha σ H F θ s _ b (PoR.bind p ?_)
 rintro ⟨x,s1⟩ H1 F1 θ1 _ st1 p1 b1 v r1
 dsimp only at p1
 split at p1
 ·rename_i hl
  refine⟨by rw[r1.length];exact hl,λq hq=> ?_⟩
  obtain⟨st,b2,sF,e⟩:=b1.newF hq (.lst v)
  refine hk σ _ _ _ s1 _ b2 (PoR.bind (PoR.after st p1) ?_)
  rintro ⟨y,s2⟩ H2 F2 θ2 _ st2 p2 b3 w r2
  dsimp only at p2 r2
  split at p2
  ·rename_i k _
   split at p2
   ·rename_i hk
    rw[bh.mp r2]
    refine⟨q,k,v,rfl,rfl,b3.now.fh _ _ (st2.ff _ _ e),hk.1.1,hk.1.2,by rw[r1.length];exact hk.2, ?_⟩
    exact hf σ H2 F2 θ2 s2 _ _ Q b3 (Ah (((r1.mono sF ⟨[],by simp⟩).mono st2.ff st2.pre)) k.toNat) p2
   ·exact False.elim p2
  ·exact False.elim p2
 ·exact False.elim p1
theorem Jf{ta:TA}{tk:TE}{ma:AM}{mk:EM}(ha:RdA C ta ma)(hk:RdE C tk mk):RdE C (tOp Hj (z4 ta) tk) (An rj ma mk):=Le ha hk λσ H F θ s ds xs Q b r p=>sq p b r
def NL(m:EM):TM:=λs=>(m s).bind λx=>match lsD x.2.o x.1 with
 | some ds=>.ok (!ds.isEmpty,x.2)
 | none=>.bad
end
end M
set_option maxRecDepth 100000
set_option maxHeartbeats 4000000
namespace M
open PySem PySem.Spec PyProof.Rows L2
section
variable {C : Ct}
theorem ax.places{K:PySem.W.Frag}{ca:Nat->Addr}{θ:List Addr}{F:Hp}{ds:List D}{xs:List V}(r:ax K ca θ F ds xs):∀js:List Nat,ax K ca θ F (js.filterMap (ds[·]?)) (js.filterMap (xs[·]?))
 | []=>ax.nil
 | j::js=>by
  have ih:=ax.places r js
  cases hn:ds[j]? with
  | some d=>
   obtain⟨v,hv,rv⟩:=r.get hn
   simp only[List.filterMap_cons,hn,hv]
   exact ax.cons rv ih
  | none=>
   have hv:xs[j]? =none:=by
    rw[List.getElem?_eq_none_iff] at hn ⊢
    rw[r.length];exact hn
   simp only[List.filterMap_cons,hn,hv]
   exact ih
def AG(fin:S->List D->Res (D×S))(me:EM)(ml mh ms:OM):EM:=λs=>(me s).bind λx=>(ml x.2).bind λl=>(mh l.2).bind λh=>(ms h.2).bind λt=>match lsD t.2.o x.1 with
 | some ds=>if t.1=some 0 then .bad else fin t.2 (pick ds l.1 h.1 t.1)
 | none=>.bad
theorem LL {fin:S->List D->Res (D×S)} {te:TE} {tl th ts:TO} {me:EM} {ml mh ms:OM} (he:RdE C te me) (hl:RdO C tl ml) (hh:RdO C th mh) (ht:RdO C ts ms)
 (hf:∀σ H F θ s ds xs Q,BS C.K C.ca σ H F θ s->ax C.K C.ca θ F ds xs->PoE C σ H F θ (fin s ds) Q->∀q,H q=none->Q (.ref q) (upd H q (.lst xs))):RdE C (GH C.K te tl th ts) (AG fin me ml mh ms):=by
 intro σ H F θ s Q b p
 refine he σ H F θ s _ b (PoR.bind p ?_)
 rintro ⟨x,s1⟩ H1 F1 θ1 _ st1 p1 b1 v r1
 refine hl σ H1 F1 θ1 s1 _ b1 (PoR.bind p1 ?_)
 rintro ⟨l,s2⟩ H2 F2 θ2 _ st2 p2 b2
 refine hh σ H2 F2 θ2 s2 _ b2 (PoR.bind p2 ?_)
 rintro ⟨h,s3⟩ H3 F3 θ3 _ st3 p3 b3
 refine ht σ H3 F3 θ3 s3 _ b3 (PoR.bind p3 ?_)
 rintro ⟨t,s4⟩ H4 F4 θ4 _ st4 p4 b4
 dsimp only at p4 ⊢
 split at p4
 ·rename_i ds e
  split at p4
  ·exact False.elim p4
  ·rename_i h0
   obtain⟨a,xs,rfl,hs,hr⟩:=fj b4 (((r1.mono st2.ff st2.pre).mono st3.ff st3.pre).mono st4.ff st4.pre) e
   refine⟨a,xs,rfl,hs,h0, ?_⟩
   have hp:ax C.K C.ca θ4 F4 (pick ds l h t) (pick xs l h t):=by
    unfold pick
    rw[hr.length]
    exact hr.places _
   exact hf σ H4 F4 θ4 s4 _ _ Q b4 hp p4
 ·exact False.elim p4
theorem JQ{te:TE}{tl th ts:TO}{me:EM}{ml mh ms:OM}(he:RdE C te me)(hl:RdO C tl ml)(hh:RdO C th mh)(ht:RdO C ts ms):RdE C (GH C.K te tl th ts) (AG uG me ml mh ms):=LL he hl hh ht λσ H F θ s ds xs Q b r p=>pH p b r
end
end M
set_option maxRecDepth 100000
set_option maxHeartbeats 4000000
namespace M
open PySem PySem.Spec PyProof.Rows L2
section
variable {C : Ct}
def AY(m:EM):EM:=λs=>(m s).bind λx=>match fY x.2.o x.1 with
 | some (k,ds)=>.ok (.lst ds,⟨x.2.r,x.2.o.set k .dead⟩)
 | none=>.ok x
theorem CH(m:EM)(s:S):AY m s=(m s).bind λx=>match fY x.2.o x.1 with
 | some (k,ds)=>.ok (.lst ds,⟨x.2.r,x.2.o.set k .dead⟩)
 | none=>.ok x:=rfl
theorem IP{t:TE}{m:EM}(h:RdE C t m):RdE C t (AY m):=by
 intro σ H F θ s Q b p
 refine h σ H F θ s _ b (PoR.bind p ?_)
 rintro ⟨x,s1⟩ H1 F1 θ1 _ st1 p1 b1 v r1
 dsimp only at p1 b1 r1
 split at p1
 ·rename_i k ds e
  obtain⟨rfl,e'⟩:=mT e
  obtain⟨a,xs,rfl,hk,hF,h1,h2⟩:=jQ b1 r1 e'
  obtain⟨st2,b2,r2⟩:=b1.frz hk e' hF h1 h2
  exact p1 _ _ _ st2 b2 _ r2
 ·exact p1 _ _ _ .refl b1 _ r1
end
end M
set_option maxRecDepth 100000
set_option maxHeartbeats 4000000
namespace M
open PySem PySem.Spec PyProof.Rows L2
section
variable {C : Ct}
def slS(me:EM)(ml mh:OM):EM:=λs=>(me s).bind λx=>(ml x.2).bind λl=>(mh l.2).bind λh=>match x.1 with
 | .str z=>if z.length<=16777216 then .ok (.str (lE z l.1 h.1),h.2) else .bad
 | _=>.bad
theorem En{te:TE}{tl th:TO}{me:EM}{ml mh:OM}(he:RdE C te me)(hl:RdO C tl ml)(hh:RdO C th mh):RdE C (tSl Ip te tl th) (slS me ml mh):=by
 intro σ H F θ s Q b p
 refine he σ H F θ s _ b (PoR.bind p ?_)
 rintro ⟨x,s1⟩ H1 F1 θ1 _ st1 p1 b1 v r1
 refine hl σ H1 F1 θ1 s1 _ b1 (PoR.bind p1 ?_)
 rintro ⟨l,s2⟩ H2 F2 θ2 _ st2 p2 b2
 refine hh σ H2 F2 θ2 s2 _ b2 (PoR.bind p2 ?_)
 rintro ⟨h,s3⟩ H3 F3 θ3 _ st3 p3 b3
 dsimp only at p3 ⊢
 split at p3
 ·rename_i z _
  split at p3
  ·rename_i hz
   exact⟨z,de.mp r1,by rw[sizeLine_eq];exact hz,p3 _ _ _ .refl b3 _ (de.mpr rfl)⟩
  ·exact False.elim p3
 ·exact False.elim p3
theorem K0(me:EM)(ml mh:OM)(s:S):slS me ml mh s=(me s).bind λx=>(ml x.2).bind λl=>(mh l.2).bind λh=>match x.1 with
 | .str z=>if z.length<=16777216 then .ok (.str (lE z l.1 h.1),h.2) else .bad
 | _=>.bad:=rfl
end
end M
set_option maxRecDepth 100000
set_option maxHeartbeats 4000000
namespace M
open PySem PySem.Spec PyProof.Rows L2
section
variable {C : Ct}
def mK:List D->Option (List Str)
 | []=>some []
 | .str z::r=>match mK r with
  | some zs=>some (z::zs)
  | none=>none
 | _=>none
theorem xF:∀{ds:List D} {zs:List Str},mK ds=some zs->ds=zs.map D.str
 | [],zs,h=>by cases h;rfl
 | d::ds,zs,h=>by
  cases d <;> first | (simp[mK] at h;done) | skip
  rename_i z
  unfold mK at h
  cases e:mK ds with
  | none=>rw[e] at h;cases h
  | some ys=>
   rw[e] at h
   cases h
   rw[xF e];rfl
theorem qs:∀zs:List Str,mK (zs.map D.str)=some zs
 | []=>rfl
 | z::zs=>by rw[List.map_cons];unfold mK;rw[qs zs]
def inB(O:au)(x y:D):Option Bool:=match x with
 | .str a=>match lsD O y with
  | some ds=>match mK ds with
   | some zs=>some (zs.any (· == a))
   | none=>none
  | none=>none
 | .int a=>match lsD O y with
  | some ds=>match gA ds with
   | some zs=>some (zs.any (· == a))
   | none=>none
  | none=>none
 | _=>none
def inD:Op2:=λO x y=>match inB O x y with
 | some b=>.ok (.bl b)
 | none=>.bad
def rK:Op2:=λO x y=>match inB O x y with
 | some b=>.ok (.bl (!b))
 | none=>.bad
theorem xH{K:PySem.W.Frag}{ca:Nat->Addr}{θ:List Addr}{F:Hp}:∀{zs:List Str} {xs:List V},ax K ca θ F (zs.map D.str) xs->xs=zs.map V.str
 | [],xs,h=>by unfold ax at h;exact h
 | z::zs,xs,h=>by
  rw[List.map_cons] at h
  unfold ax at h
  obtain⟨v,r,rfl,h1,h2⟩:=h
  rw[de.mp h1,xH h2];rfl
theorem qk{K:PySem.W.Frag}{ca:Nat->Addr}{θ:List Addr}{F:Hp}:∀{zs:List Int} {xs:List V},ax K ca θ F (zs.map D.int) xs->xs=zs.map V.int
 | [],xs,h=>by unfold ax at h;exact h
 | z::zs,xs,h=>by
  rw[List.map_cons] at h
  unfold ax at h
  obtain⟨v,r,rfl,h1,h2⟩:=h
  rw[bh.mp h1,qk h2];rfl
theorem vt:∀{ds:List D} {zs:List Int},gA ds=some zs->ds=zs.map D.int
 | [],zs,h=>by unfold gA at h;cases h;rfl
 | d::ds,zs,h=>by
  cases d <;> first | (simp[gA] at h;done) | skip
  rename_i z
  unfold gA at h
  cases e:gA ds with
  | none=>rw[e] at h;cases h
  | some ys=>
   rw[e] at h
   cases h
   rw[vt e];rfl
theorem CK{σ:L2.St}{H F:Hp}{θ:List Addr}{s:S}{x y:D}{v w:V}{q:Bool}(b:BS C.K C.ca σ H F θ s)(rx:Rep C.K C.ca θ F x v)(ry:Rep C.K C.ca θ F y w)(e:inB s.o x y=some q):
 ∃p xs,w=.ref p/\SqL C.K H p xs/\mn v=true/\xs.all mn=true/\inV v xs=q:=by
 unfold inB at e
 split at e
 ·rename_i a
  split at e
  ·rename_i ds e1
   split at e
   ·rename_i zs e2
    cases e
    obtain⟨p,xs,rfl,hs,hr⟩:=fj b ry e1
    rw[xF e2] at hr
    have hx:=xH hr
    subst hx
    rw[de.mp rx]
    refine⟨p,_,rfl,hs,rfl, ?_, ?_⟩
    ·rw[List.all_map,List.all_eq_true];intro z _;rfl
    ·unfold inV;rw[List.any_map];rfl
   ·cases e
  ·cases e
 ·rename_i a
  split at e
  ·rename_i ds e1
   split at e
   ·rename_i zs e2
    cases e
    obtain⟨p,xs,rfl,hs,hr⟩:=fj b ry e1
    rw[vt e2] at hr
    have hx:=qk hr
    subst hx
    rw[bh.mp rx]
    refine⟨p,_,rfl,hs,rfl, ?_, ?_⟩
    ·rw[List.all_map,List.all_eq_true];intro z _;rfl
    ·unfold inV;rw[List.any_map];rfl
   ·cases e
  ·cases e
 ·cases e
theorem Iy:gf C (rIn C.K false) inD:=by
 intro σ H F θ s x y v w Q b rx ry p
 unfold inD at p
 split at p
 ·rename_i q e
  obtain⟨a,xs,rfl,h1,h2,h3,h4⟩:=CK b rx ry e
  exact⟨a,xs,rfl,.inl h1,h2,h3,dv p b (cZ.mpr (by rw[if_neg (by decide),h4]))⟩
 ·exact False.elim p
theorem GN:gf C (rIn C.K true) rK:=by
 intro σ H F θ s x y v w Q b rx ry p
 unfold rK at p
 split at p
 ·rename_i q e
  obtain⟨a,xs,rfl,h1,h2,h3,h4⟩:=CK b rx ry e
  exact⟨a,xs,rfl,.inl h1,h2,h3,dv p b (cZ.mpr (by rw[if_pos rfl,h4]))⟩
 ·exact False.elim p
def pj(f:Str):List Str->List D->Option D
 | n::ns,d::ds=>if n=f then some d else pj f ns ds
 | _,_=>none
theorem Aw{K:PySem.W.Frag}{ca:Nat->Addr}{θ:List Addr}{F:Hp}{f:Str}:∀{ns:List Str} {ds:List D} {xs:List V} {d:D},ax K ca θ F ds xs->pj f ns ds=some d->∃v,(ns.zip xs).lookup f=some v/\Rep K ca θ F d v
 | [],_,_,_,_,e=>by simp[pj] at e
 | _::_,[],_,_,_,e=>by simp[pj] at e
 | n::ns,d::ds,xs,d',h,e=>by
  unfold ax at h
  obtain⟨v,r,rfl,h1,h2⟩:=h
  unfold pj at e
  rw[List.zip_cons_cons,List.lookup_cons]
  by_cases hn:n=f
  ·rw[if_pos hn] at e
   cases e
   subst hn
   exact⟨v,by simp,h1⟩
  ·rw[if_neg hn] at e
   obtain⟨u,e1,e2⟩:=Aw h2 e
   refine⟨u, ?_,e2⟩
   rw[show (f == n)=false by simpa using λz=>hn z.symm]
   exact e1
def oi(c:Nat)(f:Str)(me:EM):EM:=λs=>(me s).bind λx=>match x.1 with
 | .obj c' ns ds=>if c'=c then (match pj f ns ds with
  | some d=>.ok (d,x.2)
  | none=>.bad) else .bad
 | _=>.bad
theorem Bm{c:Nat}{f:Str}{ta:TE}{me:EM}(hc:Cls C.K (C.ca c))(hn:fm C.K (C.ca c) f)(h:RdE C ta me):RdE C (KC C.K ta f) (oi c f me):=by
 intro σ H F θ s Q b p
 refine h σ H F θ s _ b (PoR.bind p ?_)
 rintro ⟨x,s1⟩ H1 F1 θ1 _ st1 p1 b1 v r1
 dsimp only at p1 b1 r1
 split at p1
 ·rename_i c' ns ds _
  split at p1
  ·rename_i hcc
   subst hcc
   split at p1
   ·rename_i d e
    unfold Rep at r1
    obtain⟨a,dx,xs,rfl,ha,hl,hr⟩:=r1
    obtain⟨u,e1,e2⟩:=Aw hr e
    exact⟨a,_,dx,_,u,rfl,b1.now.fh _ _ ha,hc,hn,e1,p1 _ _ _ .refl b1 _ e2⟩
   ·exact False.elim p1
  ·exact False.elim p1
 ·exact False.elim p1
theorem CI(c:Nat)(f:Str)(me:EM)(s:S):oi c f me s=(me s).bind λx=>match x.1 with
 | .obj c' ns ds=>if c'=c then (match pj f ns ds with
  | some d=>.ok (d,x.2)
  | none=>.bad) else .bad
 | _=>.bad:=rfl
theorem lookup_none{f:Str}:∀{ns:List Str} {xs:List V},f∉ns->(ns.zip xs).lookup f=none
 | [],_,_=>rfl
 | _::_,[],_=>rfl
 | n::ns,x::xs,h=>by
  rw[List.zip_cons_cons,List.lookup_cons,show (f == n)=false by simpa using λz=>h (by simp[z])]
  exact lookup_none λz=>h (by simp[z])
theorem Ar{f:Str}{y:V}:∀{ns:List Str} {xs:List V},ns.length=xs.length->f∉ns->jf f y (ns.zip xs)=(ns++[f]).zip (xs++[y])
 | [],[],_,_=>rfl
 | n::ns,x::xs,hl,h=>by
  rw[List.zip_cons_cons]
  unfold jf
  rw[if_neg (λz=>h (by simp[z])),Ar (by simpa using hl) λz=>h (by simp[z])]
  rfl
theorem BS.setI{K:PySem.W.Frag}{ca:Nat->Addr}{σ:L2.St}{H F:Hp}{θ:List Addr}{s:S}(b:BS K ca σ H F θ s){k:Nat}{a dx:Addr}{c:Cell}{cl:Nat}{ns:List Str}(hk:θ[k]? =some a)(hc:s.o[k]? =some c)(hF:F a=none){ds:List D}{xs:List V}(hl:ns.length=xs.length)(hr:ax K ca θ F ds xs):
 Stp H F θ (upd H a (.ins (ca cl) dx (ns.zip xs))) F θ/\BS K ca σ (upd H a (.ins (ca cl) dx (ns.zip xs))) F θ ⟨s.r,s.o.set k (.ins cl ns ds)⟩:=by
 have hm:a∈θ:=List.mem_of_getElem? hk
 refine⟨⟨bC.refl _,⟨[],by simp,by simp⟩,λe o he hb=> ?_,λe o he=> ?_,λe o he=>.inl he⟩,⟨⟨λe o he=> ?_,b.now.nd,by simpa using b.now.ln,λj a' c' e1 e2=> ?_⟩,b.len,b.sl⟩⟩
 ·have ne:e≠a:=λz=>hb (by rw[z];exact hm)
  rw[aS ne];exact he
 ·by_cases z:e=a
  ·subst z;exact⟨_,cV⟩
  ·exact⟨o,by rw[aS z];exact he⟩
 ·have ne:e≠a:=λz=>by rw[z,hF] at he;cases he
  rw[aS ne]
  exact b.now.fh _ _ he
 ·by_cases hj:k=j
  ·subst hj
   rw[hk] at e1;cases e1
   have:k<s.o.length:=(List.getElem?_eq_some_iff.mp hc).1
   rw[List.getElem?_set_self this] at e2
   cases e2
   exact⟨hF,dx,xs,cV,hl,hr⟩
  ·rw[List.getElem?_set_ne hj] at e2
   have q:=b.now.ce j a' c' e1 e2
   have ne:a'≠a:=λz=>by
    subst z
    exact hj (qC b.now.nd hk e1)
   cases c' with
   | dead=>obtain⟨o,ho⟩:=q;exact⟨o,by rw[aS ne];exact ho⟩
   | lst ds=>obtain⟨q1,ys,q2,q3⟩:=q;exact⟨q1,ys,by rw[aS ne];exact q2,q3⟩
   | ins c ns ds=>obtain⟨q1,dx,ys,q2,q3⟩:=q;exact⟨q1,dx,ys,by rw[aS ne];exact q2,q3⟩
def qA(c:Nat)(f:Str)(mo mv:EM):SM:=λs=>(mv s).out λy=>(mo y.2).out λx=>match x.1 with
 | .ptr k=>match x.2.o[k]? with
  | some (.ins c' ns ds)=>if c'=c/\f∉ns/\ns.length<1000 then .next ⟨x.2.r,x.2.o.set k (.ins c (ns++[f]) (ds++[y.1]))⟩ else .bad
  | _=>.bad
 | _=>.bad
theorem HC(c:Nat)(f:Str)(mo mv:EM)(s:S):qA c f mo mv s=(mv s).out λy=>(mo y.2).out λx=>match x.1 with
 | .ptr k=>match x.2.o[k]? with
  | some (.ins c' ns ds)=>if c'=c/\f∉ns/\ns.length<1000 then .next ⟨x.2.r,x.2.o.set k (.ins c (ns++[f]) (ds++[y.1]))⟩ else .bad
  | _=>.bad
 | _=>.bad:=rfl
end
end M
set_option maxRecDepth 100000
set_option maxHeartbeats 4000000
namespace M
open PySem PySem.Spec PyProof.Rows L2
section
variable {C : Ct}
theorem wx{c:Nat}{f:Str}{ta tv:TE}{mo mv:EM}(hc:Cls C.K (C.ca c))(hn:fm C.K (C.ca c) f)(ho:RdE C ta mo)(hv:RdE C tv mv):RdS C (L4 C.K ta tv f) (qA c f mo mv):=by
 intro σ H F θ s Q b p
 unfold qA at p
 refine hv σ H F θ s _ b (PoS.out p ?_)
 rintro ⟨y,s1⟩ H1 F1 θ1 _ st1 p1 b1 v r1
 dsimp only at p1 b1 r1
 refine ho σ H1 F1 θ1 s1 _ b1 (PoS.out p1 ?_)
 rintro ⟨x,s2⟩ H2 F2 θ2 _ st2 p2 b2 w r2
 dsimp only at p2 b2 r2
 split at p2
 ·rename_i k _
  split at p2
  ·rename_i c' ns ds e
   split at p2
   ·rename_i hh
    obtain⟨rfl,hf,hl⟩:=hh
    unfold Rep at r2
    obtain⟨a,rfl,hk⟩:=r2
    obtain⟨h0,dx,xs,h1,h2,h3⟩:kb C.K C.ca H2 F2 θ2 a (.ins c' ns ds):=b2.now.ce k a _ hk e
    have hlen:(ns++[f]).length=(xs++[v]).length:=by simp[h2]
    obtain⟨st3,b3⟩:=b2.setI (dx:=dx) (cl:=c') (ns:=ns++[f]) hk e h0 hlen (h3.append (ax.one (r1.mono st2.ff st2.pre)))
    refine⟨a,_,dx,_,rfl,h1,hc,hn, ?_, ?_⟩
    ·rw[List.length_zip];omega
    ·rw[Ar h2 hf]
     exact p2 σ _ _ _ st3 b3
   ·exact False.elim p2
  ·exact False.elim p2
 ·exact False.elim p2
def sU(c n:Nat)(f:FM)(ma:AM):EM:=λs=>(ma s).bind λx=>if aM x.1=true/\x.1.length=n then (match f (.ptr 0::x.1) [.ins c [] []] with
 | .ok (.non,.ins c' ns ds::_)=>if c'=c/\aM ds=true then .ok (.obj c ns ds,x.2) else .bad
 | _=>.bad) else .bad
theorem Now.dies{K:PySem.W.Frag}{ca:Nat->Addr}{H F:Hp}{O:au}{c:Nat}{ns:List Str}{ds:List D}{x:Addr}{r:List Addr}(n:Now K ca H F (x::r) (.ins c ns ds::O)):
 ∃dx xs,H x=some (.ins (ca c) dx (ns.zip xs))/\ns.length=xs.length/\ax K ca (x::r) F ds xs/\F x=none/\bC F (upd F x (.ins (ca c) dx (ns.zip xs)))/\Now K ca H (upd F x (.ins (ca c) dx (ns.zip xs))) (x::r) (.dead::O):=by
 obtain⟨h0,dx,xs,h1,h2,h3⟩:kb K ca H F (x::r) x (.ins c ns ds):=n.ce 0 x _ rfl rfl
 have sF:bC F (upd F x (.ins (ca c) dx (ns.zip xs))):=λe o he=>by
  rw[aS (λz=>by rw[z,h0] at he;cases he)];exact he
 refine⟨dx,xs,h1,h2,h3,h0,sF,⟨λe o he=> ?_,n.nd,n.ln,λj a' c' e1 e2=> ?_⟩⟩
 ·by_cases z:e=x
  ·subst z;rw[cV] at he;rw[h1];exact he
  ·rw[aS z] at he;exact n.fh _ _ he
 ·cases j with
  | zero=>
   cases e1
   cases e2
   exact⟨_,h1⟩
  | succ j=>
   have q:=n.ce (j+1) a' c' e1 e2
   have ne:a'≠x:=λz=>by
    subst z
    have:=qC n.nd (show (a'::r)[0]? =some a' from rfl) e1
    omega
   cases c' with
   | dead=>exact q
   | lst ds=>obtain⟨q1,ys,q2,q3⟩:=q;exact⟨by rw[aS ne];exact q1,ys,q2,q3.mono sF ⟨[],by simp⟩⟩
   | ins c ns ds=>obtain⟨q1,dx,ys,q2,q3,q4⟩:=q;exact⟨by rw[aS ne];exact q1,dx,ys,q2,q3,q4.mono sF ⟨[],by simp⟩⟩
theorem Jx{c n:Nat}{f:FM}{ta:TA}{ma:AM}{E:XK}(ha:RdA C ta ma):RdE C (Ih (C.ca c) (spM C.K C.ca (n+1) f) [] E ta) (sU c n f ma):=by
 intro σ H F θ s Q b p
 refine ha σ H F θ s _ b (PoR.bind p ?_)
 rintro ⟨x,s1⟩ H1 F1 θ1 _ st1 p1 b1 v r1
 dsimp only at p1 b1 r1 ⊢
 split at p1
 ·rename_i hp
  split at p1
  ·rename_i c' ns ds O1 e
   split at p1
   ·rename_i hh
    obtain⟨rfl,hpd⟩:=hh
    intro y dx hy hdx hne
    have nx:∀a u,H1 a=some u->a≠y:=λa u e z=>by rw[z,hy] at e;cases e
    have nd:∀a u,H1 a=some u->a≠dx:=λa u e z=>by rw[z,hdx] at e;cases e
    have Fy:F1 y=none:=by
     cases eF:F1 y with
     | none=>rfl
     | some u=>rw[b1.now.fh y u eF] at hy;cases hy
    have up:∀a u,H1 a=some u->upd (upd H1 dx (.own y)) y (.ins (C.ca c') dx []) a=some u:=λa u e=>by
     rw[aS (nx a u e),aS (nd a u e)];exact e
    have dn:∀a,upd (upd H1 dx (.own y)) y (.ins (C.ca c') dx []) a=none->H1 a=none:=λa z=>by
     cases e:H1 a with
     | none=>rfl
     | some u=>rw[up a u e] at z;cases z
    rw[List.append_nil]
    refine⟨F1,[y],.ptr 0::x,[.ins c' [] []],⟨λa u e=>up a u (b1.now.fh a u e),by simp,rfl,λk a cc e1 e2=> ?_⟩,ax.cons (by unfold Rep;exact⟨y,rfl,rfl⟩) (r1.pure hp.1),by simp[hp.2], ?_⟩
    ·cases k with
     | zero=>
      cases e1
      cases e2
      exact⟨Fy,dx,[],cV,rfl,ax.nil⟩
     | succ k=>simp at e1
    ·rw[e]
     intro w H2 F2 θ2 st2 n2 rw_
     refine⟨gU.mp rw_, ?_⟩
     obtain⟨r,rfl,hr⟩:=st2.th
     obtain⟨dx',xs,g1,g2,g3,g4,sF,n3⟩:=Now.dies n2
     have st3:Stp H1 F1 [] H2 (upd F2 y (.ins (C.ca c') dx' (ns.zip xs))) (y::r):=by
      refine⟨st2.ff.trans sF,⟨y::r,rfl,λa ha=> ?_⟩,λa o h _=> ?_,λa o h=>st2.al a o (up a o h),λa o h=> ?_⟩
      ·rcases List.mem_cons.mp ha with rfl | z
       ·exact hy
       ·exact dn a (hr a z)
      ·exact st2.kp a o (up a o h) (by simpa using nx a o h)
      ·by_cases z:a=y
       ·subst z;exact .inr (.inl hy)
       ·rw[aS z] at h
        rcases st2.nf a o h with q | q | q
        ·exact .inl q
        ·exact .inr (.inl (dn a q))
        ·exact absurd (by simpa using q) z
     obtain⟨st4,b4⟩:=b1.called st3 n3
     refine p1 H2 _ θ1 st4 b4 (.ref y) ?_
     unfold Rep
     exact⟨y,dx',xs,rfl,cV,g2,ax.mono (θ:=θ1) sF ⟨[],by simp⟩ (ax.pure hpd g3)⟩
   ·exact False.elim p1
  ·exact False.elim p1
 ·exact False.elim p1
theorem Hb{c n:Nat}{f:FM}{ma:AM}{s s':S}{args ds:List D}{ns:List Str}{O:au}(h:ma s=.ok (args,s'))(hp:aM args=true)(hl:args.length=n)(hf:f (.ptr 0::args) [.ins c [] []]=.ok (.non,.ins c ns ds::O))(hd:aM ds=true):sU c n f ma s=.ok (.obj c ns ds,s'):=by
 unfold sU
 rw[h,aj]
 dsimp only
 rw[if_pos ⟨hp,hl⟩,hf]
 dsimp only
 rw[if_pos ⟨rfl,hd⟩]
def methP(c:Nat)(m:Str)(n:Nat)(f:FM)(mo:EM)(ma:AM):EM:=λs=>(mo s).bind λx=>match x.1 with
 | .obj c' ns ds=>if c'=c/\m∉ns/\aM ds=true then (ma x.2).bind λy=>if aM y.1=true/\y.1.length=n then (match f (x.1::y.1) [] with
  | .ok (d,_)=>if cK d=true then .ok (d,y.2) else .bad
  | _=>.bad) else .bad else .bad
 | _=>.bad
theorem uo{c n:Nat}{m:Str}{f:FM}{to:TE}{ta:TA}{mo:EM}{ma:AM}{E:XK}(ho:RdE C to mo)(ha:RdA C ta ma):RdE C (DU (C.ca c) m (spM C.K C.ca (n+1) f) [] E to ta) (methP c m n f mo ma):=by
 intro σ H F θ s Q b p
 refine ho σ H F θ s _ b (PoR.bind p ?_)
 rintro ⟨x,s1⟩ H1 F1 θ1 _ st1 p1 b1 v r1
 dsimp only at p1 b1 r1 ⊢
 split at p1
 ·rename_i c' ns ds _
  split at p1
  ·rename_i hh
   obtain⟨rfl,hm,hpd⟩:=hh
   obtain⟨a,dx,xs,rfl,h1,h2,h3⟩:∃a dx xs,v=.ref a/\F1 a=some (.ins (C.ca c') dx (ns.zip xs))/\ns.length=xs.length/\ax C.K C.ca θ1 F1 ds xs:=by unfold Rep at r1;exact r1
   refine⟨a,dx,_,rfl,b1.now.fh _ _ h1,lookup_none hm,ha σ H1 F1 θ1 s1 _ b1 (PoR.bind p1 ?_)⟩
   rintro ⟨y,s2⟩ H2 F2 θ2 _ st2 p2 b2 w r2
   dsimp only at p2 b2 r2 ⊢
   split at p2
   ·rename_i hp
    rw[List.append_nil]
    refine⟨F2,[],.obj c' ns ds::y,[],Now.nil b2.now.fh,ax.cons ((r1.mono st2.ff st2.pre).pure (by unfold cK;exact hpd)) (r2.pure hp.1),by simp[hp.2], ?_⟩
    split at p2
    ·rename_i d O1 e
     rw[e]
     intro v H3 F3 θ3 st3 n3 rv
     obtain⟨st4,b4⟩:=b2.called st3 n3
     split at p2
     ·rename_i hd
      exact p2 H3 F3 _ st4 b4 v (rv.pure hd)
     ·exact False.elim p2
    ·exact False.elim p2
   ·exact False.elim p2
  ·exact False.elim p1
 ·exact False.elim p1
theorem AJ{c n:Nat}{m:Str}{f:FM}{mo:EM}{ma:AM}{s s1 s2:S}{ns:List Str}{ds args:List D}{d:D}{O:au}(ho:mo s=.ok (.obj c ns ds,s1))(hm:m∉ns)(hd:aM ds=true)(ha:ma s1=.ok (args,s2))(hp:aM args=true)(hl:args.length=n)(hf:f (.obj c ns ds::args) []=.ok (d,O))(hr:cK d=true):
 methP c m n f mo ma s=.ok (d,s2):=by
 unfold methP
 rw[ho,aj]
 dsimp only
 rw[if_pos ⟨rfl,hm,hd⟩,ha,aj]
 dsimp only
 rw[if_pos ⟨hp,hl⟩,hf]
 dsimp only
 rw[if_pos hr]
def MethAt(P:Program)(w:World)(K:PySem.W.Frag)(mg:Str->Option Value)(base:Heap)(ca:Nat->Addr)(lv:Nat)(C:Addr)(x:Str)(ps:List Str)(f:FM):Prop:=
 ∃a fd,fV P w K mg base (CXE P w) lv a fd ps (spM K ca ps.length f)/\Meth K C x a/\Binds K fd ps []
def FG(P:Program)(w:World)(K:PySem.W.Frag)(mg:Str->Option Value)(base:Heap)(ca:Nat->Addr)(lv:Nat)(C:Addr)(x:Str)(ps:List Str)(f:FM):Prop:=
 ∃a fd,fV P w K mg base (CXE P w) lv a fd ps (spM K ca ps.length f)/\Mk K C a/\mg x=some (.ref C)/\Binds K fd ps []
end
end M
set_option maxRecDepth 100000
set_option maxHeartbeats 4000000
namespace M
open PySem PySem.Spec PyProof.Rows L2
section
variable {K : PySem.W.Frag} {ca : Nat → Addr} {θ : List Addr} {F G : Hp}
end
open Classical in
noncomputable def OT (F H:Hp)(θ:List Addr):Hp:=λa=>if a∈θ then (match H a with
 | some (.lst xs)=>some (.lst xs)
 | _=>F a) else F a
section
variable {C : Ct}
def pC:List D->au->Option (List D×au)
 | [],O=>some ([],O)
 | .ptr k::ds,O=>match O[k]? with
  | some (.lst es)=>match pC ds (O.set k .dead) with
   | some (rs,O1)=>some (.lst es::rs,O1)
   | none=>none
  | _=>none
 | d::ds,O=>match pC ds O with
  | some (rs,O1)=>some (d::rs,O1)
  | none=>none
theorem uB{σ:L2.St}{H:Hp}{θ:List Addr}{r:List (Option D)}:∀{ds rs:List D} {O O1:au} {F:Hp} {xs:List V},BS C.K C.ca σ H F θ ⟨r,O⟩->ax C.K C.ca θ F ds xs->pC ds O=some (rs,O1)->
 ∃F1,Stp H F θ H F1 θ/\BS C.K C.ca σ H F1 θ ⟨r,O1⟩/\ax C.K C.ca θ F1 rs xs
 | [],rs,O,O1,F,xs,b,hr,e=>by
  cases e
  exact⟨F,.refl,b,hr⟩
 | d::ds,rs,O,O1,F,xs,b,hr,e=>by
  have hr0:=hr
  unfold ax at hr
  obtain⟨v,q,rfl,h1,h2⟩:=hr
  have other:(match pC ds O with
   | some (rs,O1)=>some (d::rs,O1)
   | none=>none)=some (rs,O1)->∃F1,Stp H F θ H F1 θ/\BS C.K C.ca σ H F1 θ ⟨r,O1⟩/\ax C.K C.ca θ F1 rs (v::q):=λe=>by
   split at e
   ·rename_i rs' O1' e'
    cases e
    obtain⟨F1,st,b1,r1⟩:=uB b h2 e'
    exact⟨F1,st,b1,ax.cons (h1.mono st.ff st.pre) r1⟩
   ·cases e
  cases d with
  | ptr k=>
   unfold pC at e
   split at e
   ·rename_i es ek
    split at e
    ·rename_i rs' O1' e'
     cases e
     obtain⟨a,ys,rfl,hk,hF,g1,g2⟩:=jQ b h1 ek
     obtain⟨st2,b2,r2⟩:=b.frz hk ek hF g1 g2
     obtain⟨F1,st,b1,r1⟩:=uB b2 (h2.mono st2.ff st2.pre) e'
     exact⟨F1,st2.trans st,b1,ax.cons (r2.mono st.ff st.pre) r1⟩
    ·cases e
   ·cases e
  | _=>exact other e
def wm(m:EM):EM:=λs=>(m s).bind λx=>match x.1 with
 | .tup ds=>match pC ds x.2.o with
  | some (rs,O1)=>.ok (.tup rs,⟨x.2.r,O1⟩)
  | none=>.bad
 | _=>.bad
theorem Ki{t:TE}{m:EM}(h:RdE C t m):RdE C t (wm m):=by
 intro σ H F θ s Q b p
 refine h σ H F θ s _ b (PoR.bind p ?_)
 rintro ⟨x,s1⟩ H1 F1 θ1 _ st1 p1 b1 v r1
 dsimp only at p1 b1 r1
 split at p1
 ·rename_i ds _
  split at p1
  ·rename_i rs O1 e
   unfold Rep at r1
   obtain⟨a,xs,rfl,hs,hr⟩:=r1
   obtain⟨F2,st2,b2,r2⟩:=uB b1 hr e
   refine p1 _ _ _ st2 b2 _ ?_
   unfold Rep
   exact⟨a,xs,rfl,bC.seqT st2.ff hs,r2⟩
  ·exact False.elim p1
 ·exact False.elim p1
theorem JO{m:EM}{s s':S}{ds rs:List D}{O1:au}(h:m s=.ok (.tup ds,s'))(hf:pC ds s'.o=some (rs,O1)):wm m s=.ok (.tup rs,⟨s'.r,O1⟩):=by
 unfold wm
 rw[h,aj]
 dsimp only
 rw[hf]
end
def clsAt(K:PySem.W.Frag)(x:Str):Addr:=match PySem.W.nsIn K mainGlobals x with
 | some (some (.ref C))=>C
 | _=>0
section
variable {C : Ct}
def nK:OpN:=λ_ xs=>match xs with
 | [.int i,.int j]=>.ok (.int (if j>i then j else i))
 | _=>.bad
theorem sW:kl C (λxs H Q=>∃i j,xs=[.int i,.int j]/\Q (.int (if j>i then j else i)) H) nK:=by
 intro σ H F θ s xs vs Q b r p
 unfold nK at p
 split at p
 ·rename_i i j
  exact⟨i,j,DB r,dv p b (bh.mpr rfl)⟩
 ·exact False.elim p
end
end M
set_option maxRecDepth 100000
set_option maxHeartbeats 4000000
namespace M
open PySem PySem.Spec PyProof.Rows L2
section
variable {C : Ct} {Es : L2.St → XK}
end
theorem bx{P:Program}{w:World}{X:Cx}:Passes (CXE P w) X E0:=λ_ _ _ _ _ _ _ ⟨_,_,_,_,_,_,_,_,_,z⟩=>z.elim
end M
set_option maxRecDepth 100000
set_option maxHeartbeats 4000000
namespace M
open PySem PySem.Spec PyProof.Rows L2
section
variable {C : Ct}
def AN(ma mb:EM):EM:=λs=>(ma s).bind λx=>(mb x.2).bind λy=>match lsD y.2.o x.1,lsD y.2.o y.1 with
 | some a,some b=>if a.length+b.length<=16777216 then .ok (.ptr y.2.o.length,⟨y.2.r,y.2.o++[.lst (a++b)]⟩) else .bad
 | _,_=>.bad
theorem J9{ta tb:TE}{ma mb:EM}(ha:RdE C ta ma)(hb:RdE C tb mb):RdE C (tOp (yA C.K) ta tb) (AN ma mb):=by
 intro σ H F θ s Q b p
 refine ha σ H F θ s _ b (PoR.bind p ?_)
 rintro ⟨x,s1⟩ H1 F1 θ1 _ st1 p1 b1 v r1
 dsimp only at p1 b1 r1
 refine hb σ H1 F1 θ1 s1 _ b1 (PoR.bind p1 ?_)
 rintro ⟨y,s2⟩ H2 F2 θ2 _ st2 p2 b2 w r2
 dsimp only at p2 b2 r2
 split at p2
 ·rename_i a c e1 e2
  split at p2
  ·rename_i hl
   obtain⟨l1,xs,rfl,q1,g1⟩:=fj b2 (r1.mono st2.ff st2.pre) e1
   obtain⟨l2,ys,rfl,q2,g2⟩:=fj b2 r2 e2
   exact .inr (.inr ⟨l1,l2,xs,ys,rfl,rfl,q1,q2,by rw[g1.length,g2.length];exact hl,sq p2 b2 (g1.append g2)⟩)
  ·exact False.elim p2
 ·exact False.elim p2
end
end M
set_option maxRecDepth 100000
set_option maxHeartbeats 4000000
namespace M
open PySem PySem.Spec PyProof.Rows L2
def sP:D->Bool
 | .non=>true | .bl _=>true | .int _=>true | .str _=>true | .ptr _=>true | _=>false
def sO:Cell->Bool
 | .dead=>true
 | .lst ds=>ds.all sP
 | _=>false
theorem zf{K:PySem.W.Frag}{ca:Nat->Addr}{F G:Hp}{θ θ1:List Addr}{d:D}{v:V}(h:sP d=true)(r:Rep K ca θ1 F d v):Rep K ca (θ++θ1) G (shD θ.length d) v:=by
 cases d with
 | non=>unfold shD;unfold Rep at r ⊢;exact r
 | bl b=>unfold shD;unfold Rep at r ⊢;exact r
 | int i=>unfold shD;unfold Rep at r ⊢;exact r
 | str z=>unfold shD;unfold Rep at r ⊢;exact r
 | ptr k=>
  unfold shD
  unfold Rep at r ⊢
  obtain⟨a,e,hk⟩:=r
  exact⟨a,e,by rw[List.getElem?_append_right (Nat.le_add_right _ _),Nat.add_sub_cancel_left];exact hk⟩
 | lst ds=>cases h
 | tup ds=>cases h
 | obj c ns ds=>cases h
 | exn c=>cases h
theorem xf{K:PySem.W.Frag}{ca:Nat->Addr}{F G:Hp}{θ θ1:List Addr}:∀{ds:List D} {xs:List V},ds.all sP=true->ax K ca θ1 F ds xs->ax K ca (θ++θ1) G (fD θ.length ds) xs
 | [],_,_,h=>by unfold fD;unfold ax at h ⊢;exact h
 | d::ds,_,hf,h=>by
  rw[List.all_cons,Bool.and_eq_true] at hf
  unfold fD
  unfold ax at h ⊢
  obtain⟨v,r,e,h1,h2⟩:=h
  exact⟨v,r,e,zf hf.1 h1,xf hf.2 h2⟩
section
variable {C : Ct}
def qo(n:Nat)(f:FM)(ma:AM):EM:=λs=>(ma s).bind λx=>if aM (bA x.2.o (bA x.2.o x.1))=true/\x.1.length=n then (match f (bA x.2.o (bA x.2.o x.1)) [] with
 | .ok (d,O1)=>if sP d=true/\O1.all sO=true then .ok (shD x.2.o.length d,⟨x.2.r,x.2.o++O1.map (shC x.2.o.length)⟩) else .bad
 | _=>.bad) else .bad
theorem zH{n:Nat}{f:FM}{ta:TA}{ma:AM}{E:XK}(ha:RdA C ta ma):RdE C (tf (spM C.K C.ca n f) [] E ta) (qo n f ma):=by
 intro σ H F θ s Q b p
 refine ha σ H F θ s _ b (PoR.bind p ?_)
 rintro ⟨x,s1⟩ H1 F1 θ1 _ st1 p1 b1 v r1
 dsimp only at p1 b1 r1 ⊢
 split at p1
 ·rename_i hp
  rw[List.append_nil]
  have rr:ax C.K C.ca θ1 H1 (bA s1.o (bA s1.o x)) v:=kG b1.now b1.now.fh (bC.refl _) (kG b1.now (bC.refl _) b1.now.fh r1)
  refine⟨H1,[],bA s1.o (bA s1.o x),[],Now.nil (bC.refl _),rr.pure hp.1,by rw[ke,ke];exact hp.2, ?_⟩
  split at p1
  ·rename_i d O1 e
   rw[e]
   intro v H2 F2 θ2 st2 n2 rv
   split at p1
   ·rename_i sd
    have kp:∀a o,H1 a=some o->H2 a=some o:=λa o h=>st2.kp a o h (by simp)
    obtain⟨r,er,hr⟩:=st2.th
    rw[List.nil_append] at er
    subst er
    refine p1 H2 F1 (θ1++θ2) ⟨bC.refl _,⟨θ2,rfl,hr⟩,λa o h _=>kp a o h,st2.al,λa o h=>.inl h⟩ ⟨⟨λa o h=>kp a o (b1.now.fh a o h),List.nodup_append.mpr ⟨b1.now.nd,n2.nd,λa ha x hx=> ?_⟩,by simp[b1.now.ln,n2.ln],λk a c e1 e2=> ?_⟩,b1.len,λi d e=> ?_⟩ v ?_
    ·rintro rfl
     obtain⟨u,hu⟩:=b1.now.there ha
     rw[hr a hx] at hu
     cases hu
    ·by_cases hk:k<θ1.length
     ·rw[List.getElem?_append_left hk] at e1
      dsimp only at e2
      rw[List.getElem?_append_left (by rw[<- b1.now.ln];exact hk)] at e2
      have w:=b1.now.ce k a c e1 e2
      cases c with
      | dead=>obtain⟨o,ho⟩:=w;exact⟨o,kp a o ho⟩
      | lst ds=>obtain⟨q1,ys,q2,q3⟩:=w;exact⟨q1,ys,kp _ _ q2,q3.mono (bC.refl _) ⟨θ2,rfl⟩⟩
      | ins c ns ds=>obtain⟨q1,dx,ys,q2,q3,q4⟩:=w;exact⟨q1,dx,ys,kp _ _ q2,q3,q4.mono (bC.refl _) ⟨θ2,rfl⟩⟩
     ·rw[List.getElem?_append_right (by omega)] at e1
      dsimp only at e2
      rw[List.getElem?_append_right (by rw[<- b1.now.ln];omega),List.getElem?_map,<- b1.now.ln] at e2
      cases e3:O1[k-θ1.length]? with
      | none=>rw[e3] at e2;cases e2
      | some c'=>
       rw[e3] at e2
       cases e2
       have w:=n2.ce _ a c' e1 e3
       have fc:sO c'=true:=(List.all_eq_true.mp sd.2) c' (List.mem_of_getElem? e3)
       have hF1:F1 a=none:=by
        cases ea:F1 a with
        | none=>rfl
        | some o=>
         have h1:=b1.now.fh a o ea
         have h2:=hr a (List.mem_of_getElem? e1)
         rw[h2] at h1;cases h1
       cases c' with
       | dead=>exact w
       | lst ds=>obtain⟨q1,ys,q2,q3⟩:=w;exact⟨hF1,ys,q2,xf fc q3⟩
       | ins c ns ds=>cases fc
    ·obtain⟨v,h1,h2⟩:=b1.sl i d e
     exact⟨v,h1,h2.mono (bC.refl _) ⟨θ2,rfl⟩⟩
    ·rw[<- b1.now.ln]
     exact zf sd.1 rv
   ·exact False.elim p1
  ·exact False.elim p1
 ·exact False.elim p1
end
end M
set_option maxRecDepth 100000
set_option maxHeartbeats 4000000
namespace M
open PySem PySem.Spec PyProof.Rows L2
section
variable {C : Ct}
end
end M
set_option maxRecDepth 100000
set_option maxHeartbeats 4000000
namespace M
open PySem PySem.Spec PyProof.Rows L2
section
variable {C : Ct}
end
end M
set_option maxRecDepth 100000
set_option maxHeartbeats 1000000
namespace M
open PySem PySem.Spec PyProof.Rows L2
section
variable {C : Ct}
def mS:List D->Option (List Int)
 | []=>some []
 | .int i::r=>match mS r with
  | some l=>some (i::l)
  | none=>none
 | _=>none
theorem xn:∀{ds:List D} {ns:List Int},mS ds=some ns->ds=ns.map D.int
 | [],ns,h=>by cases h;rfl
 | d::ds,ns,h=>by
  cases d <;> first | (simp[mS] at h;done) | skip
  rename_i i
  unfold mS at h
  split at h
  ·rename_i l e
   cases h
   rw[xn e];rfl
  ·cases h
theorem nv:∀ns:List Int,mS (ns.map D.int)=some ns
 | []=>rfl
 | n::ns=>by
  rw[List.map_cons]
  unfold mS
  rw[nv ns]
def mH(O:au)(d:D):Option (List Int):=match lsD O d with
 | some ds=>mS ds
 | none=>none
theorem xh{σ:L2.St}{H F:Hp}{θ:List Addr}{s:S}{d:D}{ns:List Int}{v:V}(b:BS C.K C.ca σ H F θ s)(r:Rep C.K C.ca θ F d v)(e:mH s.o d=some ns):∃a,v=.ref a/\SqL C.K H a (ns.map V.int):=by
 unfold mH at e
 split at e
 ·rename_i ds el
  obtain⟨a,xs,rfl,hs,hr⟩:=fj b r el
  rw[xn e] at hr
  rw[qk hr] at hs
  exact⟨a,rfl,hs⟩
 ·cases e
def keyed(O:au):List D->Option (List (D×List Int))
 | []=>some []
 | d::ds=>match mH O d,keyed O ds with
  | some ns,some r=>some ((d,ns)::r)
  | _,_=>none
theorem xQ{σ:L2.St}{H F:Hp}{θ:List Addr}{s:S}(b:BS C.K C.ca σ H F θ s):∀{ds:List D} {kd:List (D×List Int)} {xs:List V},keyed s.o ds=some kd->ax C.K C.ca θ F ds xs->
 ∃l3:List ((Addr×D)×List Int),kd=l3.map (λx=>(x.1.2,x.2))/\xs=l3.map (λx=>V.ref x.1.1)/\∀x∈l3,SqL C.K H x.1.1 (x.2.map V.int)/\Rep C.K C.ca θ F x.1.2 (.ref x.1.1)
 | [],kd,xs,e,r=>by
  cases e
  unfold ax at r
  subst r
  exact⟨[],rfl,rfl,λx hx=>by cases hx⟩
 | d::ds,kd,xs,e,r=>by
  unfold keyed at e
  split at e
  ·rename_i ns k2 e1 e2
   cases e
   unfold ax at r
   obtain⟨v,xs',rfl,h1,h2⟩:=r
   obtain⟨a,rfl,hs⟩:=xh b h1 e1
   obtain⟨l3,q1,q2,q3⟩:=xQ b e2 h2
   refine⟨((a,d),ns)::l3,by rw[q1];rfl,by rw[q2];rfl,λx hx=> ?_⟩
   rcases List.mem_cons.mp hx with rfl | hx
   ·exact⟨hs,h1⟩
   ·exact q3 x hx
  ·cases e
theorem CV{K:PySem.W.Frag}{ca:Nat->Addr}{θ:List Addr}{F:Hp}:∀{l3:List ((Addr×D)×List Int)},(∀x∈l3,Rep K ca θ F x.1.2 (.ref x.1.1))->ax K ca θ F (l3.map λx=>x.1.2) (l3.map λx=>V.ref x.1.1)
 | [],_=>ax.nil
 | x::l3,h=>ax.cons (h x List.mem_cons_self) (CV λy hy=>h y (List.mem_cons_of_mem _ hy))
def lj(fin:S->List D->Res (D×S))(me:EM):EM:=λs=>(me s).bind λx=>match lsD x.2.o x.1 with
 | some ds=>match keyed x.2.o ds with
  | some kd=>if kd.length<64/\(kd.map (·.2)).Nodup then fin x.2 ((d7 kd).map (·.1)) else .bad
  | none=>.bad
 | none=>.bad
theorem C6 {fin:S->List D->Res (D×S)} {te:TE} {me:EM} (he:RdE C te me)
 (hf:∀σ H F θ s ds xs Q,BS C.K C.ca σ H F θ s->ax C.K C.ca θ F ds xs->PoE C σ H F θ (fin s ds) Q->∀q,H q=none->Q (.ref q) (upd H q (.lst xs))):RdE C (tCB (qp C.K) (lr te px)) (lj fin me):=by
 intro σ H F θ s Q b p
 refine he σ H F θ s _ b (PoR.bind p ?_)
 rintro ⟨x,s1⟩ H1 F1 θ1 _ st1 p1 b1 v r1
 dsimp only at p1 b1 r1
 split at p1
 ·rename_i ds el
  split at p1
  ·rename_i kd ek
   split at p1
   ·rename_i hc
    obtain⟨a,xs,rfl,hs,hr⟩:=fj b1 r1 el
    obtain⟨l3,rfl,rfl,q3⟩:=xQ b1 ek hr
    have n1:∀l:List ((Addr×D)×List Int),d7 (l.map λx=>(x.1.1,x.2))=(d7 l).map λx=>(x.1.1,x.2):=kN λ_=>rfl
    have n2:∀l:List ((Addr×D)×List Int),d7 (l.map λx=>(x.1.2,x.2))=(d7 l).map λx=>(x.1.2,x.2):=kN λ_=>rfl
    refine⟨a,l3.map λx=>(x.1.1,x.2),rfl,by rw[List.map_map];exact hs,λy hy=> ?_,by have:=hc.1;rw[List.length_map] at this ⊢;exact this,by have:=hc.2;rw[List.map_map] at this ⊢;exact this, ?_⟩
    ·obtain⟨x,hx,rfl⟩:=List.mem_map.mp hy
     exact(q3 x hx).1
    ·rw[n2,List.map_map] at p1
     rw[n1,List.map_map]
     exact hf σ H1 F1 θ1 s1 _ _ Q b1 (CV λx hx=>(q3 x ((gD l3).mem_iff.mp hx)).2) p1
   ·exact False.elim p1
  ·exact False.elim p1
 ·exact False.elim p1
theorem GU{te:TE}{me:EM}(he:RdE C te me):RdE C (tCB (qp C.K) (lr te px)) (lj uG me):=C6 he λσ H F θ s ds xs Q b r p=>pH p b r
theorem HX{te:TE}{me:EM}(he:RdE C te me):RdE C (tCB (qp C.K) (lr te px)) (lj rj me):=C6 he λσ H F θ s ds xs Q b r p=>sq p b r
def pE(n:Int)(ns:List Int):Int:=ns.foldl (λa b=>if b<a then b else a) n
theorem CU:∀(ns:List Int) (n:Int),pE n ns<=n/\∀x∈ns,pE n ns<=x
 | [],n=>⟨Int.le_refl _,λx hx=>by cases hx⟩
 | b::ns,n=>by
  obtain⟨h1,h2⟩:=CU ns (if b<n then b else n)
  have e:pE n (b::ns)=pE (if b<n then b else n) ns:=rfl
  rw[e]
  have le:(if b<n then b else n)<=n/\(if b<n then b else n)<=b:=by split <;> omega
  generalize (if b<n then b else n)=c at h1 h2 le
  refine⟨Int.le_trans h1 le.1,λx hx=> ?_⟩
  rcases List.mem_cons.mp hx with rfl | hx
  ·exact Int.le_trans h1 le.2
  ·exact h2 x hx
theorem uO:∀(ns:List Int) (n:Int),pE n ns∈n::ns
 | [],n=>List.mem_cons_self
 | b::ns,n=>by
  have h:=uO ns (if b<n then b else n)
  have e:pE n (b::ns)=pE (if b<n then b else n) ns:=rfl
  rw[e]
  rcases List.mem_cons.mp h with h | h
  ·rw[h]
   split
   ·exact List.mem_cons_of_mem _ List.mem_cons_self
   ·exact List.mem_cons_self
  ·exact List.mem_cons_of_mem _ (List.mem_cons_of_mem _ h)
def yC(me md:EM):EM:=λs=>(me s).bind λx=>(md x.2).bind λy=>match mH y.2.o x.1 with
 | some (n::ns)=>.ok (.int (pE n ns),y.2)
 | _=>.bad
theorem Jd{te td:TE}{me md:EM}(he:RdE C te me)(hd:RdE C td md):RdE C (Ig C.K te td) (yC me md):=by
 intro σ H F θ s Q b p
 refine he σ H F θ s _ b (PoR.bind p ?_)
 rintro ⟨x,s1⟩ H1 F1 θ1 _ st1 p1 b1 v r1
 refine hd σ H1 F1 θ1 s1 _ b1 (PoR.bind p1 ?_)
 rintro ⟨y,s2⟩ H2 F2 θ2 _ st2 p2 b2 w r2
 dsimp only at p2 b2 r1
 split at p2
 ·rename_i n ns e
  obtain⟨a,rfl,hs⟩:=xh b2 (r1.mono st2.ff st2.pre) e
  refine⟨a,n::ns,rfl,hs,by simp,λm hm hl=> ?_⟩
  have e1:m=pE n ns:=by
   have h1:=hl _ (uO ns n)
   have h2:=CU ns n
   rcases List.mem_cons.mp hm with rfl | hm
   ·omega
   ·have:=h2.2 m hm;omega
  rw[e1]
  exact p2 _ _ _ .refl b2 _ (bh.mpr rfl)
 ·exact False.elim p2
end
end M
set_option maxRecDepth 100000
set_option maxHeartbeats 4000000
namespace M
open PySem PySem.Spec PyProof.Rows L2
section
variable {C : Ct}
end
end M
set_option maxRecDepth 100000
set_option maxHeartbeats 4000000
namespace M
open PySem PySem.Spec PyProof.Rows L2
section
variable {C : Ct}
end
end M
set_option maxRecDepth 100000
set_option maxHeartbeats 1000000
namespace M
open PySem PySem.Spec PyProof.Rows L2
section
variable {C : Ct}
end
end M
set_option maxRecDepth 100000
set_option maxHeartbeats 4000000
namespace L2
open PySem PySem.Spec PyProof.Rows
structure kz(k:Nat)(A:Around):Prop where
 dp:A.depth+3*k+5<recursionLimit
 un:A.units+16*k+200<cLine
theorem dN.h{k:Nat}{A:Around}(r:dN k A)(v:Option Value):kz k (A.mark v):=⟨r.dp,r.un⟩
theorem kz.mono{j k:Nat}{A:Around}(r:kz k A)(h:j<=k):kz j A:=⟨by have:=r.dp;omega,by have:=r.un;omega⟩
theorem kz.deeper{k:Nat}{A:Around}(r:kz (k+1) A)(env:Env):kz k (A.deeper env):=
 ⟨by have:=r.dp;show A.depth+1+3*k+5<_;omega,by have:=r.un;show A.units+3+16*k+200<_;omega⟩
theorem kz.depth{k:Nat}{A:Around}(r:kz k A):A.depth<recursionLimit:=by have:=r.dp;omega
theorem kz.units{k:Nat}{A:Around}(r:kz k A):A.units+64<cLine:=by have:=r.un;omega
structure MV(P:Program)(w:World)(K:PySem.W.Frag)(mg:Str->Option Value)(base:Heap)(CX:CXT)(k:Nat)(f:Addr)(fd:FuncData)(ps:List Str)(sp:Sp):Prop where
 len:∀vs H Q E,sp vs H Q E->vs.length=ps.length
 run:∀(A:Around) (outer:List Env) (s:Shared) (H:Hp) (args:Args) (us:List Value) (vs:List V) (Q:VK) (E:XK),kz k A->n9 P w K mg base A outer s H->BindsTo s fd args (ps.zip us)->Vals vs us->sp vs H Q E->
  codeAny (model P w) A (.call (.ref f) args) (CR CX outer P w H s Q E) s
section
variable {X : Cx} {CX : CXT} {k : Nat} {f C : Addr} {fd : FuncData} {ps : List Str} {sp : Sp} {dvs : List V} {ds : List Value} {E : XK} {x m : Str} {p pos apos : Pos} {e o : Expr} {es : List Expr} {ta : TE} {t : TA}
end
section
variable {P : Program} {w : World} {K : PySem.W.Frag} {mg : Str → Option Value} {base : Heap}
end
end L2
namespace M
open PySem PySem.Spec PyProof.Rows L2
def A6(P:Program)(w:World)(K:PySem.W.Frag)(mg:Str->Option Value)(base:Heap)(ca:Nat->Addr)(lv:Nat)(x:Str)(ps:List Str)(f:FM)(a:Addr)(fd:FuncData):Prop:=
 MV P w K mg base (CXE P w) lv a fd ps (spM K ca ps.length f)/\mg x=some (.ref a)/\PySem.W.keepIn K (.ref a)=true/\Binds K fd ps []
def LP(P:Program)(w:World)(K:PySem.W.Frag)(mg:Str->Option Value)(base:Heap)(ca:Nat->Addr)(lv:Nat)(x:Str)(ps:List Str)(f:FM):Prop:=∃a fd,A6 P w K mg base ca lv x ps f a fd
theorem A6.in{P:Program}{w:World}{K:PySem.W.Frag}{mg:Str->Option Value}{base:Heap}{ca:Nat->Addr}{lv:Nat}{x:Str}{ps:List Str}{f:FM}{a:Addr}{fd:FuncData}(h:A6 P w K mg base ca lv x ps f a fd):LP P w K mg base ca lv x ps f:=⟨a,fd,h⟩
end M
set_option maxRecDepth 100000
set_option maxHeartbeats 4000000
namespace M
open PySem PySem.Spec PyProof.Rows L2
section
variable {C : Ct}
def yB:Op2:=intD λi j=>.ok (.int (Builtin.bitAnd i j))
theorem Kk:gf C (rI0 λi j=>.int (Builtin.bitAnd i j)) yB:=rB λ_ _ _ _ _ _=>bh.mpr rfl
noncomputable def Ec:Op2:=uK vW λi j=>.int (i*2^j.toNat)
theorem Me:gf C (rI vW λi j=>.int (i*2^j.toNat)) Ec:=vM λ_ _ _ _ _ _=>bh.mpr rfl
def tS(mo me:EM):EM:=λs=>(mo s).bind λx=>match fY x.2.o x.1 with
 | some _=>(me x.2).bind λy=>match fY y.2.o x.1 with
  | some (k,ds)=>if ds.length<16777216 then .ok (.non,⟨y.2.r,y.2.o.set k (.lst (y.1::ds))⟩) else .bad
  | none=>.bad
 | none=>.bad
theorem Kc{to te:TE}{mo me:EM}(ho:RdE C to mo)(he:RdE C te me):RdE C (tBM C.K "list" Ii to (lr (tC (.int 0)) (lr te px))) (tS mo me):=by
 intro σ H F θ s Q b p
 refine ho σ H F θ s _ b (PoR.bind p ?_)
 rintro ⟨x,s1⟩ H1 F1 θ1 _ st1 p1 b1 v r1
 dsimp only at p1 b1 r1
 split at p1
 ·rename_i kd e
  obtain⟨rfl,e'⟩:=mT (k:=kd.1) (ds:=kd.2) e
  obtain⟨a,xs,rfl,hk,_,h1,_⟩:=jQ b1 r1 e'
  refine⟨.inl ⟨rfl,xs,SqL.of h1⟩,he σ H1 F1 θ1 s1 _ b1 (PoR.bind p1 ?_)⟩
  rintro ⟨y,s2⟩ H2 F2 θ2 _ st2 p2 b2 w r2
  dsimp only at p2 b2 r2
  split at p2
  ·rename_i k ds e2
   obtain⟨ek,e2⟩:=mT e2
   cases ek
   obtain⟨a',ys,ea,hk2,hF,h2,hr⟩:=jQ b2 (r1.mono st2.ff st2.pre) e2
   cases ea
   split at p2
   ·rename_i hl
    obtain⟨st3,b3⟩:=b2.setC hk2 e2 hF (ax.cons r2 hr)
    exact⟨a,ys,w,rfl,rfl,h2,by rw[hr.length];exact hl,p2 _ _ _ st3 b3 _ (gU.mpr rfl)⟩
   ·exact False.elim p2
  ·exact False.elim p2
 ·exact False.elim p1
end
theorem Mg{mo me:EM}{s s1:S}{R:List (Option D)}{O O':au}{k:Nat}{d:D}{ds0 ds:List D}(h1:mo s=.ok (.ptr k,s1))(c1:s1.o[k]? =some (.lst ds0))(h2:me s1=.ok (d,⟨R,O⟩))(c2:O[k]? =some (.lst ds))(hb:ds.length<=1000000)(hO:O.set k (.lst (d::ds))=O'):tS mo me s=.ok (.non,⟨R,O'⟩):=by
 subst hO
 unfold tS
 rw[h1]
 show (match fY s1.o (.ptr k) with | some _=>_ | none=>_)=_
 have e1:fY s1.o (.ptr k)=some (k,ds0):=by unfold fY;simp only[c1]
 have e2:fY O (.ptr k)=some (k,ds):=by unfold fY;simp only[c2]
 rw[e1]
 show (me s1).bind _=_
 rw[h2]
 show (match fY O (.ptr k) with | some (k,ds)=>_ | none=>_)=_
 rw[e2]
 show (if ds.length<16777216 then _ else _)=_
 rw[if_pos (by omega)]
end M
set_option maxRecDepth 100000
set_option maxHeartbeats 4000000
namespace M
open PySem PySem.Spec PyProof.Rows L2
@[simp] theorem NJ (ds:List D) (O:au):okC ds none O=True:=rfl
@[simp] theorem NM (ds:List D) (k:Nat) (O:au):okC ds (some k) O=(O[k]? =some (.lst ds)):=rfl
theorem Cy{n:Nat}{i:Int}(h:i.natAbs<2^n):Builtin.Int.intBits i<=n:=by
 unfold Builtin.Int.intBits
 split
 ·exact Nat.zero_le _
 ·rename_i h0
  have hp:i.natAbs≠0:=by
   intro z
   apply h0
   simpa using z
  have:=(Nat.log2_lt hp).mpr h
  omega
def Sz(n:Nat)(i:Int):Prop:=i.natAbs<2^n
theorem Sz.mono{m n:Nat}{i:Int}(h:Sz m i)(hmn:m<=n):Sz n i:=Nat.lt_of_lt_of_le h (Nat.pow_le_pow_right (by decide) hmn)
theorem sj{m n:Nat}(hm:m<=60000000)(hn:n<=60000000){i j:Int}(h:Sz m i)(h':Sz n j):IntMulOk i j:=by
 have h1:=Cy h
 have h2:=Cy h'
 have e:Builtin.Int.intTooBig (Builtin.Int.intBits i+Builtin.Int.intBits j)=false:=by
  unfold Builtin.Int.intTooBig
  rw[bitsLine_eq]
  exact decide_eq_false (by omega)
 unfold IntMulOk
 rw[e]
 simp
theorem fq{i j:Int}(h:i.natAbs<2^64\/j.natAbs<2^64):IntMulOk i j:=by
 rcases h with h | h
 ·exact .of_left (intBits_le_64 (by omega) (by omega))
 ·exact .of_right (intBits_le_64 (by omega) (by omega))
theorem Sz.mul{m n:Nat}{i j:Int}(h:Sz m i)(h':Sz n j):Sz (m+n) (i*j):=by
 unfold Sz at *
 rw[Int.natAbs_mul,Nat.pow_add]
 exact Nat.mul_lt_mul'' h h'
theorem Sz.add{m n:Nat}{i j:Int}(h:Sz m i)(h':Sz n j):Sz (max m n+1) (i+j):=by
 unfold Sz at *
 have h1:=Nat.lt_of_lt_of_le h (Nat.pow_le_pow_right (by decide) (Nat.le_max_left m n))
 have h2:=Nat.lt_of_lt_of_le h' (Nat.pow_le_pow_right (by decide) (Nat.le_max_right m n))
 have h3:(i+j).natAbs<=i.natAbs+j.natAbs:=Int.natAbs_add_le i j
 rw[Nat.pow_succ]
 omega
theorem u0{i j:Int}(h:0<j):i.fdiv j=i/j:=Int.fdiv_eq_ediv_of_nonneg i (Int.le_of_lt h)
theorem Hw{i j:Int}(h:0<j):i.fmod j=i%j:=Int.fmod_eq_emod_of_nonneg i (Int.le_of_lt h)
section
variable {O : au}
@[simp] theorem ow (i j:Int):jq O (.int i) (.int j)=.ok (.int (i-j)):=rfl
@[simp] theorem bX (i j:Int):bz O (.int i) (.int j)=.ok (.int (i+j)):=rfl
@[simp] theorem NF (i j:Int):NO O (.int i) (.int j)=.ok (.int (i+j)):=rfl
@[simp] theorem lW (i j:Int):ltD O (.int i) (.int j)=.ok (.bl (decide (i<j))):=rfl
@[simp] theorem Oj (i j:Int):leD O (.int i) (.int j)=.ok (.bl (decide (i<=j))):=rfl
@[simp] theorem CO (i j:Int):gtD O (.int i) (.int j)=.ok (.bl (decide (j<i))):=rfl
@[simp] theorem N5 (i j:Int):geD O (.int i) (.int j)=.ok (.bl (decide (j<=i))):=rfl
@[simp] theorem qL (i:Int):lH O (.int i)=.ok (.int (-i)):=rfl
@[simp] theorem nU (i j:Int):eqD O (.int i) (.int j)=.ok (.bl (decide (i=j))):=rfl
@[simp] theorem wC (i j:Int):neD O (.int i) (.int j)=.ok (.bl (!decide (i=j))):=rfl
@[simp] theorem Kj (i j:Str):eqD O (.str i) (.str j)=.ok (.bl (decide (i=j))):=rfl
@[simp] theorem Ol (i j:Str):neD O (.str i) (.str j)=.ok (.bl (!decide (i=j))):=rfl
@[simp] theorem OD (i j:Bool):eqD O (.bl i) (.bl j)=.ok (.bl (decide (i=j))):=rfl
@[simp] theorem Oq (i j:Bool):neD O (.bl i) (.bl j)=.ok (.bl (!decide (i=j))):=rfl
theorem dQ{i j:Int}(h:IntMulOk i j):dE O (.int i) (.int j)=.ok (.int (i*j)):=if_pos h
theorem r9{i j:Int}(h:j≠0):gQ O (.int i) (.int j)=.ok (.int (i.fdiv j)):=if_pos h
theorem ud{i:Int}{j:Int}(h:0<j)(h2:j<1073741824):gQ O (.int i) (.int j)=.ok (.int (i/j)):=by
 rw[r9 (by omega),u0 h]
theorem fv{i j:Int}(h:0<j):gh O (.int i) (.int j)=.ok (.int (i%j)):=by
 rw[<- Hw h];exact if_pos (by omega)
theorem Ha{i j:Int}(h:0<=j)(h2:j<=1000000)(h3:i.natAbs<2^64):uU O (.int i) (.int j)=.ok (.int (i^j.toNat)):=if_pos ⟨h,h2,h3⟩
@[simp] theorem Ia (i:Int):rC O [.int i]=.ok (.int (i.natAbs:Int)):=by
 show Res.ok (D.int (if i<0 then -i else i))=_
 congr 2
 split <;> omega
@[simp] theorem gN (ds:List D):bL O [.lst ds]=.ok (.int ds.length):=rfl
@[simp] theorem NI (ds:List D):bL O [.tup ds]=.ok (.int ds.length):=rfl
theorem Ai{x:Str}(h:x.length<=16777216):bL O [.str x]=.ok (.int x.length):=if_pos h
@[simp] theorem o4 (ds:List D):iB O [.lst ds]=.ok (.lst ds):=rfl
@[simp] theorem Na (ds:List D):iB O [.tup ds]=.ok (.lst ds):=rfl
@[simp] theorem M6 (i:Int):intOf O [.int i]=.ok (.int i):=rfl
@[simp] theorem uR (b:Bool):intOf O [.bl b]=.ok (.int (if b then 1 else 0)):=rfl
@[simp] theorem NV (c:String) (i:Int):iC c O (.int i)=.ok (.bl (eX "int" c)):=rfl
@[simp] theorem OK (c:String) (i:Bool):iC c O (.bl i)=.ok (.bl (eX "bool" c)):=rfl
@[simp] theorem Oi (c:String) (i:Str):iC c O (.str i)=.ok (.bl (eX "str" c)):=rfl
@[simp] theorem Ce (c:String) (i:List D):iC c O (.lst i)=.ok (.bl (eX "list" c)):=rfl
@[simp] theorem NW (c:String) (i:List D):iC c O (.tup i)=.ok (.bl (eX "tuple" c)):=rfl
@[simp] theorem NS (c:String):iC c O .non=.ok (.bl (eX "NoneType" c)):=rfl
@[simp] theorem Ox:eX "int" "int" =true:=by decide
@[simp] theorem OG:eX "int" "bool" =false:=by decide
@[simp] theorem OQ:eX "bool" "bool" =true:=by decide
@[simp] theorem OJ:eX "bool" "int" =true:=by decide
@[simp] theorem OR:eX "list" "list" =true:=by decide
@[simp] theorem sub_tt:eX "tuple" "tuple" =true:=by decide
@[simp] theorem sub_lt:eX "list" "tuple" =false:=by decide
@[simp] theorem OC:eX "tuple" "list" =false:=by decide
@[simp] theorem OP:eX "str" "int" =false:=by decide
@[simp] theorem OO:eX "NoneType" "int" =false:=by decide
theorem nR{ds:List D}{i:Int}{d:D}(h:atI ds i=some d):ixD O (.lst ds) (.int i)=.ok d:=by
 show (match lsD O (D.lst ds) with
  | some ds=>match atI ds i with
   | some d=>Res.ok d
   | none=>.bad
  | none=>.bad)=_
 rw[pY]
 dsimp only
 rw[h]
theorem CB{ds:List D}{i:Int}{d:D}(h:atI ds i=some d):ixD O (.tup ds) (.int i)=.ok d:=by
 show (
  match atI ds i with
  | some d=>Res.ok d
  | none=>.bad)=_
 rw[h]
theorem oQ{α:Type}{l:List α}{i:Int}(h0:0<=i)(h1:i<l.length):atI l i=some (l[i.toNat]'(by omega)):=by
 unfold atI ixN
 rw[if_pos h0,if_pos h1]
 show l[i.toNat]? =_
 exact List.getElem?_eq_getElem _
theorem nF:∀ns:List Int,iz (ns.map D.int)=some (ns.map PyData.int)
 | []=>by simp[iz]
 | n::ns=>by simp[iz,toPy,nF ns]
theorem mL:∀ns:List Int,bA O (ns.map D.int)=ns.map D.int
 | []=>by simp[bA]
 | n::ns=>by simp[bA,res,mL ns]
theorem mz:∀ns:List Int,PyData.canLayAll0 (ns.map PyData.int)=true
 | []=>by simp[PyData.canLayAll0]
 | n::ns=>by simp[PyData.canLayAll0,PyData.canLay0,mz ns]
theorem nG:∀ns:List Int,PyData.depthAll (ns.map PyData.int)=0
 | []=>by simp[PyData.depthAll]
 | n::ns=>by simp[PyData.depthAll,PyData.depth,nG ns]
theorem shaped_ints(ns:List Int):SeqAt.shaped (.list (ns.map PyData.int))=true:=by
 simp[SeqAt.shaped,PyData.canLay0,mz,PyData.depth,nG]
theorem qB:∀ns ms:List Int,PyData.eqvAll (ns.map PyData.int) (ms.map PyData.int)=decide (ns=ms)
 | [],[]=>by simp[PyData.eqvAll]
 | [],_::_=>by simp[PyData.eqvAll]
 | _::_,[]=>by simp[PyData.eqvAll]
 | a::r,b::t=>by
  simp only[List.map_cons,PyData.eqvAll,PyData.eqv,qB r t]
  by_cases h:a=b <;> by_cases h':r=t <;> simp[h,h']
theorem Av(ns ms:List Int):eqB O (.lst (ns.map D.int)) (.lst (ms.map D.int))=some (decide (ns=ms)):=by
 show fS O _ _=_
 unfold fS
 simp only[res,mL,toPy,nF,Option.map_some]
 rw[if_pos ⟨shaped_ints ns,shaped_ints ms⟩]
 simp only[PyData.eqv,qB]
@[simp] theorem Nj (ns ms:List Int):eqD O (.lst (ns.map D.int)) (.lst (ms.map D.int))=.ok (.bl (decide (ns=ms))):=by unfold eqD;rw[Av]
@[simp] theorem HM (ns ms:List Int):neD O (.lst (ns.map D.int)) (.lst (ms.map D.int))=.ok (.bl (!decide (ns=ms))):=by unfold neD;rw[Av]
theorem rY:∀ns:List Int,aM (ns.map D.int)=true
 | []=>by simp[aM]
 | n::ns=>by simp[aM,cK,rY ns]
@[simp] theorem MQ (ns:List Int):cK (.lst (ns.map D.int))=true:=by simp[cK,rY]
end
end M
set_option maxRecDepth 100000
set_option maxHeartbeats 4000000
namespace M
open PySem PySem.Spec PyProof.Rows L2
noncomputable def sX:SM:=aP (setM 2 (ao gh (aa 0) (aa 1))) (aP (setM 0 (aa 1)) (setM 1 (aa 2)))
theorem HP{a b:Int}{x:Option D}{O:au}(hb:0<b):sX ⟨[some (.int a),some (.int b),x],O⟩=.next ⟨[some (.int b),some (.int (a%b)),some (.int (a%b))],O⟩:=by
 simp[sX,aP,setM,m5,aB,ao,aa,fv hb]
theorem xA{c:TM}(hc:∀(a b:Int) x O,0<=b->c ⟨[some (.int a),some (.int b),x],O⟩=.ok (decide (b≠0),⟨[some (.int a),some (.int b),x],O⟩)):
 ∀(n:Nat) (a b:Int) x O,0<=a->0<=b->b.natAbs<n->∃y,iU c sX n ⟨[some (.int a),some (.int b),x],O⟩=.next ⟨[some (.int (Nat.gcd a.natAbs b.natAbs:Nat)),some (.int 0),y],O⟩
 | 0,_,_,_,_,_,_,h=>by omega
 | n+1,a,b,x,O,ha,hb,hn=>by
  rw[iU,hc a b x O hb,ki]
  by_cases h:b=0
  ·subst h
   refine⟨x, ?_⟩
   have e:((Nat.gcd a.natAbs (0:Int).natAbs:Nat):Int)=a:=by
    rw[Int.natAbs_zero,Nat.gcd_zero_right]
    omega
   rw[e]
   simp
  ·have hb':0<b:=by omega
   have h1:0<=a%b:=Int.emod_nonneg a h
   have h2:a%b<b:=Int.emod_lt_of_pos a hb'
   obtain⟨y,e⟩:=xA hc n b (a%b) (some (.int (a%b))) O hb h1 (by omega)
   refine⟨y, ?_⟩
   simp only[h,ne_eq,not_false_eq_true,decide_true,if_true,HP hb']
   rw[e]
   have e2:(a%b).natAbs=a.natAbs%b.natAbs:=by
    have:((a%b).natAbs:Int)=((a.natAbs%b.natAbs:Nat):Int):=by
     rw[Int.natAbs_of_nonneg h1,Int.natCast_emod,Int.natAbs_of_nonneg ha,Int.natAbs_of_nonneg hb]
    omega
   rw[e2,<- Nat.gcd_rec' a.natAbs b.natAbs]
where Nat.gcd_rec' (m n:Nat):Nat.gcd m n=Nat.gcd n (m%n):=by
        rw[Nat.gcd_comm m n,Nat.gcd_rec n m,Nat.gcd_comm]
noncomputable def DN:SM:=aP (setM 0 (aW rC (ae (aa 0) ak))) (aP (setM 1 (aW rC (ae (aa 1) ak))) (aP (rM (λs=>tE 1 s) (bj (ao neD (aa 1) (aq (.int 0)))) sX) (cv (aa 0))))
theorem G8(a b:Int)(O:au):∃s,DN ⟨[some (.int a),some (.int b),none],O⟩=.ret (.int (Int.gcd a b:Nat)) s/\s.o=O:=by
 obtain⟨y,e⟩:=xA (c:=bj (ao neD (aa 1) (aq (.int 0)))) (λa b x O h=>by simp[bj,ao,aa,aq]) (b.natAbs+1) (a.natAbs:Int) (b.natAbs:Int) none O (by omega) (by omega) (by omega)
 refine⟨⟨[some (.int (Int.gcd a b:Nat)),some (.int 0),y],O⟩, ?_,rfl⟩
 simp only[Int.natAbs_natCast] at e
 simp[DN,aP,setM,m5,aB,aW,ae,ak,aa,rM,tE,e,cv,Int.gcd]
theorem eH{n:Nat}{m:SM}{ds:List D}{O:au}{d:D}{s:S}(h:m ⟨ds.map some++List.replicate (n-ds.length) none,O⟩=.ret d s):runM n m ds O=.ok (d,s.o):=by
 unfold runM;rw[h]
theorem Fd(a b:Int):runM 3 DN [.int a,.int b] []=.ok (.int (Int.gcd a b:Nat),[]):=by
 obtain⟨s,e,eo⟩:=G8 a b []
 rw[eH (s:=s) (by exact e),eo]
def cG(ns:List Int):Nat:=ns.foldl (λc n=>Nat.gcd c n.natAbs) 0
theorem qW:∀(ns:List Int) (c:Nat),ns.foldl (λc n=>Nat.gcd c n.natAbs) c ∣ c/\∀n∈ns,ns.foldl (λc n=>Nat.gcd c n.natAbs) c ∣ n.natAbs
 | [],c=>⟨Nat.dvd_refl _,by simp⟩
 | m::ns,c=>by
  obtain⟨h1,h2⟩:=qW ns (Nat.gcd c m.natAbs)
  rw[List.foldl_cons]
  refine⟨Nat.dvd_trans h1 (Nat.gcd_dvd_left _ _),λn hn=> ?_⟩
  rcases List.mem_cons.mp hn with rfl | hn
  ·exact Nat.dvd_trans h1 (Nat.gcd_dvd_right _ _)
  ·exact h2 n hn
theorem zL{ns:List Int}{n:Int}(h:n∈ns):((cG ns:Nat):Int) ∣ n:=Int.natAbs_dvd_natAbs.mp (by rw[Int.natAbs_natCast];exact(qW ns 0).2 n h)
theorem qV(g:Nat)(hg:0<g):∀(ns:List Int) (c:Nat),g ∣ c->(∀n∈ns,(g:Int) ∣ n)->
 (ns.map (· / (g:Int))).foldl (λc n=>Nat.gcd c n.natAbs) (c/g)=ns.foldl (λc n=>Nat.gcd c n.natAbs) c/g
 | [],c,_,_=>rfl
 | m::ns,c,hc,h=>by
  have hm:g ∣ m.natAbs:=by
   have:=Int.natAbs_dvd_natAbs.mpr (h m List.mem_cons_self)
   rwa [Int.natAbs_natCast] at this
  have e:(m/(g:Int)).natAbs=m.natAbs/g:=by
   obtain⟨k,rfl⟩:=h m List.mem_cons_self
   rw[Int.mul_ediv_cancel_left _ (by omega:(g:Int)≠0),Int.natAbs_mul,Int.natAbs_natCast,Nat.mul_div_cancel_left _ hg]
  rw[List.map_cons,List.foldl_cons,List.foldl_cons,e,Nat.gcd_div hc hm]
  exact qV g hg ns _ (Nat.dvd_gcd hc hm) λn hn=>h n (List.mem_cons_of_mem _ hn)
theorem HN{ns:List Int}(h:0<cG ns):cG (ns.map (· / (cG ns:Int)))=1:=by
 have:=qV (cG ns) h ns 0 (Nat.dvd_zero _) λn hn=>zL hn
 rw[Nat.zero_div] at this
 rw[show cG (ns.map (· / (cG ns:Int)))=(ns.map (· / (cG ns:Int))).foldl (λc n=>Nat.gcd c n.natAbs) 0 from rfl,this]
 exact Nat.div_self h
end M
set_option maxRecDepth 100000
set_option maxHeartbeats 4000000
namespace M
open PySem PySem.Spec PyProof.Rows L2
section
variable {s s1 : S} {d : D}
@[simp] theorem af {i:Nat} (h:s.r[i]? =some (some d)):aa i s=.ok (d,s):=by unfold aa;rw[h]
@[simp] theorem aA (d:D) (s:S):aq d s=.ok (d,s):=rfl
@[simp] theorem eM (f:Op2) (a b:EM) (s:S):ao f a b s=(a s).bind λx=>(b x.2).bind λy=>(f y.2.o x.1 y.1).bind λd=>.ok (d,y.2):=rfl
@[simp] theorem KO (f:Op1) (a:EM) (s:S):unM f a s=(a s).bind λx=>(f x.2.o x.1).bind λd=>.ok (d,x.2):=rfl
@[simp] theorem aF (s:S):ak s=.ok ([],s):=rfl
@[simp] theorem aY (m:EM) (r:AM) (s:S):ae m r s=(m s).bind λx=>(r x.2).bind λy=>.ok (x.1::y.1,y.2):=rfl
@[simp] theorem i8 (f:OpN) (m:AM) (s:S):aW f m s=(m s).bind λx=>(f x.2.o x.1).bind λd=>.ok (d,x.2):=rfl
@[simp] theorem Cs (m:AM) (s:S):qx m s=(m s).bind λx=>if x.1.length<=16777216 then .ok (.tup x.1,x.2) else .bad:=rfl
@[simp] theorem Jo (m:AM) (s:S):kF m s=(m s).bind λx=>if x.1.length<=16777216 then .ok (.lst x.1,x.2) else .bad:=rfl
@[simp] theorem Jt (m:AM) (s:S):jm m s=(m s).bind λx=>if x.1.length<=16777216 then .ok (.ptr x.2.o.length,⟨x.2.r,x.2.o++[.lst x.1]⟩) else .bad:=rfl
@[simp] theorem g6 (m:EM) (s:S):bj m s=(m s).bind λx=>match x.1 with
 | .bl b=>.ok (b,x.2)
 | _=>.bad:=rfl
@[simp] theorem JC (a b:TM) (s:S):p9 a b s=(a s).bind λx=>if x.1 then b x.2 else .ok (false,x.2):=rfl
@[simp] theorem zI (a b:TM) (s:S):orT a b s=(a s).bind λx=>if x.1 then .ok (true,x.2) else b x.2:=rfl
@[simp] theorem wR (a:TM) (s:S):mX a s=(a s).bind λx=>.ok (!x.1,x.2):=rfl
@[simp] theorem N2 (a b:EM) (s:S):Bi a b s=(a s).bind λx=>match x.1 with
 | .bl true=>b x.2
 | .bl false=>.ok (.bl false,x.2)
 | _=>.bad:=rfl
@[simp] theorem OI (a b:EM) (s:S):orV a b s=(a s).bind λx=>match x.1 with
 | .bl true=>.ok (.bl true,x.2)
 | .bl false=>b x.2
 | _=>.bad:=rfl
@[simp] theorem NY (a:EM) (s:S):zj a s=(a s).bind λx=>match x.1 with
 | .bl k=>.ok (.bl (!k),x.2)
 | _=>.bad:=rfl
@[simp] theorem CQ (a b:SM) (s:S):aP a b s=(a s).then b:=rfl
@[simp] theorem dy (s:S):cL s=.next s:=rfl
@[simp] theorem Nm (m:EM) (s:S):cR m s=(m s).out λx=>.next x.2:=rfl
@[simp] theorem Of (m:EM) (s:S):cv m s=(m s).out λx=>.ret x.1 x.2:=rfl
@[simp] theorem NZ (s:S):Nq s=.ret .non s:=rfl
@[simp] theorem OE (c:TM) (a b:SM) (s:S):ifS c a b s=(c s).out λx=>if x.1 then a x.2 else b x.2:=rfl
@[simp] theorem Ou (c:TM) (a b:EM) (s:S):ifM c a b s=(c s).bind λx=>if x.1 then a x.2 else b x.2:=rfl
@[simp] theorem Gm (i:Nat) (d:D) (s:S):aB i d s=.ok ⟨s.r.set i (some d),s.o⟩:=rfl
@[simp] theorem C5 (m:EM) (g:GM) (s:S):m5 m g s=((m s).bind λx=>g x.1 x.2).out λs=>.next s:=rfl
@[simp] theorem Oc (i:Nat) (f:Op2) (m:EM) (s:S):NG i f m s=m5 (ao f (aa i) m) (aB i) s:=rfl
@[simp] theorem G0 (s:S):bK s=.ok (true,s):=rfl
@[simp] theorem FF (s:S):iM s=.ok (none,s):=rfl
@[simp] theorem C1 (m:EM) (s:S):part m s=(m s).bind λx=>match x.1 with
 | .int i=>.ok (some i,x.2)
 | _=>.bad:=rfl
@[simp] theorem KU (me:EM) (ml mh:OM) (s:S):slM me ml mh s=(me s).bind λx=>(ml x.2).bind λl=>(mh l.2).bind λh=>match lsD h.2.o x.1 with
 | some ds=>.ok (.lst (cutD ds l.1 h.1),h.2)
 | none=>.bad:=rfl
@[simp] theorem di (m:EM) (s:S):listI m s=(m s).bind λx=>(itemsOf x.2.o x.1).bind λy=>.ok (y,x.2):=rfl
@[simp] theorem Mj (O:au) (ds:List D):itemsOf O (.lst ds)=.ok (ds,none):=rfl
theorem JS(im:IM)(g:GM)(body:SM)(s:S):eR im g body s=(im s).out λy=>cS (okC y.1.1 y.1.2) g body y.1.1 y.2:=rfl
theorem uE(m:Nat)(caps:List Nat)(im:IM)(g:GM)(c:TM)(e:EM)(s:S):mE m caps im g c e s=(im s).bind λy=>
 (fU (okC y.1.1 y.1.2) g c e y.1.1 [] ⟨qO m caps y.2.r,y.2.o⟩).bind λz=>.ok (z.1,⟨y.2.r,z.2.o⟩):=rfl
theorem oR(m:Nat)(caps:List Nat)(im:IM)(g:GM)(c:TM)(e:EM)(s:S):bF m caps im g c e s=(mE m caps im g c e s).bind λy=>.ok (.lst y.1,y.2):=rfl
theorem Ao(m:Nat)(caps:List Nat)(im:IM)(g:GM)(c:TM)(e:EM)(s:S):nL m caps im g c e s=(mE m caps im g c e s).bind λy=>.ok (.ptr y.2.o.length,⟨y.2.r,y.2.o++[.lst y.1]⟩):=rfl
@[simp] theorem Gs (n:Nat) (f:FM) (m:AM) (s:S):aQ n f m s=(m s).bind λx=>if aM x.1=true/\x.1.length=n then (match f x.1 [] with
 | .ok (d,_)=>if cK d=true then .ok (d,x.2) else .bad
 | _=>.bad) else .bad:=rfl
@[simp] theorem G3 (n:Nat) (f:FM) (m:AM) (s:S):gc n f m s=(m s).bind λx=>if aM x.1=true/\x.1.length=n then (match f x.1 [] with
 | .ok (d,O1)=>.ok (shD x.2.o.length d,⟨x.2.r,x.2.o++O1.map (shC x.2.o.length)⟩)
 | _=>.bad) else .bad:=rfl
@[simp] theorem Nl (n:Nat) (f:FM) (m:AM) (s:S):iy n f m s=(m s).bind λx=>if aM (bA x.2.o (bA x.2.o x.1))=true/\x.1.length=n then (match f (bA x.2.o (bA x.2.o x.1)) [] with
 | .ok (d,_)=>if nP d=true then .ok (d,x.2) else .bad
 | _=>.bad) else .bad:=rfl
@[simp] theorem HA (m:EM) (s:S):yE m s=(m s).bind λx=>match tG x.2.o x.1 with
 | some ds=>.ok (.ptr x.2.o.length,⟨x.2.r,x.2.o++[.lst ds]⟩)
 | none=>.bad:=rfl
@[simp] theorem J7 (m:EM) (s:S):oC m s=(m s).bind λx=>match fY x.2.o x.1 with
 | some (k,ds)=>.ok (.lst ds,⟨x.2.r,x.2.o.set k .dead⟩)
 | none=>.bad:=rfl
@[simp] theorem Jy (mo me:EM) (s:S):gP mo me s=(mo s).bind λx=>match fY x.2.o x.1 with
 | some _=>(me x.2).bind λy=>match fY y.2.o x.1 with
  | some (k,ds)=>if ds.length<16777216 then .ok (.non,⟨y.2.r,y.2.o.set k (.lst (ds++[y.1]))⟩) else .bad
  | none=>.bad
 | none=>.bad:=rfl
@[simp] theorem nX {O:au} {k:Nat} {ds:List D} (h:O[k]? =some (.lst ds)):lsD O (.ptr k)=some ds:=by unfold lsD;simp only[h]
@[simp] theorem lS {O:au} {k:Nat} {ds:List D} (h:O[k]? =some (.lst ds)):fY O (.ptr k)=some (k,ds):=by unfold fY;simp only[h]
@[simp] theorem Ep (O:au) (ds:List D):tG O (.lst ds)=some ds:=rfl
@[simp] theorem M7 (O:au) (ds:List D):tG O (.tup ds)=some ds:=rfl
@[simp] theorem M8 {O:au} {k:Nat} {ds:List D} (h:O[k]? =some (.lst ds)):tG O (.ptr k)=some ds:=by show lsD O (.ptr k)=_;exact nX h
@[simp] theorem BH {O:au} {k:Nat} {ds:List D} (h:O[k]? =some (.lst ds)):itemsOf O (.ptr k)=.ok (ds,some k):=by unfold itemsOf;simp only[h]
@[simp] theorem jM (n k:Nat):shD n (.ptr k)=.ptr (n+k):=by unfold shD;rfl
@[simp] theorem DR:aM []=true:=by unfold aM;rfl
@[simp] theorem fK (d:D) (ds:List D):aM (d::ds)=(cK d&&aM ds):=by conv=>lhs;unfold aM
@[simp] theorem w8 (i:Int):cK (.int i)=true:=by unfold cK;rfl
@[simp] theorem Nk (i:Bool):cK (.bl i)=true:=by unfold cK;rfl
@[simp] theorem Nb (i:Str):cK (.str i)=true:=by unfold cK;rfl
@[simp] theorem Nc:cK .non=true:=by unfold cK;rfl
@[simp] theorem mV (ds:List D):cK (.lst ds)=aM ds:=by conv=>lhs;unfold cK
@[simp] theorem M3 (ds:List D):cK (.tup ds)=aM ds:=by conv=>lhs;unfold cK
@[simp] theorem Mi (ns:List Int):aM (ns.map D.int)=true:=rY ns
@[simp] theorem pT (O:au) (i:Int):res O (.int i)=.int i:=by unfold res;rfl
@[simp] theorem OB (O:au) (i:Bool):res O (.bl i)=.bl i:=by unfold res;rfl
@[simp] theorem N1 (O:au) (i:Str):res O (.str i)=.str i:=by unfold res;rfl
@[simp] theorem NX (O:au):res O .non=.non:=by unfold res;rfl
@[simp] theorem iZ (O:au) (ds:List D):res O (.lst ds)=.lst (bA O ds):=by conv=>lhs;unfold res
@[simp] theorem JL (O:au) (ds:List D):res O (.tup ds)=.tup (bA O ds):=by conv=>lhs;unfold res
@[simp] theorem kW {O:au} {k:Nat} {ds:List D} (h:O[k]? =some (.lst ds)):res O (.ptr k)=.lst ds:=by conv=>lhs;unfold res;simp only[h]
@[simp] theorem ju (O:au):bA O []=[]:=by unfold bA;rfl
@[simp] theorem dC (O:au) (d:D) (ds:List D):bA O (d::ds)=res O d::bA O ds:=by conv=>lhs;unfold bA
@[simp] theorem m9 (O:au) (ns:List Int):bA O (ns.map D.int)=ns.map D.int:=mL ns
@[simp] theorem NK (b:Bool):nP (.bl b)=true:=rfl
@[simp] theorem M5 (b:Int):nP (.int b)=true:=rfl
@[simp] theorem M4 (b:Str):nP (.str b)=true:=rfl
@[simp] theorem N0 {O:au} {k:Nat} {ds:List D} (h:O[k]? =some (.lst ds)) (c:String):iC c O (.ptr k)=.ok (.bl (eX "list" c)):=by
 unfold iC tyD;simp only[h]
@[simp] theorem mO (n:Nat):∀ns:List Int,fD n (ns.map D.int)=ns.map D.int
 | []=>by simp[fD]
 | m::ns=>by simp[fD,shD,mO n ns]
@[simp] theorem nW (n:Nat) (ds:List D):shC n (.lst ds)=.lst (fD n ds):=rfl
theorem Cq{n:Nat}{m:SM}{ds:List D}{O:au}{d:D}(h:∃s,m ⟨ds.map some++List.replicate (n-ds.length) none,O⟩=.ret d s):∃O1,runM n m ds O=.ok (d,O1):=by
 obtain⟨s,h⟩:=h
 exact⟨s.o,eH h⟩
end
mutual
theorem Gj{O:au}:∀{d:D},cK d=true->res O d=d
 | .non,_=>by unfold res;rfl
 | .bl _,_=>by unfold res;rfl
 | .int _,_=>by unfold res;rfl
 | .str _,_=>by unfold res;rfl
 | .lst ds,h=>by rw[iZ,o5 (by simpa using h)]
 | .tup ds,h=>by rw[JL,o5 (by simpa using h)]
 | .ptr _,h=>by unfold cK at h;cases h
 | .obj c ns ds,h=>by unfold res;rfl
 | .exn c,h=>by unfold res;rfl
theorem o5{O:au}:∀{ds:List D},aM ds=true->bA O ds=ds
 | [],_=>ju O
 | d::ds,h=>by
  rw[fK,Bool.and_eq_true] at h
  rw[dC,Gj h.1,o5 h.2]
end
theorem C8{O:au}{k:Nat}{ds:List D}(h:O[k]? =some (.lst ds))(hp:aM ds=true)(es:List D):eqB O (.ptr k) (.lst es)=eqB O (.lst ds) (.lst es):=by
 show fS O _ _=fS O _ _
 unfold fS
 simp only[kW h,iZ,o5 hp]
@[simp] theorem N7 {O:au} {k:Nat} {ds:List D} (h:O[k]? =some (.lst ds)) (hp:aM ds=true) (es:List D):eqD O (.ptr k) (.lst es)=eqD O (.lst ds) (.lst es):=by unfold eqD;rw[C8 h hp]
@[simp] theorem Oe {O:au} {k:Nat} {ds:List D} (h:O[k]? =some (.lst ds)) (hp:aM ds=true) (es:List D):neD O (.ptr k) (.lst es)=neD O (.lst ds) (.lst es):=by unfold neD;rw[C8 h hp]
end M
set_option maxRecDepth 100000
set_option maxHeartbeats 4000000
namespace M
open PySem PySem.Spec PyProof.Rows L2
theorem rk{ok:au->Prop}{g:GM}{body:SM}(P:S->Prop)(hok:∀s,P s->ok s.o):∀(ds:List D),
 (∀d∈ds,∀s,P s->∃s1 s2,g d s=.ok s1/\(body s1=.next s2\/body s1=.cnt s2)/\P s2)->∀s,P s->∃s',cS ok g body ds s=.next s'/\P s'
 | [],_,s,h=>⟨s,by rw[cS,if_pos (hok _ h)],h⟩
 | d::ds,step,s,h=>by
  obtain⟨s1,s2,e1,e2,h2⟩:=step d List.mem_cons_self s h
  obtain⟨s',e3,h3⟩:=rk P hok ds (λd hd=>step d (List.mem_cons_of_mem _ hd)) s2 h2
  refine⟨s', ?_,h3⟩
  rw[cS,if_pos (hok _ h),e1,ki]
  rcases e2 with e2 | e2 <;> (rw[e2];exact e3)
theorem dW{ok:au->Prop}{g:GM}{body:SM}(P:List D->S->Prop)(hok:∀pre s,P pre s->ok s.o):∀(ds pre:List D),
 (∀pre' d rest,pre++ds=pre'++d::rest->∀s,P pre' s->∃s1 s2,g d s=.ok s1/\(body s1=.next s2\/body s1=.cnt s2)/\P (pre'++[d]) s2)->∀s,P pre s->∃s',cS ok g body ds s=.next s'/\P (pre++ds) s'
 | [],pre,_,s,h=>⟨s,by rw[cS,if_pos (hok _ _ h)],by simpa using h⟩
 | d::ds,pre,step,s,h=>by
  obtain⟨s1,s2,e1,e2,h2⟩:=step pre d ds rfl s h
  obtain⟨s',e3,h3⟩:=dW P hok ds (pre++[d]) (λpre' d' rest e=>step pre' d' rest (by simpa using e)) s2 h2
  refine⟨s', ?_,by simpa using h3⟩
  rw[cS,if_pos (hok _ _ h),e1,ki]
  rcases e2 with e2 | e2 <;> (rw[e2];exact e3)
theorem dg{im:IM}{g:GM}{body:SM}{s s1:S}{ds:List D}{k:Option Nat}(h:im s=.ok ((ds,k),s1)):eR im g body s=cS (okC ds k) g body ds s1:=by rw[JS,h,ki]
theorem ee{m:AM}{s s1:S}{n:Nat}(h:m s=.ok ([.int (n:Int)],s1))(hn:n<=1000000):cY m s=.ok ((dZ 0 (n:Int),none),s1):=by
 show (m s).bind _=_
 rw[h,aj]
 dsimp only
 rw[if_pos (by constructor <;> omega)]
section
variable {O : au}
@[simp] theorem OY (d:D) (ds:List D):ixD O (.tup (d::ds)) (.int 0)=.ok d:=CB (by rw[oQ (by decide) (by simp)];rfl)
@[simp] theorem OV (d e:D) (ds:List D):ixD O (.tup (d::e::ds)) (.int 1)=.ok e:=CB (by rw[oQ (by decide) (by simp;omega)];rfl)
@[simp] theorem OX (d:D) (ds:List D):ixD O (.lst (d::ds)) (.int 0)=.ok d:=nR (by rw[oQ (by decide) (by simp)];rfl)
@[simp] theorem OW (d e:D) (ds:List D):ixD O (.lst (d::e::ds)) (.int 1)=.ok e:=nR (by rw[oQ (by decide) (by simp;omega)];rfl)
theorem su(ns:List Int):SeqAt.shaped (.tuple (ns.map PyData.int))=true:=by
 simp[SeqAt.shaped,PyData.canLay0,mz,PyData.depth,nG]
theorem xr(ns ms:List Int):eqB O (.tup (ns.map D.int)) (.tup (ms.map D.int))=some (decide (ns=ms)):=by
 show fS O _ _=_
 unfold fS
 simp only[res,mL,toPy,nF,Option.map_some]
 rw[if_pos ⟨su ns,su ms⟩]
 simp only[PyData.eqv,qB]
@[simp] theorem OA (a b c d:Int):eqD O (.tup [.int a,.int b]) (.tup [.int c,.int d])=.ok (.bl (decide (a=c/\b=d))):=by
 have:=xr (O:=O) [a,b] [c,d]
 unfold eqD
 rw[show eqB O (.tup [.int a,.int b]) (.tup [.int c,.int d])=_ from this]
 simp
@[simp] theorem Ov (a b c d:Int):neD O (.tup [.int a,.int b]) (.tup [.int c,.int d])=.ok (.bl (!decide (a=c/\b=d))):=by
 have:=xr (O:=O) [a,b] [c,d]
 unfold neD
 rw[show eqB O (.tup [.int a,.int b]) (.tup [.int c,.int d])=_ from this]
 simp
end
theorem Sz.sub{m n:Nat}{i j:Int}(h:Sz m i)(h':Sz n j):Sz (max m n+1) (i-j):=by
 rw[Int.sub_eq_add_neg]
 refine Sz.add h ?_
 unfold Sz at *
 rw[Int.natAbs_neg];exact h'
theorem Sz.neg{m:Nat}{i:Int}(h:Sz m i):Sz m (-i):=by
 unfold Sz at *
 rw[Int.natAbs_neg];exact h
end M
set_option maxRecDepth 100000
set_option maxHeartbeats 4000000
namespace M
def aV:Nat->(Nat->Int)->Int
 | 0,_=>0
 | n+1,f=>aV n f+f n
theorem bJ{n:Nat}{f g:Nat->Int}(h:∀i,i<n->f i=g i):aV n f=aV n g:=by
 induction n with
 | zero=>rfl
 | succ n ih=>rw[aV,aV,ih λi hi=>h i (by omega),h n (by omega)]
theorem eO{n:Nat}{f:Nat->Int}(h:∀i,i<n->f i=0):aV n f=0:=by
 induction n with
 | zero=>rfl
 | succ n ih=>rw[aV,ih λi hi=>h i (by omega),h n (by omega)];rfl
theorem qP(n:Nat)(f g:Nat->Int):aV n (λi=>f i+g i)=aV n f+aV n g:=by
 induction n with
 | zero=>rfl
 | succ n ih=>simp only[aV,ih];omega
theorem d9(n:Nat)(c:Int)(f:Nat->Int):aV n (λi=>c*f i)=c*aV n f:=by
 induction n with
 | zero=>simp[aV]
 | succ n ih=>simp only[aV,ih,Int.mul_add]
theorem kJ{n k:Nat}(hk:k<n){f:Nat->Int}(h:∀i,i<n->i≠k->f i=0):aV n f=f k:=by
 induction n with
 | zero=>omega
 | succ n ih=>
  rw[aV]
  by_cases e:k=n
  ·subst e
   rw[eO λi hi=>h i (by omega) (by omega)]
   omega
  ·rw[ih (by omega) λi hi=>h i (by omega),h n (by omega) (by omega)]
   omega
def nth(r:List Int)(i:Nat):Int:=r.getD i 0
def du(n:Nat)(r:List Int)(x:Nat->Int):Int:=aV n λi=>nth r i*x i
def eI(n:Nat)(R:List (List Int))(x:Nat->Int):Prop:=∀r∈R,du n r x=0
def low(ns:List Int):List Int:=if cG ns=0 then ns else ns.map (· / (cG ns:Int))
theorem low_length(ns:List Int):(low ns).length=ns.length:=by unfold low;split <;> simp
theorem kP{f:Int->Int}(h0:f 0=0)(r:List Int)(i:Nat):nth (r.map f) i=f (nth r i):=by
 unfold nth
 rw[List.getD_eq_getElem?_getD,List.getD_eq_getElem?_getD,List.getElem?_map]
 cases r[i]? with
 | none=>exact h0.symm
 | some a=>rfl
theorem wg{r:List Int}{i:Nat}(h:i<r.length):nth r i∈r:=by
 unfold nth
 rw[List.getD_eq_getElem?_getD,List.getElem?_eq_getElem h]
 exact List.getElem_mem h
theorem iq{r:List Int}{i:Nat}(h:r.length<=i):nth r i=0:=by
 unfold nth
 rw[List.getD_eq_getElem?_getD,List.getElem?_eq_none h]
 rfl
theorem oP(r:List Int)(i:Nat):((cG r:Nat):Int) ∣ nth r i:=by
 by_cases h:i<r.length
 ·exact zL (wg h)
 ·rw[iq (by omega)];exact Int.dvd_zero _
def vB(r:List Int):Int:=if cG r=0 then 1 else (cG r:Int)
theorem o6(r:List Int):0<vB r:=by unfold vB;split <;> omega
theorem pP(r:List Int)(i:Nat):nth r i=vB r*nth (low r) i:=by
 unfold low vB
 split
 ·omega
 ·rw[kP (by simp),Int.mul_ediv_cancel' (oP r i)]
theorem yN{r:List Int}(h:cG r=0)(i:Nat):nth r i=0:=by
 have:=oP r i
 rw[h] at this
 simpa using this
theorem CD{r:List Int}{i:Nat}(h:nth r i≠0):cG (low r)=1:=by
 have h0:cG r≠0:=λe=>h (yN e i)
 unfold low
 rw[if_neg h0]
 exact HN (Nat.pos_of_ne_zero h0)
def kC(one:List Int)(v:Int)(other:List Int)(w:Int):List Int:=List.zipWith (λa b=>a*w-b*v) one other
def dh(one:List Int)(v:Int)(other:List Int)(w:Int):List Int:=low (kC one v other w)
theorem ph{one other:List Int}(h:one.length=other.length)(v w:Int):(kC one v other w).length=one.length:=by
 unfold kC;rw[List.length_zipWith,<- h,Nat.min_self]
theorem A7{one other:List Int}(h:one.length=other.length)(v w:Int)(i:Nat):nth (kC one v other w) i=nth one i*w-nth other i*v:=by
 by_cases hi:i<one.length
 ·unfold kC nth
  simp only[List.getD_eq_getElem?_getD,List.getElem?_zipWith,List.getElem?_eq_getElem hi,List.getElem?_eq_getElem (h▸hi:i<other.length)]
  rfl
 ·rw[iq (by rw[ph h];omega),iq (r:=one) (by omega),iq (r:=other) (by omega)]
  simp
theorem mF{one other:List Int}(h:one.length=other.length)(v w:Int):(dh one v other w).length=one.length:=by
 unfold dh;rw[low_length,ph h]
theorem qD{one other:List Int}(h:one.length=other.length)(v w:Int):∃g:Int,0<g/\∀i,g*nth (dh one v other w) i=nth one i*w-nth other i*v:=by
 refine⟨vB (kC one v other w),o6 _,λi=> ?_⟩
 unfold dh
 rw[<- pP,A7 h]
theorem zu{n:Nat}{a b c:List Int}{g u v:Int}(h:∀i,g*nth c i=u*nth a i+v*nth b i)(x:Nat->Int):g*du n c x=u*du n a x+v*du n b x:=by
 unfold du
 rw[<- d9,<- d9,<- d9,<- qP]
 refine bJ λi _=> ?_
 have:=h i
 grind
theorem qg{n:Nat}{a c:List Int}{g:Int}(h:∀i,nth a i=g*nth c i)(x:Nat->Int):du n a x=g*du n c x:=by
 unfold du
 rw[<- d9]
 refine bJ λi _=> ?_
 rw[h i,Int.mul_assoc]
theorem uM{n:Nat}{one other:List Int}(h:one.length=other.length)(v w:Int)(x:Nat->Int):∃g:Int,0<g/\g*du n (dh one v other w) x=w*du n one x-v*du n other x:=by
 obtain⟨g,hg,e⟩:=qD h v w
 refine⟨g,hg, ?_⟩
 have:=zu (n:=n) (c:=dh one v other w) (a:=one) (b:=other) (g:=g) (u:=w) (v:= -v) (λi=>by rw[e i];grind) x
 rw[this];grind
theorem uW(n:Nat)(r:List Int)(x:Nat->Int):du n (low r) x=0↔du n r x=0:=by
 rw[qg (λi=>pP r i) x]
 have:=o6 r
 constructor
 ·intro h;rw[h];simp
 ·intro h
  rcases Int.mul_eq_zero.mp h with z | z
  ·omega
  ·exact z
end M
set_option maxRecDepth 100000
set_option maxHeartbeats 4000000
namespace M
def kX:List Int->Option Nat
 | []=>none
 | a::r=>if a≠0 then some 0 else (kX r).map (· + 1)
theorem oM:∀{l:List Int},kX l=none->∀a∈l,a=0
 | [],_,_,h=>by simp at h
 | b::r,e,a,h=>by
  unfold kX at e
  split at e
  ·cases e
  ·rename_i hb
   rcases List.mem_cons.mp h with rfl | h
   ·simpa using hb
   ·exact oM (by simpa using e) a h
theorem jD:∀{l:List Int} {k:Nat},kX l=some k->k<l.length/\nth l k≠0/\∀i,i<k->nth l i=0
 | [],_,e=>by cases e
 | b::r,k,e=>by
  unfold kX at e
  split at e
  ·rename_i hb
   cases e
   exact⟨by simp,hb,λi hi=>by omega⟩
  ·rename_i hb
   cases e2:kX r with
   | none=>rw[e2] at e;cases e
   | some j=>
    rw[e2] at e
    cases e
    obtain⟨h1,h2,h3⟩:=jD e2
    refine⟨by simp;omega,by simpa[nth] using h2,λi hi=> ?_⟩
    cases i with
    | zero=>simpa[nth] using hb
    | succ i=>simpa[nth] using h3 i (Nat.lt_of_succ_lt_succ hi)
def jx(row:List Int)(at_:Nat):List Int:=if nth row at_>0 then row else row.map (- ·)
def fP(lead:List Int)(at_:Nat)(row:List Int):List Int:=if nth row at_=0 then row else dh row (nth row at_) lead (nth lead at_)
def dD(s:List (List Int)×List (List Int))(at_:Nat):List (List Int)×List (List Int):=
 match kX (s.1.map (nth · at_)) with
 | none=>s
 | some k=>((s.1.eraseIdx k).map (fP (jx (s.1.getD k []) at_) at_),s.2.map (fP (jx (s.1.getD k []) at_) at_)++[jx (s.1.getD k []) at_])
def bO(rows:List (List Int))(n:Nat):List (List Int):=((List.range n).foldl dD (rows.map low,[])).2
structure Good(n:Nat)(p:Nat×List Int):Prop where
 len:p.2.length=n
 lt:p.1<n
 pos:0<nth p.2 p.1
 zero:∀i,i<p.1->nth p.2 i=0
 one:cG p.2=1
structure Pl(n:Nat)(P:List (Nat×List Int)):Prop where
 good:∀p∈P,Good n p
 pw:P.Pairwise λp q=>p.1<q.1/\nth p.2 q.1=0
def rH(r:List Int):Prop:=∀i,nth r i≠0->cG r=1
theorem qa(r:List Int):rH (low r):=λi h=>CD (i:=i) λz=>by
 have:=pP r i
 rw[z] at this
 rcases Int.mul_eq_zero.mp this.symm with q | q
 ·have:=o6 r;omega
 ·exact h q
theorem GB(r:List Int):cG (r.map (- ·))=cG r:=by
 unfold cG
 have:∀(l:List Int) (c:Nat),(l.map (- ·)).foldl (λc n=>Nat.gcd c n.natAbs) c=l.foldl (λc n=>Nat.gcd c n.natAbs) c:=by
  intro l
  induction l with
  | nil=>intro c;rfl
  | cons a l ih=>intro c;simp only[List.map_cons,List.foldl_cons,Int.natAbs_neg];exact ih _
 exact this r 0
theorem BR(row:List Int)(a:Nat):(jx row a).length=row.length:=by unfold jx;split <;> simp
theorem zR(row:List Int)(a:Nat):∃g:Int,(g=1\/g= -1)/\∀i,nth (jx row a) i=g*nth row i:=by
 unfold jx
 split
 ·exact⟨1,.inl rfl,λi=>by omega⟩
 ·exact⟨-1,.inr rfl,λi=>by rw[kP (by simp)];omega⟩
theorem EW{row:List Int}{a:Nat}(h:rH row):rH (jx row a):=by
 unfold jx
 split
 ·exact h
 ·intro i hi
  rw[GB]
  refine h i λz=>hi ?_
  rw[kP (by simp),z];rfl
theorem FY{row:List Int}{a:Nat}(h:nth row a≠0):0<nth (jx row a) a:=by
 unfold jx
 split
 ·assumption
 ·rw[kP (by simp)];omega
theorem JY(n:Nat)(row:List Int)(a:Nat)(x:Nat->Int):du n (jx row a) x=0↔du n row x=0:=by
 obtain⟨g,hg,e⟩:=zR row a
 have:=qg (n:=n) (a:=jx row a) (c:=row) e x
 rw[this]
 rcases hg with rfl | rfl <;> omega
section
variable {lead row : List Int} {a : Nat}
theorem t4(h:row.length=lead.length):(fP lead a row).length=row.length:=by
 unfold fP;split
 ·rfl
 ·exact mF h _ _
theorem uH(hl:0<nth lead a)(h:row.length=lead.length):∃g u:Int,0<g/\0<u/\∃v:Int,(nth row a=0->v=0)/\∀i,g*nth (fP lead a row) i=u*nth row i-v*nth lead i:=by
 unfold fP
 split
 ·exact⟨1,1,by omega,by omega,0,λ_=>rfl,λi=>by omega⟩
 ·rename_i hz
  obtain⟨g,hg,e⟩:=qD h (nth row a) (nth lead a)
  exact⟨g,nth lead a,hg,hl,nth row a,λz=>absurd z hz,λi=>by rw[e i];grind⟩
theorem Ci(hl:0<nth lead a)(h:row.length=lead.length):nth (fP lead a row) a=0:=by
 unfold fP
 split
 ·assumption
 ·obtain⟨g,hg,e⟩:=qD h (nth row a) (nth lead a)
  have:=e a
  have:g*nth (dh row (nth row a) lead (nth lead a)) a=0:=by rw[this];grind
  rcases Int.mul_eq_zero.mp this with z | z
  ·omega
  ·exact z
theorem wW(h:rH row):rH (fP lead a row):=by
 unfold fP
 split
 ·exact h
 ·exact qa _
theorem rT(hl:0<nth lead a)(h:row.length=lead.length){i:Nat}(h1:nth row i=0)(h2:nth lead i=0):nth (fP lead a row) i=0:=by
 obtain⟨g,u,hg,hu,v,_,e⟩:=uH hl h
 have:=e i
 rw[h1,h2] at this
 have:g*nth (fP lead a row) i=0:=by rw[this];grind
 rcases Int.mul_eq_zero.mp this with z | z
 ·omega
 ·exact z
theorem HU(hl:0<nth lead a)(h:row.length=lead.length){i:Nat}(h1:0<nth row i)(h2:nth lead i=0):0<nth (fP lead a row) i:=by
 obtain⟨g,u,hg,hu,v,_,e⟩:=uH hl h
 have e':=e i
 rw[h2] at e'
 have:0<g*nth (fP lead a row) i:=by
  rw[e']
  have:=Int.mul_pos hu h1
  omega
 by_cases hn:nth (fP lead a row) i<=0
 ·have:=Int.mul_nonpos_of_nonneg_of_nonpos (show 0<=g by omega) hn
  omega
 ·omega
theorem tO(n:Nat)(hl:0<nth lead a)(h:row.length=lead.length){x:Nat->Int}(hx:du n lead x=0):du n (fP lead a row) x=0↔du n row x=0:=by
 obtain⟨g,u,hg,hu,v,_,e⟩:=uH hl h
 have:=zu (n:=n) (c:=fP lead a row) (a:=row) (b:=lead) (g:=g) (u:=u) (v:= -v) (λi=>by rw[e i];grind) x
 rw[hx] at this
 constructor
 ·intro z
  rw[z] at this
  have:u*du n row x=0:=by omega
  rcases Int.mul_eq_zero.mp this with q | q
  ·omega
  ·exact q
 ·intro z
  rw[z] at this
  have:g*du n (fP lead a row) x=0:=by omega
  rcases Int.mul_eq_zero.mp this with q | q
  ·omega
  ·exact q
end
structure PSt(n a:Nat)(left:List (List Int))(P:List (Nat×List Int)):Prop where
 ll:∀r∈left,r.length=n
 lz:∀r∈left,∀i,i<a->nth r i=0
 lw:∀r∈left,rH r
 pl:Pl n P
 pa:∀p∈P,p.1<a
theorem pe(left:List (List Int))(a k:Nat):nth (left.map (nth · a)) k=nth (left.getD k []) a:=by
 unfold nth
 simp only[List.getD_eq_getElem?_getD,List.getElem?_map]
 cases left[k]? with
 | none=>rfl
 | some r=>rfl
theorem getD_mem{left:List (List Int)}{k:Nat}(h:k<left.length):left.getD k []∈left:=by
 rw[List.getD_eq_getElem?_getD,List.getElem?_eq_getElem h]
 exact List.getElem_mem h
theorem qI:∀{l:List (List Int)} {k:Nat} (h:k<l.length),l.Perm (l[k]::l.eraseIdx k)
 | [],k,h=>by simp at h
 | a::l,0,h=>by simp
 | a::l,k+1,h=>by
  have:=qI (l:=l) (k:=k) (by simpa using h)
  simp only[List.getElem_cons_succ,List.eraseIdx_cons_succ]
  exact(this.cons a).trans (List.Perm.swap _ _ _)
theorem JT{n a:Nat}(ha:a<n){left:List (List Int)}{P:List (Nat×List Int)}(h:PSt n a left P):
 ∃left' P',dD (left,P.map (·.2)) a=(left',P'.map (·.2))/\PSt n (a+1) left' P'/\left'.length+P'.length=left.length+P.length/\∀x,eI n (P'.map (·.2)++left') x↔eI n (P.map (·.2)++left) x:=by
 unfold dD
 dsimp only
 split
 ·rename_i e
  refine⟨left,P,rfl,⟨h.ll,λr hr i hi=> ?_,h.lw,h.pl,λp hp=>Nat.lt_succ_of_lt (h.pa p hp)⟩,rfl,λx=>Iff.rfl⟩
  by_cases hia:i=a
  ·subst hia
   exact oM e _ (List.mem_map.mpr ⟨r,hr,rfl⟩)
  ·exact h.lz r hr i (by omega)
 ·rename_i k e
  obtain⟨k1,k2,_⟩:=jD e
  rw[List.length_map] at k1
  rw[pe] at k2
  have hm:left.getD k []∈left:=getD_mem k1
  have hperm:left.Perm (left.getD k []::left.eraseIdx k):=by
   rw[List.getD_eq_getElem?_getD,List.getElem?_eq_getElem k1]
   exact qI k1
  generalize left.getD k []=row at *
  generalize hld:jx row a=lead at *
  have ll:lead.length=n:=by rw[<- hld,BR];exact h.ll row hm
  have lp:0<nth lead a:=by rw[<- hld];exact FY k2
  have lz:∀i,i<a->nth lead i=0:=λi hi=>by
   obtain⟨g,_,e⟩:=zR row a
   rw[<- hld,e,h.lz row hm i hi];omega
  have lw:rH lead:=by rw[<- hld];exact EW (h.lw row hm)
  have sub:∀r∈left.eraseIdx k,r∈left:=λr hr=>List.mem_of_mem_eraseIdx hr
  refine⟨(left.eraseIdx k).map (fP lead a),P.map (λp=>(p.1,fP lead a p.2))++[(a,lead)], ?_,⟨?_, ?_, ?_,⟨?_, ?_⟩, ?_⟩, ?_, ?_⟩
  ·simp[Function.comp_def]
  ·intro r hr
   obtain⟨q,hq,rfl⟩:=List.mem_map.mp hr
   rw[t4 (by rw[ll,h.ll q (sub q hq)]),h.ll q (sub q hq)]
  ·intro r hr i hi
   obtain⟨q,hq,rfl⟩:=List.mem_map.mp hr
   have hql:q.length=lead.length:=by rw[ll,h.ll q (sub q hq)]
   by_cases hia:i=a
   ·subst hia;exact Ci lp hql
   ·exact rT lp hql (h.lz q (sub q hq) i (by omega)) (lz i (by omega))
  ·intro r hr
   obtain⟨q,hq,rfl⟩:=List.mem_map.mp hr
   exact wW (h.lw q (sub q hq))
  ·intro p hp
   rcases List.mem_append.mp hp with hp | hp
   ·obtain⟨q,hq,rfl⟩:=List.mem_map.mp hp
    have g:=h.pl.good q hq
    have hql:q.2.length=lead.length:=by rw[ll,g.len]
    have pp:=HU lp hql g.pos (lz q.1 (h.pa q hq))
    exact⟨by rw[t4 hql];exact g.len,g.lt,pp,λi hi=>rT lp hql (g.zero i hi) (lz i (Nat.lt_trans hi (h.pa q hq))),wW (λi _=>g.one) q.1 (by omega)⟩
   ·rw[List.mem_singleton.mp hp]
    exact⟨ll,ha,lp,lz,lw a (by omega)⟩
  ·rw[List.pairwise_append]
   refine⟨?_,by simp,λp hp q hq=> ?_⟩
   ·rw[List.pairwise_map]
    refine List.Pairwise.imp_of_mem (λ{p q} hp hq hpq=> ?_) h.pl.pw
    refine⟨hpq.1, ?_⟩
    have g:=h.pl.good p hp
    exact rT lp (by rw[ll,g.len]) hpq.2 (lz q.1 (h.pa q hq))
   ·obtain⟨p',hp',rfl⟩:=List.mem_map.mp hp
    rw[List.mem_singleton.mp hq]
    exact⟨h.pa p' hp',Ci lp (by rw[ll,(h.pl.good p' hp').len])⟩
  ·intro p hp
   rcases List.mem_append.mp hp with hp | hp
   ·obtain⟨q,hq,rfl⟩:=List.mem_map.mp hp
    exact Nat.lt_succ_of_lt (h.pa q hq)
   ·rw[List.mem_singleton.mp hp];exact Nat.lt_succ_self a
  ·have:=hperm.length_eq
   simp only[List.length_map,List.length_append,List.length_cons,List.length_nil] at *
   omega
  ·intro x
   have hlead:du n lead x=0↔du n row x=0:=by rw[<- hld];exact JY n row a x
   constructor
   ·intro hx r hr
    have h0:du n lead x=0:=hx lead (by simp)
    rcases List.mem_append.mp hr with hr | hr
    ·obtain⟨p,hp,rfl⟩:=List.mem_map.mp hr
     exact(tO n lp (by rw[ll,(h.pl.good p hp).len]) h0).mp (hx _ (List.mem_append_left _ (List.mem_map.mpr ⟨(p.1,fP lead a p.2),by simp;exact .inl ⟨p.1,p.2,hp,rfl,rfl⟩,rfl⟩)))
    ·rcases List.mem_cons.mp (hperm.mem_iff.mp hr) with rfl | hr
     ·exact hlead.mp h0
     ·exact(tO n lp (by rw[ll,h.ll r (sub r hr)]) h0).mp (hx _ (List.mem_append_right _ (List.mem_map.mpr ⟨r,hr,rfl⟩)))
   ·intro hx r hr
    have h0:du n lead x=0:=hlead.mpr (hx row (List.mem_append_right _ hm))
    rcases List.mem_append.mp hr with hr | hr
    ·obtain⟨q,hq,rfl⟩:=List.mem_map.mp hr
     rcases List.mem_append.mp hq with hq | hq
     ·obtain⟨p,hp,rfl⟩:=List.mem_map.mp hq
      exact(tO n lp (by rw[ll,(h.pl.good p hp).len]) h0).mpr (hx _ (List.mem_append_left _ (List.mem_map.mpr ⟨p,hp,rfl⟩)))
     ·rw[List.mem_singleton.mp hq];exact h0
    ·obtain⟨q,hq,rfl⟩:=List.mem_map.mp hr
     exact(tO n lp (by rw[ll,h.ll q (sub q hq)]) h0).mpr (hx _ (List.mem_append_right _ (sub q hq)))
theorem uV{n:Nat}{left:List (List Int)}(hl:∀r∈left,r.length=n)(hw:∀r∈left,rH r):∀a,a<=n->
 ∃left' P',(List.range a).foldl dD (left,[])=(left',P'.map (·.2))/\PSt n a left' P'/\left'.length+P'.length=left.length/\∀x,eI n (P'.map (·.2)++left') x↔eI n left x
 | 0,_=>⟨left,[],rfl,⟨hl,λ_ _ i hi=>by omega,hw,⟨by simp,by simp⟩,by simp⟩,by simp,λx=>by simp⟩
 | a+1,ha=>by
  obtain⟨l1,P1,e1,s1,c1,n1⟩:=uV hl hw a (by omega)
  obtain⟨l2,P2,e2,s2,c2,n2⟩:=JT (by omega) s1
  refine⟨l2,P2, ?_,s2,by omega,λx=>(n2 x).trans (n1 x)⟩
  rw[List.range_succ,List.foldl_append,e1]
  exact e2
theorem EF{n:Nat}{r:List Int}(h:∀i,i<n->nth r i=0)(x:Nat->Int):du n r x=0:=eO λi hi=>by rw[h i hi];omega
theorem jv{n:Nat}{rows:List (List Int)}(hl:∀r∈rows,r.length=n):∃P,bO rows n=P.map (·.2)/\Pl n P/\P.length<=rows.length/\∀x,eI n (bO rows n) x↔eI n rows x:=by
 obtain⟨l,P,e,s,c,nu⟩:=uV (n:=n) (left:=rows.map low) (λr hr=>by
  obtain⟨q,hq,rfl⟩:=List.mem_map.mp hr
  rw[low_length];exact hl q hq) (λr hr=>by
  obtain⟨q,hq,rfl⟩:=List.mem_map.mp hr
  exact qa q) n (Nat.le_refl n)
 have e':bO rows n=P.map (·.2):=by unfold bO;rw[e]
 refine⟨P,e',s.pl,by rw[List.length_map] at c;omega,λx=> ?_⟩
 rw[e']
 have n1:eI n (P.map (·.2)++l) x↔eI n (P.map (·.2)) x:=by
  constructor
  ·exact λh r hr=>h r (List.mem_append_left _ hr)
  ·intro h r hr
   rcases List.mem_append.mp hr with hr | hr
   ·exact h r hr
   ·exact EF (s.lz r hr) x
 have n2:eI n (rows.map low) x↔eI n rows x:=by
  constructor
  ·exact λh r hr=>(uW n r x).mp (h _ (List.mem_map.mpr ⟨r,hr,rfl⟩))
  ·intro h r hr
   obtain⟨q,hq,rfl⟩:=List.mem_map.mp hr
   exact(uW n q x).mpr (h q hq)
 exact n1.symm.trans ((nu x).trans n2)
end M
set_option maxRecDepth 100000
set_option maxHeartbeats 4000000
namespace M
def bQ(n:Nat)(f g:Nat->Int):Int:=aV n λi=>f i*g i
theorem cy(n:Nat)(f g:Nat->Int):bQ n f g=bQ n g f:=bJ λi _=>Int.mul_comm _ _
theorem gB(n:Nat)(r:List Int)(x:Nat->Int):du n r x=bQ n (nth r) x:=rfl
theorem zT{n:Nat}{a b c:Nat->Int}{g u v:Int}(h:∀i,i<n->g*c i=u*a i+v*b i)(x:Nat->Int):g*bQ n c x=u*bQ n a x+v*bQ n b x:=by
 unfold bQ
 rw[<- d9,<- d9,<- d9,<- qP]
 refine bJ λi hi=> ?_
 have:=h i hi
 grind
theorem xy{n:Nat}{a b:Nat->Int}{u v:Int}(x:Nat->Int):bQ n x (λi=>u*a i+v*b i)=u*bQ n x a+v*bQ n x b:=by
 rw[cy n x a,cy n x b,cy,<- zT (g:=1) (c:=λi=>u*a i+v*b i) (λi _=>by omega) x]
 omega
theorem D7{n:Nat}{a b:Nat->Int}(h:∀i,i<n->a i=b i)(x:Nat->Int):bQ n a x=bQ n b x:=bJ λi hi=>by rw[h i hi]
def dF(T:List Int)(R:List (List Int))(i:Nat):Int:=aV R.length λj=>nth T j*nth (R.getD j []) i
theorem oV(m n:Nat)(f:Nat->Nat->Int):aV m (λi=>aV n λj=>f i j)=aV n λj=>aV m λi=>f i j:=by
 induction m with
 | zero=>rw[eO (n:=n) (f:=λj=>aV 0 λi=>f i j) λ_ _=>rfl];rfl
 | succ m ih=>simp only[aV];rw[qP,ih]
theorem G6(n:Nat)(T:List Int)(R:List (List Int))(x:Nat->Int):bQ n (dF T R) x=aV R.length λj=>nth T j*du n (R.getD j []) x:=by
 unfold bQ dF
 have:∀i,(aV R.length λj=>nth T j*nth (R.getD j []) i)*x i=aV R.length λj=>nth T j*(nth (R.getD j []) i*x i):=λi=>by
  rw[Int.mul_comm,<- d9]
  refine bJ λj _=>by grind
 rw[bJ λi _=>this i,oV]
 refine bJ λj _=> ?_
 unfold du
 rw[<- d9]
theorem yc{n:Nat}{T:List Int}{R:List (List Int)}{x:Nat->Int}(h:eI n R x):bQ n (dF T R) x=0:=by
 rw[G6]
 refine eO λj hj=> ?_
 rw[h _ (getD_mem hj)]
 omega
def kM(n:Nat)(R:List (List Int))(x:Nat->Int):Prop:=∃k:Int,k≠0/\∃T:List Int,T.length=R.length/\∀i,i<n->k*x i=dF T R i
theorem kM.dot{n:Nat}{R:List (List Int)}{x y:Nat->Int}(h:kM n R x)(hy:eI n R y):bQ n x y=0:=by
 obtain⟨k,hk,T,_,e⟩:=h
 have h1:k*bQ n x y=1*bQ n (dF T R) y+0*bQ n x y:=zT (g:=k) (c:=x) (a:=dF T R) (b:=x) (u:=1) (v:=0) (λi hi=>by rw[e i hi];omega) y
 rw[yc hy] at h1
 have:k*bQ n x y=0:=by omega
 rcases Int.mul_eq_zero.mp this with z | z
 ·exact absurd z hk
 ·exact z
theorem qK{T:List Int}{R:List (List Int)}(hT:T.length=R.length)(c:Int)(r:List Int)(i:Nat):dF (T++[c]) (R++[r]) i=dF T R i+c*nth r i:=by
 unfold dF
 rw[List.length_append,List.length_singleton,aV]
 congr 1
 ·refine bJ λj hj=> ?_
  simp only[nth,List.getD_eq_getElem?_getD]
  rw[List.getElem?_append_left (by omega),List.getElem?_append_left hj]
 ·simp only[nth,List.getD_eq_getElem?_getD]
  rw[List.getElem?_append_right (by omega),List.getElem?_append_right (by omega),hT]
  simp
def fu(n a:Nat):List Int:=(List.replicate n 0).set a 1
theorem dR{n a:Nat}(ha:a<n)(i:Nat):nth (fu n a) i=if i=a then 1 else 0:=by
 unfold fu nth
 rw[List.getD_eq_getElem?_getD,List.getElem?_set]
 by_cases h:a=i
 ·subst h;simp[ha]
 ·rw[if_neg h,if_neg (λz=>h z.symm)]
  rw[List.getElem?_replicate]
  split <;> rfl
def dj(n:Nat):List (List Int):=(List.range n).map (fu n)
def aH(a b:List Int):Int:=(List.zipWith (· * ·) a b).sum
def gM(lists:List (List Int))(row:List Int):List (List Int):=
 match kX (lists.map (aH row)) with
 | none=>lists
 | some k=>(lists.eraseIdx k).map λone=>dh one (aH row one) (lists.getD k []) (aH row (lists.getD k []))
def pV(rows:List (List Int))(n:Nat):List (List Int):=rows.foldl gM (dj n)
def bu(rows:List (List Int))(n:Nat):List (List Int):=bO (pV rows n) n
theorem ze:∀(a b:List Int),aH a b=aV b.length λi=>nth a i*nth b i
 | _,[]=>by unfold aH;simp[aV]
 | [],b::r=>by
  unfold aH
  rw[eO λi _=>by unfold nth;simp]
  simp
 | a::l,b::r=>by
  have ih:=ze l r
  unfold aH at *
  rw[List.zipWith_cons_cons,List.sum_cons,ih,List.length_cons]
  have:∀(n:Nat) (f:Nat->Int),aV (n+1) f=f 0+aV n λi=>f (i+1):=by
   intro n f
   induction n with
   | zero=>simp[aV]
   | succ n ih2=>rw[aV,ih2,aV];omega
  rw[this]
  congr 1
theorem lK{n:Nat}{a b:List Int}(hb:b.length=n):aH a b=bQ n (nth a) (nth b):=by rw[ze,hb];rfl
structure SSt(n:Nat)(R lists:List (List Int)):Prop where
 len:∀l∈lists,l.length=n
 nul:∀r∈R,∀l∈lists,bQ n (nth r) (nth l)=0
 spn:∀x,eI n lists x->kM n R x
theorem HJ(n:Nat):SSt n [] (dj n):=by
 refine⟨λl hl=> ?_,λr hr=>by simp at hr,λx hx=>⟨1,by decide,[],rfl,λi hi=> ?_⟩⟩
 ·obtain⟨a,_,rfl⟩:=List.mem_map.mp hl
  unfold fu;simp
 ·have:=hx (fu n i) (List.mem_map.mpr ⟨i,List.mem_range.mpr hi,rfl⟩)
  unfold du at this
  rw[kJ hi (λj _ hj=>by rw[dR hi,if_neg hj];omega),dR hi,if_pos rfl] at this
  rw[show dF [] [] i=0 from rfl]
  omega
theorem yI{n:Nat}{R lists:List (List Int)}{row:List Int}(hr:row.length=n)(s:SSt n R lists):SSt n (R++[row]) (gM lists row):=by
 unfold gM
 split
 ·rename_i e
  have z:∀l∈lists,aH row l=0:=λl hl=>oM e _ (List.mem_map.mpr ⟨l,hl,rfl⟩)
  refine⟨s.len,λr hr' l hl=> ?_,λx hx=> ?_⟩
  ·rcases List.mem_append.mp hr' with q | q
   ·exact s.nul r q l hl
   ·rw[List.mem_singleton.mp q,<- lK (s.len l hl)];exact z l hl
  ·obtain⟨k,hk,T,hT,e⟩:=s.spn x hx
   exact⟨k,hk,T++[0],by simp[hT],λi hi=>by rw[qK hT,e i hi];omega⟩
 ·rename_i k e
  obtain⟨k1,k2,_⟩:=jD e
  rw[List.length_map] at k1
  have hm:=getD_mem k1
  have hperm:lists.Perm (lists.getD k []::lists.eraseIdx k):=by
   rw[List.getD_eq_getElem?_getD,List.getElem?_eq_getElem k1]
   exact qI k1
  have hv:nth (lists.map (aH row)) k=aH row (lists.getD k []):=by
   unfold nth
   simp only[List.getD_eq_getElem?_getD,List.getElem?_map,List.getElem?_eq_getElem k1]
   rfl
  rw[hv] at k2
  generalize lists.getD k []=base at *
  have hbl:=s.len base hm
  have sub:∀l∈lists.eraseIdx k,l∈lists:=λl hl=>List.mem_of_mem_eraseIdx hl
  refine⟨λl hl=> ?_,λr hr' l hl=> ?_,λx hx=> ?_⟩
  ·obtain⟨q,hq,rfl⟩:=List.mem_map.mp hl
   rw[mF (by rw[hbl,s.len q (sub q hq)]),s.len q (sub q hq)]
  ·obtain⟨q,hq,rfl⟩:=List.mem_map.mp hl
   have hql:=s.len q (sub q hq)
   obtain⟨g,hg,e⟩:=uM (n:=n) (one:=q) (other:=base) (by rw[hbl,hql]) (aH row q) (aH row base) (nth r)
   rw[cy]
   simp only[gB] at e
   rw[cy n (nth q),cy n (nth base)] at e
   have z:g*bQ n (nth (dh q (aH row q) base (aH row base))) (nth r)=0:=by
    rcases List.mem_append.mp hr' with q' | q'
    ·rw[e,s.nul r q' q (sub q hq),s.nul r q' base hm];omega
    ·rw[List.mem_singleton.mp q'] at e ⊢
     rw[e,<- lK hql,<- lK hbl]
     grind
   rcases Int.mul_eq_zero.mp z with z | z
   ·omega
   ·exact z
  ·have hc:∀l∈lists,aH row base*du n l x=aH row l*du n base x:=λl hl=>by
    rcases List.mem_cons.mp (hperm.mem_iff.mp hl) with rfl | hl'
    ·rfl
    ·obtain⟨g,hg,e⟩:=uM (n:=n) (one:=l) (other:=base) (by rw[hbl,s.len l hl]) (aH row l) (aH row base) x
     rw[hx _ (List.mem_map.mpr ⟨l,hl',rfl⟩)] at e
     omega
   have hx':eI n lists (λi=>aH row base*x i+(-(du n base x))*nth row i):=λl hl=>by
    rw[gB,xy,<- gB,hc l hl,cy,<- lK (s.len l hl)]
    grind
   obtain⟨k',hk',T,hT,e'⟩:=s.spn _ hx'
   refine⟨k'*aH row base,Int.mul_ne_zero hk' k2,T++[k'*du n base x],by simp[hT],λi hi=> ?_⟩
   rw[qK hT,<- e' i hi]
   grind
theorem u3{n:Nat}:∀{rows:List (List Int)},(∀r∈rows,r.length=n)->∀{R lists:List (List Int)},SSt n R lists->SSt n (R++rows) (rows.foldl gM lists)
 | [],_,R,lists,s=>by simpa using s
 | row::rows,h,R,lists,s=>by
  have:=u3 (rows:=rows) (λr hr=>h r (List.mem_cons_of_mem _ hr)) (yI (h row List.mem_cons_self) s)
  simpa using this
theorem oS{n:Nat}{rows:List (List Int)}(h:∀r∈rows,r.length=n):SSt n rows (pV rows n):=by
 have:=u3 h (HJ n)
 rw[List.nil_append] at this
 exact this
theorem lQ{n:Nat}{rows:List (List Int)}(h:∀r∈rows,r.length=n):
 ∃P,bu rows n=P.map (·.2)/\Pl n P/\(∀r∈rows,∀l∈bu rows n,bQ n (nth l) (nth r)=0)/\∀x,eI n (bu rows n) x->kM n rows x:=by
 have s:=oS h
 obtain⟨P,e,pl,_,nu⟩:=jv (n:=n) (rows:=pV rows n) s.len
 refine⟨P,e,pl,λr hr l hl=> ?_,λx hx=>s.spn x ((nu x).mp hx)⟩
 have:eI n (pV rows n) (nth r):=λl hl=>by rw[gB,cy];exact s.nul r hr l hl
 exact(nu _).mpr this l hl
theorem qE{n:Nat}{rows:List (List Int)}(h:∀r∈rows,r.length=n)(x:Nat->Int):eI n (bu rows n) x↔kM n rows x:=by
 obtain⟨P,_,_,h1,h2⟩:=lQ h
 refine⟨h2 x,λs l hl=> ?_⟩
 rw[gB,cy]
 exact s.dot λr hr=>by rw[gB,cy];exact h1 r hr l hl
end M
set_option maxRecDepth 100000
set_option maxHeartbeats 4000000
namespace M
theorem FT(n:Nat)(f:Nat->Int):aV (n+1) f=f 0+aV n λi=>f (i+1):=by
 induction n with
 | zero=>simp[aV]
 | succ n ih=>rw[aV,ih,aV];omega
def ie(P:List (Nat×List Int)):Int:=(P.map λp=>nth p.2 p.1).foldr (· * ·) 1
theorem vE:∀{P:List (Nat×List Int)},(∀p∈P,0<nth p.2 p.1)->0<ie P
 | [],_=>by decide
 | p::P,h=>Int.mul_pos (h p List.mem_cons_self) (vE λq hq=>h q (List.mem_cons_of_mem _ hq))
theorem qu:∀{P:List (Nat×List Int)} {p:Nat×List Int},p∈P->nth p.2 p.1 ∣ ie P
 | q::P,p,h=>by
  rcases List.mem_cons.mp h with rfl | h
  ·exact Int.dvd_mul_right _ _
  ·exact Int.dvd_trans (qu h) (Int.dvd_mul_left _ _)
def qd(P:List (Nat×List Int))(L:Int)(f i:Nat):Int:=(P.map λp=>if i=p.1 then nth p.2 f*(L/nth p.2 p.1) else 0).sum
def ir(P:List (Nat×List Int))(f i:Nat):Int:=(if i=f then ie P else 0)-qd P (ie P) f i
theorem jE{L:Int}{f i:Nat}:∀{P:List (Nat×List Int)},(∀p∈P,p.1≠i)->qd P L f i=0
 | [],_=>rfl
 | p::P,h=>by
  unfold qd
  rw[List.map_cons,List.sum_cons,if_neg (λz=>h p List.mem_cons_self z.symm)]
  have:=jE (L:=L) (f:=f) (i:=i) (P:=P) λq hq=>h q (List.mem_cons_of_mem _ hq)
  unfold qd at this
  omega
theorem u1{L:Int}{f:Nat}:∀{P:List (Nat×List Int)} {p:Nat×List Int},P.Pairwise (λp q=>p.1<q.1/\nth p.2 q.1=0)->p∈P->qd P L f p.1=nth p.2 f*(L/nth p.2 p.1)
 | q::P,p,pw,h=>by
  have h0:=List.pairwise_cons.mp pw
  rcases List.mem_cons.mp h with rfl | hp'
  ·have:=jE (L:=L) (f:=f) (i:=p.1) (P:=P) λr hr=>by have:=(h0.1 r hr).1;omega
   unfold qd at *
   rw[List.map_cons,List.sum_cons,if_pos rfl,this]
   omega
  ·have ih:=u1 (L:=L) (f:=f) h0.2 hp'
   have:=(h0.1 p hp').1
   unfold qd at *
   rw[List.map_cons,List.sum_cons,if_neg (by omega),ih]
   omega
theorem Pl.other{n:Nat}{P:List (Nat×List Int)}(pl:Pl n P):∀{p q:Nat×List Int},p∈P->q∈P->p.1≠q.1->nth p.2 q.1=0:=by
 intro p q hp hq hne
 by_cases h:q.1<p.1
 ·exact(pl.good p hp).zero _ h
 ·have:∀{P:List (Nat×List Int)},P.Pairwise (λp q=>p.1<q.1/\nth p.2 q.1=0)->p∈P->q∈P->p.1<q.1->nth p.2 q.1=0:=by
   intro P pw hp hq hlt
   induction P with
   | nil=>cases hp
   | cons r P ih=>
    have h0:=List.pairwise_cons.mp pw
    rcases List.mem_cons.mp hp with rfl | hp
    ·rcases List.mem_cons.mp hq with rfl | hq
     ·omega
     ·exact(h0.1 q hq).2
    ·rcases List.mem_cons.mp hq with rfl | hq
     ·have:=(h0.1 p (by assumption)).1;omega
     ·exact ih h0.2 hp hq
  exact this pl.pw hp hq (by omega)
theorem Hn{n f c:Nat}(hf:f<n)(hc:c<n)(hne:f≠c){g:Nat->Int}(h:∀i,i<n->i≠f->i≠c->g i=0):aV n g=g f+g c:=by
 have:aV n g=aV n (λi=>if i=f then g f else 0)+aV n (λi=>if i=c then g c else 0):=by
  rw[<- qP]
  refine bJ λi hi=> ?_
  by_cases h1:i=f
  ·subst h1;rw[if_pos rfl,if_neg hne];omega
  ·by_cases h2:i=c
   ·subst h2;rw[if_neg h1,if_pos rfl];omega
   ·rw[if_neg h1,if_neg h2,h i hi h1 h2];rfl
 rw[this,kJ hf (λi _ hi=>by rw[if_neg hi]),kJ hc (λi _ hi=>by rw[if_neg hi]),if_pos rfl,if_pos rfl]
theorem xx{n:Nat}{P:List (Nat×List Int)}(pl:Pl n P){f:Nat}(hf:f<n)(hfree:∀p∈P,p.1≠f){p:Nat×List Int}(hp:p∈P){r:List Int}(hr:∀q∈P,q.1≠p.1->nth r q.1=0):
 du n r (ir P f)=nth r f*ie P-nth r p.1*(nth p.2 f*(ie P/nth p.2 p.1)):=by
 unfold du
 rw[Hn hf (pl.good p hp).lt (λz=>hfree p hp z.symm) (λi _ h1 h2=> ?_)]
 ·have e1:ir P f f=ie P:=by
   unfold ir;rw[if_pos rfl,jE hfree];omega
  have e2:ir P f p.1= -(nth p.2 f*(ie P/nth p.2 p.1)):=by
   unfold ir;rw[if_neg (hfree p hp),u1 pl.pw hp];omega
  rw[e1,e2];grind
 ·by_cases hq:∃q∈P,q.1=i
  ·obtain⟨q,hq,rfl⟩:=hq
   rw[hr q hq h2];omega
  ·have:ir P f i=0:=by
    unfold ir
    rw[if_neg h1,jE λq hq' z=>hq ⟨q,hq',z⟩];rfl
   rw[this];omega
theorem qb{n:Nat}{P:List (Nat×List Int)}(pl:Pl n P){f:Nat}(hf:f<n)(hfree:∀p∈P,p.1≠f):eI n (P.map (·.2)) (ir P f):=by
 intro r hr
 obtain⟨p,hp,rfl⟩:=List.mem_map.mp hr
 rw[xx pl hf hfree hp λq hq h=>pl.other hp hq λz=>h z.symm]
 have hd:=qu hp
 have hpos:=(pl.good p hp).pos
 obtain⟨k,hk⟩:=hd
 have:ie P/nth p.2 p.1=k:=by rw[hk,Int.mul_ediv_cancel_left _ (by omega)]
 rw[this,hk];grind
theorem D3{n:Nat}{P:List (Nat×List Int)}(pl:Pl n P){f:Nat}(hfree:∀p∈P,p.1≠f){i:Nat}(hi:f<i):ir P f i=0:=by
 unfold ir
 rw[if_neg (by omega)]
 by_cases hq:∃q∈P,q.1=i
 ·obtain⟨q,hq,rfl⟩:=hq
  rw[u1 pl.pw hq,(pl.good q hq).zero f hi];omega
 ·rw[jE λq hq' z=>hq ⟨q,hq',z⟩];rfl
theorem Pl.leads_pos{n:Nat}{P:List (Nat×List Int)}(pl:Pl n P):0<ie P:=vE λp hp=>(pl.good p hp).pos
theorem tR{n:Nat}{P Q:List (Nat×List Int)}(pl:Pl n P)(ql:Pl n Q)(h:∀x,eI n (Q.map (·.2)) x->eI n (P.map (·.2)) x){p:Nat×List Int}(hp:p∈P):∃q∈Q,q.1=p.1:=by
 apply Classical.byContradiction
 intro hn
 have hfree:∀q∈Q,q.1≠p.1:=λq hq z=>hn ⟨q,hq,z⟩
 have g:=pl.good p hp
 have:=h _ (qb ql g.lt hfree) p.2 (List.mem_map.mpr ⟨p,hp,rfl⟩)
 unfold du at this
 rw[kJ g.lt λi _ hi=> ?_] at this
 ·have e:ir Q p.1 p.1=ie Q:=by unfold ir;rw[if_pos rfl,jE hfree];omega
  rw[e] at this
  have h1:=ql.leads_pos
  have h2:=g.pos
  have:=Int.mul_pos h2 h1
  omega
 ·by_cases hlt:i<p.1
  ·rw[g.zero i hlt];omega
  ·rw[D3 ql hfree (by omega)];omega
theorem wV:∀{l m:List Nat},l.Pairwise (· < ·)->m.Pairwise (· < ·)->(∀x,x∈l↔x∈m)->l=m
 | [],[],_,_,_=>rfl
 | [],b::m,_,_,h=>by have:=(h b).mpr List.mem_cons_self;cases this
 | a::l,[],_,_,h=>by have:=(h a).mp List.mem_cons_self;cases this
 | a::l,b::m,hl,hm,h=>by
  have h1:=List.pairwise_cons.mp hl
  have h2:=List.pairwise_cons.mp hm
  have hab:a=b:=by
   rcases List.mem_cons.mp ((h a).mp List.mem_cons_self) with e | e
   ·exact e
   ·rcases List.mem_cons.mp ((h b).mpr List.mem_cons_self) with e' | e'
    ·exact e'.symm
    ·have:=h1.1 b e';have:=h2.1 a e;omega
  subst hab
  congr 1
  refine wV h1.2 h2.2 λx=>⟨λhx=> ?_,λhx=> ?_⟩
  ·rcases List.mem_cons.mp ((h x).mp (List.mem_cons_of_mem _ hx)) with e | e
   ·have:=h1.1 x hx;omega
   ·exact e
  ·rcases List.mem_cons.mp ((h x).mpr (List.mem_cons_of_mem _ hx)) with e | e
   ·have:=h2.1 x hx;omega
   ·exact e
theorem Bf(a:Int)(r:List Int):cG (r.map (a * ·))=a.natAbs*cG r:=by
 unfold cG
 have:∀(l:List Int) (c:Nat),(l.map (a * ·)).foldl (λc n=>Nat.gcd c n.natAbs) (a.natAbs*c)=a.natAbs*l.foldl (λc n=>Nat.gcd c n.natAbs) c:=by
  intro l
  induction l with
  | nil=>intro c;rfl
  | cons b l ih=>intro c;simp only[List.map_cons,List.foldl_cons,Int.natAbs_mul,Nat.gcd_mul_left];exact ih _
 exact this r 0
theorem oJ{r s:List Int}(hl:r.length=s.length)(h:∀i,i<r.length->nth r i=nth s i):r=s:=by
 refine List.ext_getElem hl λi h1 h2=> ?_
 have:=h i h1
 unfold nth at this
 simpa[List.getD_eq_getElem?_getD,h1,h2] using this
theorem CC{r s:List Int}(hl:r.length=s.length)(h1:cG r=1)(h2:cG s=1){a b:Int}(ha:0<a)(hb:0<b)(h:∀i,i<r.length->a*nth r i=b*nth s i):r=s:=by
 have e:r.map (a * ·)=s.map (b * ·):=oJ (by simp[hl]) λi hi=>by
  rw[kP (by simp),kP (by simp)];exact h i (by simpa using hi)
 have e2:=Bf a r
 rw[e,Bf,h1,h2] at e2
 have hab:a=b:=by omega
 subst hab
 exact oJ hl λi hi=>Int.eq_of_mul_eq_mul_left (by omega) (h i hi)
theorem DO{n:Nat}{P Q:List (Nat×List Int)}(pl:Pl n P)(ql:Pl n Q)(h:∀x,eI n (P.map (·.2)) x↔eI n (Q.map (·.2)) x):P=Q:=by
 have hf:P.map (·.1)=Q.map (·.1):=by
  refine wV (List.pairwise_map.mpr (pl.pw.imp λh=>h.1)) (List.pairwise_map.mpr (ql.pw.imp λh=>h.1)) λx=>⟨λhx=> ?_,λhx=> ?_⟩
  ·obtain⟨p,hp,rfl⟩:=List.mem_map.mp hx
   obtain⟨q,hq,e⟩:=tR pl ql (λx=>(h x).mpr) hp
   exact List.mem_map.mpr ⟨q,hq,e⟩
  ·obtain⟨p,hp,rfl⟩:=List.mem_map.mp hx
   obtain⟨q,hq,e⟩:=tR ql pl (λx=>(h x).mp) hp
   exact List.mem_map.mpr ⟨q,hq,e⟩
 have key:∀p∈P,∀q∈Q,p.1=q.1->p.2=q.2:=λp hp q hq hpq=>by
  have gp:=pl.good p hp
  have gq:=ql.good q hq
  refine CC (by rw[gp.len,gq.len]) gp.one gq.one (a:=nth q.2 q.1) (b:=nth p.2 p.1) gq.pos gp.pos λi hi=> ?_
  by_cases hpiv:∃p'∈P,p'.1=i
  ·obtain⟨p',hp',rfl⟩:=hpiv
   by_cases hc:p'.1=p.1
   ·rw[hc,<- hpq];grind
   ·obtain⟨q',hq',e⟩:=tR pl ql (λx=>(h x).mpr) hp'
    rw[pl.other hp hp' (λz=>hc z.symm),<- e,ql.other hq hq' (by omega)];omega
  ·have hfree:∀p∈P,p.1≠i:=λp' hp' z=>hpiv ⟨p',hp',z⟩
   have hi':i<n:=by rw[gp.len] at hi;exact hi
   have:=(h _).mp (qb pl hi' hfree) q.2 (List.mem_map.mpr ⟨q,hq,rfl⟩)
   rw[xx pl hi' hfree hp (r:=q.2) λp' hp' hne=>by
    obtain⟨q',hq',e⟩:=tR pl ql (λx=>(h x).mpr) hp'
    rw[<- e];exact ql.other hq hq' (by omega)] at this
   obtain⟨k,hk⟩:=qu hp
   have hpos:=gp.pos
   have e1:ie P/nth p.2 p.1=k:=by rw[hk,Int.mul_ediv_cancel_left _ (by omega)]
   have hk0:k≠0:=λz=>by have:=pl.leads_pos;rw[hk,z] at this;omega
   rw[e1,hk,hpq] at this
   have:k*(nth q.2 q.1*nth p.2 i-nth p.2 p.1*nth q.2 i)=0:=by rw[hpq];grind
   rcases Int.mul_eq_zero.mp this with z | z
   ·exact absurd z hk0
   ·omega
 have hlen:P.length=Q.length:=by have:=congrArg List.length hf;simpa using this
 refine List.ext_getElem hlen λi h1 h2=> ?_
 have e1:P[i].1=Q[i].1:=by
  have:(P.map (·.1))[i]'(by simpa using h1)=(Q.map (·.1))[i]'(by simpa using h2):=by simp only[hf]
  simpa using this
 exact Prod.ext e1 (key _ (List.getElem_mem h1) _ (List.getElem_mem h2) e1)
theorem xi{n:Nat}{R S:List (List Int)}(hR:∀r∈R,r.length=n)(hS:∀r∈S,r.length=n)(h:∀x,eI n R x↔eI n S x):bO R n=bO S n:=by
 obtain⟨P,e1,p1,_,n1⟩:=jv hR
 obtain⟨Q,e2,p2,_,n2⟩:=jv hS
 have:P=Q:=DO p1 p2 λx=>by rw[<- e1,<- e2];exact(n1 x).trans ((h x).trans (n2 x).symm)
 rw[e1,e2,this]
theorem nk{n:Nat}{R:List (List Int)}(hR:∀r∈R,r.length=n):∀r∈bO R n,r.length=n:=by
 obtain⟨P,e1,p1,_⟩:=jv hR
 rw[e1]
 intro r hr
 obtain⟨p,hp,rfl⟩:=List.mem_map.mp hr
 exact(p1.good p hp).len
theorem uk{n:Nat}{R:List (List Int)}(hR:∀r∈R,r.length=n):bO (bO R n) n=bO R n:=by
 obtain⟨P,e1,p1,_,n1⟩:=jv hR
 exact xi (nk hR) hR n1
theorem qr{n:Nat}{R:List (List Int)}(hR:∀r∈R,r.length=n):∀r∈bu R n,r.length=n:=nk (oS hR).len
theorem ua{n:Nat}{R:List (List Int)}(hR:∀r∈R,r.length=n):bu (bu R n) n=bO R n:=by
 have hS:=qr hR
 obtain⟨P,_,_,h1,h2⟩:=lQ hR
 obtain⟨Q,_,_,h3,h4⟩:=lQ hS
 have hSS:=qr hS
 rw[<- uk hR]
 have:bu (bu R n) n=bO (bu (bu R n) n) n:=(uk (R:=pV (bu R n) n) (oS hS).len).symm
 rw[this]
 refine xi hSS (nk hR) λx=> ?_
 obtain⟨_,_,_,_,n1⟩:=jv hR
 rw[n1,qE hS]
 constructor
 ·intro s r hr
  rw[gB,cy]
  exact s.dot λl hl=>h1 r hr l hl
 ·intro hx
  refine h4 x λl hl=> ?_
  have:eI n (bu R n) (nth l):=λq hq=>by rw[gB,cy];exact h3 q hq l hl
  exact(h2 _ this).dot hx
end M
set_option maxRecDepth 100000
set_option maxHeartbeats 4000000
namespace M
def SzL(b:Nat)(r:List Int):Prop:=∀x∈r,Sz b x
def fH(b:Nat)(R:List (List Int)):Prop:=∀r∈R,SzL b r
theorem SzL.mono{b c:Nat}{r:List Int}(h:SzL b r)(hbc:b<=c):SzL c r:=λx hx=>(h x hx).mono hbc
theorem fH.mono{b c:Nat}{r:List (List Int)}(h:fH b r)(hbc:b<=c):fH c r:=λx hx=>(h x hx).mono hbc
theorem Sz.zero(b:Nat):Sz b 0:=by unfold Sz;simp;exact Nat.two_pow_pos b
theorem SzL.nth{b:Nat}{r:List Int}(h:SzL b r)(i:Nat):Sz b (M.nth r i):=by
 by_cases hi:i<r.length
 ·exact h _ (wg hi)
 ·rw[iq (by omega)];exact Sz.zero b
theorem SzL.low{b:Nat}{r:List Int}(h:SzL b r):SzL b (M.low r):=by
 intro x hx
 unfold M.low at hx
 split at hx
 ·exact h x hx
 ·obtain⟨y,hy,rfl⟩:=List.mem_map.mp hx
  exact Nat.lt_of_le_of_lt (Int.natAbs_ediv_le_natAbs y _) (h y hy)
theorem SzL.mix{b1 b2 bv bw:Nat}{one other:List Int}{v w:Int}(h1:SzL b1 one)(h2:SzL b2 other)(hv:Sz bv v)(hw:Sz bw w):SzL (max (b1+bw) (b2+bv)+1) (kC one v other w):=by
 intro x hx
 unfold kC at hx
 obtain⟨i,hi,e⟩:=List.getElem_of_mem hx
 rw[List.getElem_zipWith] at e
 subst e
 exact Sz.sub (Sz.mul (h1 _ (List.getElem_mem _)) hw) (Sz.mul (h2 _ (List.getElem_mem _)) hv)
theorem SzL.off{b1 b2 bv bw:Nat}{one other:List Int}{v w:Int}(h1:SzL b1 one)(h2:SzL b2 other)(hv:Sz bv v)(hw:Sz bw w):SzL (max (b1+bw) (b2+bv)+1) (dh one v other w):=(SzL.mix h1 h2 hv hw).low
theorem SzL.sgn{b:Nat}{r:List Int}(h:SzL b r)(a:Nat):SzL b (jx r a):=by
 unfold jx
 split
 ·exact h
 ·intro x hx
  obtain⟨y,hy,rfl⟩:=List.mem_map.mp hx
  exact(h y hy).neg
theorem SzL.clr{b:Nat}{row lead:List Int}(h1:SzL b row)(h2:SzL b lead)(a:Nat):SzL (2*b+1) (fP lead a row):=by
 unfold fP
 split
 ·exact h1.mono (by omega)
 ·exact(SzL.off h1 h2 (h1.nth a) (h2.nth a)).mono (by omega)
theorem rm{b a:Nat}{left done:List (List Int)}(h1:fH b left)(h2:fH b done):fH (2*b+1) (dD (left,done) a).1/\fH (2*b+1) (dD (left,done) a).2:=by
 unfold dD
 dsimp only
 split
 ·exact⟨h1.mono (by omega),h2.mono (by omega)⟩
 ·rename_i k e
  have k1:=(jD e).1
  rw[List.length_map] at k1
  have hl:SzL b (jx (left.getD k []) a):=SzL.sgn (h1 _ (getD_mem k1)) a
  refine⟨λr hr=> ?_,λr hr=> ?_⟩
  ·obtain⟨q,hq,rfl⟩:=List.mem_map.mp hr
   exact SzL.clr (h1 q (List.mem_of_mem_eraseIdx hq)) hl a
  ·rcases List.mem_append.mp hr with hr | hr
   ·obtain⟨q,hq,rfl⟩:=List.mem_map.mp hr
    exact SzL.clr (h2 q hq) hl a
   ·rw[List.mem_singleton.mp hr];exact hl.mono (by omega)
def grow(b p:Nat):Nat:=2^p*(b+1)-1
theorem Fq(b:Nat):grow b 0=b:=by unfold grow;simp
theorem xR(b p:Nat):2*grow b p+1=grow b (p+1):=by
 unfold grow
 have h:0<2^p*(b+1):=Nat.mul_pos (Nat.two_pow_pos p) (Nat.succ_pos b)
 have e:2^(p+1)*(b+1)=2*(2^p*(b+1)):=by rw[Nat.pow_succ,Nat.mul_comm (2^p) 2,Nat.mul_assoc]
 rw[e]
 omega
theorem qU{a:Nat}{left done:List (List Int)}:((dD (left,done) a)=(left,done))\/(dD (left,done) a).2.length=done.length+1:=by
 unfold dD
 dsimp only
 split
 ·exact .inl rfl
 ·exact .inr (by simp)
structure PSz(n b a:Nat)(rows:List (List Int))(left done:List (List Int)):Prop where
 eq:(List.range a).foldl dD (rows.map low,[])=(left,done)
 ll:∀r∈left,r.length=n
 dl:∀r∈done,r.length=n
 cnt:left.length+done.length=rows.length
 ls:fH (grow b done.length) left
 ds:fH (grow b done.length) done
theorem PSz.start{n b:Nat}{rows:List (List Int)}(hl:∀r∈rows,r.length=n)(hs:fH b rows):PSz n b 0 rows (rows.map low) []:=by
 refine⟨rfl,λr hr=> ?_,by simp,by simp,λr hr=> ?_,λr hr=>by cases hr⟩
 ·obtain⟨q,hq,rfl⟩:=List.mem_map.mp hr
  rw[low_length];exact hl q hq
 ·obtain⟨q,hq,rfl⟩:=List.mem_map.mp hr
  rw[List.length_nil,Fq]
  exact(hs q hq).low
theorem PSz.step{n b a:Nat}{rows left done:List (List Int)}(h:PSz n b a rows left done)(hl:∀r∈rows,r.length=n)(ha:a<n):PSz n b (a+1) rows (dD (left,done) a).1 (dD (left,done) a).2:=by
 have eq':(List.range (a+1)).foldl dD (rows.map low,[])=dD (left,done) a:=by
  rw[List.range_succ,List.foldl_append,h.eq];rfl
 obtain⟨l',P',e,s,c,_⟩:=uV (n:=n) (left:=rows.map low) (λr hr=>by
  obtain⟨q,hq,rfl⟩:=List.mem_map.mp hr
  rw[low_length];exact hl q hq) (λr hr=>by
  obtain⟨q,hq,rfl⟩:=List.mem_map.mp hr
  exact qa q) (a+1) (by omega)
 rw[eq'] at e
 refine⟨eq',λr hr=> ?_,λr hr=> ?_, ?_, ?_, ?_⟩
 ·rw[e] at hr;exact s.ll r hr
 ·rw[e] at hr
  obtain⟨p,hp,rfl⟩:=List.mem_map.mp hr
  exact(s.pl.good p hp).len
 ·rw[e];simp;simpa using c
 ·rcases qU (a:=a) (left:=left) (done:=done) with q | q
  ·rw[q];exact h.ls
  ·rw[q,<- xR];exact(rm h.ls h.ds).1
 ·rcases qU (a:=a) (left:=left) (done:=done) with q | q
  ·rw[q];exact h.ds
  ·rw[q,<- xR];exact(rm h.ls h.ds).2
theorem PSz.done{n b:Nat}{rows left done:List (List Int)}(h:PSz n b n rows left done):bO rows n=done:=by unfold bO;rw[h.eq]
end M
set_option maxRecDepth 100000
set_option maxHeartbeats 4000000
namespace M
open PySem PySem.Spec PyProof.Rows L2
section
variable {s s1 : S} {d : D}
@[simp] theorem JZ (m:AM) (s:S):rJ m s=(m s).bind λx=>match x.1 with
 | [.lst as,.lst bs]=>.ok ((oI as bs,none),x.2)
 | _=>.bad:=rfl
@[simp] theorem ky (m:AM) (s:S):dk m s=(m s).bind λx=>match x.1 with
 | [.lst as]=>.ok ((dU as,none),x.2)
 | _=>.bad:=rfl
@[simp] theorem IG (m:EM) (s:S):Ed m s=(m s).bind λx=>match x.1 with
 | .str z=>.ok ((oN z,none),x.2)
 | _=>.bad:=rfl
@[simp] theorem xw (f g:Op2) (a b c:EM) (s:S):lJ f g a b c s=(a s).bind λx=>(b x.2).bind λy=>(f y.2.o x.1 y.1).bind λz=>match z with
 | .bl true=>(c y.2).bind λw=>(g w.2.o y.1 w.1).bind λd=>.ok (d,w.2)
 | .bl false=>.ok (.bl false,y.2)
 | _=>.bad:=rfl
@[simp] theorem Hg (n:Nat) (f:FM) (m:AM) (s:S):tu n f m s=(m s).bind λx=>if x.1.length=n then (match f x.1 x.2.o with
 | .ok (d,O1)=>.ok (d,⟨x.2.r,O1⟩)
 | _=>.bad) else .bad:=rfl
@[simp] theorem NU (m:EM) (s:S):NL m s=(m s).bind λx=>match lsD x.2.o x.1 with
 | some ds=>.ok (!ds.isEmpty,x.2)
 | none=>.bad:=rfl
@[simp] theorem J3 (fin:S->List D->Res (D×S)) (ma:AM) (mk:EM) (s:S):An fin ma mk s=(ma s).bind λx=>if x.1.length<=16777216 then (mk x.2).bind λy=>match y.1 with
 | .int k=>if (-(2^63)<=k/\k<2^63)/\x.1.length*k.toNat<=16777216 then fin y.2 (De k x.1) else .bad
 | _=>.bad
 else .bad:=rfl
@[simp] theorem Ob (s:S) (ds:List D):uG s ds=.ok (.lst ds,s):=rfl
@[simp] theorem CW (s:S) (ds:List D):rj s ds=.ok (.ptr s.o.length,⟨s.r,s.o++[.lst ds]⟩):=rfl
@[simp] theorem Od (O:au):isD O .non .non=.ok (.bl true):=rfl
@[simp] theorem NR (O:au) (i:Int):isD O (.int i) .non=.ok (.bl false):=rfl
@[simp] theorem NT (O:au) (i:List D):isD O (.lst i) .non=.ok (.bl false):=rfl
@[simp] theorem N6 (O:au) (i:List D):isD O (.tup i) .non=.ok (.bl false):=rfl
@[simp] theorem MF (O:au):vv O .non .non=.ok (.bl false):=rfl
@[simp] theorem ML (O:au) (i:Int):vv O (.int i) .non=.ok (.bl true):=rfl
@[simp] theorem MB (O:au) (i:List D):vv O (.lst i) .non=.ok (.bl true):=rfl
@[simp] theorem MA (O:au) (i:List D):vv O (.tup i) .non=.ok (.bl true):=rfl
@[simp] theorem lZ (g h:GM) (a b:D) (s:S):dG (ba g (ba h dO)) 2 (.tup [a,b]) s=(g a s).bind λs1=>h b s1:=by
 show (g a s).bind (λs1=>(h b s1).bind λs2=>.ok s2)=_
 congr 1
 funext s1
 cases h b s1 <;> rfl
@[simp] theorem B8 (ns:List Int):gA (ns.map D.int)=some ns:=by
 induction ns with
 | nil=>rfl
 | cons n ns ih=>rw[List.map_cons,gA,ih];rfl
@[simp] theorem t6 (ns:List Bool):j7 (ns.map D.bl)=some ns:=by
 induction ns with
 | nil=>rfl
 | cons n ns ih=>rw[List.map_cons,j7,ih];rfl
@[simp] theorem oU (O:au) (ns:List Int):oG O [.lst (ns.map D.int)]=.ok (.int ns.sum):=by
 show (match gA (ns.map D.int) with
  | some ns=>Res.ok (D.int ns.sum)
  | none=>.bad)=_
 rw[B8]
@[simp] theorem uu (O:au) (ns:List Bool):vR O [.lst (ns.map D.bl)]=.ok (.bl (ns.all id)):=by
 show (match j7 (ns.map D.bl) with
  | some ns=>Res.ok (D.bl (ns.all id))
  | none=>.bad)=_
 rw[t6]
@[simp] theorem Nh (O:au) (ns:List Bool):Nx O [.lst (ns.map D.bl)]=.ok (.bl (ns.any id)):=by
 show (match j7 (ns.map D.bl) with
  | some ns=>Res.ok (D.bl (ns.any id))
  | none=>.bad)=_
 rw[t6]
end
theorem uj {α:Type} {ok:au->Prop} {g:GM} {c:TM} {e:EM} {O:au} (hok:ok O) (item:α->D) (P:S->Prop) (hP:∀s,P s->s.o=O) (l:List α) (p:α->Bool) (out:α->D)
 (step:∀a∈l,∀s,P s->∃s1 s2,g (item a) s=.ok s1/\c s1=.ok (p a,s2)/\(p a=false->P s2)/\(p a=true->∃s3,e s2=.ok (out a,s3)/\P s3)):
 ∀(acc:List D) (s:S),acc.length+l.length<=16777216->P s->∃s',fU ok g c e (l.map item) acc s=.ok (acc++(l.filter p).map out,s')/\P s':=by
 induction l with
 | nil=>
  intro acc s _ h
  exact⟨s,by rw[List.map_nil,fU,if_pos (by rw[hP s h];exact hok)];simp,h⟩
 | cons a l ih=>
  intro acc s hl h
  rw[List.length_cons] at hl
  obtain⟨s1,s2,e1,e2,h2,h3⟩:=step a List.mem_cons_self s h
  rw[List.map_cons,fU,if_pos ⟨by rw[hP s h];exact hok,by omega⟩,e1,aj,e2,aj]
  cases hp:p a with
  | false=>
   obtain⟨s',e3,h4⟩:=ih (λb hb=>step b (List.mem_cons_of_mem _ hb)) acc s2 (by omega) (h2 hp)
   refine⟨s', ?_,h4⟩
   rw[List.filter_cons_of_neg (by simp[hp])]
   simpa using e3
  | true=>
   obtain⟨s3,e3,h4⟩:=h3 hp
   obtain⟨s',e5,h5⟩:=ih (λb hb=>step b (List.mem_cons_of_mem _ hb)) (acc++[out a]) s3 (by rw[List.length_append,List.length_singleton];omega) h4
   refine⟨s', ?_,h5⟩
   rw[List.filter_cons_of_pos hp]
   simp only[if_true,e3,aj,e5]
   simp
section
variable {α : Type} {caps : List Nat} {im : IM} {c : TM} {e : EM} {s : S} {k : Option Nat} {l : List α} {item out : α → D} {p : α → Bool}
theorem zt (him:im s=.ok ((l.map item,k),s)) (hok:okC (l.map item) k s.o) (hl:l.length<=16777216)
 (hc:∀a∈l,c ⟨some (item a)::caps.map (λi=>(s.r[i]?).getD none),s.o⟩=.ok (p a,⟨some (item a)::caps.map (λi=>(s.r[i]?).getD none),s.o⟩))
 (he:∀a∈l,p a=true->e ⟨some (item a)::caps.map (λi=>(s.r[i]?).getD none),s.o⟩=.ok (out a,⟨some (item a)::caps.map (λi=>(s.r[i]?).getD none),s.o⟩)):
 mE 1 caps im (aB 0) c e s=.ok ((l.filter p).map out,s):=by
 obtain⟨s',e1,x,h1⟩:=uj (ok:=okC (l.map item) k) (g:=aB 0) (c:=c) (e:=e) (O:=s.o) hok item (λs2=>∃x,s2=⟨x::caps.map (λi=>(s.r[i]?).getD none),s.o⟩) (by rintro _ ⟨_,rfl⟩;rfl) l p out (by
  rintro a ha _ ⟨x,rfl⟩
  exact⟨_,_,rfl,hc a ha,λ_=>⟨_,rfl⟩,λhp=>⟨_,he a ha hp,_,rfl⟩⟩) [] ⟨qO 1 caps s.r,s.o⟩ (by simpa using hl) ⟨none,rfl⟩
 rw[uE,him,aj]
 dsimp only
 rw[e1,aj]
 subst h1
 rfl
theorem Bn {f g:α->D} (him:im s=.ok ((l.map (λa=>D.tup [f a,g a]),k),s)) (hok:okC (l.map (λa=>D.tup [f a,g a])) k s.o) (hl:l.length<=16777216)
 (hc:∀a∈l,c ⟨some (f a)::some (g a)::caps.map (λi=>(s.r[i]?).getD none),s.o⟩=.ok (p a,⟨some (f a)::some (g a)::caps.map (λi=>(s.r[i]?).getD none),s.o⟩))
 (he:∀a∈l,p a=true->e ⟨some (f a)::some (g a)::caps.map (λi=>(s.r[i]?).getD none),s.o⟩=.ok (out a,⟨some (f a)::some (g a)::caps.map (λi=>(s.r[i]?).getD none),s.o⟩)):
 mE 2 caps im (dG (ba (aB 0) (ba (aB 1) dO)) 2) c e s=.ok ((l.filter p).map out,s):=by
 obtain⟨s',e1,x,y,h1⟩:=uj (ok:=okC (l.map (λa=>D.tup [f a,g a])) k) (g:=dG (ba (aB 0) (ba (aB 1) dO)) 2) (c:=c) (e:=e) (O:=s.o) hok (λa=>D.tup [f a,g a]) (λs2=>∃x y,s2=⟨x::y::caps.map (λi=>(s.r[i]?).getD none),s.o⟩) (by rintro _ ⟨_,_,rfl⟩;rfl) l p out (by
  rintro a ha _ ⟨x,y,rfl⟩
  exact⟨_,_,by simp,hc a ha,λ_=>⟨_,_,rfl⟩,λhp=>⟨_,he a ha hp,_,_,rfl⟩⟩) [] ⟨qO 2 caps s.r,s.o⟩ (by simpa using hl) ⟨none,none,rfl⟩
 rw[uE,him,aj]
 dsimp only
 rw[e1,aj]
 subst h1
 rfl
theorem pA(l:List α):l.filter (λ_=>true)=l:=by simp
theorem dJ (him:im s=.ok ((l.map item,k),s)) (hok:okC (l.map item) k s.o) (hl:l.length<=16777216)
 (he:∀a∈l,e ⟨some (item a)::caps.map (λi=>(s.r[i]?).getD none),s.o⟩=.ok (out a,⟨some (item a)::caps.map (λi=>(s.r[i]?).getD none),s.o⟩)):
 bF 1 caps im (aB 0) bK e s=.ok (.lst (l.map out),s):=by
 rw[oR,zt (p:=λ_=>true) him hok hl (λ_ _=>rfl) (λa ha _=>he a ha),aj,pA]
theorem vX (him:im s=.ok ((l.map item,k),s)) (hok:okC (l.map item) k s.o) (hl:l.length<=16777216)
 (hc:∀a∈l,c ⟨some (item a)::caps.map (λi=>(s.r[i]?).getD none),s.o⟩=.ok (p a,⟨some (item a)::caps.map (λi=>(s.r[i]?).getD none),s.o⟩))
 (he:∀a∈l,p a=true->e ⟨some (item a)::caps.map (λi=>(s.r[i]?).getD none),s.o⟩=.ok (out a,⟨some (item a)::caps.map (λi=>(s.r[i]?).getD none),s.o⟩)):
 bF 1 caps im (aB 0) c e s=.ok (.lst ((l.filter p).map out),s):=by
 rw[oR,zt him hok hl hc he,aj]
theorem FP {f g:α->D} (him:im s=.ok ((l.map (λa=>D.tup [f a,g a]),k),s)) (hok:okC (l.map (λa=>D.tup [f a,g a])) k s.o) (hl:l.length<=16777216)
 (he:∀a∈l,e ⟨some (f a)::some (g a)::caps.map (λi=>(s.r[i]?).getD none),s.o⟩=.ok (out a,⟨some (f a)::some (g a)::caps.map (λi=>(s.r[i]?).getD none),s.o⟩)):
 bF 2 caps im (dG (ba (aB 0) (ba (aB 1) dO)) 2) bK e s=.ok (.lst (l.map out),s):=by
 rw[oR,Bn (p:=λ_=>true) him hok hl (λ_ _=>rfl) (λa ha _=>he a ha),aj,pA]
theorem Cw {f g:α->D} (him:im s=.ok ((l.map (λa=>D.tup [f a,g a]),k),s)) (hok:okC (l.map (λa=>D.tup [f a,g a])) k s.o) (hl:l.length<=16777216)
 (hc:∀a∈l,c ⟨some (f a)::some (g a)::caps.map (λi=>(s.r[i]?).getD none),s.o⟩=.ok (p a,⟨some (f a)::some (g a)::caps.map (λi=>(s.r[i]?).getD none),s.o⟩))
 (he:∀a∈l,p a=true->e ⟨some (f a)::some (g a)::caps.map (λi=>(s.r[i]?).getD none),s.o⟩=.ok (out a,⟨some (f a)::some (g a)::caps.map (λi=>(s.r[i]?).getD none),s.o⟩)):
 bF 2 caps im (dG (ba (aB 0) (ba (aB 1) dO)) 2) c e s=.ok (.lst ((l.filter p).map out),s):=by
 rw[oR,Bn him hok hl hc he,aj]
theorem zG (him:im s=.ok ((l.map item,k),s)) (hok:okC (l.map item) k s.o) (hl:l.length<=16777216)
 (he:∀a∈l,e ⟨some (item a)::caps.map (λi=>(s.r[i]?).getD none),s.o⟩=.ok (out a,⟨some (item a)::caps.map (λi=>(s.r[i]?).getD none),s.o⟩)):
 nL 1 caps im (aB 0) bK e s=.ok (.ptr s.o.length,⟨s.r,s.o++[.lst (l.map out)]⟩):=by
 rw[Ao,zt (p:=λ_=>true) him hok hl (λ_ _=>rfl) (λa ha _=>he a ha),aj,pA]
end
abbrev vI(r:List Int):D:=.lst (r.map .int)
abbrev vII(R:List (List Int)):D:=.lst (R.map vI)
@[simp] theorem mW (R:List (List Int)):aM (R.map vI)=true:=by
 induction R with
 | nil=>rfl
 | cons r R ih=>simp[ih]
theorem xE(as bs:List Int):oI (as.map D.int) (bs.map D.int)=(as.zip bs).map λp=>.tup [.int p.1,.int p.2]:=by
 unfold oI
 rw[List.zipWith_map,List.zip_eq_zipWith,List.map_zipWith]
theorem D6(as:List Int):dU (as.map D.int)=as.zipIdx.map λp=>.tup [.int (p.2:Int),.int p.1]:=by
 unfold dU
 rw[List.mapIdx_eq_zipIdx_map,List.zipIdx_map,List.map_map]
 rfl
theorem tQ{O:au}{r:List Int}{i:Nat}(h:i<r.length):ixD O (vI r) (.int (i:Int))=.ok (.int (nth r i)):=by
 refine nR ?_
 rw[oQ (by omega) (by simpa using h)]
 simp[nth,List.getD_eq_getElem?_getD,h]
theorem LK{O:au}{R:List (List Int)}{i:Nat}(h:i<R.length):ixD O (vII R) (.int (i:Int))=.ok (vI (R.getD i [])):=by
 refine nR ?_
 rw[oQ (by omega) (by simpa using h)]
 simp[List.getD_eq_getElem?_getD,h]
theorem eS(n:Nat):dZ 0 (n:Int)=(List.range n).map λi=>.int (i:Int):=by
 unfold dZ
 simp
theorem pG{n:Nat}(h:n<=1000000):n<=16777216:=Nat.le_trans h (by decide)
theorem zip_map{f:Int->Int->Int}:∀(a b:List Int),(a.zip b).map (λp=>f p.1 p.2)=List.zipWith f a b
 | [],_=>by simp
 | _::_,[]=>by simp
 | x::a,y::b=>by simp[zip_map a b]
theorem Jn(a b:List Int):(a.zip b).map (λp=>p.1*p.2)=List.zipWith (· * ·) a b:=zip_map a b
theorem EO(n:Nat):De (n:Int) [.int 0]=(List.replicate n (0:Int)).map D.int:=by
 unfold De
 rw[show (n:Int).toNat=n from Int.toNat_natCast n]
 induction n with
 | zero=>rfl
 | succ n ih=>rw[List.replicate_succ,List.flatten_cons,ih];simp[List.replicate_succ]
theorem HB{mo mi:EM}{d:D}{s s1 s2:S}{k a:Nat}{ds:List D}(h1:mo s=.ok (.ptr k,s1))(h2:mi s1=.ok (.int (a:Int),s2))(h3:s2.o[k]? =some (.lst ds))(ha:a<ds.length):
 zU mo mi d s=.ok ⟨s2.r,s2.o.set k (.lst (ds.set a d))⟩:=by
 unfold zU
 rw[h1,aj]
 dsimp only
 rw[h2,aj]
 dsimp only
 rw[lS h3]
 dsimp only
 have e:ixN ds.length (a:Int)=some a:=by
  unfold ixN
  rw[if_pos (by omega),if_pos (by omega)]
  simp
 rw[e]
theorem tm{m:EM}{i:Nat}{s s':S}{d:D}(h:m s=.ok (d,s')):setM i m s=.next ⟨s'.r.set i (some d),s'.o⟩:=by
 show ((m s).bind _).out _=_
 rw[h];rfl
theorem bR{m:EM}{s s':S}{d:D}(h:m s=.ok (d,s')):cv m s=.ret d s':=by
 show (m s).out _=_
 rw[h];rfl
theorem Iw{c:TM}{a b:SM}{s s':S}(h:c s=.ok (true,s')):ifS c a b s=a s':=by
 show (c s).out _=_
 rw[h];rfl
theorem nJ{c:TM}{a b:SM}{s s':S}(h:c s=.ok (false,s')):ifS c a b s=b s':=by
 show (c s).out _=_
 rw[h];rfl
theorem dX{a b:SM}{s s':S}(h:a s=.next s'):aP a b s=b s':=by
 show (a s).then b=_
 rw[h];rfl
theorem yT{a b:SM}{s s':S}{d:D}(h:a s=.ret d s'):aP a b s=.ret d s':=by
 show (a s).then b=_
 rw[h];rfl
theorem MT{fin:S->List D->Res (D×S)}{mk:EM}{s:S}{n:Nat}(h:mk s=.ok (.int (n:Int),s))(hn:n<=1000000):An fin (ae (aq (.int 0)) ak) mk s=fin s ((List.replicate n (0:Int)).map D.int):=by
 rw[J3,aY,aA,aj,aF,aj,aj]
 dsimp only
 rw[if_pos (by decide),h,aj]
 dsimp only
 rw[if_pos ⟨⟨by omega,by omega⟩,by simp;omega⟩,EO]
theorem dw{n:Nat}{f:FM}{ma:AM}{s s':S}{ds:List D}{d:D}{O:au}(h:ma s=.ok (ds,s'))(hp:aM ds=true)(hl:ds.length=n)(hf:f ds []=.ok (d,O))(hd:cK d=true):aQ n f ma s=.ok (d,s'):=by
 rw[Gs,h,aj,if_pos ⟨hp,hl⟩]
 dsimp only
 rw[hf]
 dsimp only
 rw[if_pos hd]
theorem GR{n:Nat}{f:FM}{ma:AM}{s s':S}{ds:List D}{d:D}{O:au}(h:ma s=.ok (ds,s'))(hl:ds.length=n)(hf:f ds s'.o=.ok (d,O)):tu n f ma s=.ok (d,⟨s'.r,O⟩):=by
 rw[Hg,h,aj,if_pos hl]
 dsimp only
 rw[hf]
theorem wF{mo me:EM}{s s1 s2:S}{k:Nat}{ds0 ds:List D}{d:D}(h1:mo s=.ok (.ptr k,s1))(c1:s1.o[k]? =some (.lst ds0))(h2:me s1=.ok (d,s2))(c2:s2.o[k]? =some (.lst ds))(hb:ds.length<=1000000):
 gP mo me s=.ok (.non,⟨s2.r,s2.o.set k (.lst (ds++[d]))⟩):=by
 rw[Jy,h1,aj]
 dsimp only
 rw[lS c1]
 dsimp only
 rw[h2,aj]
 dsimp only
 rw[lS c2]
 dsimp only
 rw[if_pos (by omega)]
theorem cF{m:EM}{s s':S}{d:D}(h:m s=.ok (d,s')):cR m s=.next s':=by
 show (m s).out _=_
 rw[h];rfl
theorem Ju{m:EM}{s s':S}{k:Nat}{ds:List D}(h:m s=.ok (.ptr k,s'))(c:s'.o[k]? =some (.lst ds)):oC m s=.ok (.lst ds,⟨s'.r,s'.o.set k .dead⟩):=by
 rw[J7,h,aj]
 dsimp only
 rw[lS c]
theorem jG{m:EM}{s s':S}{k:Nat}{ds:List D}(h:m s=.ok (.ptr k,s'))(c:s'.o[k]? =some (.lst ds)):listI m s=.ok ((ds,some k),s'):=by
 rw[di,h,aj]
 dsimp only
 rw[BH c,aj]
theorem cg{O:au}{k j:Nat}{c:Cell}(h:k≠j):(O.set k c)[j]? =O[j]? :=List.getElem?_set_ne h
theorem eY{O:au}{k:Nat}{c c':Cell}(h:O[k]? =some c'):(O.set k c)[k]? =some c:=by
 rw[List.getElem?_set_self (List.getElem?_eq_some_iff.mp h).1]
theorem eN{O E:au}{k:Nat}{c:Cell}(h:O[k]? =some c):(O++E)[k]? =some c:=by
 rw[List.getElem?_append_left (List.getElem?_eq_some_iff.mp h).1];exact h
theorem jl{O:au}{c:Cell}:(O++[c])[O.length]? =some c:=by simp
theorem mJ{O:au}{k:Nat}{c:Cell}(h:O[k]? =some c):k<O.length:=(List.getElem?_eq_some_iff.mp h).1
theorem tM(r:List Int):aM [vI r]=true:=by simp
theorem K6{b:Nat}:∀(l:List Int) (k:Nat),(∀x∈l,x.natAbs<2^b)->l.length<=2^k->l.sum.natAbs<=l.length*2^b:=by
 intro l k h _
 induction l with
 | nil=>simp
 | cons a l ih=>
  rw[List.sum_cons,List.length_cons,Nat.succ_mul]
  have h1:=h a List.mem_cons_self
  have h2:=ih (λx hx=>h x (List.mem_cons_of_mem _ hx)) (by simp at *;omega)
  have:=Int.natAbs_add_le a l.sum
  omega
theorem sf{b c:Nat}{row l:List Int}(hr:SzL c row)(hl:SzL b l)(hn:row.length<=1000):Sz (b+c+10) (aH row l):=by
 unfold aH
 have h:∀x∈List.zipWith (· * ·) row l,x.natAbs<2^(c+b):=λx hx=>by
  obtain⟨i,hi,e⟩:=List.getElem_of_mem hx
  rw[List.getElem_zipWith] at e
  subst e
  exact Sz.mul (hr _ (List.getElem_mem _)) (hl _ (List.getElem_mem _))
 have h2:=K6 (List.zipWith (· * ·) row l) 10 h (by rw[List.length_zipWith];simp;omega)
 unfold Sz
 have h3:(List.zipWith (· * ·) row l).length<=1000:=by rw[List.length_zipWith];omega
 have h4:(List.zipWith (· * ·) row l).length*2^(c+b)<=1000*2^(c+b):=Nat.mul_le_mul_right _ h3
 have h5:2^(b+c+10)=1024*2^(c+b):=by rw[Nat.pow_add,Nat.add_comm b c,Nat.mul_comm]
 have h6:0<2^(c+b):=Nat.two_pow_pos _
 rw[h5]
 omega
theorem GX{n:Nat}{f:FM}{ma:AM}{s s':S}{ds:List D}{d:D}{O1:au}(h:ma s=.ok (ds,s'))(hp:aM ds=true)(hl:ds.length=n)(hf:f ds []=.ok (d,O1)):gc n f ma s=.ok (shD s'.o.length d,⟨s'.r,s'.o++O1.map (shC s'.o.length)⟩):=by
 rw[G3,h,aj,if_pos ⟨hp,hl⟩]
 dsimp only
 rw[hf]
theorem Fe{O:au}{k:Nat}{ds:List D}{i:Int}{d:D}(h:O[k]? =some (.lst ds))(hi:atI ds i=some d):ixD O (.ptr k) (.int i)=.ok d:=by
 show (match lsD O (D.ptr k) with
  | some ds=>match atI ds i with
   | some d=>Res.ok d
   | none=>.bad
  | none=>.bad)=_
 rw[nX h]
 dsimp only
 rw[hi]
theorem qi{α:Type}{l:List α}{i:Nat}(h:i<l.length):atI l (i:Int)=some l[i]:=by
 rw[oQ (by omega) (by omega)]
 simp
theorem qy{O:au}{k:Nat}{ds:List D}(h:O[k]? =some (.lst ds)):bL O [.ptr k]=.ok (.int ds.length):=by
 unfold bL
 simp only[nX h]
theorem jO{m:EM}{s s':S}{i j:Int}(h:m s=.ok (.int i,s')):bj (ao gtD m (aq (.int j))) s=.ok (decide (j<i),s'):=by
 rw[g6,eM,h,aj,aA,aj,CO,aj,aj]
theorem eq_test{m:EM}{s s':S}{i j:Int}(h:m s=.ok (.int i,s')):bj (ao eqD m (aq (.int j))) s=.ok (decide (i=j),s'):=by
 rw[g6,eM,h,aj,aA,aj,nU,aj,aj]
theorem wa{a b:TM}{s:S}{p q:Bool}(ha:a s=.ok (p,s))(hb:b s=.ok (q,s)):p9 a b s=.ok (p&&q,s):=by
 rw[JC,ha,aj]
 cases p with
 | true=>exact hb
 | false=>rfl
theorem uJ{O:au}{a b:List D}(h:a.length+b.length<=1000000):bz O (.lst a) (.lst b)=.ok (.lst (a++b)):=by
 show (if a.length+b.length<=16777216 then Res.ok (D.lst (a++b)) else .bad)=_
 rw[if_pos (pG h)]
end M
set_option maxRecDepth 100000
set_option maxHeartbeats 4000000
namespace M
def tk(c e:Nat):Nat:=2^e*(c+12)-(c+11)
theorem MK(c e:Nat):c+12<=2^e*(c+12):=Nat.le_mul_of_pos_left _ (Nat.two_pow_pos e)
theorem Jr(c:Nat):tk c 0=1:=by unfold tk;simp
theorem Jm(c e:Nat):2*tk c e+c+11=tk c (e+1):=by
 unfold tk
 have h:=MK c e
 have e2:2^(e+1)*(c+12)=2*(2^e*(c+12)):=by rw[Nat.pow_succ,Nat.mul_comm (2^e) 2,Nat.mul_assoc]
 rw[e2]
 omega
structure Al(n c:Nat)(R lists:List (List Int))(e:Nat):Prop where
 eq:R.foldl gM (dj n)=lists
 ll:∀l∈lists,l.length=n
 cnt:lists.length+e=n
 sz:fH (tk c e) lists
theorem C2(n a:Nat):SzL 1 (fu n a):=by
 intro x hx
 unfold fu at hx
 rcases List.mem_or_eq_of_mem_set hx with h | h
 ·rw[List.eq_of_mem_replicate h];exact Sz.zero 1
 ·rw[h];unfold Sz;decide
theorem Al.start(n c:Nat):Al n c [] (dj n) 0:=by
 refine⟨rfl,λl hl=> ?_,by unfold dj;simp,λl hl=> ?_⟩
 ·obtain⟨a,_,rfl⟩:=List.mem_map.mp hl
  unfold fu;simp
 ·obtain⟨a,_,rfl⟩:=List.mem_map.mp hl
  rw[Jr];exact C2 n a
theorem Al.step{n c e:Nat}{R lists:List (List Int)}{row:List Int}(h:Al n c R lists e)(hr:row.length=n)(hs:SzL c row)(hn:n<=1000):∃e',Al n c (R++[row]) (gM lists row) e':=by
 have eq':(R++[row]).foldl gM (dj n)=gM lists row:=by rw[List.foldl_append,h.eq];rfl
 unfold gM at *
 split
 ·rename_i e0
  rw[e0] at eq'
  exact⟨e,eq',h.ll,h.cnt,h.sz⟩
 ·rename_i k e0
  rw[e0] at eq'
  have k1:=(jD e0).1
  rw[List.length_map] at k1
  have hm:=getD_mem k1
  refine⟨e+1,eq',λl hl=> ?_, ?_,λl hl=> ?_⟩
  ·obtain⟨q,hq,rfl⟩:=List.mem_map.mp hl
   have hq':=List.mem_of_mem_eraseIdx hq
   rw[mF (by rw[h.ll q hq',h.ll _ hm]),h.ll q hq']
  ·rw[List.length_map,List.length_eraseIdx_of_lt k1]
   have:=h.cnt
   omega
  ·obtain⟨q,hq,rfl⟩:=List.mem_map.mp hl
   have hq':=List.mem_of_mem_eraseIdx hq
   have hz:∀l∈lists,Sz (tk c e+c+10) (aH row l):=λl h'=>sf hs (h.sz l h') (by rw[hr];exact hn)
   exact(SzL.off (h.sz q hq') (h.sz _ hm) (hz q hq') (hz _ hm)).mono (by rw[<- Jm];omega)
end M
set_option maxRecDepth 100000
set_option maxHeartbeats 4000000
namespace M
theorem hole:∀(n:Nat) (L:List Nat),L.length<n->∃f,f<n/\f∉L
 | 0,L,h=>by omega
 | n+1,L,h=>by
  by_cases hn:n∈L
  ·obtain⟨f,h1,h2⟩:=hole n (L.erase n) (by
    rw[List.length_erase_of_mem hn]
    have:=List.length_pos_of_mem hn
    omega)
   exact⟨f,by omega,λhf=>h2 ((List.mem_erase_of_ne (by omega)).mpr hf)⟩
  ·exact⟨n,by omega,hn⟩
theorem GK{P:List (Nat×List Int)}{f:Nat}{n:Nat}(pl:Pl n P)(hfree:∀p∈P,p.1≠f):ir P f f≠0:=by
 have h1:=pl.leads_pos
 have h2:=jE (L:=ie P) (f:=f) (i:=f) hfree
 unfold ir
 simp
 omega
theorem Cc{n:Nat}{A:List (List Int)}(hA:∀r∈A,r.length=n)(h:A.length<n):∃t:Nat->Int,(∃j,j<n/\t j≠0)/\eI n A t:=by
 obtain⟨P,eP,pl,hP,nul⟩:=jv hA
 obtain⟨f,hf,hfr⟩:=hole n (P.map (·.1)) (by rw[List.length_map];omega)
 have hfree:∀p∈P,p.1≠f:=λp hp e=>hfr (List.mem_map.mpr ⟨p,hp,e⟩)
 refine⟨ir P f,⟨f,hf,GK pl hfree⟩,(nul _).mp ?_⟩
 rw[eP]
 exact qb pl hf hfree
def Indep(n:Nat)(V:List (List Int)):Prop:=∀t:Nat->Int,(∀i,i<n->aV V.length (λj=>t j*nth (V.getD j []) i)=0)->∀j,j<V.length->t j=0
theorem AK{n:Nat}{V W:List (List Int)}(hV:Indep n V)(h:∀v∈V,kM n W (nth v)):V.length<=W.length:=by
 refine Classical.byContradiction λhlt=> ?_
 have ch:∀j,∃k:Int,∃T:List Int,j<V.length->k≠0/\∀i,i<n->k*nth (V.getD j []) i=dF T W i:=λj=>by
  by_cases hj:j<V.length
  ·obtain⟨k,hk,T,_,e⟩:=h (V.getD j []) (getD_mem hj)
   exact⟨k,T,λ_=>⟨hk,e⟩⟩
  ·exact⟨1,[],λz=>absurd z hj⟩
 obtain⟨kf,hkf⟩:=Classical.axiomOfChoice ch
 obtain⟨Tf,hTf⟩:=Classical.axiomOfChoice hkf
 obtain⟨t,⟨j0,hj0,ht0⟩,hn⟩:=Cc (n:=V.length) (A:=(List.range W.length).map λm=>(List.range V.length).map λj=>nth (Tf j) m) (λr hr=>by
  obtain⟨m,_,rfl⟩:=List.mem_map.mp hr
  simp) (by simp;omega)
 have hnm:∀m,m<W.length->aV V.length (λj=>nth (Tf j) m*t j)=0:=λm hm=>by
  have:=hn _ (List.mem_map.mpr ⟨m,List.mem_range.mpr hm,rfl⟩)
  rw[<- this]
  refine bJ λj hj=> ?_
  congr 1
  unfold nth
  simp[List.getD_eq_getElem?_getD,List.getElem?_map,List.getElem?_range,hj]
 have hz:=hV (λj=>t j*kf j) (λi hi=> ?_) j0 hj0
 ·rcases Int.mul_eq_zero.mp hz with q | q
  ·exact ht0 q
  ·exact(hTf j0 hj0).1 q
 ·have e1:aV V.length (λj=>t j*kf j*nth (V.getD j []) i)=aV V.length (λj=>aV W.length λm=>t j*(nth (Tf j) m*nth (W.getD m []) i)):=bJ λj hj=>by
   rw[Int.mul_assoc,(hTf j hj).2 i hi]
   unfold dF
   rw[d9]
  rw[e1,oV]
  refine eO λm hm=> ?_
  have e2:aV V.length (λj=>t j*(nth (Tf j) m*nth (W.getD m []) i))=nth (W.getD m []) i*aV V.length (λj=>nth (Tf j) m*t j):=by
   rw[<- d9]
   refine bJ λj hj=> ?_
   rw[<- Int.mul_assoc,Int.mul_comm (nth (W.getD m []) i),Int.mul_comm (t j)]
  rw[e2,hnm m hm,Int.mul_zero]
theorem yR{n:Nat}{P:List (Nat×List Int)}(pl:Pl n P):Indep n (P.map (·.2)):=λt h j hj=>by
 rw[List.length_map] at hj
 have hg:∀j (hj:j<P.length),(P.map (·.2)).getD j []=P[j].2:=λj hj=>by simp[List.getD_eq_getElem?_getD,List.getElem?_eq_getElem hj]
 have hm:P[j]∈P:=List.getElem_mem hj
 have g:=pl.good _ hm
 have e:=h P[j].1 g.lt
 rw[List.length_map,kJ (k:=j) hj λm hm1 hne=> ?_,hg j hj] at e
 ·rcases Int.mul_eq_zero.mp e with q | q
  ·exact q
  ·have:=g.pos
   omega
 ·rw[hg m hm1]
  have hm2:P[m]∈P:=List.getElem_mem hm1
  have hne2:P[m].1≠P[j].1:=by
   have pw:=List.pairwise_iff_getElem.mp pl.pw
   rcases Nat.lt_or_gt_of_ne hne with q | q
   ·exact Nat.ne_of_lt (pw m j hm1 hj q).1
   ·exact Nat.ne_of_gt (pw j m hj hm1 q).1
  rw[pl.other hm2 hm hne2,Int.mul_zero]
theorem qR{n j:Nat}(hj:j<n):(dj n).getD j []=fu n j:=by
 unfold dj
 simp[List.getD_eq_getElem?_getD,List.getElem?_map,List.getElem?_range,hj]
theorem g5(n:Nat):(dj n).length=n:=by unfold dj;simp
theorem BP(n:Nat):Indep n (dj n):=λt h j hj=>by
 rw[g5] at hj
 have e:=h j hj
 rw[g5,kJ (k:=j) hj λm hm hne=> ?_,qR hj,dR hj,if_pos rfl,Int.mul_one] at e
 ·exact e
 ·rw[qR hm,dR hm,if_neg (λz=>hne z.symm),Int.mul_zero]
theorem xY(n:Nat)(x:Nat->Int):kM n (dj n) x:=⟨1,by decide,(List.range n).map x,by rw[g5];simp,λi hi=>by
 unfold dF
 rw[g5,kJ (k:=i) hi λm hm hne=> ?_,qR hi,dR hi,if_pos rfl]
 ·unfold nth
  simp[List.getD_eq_getElem?_getD,List.getElem?_map,List.getElem?_range,hi]
 ·rw[qR hm,dR hm,if_neg (λz=>hne z.symm),Int.mul_zero]⟩
theorem sq_nonneg(a:Int):0<=a*a:=by
 rcases Int.le_total 0 a with h | h
 ·exact Int.mul_nonneg h h
 ·have:=Int.mul_nonneg (show 0<= -a by omega) (show 0<= -a by omega)
  rwa [Int.neg_mul_neg] at this
theorem qX(z:Nat->Int):∀n,0<=aV n λi=>z i*z i
 | 0=>Int.le_refl 0
 | n+1=>by
  have:=qX z n
  have:=sq_nonneg (z n)
  show 0<=aV n _+z n*z n
  omega
theorem vY{z:Nat->Int}:∀{n:Nat},(aV n λi=>z i*z i)=0->∀i,i<n->z i=0
 | 0,_,i,hi=>by omega
 | n+1,h,i,hi=>by
  have h1:=qX z n
  have h2:=sq_nonneg (z n)
  have h3:(aV n λi=>z i*z i)+z n*z n=0:=h
  rcases Nat.lt_or_ge i n with q | q
  ·exact vY (n:=n) (by omega) i q
  ·have:i=n:=by omega
   subst this
   have h4:z i*z i=0:=by omega
   rcases Int.mul_eq_zero.mp h4 with r | r <;> exact r
theorem count{n:Nat}{R:List (List Int)}(hR:∀r∈R,r.length=n):(bu R n).length+(bO R n).length=n:=by
 obtain⟨P,eP,pl,_,nul⟩:=jv hR
 have hS:=qr hR
 obtain⟨Q,eQ,ql,_,_⟩:=lQ hR
 have perp:∀s∈bu R n,∀p∈bO R n,bQ n (nth s) (nth p)=0:=λs hs p hp=>by
  obtain⟨_,_,_,h3,_⟩:=lQ hS
  rw[ua hR] at h3
  rw[cy]
  exact h3 s hs p hp
 have inS:∀z:Nat->Int,eI n (bO R n) z->kM n (bu R n) z:=λz hz=>by
  refine(qE hS z).mp ?_
  rw[ua hR]
  exact hz
 have getS:∀(t:Nat->Int) (A B:List (List Int)) (i:Nat),aV (A++B).length (λj=>t j*nth ((A++B).getD j []) i)=aV A.length (λj=>t j*nth (A.getD j []) i)+aV B.length (λj=>t (A.length+j)*nth (B.getD j []) i):=λt A B i=>by
  have split:∀(a b:Nat) (f:Nat->Int),aV (a+b) f=aV a f+aV b λj=>f (a+j):=λa b f=>by
   induction b with
   | zero=>show aV a f=aV a f+0;omega
   | succ b ih=>
    show aV (a+b) f+f (a+b)=aV a f+(aV b (λj=>f (a+j))+f (a+b))
    rw[ih];omega
  rw[List.length_append,split]
  congr 1
  ·exact bJ λj hj=>by rw[List.getD_eq_getElem?_getD,List.getElem?_append_left hj,<- List.getD_eq_getElem?_getD]
  ·exact bJ λj hj=>by rw[List.getD_eq_getElem?_getD,List.getElem?_append_right (by omega),Nat.add_sub_cancel_left,<- List.getD_eq_getElem?_getD]
 have lo:n<=(bu R n++bO R n).length:=by
  have:=AK (n:=n) (V:=dj n) (W:=bu R n++bO R n) (BP n) λv _=>by
   have hA:∀r∈bu R n++bO R n,r.length=n:=λr hr=>by
    rcases List.mem_append.mp hr with q | q
    ·exact hS r q
    ·exact nk hR r q
   refine(qE hA _).mp λz hz=> ?_
   obtain⟨_,_,_,h3,_⟩:=lQ hA
   have zP:eI n (bO R n) (nth z):=λp hp=>by rw[gB,cy];exact h3 p (by simp[hp]) z hz
   have zS:eI n (bu R n) (nth z):=λp hp=>by rw[gB,cy];exact h3 p (by simp[hp]) z hz
   have zz:=(inS (nth z) zP).dot zS
   have z0:=vY zz
   rw[gB]
   exact eO λi hi=>by rw[z0 i hi,Int.zero_mul]
  rwa [g5] at this
 have hi:(bu R n++bO R n).length<=n:=by
  have:=AK (n:=n) (V:=bu R n++bO R n) (W:=dj n) (λt h=> ?_) λv _=>xY n _
  ·rwa [g5] at this
  ·have y0:∀i,i<n->aV (bu R n).length (λj=>t j*nth ((bu R n).getD j []) i)=0:=by
    refine vY (z:=λi=>aV (bu R n).length (λj=>t j*nth ((bu R n).getD j []) i)) ?_
    have e1:∀i,i<n->aV (bu R n).length (λj=>t j*nth ((bu R n).getD j []) i)= - aV (bO R n).length (λj=>t ((bu R n).length+j)*nth ((bO R n).getD j []) i):=λi hi=>by
     have:=h i hi
     rw[getS] at this
     omega
    have prod:∀(a b:Nat) (f g:Nat->Int),aV a f*aV b g=aV a λj=>aV b λm=>f j*g m:=λa b f g=>by
     rw[Int.mul_comm,<- d9]
     refine bJ λj _=> ?_
     rw[Int.mul_comm,<- d9]
    have e2:(aV n λi=>(aV (bu R n).length λj=>t j*nth ((bu R n).getD j []) i)*(aV (bu R n).length λj=>t j*nth ((bu R n).getD j []) i))=aV n λi=>(-1)*((aV (bu R n).length λj=>t j*nth ((bu R n).getD j []) i)*(aV (bO R n).length λj=>t ((bu R n).length+j)*nth ((bO R n).getD j []) i)):=bJ λi hi=>by
     conv=>lhs;arg 2;rw[e1 i hi]
     rw[Int.mul_neg]
     omega
    rw[e2,d9]
    have e3:(aV n λi=>(aV (bu R n).length λj=>t j*nth ((bu R n).getD j []) i)*(aV (bO R n).length λj=>t ((bu R n).length+j)*nth ((bO R n).getD j []) i))=aV n λi=>aV (bu R n).length λj=>aV (bO R n).length λm=>(t j*t ((bu R n).length+m))*(nth ((bu R n).getD j []) i*nth ((bO R n).getD m []) i):=bJ λi _=>by
     rw[prod]
     refine bJ λj _=>bJ λm _=> ?_
     rw[Int.mul_assoc,Int.mul_assoc,Int.mul_left_comm (nth ((bu R n).getD j []) i)]
    rw[e3,oV]
    suffices q:aV (bu R n).length (λj=>aV n λi=>aV (bO R n).length λm=>(t j*t ((bu R n).length+m))*(nth ((bu R n).getD j []) i*nth ((bO R n).getD m []) i))=0 by rw[q];rfl
    refine eO λj hj=> ?_
    rw[oV]
    refine eO λm hm=> ?_
    rw[d9]
    have:=perp _ (getD_mem hj) _ (getD_mem hm)
    unfold bQ at this
    rw[this,Int.mul_zero]
   have p0:∀i,i<n->aV (bO R n).length (λj=>t ((bu R n).length+j)*nth ((bO R n).getD j []) i)=0:=λi hi=>by
    have:=h i hi
    rw[getS,y0 i hi] at this
    omega
   have iS:Indep n (bu R n):=by rw[eQ];exact yR ql
   have iP:Indep n (bO R n):=by rw[eP];exact yR pl
   intro j hj
   rw[List.length_append] at hj
   rcases Nat.lt_or_ge j (bu R n).length with q | q
   ·exact iS t y0 j q
   ·have:=iP (λm=>t ((bu R n).length+m)) p0 (j-(bu R n).length) (by omega)
    rwa [show (bu R n).length+(j-(bu R n).length)=j by omega] at this
 rw[List.length_append] at lo hi
 omega
end M
set_option maxRecDepth 100000
set_option maxHeartbeats 4000000
namespace M
structure Fit(n:Nat)(R:List (List Int))(x:List Int):Prop where
 len:x.length=n
 nn:∀i,0<=nth x i
 st:∀r∈R,bQ n (nth r) (nth x)=0
 nz:∃i,nth x i≠0
def Sub(x y:List Int):Prop:=∀i,nth x i≠0->nth y i≠0
structure cT(n:Nat)(R:List (List Int))(x:List Int):Prop where
 fit:Fit n R x
 one:cG x=1
 min:∀y,Fit n R y->Sub y x->Sub x y
theorem Sub.refl(x:List Int):Sub x x:=λ_ h=>h
theorem Sub.trans{x y z:List Int}(a:Sub x y)(b:Sub y z):Sub x z:=λi h=>b i (a i h)
theorem Fit.lt{n:Nat}{R:List (List Int)}{x:List Int}(f:Fit n R x){i:Nat}(h:nth x i≠0):i<n:=by
 by_cases hi:i<n
 ·exact hi
 ·exact absurd (iq (by rw[f.len];omega)) h
theorem Fit.low{n:Nat}{R:List (List Int)}{x:List Int}(f:Fit n R x):Fit n R (low x)/\cG (M.low x)=1/\Sub (M.low x) x/\Sub x (M.low x):=by
 have hp:=o6 x
 have hi:∀i,nth (M.low x) i≠0↔nth x i≠0:=λi=>by
  rw[pP x i]
  constructor
  ·exact λh=>Int.mul_ne_zero (by omega) h
  ·intro h z;rw[z] at h;exact h (by omega)
 obtain⟨j,hj⟩:=f.nz
 refine⟨⟨by rw[low_length,f.len],λi=> ?_,λr hr=> ?_,⟨j,(hi j).mpr hj⟩⟩,CD hj,λi=>(hi i).mp,λi=>(hi i).mpr⟩
 ·have:=f.nn i
  rw[pP x i] at this
  by_cases h:0<=nth (M.low x) i
  ·exact h
  ·have:=Int.mul_neg_of_pos_of_neg hp (by omega:nth (M.low x) i<0);omega
 ·have:=f.st r hr
  rw[cy]
  rw[cy] at this
  exact(uW n x (nth r)).mpr this
theorem Ca{a b c d e f:Int}(hb:0<b)(hd:0<d)(hf:0<f)(h1:a*d<=c*b)(h2:c*f<=e*d):a*f<=e*b:=by
 have e1:a*d*f<=c*b*f:=Int.mul_le_mul_of_nonneg_right h1 (by omega)
 have e2:c*f*b<=e*d*b:=Int.mul_le_mul_of_nonneg_right h2 (by omega)
 have:(a*f)*d<=(e*b)*d:=by
  have q1:a*d*f=(a*f)*d:=by grind
  have q2:c*b*f=c*f*b:=by grind
  have q3:e*d*b=(e*b)*d:=by grind
  omega
 exact Int.le_of_mul_le_mul_right this hd
theorem Et(a b:Nat->Int)(hb:∀i,0<=b i):∀n,(∃i,i<n/\b i≠0)->∃m,m<n/\b m≠0/\∀i,i<n->b i≠0->a m*b i<=a i*b m
 | 0,h=>by obtain⟨i,hi,_⟩:=h;omega
 | n+1,h=>by
  by_cases hn:∃i,i<n/\b i≠0
  ·obtain⟨m,hm,hz,hl⟩:=Et a b hb n hn
   by_cases hbn:b n=0
   ·refine⟨m,by omega,hz,λi hi hi0=> ?_⟩
    by_cases e:i=n
    ·subst e;exact absurd hbn hi0
    ·exact hl i (by omega) hi0
   ·by_cases hc:a m*b n<=a n*b m
    ·refine⟨m,by omega,hz,λi hi hi0=> ?_⟩
     by_cases e:i=n
     ·subst e;exact hc
     ·exact hl i (by omega) hi0
    ·refine⟨n,by omega,hbn,λi hi hi0=> ?_⟩
     by_cases e:i=n
     ·subst e;omega
     ·have:=hb n;have:=hb m;have:=hb i
      exact Ca (by omega) (by omega:0<b m) (by omega) (by omega) (hl i (by omega) hi0)
  ·obtain⟨i,hi,hi0⟩:=h
   have e:i=n:=by
    by_cases e:i=n
    ·exact e
    ·exact absurd ⟨i,by omega,hi0⟩ hn
   subst e
   refine⟨i,by omega,hi0,λj hj hj0=> ?_⟩
   by_cases e:j=i
   ·subst e;omega
   ·exact absurd ⟨j,by omega,hj0⟩ hn
theorem uQ{n:Nat}{R:List (List Int)}{x y:List Int}(fx:Fit n R x)(fy:Fit n R y)(hs:Sub y x):
 ∃z:List Int,z.length=n/\(∀i,0<=nth z i)/\Sub z x/\∃c d:Int,0<c/\0<d/\(∀i,nth z i=c*nth x i-d*nth y i)/\∃m,nth y m≠0/\nth z m=0:=by
 obtain⟨j,hj⟩:=fy.nz
 obtain⟨m,hm,hz,hl⟩:=Et (nth x) (nth y) fy.nn n ⟨j,fy.lt hj,hj⟩
 have hlen:x.length=y.length:=by rw[fx.len,fy.len]
 have hxm:=fx.nn m
 have hym:=fy.nn m
 have hxm0:=hs m hz
 have hnth:∀i,nth (kC x (nth x m) y (nth y m)) i=nth y m*nth x i-nth x m*nth y i:=λi=>by rw[A7 hlen];grind
 refine⟨kC x (nth x m) y (nth y m),by rw[ph hlen,fx.len],λi=> ?_,λi hi=> ?_,nth y m,nth x m,by omega,by omega,hnth,m,hz,by rw[hnth];grind⟩
 ·rw[hnth]
  by_cases hy:nth y i=0
  ·rw[hy]
   have:=Int.mul_nonneg hym (fx.nn i)
   omega
  ·have:=hl i (fy.lt hy) hy
   have:nth y m*nth x i=nth x i*nth y m:=Int.mul_comm _ _
   omega
 ·rw[hnth] at hi
  intro z
  apply hi
  have:nth y i=0:=by
   by_cases hy:nth y i=0
   ·exact hy
   ·exact absurd z (hs i hy)
  rw[z,this];omega
theorem wK{n:Nat}{x y z:List Int}{c d:Int}(h:∀i,nth z i=c*nth x i-d*nth y i)(r:Nat->Int):bQ n r (nth z)=c*bQ n r (nth x)-d*bQ n r (nth y):=by
 have:=xy (n:=n) (a:=nth x) (b:=nth y) (u:=c) (v:= -d) r
 rw[cy,D7 (b:=λi=>c*nth x i + -d*nth y i) (λi _=>by rw[h i];grind),cy,this]
 grind
theorem wt{n:Nat}{R:List (List Int)}{x y z:List Int}(fx:Fit n R x)(fy:Fit n R y)(hl:z.length=n)(hn:∀i,0<=nth z i){c d:Int}(h:∀i,nth z i=c*nth x i-d*nth y i)(hz:∃i,nth z i≠0):Fit n R z:=
 ⟨hl,hn,λr hr=>by rw[wK h,fx.st r hr,fy.st r hr];omega,hz⟩
theorem cT.prop{n:Nat}{R:List (List Int)}{x y:List Int}(l:cT n R x)(fy:Fit n R y)(hs:Sub y x):∃a b:Int,0<a/\0<b/\∀i,a*nth x i=b*nth y i:=by
 obtain⟨z,zl,zn,zs,c,d,hc,hd,h,m,hm,hzm⟩:=uQ l.fit fy hs
 by_cases hz:∃i,nth z i≠0
 ·have fz:=wt l.fit fy zl zn h hz
  exact absurd hzm (l.min z fz zs m (hs m hm))
 ·refine⟨c,d,hc,hd,λi=> ?_⟩
  have:nth z i=0:=by
   by_cases e:nth z i=0
   ·exact e
   ·exact absurd ⟨i,e⟩ hz
  rw[h i] at this
  omega
theorem cT.eq{n:Nat}{R:List (List Int)}{x y:List Int}(l:cT n R x)(fy:Fit n R y)(h1:cG y=1)(hs:Sub y x):x=y:=by
 obtain⟨a,b,ha,hb,h⟩:=l.prop fy hs
 exact CC (by rw[l.fit.len,fy.len]) l.one h1 ha hb λi _=>h i
def cnt(x:List Int):Nat:=(x.filter (·≠0)).length
theorem EI:∀{x y:List Int},x.length=y.length->Sub x y->cnt x<=cnt y
 | [],[],_,_=>Nat.le_refl _
 | a::x,b::y,hl,hs=>by
  have ih:=EI (x:=x) (y:=y) (by simpa using hl) λi h=>hs (i+1) h
  have h0:a≠0->b≠0:=hs 0
  unfold cnt at *
  by_cases ha:a=0
  ·rw[List.filter_cons_of_neg (by simpa using ha)]
   by_cases hb:b=0
   ·rw[List.filter_cons_of_neg (by simpa using hb)];exact ih
   ·rw[List.filter_cons_of_pos (by simpa using hb),List.length_cons];omega
  ·rw[List.filter_cons_of_pos (by simpa using ha),List.filter_cons_of_pos (by simpa using h0 ha),List.length_cons,List.length_cons];omega
theorem rg:∀{x y:List Int} {m:Nat},x.length=y.length->Sub x y->nth y m≠0->nth x m=0->cnt x<cnt y
 | [],[],m,_,_,h,_=>by simp[nth] at h
 | a::x,b::y,0,hl,hs,h,h'=>by
  have ih:=EI (x:=x) (y:=y) (by simpa using hl) λi h=>hs (i+1) h
  have ha:a=0:=h'
  have hb:b≠0:=h
  unfold cnt at *
  rw[List.filter_cons_of_neg (by simpa using ha),List.filter_cons_of_pos (by simpa using hb),List.length_cons];omega
 | a::x,b::y,m+1,hl,hs,h,h'=>by
  have ih:=rg (x:=x) (y:=y) (m:=m) (by simpa using hl) (λi h=>hs (i+1) h) h h'
  have h0:a≠0->b≠0:=hs 0
  unfold cnt at *
  by_cases ha:a=0
  ·rw[List.filter_cons_of_neg (by simpa using ha)]
   by_cases hb:b=0
   ·rw[List.filter_cons_of_neg (by simpa using hb)];exact ih
   ·rw[List.filter_cons_of_pos (by simpa using hb),List.length_cons];omega
  ·rw[List.filter_cons_of_pos (by simpa using ha),List.filter_cons_of_pos (by simpa using h0 ha),List.length_cons,List.length_cons];omega
theorem v7{n:Nat}{R:List (List Int)}:∀(k:Nat) {x:List Int},cnt x<=k->Fit n R x->∃l,cT n R l/\Sub l x:=by
 intro k
 induction k with
 | zero=>
  intro x hk f
  obtain⟨i,hi⟩:=f.nz
  have:cnt (List.replicate n (0:Int))<cnt x:=rg (m:=i) (by rw[f.len];simp) (λj h=>by
   exfalso;apply h
   unfold nth
   rw[List.getD_eq_getElem?_getD,List.getElem?_replicate]
   split <;> rfl) hi (by
   unfold nth
   rw[List.getD_eq_getElem?_getD,List.getElem?_replicate]
   split <;> rfl)
  omega
 | succ k ih=>
  intro x hk f
  by_cases h:∃y,Fit n R y/\Sub y x/\¬Sub x y
  ·obtain⟨y,fy,h1,h2⟩:=h
   have:∃m,nth x m≠0/\nth y m=0:=by
    apply Classical.byContradiction
    intro hn
    exact h2 λi hi=>λz=>hn ⟨i,hi,z⟩
   obtain⟨m,hm,hm0⟩:=this
   have:=rg (by rw[fy.len,f.len]) h1 hm hm0
   obtain⟨l,hl,hs⟩:=ih (x:=y) (by omega) fy
   exact⟨l,hl,hs.trans h1⟩
  ·obtain⟨q1,q2,q3,q4⟩:=f.low
   refine⟨low x,⟨q1,q2,λy fy hs=> ?_⟩,q3⟩
   apply Classical.byContradiction
   intro hn
   exact h ⟨y,fy,hs.trans q3,λz=>hn (q3.trans z)⟩
theorem u6{n:Nat}{R:List (List Int)}(r:List Int):∀(k:Nat) {x:List Int},cnt x<=k->Fit n R x->0<bQ n (nth r) (nth x)->∃l,cT n R l/\Sub l x/\0<bQ n (nth r) (nth l):=by
 intro k
 induction k with
 | zero=>
  intro x hk f hv
  obtain⟨l,hl,hs⟩:=v7 0 hk f
  obtain⟨i,hi⟩:=f.nz
  have:cnt (List.replicate n (0:Int))<cnt x:=rg (m:=i) (by rw[f.len];simp) (λj h=>by
   exfalso;apply h
   unfold nth
   rw[List.getD_eq_getElem?_getD,List.getElem?_replicate]
   split <;> rfl) hi (by
   unfold nth
   rw[List.getD_eq_getElem?_getD,List.getElem?_replicate]
   split <;> rfl)
  omega
 | succ k ih=>
  intro x hk f hv
  obtain⟨l,hl,hs⟩:=v7 (k+1) hk f
  by_cases hp:0<bQ n (nth r) (nth l)
  ·exact⟨l,hl,hs,hp⟩
  ·obtain⟨z,zl,zn,zs,c,d,hc,hd,h,m,hm,hzm⟩:=uQ f hl.fit hs
   have ev:=wK (n:=n) h (nth r)
   have h1:=Int.mul_pos hc hv
   have h2:=Int.mul_nonpos_of_nonneg_of_nonpos (show 0<=d by omega) (show bQ n (nth r) (nth l)<=0 by omega)
   have hz:∃i,nth z i≠0:=by
    apply Classical.byContradiction
    intro hn
    have:bQ n (nth r) (nth z)=0:=eO λi _=>by
     have:nth z i=0:=by
      by_cases e:nth z i=0
      ·exact e
      ·exact absurd ⟨i,e⟩ hn
     rw[this];omega
    omega
   have fz:=wt f hl.fit zl zn h hz
   have:=rg (by rw[zl,f.len]) zs (hs m hm) hzm
   obtain⟨l',q1,q2,q3⟩:=ih (x:=z) (by omega) fz (by omega)
   exact⟨l',q1,q2.trans zs,q3⟩
theorem kc(n:Nat)(r x:List Int):bQ n (nth (r.map (- ·))) (nth x)= -bQ n (nth r) (nth x):=by
 have:=qg (n:=n) (a:=r.map (- ·)) (c:=r) (g:= -1) (λi=>by rw[kP (by simp)];omega) (nth x)
 rw[<- gB,this,gB];omega
theorem vO{n:Nat}{R:List (List Int)}(r:List Int){x:List Int}(f:Fit n R x)(hv:bQ n (nth r) (nth x)<0):∃l,cT n R l/\Sub l x/\bQ n (nth r) (nth l)<0:=by
 obtain⟨l,h1,h2,h3⟩:=u6 (r.map (- ·)) _ (Nat.le_refl _) f (by rw[kc];omega)
 rw[kc] at h3
 exact⟨l,h1,h2,by omega⟩
theorem xP{n:Nat}{R:List (List Int)}(r:List Int){x:List Int}(f:Fit n R x)(hv:bQ n (nth r) (nth x)=0):
 (∃l,cT n R l/\Sub l x/\bQ n (nth r) (nth l)=0)\/∃h w,cT n R h/\cT n R w/\Sub h x/\Sub w x/\0<bQ n (nth r) (nth h)/\bQ n (nth r) (nth w)<0:=by
 obtain⟨l,hl,hs⟩:=v7 _ (Nat.le_refl _) f
 by_cases h0:bQ n (nth r) (nth l)=0
 ·exact .inl ⟨l,hl,hs,h0⟩
 ·obtain⟨z,zl,zn,zs,c,d,hc,hd,h,m,hm,hzm⟩:=uQ f hl.fit hs
  have ev:=wK (n:=n) h (nth r)
  rw[hv] at ev
  have hne:bQ n (nth r) (nth z)≠0:=by
   rw[ev]
   have:=Int.mul_ne_zero (show d≠0 by omega) h0
   omega
  have hz:∃i,nth z i≠0:=by
   apply Classical.byContradiction
   intro hn
   exact hne (eO λi _=>by
    have:nth z i=0:=by
     by_cases e:nth z i=0
     ·exact e
     ·exact absurd ⟨i,e⟩ hn
    rw[this];omega)
  have fz:=wt f hl.fit zl zn h hz
  by_cases hp:0<bQ n (nth r) (nth l)
  ·have:=Int.mul_pos hd hp
   obtain⟨w,w1,w2,w3⟩:=vO r fz (by omega)
   exact .inr ⟨l,w,hl,w1,hs,w2.trans zs,hp,w3⟩
  ·have:=Int.mul_neg_of_pos_of_neg hd (show bQ n (nth r) (nth l)<0 by omega)
   obtain⟨w,w1,w2,w3⟩:=u6 r _ (Nat.le_refl _) fz (by omega)
   exact .inr ⟨w,l,w1,hl,w2.trans zs,hs,w3,by omega⟩
end M
set_option maxRecDepth 100000
set_option maxHeartbeats 4000000
namespace M
def subB(n:Nat)(l h w:List Int):Bool:=(List.range n).all λi=>decide (nth l i=0)||decide (nth h i≠0)||decide (nth w i≠0)
def nbB(n:Nat)(L:List (List Int))(h w:List Int):Bool:=(L.filter λl=>subB n l h w).length == 2
def dP(n:Nat)(L:List (List Int))(r:List Int):List (List Int):=
 (L.filter λl=>decide (aH r l=0))++(L.filter λl=>decide (0<aH r l)).flatMap λh=>((L.filter λl=>decide (aH r l<0)).filter λw=>nbB n L h w).map λw=>dh w (aH r w) h (aH r h)
theorem uF{n:Nat}{l h w:List Int}(hl:l.length=n):subB n l h w=true↔∀i,nth l i≠0->nth h i≠0\/nth w i≠0:=by
 unfold subB
 rw[List.all_eq_true]
 constructor
 ·intro H i hi
  have lt:i<n:=by
   by_cases e:i<n
   ·exact e
   ·exact absurd (iq (by omega)) hi
  have:=H i (List.mem_range.mpr lt)
  simp only[Bool.or_eq_true,decide_eq_true_eq] at this
  rcases this with(z | z) | z
  ·exact absurd z hi
  ·exact .inl z
  ·exact .inr z
 ·intro H i _
  simp only[Bool.or_eq_true,decide_eq_true_eq]
  by_cases e:nth l i=0
  ·exact .inl (.inl e)
  ·rcases H i e with z | z
   ·exact .inl (.inr z)
   ·exact .inr z
theorem Dt{α:Type}{L:List α}(hd:L.Nodup)(hl:L.length=2){h w:α}(hh:h∈L)(hw:w∈L)(hne:h≠w):∀l∈L,l=h\/l=w:=by
 match L,hl with
 | [a,b],_=>
  intro l hl
  simp only[List.mem_cons,List.not_mem_nil,or_false] at hh hw hl
  rcases hh with rfl | rfl <;> rcases hw with rfl | rfl <;> rcases hl with rfl | rfl <;> first | exact .inl rfl | exact .inr rfl | exact absurd rfl hne
theorem Ea{α:Type}{L:List α}(hd:L.Nodup){h w:α}(hh:h∈L)(hw:w∈L)(hne:h≠w)(ha:∀l∈L,l=h\/l=w):L.length=2:=by
 have h1:L.length<=2:=by
  match L,hd with
  | [],_=>simp
  | [_],_=>simp
  | [_,_],_=>simp
  | a::b::c::r,hd=>
   exfalso
   have ha1:=ha a (by simp);have hb1:=ha b (by simp);have hc1:=ha c (by simp)
   simp only[List.nodup_cons,List.mem_cons,not_or] at hd
   rcases ha1 with e1 | e1 <;> rcases hb1 with e2 | e2 <;> rcases hc1 with e3 | e3 <;> simp_all
 match L,hh,hw,h1 with
 | [a],hh,hw,_=>
  simp only[List.mem_singleton] at hh hw
  exact absurd (hh.trans hw.symm) hne
 | [a,b],_,_,_=>rfl
section
variable {n : Nat} {R L : List (List Int)} {r : List Int}
structure jo(n:Nat)(R L:List (List Int)):Prop where
 all:∀x,x∈L↔cT n R x
 nd:L.Nodup
theorem jo.dot(k:jo n R L){l:List Int}(h:l∈L)(r:List Int):aH r l=bQ n (nth r) (nth l):=lK ((k.all l).mp h).fit.len
theorem vA(k:jo n R L){h w:List Int}(hh:h∈L)(hw:w∈L)(hne:h≠w):nbB n L h w=true↔∀l∈L,(∀i,nth l i≠0->nth h i≠0\/nth w i≠0)->l=h\/l=w:=by
 have mem:∀l,l∈L.filter (λl=>subB n l h w)↔l∈L/\∀i,nth l i≠0->nth h i≠0\/nth w i≠0:=λl=>by
  rw[List.mem_filter]
  constructor
  ·exact λ⟨a,b⟩=>⟨a,(uF ((k.all l).mp a).fit.len).mp b⟩
  ·exact λ⟨a,b⟩=>⟨a,(uF ((k.all l).mp a).fit.len).mpr b⟩
 have nd:(L.filter (λl=>subB n l h w)).Nodup:=k.nd.filter _
 have m1:h∈L.filter (λl=>subB n l h w):=(mem h).mpr ⟨hh,λi hi=>.inl hi⟩
 have m2:w∈L.filter (λl=>subB n l h w):=(mem w).mpr ⟨hw,λi hi=>.inr hi⟩
 unfold nbB
 rw[beq_iff_eq]
 constructor
 ·exact λhl l h1 h2=>Dt nd hl m1 m2 hne l ((mem l).mpr ⟨h1,h2⟩)
 ·exact λha=>Ea nd m1 m2 hne λl hl=>let ⟨a,b⟩:=(mem l).mp hl;ha l a b
theorem lX(hr:r.length=n){h w:List Int}(fh:Fit n R h)(fw:Fit n R w)(vh:0<aH r h)(vw:aH r w<0):
 Fit n (R++[r]) (dh w (aH r w) h (aH r h))/\cG (dh w (aH r w) h (aH r h))=1/\(∀i,nth (dh w (aH r w) h (aH r h)) i≠0↔nth h i≠0\/nth w i≠0)/\
 ∃g:Int,0<g/\∀i,g*nth (dh w (aH r w) h (aH r h)) i=nth w i*aH r h+nth h i*(-(aH r w)):=by
 have hlen:w.length=h.length:=by rw[fw.len,fh.len]
 obtain⟨g,hg,e⟩:=qD hlen (aH r w) (aH r h)
 have e':∀i,g*nth (dh w (aH r w) h (aH r h)) i=nth w i*aH r h+nth h i*(-(aH r w)):=λi=>by rw[e i];grind
 have nz:∀i,nth (dh w (aH r w) h (aH r h)) i≠0↔nth h i≠0\/nth w i≠0:=λi=>by
  have h1:=Int.mul_nonneg (fw.nn i) (show 0<=aH r h by omega)
  have h2:=Int.mul_nonneg (fh.nn i) (show 0<= -(aH r w) by omega)
  constructor
  ·intro hz
   apply Classical.byContradiction
   intro hn
   have q1:nth h i=0:=by
    by_cases q:nth h i=0
    ·exact q
    ·exact absurd (.inl q) hn
   have q2:nth w i=0:=by
    by_cases q:nth w i=0
    ·exact q
    ·exact absurd (.inr q) hn
   have:=e' i
   rw[q1,q2] at this
   have:g*nth (dh w (aH r w) h (aH r h)) i=0:=by rw[this];omega
   rcases Int.mul_eq_zero.mp this with z | z
   ·omega
   ·exact hz z
  ·intro hor z
   have:=e' i
   rw[z] at this
   have hs:nth w i*aH r h+nth h i*(-(aH r w))=0:=by omega
   rcases hor with q | q
   ·have:=Int.mul_pos (show 0<nth h i by have:=fh.nn i;omega) (show 0 < -(aH r w) by omega);omega
   ·have:=Int.mul_pos (show 0<nth w i by have:=fw.nn i;omega) vh;omega
 have one:cG (dh w (aH r w) h (aH r h))=1:=by
  obtain⟨i,hi⟩:=fh.nz
  have q:nth (dh w (aH r w) h (aH r h)) i≠0:=(nz i).mpr (.inl hi)
  exact qa _ i q
 refine⟨⟨by rw[mF hlen,fw.len],λi=> ?_,λq hq=> ?_, ?_⟩,one,nz,g,hg,e'⟩
 ·have h1:=Int.mul_nonneg (fw.nn i) (show 0<=aH r h by omega)
  have h2:=Int.mul_nonneg (fh.nn i) (show 0<= -(aH r w) by omega)
  have:=e' i
  by_cases z:0<=nth (dh w (aH r w) h (aH r h)) i
  ·exact z
  ·have:=Int.mul_neg_of_pos_of_neg hg (show nth (dh w (aH r w) h (aH r h)) i<0 by omega);omega
 ·obtain⟨g',hg',ed⟩:=uM (n:=n) hlen (aH r w) (aH r h) (nth q)
  simp only[gB] at ed
  rw[cy]
  have z:g'*bQ n (nth (dh w (aH r w) h (aH r h))) (nth q)=0:=by
   rw[ed,cy n (nth w),cy n (nth h)]
   rcases List.mem_append.mp hq with hq | hq
   ·rw[fw.st q hq,fh.st q hq];omega
   ·rw[List.mem_singleton.mp hq,<- lK fw.len,<- lK fh.len];grind
  rcases Int.mul_eq_zero.mp z with z | z
  ·omega
  ·exact z
 ·obtain⟨i,hi⟩:=fh.nz
  exact⟨i,(nz i).mpr (.inl hi)⟩
theorem Fit.less{R S:List (List Int)}{x:List Int}(f:Fit n (R++S) x):Fit n R x:=⟨f.len,f.nn,λr hr=>f.st r (List.mem_append_left _ hr),f.nz⟩
theorem Fit.more(f:Fit n R x)(h:bQ n (nth r) (nth x)=0):Fit n (R++[r]) x:=⟨f.len,f.nn,λq hq=>by
 rcases List.mem_append.mp hq with z | z
 ·exact f.st q z
 ·rw[List.mem_singleton.mp z];exact h,f.nz⟩
theorem cT.same{x y:List Int}(a:cT n R x)(b:cT n R y)(h:Sub y x):x=y:=a.eq b.fit b.one h
theorem uh(hr:r.length=n){h l w x:List Int}(lh:cT n R h)(ll:cT n R l)(lw:cT n R w)(lx:cT n (R++[r]) x)(vh:0<aH r h)(vl:0<aH r l)(vw:aH r w<0)(sh:Sub h x)(sl:Sub l x)(sw:Sub w x):l=h:=by
 obtain⟨f1,g1,z1,a,ha,e1⟩:=lX hr lh.fit lw.fit vh vw
 obtain⟨f2,g2,z2,b,hb,e2⟩:=lX hr ll.fit lw.fit vl vw
 have x1:=lx.eq f1 g1 λi hi=>((z1 i).mp hi).elim (sh i) (sw i)
 have x2:=lx.eq f2 g2 λi hi=>((z2 i).mp hi).elim (sl i) (sw i)
 rw[<- x1] at e1
 rw[<- x2] at e2
 have key:∀i,b*(nth h i*(-(aH r w)))+(b*aH r h-a*aH r l)*nth w i=a*(nth l i*(-(aH r w))):=λi=>by
  have q1:=e1 i
  have q2:=e2 i
  have:b*(a*nth x i)=a*(b*nth x i):=by grind
  rw[q1,q2] at this
  grind
 have hu:0 < -(aH r w):=by omega
 by_cases hm:0<=b*aH r h-a*aH r l
 ·refine(cT.same ll lh λi hi=> ?_)
  intro z
  have q:=key i
  rw[z] at q
  have h1:=Int.mul_pos hb (Int.mul_pos (show 0<nth h i by have:=lh.fit.nn i;omega) hu)
  have h2:=Int.mul_nonneg hm (lw.fit.nn i)
  have h3:a*(0*(-(aH r w)))=0:=by simp
  omega
 ·refine(cT.same lh ll λi hi=> ?_).symm
  intro z
  have q:=key i
  rw[z] at q
  have h1:=Int.mul_pos ha (Int.mul_pos (show 0<nth l i by have:=ll.fit.nn i;omega) hu)
  have h2:=Int.mul_nonpos_of_nonpos_of_nonneg (show b*aH r h-a*aH r l<=0 by omega) (lw.fit.nn i)
  have h3:b*(0*(-(aH r w)))=0:=by simp
  omega
theorem uN{l:List Int}(hl:l.length=n):aH (r.map (- ·)) l= -(aH r l):=by rw[lK hl,lK hl,kc]
theorem cT.neg{x:List Int}(l:cT n (R++[r]) x):cT n (R++[r.map (- ·)]) x:=by
 have tr:∀y,Fit n (R++[r]) y↔Fit n (R++[r.map (- ·)]) y:=λy=>by
  constructor
  ·refine λf=>Fit.more f.less ?_
   rw[kc,f.st r (by simp)];rfl
  ·refine λf=>Fit.more f.less ?_
   have:=f.st (r.map (- ·)) (by simp)
   rw[kc] at this;omega
 exact⟨(tr x).mp l.fit,l.one,λy fy=>l.min y ((tr y).mpr fy)⟩
theorem Ab(hr:r.length=n){h l w x:List Int}(lh:cT n R h)(ll:cT n R l)(lw:cT n R w)(lx:cT n (R++[r]) x)(vh:0<aH r h)(vl:aH r l<0)(vw:aH r w<0)(sh:Sub h x)(sl:Sub l x)(sw:Sub w x):l=w:=
 uh (r:=r.map (- ·)) (h:=w) (l:=l) (w:=h) (by simpa using hr) lw ll lh lx.neg (by rw[uN lw.fit.len];omega) (by rw[uN ll.fit.len];omega) (by rw[uN lh.fit.len];omega) sw sl sh
theorem rA{x:List Int}:x∈dP n L r↔(x∈L/\aH r x=0)\/∃h w,h∈L/\w∈L/\0<aH r h/\aH r w<0/\nbB n L h w=true/\x=dh w (aH r w) h (aH r h):=by
 unfold dP
 rw[List.mem_append]
 constructor
 ·rintro (h | h)
  ·rw[List.mem_filter,decide_eq_true_eq] at h;exact .inl h
  ·obtain⟨h',q1,q2⟩:=List.mem_flatMap.mp h
   obtain⟨w,q3,rfl⟩:=List.mem_map.mp q2
   rw[List.mem_filter,decide_eq_true_eq] at q1
   rw[List.mem_filter,List.mem_filter,decide_eq_true_eq] at q3
   exact .inr ⟨h',w,q1.1,q3.1.1,q1.2,q3.1.2,q3.2,rfl⟩
 ·rintro (h | ⟨h',w,q1,q2,q3,q4,q5,rfl⟩)
  ·exact .inl (by rw[List.mem_filter,decide_eq_true_eq];exact h)
  ·refine .inr (List.mem_flatMap.mpr ⟨h',by rw[List.mem_filter,decide_eq_true_eq];exact⟨q1,q3⟩,List.mem_map.mpr ⟨w, ?_,rfl⟩⟩)
   rw[List.mem_filter,List.mem_filter,decide_eq_true_eq];exact⟨⟨q2,q4⟩,q5⟩
theorem za(hr:r.length=n)(k:jo n R L)(x:List Int):x∈dP n L r↔cT n (R++[r]) x:=by
 rw[rA]
 constructor
 ·rintro (⟨hx,v⟩ | ⟨h,w,hh,hw,vh,vw,nb,rfl⟩)
  ·have l:=(k.all x).mp hx
   rw[k.dot hx] at v
   exact⟨l.fit.more v,l.one,λy fy=>l.min y fy.less⟩
  ·have lh:=(k.all h).mp hh
   have lw:=(k.all w).mp hw
   have hne:h≠w:=λe=>by rw[e] at vh;omega
   obtain⟨f1,g1,z1,_⟩:=lX hr lh.fit lw.fit vh vw
   refine⟨f1,g1,λy fy sy=> ?_⟩
   have nb':=(vA k hh hw hne).mp nb
   rcases xP r fy.less (fy.st r (by simp)) with⟨l,ll,sl,v⟩ | ⟨h',w',lh',lw',sh',sw',vh',vw'⟩
   ·have hl:=(k.all l).mpr ll
    have:=nb' l hl λi hi=>(z1 i).mp (sy i (sl i hi))
    rw[<- k.dot hl] at v
    rcases this with rfl | rfl <;> omega
   ·have hh':=(k.all h').mpr lh'
    have hw':=(k.all w').mpr lw'
    rw[<- k.dot hh'] at vh'
    rw[<- k.dot hw'] at vw'
    have e1:h'=h:=by
     rcases nb' h' hh' λi hi=>(z1 i).mp (sy i (sh' i hi)) with e | e
     ·exact e
     ·rw[e] at vh';omega
    have e2:w'=w:=by
     rcases nb' w' hw' λi hi=>(z1 i).mp (sy i (sw' i hi)) with e | e
     ·rw[e] at vw';omega
     ·exact e
    subst e1 e2
    exact λi hi=>((z1 i).mp hi).elim (sh' i) (sw' i)
 ·intro lx
  by_cases hz:∃l,cT n R l/\Sub l x/\bQ n (nth r) (nth l)=0
  ·obtain⟨l,ll,sl,v⟩:=hz
   have e:=lx.eq (ll.fit.more v) ll.one sl
   subst e
   have hl:=(k.all x).mpr ll
   exact .inl ⟨hl,by rw[k.dot hl];exact v⟩
  ·rcases xP r lx.fit.less (lx.fit.st r (by simp)) with h0 | ⟨h,w,lh,lw,sh,sw,vh,vw⟩
   ·exact absurd h0 hz
   ·have hh:=(k.all h).mpr lh
    have hw:=(k.all w).mpr lw
    rw[<- k.dot hh] at vh
    rw[<- k.dot hw] at vw
    have hne:h≠w:=λe=>by rw[e] at vh;omega
    obtain⟨f1,g1,z1,_⟩:=lX hr lh.fit lw.fit vh vw
    refine .inr ⟨h,w,hh,hw,vh,vw,(vA k hh hw hne).mpr λl hl sl=> ?_,lx.eq f1 g1 λi hi=>((z1 i).mp hi).elim (sh i) (sw i)⟩
    have ll:=(k.all l).mp hl
    have slx:Sub l x:=λi hi=>(sl i hi).elim (sh i) (sw i)
    by_cases v0:aH r l=0
    ·exact absurd ⟨l,ll,slx,by rw[<- k.dot hl];exact v0⟩ hz
    ·by_cases vp:0<aH r l
     ·exact .inl (uh hr lh ll lw lx vh vp vw sh slx sw)
     ·exact .inr (Ab hr lh ll lw lx vh (by omega) vw sh slx sw)
end
end M
set_option maxRecDepth 100000
set_option maxHeartbeats 4000000
namespace M
section
variable {n : Nat} {R L : List (List Int)} {r : List Int}
theorem CL (hr:r.length=n) (k:jo n R L) {h w h' w':List Int} (hh:h∈L) (hw:w∈L) (vh:0<aH r h) (vw:aH r w<0) (nb:nbB n L h w=true)
 (hh':h'∈L) (hw':w'∈L) (vh':0<aH r h') (vw':aH r w'<0) (e:dh w (aH r w) h (aH r h)=dh w' (aH r w') h' (aH r h')):h=h'/\w=w':=by
 have hne:h≠w:=λe=>by rw[e] at vh;omega
 obtain⟨_,_,z1,_⟩:=lX hr ((k.all h).mp hh).fit ((k.all w).mp hw).fit vh vw
 obtain⟨_,_,z2,_⟩:=lX hr ((k.all h').mp hh').fit ((k.all w').mp hw').fit vh' vw'
 rw[e] at z1
 have nb':=(vA k hh hw hne).mp nb
 constructor
 ·rcases nb' h' hh' λi hi=>(z1 i).mp ((z2 i).mpr (.inl hi)) with q | q
  ·exact q.symm
  ·rw[q] at vh';omega
 ·rcases nb' w' hw' λi hi=>(z1 i).mp ((z2 i).mpr (.inr hi)) with q | q
  ·rw[q] at vw';omega
  ·exact q.symm
theorem BK(hr:r.length=n)(k:jo n R L):(dP n L r).Nodup:=by
 unfold dP
 rw[List.nodup_append]
 refine⟨k.nd.filter _, ?_,λx hx y hy e=> ?_⟩
 ·unfold List.Nodup
  rw[List.pairwise_flatMap]
  constructor
  ·intro h hh
   rw[List.mem_filter,decide_eq_true_eq] at hh
   rw[List.pairwise_map]
   refine List.Pairwise.imp_of_mem (λ{w w'} hw hw' hne=> ?_) ((k.nd.filter _).filter _)
   rw[List.mem_filter,List.mem_filter,decide_eq_true_eq] at hw hw'
   exact λe=>hne (CL hr k hh.1 hw.1.1 hh.2 hw.1.2 hw.2 hh.1 hw'.1.1 hh.2 hw'.1.2 e).2
  ·refine List.Pairwise.imp_of_mem (λ{h h'} hh hh' hne x hx y hy=> ?_) (k.nd.filter _)
   rw[List.mem_filter,decide_eq_true_eq] at hh hh'
   obtain⟨w,hw,rfl⟩:=List.mem_map.mp hx
   obtain⟨w',hw',rfl⟩:=List.mem_map.mp hy
   rw[List.mem_filter,List.mem_filter,decide_eq_true_eq] at hw hw'
   exact λe=>hne (CL hr k hh.1 hw.1.1 hh.2 hw.1.2 hw.2 hh'.1 hw'.1.1 hh'.2 hw'.1.2 e).1
 ·subst e
  rw[List.mem_filter,decide_eq_true_eq] at hx
  obtain⟨h,hh,hy⟩:=List.mem_flatMap.mp hy
  obtain⟨w,hw,e⟩:=List.mem_map.mp hy
  rw[List.mem_filter,decide_eq_true_eq] at hh
  rw[List.mem_filter,List.mem_filter,decide_eq_true_eq] at hw
  have hne:h≠w:=λe=>by rw[e] at hh;omega
  obtain⟨_,_,z1,_⟩:=lX hr ((k.all h).mp hh.1).fit ((k.all w).mp hw.1.1).fit hh.2 hw.1.2
  rw[e] at z1
  rcases(vA k hh.1 hw.1.1 hne).mp hw.2 x hx.1 λi hi=>(z1 i).mp hi with q | q
  ·rw[q] at hx;omega
  ·rw[q] at hx;omega
theorem jo.step(hr:r.length=n)(k:jo n R L):jo n (R++[r]) (dP n L r):=⟨za hr k,BK hr k⟩
theorem wZ{a:Nat}(ha:a<n):cG (fu n a)=1:=by
 have:=oP (fu n a) a
 rw[dR ha,if_pos rfl] at this
 have:(cG (fu n a):Int).natAbs ∣ (1:Int).natAbs:=Int.natAbs_dvd_natAbs.mpr this
 simpa using this
theorem zr{a:Nat}(ha:a<n):Fit n [] (fu n a):=by
 refine⟨by unfold fu;simp,λi=> ?_,by simp,⟨a, ?_⟩⟩
 ·rw[dR ha];split <;> omega
 ·rw[dR ha,if_pos rfl];decide
theorem E6{a:Nat}(ha:a<n):cT n [] (fu n a):=by
 refine⟨zr ha,wZ ha,λy fy sy=>λi hi=> ?_⟩
 rw[dR ha] at hi
 by_cases e:i=a
 ·subst e
  obtain⟨j,hj⟩:=fy.nz
  have:=sy j hj
  rw[dR ha] at this
  by_cases e:j=i
  ·rw[<- e];exact hj
  ·rw[if_neg e] at this;exact absurd rfl this
 ·rw[if_neg e] at hi;exact absurd rfl hi
theorem DG(n:Nat):jo n [] (dj n):=by
 refine⟨λx=>⟨λhx=> ?_,λl=> ?_⟩, ?_⟩
 ·obtain⟨a,ha,rfl⟩:=List.mem_map.mp hx
  exact E6 (List.mem_range.mp ha)
 ·obtain⟨i,hi⟩:=l.fit.nz
  have lt:=l.fit.lt hi
  have:=l.eq (zr lt) (wZ lt) λj hj=>by
   rw[dR lt] at hj
   by_cases e:j=i
   ·rw[e];exact hi
   ·rw[if_neg e] at hj;exact absurd rfl hj
  rw[this]
  exact List.mem_map.mpr ⟨i,List.mem_range.mpr lt,rfl⟩
 ·unfold dj List.Nodup
  rw[List.pairwise_map]
  refine List.Pairwise.imp_of_mem (λ{a b} ha hb hne e=>hne ?_) List.nodup_range
  have h1:=dR (List.mem_range.mp ha) a
  rw[e,dR (List.mem_range.mp hb),if_pos rfl] at h1
  by_cases q:a=b
  ·exact q
  ·rw[if_neg q] at h1;cases h1
theorem xq:∀{rows:List (List Int)},(∀r∈rows,r.length=n)->∀{R L:List (List Int)},jo n R L->jo n (R++rows) (rows.foldl (dP n) L)
 | [],_,R,L,k=>by simpa using k
 | row::rows,h,R,L,k=>by
  have:=xq (rows:=rows) (λr hr=>h r (List.mem_cons_of_mem _ hr)) (k.step (h row List.mem_cons_self))
  simpa using this
def oB(rows:List (List Int))(n:Nat):List (List Int):=rows.foldl (dP n) (dj n)
theorem rh{rows:List (List Int)}(h:∀r∈rows,r.length=n):jo n rows (oB rows n):=by
 have:=xq h (DG n)
 rw[List.nil_append] at this
 exact this
end
end M
set_option maxRecDepth 100000
set_option maxHeartbeats 4000000
namespace M
section
variable {n : Nat} {R L : List (List Int)}
theorem Fp{c:List Int}(h:∀l,cT n R l->0<=bQ n (nth c) (nth l)){y:List Int}(fy:Fit n R y):0<=bQ n (nth c) (nth y):=by
 by_cases hv:0<=bQ n (nth c) (nth y)
 ·exact hv
 ·obtain⟨l,h1,_,h3⟩:=vO c fy (by omega)
  have:=h l h1
  omega
end
end M
set_option maxRecDepth 100000
set_option maxHeartbeats 1000000
namespace M
theorem uS:∀(N:Nat) (l:List Nat),l.Nodup->(∀x∈l,x<N)->l.length<=N
 | 0,l,_,h=>by
  cases l with
  | nil=>exact Nat.le_refl _
  | cons a l=>exact absurd (h a List.mem_cons_self) (by omega)
 | N+1,l,nd,h=>by
  by_cases hm:N∈l
  ·have:=uS N (l.erase N) (nd.erase N) (λx hx=>by
    have h1:=(nd.mem_erase_iff.mp hx)
    have:=h x h1.2
    have:=h1.1
    omega)
   rw[List.length_erase_of_mem hm] at this
   omega
  ·have:=uS N l nd (λx hx=>by
    have h1:=h x hx
    have:x≠N:=λe=>hm (e▸hx)
    omega)
   omega
def at0(x:List Int)(i:Nat):Bool:=decide (nth x i≠0)
def cl3(a b c:Bool):Nat:=match a,b,c with
 | false,true,_=>1
 | false,false,true=>2
 | true,false,true=>2
 | _,_,_=>0
theorem zk(a b c:Bool):cl3 a b c<=2:=by revert a b c;decide
theorem EN:∀a b c a' b' c':Bool,cl3 a b c=cl3 a' b' c'->((a=true->a'=true)/\(b=true->b'=true)/\(c=true->c'=true))\/((a'=true->a=true)/\(b'=true->b=true)/\(c'=true->c=true)):=by decide
def wj(x:List Int):Nat:=3*((at0 x 3).toNat+2*(at0 x 4).toNat+4*(at0 x 5).toNat+8*(at0 x 6).toNat)+cl3 (at0 x 0) (at0 x 1) (at0 x 2)
theorem toNat_le(b:Bool):b.toNat<=1:=by cases b <;> decide
theorem toNat_inj{a b:Bool}(h:a.toNat=b.toNat):a=b:=by revert a b;decide
theorem I0(x:List Int):wj x<48:=by
 have:=zk (at0 x 0) (at0 x 1) (at0 x 2)
 have:=toNat_le (at0 x 3)
 have:=toNat_le (at0 x 4)
 have:=toNat_le (at0 x 5)
 have:=toNat_le (at0 x 6)
 unfold wj
 omega
theorem Eu{x y:List Int}(hx:x.length<=7)(h:∀i,i<7->at0 x i=true->at0 y i=true):Sub x y:=λi hi=>by
 by_cases h7:i<7
 ·exact of_decide_eq_true (h i h7 (decide_eq_true hi))
 ·exact absurd (iq (by omega)) hi
theorem IS{n:Nat}{R:List (List Int)}{x y:List Int}(hn:n<=7)(lx:cT n R x)(ly:cT n R y)(h:wj x=wj y):x=y:=by
 have a1:=zk (at0 x 0) (at0 x 1) (at0 x 2)
 have a2:=zk (at0 y 0) (at0 y 1) (at0 y 2)
 have b3:=toNat_le (at0 x 3);have c3:=toNat_le (at0 y 3)
 have b4:=toNat_le (at0 x 4);have c4:=toNat_le (at0 y 4)
 have b5:=toNat_le (at0 x 5);have c5:=toNat_le (at0 y 5)
 have b6:=toNat_le (at0 x 6);have c6:=toNat_le (at0 y 6)
 unfold wj at h
 have e3:at0 x 3=at0 y 3:=toNat_inj (by omega)
 have e4:at0 x 4=at0 y 4:=toNat_inj (by omega)
 have e5:at0 x 5=at0 y 5:=toNat_inj (by omega)
 have e6:at0 x 6=at0 y 6:=toNat_inj (by omega)
 have e:cl3 (at0 x 0) (at0 x 1) (at0 x 2)=cl3 (at0 y 0) (at0 y 1) (at0 y 2):=by omega
 have lenx:x.length<=7:=by rw[lx.fit.len];exact hn
 have leny:y.length<=7:=by rw[ly.fit.len];exact hn
 rcases EN _ _ _ _ _ _ e with⟨q0,q1,q2⟩ | ⟨q0,q1,q2⟩
 ·refine(ly.same lx (Eu lenx λi hi ht=> ?_)).symm
  have:i=0\/i=1\/i=2\/i=3\/i=4\/i=5\/i=6:=by omega
  rcases this with rfl | rfl | rfl | rfl | rfl | rfl | rfl
  ·exact q0 ht
  ·exact q1 ht
  ·exact q2 ht
  ·rw[<- e3];exact ht
  ·rw[<- e4];exact ht
  ·rw[<- e5];exact ht
  ·rw[<- e6];exact ht
 ·refine lx.same ly (Eu leny λi hi ht=> ?_)
  have:i=0\/i=1\/i=2\/i=3\/i=4\/i=5\/i=6:=by omega
  rcases this with rfl | rfl | rfl | rfl | rfl | rfl | rfl
  ·exact q0 ht
  ·exact q1 ht
  ·exact q2 ht
  ·rw[e3];exact ht
  ·rw[e4];exact ht
  ·rw[e5];exact ht
  ·rw[e6];exact ht
theorem xT{α β:Type}{f:α->β}:∀{l:List α},l.Nodup->(∀x∈l,∀y∈l,f x=f y->x=y)->(l.map f).Nodup
 | [],_,_=>List.nodup_nil
 | a::l,nd,h=>by
  rw[List.map_cons,List.nodup_cons]
  rw[List.nodup_cons] at nd
  refine⟨λhm=> ?_,xT nd.2 λx hx y hy=>h x (List.mem_cons_of_mem _ hx) y (List.mem_cons_of_mem _ hy)⟩
  obtain⟨b,hb,e⟩:=List.mem_map.mp hm
  exact nd.1 (h b (List.mem_cons_of_mem _ hb) a List.mem_cons_self e▸hb)
theorem jo.few{n:Nat}{R L:List (List Int)}(k:jo n R L)(hn:n<=7):L.length<64:=by
 have:=uS 48 (L.map wj) (xT k.nd λx hx y hy e=>IS hn ((k.all x).mp hx) ((k.all y).mp hy) e) λc hc=>by
  obtain⟨x,_,rfl⟩:=List.mem_map.mp hc
  exact I0 x
 rw[List.length_map] at this
 omega
theorem Hl{n b c:Nat}{L:List (List Int)}{r:List Int}(hr:SzL c r)(hl:r.length<=1000)(hL:fH b L):fH (2*b+c+12) (dP n L r):=by
 intro x hx
 rcases rA.mp hx with⟨h,_⟩ | ⟨h,w,hh,hw,_,_,_,rfl⟩
 ·exact(hL x h).mono (by omega)
 ·exact(SzL.off (hL w hw) (hL h hh) (sf hr (hL w hw) hl) (sf hr (hL h hh) hl)).mono (by omega)
def sS(c:Nat):Nat->Nat->Nat
 | 0,b=>b
 | m+1,b=>sS c m (2*b+c+12)
theorem AO{n c:Nat}:∀(rows:List (List Int)) (b:Nat) (L:List (List Int)),(∀r∈rows,SzL c r/\r.length<=1000)->fH b L->fH (sS c rows.length b) (rows.foldl (dP n) L)
 | [],b,L,_,h=>h
 | r::rows,b,L,hr,h=>AO rows _ _ (λq hq=>hr q (List.mem_cons_of_mem _ hq)) (Hl (hr r List.mem_cons_self).1 (hr r List.mem_cons_self).2 h)
theorem Bh(c:Nat):∀(m b:Nat),b<=sS c m b
 | 0,_=>Nat.le_refl _
 | m+1,b=>Nat.le_trans (by omega) (Bh c m (2*b+c+12))
theorem xB(c:Nat):∀(m m' b:Nat),m<=m'->sS c m b<=sS c m' b
 | 0,m',b,_=>Bh c m' b
 | m+1,0,b,h=>absurd h (by omega)
 | m+1,m'+1,b,h=>xB c m m' _ (by omega)
def dc(x:List Int):Nat:=x.foldl (λb y=>b*2+if 0<y then 1 else 0) 0
theorem CN:∀(x:List Int) (b i:Nat),(x.foldl (λb y=>b*2+if 0<y then 1 else 0) b).testBit i=if i<x.length then decide (0<nth x (x.length-1-i)) else b.testBit (i-x.length)
 | [],b,i=>by simp
 | y::x,b,i=>by
  rw[List.foldl_cons,CN x]
  have c1:(if 0<y then 1 else 0:Nat)<=1:=by split <;> omega
  have c2:decide ((if 0<y then 1 else 0:Nat)=1)=decide (0<y):=by
   by_cases hy:0<y
   ·rw[if_pos hy,decide_eq_true hy];rfl
   ·rw[if_neg hy,decide_eq_false hy];rfl
  generalize (if 0<y then 1 else 0:Nat)=c at c1 c2
  by_cases h:i<x.length
  ·rw[if_pos h,if_pos (by simp;omega)]
   congr 2
   show nth x (x.length-1-i)=nth (y::x) (x.length+1-1-i)
   rw[show x.length+1-1-i=(x.length-1-i)+1 by omega]
   rfl
  ·rw[if_neg h]
   by_cases h2:i=x.length
   ·subst h2
    rw[if_pos (by simp),Nat.sub_self,Nat.testBit_zero]
    show _=decide (0<nth (y::x) (x.length+1-1-x.length))
    rw[show x.length+1-1-x.length=0 by omega]
    show _=decide (0<y)
    rw[<- c2]
    congr 1
    rw[eq_iff_iff]
    omega
   ·rw[if_neg (by simp;omega),List.length_cons,show i-x.length=(i-(x.length+1))+1 by omega,Nat.testBit_succ]
    congr 1
    omega
theorem n5(x:List Int)(i:Nat):(dc x).testBit i=decide (i<x.length/\0<nth x (x.length-1-i)):=by
 unfold dc
 rw[CN]
 by_cases h:i<x.length
 ·rw[if_pos h]
  by_cases h2:0<nth x (x.length-1-i)
  ·rw[decide_eq_true h2,decide_eq_true ⟨h,h2⟩]
  ·rw[decide_eq_false h2,decide_eq_false (λz=>h2 z.2)]
 ·rw[if_neg h,decide_eq_false (λz=>h z.1),Nat.zero_testBit]
theorem FK{a b:Nat}:a|||b=b↔∀i,a.testBit i=true->b.testBit i=true:=by
 constructor
 ·intro h i hi
  rw[<- h,Nat.testBit_or,hi,Bool.true_or]
 ·intro h
  refine Nat.eq_of_testBit_eq λi=> ?_
  rw[Nat.testBit_or]
  cases ha:a.testBit i with
  | true=>rw[h i ha];rfl
  | false=>rw[Bool.false_or]
theorem bits_sub{n:Nat}{l h w:List Int}(hl:l.length=n)(hh:h.length=n)(hw:w.length=n)(nl:∀i,0<=nth l i)(nh:∀i,0<=nth h i)(nw:∀i,0<=nth w i):decide (dc l|||(dc h|||dc w)=dc h|||dc w)=subB n l h w:=by
 rw[Bool.eq_iff_iff,decide_eq_true_eq,FK,uF hl]
 constructor
 ·intro H i hi
  have lt:i<n:=by
   by_cases e:i<n
   ·exact e
   ·exact absurd (iq (by omega)) hi
  have:=H (n-1-i) (by
   rw[n5]
   refine decide_eq_true ⟨by omega, ?_⟩
   rw[hl,show n-1-(n-1-i)=i by omega]
   have:=nl i
   omega)
  rw[Nat.testBit_or,Bool.or_eq_true,n5,n5,decide_eq_true_eq,decide_eq_true_eq,hh,hw,show n-1-(n-1-i)=i by omega] at this
  rcases this with z | z
  ·exact .inl (by omega)
  ·exact .inr (by omega)
 ·intro H i hi
  rw[n5,decide_eq_true_eq,hl] at hi
  rw[Nat.testBit_or,Bool.or_eq_true,n5,n5,decide_eq_true_eq,decide_eq_true_eq,hh,hw]
  rcases H (n-1-i) (by omega) with z | z
  ·have:=nh (n-1-i)
   exact .inl ⟨hi.1,by omega⟩
  ·have:=nw (n-1-i)
   exact .inr ⟨hi.1,by omega⟩
end M
set_option maxRecDepth 100000
set_option maxHeartbeats 1000000
namespace M
structure Tight(left y:List Int)(a:Nat):Prop where
 pos:0<nth y a
 min:∀i,0<nth y i->nth left a*nth y i<=nth left i*nth y a
abbrev Sh:Type:=(Int×Int)×List Int
def psS(i:Nat)(T:List Sh):Int×Int:=T.foldl (λq s=>(q.1*s.1.2,s.1.2*q.2+s.1.1*q.1*nth s.2 i)) (1,0)
structure Red(n:Nat)(left y:List Int)(bot:Int)(a:Nat)(g:Int)(l':List Int)(b':Int):Prop where
 gp:0<g
 len:l'.length=n
 lv:∀i,g*nth l' i=nth left i*nth y a-nth y i*nth left a
 bv:g*b'=bot*nth y a
structure Shr(n:Nat)(R:List (List Int))(fit:List Int)(c:Nat)(ps:List (List Int))(T:List Sh)(left:List Int)(bot:Int):Prop where
 len:left.length=n
 nn:∀i,0<=nth left i
 bp:0<bot
 st:∀r∈R,bQ n (nth r) (nth left)=0
 sub:Sub left fit
 cn:T.length+cnt left<=cnt fit
 good:∀s∈T,0<s.1.1/\0<s.1.2/\Int.gcd s.1.1 s.1.2=1/\Sub s.2 fit
 sl:(T.map (·.2)).Sublist ps
 eq:∀i,bot*(psS i T).2+(psS i T).1*nth left i=(psS i T).1*bot*nth fit i
 no:∀y∈ps,¬Sub y left
 sz:SzL (c+8001*T.length) left
 szb:Sz (c+8001*T.length) bot
 szt:∀s∈T,Sz (c+8001*T.length) s.1.1/\Sz (c+8001*T.length) s.1.2
def mkS(C:Int)(i:Nat)(m:Int)(T:List Sh):Int:=T.foldl (λm s=>m+s.1.1*(C/s.1.2)*nth s.2 i) m
end M
set_option maxRecDepth 100000
set_option maxHeartbeats 4000000
namespace M
open PySem PySem.Spec PyProof.Rows L2
abbrev pyL(r:List Int):PyData:=.list (r.map PyData.int)
theorem AQ:∀A:List (List Int),iz (A.map vI)=some (A.map pyL)
 | []=>by simp[iz]
 | r::A=>by simp[iz,toPy,nF,AQ A]
theorem tL{O:au}:∀A:List (List Int),bA O (A.map vI)=A.map vI
 | []=>by simp[bA]
 | r::A=>by simp[bA,res,mL,tL A]
theorem u7:∀A:List (List Int),PyData.canLayAll0 (A.map pyL)=true
 | []=>by simp[PyData.canLayAll0]
 | r::A=>by simp[PyData.canLayAll0,PyData.canLay0,mz,u7 A]
theorem xC:∀A:List (List Int),PyData.depthAll (A.map pyL)<=1
 | []=>by simp[PyData.depthAll]
 | r::A=>by
  have:=xC A
  simp[PyData.depthAll,PyData.depth,nG]
  omega
theorem vc(A:List (List Int)):SeqAt.shaped (.list (A.map pyL))=true:=by
 have:=xC A
 simp[SeqAt.shaped,PyData.canLay0,u7,PyData.depth]
 omega
theorem CZ:∀A B:List (List Int),PyData.eqvAll (A.map pyL) (B.map pyL)=decide (A=B)
 | [],[]=>by simp[PyData.eqvAll]
 | [],_::_=>by simp[PyData.eqvAll]
 | _::_,[]=>by simp[PyData.eqvAll]
 | a::r,b::t=>by
  simp only[List.map_cons,PyData.eqvAll,PyData.eqv,qB,CZ r t]
  by_cases h:a=b <;> by_cases h':r=t <;> simp[h,h']
theorem CA{O:au}(A B:List (List Int)):eqB O (vII A) (vII B)=some (decide (A=B)):=by
 show fS O _ _=_
 unfold fS
 simp only[res,tL,toPy,AQ,Option.map_some]
 rw[if_pos ⟨vc A,vc B⟩]
 simp only[PyData.eqv,CZ]
theorem JI{O:au}(A B:List (List Int)):eqD O (vII A) (vII B)=.ok (.bl (decide (A=B))):=by unfold eqD;rw[CA]
theorem iA{ok:au->Prop}{g:GM}{body:SM}{d:D}{ds:List D}{s s1 s2:S}(hok:ok s.o)(hg:g d s=.ok s1)(hb:body s1=.next s2):cS ok g body (d::ds) s=cS ok g body ds s2:=by
 rw[cS,if_pos hok,hg,ki,hb]
end M
set_option maxRecDepth 100000
set_option maxHeartbeats 4000000
namespace M
open PySem PySem.Spec PyProof.Rows L2
theorem Gh{α:Type}(l:List α):pick l none none (some (-1))=l.reverse:=by
 have hb:sliceBounds none none (some (-1)) l.length=((l.length:Int)-1,-1,-1):=by
  unfold sliceBounds
  rfl
 have hr:sliceRange ((l.length:Int)-1) (-1) (-1)=(List.range l.length).map λ(k:Nat)=>((l.length:Int)-1 + -1*(k:Int)).toNat:=by
  unfold sliceRange
  have hc:(if (-1:Int)>0 then (if (l.length:Int)-1 < -1 then (-1-((l.length:Int)-1) + -1-1) / -1 else 0) else (if (l.length:Int)-1 > -1 then ((l.length:Int)-1 - -1 - -1-1) / - -1 else 0)).toNat=l.length:=by
   rw[if_neg (by decide)]
   split
   ·rw[show (- -1:Int)=1 by decide,Int.ediv_one];omega
   ·omega
  dsimp only
  rw[hc]
 unfold pick
 rw[hb]
 dsimp only
 rw[hr]
 have key:∀m,m<=l.length->((List.range m).map λ(k:Nat)=>((l.length:Int)-1 + -1*(k:Int)).toNat).filterMap (l[·]?)=(l.reverse).take m:=by
  intro m
  induction m with
  | zero=>intro _;rfl
  | succ m ih=>
   intro hm
   rw[List.range_succ,List.map_append,List.filterMap_append,ih (by omega),List.take_succ,List.getElem?_reverse (by omega)]
   congr 1
   rw[List.map_singleton,show ((l.length:Int)-1 + -1*(m:Int)).toNat=l.length-1-m by omega,List.getElem?_eq_getElem (by omega)]
   simp[List.getElem?_eq_getElem (show l.length-1-m<l.length by omega)]
 rw[key l.length (Nat.le_refl _),List.take_of_length_le (by simp)]
end M
set_option maxRecDepth 100000
set_option maxHeartbeats 4000000
namespace M
open PySem PySem.Spec PyProof.Rows L2
abbrev sg(z:Str):List Nat:=z.cps.toList
theorem vC(z:Str):(sg z).length=z.length:=by unfold Str.length;simp
theorem rD{a b:Str}(h:sg a=sg b):a=b:=Str.ext' (Array.toList_inj.mp h)
theorem zy(a b:Str):sg (a++b)=sg a++sg b:=by
 show ((a++b:Str).cps).toList=_
 rw[Str.cps_append];simp
theorem zF{z:Str}{lo hi:Option Int}{a b:Nat}(hab:a<=b)(hb:b<=z.length)(h:Builtin.Str.strSliceIndices lo hi 1 z.length=(List.range (b-a)).map (λk=>a+k)):sg (lE z lo hi)=((sg z).drop a).take (b-a):=by
 have key:(((List.range (b-a)).map (λk=>a+k)).filterMap (λi=>(sg z)[i]?))=((sg z).drop a).take (b-a):=StrLaws.picks (sg z) (b-a) a (by rw[vC];omega)
 unfold lE
 rw[h]
 split
 ·rename_i hl
  have hl:b-a=z.length:=by simpa using hl
  have ha:a=0:=by omega
  subst ha
  rw[List.drop_zero,List.take_of_length_le (by rw[vC];omega)]
 ·rw[<- key]
  simp[sg]
theorem M1{n b:Nat}(h:b<=n):Builtin.Str.strSliceIndices none (some (b:Int)) 1 n=(List.range (b-0)).map (λk=>0+k):=by
 rw[<- StrLaws.strSliceIndices_plain (Nat.zero_le b) h]
 unfold Builtin.Str.strSliceIndices
 simp
 rw[show max (0:Int) (min 0 (n:Int))=0 by omega]
theorem MD{n a:Nat}(h:a<=n):Builtin.Str.strSliceIndices (some (a:Int)) none 1 n=(List.range (n-a)).map (λk=>a+k):=by
 rw[<- StrLaws.strSliceIndices_plain h (Nat.le_refl n)]
 unfold Builtin.Str.strSliceIndices
 simp
 rw[if_neg (show ¬(n:Int)<0 by omega),show max (0:Int) (min (n:Int) (n:Int))=(n:Int) by omega]
theorem JB{z:Str}{b:Nat}(h:b<=z.length):sg (lE z none (some (b:Int)))=(sg z).take b:=by
 rw[zF (Nat.zero_le b) h (M1 h),List.drop_zero,Nat.sub_zero]
theorem JH{z:Str}{a:Nat}(h:a<=z.length):sg (lE z (some (a:Int)) none)=(sg z).drop a:=by
 rw[zF h (Nat.le_refl _) (MD h),List.take_of_length_le]
 rw[List.length_drop,vC];omega
end M
set_option maxRecDepth 100000
set_option maxHeartbeats 4000000
namespace M
open PySem PySem.Spec PyProof.Rows L2
section
variable {s s1 s2 : S} {R R' : List (Option D)} {O O' : au} {d x y : D} {xs ys : List D}
theorem aN{f:Op2}{ma mb:EM}(ha:ma s=.ok (x,s1))(hb:mb s1=.ok (y,s2))(hf:f s2.o x y=.ok d):ao f ma mb s=.ok (d,s2):=by
 rw[eM,ha,aj];dsimp only;rw[hb,aj];dsimp only;rw[hf,aj]
theorem wb{f:Op1}{ma:EM}(ha:ma s=.ok (x,s1))(hf:f s1.o x=.ok d):unM f ma s=.ok (d,s1):=by
 rw[KO,ha,aj];dsimp only;rw[hf,aj]
theorem d6{f:OpN}{ma:AM}(ha:ma s=.ok (xs,s1))(hf:f s1.o xs=.ok d):aW f ma s=.ok (d,s1):=by
 rw[i8,ha,aj];dsimp only;rw[hf,aj]
theorem aG{m:EM}{r:AM}(ha:m s=.ok (x,s1))(hb:r s1=.ok (ys,s2)):ae m r s=.ok (x::ys,s2):=by
 rw[aY,ha,aj];dsimp only;rw[hb,aj]
theorem yF{ma:AM}(ha:ma s=.ok (xs,s1))(hl:xs.length<=16777216):qx ma s=.ok (.tup xs,s1):=by
 rw[Cs,ha,aj];dsimp only;rw[if_pos hl]
theorem tq{ma:AM}(ha:ma s=.ok (xs,s1))(hl:xs.length<=16777216):kF ma s=.ok (.lst xs,s1):=by
 rw[Jo,ha,aj];dsimp only;rw[if_pos hl]
theorem oa{ma:AM}{n:Nat}(ha:ma s=.ok (xs,⟨R,O⟩))(hl:xs.length<=16777216)(hn:O.length=n)(hO:O++[.lst xs]=O'):jm ma s=.ok (.ptr n,⟨R,O'⟩):=by
 rw[Jt,ha,aj];dsimp only;rw[if_pos hl,hn,hO]
theorem ft{m:EM}{b:Bool}(h:m s=.ok (.bl b,s1)):bj m s=.ok (b,s1):=by
 rw[g6,h,aj]
theorem yG{m:TM}{b:Bool}(h:m s=.ok (b,s1)):mX m s=.ok (!b,s1):=by
 rw[wR,h,aj]
theorem HL{a b:TM}{p q:Bool}(h:a s=.ok (p,s1))(h2:b s1=.ok (q,s1)):orT a b s=.ok (p||q,s1):=by
 rw[zI,h,aj];dsimp only;cases p
 ·rw[if_neg (by decide),h2];rfl
 ·rfl
theorem bE{m:EM}{i:Nat}(h:m s=.ok (d,⟨R,O⟩))(hR:R.set i (some d)=R'):setM i m s=.next ⟨R',O⟩:=by
 subst hR;exact tm h
theorem kZ{mo me:EM}{k:Nat}{ds0 ds:List D}(h1:mo s=.ok (.ptr k,s1))(c1:s1.o[k]? =some (.lst ds0))(h2:me s1=.ok (d,⟨R,O⟩))(c2:O[k]? =some (.lst ds))(hb:ds.length<=1000000)(hO:O.set k (.lst (ds++[d]))=O'):gP mo me s=.ok (.non,⟨R,O'⟩):=by
 subst hO;exact wF (s2:=⟨R,O⟩) h1 c1 h2 c2 hb
theorem qv{m:EM}{k:Nat}{ds:List D}(h:m s=.ok (.ptr k,⟨R,O⟩))(c:O[k]? =some (.lst ds))(hO:O.set k .dead=O'):oC m s=.ok (.lst ds,⟨R,O'⟩):=by
 subst hO;exact Ju h c
theorem KR{f:List D->Option (List D×D)}{mo:EM}{k:Nat}{ds es:List D}(h:mo s=.ok (.ptr k,⟨R,O⟩))(hc:O[k]? =some (.lst ds))(hf:f ds=some (es,d))(hO:O.set k (.lst es)=O'):sR f mo s=.ok (d,⟨R,O'⟩):=by
 subst hO
 unfold sR
 rw[h,aj]
 dsimp only
 rw[lS hc]
 dsimp only
 rw[hf]
theorem Kb{m:EM}{n:Nat}{ds:List D}(h:m s=.ok (x,⟨R,O⟩))(hs:tG O x=some ds)(hn:O.length=n)(hO:O++[.lst ds]=O'):yE m s=.ok (.ptr n,⟨R,O'⟩):=by
 rw[HA,h,aj];dsimp only;rw[hs];dsimp only;rw[hn,hO]
theorem MU{c:Nat}{f:Str}{m:EM}{ns:List Str}{ds:List D}(h:m s=.ok (.obj c ns ds,s1))(hd:pj f ns ds=some d):oi c f m s=.ok (d,s1):=by
 rw[CI,h,aj]
 dsimp only
 rw[if_pos rfl,hd]
theorem Ck{c n:Nat}{m:Str}{f:FM}{mo:EM}{ma:AM}{ns:List Str}{ds args:List D}{O1:au}(ho:mo s=.ok (.obj c ns ds,s1))(ha:ma s1=.ok (args,s2))(hf:f (.obj c ns ds::args) []=.ok (x,O1))(hm:m∉ns)(hd:aM ds=true)(hp:aM args=true)(hl:args.length=n)(hr:cK x=true):
 methP c m n f mo ma s=.ok (x,s2):=AJ ho hm hd ha hp hl hf hr
theorem iV{n:Nat}{f:FM}{ma:AM}{ds:List D}{O1:au}(h:ma s=.ok (ds,s1))(hf:f ds []=.ok (d,O1))(hp:aM ds=true)(hl:ds.length=n)(hd:cK d=true):aQ n f ma s=.ok (d,s1):=dw h hp hl hf hd
theorem mj{n:Nat}{f:FM}{ma:AM}{ds:List D}{O1:au}(h:ma s=.ok (ds,⟨R,O⟩))(hf:f ds []=.ok (x,O1))(hp:aM ds=true)(hl:ds.length=n)(hx:shD O.length x=y)(hO:O++O1.map (shC O.length)=O'):gc n f ma s=.ok (y,⟨R,O'⟩):=by
 subst hx;subst hO;exact GX h hp hl hf
theorem wy{n:Nat}{f:FM}{ma:AM}{ds rs:List D}{O1:au}(h:ma s=.ok (ds,s1))(hr:bA s1.o (bA s1.o ds)=rs)(hf:f rs []=.ok (d,O1))(hp:aM rs=true)(hl:ds.length=n)(hd:nP d=true):iy n f ma s=.ok (d,s1):=by
 unfold iy
 rw[h,aj]
 dsimp only
 rw[hr,if_pos ⟨hp,hl⟩,hf]
 dsimp only
 rw[if_pos hd]
theorem Co{n:Nat}{f:FM}{ma:AM}{ds:List D}{O1:au}(h:ma s=.ok (ds,⟨R,O⟩))(hf:f ds O=.ok (d,O1))(hl:ds.length=n):tu n f ma s=.ok (d,⟨R,O1⟩):=GR h hl hf
theorem ME{c:TM}{A B:SM}{p:Bool}(h:c s=.ok (p,s1))(hp:p=true):ifS c A B s=A s1:=by subst hp;exact Iw h
theorem MW{c:TM}{A B:SM}{p:Bool}(h:c s=.ok (p,s1))(hp:p=false):ifS c A B s=B s1:=by subst hp;exact nJ h
theorem qc(s:S):iM s=.ok (none,s):=rfl
theorem Ax{m:EM}{i:Int}(h:m s=.ok (.int i,s1)):part m s=.ok (some i,s1):=by rw[C1,h,aj]
theorem MG{m:EM}{g:GM}(h:m s=.ok (d,s1))(hg:g d s1=.ok s2):m5 m g s=.next s2:=by
 rw[C5,h,aj];dsimp only;rw[hg,ki]
end
section
variable {s s1 : S} {o : Out}
theorem aU{a b:SM}(h:a s=.next s1)(k:b s1=o):aP a b s=o:=(dX h).trans k
theorem mw{c:TM}{A B:SM}{p:Bool}(h:c s=.ok (p,s1))(hp:p=true)(k:A s1=o):ifS c A B s=o:=(ME h hp).trans k
theorem gJ{c:TM}{A B:SM}{p:Bool}(h:c s=.ok (p,s1))(hp:p=false)(k:B s1=o):ifS c A B s=o:=(MW h hp).trans k
theorem fg{n:Nat}{m:SM}{ds:List D}{O O1:au}{d:D}{R:List (Option D)}(h:m ⟨ds.map some++List.replicate (n-ds.length) none,O⟩=.ret d ⟨R,O1⟩):runM n m ds O=.ok (d,O1):=eH h
end
end M
set_option maxRecDepth 100000
set_option maxHeartbeats 4000000
namespace M
open PySem PySem.Spec PyProof.Rows L2
section
variable {s s1 s2 : S} {c : Nat} {a : D} {o : Out}
end
end M
set_option maxRecDepth 100000
set_option maxHeartbeats 4000000
namespace M
open PySem PySem.Spec PyProof.Rows L2
theorem CT{n:Nat}{f:FM}{ma:AM}{s:S}{R:List (Option D)}{O O1 O':au}{x y:D}{ds rs:List D}(h:ma s=.ok (ds,⟨R,O⟩))(hr:bA O (bA O ds)=rs)(hf:f rs []=.ok (x,O1))(hp:aM rs=true)(hl:ds.length=n)(hd:sP x=true)(hO1:O1.all sO=true)(hx:shD O.length x=y)(hO:O++O1.map (shC O.length)=O'):qo n f ma s=.ok (y,⟨R,O'⟩):=by
 subst hx;subst hO
 unfold qo
 rw[h,aj]
 dsimp only
 rw[hr,if_pos ⟨hp,hl⟩,hf]
 dsimp only
 rw[if_pos ⟨hd,hO1⟩]
abbrev bP(L:List (Nat×List Int)):List D:=L.map λp=>.ptr p.1
def Sto(O:au)(L:List (Nat×List Int)):Prop:=∀p∈L,O[p.1]? =some (.lst (p.2.map D.int))
theorem Sto.app{O:au}{L:List (Nat×List Int)}(h:Sto O L)(E:au):Sto (O++E) L:=λp hp=>eN (h p hp)
theorem Sto.set{O:au}{L:List (Nat×List Int)}(h:Sto O L){k:Nat}(hk:∀p∈L,p.1≠k)(c:Cell):Sto (O.set k c) L:=λp hp=>by rw[cg λz=>hk p hp z.symm];exact h p hp
theorem Sto.lt{O:au}{L:List (Nat×List Int)}(h:Sto O L){p:Nat×List Int}(hp:p∈L):p.1<O.length:=mJ (h p hp)
theorem vy{α:Type}{ok:au->Prop}{e:EM}{cap:List (Option D)}{item:α->D}{f:α->List Int}{T:α->Nat->Prop}(I:au->Prop)(hI:∀O E,I O->I (O++E))(hok:∀O,I O->ok O):
 ∀(l:List α) (acc:List D) (x:Option D) (O:au),I O->acc.length+l.length<=16777216->
 (∀a∈l,∀O,I O->∃q E,e ⟨some (item a)::cap,O⟩=.ok (.ptr q,⟨some (item a)::cap,O++E⟩)/\(O++E)[q]? =some (.lst ((f a).map D.int))/\(T a q\/O.length<=q))->
 ∃(L:List (Nat×List Int)) (E:au) (x':Option D),fU ok (aB 0) bK e (l.map item) acc ⟨x::cap,O⟩=.ok (acc++bP L,⟨x'::cap,O++E⟩)/\L.map (·.2)=l.map f/\Sto (O++E) L/\∀p∈L,(∃a∈l,T a p.1)\/O.length<=p.1
 | [],acc,x,O,h,_,_=>⟨[],[],x,by rw[List.map_nil,fU,if_pos (hok _ h)];simp,rfl,(λp hp=>by cases hp),(λp hp=>by cases hp)⟩
 | a::l,acc,x,O,h,hl,he=>by
  obtain⟨q,E,e1,e2,e3⟩:=he a List.mem_cons_self O h
  rw[List.length_cons] at hl
  obtain⟨L,E',x',e4,e5,e6,e7⟩:=vy (T:=T) I hI hok l (acc++[.ptr q]) (some (item a)) (O++E) (hI O E h) (by simp;omega) (λa ha=>he a (List.mem_cons_of_mem _ ha))
  refine⟨(q,f a)::L,E++E',x', ?_,by simp[e5],λp hp=> ?_,λp hp=> ?_⟩
  ·rw[List.map_cons,fU,if_pos ⟨hok _ h,by omega⟩,Gm,aj,G0,aj]
   dsimp only
   rw[if_pos rfl,show (⟨List.set (x::cap) 0 (some (item a)),O⟩:S)=⟨some (item a)::cap,O⟩ from rfl,e1,aj]
   dsimp only
   rw[e4]
   simp
  ·rw[<- List.append_assoc]
   rcases List.mem_cons.mp hp with rfl | hp
   ·exact eN e2
   ·exact e6 p hp
  ·rcases List.mem_cons.mp hp with rfl | hp
   ·rcases e3 with e3 | e3
    ·exact .inl ⟨a,List.mem_cons_self,e3⟩
    ·exact .inr e3
   ·rcases e7 p hp with⟨b,hb,z⟩ | z
    ·exact .inl ⟨b,List.mem_cons_of_mem _ hb,z⟩
    ·exact .inr (by rw[List.length_append] at z;omega)
end M
set_option maxRecDepth 100000
set_option maxHeartbeats 4000000
namespace M
open PySem PySem.Spec PyProof.Rows L2
section
variable {α β : Type} (f g : α → β)
end
end M
set_option maxRecDepth 100000
set_option maxHeartbeats 4000000
namespace Lk21
open PySem PySem.Spec PyProof.Rows L2 M
def top(i:Nat):Stmt:=PySem.Challenge.pw_modeyard_k21_lone_ways.main.body.getD i (.Pass ⟨0,0,0,0⟩)
abbrev j4:Stmt:=top 8
abbrev eV:Stmt:=top 9
abbrev kR:Stmt:=top 10
abbrev lN:Stmt:=top 11
abbrev eK:Stmt:=top 13
abbrev pR:Stmt:=top 14
abbrev n8:Stmt:=top 15
abbrev lY:Stmt:=top 16
abbrev jd:Stmt:=top 18
abbrev j5:Stmt:=top 19
abbrev eU:Stmt:=top 20
abbrev eD:Stmt:=top 21
abbrev pZ:Stmt:=top 22
abbrev jX:Stmt:=inClass (top 40) 5
abbrev ja:Stmt:=inClass (top 40) 6
abbrev hX:Stmt:=inClass (top 40) 3
abbrev p8:Stmt:=top 24
abbrev kU:Stmt:=top 29
abbrev ip:Stmt:=top 30
abbrev ic:Stmt:=top 31
abbrev gr:Stmt:=top 32
abbrev ig:Stmt:=top 33
abbrev fN:Stmt:=top 34
abbrev gz:Stmt:=top 35
abbrev gk:Stmt:=top 36
abbrev je:Stmt:=top 37
abbrev iT:Stmt:=top 38
abbrev i4:Stmt:=top 39
abbrev iX:Stmt:=inClass (top 40) 0
abbrev jU:Stmt:=top 42
abbrev jL:Stmt:=top 43
abbrev jb:Stmt:=top 44
abbrev jZ:Stmt:=top 45
abbrev i5:Stmt:=top 46
abbrev iW:Stmt:=top 47
abbrev jV:Stmt:=top 48
abbrev gW:Stmt:=top 49
abbrev hJ:Stmt:=top 50
abbrev gw:Stmt:=top 51
abbrev hE:Stmt:=top 52
abbrev nE:Stmt:=top 53
def caK(K:PySem.W.Frag):Nat->Addr:=λn=>match n with
 | 0=>clsAt K "Yard"
 | _=>0
noncomputable def ni:SM:=
 (cv (Bi (unM (iC "int") (aa 0)) (zj (unM (iC "bool") (aa 0)))))
noncomputable def jT:FM:=runM 1 ni
noncomputable def sk:SM:=
 (aP (setM 2 (ao gh (aa 0) (aa 1)))
 (aP (setM 0 (aa 1))
 (setM 1 (aa 2))))
noncomputable def kK:SM:=
 (aP (setM 0 (aW rC (ae (aa 0) ak)))
 (aP (setM 1 (aW rC (ae (aa 1) ak)))
 (aP (rM (λs=>tE 1 s) (bj (ao neD (aa 1) (aq (.int 0))))
 sk)
 (cv (aa 0)))))
noncomputable def fX:FM:=runM 3 kK
noncomputable def my:SM:=
 (setM 1 (aQ 2 fX (ae (aa 1) (ae (aa 2) ak))))
noncomputable def kO:SM:=
 (aP (setM 1 (aq (.int 0)))
 (aP (eR (listI (aa 0)) (aB 2)
 my)
 (cv (aa 1))))
noncomputable def kT:FM:=runM 3 kO
noncomputable def kE:SM:=
 (aP (setM 1 (aQ 1 kT (ae (aa 0) ak)))
 (aP (ifS (bj (ao eqD (aa 1) (aq (.int 0))))
 (cv (yE (aa 0)))
 cL)
 (cv (nL 1 [1] (listI (aa 0)) (aB 0) bK (ao gQ (aa 0) (aa 1))))))
noncomputable def om:FM:=runM 2 kE
noncomputable def fF:SM:=
 (cv (aW oG (ae (bF 2 [] (rJ (ae (aa 0) (ae (aa 1) ak))) (dG (ba (aB 0) (ba (aB 1) dO)) 2) bK (ao dE (aa 0) (aa 1))) ak)))
noncomputable def dM:FM:=runM 2 fF
noncomputable def sG:SM:=
 (aP (setM 2 (An rj (ae (aq (.int 0)) ak) (aa 1)))
 (aP (m5 (aq (.int 1)) (zU (aa 2) (aa 0)))
 (cv (aa 2))))
noncomputable def pK:FM:=runM 3 sG
noncomputable def pU:SM:=
 (cv (bF 1 [0] (cY (ae (aa 0) ak)) (aB 0) bK (gc 2 pK (ae (aa 0) (ae (aa 1) ak)))))
noncomputable def p6:FM:=runM 1 pU
noncomputable def oH:SM:=
 (aP (setM 4 (bF 2 [1,3] (rJ (ae (aa 0) (ae (aa 2) ak))) (dG (ba (aB 0) (ba (aB 1) dO)) 2) bK (ao jq (ao dE (aa 0) (aa 3)) (ao dE (aa 1) (aa 2)))))
 (cv (gc 1 om (ae (aa 4) ak))))
noncomputable def lO:FM:=runM 5 oH
noncomputable def mZ:SM:=
 (aP (setM 1 (ao dE (aa 1) (aq (.int 2))))
 (ifS (bj (ao gtD (aa 2) (aq (.int 0))))
 (setM 1 (ao bz (aa 1) (aq (.int 1))))
 cL))
noncomputable def kj:SM:=
 (aP (setM 1 (aq (.int 0)))
 (aP (eR (listI (aa 0)) (aB 2)
 mZ)
 (cv (aa 1))))
noncomputable def i9:FM:=runM 3 kj
noncomputable def lu:SM:=
 (cv (ao eqD (ao orD (aa 0) (aa 1)) (aa 1)))
noncomputable def j2:FM:=runM 2 lu
noncomputable def gb:SM:=
 (aP (setM 3 (ao orD (aa 0) (aa 1)))
 (cv (ao eqD (aW bL (ae (bF 1 [3] (listI (aa 2)) (aB 0) (bj (aQ 2 j2 (ae (aa 0) (ae (aa 1) ak)))) (aa 0)) ak)) (aq (.int 2)))))
noncomputable def eW:FM:=runM 4 gb
noncomputable def fI:SM:=
 (ifS (bj (aQ 3 eW (ae (ao ixD (aa 3) (aa 7)) (ae (ao ixD (aa 3) (aa 8)) (ae (aa 3) ak)))))
 (cR (gP (aa 4) (qo 4 lO (ae (ao ixD (aa 0) (aa 8)) (ae (ao ixD (aa 2) (aa 8)) (ae (ao ixD (aa 0) (aa 7)) (ae (ao ixD (aa 2) (aa 7)) ak)))))))
 cL)
noncomputable def iu:SM:=
 (eR (listI (aa 6)) (aB 8)
 fI)
noncomputable def fo:SM:=
 (aP (setM 2 (bF 1 [1] (listI (aa 0)) (aB 0) bK (iy 2 dM (ae (aa 1) (ae (aa 0) ak)))))
 (aP (setM 3 (bF 1 [] (listI (aa 0)) (aB 0) bK (iy 1 i9 (ae (aa 0) ak))))
 (aP (setM 4 (nL 2 [] (rJ (ae (aa 0) (ae (aa 2) ak))) (dG (ba (aB 0) (ba (aB 1) dO)) 2) (bj (ao eqD (aa 1) (aq (.int 0)))) (aa 0)))
 (aP (setM 5 (bF 2 [] (dk (ae (aa 2) ak)) (dG (ba (aB 0) (ba (aB 1) dO)) 2) (bj (ao gtD (aa 1) (aq (.int 0)))) (aa 0)))
 (aP (setM 6 (bF 2 [] (dk (ae (aa 2) ak)) (dG (ba (aB 0) (ba (aB 1) dO)) 2) (bj (ao ltD (aa 1) (aq (.int 0)))) (aa 0)))
 (aP (eR (listI (aa 5)) (aB 7)
 iu)
 (cv (oC (aa 4)))))))))
noncomputable def fk:FM:=runM 9 fo
noncomputable def uz:SM:=
 (setM 2 (tu 2 fk (ae (aa 2) (ae (aa 3) ak))))
noncomputable def sv:SM:=
 (aP (setM 2 (tu 1 p6 (ae (aa 1) ak)))
 (aP (eR (listI (aa 0)) (aB 3)
 uz)
 (cv (lj rj (aa 2)))))
noncomputable def rQ:FM:=runM 4 sv
noncomputable def kY:SM:=
 (cv (bF 1 [1] (listI (oi 0 "held_changes" (aa 0))) (aB 0) bK (ao ixD (aa 0) (aa 1))))
noncomputable def jS:FM:=runM 2 kY
noncomputable def kq:SM:=
 (cv (bF 1 [0] (cY (ae (aW bL (ae (oi 0 "held_goods" (aa 0)) ak)) ak)) (aB 0) bK (methP 0 "row" 1 jS (aa 1) (ae (aa 0) ak))))
noncomputable def ko:FM:=runM 1 kq
noncomputable def jz:SM:=
 (cv (bF 1 [] (listI (oi 0 "held_works" (aa 0))) (aB 0) bK (ao ixD (aa 0) (aq (.int 0)))))
noncomputable def jy:FM:=runM 1 jz
noncomputable def pN:SM:=
 (cv (gc 2 rQ (ae (methP 0 "rows" 0 ko (aa 0) ak) (ae (aW bL (ae (methP 0 "names" 0 jy (aa 0) ak) ak)) ak))))
noncomputable def lF:FM:=runM 1 pN
noncomputable def mQ:SM:=
 (aP (ifS (orT (bj (ao ltD (aW bL (ae (aa 0) ak)) (aq (.int 1)))) (bj (ao gtD (aW bL (ae (aa 0) ak)) (aq (.int 8)))))
 (cv (aq (.bl false)))
 cL)
 (cv (aW vR (ae (bF 1 [] (Ed (aa 0)) (aB 0) bK (lJ qf qf (aq (.str ("a" :Str))) (aa 0) (aq (.str ("z" :Str))))) ak))))
noncomputable def kL:FM:=runM 1 mQ
noncomputable def jB:SM:=
 (aP (ifS (bj (ao gtD (aW bL (ae (aa 0) ak)) (aq (.int 10))))
 rV
 cL)
 (ifS (bj (ao gtD (aW bL (ae (aa 1) ak)) (aq (.int 10))))
 rV
 cL))
noncomputable def hZ:FM:=runM 2 jB
noncomputable def fR:SM:=
 (aP (ifS (mX (bj (aQ 1 kL (ae (aa 0) ak))))
 rV
 cL)
 (ifS (bj (ao inD (aa 0) (aa 1)))
 rV
 cL))
noncomputable def eG:FM:=runM 2 fR
noncomputable def jh:SM:=
 (cR (aQ 2 eG (ae (aa 2) (ae (slM (aa 0) iM (part (aa 1))) ak))))
noncomputable def iI:SM:=
 (eR (dk (ae (aa 0) ak)) (dG (ba (aB 1) (ba (aB 2) dO)) 2)
 jh)
noncomputable def gi:FM:=runM 3 iI
noncomputable def jt:SM:=
 (aP (ifS (bj (ao rK (aa 0) (aa 1)))
 rV
 cL)
 (ifS (bj (ao inD (aa 0) (aa 2)))
 rV
 cL))
noncomputable def ik:FM:=runM 3 jt
noncomputable def ib:SM:=
 (ifS (orT (mX (bj (aQ 1 jT (ae (aa 0) ak)))) (bj (ao ltD (aa 0) (aq (.int 1)))))
 rV
 cL)
noncomputable def fO:FM:=runM 1 ib
noncomputable def jj:SM:=
 (aP (cR (iy 3 ik (ae (aa 3) (ae (aa 1) (ae (aa 2) ak)))))
 (aP (cR (aQ 1 fO (ae (aa 4) ak)))
 (cR (gP (aa 2) (aa 3)))))
noncomputable def gj:SM:=
 (aP (setM 2 (jm ak))
 (eR (listI (aa 0)) (dG (ba (aB 3) (ba (aB 4) dO)) 2)
 jj))
noncomputable def d8:FM:=runM 5 gj
noncomputable def ji:SM:=
 (aP (cR (iy 2 eG (ae (aa 3) (ae (aa 2) ak))))
 (aP (cR (aQ 2 d8 (ae (aa 4) (ae (aa 1) ak))))
 (aP (cR (aQ 2 d8 (ae (aa 5) (ae (aa 1) ak))))
 (cR (gP (aa 2) (aa 3))))))
noncomputable def iK:SM:=
 (aP (setM 2 (jm ak))
 (eR (listI (aa 0)) (dG (ba (aB 3) (ba (aB 4) (ba (aB 5) dO))) 3)
 ji))
noncomputable def gn:FM:=runM 6 iK
noncomputable def kv:SM:=
 (cv (qx (ae (ao ixD (aa 0) (aq (.int 0))) (ae (aW iB (ae (ao ixD (aa 0) (aq (.int 1))) ak)) (ae (aW iB (ae (ao ixD (aa 0) (aq (.int 2))) ak)) ak)))))
noncomputable def jc:FM:=runM 1 kv
noncomputable def i6:SM:=
 (cv (aW oG (ae (bF 1 [0] (listI (aa 1)) (aB 0) (bj (ao eqD (ao ixD (aa 0) (aq (.int 0))) (aa 1))) (ao ixD (aa 0) (aq (.int 1)))) ak)))
noncomputable def d4:FM:=runM 2 i6
noncomputable def kh:SM:=
 (cv (bF 1 [0] (listI (aa 1)) (aB 0) bK (ao jq (aQ 2 d4 (ae (aa 0) (ae (ao ixD (aa 1) (aq (.int 2))) ak))) (aQ 2 d4 (ae (aa 0) (ae (ao ixD (aa 1) (aq (.int 1))) ak))))))
noncomputable def iY:FM:=runM 2 kh
noncomputable def kr:SM:=
 (aP (cR (aQ 2 hZ (ae (aa 1) (ae (aa 2) ak))))
 (aP (cR (aQ 1 gi (ae (aa 1) ak)))
 (aP (cR (aQ 2 gn (ae (aa 2) (ae (aa 1) ak))))
 (aP (qA 0 "held_goods" (aa 0) (aW iB (ae (aa 1) ak)))
 (aP (qA 0 "held_works" (aa 0) (bF 1 [] (listI (aa 2)) (aB 0) bK (aQ 1 jc (ae (aa 0) ak))))
 (qA 0 "held_changes" (aa 0) (bF 1 [1] (listI (aa 2)) (aB 0) bK (aQ 2 iY (ae (aa 0) (ae (aa 1) ak))))))))))
noncomputable def gO:FM:=runM 3 kr
noncomputable def gG:SM:=
 (aP (ifS (bj (ao ltD (aa 1) (aW bL (ae (aa 0) ak))))
 (cv (ao ixD (aa 0) (aa 1)))
 cL)
 (cv (aq (.int 0))))
noncomputable def da:FM:=runM 2 gG
noncomputable def bI:SM:=
 (aP (setM 3 (ao gh (ao dE (ao bz (ao gh (aa 0) (aq (.int 2147483647))) (aq (.int 7))) (ao bz (aq (.int 48271)) (ao dE (aq (.int 7919)) (aa 1)))) (aq (.int 2147483647))))
 (cv (ao gh (ao gQ (ao gh (ao dE (aa 3) (aq (.int 16807))) (aq (.int 2147483647))) (aq (.int 8))) (aa 2))))
noncomputable def aK:FM:=runM 4 bI
noncomputable def iH:SM:=
 (setM 3 (ao bz (aa 3) (ao ixD (aa 2) (aQ 3 aK (ae (aa 0) (ae (ao bz (aq (.int 2)) (aa 4)) (ae (aq (.int 26)) ak)))))))
noncomputable def i3:SM:=
 (aP (setM 2 (aq (.str ("abcdefghijklmnopqrstuvwxyz" :Str))))
 (aP (setM 3 (aq (.str ("" :Str))))
 (aP (eR (cY (ae (aQ 3 aK (ae (aa 0) (ae (aq (.int 1)) (ae (aq (.int 8)) ak)))) ak)) (aB 4)
 iH)
 (aP (setM 5 (aQ 3 aK (ae (aa 0) (ae (aq (.int 10)) (ae (ao bz (aW bL (ae (aa 3) ak)) (aq (.int 1))) ak)))))
 (aP (setM 6 (aQ 3 aK (ae (aa 0) (ae (aq (.int 11)) (ae (aq (.int 26)) ak)))))
 (cv (bF 1 [6,2,5,3] (cY (ae (aa 1) ak)) (aB 0) bK (ao bz (ao bz (slS (aa 4) iM (part (aa 3))) (ao ixD (aa 2) (ao gh (ao bz (aa 1) (ao dE (aq (.int 5)) (aa 0))) (aq (.int 26))))) (slS (aa 4) (part (aa 3)) iM)))))))))
noncomputable def df:FM:=runM 7 i3
noncomputable def lI:SM:=
 (aP (setM 7 (ao jq (aQ 3 aK (ae (aa 0) (ae (ao bz (aq (.int 20)) (aa 6)) (ae (aq (.int 7)) ak)))) (aq (.int 3))))
 (aP (ifS (bj (aa 2))
 (setM 7 (ao jq (ao bz (ao dE (aa 7) (ao gh (aa 0) (ao uU (aq (.int 10)) (aq (.int 12))))) (aQ 3 aK (ae (aa 0) (ae (ao bz (aq (.int 30)) (aa 6)) (ae (aq (.int 2000)) ak))))) (aq (.int 1000))))
 cL)
 (aP (ifS (p9 (bj (ao eqD (ao gh (aa 0) (aq (.int 2))) (aq (.int 1)))) (bj (ao gtD (aa 4) (aq (.int 0)))))
 (aP (setM 7 (ao jq (ao gh (aa 4) (aa 5)) (ao gQ (aa 5) (aq (.int 2)))))
 (setM 4 (ao gQ (aa 4) (aa 5))))
 cL)
 (cR (gP (aa 3) (aa 7))))))
noncomputable def lD:SM:=
 (aP (setM 3 (jm ak))
 (aP (setM 4 (ao gQ (aa 0) (aq (.int 2))))
 (aP (setM 5 (ao ixD (kF (ae (aq (.int 7)) (ae (ao bz (ao dE (aq (.int 2)) (ao uU (aq (.int 10)) (aq (.int 12)))) (aq (.int 1))) ak))) (aW intOf (ae (aa 2) ak))))
 (aP (eR (cY (ae (aa 1) ak)) (aB 6)
 lI)
 (cv (aa 3))))))
noncomputable def jW:FM:=runM 8 lD
noncomputable def iQ:SM:=
 (cR (gP (aa 4) (oC (gc 3 jW (ae (ao bz (aQ 2 da (ae (aa 0) (ae (ao bz (ao bz (aa 1) (aq (.int 1))) (aa 6)) ak))) (ao dE (aq (.int 13)) (aa 6))) (ae (aa 2) (ae (aa 5) ak)))))))
noncomputable def iG:SM:=
 (aP (setM 8 (bF 1 [3,6] (cY (ae (aW bL (ae (aa 4) ak)) ak)) (aB 0) bK (ao gh (aQ 3 aK (ae (aa 1) (ae (ao bz (ao bz (aq (.int 50)) (ao dE (aq (.int 7)) (aa 2))) (aa 0)) (ae (aq (.int 4)) ak)))) (aq (.int 3)))))
 (aP (setM 9 (bF 1 [4,8] (cY (ae (aa 2) ak)) (aB 0) bK (aW oG (ae (bF 1 [0,1,2] (cY (ae (aW bL (ae (aa 1) ak)) ak)) (aB 0) bK (ao dE (ao ixD (aa 3) (aa 0)) (ao ixD (ao ixD (aa 2) (aa 0)) (aa 1)))) ak))))
 (aP (cR (gP (aa 4) (bF 1 [] (listI (aa 9)) (aB 0) bK (unM lH (aa 0)))))
 (cR (gP (aa 7) (ao bz (aa 8) (kF (ae (aq (.int 1)) ak))))))))
noncomputable def j8:SM:=
 (aP (setM 3 (aQ 2 da (ae (aa 0) (ae (aa 1) ak))))
 (aP (setM 4 (jm ak))
 (aP (setM 5 (ao eqD (aQ 3 aK (ae (aa 3) (ae (aq (.int 41)) (ae (aq (.int 6)) ak)))) (aq (.int 0))))
 (aP (eR (cY (ae (ao gh (aQ 3 aK (ae (aa 3) (ae (aq (.int 40)) (ae (aq (.int 5)) ak)))) (ao jq (aq (.int 5)) (ao dE (aq (.int 2)) (aW intOf (ae (aa 5) ak))))) ak)) (aB 6)
 iQ)
 (aP (setM 7 (jm ak))
 (aP (eR (cY (ae (ao gQ (aQ 3 aK (ae (aa 3) (ae (aq (.int 42)) (ae (aq (.int 3)) ak)))) (ao bz (aq (.int 1)) (aW intOf (ae (aa 5) ak)))) ak)) (aB 6)
 iG)
 (aP (ifS (p9 (bj (ao eqD (aQ 3 aK (ae (aa 3) (ae (aq (.int 43)) (ae (aq (.int 5)) ak)))) (aq (.int 0)))) (bj (ao ltD (aW bL (ae (aa 4) ak)) (aq (.int 6)))))
 (aP (cR (tS (aa 4) (bF 1 [] (cY (ae (aa 2) ak)) (aB 0) bK (aq (.int 0)))))
 (setM 7 (AN (bF 1 [] (listI (aa 7)) (aB 0) bK (ao bz (kF (ae (aq (.int 0)) ak)) (aa 0))) (kF (ae (kF (ae (aq (.int 1)) ak)) ak)))))
 cL)
 (aP (ifS (p9 (bj (ao eqD (aQ 3 aK (ae (aa 3) (ae (aq (.int 44)) (ae (aq (.int 5)) ak)))) (aq (.int 0)))) (bj (lJ ltD ltD (aq (.int 0)) (aW bL (ae (aa 4) ak)) (aq (.int 6)))))
 (cR (gP (aa 4) (aW iB (ae (ao ixD (aa 4) (unM lH (aq (.int 1)))) ak))))
 cL)
 (cv (qx (ae (aa 4) (ae (nL 1 [4] (listI (aa 7)) (aB 0) bK (ao bz (aa 0) (bF 1 [] (cY (ae (ao jq (aW bL (ae (aa 1) ak)) (aW bL (ae (aa 0) ak))) ak)) (aB 0) bK (aq (.int 0))))) ak))))))))))))
noncomputable def fL:FM:=runM 10 j8
noncomputable def iO:SM:=
 (aP (setM 11 (ao dE (ao gQ (aQ 3 aK (ae (ao bz (aa 3) (aa 5)) (ae (ao bz (aq (.int 70)) (aa 9)) (ae (aq (.int 4)) ak)))) (aq (.int 3))) (ao bz (aq (.int 1)) (aQ 3 aK (ae (ao bz (aa 3) (aa 5)) (ae (ao bz (aq (.int 80)) (aa 9)) (ae (aq (.int 9)) ak)))))))
 (aP (ifS (bj (ao gtD (ao bz (aa 11) (aW nK (ae (aq (.int 0)) (ae (unM lH (aa 10)) ak)))) (aq (.int 0))))
 (cR (gP (aa 7) (qx (ae (ao ixD (aa 1) (aa 9)) (ae (ao bz (aa 11) (aW nK (ae (aq (.int 0)) (ae (unM lH (aa 10)) ak)))) ak)))))
 cL)
 (ifS (bj (ao gtD (ao bz (aa 11) (aW nK (ae (aq (.int 0)) (ae (aa 10) ak)))) (aq (.int 0))))
 (cR (gP (aa 8) (qx (ae (ao ixD (aa 1) (aa 9)) (ae (ao bz (aa 11) (aW nK (ae (aq (.int 0)) (ae (aa 10) ak)))) ak)))))
 cL)))
noncomputable def iF:SM:=
 (aP (setM 7 (jm ak))
 (aP (setM 8 (jm ak))
 (aP (eR (dk (ae (aa 6) ak)) (dG (ba (aB 9) (ba (aB 10) dO)) 2)
 iO)
 (aP (ifS (bj (ao eqD (aQ 3 aK (ae (ao bz (aa 3) (aa 5)) (ae (aq (.int 90)) (ae (aq (.int 2)) ak)))) (aq (.int 1))))
 (setM 7 (AG uG (aa 7) iM iM (part (unM lH (aq (.int 1))))))
 cL)
 (cR (gP (aa 4) (qx (ae (ao ixD (aa 2) (aa 5)) (ae (AY (aa 7)) (ae (oC (aa 8)) ak))))))))))
noncomputable def j9:SM:=
 (aP (setM 4 (jm ak))
 (aP (eR (dk (ae (aa 0) ak)) (dG (ba (aB 5) (ba (aB 6) dO)) 2)
 iF)
 (cv (oC (aa 4)))))
noncomputable def fM:FM:=runM 12 j9
noncomputable def lg:SM:=
 (cv (nL 1 [0,1] (cY (ae (aa 2) ak)) (aB 0) bK (aW oG (ae (bF 1 [0,1,2] (cY (ae (aW bL (ae (aa 1) ak)) ak)) (aB 0) bK (ao dE (ao ixD (aa 3) (aa 0)) (ao ixD (ao ixD (aa 2) (aa 0)) (aa 1)))) ak))))
noncomputable def j3:FM:=runM 3 lg
noncomputable def jR:SM:=
 (aP (setM 4 (ao gh (aa 1) (aa 3)))
 (aP (setM 1 (aa 3))
 (setM 3 (aa 4))))
noncomputable def jY:SM:=
 (aP (setM 3 (aW rC (ae (aa 2) ak)))
 (rM (λs=>tE 3 s) (bj (ao gtD (aa 3) (aq (.int 0))))
 jR))
noncomputable def jI:SM:=
 (aP (setM 1 (aq (.int 0)))
 (aP (eR (listI (aa 0)) (aB 2)
 jY)
 (cv (aa 1))))
noncomputable def jF:FM:=runM 5 jI
noncomputable def hU:SM:=
 (ifS (bj (ao gtD (aa 3) (aq (.int 0))))
 (setM 1 (ao orD (aa 1) (ao Ec (aq (.int 1)) (aa 2))))
 cL)
noncomputable def jw:SM:=
 (aP (setM 1 (aq (.int 0)))
 (aP (eR (dk (ae (aa 0) ak)) (dG (ba (aB 2) (ba (aB 3) dO)) 2)
 hU)
 (cv (aa 1))))
noncomputable def jn:FM:=runM 4 jw
noncomputable def iE:SM:=
 (aP (ifS (orT (mX (bj (unM (iC "list") (aa 0)))) (bj (ao neD (aW bL (ae (aa 0) ak)) (aa 1))))
 (cv (aq (.bl false)))
 cL)
 (cv (aW vR (ae (bF 1 [] (listI (aa 0)) (aB 0) bK (Bi (unM (iC "int") (aa 0)) (zj (unM (iC "bool") (aa 0))))) ak))))
noncomputable def fC:FM:=runM 2 iE
noncomputable def jN:SM:=
 (aP (ifS (orT (bj (ao ltD (yC (aa 2) (aq (.int 0))) (aq (.int 0)))) (bj (ao neD (aQ 1 jF (ae (aa 2) ak)) (aq (.int 1)))))
 (cv (aq (.bl false)))
 cL)
 (cR (gP (aa 3) (aQ 1 jn (ae (aa 2) ak)))))
noncomputable def jK:SM:=
 (ifS (bj (ao neD (aW bL (ae (bF 1 [4] (listI (aa 3)) (aB 0) (bj (ao eqD (ao yB (aa 0) (aa 1)) (aa 0))) (aa 0)) ak)) (aq (.int 1))))
 (cv (aq (.bl false)))
 cL)
noncomputable def jA:SM:=
 (aP (ifS (orT (mX (bj (unM (iC "list") (aa 0)))) (mX (bj (aW vR (ae (bF 1 [1] (listI (aa 0)) (aB 0) bK (aQ 2 fC (ae (aa 0) (ae (aa 1) ak)))) ak)))))
 (cv (aq (.bl false)))
 cL)
 (aP (setM 3 (jm ak))
 (aP (eR (listI (aa 0)) (aB 2)
 jN)
 (aP (eR (listI (aa 3)) (aB 4)
 jK)
 (cv (ao eqD (lj uG (aa 0)) (aa 0)))))))
noncomputable def fQ:FM:=runM 5 jA
noncomputable def pO:SM:=
 (ifS (bj (ao neD (oC (qo 3 j3 (ae (aa 4) (ae (aa 9) (ae (aa 3) ak))))) (bF 1 [] (cY (ae (aa 3) ak)) (aB 0) bK (aq (.int 0)))))
 (cv (aq (.bl false)))
 cL)
noncomputable def tw:SM:=
 (cR (gP (aa 9) (aq (.int 1))))
noncomputable def sT:SM:=
 (aP (setM 2 (aQ 2 da (ae (aa 0) (ae (aa 1) ak))))
 (aP (setM 3 (ao bz (aq (.int 1)) (aQ 3 aK (ae (aa 2) (ae (aq (.int 45)) (ae (aq (.int 4)) ak))))))
 (aP (m5 (wm (gc 3 fL (ae (aa 0) (ae (aa 1) (ae (aa 3) ak))))) (dG (ba (aB 4) (ba (aB 5) dO)) 2))
 (aP (setM 6 (aQ 2 df (ae (ao bz (aa 2) (aq (.int 1))) (ae (aa 3) ak))))
 (aP (setM 7 (sU 0 2 gO (ae (aa 6) (ae (aQ 4 fM (ae (aa 4) (ae (aa 6) (ae (aQ 2 df (ae (aa 2) (ae (aW bL (ae (aa 4) ak)) ak))) (ae (aa 2) ak))))) ak))))
 (aP (setM 8 (gc 1 lF (ae (aa 7) ak)))
 (aP (ifS (mX (bj (iy 2 fQ (ae (aa 8) (ae (aW bL (ae (aa 4) ak)) ak)))))
 (cv (aq (.bl false)))
 cL)
 (aP (eR (listI (aa 8)) (aB 9)
 pO)
 (aP (setM 10 (bF 1 [] (listI (aa 8)) (aB 0) bK (aW iB (ae (aa 0) ak))))
 (aP (eR (listI (aa 8)) (aB 9)
 tw)
 (aP (cR (sR HD (aa 8)))
 (ifS (bj (ao neD (oC (gc 1 lF (ae (aa 7) ak))) (aa 10)))
 (cv (aq (.bl false)))
 cL))))))))))))
noncomputable def DV:SM:=
 (aP (eR (listI (kF (ae (aq (.int 0)) (ae (aq (.int 5)) ak)))) (aB 1)
 sT)
 (cv (aq (.bl true))))
noncomputable def yH:FM:=runM 11 DV
end Lk21
set_option maxRecDepth 100000
set_option maxHeartbeats 4000000
namespace Lk21
open PySem PySem.Spec PyProof.Rows L2 M
section
variable {P : Program} {w : World} {K : PySem.W.Frag} {mg : Str → Option Value} {base : Heap} {ca : Nat → Addr}
theorem BL:bq ["value"] ["value"] (aC j4):=⟨rfl,rfl,rfl,by decide +kernel,rfl,by decide +kernel,by decide +kernel⟩
theorem B7{a:Addr}{fd:FuncData}(F:Fun K "is_whole" "is_whole" j4 a fd)(hm:mg "is_whole" =some (.ref a))(hpt:P.given.tree=none)(n_isinstance:mg "isinstance" =none)(n_int:mg "int" =none)(n_bool:mg "bool" =none):cB P w K mg base ca 35 "is_whole" ["value"] jT a fd:=by
 refine⟨bH F BL rfl λcdv A outer s H E hr=> ?_,hm,F.kp,F.binds λ_ _ _ _ _ _ us hl=>match us,hl with | [_],_=>rfl⟩
 have hu:=hr.units
 have hdp:=cj hr (by decide)
 exact⟨_,(aI (bB (E4 (bc lV rfl n_isinstance Boot.«isinstance» (ah (pv 0) (ah (nS (v:=.ty "int") rfl n_int Boot.«int» rfl) ar))) (Ek (FQ (bc lV rfl n_isinstance Boot.«isinstance» (ah (pv 0) (ah (nS (v:=.ty "bool") rfl n_bool Boot.«bool» rfl) ar)))))))),
  (bD (CS (pM ty_int (ag 0)) (C0 (pM ty_bool (ag 0)))))⟩
theorem eJ:bq ["one","other","rest"] ["one","other"] (aC eV):=⟨rfl,rfl,rfl,by decide +kernel,rfl,by decide +kernel,by decide +kernel⟩
theorem tV{a:Addr}{fd:FuncData}(F:Fun K "measure_of_two" "measure_of_two" eV a fd)(hm:mg "measure_of_two" =some (.ref a))(hpt:P.given.tree=none)(n_abs:mg "abs" =none):cB P w K mg base ca 35 "measure_of_two" ["one","other"] fX a fd:=by
 refine⟨bH F eJ rfl λcdv A outer s H E hr=> ?_,hm,F.kp,F.binds λ_ _ _ _ _ _ us hl=>match us,hl with | [_,_],_=>rfl⟩
 have hu:=hr.units
 have hdp:=cj hr (by decide)
 exact⟨_,(ay (bo (i:=0) eJ.nd rfl (Or.inl rfl) (bc uD rfl n_abs Boot.«abs» (ah (pv 0) ar)))
 (ay (bo (i:=1) eJ.nd rfl (Or.inl rfl) (bc uD rfl n_abs Boot.«abs» (ah (pv 1) ar)))
 (ay (Aj PassesOwn.never (bM (wO hu) (pv 1) aE (bY _))
 (ay (bo (i:=2) eJ.nd rfl (Or.inl rfl) (aR gy (pv 0) (pv 1)))
 (ay (bo (i:=0) eJ.nd rfl (Or.inl rfl) (pv 1))
 (aI (bo (i:=1) eJ.nd rfl (Or.inl rfl) (pv 2))))))
 (aI (bB (pv 0)))))),
  (aJ (aX (bg yL (ai (ag 0) av)))
 (aJ (aX (bg yL (ai (ag 1) av)))
 (aJ (yM (bW (aw tP (ag 1) (aD 0)))
 (aJ (aX (aw iJ (ag 0) (ag 1)))
 (aJ (aX (ag 1))
 (aX (ag 2)))))
 (bD (ag 0)))))⟩
theorem nq:bq ["numbers","common","number"] ["numbers"] (aC kR):=⟨rfl,rfl,rfl,by decide +kernel,rfl,by decide +kernel,by decide +kernel⟩
theorem Df{a:Addr}{fd:FuncData}(F:Fun K "measure" "measure" kR a fd)(hm:mg "measure" =some (.ref a))(hpt:P.given.tree=none)(ur:bS P w K mg base ca 35 "measure_of_two" ["one","other"] fX):cB P w K mg base ca 36 "measure" ["numbers"] kT a fd:=by
 obtain⟨Gu,FV,uv,kK,uq,uA⟩:=ur
 refine⟨bH F nq rfl λcdv A outer s H E hr=> ?_,hm,F.kp,F.binds λ_ _ _ _ _ _ us hl=>match us,hl with | [_],_=>rfl⟩
 have hu:=hr.units
 have hdp:=cj hr (by decide)
 exact⟨_,(ay (bo (i:=1) nq.nd rfl (Or.inl rfl) aE)
 (ay (dY PassesOwn.never rfl (bU (pv 0)) (aO (i:=2) nq.nd rfl (Or.inl rfl))
 (aI (bo (i:=1) nq.nd rfl (Or.inl rfl) (aT uv (hr.mono (by decide)) rfl kK uq uA .nil bx (ah (pv 1) (ah (pv 2) ar))))))
 (aI (bB (pv 1))))),
  (aJ (aX (aD 0))
 (aJ (d5 (bV (ag 0)) (aL 2)
 (aX (bf (n:=2) (f:=fX) (ai (ag 1) (ai (ag 2) av)))))
 (bD (ag 1))))⟩
theorem xI:bq ["numbers","common"] ["numbers"] (aC lN):=⟨rfl,rfl,rfl,by decide +kernel,rfl,by decide +kernel,by decide +kernel⟩
theorem FL{a:Addr}{fd:FuncData}(F:Fun K "lowest" "lowest" lN a fd)(hm:mg "lowest" =some (.ref a))(hpt:P.given.tree=none)(n_list:mg "list" =none)(EU:bS P w K mg base ca 36 "measure" ["numbers"] kT):cB P w K mg base ca 37 "lowest" ["numbers"] om a fd:=by
 obtain⟨Ng,MP,E1,kO,FI,Fo⟩:=EU
 refine⟨bH F xI rfl λcdv A outer s H E hr=> ?_,hm,F.kp,F.binds λ_ _ _ _ _ _ us hl=>match us,hl with | [_],_=>rfl⟩
 have hu:=hr.units
 have hdp:=cj hr (by decide)
 exact⟨_,(ay (bo (i:=1) xI.nd rfl (Or.inr rfl) (aT E1 (hr.mono (by decide)) rfl kO FI Fo .nil bx (ah (pv 0) ar)))
 (ay (dH (bM (m4 hu) (pv 1) aE (bY _))
 (aI (bB (gL gZ rfl n_list Boot.«list» (ah (pv 0) ar))))
 cI)
 (aI (bB (cM (own:=["number"]) (cap:=["common"]) (caps:=[1]) rfl ⟨rfl,by decide +kernel,by decide +kernel,by decide +kernel,⟨rfl,Or.inl rfl,rfl,trivial⟩,by decide +kernel⟩ (bU (pv 0)) (λ_ _ _=>(aO (i:=0) (show ((["number"]:List Str)++(["common"]:List Str)).Nodup from by decide +kernel) rfl (Or.inl rfl))) (λ_ _ _=>cD) (λ_ _ _=>(aR (oo hdp hpt ⟨_,_,rfl,rfl,rfl,rfl,rfl⟩) (pv 0) (pv 1)))))))),
  (aJ (aX (bf (n:=1) (f:=kT) (ai (ag 0) av)))
 (aJ (dI (bW (aw kB (ag 1) (aD 0)))
 (bD (Gg (ag 0)))
 cH)
 (bD (qN (m:=1) (caps:=[1]) (bV (ag 0)) (aL 0) cC (aw lU (ag 0) (ag 1))))))⟩
theorem sA:bq ["numbers","others"] ["numbers","others"] (aC eK):=⟨rfl,rfl,rfl,by decide +kernel,rfl,by decide +kernel,by decide +kernel⟩
theorem rE{a:Addr}{fd:FuncData}(F:Fun K "sum_of_products" "sum_of_products" eK a fd)(hm:mg "sum_of_products" =some (.ref a))(hpt:P.given.tree=none)(n_zip:mg "zip" =none)(n_sum:mg "sum" =none):cB P w K mg base ca 35 "sum_of_products" ["numbers","others"] dM a fd:=by
 refine⟨bH F sA rfl λcdv A outer s H E hr=> ?_,hm,F.kp,F.binds λ_ _ _ _ _ _ us hl=>match us,hl with | [_,_],_=>rfl⟩
 have hu:=hr.units
 have hdp:=cj hr (by decide)
 exact⟨_,(aI (bB (bc (o3 rfl) rfl n_sum Boot.«sum» (ah (cM (own:=["number","other"]) (cap:=[]) (caps:=[]) rfl ⟨rfl,by decide +kernel,by decide +kernel,by decide +kernel,trivial,by decide +kernel⟩ (A0 rfl n_zip (ah (pv 0) (ah (pv 1) ar))) (λ_ _ _=>(iN rfl (cq (aO (i:=0) (show ((["number","other"]:List Str)++([]:List Str)).Nodup from by decide +kernel) rfl (Or.inl rfl)) (cq (aO (i:=1) (show ((["number","other"]:List Str)++([]:List Str)).Nodup from by decide +kernel) rfl (Or.inl rfl)) gs)))) (λ_ _ _=>cD) (λ_ _ _=>(aR gR (pv 0) (pv 1)))) ar)))),
  (bD (bg vG (ai (bT (m:=2) (caps:=[]) (Ag (ai (ag 0) (ai (ag 1) av))) (gu (cx (aL 0) (cx (aL 1) gv))) cC (aw fG (ag 0) (ag 1))) av)))⟩
theorem Cg:bq ["at","many","told"] ["at","many"] (aC pR):=⟨rfl,rfl,rfl,by decide +kernel,rfl,by decide +kernel,by decide +kernel⟩
theorem Jp{a:Addr}{fd:FuncData}(F:Fun K "unit" "unit" pR a fd)(hm:mg "unit" =some (.ref a))(hpt:P.given.tree=none):cB P w K mg base ca 35 "unit" ["at","many"] pK a fd:=by
 refine⟨bH F Cg rfl λcdv A outer s H E hr=> ?_,hm,F.kp,F.binds λ_ _ _ _ _ _ us hl=>match us,hl with | [_,_],_=>rfl⟩
 have hu:=hr.units
 have hdp:=cj hr (by decide)
 exact⟨_,(ay (bo (i:=2) Cg.nd rfl (Or.inl rfl) (aR KJ (fE (ah aE ar)) (pv 1)))
 (ay (Fi aE (KW (pv 2) (pv 0) set_list))
 (aI (bB (pv 2))))),
  (aJ (aX (Jf (ai (aD 0) av) (ag 1)))
 (aJ (yP (aD 1) (KD (ag 2) (ag 0)))
 (bD (ag 2))))⟩
theorem Gw:bq ["many"] ["many"] (aC n8):=⟨rfl,rfl,rfl,by decide +kernel,rfl,by decide +kernel,by decide +kernel⟩
theorem GI{a:Addr}{fd:FuncData}(F:Fun K "units" "units" n8 a fd)(hm:mg "units" =some (.ref a))(hpt:P.given.tree=none)(n_range:mg "range" =none)(KL:bS P w K mg base ca 35 "unit" ["at","many"] pK):cB P w K mg base ca 36 "units" ["many"] p6 a fd:=by
 obtain⟨Oy,NQ,LW,sG,Lk,K7⟩:=KL
 refine⟨bH F Gw rfl λcdv A outer s H E hr=> ?_,hm,F.kp,F.binds λ_ _ _ _ _ _ us hl=>match us,hl with | [_],_=>rfl⟩
 have hu:=hr.units
 have hdp:=cj hr (by decide)
 exact⟨_,(aI (bB (cM (own:=["at"]) (cap:=["many"]) (caps:=[0]) rfl ⟨rfl,by decide +kernel,by decide +kernel,by decide +kernel,⟨rfl,Or.inl rfl,rfl,trivial⟩,by decide +kernel⟩ (dB rfl n_range (ah (pv 0) ar)) (λ_ _ _=>(aO (i:=0) (show ((["at"]:List Str)++(["many"]:List Str)).Nodup from by decide +kernel) rfl (Or.inl rfl))) (λ_ _ _=>cD) (λ_ _ _=>(aT LW (hr.mono (by decide)) rfl sG Lk K7 .nil bx (ah (pv 0) (ah (pv 1) ar))))))),
  (bD (bT (m:=1) (caps:=[0]) (eT (ai (ag 0) av)) (aL 0) cC (kI (n:=2) (f:=pK) (ai (ag 0) (ai (ag 1) av)))))⟩
theorem xp:bq ["one","one_value","other","other_value","mixed"] ["one","one_value","other","other_value"] (aC lY):=⟨rfl,rfl,rfl,by decide +kernel,rfl,by decide +kernel,by decide +kernel⟩
theorem E5{a:Addr}{fd:FuncData}(F:Fun K "offset" "offset" lY a fd)(hm:mg "offset" =some (.ref a))(hpt:P.given.tree=none)(n_zip:mg "zip" =none)(HE:bS P w K mg base ca 37 "lowest" ["numbers"] om):cB P w K mg base ca 38 "offset" ["one","one_value","other","other_value"] lO a fd:=by
 obtain⟨NN,Nf,Gz,kE,GV,HW⟩:=HE
 refine⟨bH F xp rfl λcdv A outer s H E hr=> ?_,hm,F.kp,F.binds λ_ _ _ _ _ _ us hl=>match us,hl with | [_,_,_,_],_=>rfl⟩
 have hu:=hr.units
 have hdp:=cj hr (by decide)
 exact⟨_,(ay (gH (i:=4) (own:=["number","other_number"]) (cap:=["one_value","other_value"]) (caps:=[1,3]) rfl ⟨rfl,by decide +kernel,by decide +kernel,by decide +kernel,⟨rfl,Or.inl rfl,rfl,⟨rfl,Or.inl rfl,rfl,trivial⟩⟩,by decide +kernel⟩ (A0 rfl n_zip (ah (pv 0) (ah (pv 2) ar))) (λ_ _ _=>(iN rfl (cq (aO (i:=0) (show ((["number","other_number"]:List Str)++(["one_value","other_value"]:List Str)).Nodup from by decide +kernel) rfl (Or.inl rfl)) (cq (aO (i:=1) (show ((["number","other_number"]:List Str)++(["one_value","other_value"]:List Str)).Nodup from by decide +kernel) rfl (Or.inl rfl)) gs)))) (λ_ _ _=>cD) (λ_ _ _=>(aR oO (aR gR (pv 0) (pv 3)) (aR gR (pv 1) (pv 2)))) xp.nd rfl (Or.inl rfl) rfl)
 (aI (bB (aT Gz (hr.mono (by decide)) rfl kE GV HW .nil bx (ah (pv 4) ar))))),
  (aJ (aX (bT (m:=2) (caps:=[1,3]) (Ag (ai (ag 0) (ai (ag 2) av))) (gu (cx (aL 0) (cx (aL 1) gv))) cC (aw oh (aw fG (ag 0) (ag 3)) (aw fG (ag 1) (ag 2)))))
 (bD (kI (n:=1) (f:=om) (ai (ag 4) av))))⟩
theorem jC:bq ["numbers","bits","number"] ["numbers"] (aC jd):=⟨rfl,rfl,rfl,by decide +kernel,rfl,by decide +kernel,by decide +kernel⟩
theorem Au{a:Addr}{fd:FuncData}(F:Fun K "places_of" "places_of" jd a fd)(hm:mg "places_of" =some (.ref a))(hpt:P.given.tree=none):cB P w K mg base ca 35 "places_of" ["numbers"] i9 a fd:=by
 refine⟨bH F jC rfl λcdv A outer s H E hr=> ?_,hm,F.kp,F.binds λ_ _ _ _ _ _ us hl=>match us,hl with | [_],_=>rfl⟩
 have hu:=hr.units
 have hdp:=cj hr (by decide)
 exact⟨_,(ay (bo (i:=1) jC.nd rfl (Or.inl rfl) aE)
 (ay (dY PassesOwn.never rfl (bU (pv 0)) (aO (i:=2) jC.nd rfl (Or.inl rfl))
 (ay (bo (i:=1) jC.nd rfl (Or.inl rfl) (aR gR (pv 1) aE))
 (aI (dH (bM mI (pv 2) aE (bY _))
 (aI (bo (i:=1) jC.nd rfl (Or.inl rfl) (aR cN (pv 1) aE)))
 cI))))
 (aI (bB (pv 1))))),
  (aJ (aX (aD 0))
 (aJ (d5 (bV (ag 0)) (aL 2)
 (aJ (aX (aw fG (ag 1) (aD 2)))
 (dI (bW (aw mC (ag 2) (aD 0)))
 (aX (aw bZ (ag 1) (aD 1)))
 cH)))
 (bD (ag 1))))⟩
theorem Bx:bq ["places","others"] ["places","others"] (aC j5):=⟨rfl,rfl,rfl,by decide +kernel,rfl,by decide +kernel,by decide +kernel⟩
theorem BM{a:Addr}{fd:FuncData}(F:Fun K "is_among" "is_among" j5 a fd)(hm:mg "is_among" =some (.ref a))(hpt:P.given.tree=none):cB P w K mg base ca 35 "is_among" ["places","others"] j2 a fd:=by
 refine⟨bH F Bx rfl λcdv A outer s H E hr=> ?_,hm,F.kp,F.binds λ_ _ _ _ _ _ us hl=>match us,hl with | [_,_],_=>rfl⟩
 have hu:=hr.units
 have hdp:=cj hr (by decide)
 exact⟨_,(aI (bB (sN (m4 hu) (aR D9 (pv 0) (pv 1)) (pv 1) (bY _)))),
  (bD (aw kB (aw yZ (ag 0) (ag 1)) (ag 1)))⟩
theorem m8:bq ["one","other","all_places","both"] ["one","other","all_places"] (aC eU):=⟨rfl,rfl,rfl,by decide +kernel,rfl,by decide +kernel,by decide +kernel⟩
theorem tW{a:Addr}{fd:FuncData}(F:Fun K "are_neighbours" "are_neighbours" eU a fd)(hm:mg "are_neighbours" =some (.ref a))(hpt:P.given.tree=none)(n_len:mg "len" =none)(Di:bS P w K mg base ca 35 "is_among" ["places","others"] j2):cB P w K mg base ca 36 "are_neighbours" ["one","other","all_places"] eW a fd:=by
 obtain⟨M0,Mm,DP,lu,DT,DH⟩:=Di
 refine⟨bH F m8 rfl λcdv A outer s H E hr=> ?_,hm,F.kp,F.binds λ_ _ _ _ _ _ us hl=>match us,hl with | [_,_,_],_=>rfl⟩
 have hu:=hr.units
 have hdp:=cj hr (by decide)
 exact⟨_,(ay (bo (i:=3) m8.nd rfl (Or.inr rfl) (aR D9 (pv 0) (pv 1)))
 (aI (bB (sN (m4 hu) (bc cX rfl n_len Boot.«len» (ah (cM (own:=["places"]) (cap:=["both"]) (caps:=[3]) rfl ⟨rfl,by decide +kernel,by decide +kernel,by decide +kernel,⟨rfl,Or.inl rfl,rfl,trivial⟩,by decide +kernel⟩ (bU (pv 2)) (λ_ _ _=>(aO (i:=0) (show ((["places"]:List Str)++(["both"]:List Str)).Nodup from by decide +kernel) rfl (Or.inl rfl))) (λ_ _ _=>(nY (lG (aT DP (hr.mono (by decide)) rfl lu DT DH .nil bx (ah (pv 0) (ah (pv 1) ar)))))) (λ_ _ _=>(pv 0))) ar)) aE (bY _))))),
  (aJ (aX (aw yZ (ag 0) (ag 1)))
 (bD (aw kB (bg eC (ai (bT (m:=1) (caps:=[3]) (bV (ag 2)) (aL 0) (nr (bf (n:=2) (f:=j2) (ai (ag 0) (ai (ag 1) av)))) (ag 0)) av)) (aD 2))))⟩
theorem cU:bq ["lists","row","values","places","told","above","below","high","low"] ["lists","row"] (aC eD):=⟨rfl,rfl,rfl,by decide +kernel,rfl,by decide +kernel,by decide +kernel⟩
theorem rf{a:Addr}{fd:FuncData}(F:Fun K "lone_by_one_more" "lone_by_one_more" eD a fd)(hm:mg "lone_by_one_more" =some (.ref a))(hpt:P.given.tree=none)(n_zip:mg "zip" =none)(n_enumerate:mg "enumerate" =none)(tX:bS P w K mg base ca 35 "sum_of_products" ["numbers","others"] dM)(BD:bS P w K mg base ca 35 "places_of" ["numbers"] i9)(uZ:bS P w K mg base ca 36 "are_neighbours" ["one","other","all_places"] eW)(Hd:bS P w K mg base ca 38 "offset" ["one","one_value","other","other_value"] lO):cB P w K mg base ca 39 "lone_by_one_more" ["lists","row"] fk a fd:=by
 obtain⟨FU,El,tU,fF,tY,tZ⟩:=tX
 obtain⟨Mr,Lx,BC,kj,B1,BJ⟩:=BD
 obtain⟨Hx,FW,uX,gb,uC,ux⟩:=uZ
 obtain⟨Nu,M9,Gk,oH,HH,GY⟩:=Hd
 refine⟨bH F cU rfl λcdv A outer s H E hr=> ?_,hm,F.kp,F.binds λ_ _ _ _ _ _ us hl=>match us,hl with | [_,_],_=>rfl⟩
 have hu:=hr.units
 have hdp:=cj hr (by decide)
 exact⟨_,(ay (gH (i:=2) (own:=["one"]) (cap:=["row"]) (caps:=[1]) rfl ⟨rfl,by decide +kernel,by decide +kernel,by decide +kernel,⟨rfl,Or.inl rfl,rfl,trivial⟩,by decide +kernel⟩ (bU (pv 0)) (λ_ _ _=>(aO (i:=0) (show ((["one"]:List Str)++(["row"]:List Str)).Nodup from by decide +kernel) rfl (Or.inl rfl))) (λ_ _ _=>cD) (λ_ _ _=>(aT tU (hr.mono (by decide)) rfl fF tY tZ .nil bx (ah (pv 1) (ah (pv 0) ar)))) cU.nd rfl (Or.inl rfl) rfl)
 (ay (gH (i:=3) (own:=["one"]) (cap:=[]) (caps:=[]) rfl ⟨rfl,by decide +kernel,by decide +kernel,by decide +kernel,trivial,by decide +kernel⟩ (bU (pv 0)) (λ_ _ _=>(aO (i:=0) (show ((["one"]:List Str)++([]:List Str)).Nodup from by decide +kernel) rfl (Or.inl rfl))) (λ_ _ _=>cD) (λ_ _ _=>(aT BC (hr.mono (by decide)) rfl kj B1 BJ .nil bx (ah (pv 0) ar))) cU.nd rfl (Or.inl rfl) rfl)
 (ay (gH (i:=4) (own:=["one","value"]) (cap:=[]) (caps:=[]) rfl ⟨rfl,by decide +kernel,by decide +kernel,by decide +kernel,trivial,by decide +kernel⟩ (A0 rfl n_zip (ah (pv 0) (ah (pv 2) ar))) (λ_ _ _=>(iN rfl (cq (aO (i:=0) (show ((["one","value"]:List Str)++([]:List Str)).Nodup from by decide +kernel) rfl (Or.inl rfl)) (cq (aO (i:=1) (show ((["one","value"]:List Str)++([]:List Str)).Nodup from by decide +kernel) rfl (Or.inl rfl)) gs)))) (λ_ _ _=>(nY (bM (m4 hu) (pv 1) aE (bY _)))) (λ_ _ _=>(pv 0)) cU.nd rfl (Or.inl rfl) rfl)
 (ay (gH (i:=5) (own:=["at","value"]) (cap:=[]) (caps:=[]) rfl ⟨rfl,by decide +kernel,by decide +kernel,by decide +kernel,trivial,by decide +kernel⟩ (nV rfl n_enumerate (ah (pv 2) ar)) (λ_ _ _=>(iN rfl (cq (aO (i:=0) (show ((["at","value"]:List Str)++([]:List Str)).Nodup from by decide +kernel) rfl (Or.inl rfl)) (cq (aO (i:=1) (show ((["at","value"]:List Str)++([]:List Str)).Nodup from by decide +kernel) rfl (Or.inl rfl)) gs)))) (λ_ _ _=>(nY (bM mI (pv 1) aE (bY _)))) (λ_ _ _=>(pv 0)) cU.nd rfl (Or.inl rfl) rfl)
 (ay (gH (i:=6) (own:=["at","value"]) (cap:=[]) (caps:=[]) rfl ⟨rfl,by decide +kernel,by decide +kernel,by decide +kernel,trivial,by decide +kernel⟩ (nV rfl n_enumerate (ah (pv 2) ar)) (λ_ _ _=>(iN rfl (cq (aO (i:=0) (show ((["at","value"]:List Str)++([]:List Str)).Nodup from by decide +kernel) rfl (Or.inl rfl)) (cq (aO (i:=1) (show ((["at","value"]:List Str)++([]:List Str)).Nodup from by decide +kernel) rfl (Or.inl rfl)) gs)))) (λ_ _ _=>(nY (bM o9 (pv 1) aE (bY _)))) (λ_ _ _=>(pv 0)) cU.nd rfl (Or.inl rfl) rfl)
 (ay (dY PassesOwn.never rfl (bU (pv 5)) (aO (i:=7) cU.nd rfl (Or.inl rfl))
 (aI (dY PassesOwn.never rfl (bU (pv 6)) (aO (i:=8) cU.nd rfl (Or.inl rfl))
 (aI (dH (lG (aT uX (hr.mono (by decide)) rfl gb uC ux .nil bx (ah (dq cO (pv 3) (pv 7) (λ_ _=>rfl)) (ah (dq cO (pv 3) (pv 8) (λ_ _=>rfl)) (ah (pv 3) ar)))))
 (aI (cQ (jk PySem.F.plainAttrs_list PySem.F.slot_list_append PySem.F.type_list_append dS (pv 4) (ah (aT Gk (hr.mono (by decide)) rfl oH HH GY .nil bx (ah (dq cO (pv 0) (pv 8) (λ_ _=>rfl)) (ah (dq cO (pv 2) (pv 8) (λ_ _=>rfl)) (ah (dq cO (pv 0) (pv 7) (λ_ _=>rfl)) (ah (dq cO (pv 2) (pv 7) (λ_ _=>rfl)) ar))))) ar))))
 cI)))))
 (aI (bB (pv 4))))))))),
  (aJ (aX (bT (m:=1) (caps:=[1]) (bV (ag 0)) (aL 0) cC (ot (n:=2) (f:=dM) (ai (ag 1) (ai (ag 0) av)))))
 (aJ (aX (bT (m:=1) (caps:=[]) (bV (ag 0)) (aL 0) cC (ot (n:=1) (f:=i9) (ai (ag 0) av))))
 (aJ (aX (qN (m:=2) (caps:=[]) (Ag (ai (ag 0) (ai (ag 2) av))) (gu (cx (aL 0) (cx (aL 1) gv))) (bW (aw kB (ag 1) (aD 0))) (ag 0)))
 (aJ (aX (bT (m:=2) (caps:=[]) (gY (ai (ag 2) av)) (gu (cx (aL 0) (cx (aL 1) gv))) (bW (aw mC (ag 1) (aD 0))) (ag 0)))
 (aJ (aX (bT (m:=2) (caps:=[]) (gY (ai (ag 2) av)) (gu (cx (aL 0) (cx (aL 1) gv))) (bW (aw oW (ag 1) (aD 0))) (ag 0)))
 (aJ (d5 (bV (ag 5)) (aL 7)
 (d5 (bV (ag 6)) (aL 8)
 (dI (nr (bf (n:=3) (f:=eW) (ai (aw dt (ag 3) (ag 7)) (ai (aw dt (ag 3) (ag 8)) (ai (ag 3) av)))))
 (cP (gX (ag 4) (zH (n:=4) (f:=lO) (ai (aw dt (ag 0) (ag 8)) (ai (aw dt (ag 2) (ag 8)) (ai (aw dt (ag 0) (ag 7)) (ai (aw dt (ag 2) (ag 7)) av)))))))
 cH)))
 (bD (pQ (ag 4)))))))))⟩
theorem sV:bq ["rows","many","lists","row"] ["rows","many"] (aC pZ):=⟨rfl,rfl,rfl,by decide +kernel,rfl,by decide +kernel,by decide +kernel⟩
theorem J2{a:Addr}{fd:FuncData}(F:Fun K "lone" "lone" pZ a fd)(hm:mg "lone" =some (.ref a))(hpt:P.given.tree=none)(n_sorted:mg "sorted" =none)(Kf:bS P w K mg base ca 36 "units" ["many"] p6)(si:bS P w K mg base ca 39 "lone_by_one_more" ["lists","row"] fk):cB P w K mg base ca 40 "lone" ["rows","many"] rQ a fd:=by
 obtain⟨N8,Nw,Jb,pU,IH,Jj⟩:=Kf
 obtain⟨Ej,Ee,rX,fo,rL,sC⟩:=si
 refine⟨bH F sV rfl λcdv A outer s H E hr=> ?_,hm,F.kp,F.binds λ_ _ _ _ _ _ us hl=>match us,hl with | [_,_],_=>rfl⟩
 have hu:=hr.units
 have hdp:=cj hr (by decide)
 exact⟨_,(ay (bo (i:=2) sV.nd rfl (Or.inl rfl) (aT Jb (hr.mono (by decide)) rfl pU IH Jj .nil bx (ah (pv 1) ar)))
 (ay (dY PassesOwn.never rfl (bU (pv 0)) (aO (i:=3) sV.nd rfl (Or.inl rfl))
 (aI (bo (i:=2) sV.nd rfl (Or.inl rfl) (aT rX (hr.mono (by decide)) rfl fo rL sC .nil bx (ah (pv 2) (ah (pv 3) ar))))))
 (aI (bB (bc (sm hu) rfl n_sorted Boot.«sorted» (ah (pv 2) ar)))))),
  (aJ (aX (yU (n:=1) (f:=p6) (ai (ag 1) av)))
 (aJ (d5 (bV (ag 0)) (aL 3)
 (aX (yU (n:=2) (f:=fk) (ai (ag 2) (ai (ag 3) av)))))
 (bD (HX (ag 2)))))⟩
theorem B3:bq ["self","at"] ["self","at"] (aC jX):=⟨rfl,rfl,rfl,by decide +kernel,rfl,by decide +kernel,by decide +kernel⟩
theorem BF{a:Addr}{fd:FuncData}(F:Fun K "row" "Yard.row" jX a fd)(hm:Meth K (ca 0) "row" a)(hpt:P.given.tree=none)(cl_Yard:Cls K (ca 0))(na_Yard_held_changes:fm K (ca 0) "held_changes"):MethAt P w K mg base ca 35 (ca 0) "row" ["self","at"] jS:=by
 refine⟨a,fd,bH F B3 rfl λcdv A outer s H E hr=> ?_,hm,F.binds λ_ _ _ _ _ _ us hl=>match us,hl with | [_,_],_=>rfl⟩
 have hu:=hr.units
 have hdp:=cj hr (by decide)
 exact⟨_,(aI (bB (cM (own:=["change"]) (cap:=["at"]) (caps:=[1]) rfl ⟨rfl,by decide +kernel,by decide +kernel,by decide +kernel,⟨rfl,Or.inl rfl,rfl,trivial⟩,by decide +kernel⟩ (bU (AH (pv 0) rfl)) (λ_ _ _=>(aO (i:=0) (show ((["change"]:List Str)++(["at"]:List Str)).Nodup from by decide +kernel) rfl (Or.inl rfl))) (λ_ _ _=>cD) (λ_ _ _=>(dq cO (pv 0) (pv 1) (λ_ _=>rfl)))))),
  (bD (bT (m:=1) (caps:=[1]) (bV (Bm (c:=0) (f:="held_changes") cl_Yard na_Yard_held_changes (ag 0))) (aL 0) cC (aw dt (ag 0) (ag 1))))⟩
theorem yO:bq ["self"] ["self"] (aC ja):=⟨rfl,rfl,rfl,by decide +kernel,rfl,by decide +kernel,by decide +kernel⟩
theorem zY{a:Addr}{fd:FuncData}(F:Fun K "rows" "Yard.rows" ja a fd)(hm:Meth K (ca 0) "rows" a)(hpt:P.given.tree=none)(n_len:mg "len" =none)(n_range:mg "range" =none)(cl_Yard:Cls K (ca 0))(na_Yard_held_goods:fm K (ca 0) "held_goods")(D_Yard_row:MethAt P w K mg base ca 35 (ca 0) "row" ["self","at"] jS):MethAt P w K mg base ca 36 (ca 0) "rows" ["self"] ko:=by
 obtain⟨a_Yard_row,fd_Yard_row,G_Yard_row,kY,b_Yard_row⟩:=D_Yard_row
 refine⟨a,fd,bH F yO rfl λcdv A outer s H E hr=> ?_,hm,F.binds λ_ _ _ _ _ _ us hl=>match us,hl with | [_],_=>rfl⟩
 have hu:=hr.units
 have hdp:=cj hr (by decide)
 exact⟨_,(aI (bB (cM (own:=["at"]) (cap:=["self"]) (caps:=[0]) rfl ⟨rfl,by decide +kernel,by decide +kernel,by decide +kernel,⟨rfl,Or.inl rfl,rfl,trivial⟩,by decide +kernel⟩ (dB rfl n_range (ah (bc cX rfl n_len Boot.«len» (ah (AH (pv 0) rfl) ar)) ar)) (λ_ _ _=>(aO (i:=0) (show ((["at"]:List Str)++(["self"]:List Str)).Nodup from by decide +kernel) rfl (Or.inl rfl))) (λ_ _ _=>cD) (λ_ _ _=>(Ja (pv 1) cl_Yard kY G_Yard_row (hr.mono (by decide)) b_Yard_row .nil bx (ah (pv 0) ar)))))),
  (bD (bT (m:=1) (caps:=[0]) (eT (ai (bg eC (ai (Bm (c:=0) (f:="held_goods") cl_Yard na_Yard_held_goods (ag 0)) av)) av)) (aL 0) cC (uo (c:=0) (m:="row") (n:=1) (f:=jS) (ag 1) (ai (ag 0) av))))⟩
theorem yb:bq ["self"] ["self"] (aC hX):=⟨rfl,rfl,rfl,by decide +kernel,rfl,by decide +kernel,by decide +kernel⟩
theorem yo{a:Addr}{fd:FuncData}(F:Fun K "names" "Yard.names" hX a fd)(hm:Meth K (ca 0) "names" a)(hpt:P.given.tree=none)(cl_Yard:Cls K (ca 0))(na_Yard_held_works:fm K (ca 0) "held_works"):MethAt P w K mg base ca 35 (ca 0) "names" ["self"] jy:=by
 refine⟨a,fd,bH F yb rfl λcdv A outer s H E hr=> ?_,hm,F.binds λ_ _ _ _ _ _ us hl=>match us,hl with | [_],_=>rfl⟩
 have hu:=hr.units
 have hdp:=cj hr (by decide)
 exact⟨_,(aI (bB (cM (own:=["work"]) (cap:=[]) (caps:=[]) rfl ⟨rfl,by decide +kernel,by decide +kernel,by decide +kernel,trivial,by decide +kernel⟩ (bU (AH (pv 0) rfl)) (λ_ _ _=>(aO (i:=0) (show ((["work"]:List Str)++([]:List Str)).Nodup from by decide +kernel) rfl (Or.inl rfl))) (λ_ _ _=>cD) (λ_ _ _=>(dq cO (pv 0) aE (λ_ _=>rfl)))))),
  (bD (bT (m:=1) (caps:=[]) (bV (Bm (c:=0) (f:="held_works") cl_Yard na_Yard_held_works (ag 0))) (aL 0) cC (aw dt (ag 0) (aD 0))))⟩
theorem Jv:bq ["yard"] ["yard"] (aC p8):=⟨rfl,rfl,rfl,by decide +kernel,rfl,by decide +kernel,by decide +kernel⟩
theorem JX{a:Addr}{fd:FuncData}(F:Fun K "ways" "ways" p8 a fd)(hm:mg "ways" =some (.ref a))(hpt:P.given.tree=none)(n_len:mg "len" =none)(cl_Yard:Cls K (ca 0))(LH:bS P w K mg base ca 40 "lone" ["rows","many"] rQ)(D_Yard_rows:MethAt P w K mg base ca 36 (ca 0) "rows" ["self"] ko)(D_Yard_names:MethAt P w K mg base ca 35 (ca 0) "names" ["self"] jy):cB P w K mg base ca 41 "ways" ["yard"] lF a fd:=by
 obtain⟨Ot,N9,Lf,sv,LV,La⟩:=LH
 obtain⟨a_Yard_rows,fd_Yard_rows,G_Yard_rows,kq,b_Yard_rows⟩:=D_Yard_rows
 obtain⟨a_Yard_names,fd_Yard_names,G_Yard_names,jz,b_Yard_names⟩:=D_Yard_names
 refine⟨bH F Jv rfl λcdv A outer s H E hr=> ?_,hm,F.kp,F.binds λ_ _ _ _ _ _ us hl=>match us,hl with | [_],_=>rfl⟩
 have hu:=hr.units
 have hdp:=cj hr (by decide)
 exact⟨_,(aI (bB (aT Lf (hr.mono (by decide)) rfl sv LV La .nil bx (ah (Aa (pv 0) cl_Yard kq G_Yard_rows (hr.mono (by decide)) b_Yard_rows .nil bx) (ah (bc cX rfl n_len Boot.«len» (ah (Aa (pv 0) cl_Yard jz G_Yard_names (hr.mono (by decide)) b_Yard_names .nil bx) ar)) ar))))),
  (bD (kI (n:=2) (f:=rQ) (ai (uo (c:=0) (m:="rows") (n:=0) (f:=ko) (ag 0) av) (ai (bg eC (ai (uo (c:=0) (m:="names") (n:=0) (f:=jy) (ag 0) av) av)) av))))⟩
theorem Eb:bq ["text"] ["text"] (aC kU):=⟨rfl,rfl,rfl,by decide +kernel,rfl,by decide +kernel,by decide +kernel⟩
theorem DZ{a:Addr}{fd:FuncData}(F:Fun K "is_name" "is_name" kU a fd)(hm:mg "is_name" =some (.ref a))(hpt:P.given.tree=none)(n_len:mg "len" =none)(n_all:mg "all" =none)(c_MOST_LETTERS:∃t,mg "MOST_LETTERS" =some (.int 8 t)):cB P w K mg base ca 35 "is_name" ["text"] kL a fd:=by
 refine⟨bH F Eb rfl λcdv A outer s H E hr=> ?_,hm,F.kp,F.binds λ_ _ _ _ _ _ us hl=>match us,hl with | [_],_=>rfl⟩
 have hu:=hr.units
 have hdp:=cj hr (by decide)
 exact⟨_,(ay (dH (PW.pt (pw_or (bM o9 (bc cX rfl n_len Boot.«len» (ah (pv 0) ar)) aE (bY _)) (pw_or1 (bM mI (bc cX rfl n_len Boot.«len» (ah (pv 0) ar)) (wJ (v:=.int 8) rfl c_MOST_LETTERS.choose_spec ⟨_,rfl⟩) (bY _)))))
 (aI (bB nO))
 cI)
 (aI (bB (bc (rS rfl) rfl n_all Boot.«all» (ah (cM (own:=["sign"]) (cap:=[]) (caps:=[]) rfl ⟨rfl,by decide +kernel,by decide +kernel,by decide +kernel,trivial,by decide +kernel⟩ (K5 (pv 0)) (λ_ _ _=>(aO (i:=0) (show ((["sign"]:List Str)++([]:List Str)).Nodup from by decide +kernel) rfl (Or.inl rfl))) (λ_ _ _=>cD) (λ_ _ _=>(FZ Ex Ex vK (pv 0) vK))) ar))))),
  (aJ (dI (vz (bW (aw oW (bg eC (ai (ag 0) av)) (aD 1))) (bW (aw mC (bg eC (ai (ag 0) av)) (aD 8))))
 (bD (nA false))
 cH)
 (bD (bg Bb (ai (bT (m:=1) (caps:=[]) (J4 (ag 0)) (aL 0) cC (z6 Ez Ez (u4 ("a" :Str)) (ag 0) (u4 ("z" :Str)))) av))))⟩
theorem yh:bq ["goods","works"] ["goods","works"] (aC ip):=⟨rfl,rfl,rfl,by decide +kernel,rfl,by decide +kernel,by decide +kernel⟩
theorem yz{a:Addr}{fd:FuncData}(F:Fun K "check_many" "check_many" ip a fd)(hm:mg "check_many" =some (.ref a))(hpt:P.given.tree=none)(n_len:mg "len" =none)(c_MOST_GOODS:∃t,mg "MOST_GOODS" =some (.int 10 t))(c_MOST_WORKS:∃t,mg "MOST_WORKS" =some (.int 10 t)):cB P w K mg base ca 35 "check_many" ["goods","works"] hZ a fd:=by
 refine⟨bH F yh rfl λcdv A outer s H E hr=> ?_,hm,F.kp,F.binds λ_ _ _ _ _ _ us hl=>match us,hl with | [_,_],_=>rfl⟩
 have hu:=hr.units
 have hdp:=cj hr (by decide)
 exact⟨_,(ay (dH (bM mI (bc cX rfl n_len Boot.«len» (ah (pv 0) ar)) (wJ (v:=.int 10) rfl c_MOST_GOODS.choose_spec ⟨_,rfl⟩) (bY _))
 (aI kH)
 cI)
 (aI (dH (bM mI (bc cX rfl n_len Boot.«len» (ah (pv 1) ar)) (wJ (v:=.int 10) rfl c_MOST_WORKS.choose_spec ⟨_,rfl⟩) (bY _))
 (aI kH)
 cI))),
  (aJ (dI (bW (aw mC (bg eC (ai (ag 0) av)) (aD 10)))
 kD
 cH)
 (dI (bW (aw mC (bg eC (ai (ag 1) av)) (aD 10)))
 kD
 cH))⟩
theorem ye:bq ["text","earlier"] ["text","earlier"] (aC ic):=⟨rfl,rfl,rfl,by decide +kernel,rfl,by decide +kernel,by decide +kernel⟩
theorem xW{a:Addr}{fd:FuncData}(F:Fun K "check_name" "check_name" ic a fd)(hm:mg "check_name" =some (.ref a))(hpt:P.given.tree=none)(Fx:bS P w K mg base ca 35 "is_name" ["text"] kL):cB P w K mg base ca 36 "check_name" ["text","earlier"] eG a fd:=by
 obtain⟨Nd,MJ,FJ,mQ,Fb,Ff⟩:=Fx
 refine⟨bH F ye rfl λcdv A outer s H E hr=> ?_,hm,F.kp,F.binds λ_ _ _ _ _ _ us hl=>match us,hl with | [_,_],_=>rfl⟩
 have hu:=hr.units
 have hdp:=cj hr (by decide)
 exact⟨_,(ay (dH (pL (lG (aT FJ (hr.mono (by decide)) rfl mQ Fb Ff .nil bx (ah (pv 0) ar))))
 (aI kH)
 cI)
 (aI (dH (bM xv (pv 0) (pv 1) (by with_unfolding_all rfl))
 (aI kH)
 cI))),
  (aJ (dI (p7 (nr (bf (n:=1) (f:=kL) (ai (ag 0) av))))
 kD
 cH)
 (dI (bW (aw Iy (ag 0) (ag 1)))
 kD
 cH))⟩
theorem lL:bq ["goods","at","good"] ["goods"] (aC gr):=⟨rfl,rfl,rfl,by decide +kernel,rfl,by decide +kernel,by decide +kernel⟩
theorem wq{a:Addr}{fd:FuncData}(F:Fun K "check_goods" "check_goods" gr a fd)(hm:mg "check_goods" =some (.ref a))(hpt:P.given.tree=none)(n_enumerate:mg "enumerate" =none)(oE:bS P w K mg base ca 36 "check_name" ["text","earlier"] eG):cB P w K mg base ca 37 "check_goods" ["goods"] gi a fd:=by
 obtain⟨yK,xU,oq,fR,oA,ou⟩:=oE
 refine⟨bH F lL rfl λcdv A outer s H E hr=> ?_,hm,F.kp,F.binds λ_ _ _ _ _ _ us hl=>match us,hl with | [_],_=>rfl⟩
 have hu:=hr.units
 have hdp:=cj hr (by decide)
 exact⟨_,(aI (dY PassesOwn.never rfl (nV rfl n_enumerate (ah (pv 0) ar)) (iN rfl (cq (aO (i:=1) lL.nd rfl (Or.inl rfl)) (cq (aO (i:=2) lL.nd rfl (Or.inl rfl)) gs)))
 (aI (cQ (aT oq (hr.mono (by decide)) rfl fR oA ou .nil bx (ah (pv 2) (ah (uL Jc (pv 0) pW (tD (pv 1))) ar))))))),
  (d5 (gY (ai (ag 0) av)) (gu (cx (aL 1) (cx (aL 2) gv)))
 (cP (bf (n:=2) (f:=eG) (ai (ag 2) (ai (Mz (ag 0) mN (sZ (ag 1))) av)))))⟩
theorem yi:bq ["good","goods","earlier"] ["good","goods","earlier"] (aC ig):=⟨rfl,rfl,rfl,by decide +kernel,rfl,by decide +kernel,by decide +kernel⟩
theorem ym{a:Addr}{fd:FuncData}(F:Fun K "check_good" "check_good" ig a fd)(hm:mg "check_good" =some (.ref a))(hpt:P.given.tree=none):cB P w K mg base ca 35 "check_good" ["good","goods","earlier"] ik a fd:=by
 refine⟨bH F yi rfl λcdv A outer s H E hr=> ?_,hm,F.kp,F.binds λ_ _ _ _ _ _ us hl=>match us,hl with | [_,_,_],_=>rfl⟩
 have hu:=hr.units
 have hdp:=cj hr (by decide)
 exact⟨_,(ay (dH (bM yX (pv 0) (pv 1) (by with_unfolding_all rfl))
 (aI kH)
 cI)
 (aI (dH (bM xv (pv 0) (pv 2) (by with_unfolding_all rfl))
 (aI kH)
 cI))),
  (aJ (dI (bW (aw GN (ag 0) (ag 1)))
 kD
 cH)
 (dI (bW (aw Iy (ag 0) (ag 2)))
 kD
 cH))⟩
theorem vD:bq ["amount"] ["amount"] (aC fN):=⟨rfl,rfl,rfl,by decide +kernel,rfl,by decide +kernel,by decide +kernel⟩
theorem vg{a:Addr}{fd:FuncData}(F:Fun K "check_amount" "check_amount" fN a fd)(hm:mg "check_amount" =some (.ref a))(hpt:P.given.tree=none)(DQ:bS P w K mg base ca 35 "is_whole" ["value"] jT):cB P w K mg base ca 36 "check_amount" ["amount"] fO a fd:=by
 obtain⟨MX,Ms,D8,ni,Dj,Dk⟩:=DQ
 refine⟨bH F vD rfl λcdv A outer s H E hr=> ?_,hm,F.kp,F.binds λ_ _ _ _ _ _ us hl=>match us,hl with | [_],_=>rfl⟩
 have hu:=hr.units
 have hdp:=cj hr (by decide)
 exact⟨_,(aI (dH (PW.pt (pw_or (pL (lG (aT D8 (hr.mono (by decide)) rfl ni Dj Dk .nil bx (ah (pv 0) ar)))) (pw_or1 (bM o9 (pv 0) aE (bY _)))))
 (aI kH)
 cI)),
  (dI (vz (p7 (nr (bf (n:=1) (f:=jT) (ai (ag 0) av)))) (bW (aw oW (ag 0) (aD 1))))
 kD
 cH)⟩
theorem jP:bq ["parts","goods","earlier","good","amount"] ["parts","goods"] (aC gz):=⟨rfl,rfl,rfl,by decide +kernel,rfl,by decide +kernel,by decide +kernel⟩
theorem wc{a:Addr}{fd:FuncData}(F:Fun K "check_parts" "check_parts" gz a fd)(hm:mg "check_parts" =some (.ref a))(hpt:P.given.tree=none)(yY:bS P w K mg base ca 35 "check_good" ["good","goods","earlier"] ik)(v9:bS P w K mg base ca 36 "check_amount" ["amount"] fO):cB P w K mg base ca 37 "check_parts" ["parts","goods"] d8 a fd:=by
 obtain⟨L8,Ks,Ay,jt,AR,zB⟩:=yY
 obtain⟨Ke,Io,v8,ib,wu,we⟩:=v9
 refine⟨bH F jP rfl λcdv A outer s H E hr=> ?_,hm,F.kp,F.binds λ_ _ _ _ _ _ us hl=>match us,hl with | [_,_],_=>rfl⟩
 have hu:=hr.units
 have hdp:=cj hr (by decide)
 exact⟨_,(ay (bo (i:=2) jP.nd rfl (Or.inl rfl) (fE ar))
 (aI (dY PassesOwn.never rfl (bU (pv 0)) (iN rfl (cq (aO (i:=3) jP.nd rfl (Or.inl rfl)) (cq (aO (i:=4) jP.nd rfl (Or.inl rfl)) gs)))
 (ay (cQ (aT Ay (hr.mono (by decide)) rfl jt AR zB .nil bx (ah (pv 3) (ah (pv 1) (ah (pv 2) ar)))))
 (ay (cQ (aT v8 (hr.mono (by decide)) rfl ib wu we .nil bx (ah (pv 4) ar)))
 (aI (cQ (jk PySem.F.plainAttrs_list PySem.F.slot_list_append PySem.F.type_list_append dS (pv 2) (ah (pv 3) ar))))))))),
  (aJ (aX (jJ av))
 (d5 (bV (ag 0)) (gu (cx (aL 3) (cx (aL 4) gv)))
 (aJ (cP (ot (n:=3) (f:=ik) (ai (ag 3) (ai (ag 1) (ai (ag 2) av)))))
 (aJ (cP (bf (n:=1) (f:=fO) (ai (ag 4) av)))
 (cP (gX (ag 2) (ag 3)))))))⟩
theorem g7:bq ["works","goods","earlier","name","uses","makes"] ["works","goods"] (aC gk):=⟨rfl,rfl,rfl,by decide +kernel,rfl,by decide +kernel,by decide +kernel⟩
theorem wI{a:Addr}{fd:FuncData}(F:Fun K "check_works" "check_works" gk a fd)(hm:mg "check_works" =some (.ref a))(hpt:P.given.tree=none)(oE:bS P w K mg base ca 36 "check_name" ["text","earlier"] eG)(xX:bS P w K mg base ca 37 "check_parts" ["parts","goods"] d8):cB P w K mg base ca 38 "check_works" ["works","goods"] gn a fd:=by
 obtain⟨yK,xU,oq,fR,oA,ou⟩:=oE
 obtain⟨Kq,Jh,qT,gj,qY,qZ⟩:=xX
 refine⟨bH F g7 rfl λcdv A outer s H E hr=> ?_,hm,F.kp,F.binds λ_ _ _ _ _ _ us hl=>match us,hl with | [_,_],_=>rfl⟩
 have hu:=hr.units
 have hdp:=cj hr (by decide)
 exact⟨_,(ay (bo (i:=2) g7.nd rfl (Or.inl rfl) (fE ar))
 (aI (dY PassesOwn.never rfl (bU (pv 0)) (iN rfl (cq (aO (i:=3) g7.nd rfl (Or.inl rfl)) (cq (aO (i:=4) g7.nd rfl (Or.inl rfl)) (cq (aO (i:=5) g7.nd rfl (Or.inl rfl)) gs))))
 (ay (cQ (aT oq (hr.mono (by decide)) rfl fR oA ou .nil bx (ah (pv 3) (ah (pv 2) ar))))
 (ay (cQ (aT qT (hr.mono (by decide)) rfl gj qY qZ .nil bx (ah (pv 4) (ah (pv 1) ar))))
 (ay (cQ (aT qT (hr.mono (by decide)) rfl gj qY qZ .nil bx (ah (pv 5) (ah (pv 1) ar))))
 (aI (cQ (jk PySem.F.plainAttrs_list PySem.F.slot_list_append PySem.F.type_list_append dS (pv 2) (ah (pv 3) ar)))))))))),
  (aJ (aX (jJ av))
 (d5 (bV (ag 0)) (gu (cx (aL 3) (cx (aL 4) (cx (aL 5) gv))))
 (aJ (cP (ot (n:=2) (f:=eG) (ai (ag 3) (ai (ag 2) av))))
 (aJ (cP (bf (n:=2) (f:=d8) (ai (ag 4) (ai (ag 1) av))))
 (aJ (cP (bf (n:=2) (f:=d8) (ai (ag 5) (ai (ag 1) av))))
 (cP (gX (ag 2) (ag 3))))))))⟩
theorem Bd:bq ["work"] ["work"] (aC je):=⟨rfl,rfl,rfl,by decide +kernel,rfl,by decide +kernel,by decide +kernel⟩
theorem Ak{a:Addr}{fd:FuncData}(F:Fun K "copy_work" "copy_work" je a fd)(hm:mg "copy_work" =some (.ref a))(hpt:P.given.tree=none)(n_list:mg "list" =none):cB P w K mg base ca 35 "copy_work" ["work"] jc a fd:=by
 refine⟨bH F Bd rfl λcdv A outer s H E hr=> ?_,hm,F.kp,F.binds λ_ _ _ _ _ _ us hl=>match us,hl with | [_],_=>rfl⟩
 have hu:=hr.units
 have hdp:=cj hr (by decide)
 exact⟨_,(aI (bB (rF (ah (dq cO (pv 0) aE (λ_ _=>rfl)) (ah (gL gZ rfl n_list Boot.«list» (ah (dq cO (pv 0) aE (λ_ _=>rfl)) ar)) (ah (gL gZ rfl n_list Boot.«list» (ah (dq cO (pv 0) aE (λ_ _=>rfl)) ar)) ar)))))),
  (bD (rO (ai (aw dt (ag 0) (aD 0)) (ai (bg oz (ai (aw dt (ag 0) (aD 1)) av)) (ai (bg oz (ai (aw dt (ag 0) (aD 2)) av)) av)))))⟩
theorem AS:bq ["good","parts"] ["good","parts"] (aC iT):=⟨rfl,rfl,rfl,by decide +kernel,rfl,by decide +kernel,by decide +kernel⟩
theorem AI{a:Addr}{fd:FuncData}(F:Fun K "amount_of" "amount_of" iT a fd)(hm:mg "amount_of" =some (.ref a))(hpt:P.given.tree=none)(n_sum:mg "sum" =none):cB P w K mg base ca 35 "amount_of" ["good","parts"] d4 a fd:=by
 refine⟨bH F AS rfl λcdv A outer s H E hr=> ?_,hm,F.kp,F.binds λ_ _ _ _ _ _ us hl=>match us,hl with | [_,_],_=>rfl⟩
 have hu:=hr.units
 have hdp:=cj hr (by decide)
 exact⟨_,(aI (bB (bc (o3 rfl) rfl n_sum Boot.«sum» (ah (cM (own:=["part"]) (cap:=["good"]) (caps:=[0]) rfl ⟨rfl,by decide +kernel,by decide +kernel,by decide +kernel,⟨rfl,Or.inl rfl,rfl,trivial⟩,by decide +kernel⟩ (bU (pv 1)) (λ_ _ _=>(aO (i:=0) (show ((["part"]:List Str)++(["good"]:List Str)).Nodup from by decide +kernel) rfl (Or.inl rfl))) (λ_ _ _=>(nY (bM (m4 hu) (dq cO (pv 0) aE (λ_ _=>rfl)) (pv 1) (bY _)))) (λ_ _ _=>(dq cO (pv 0) aE (λ_ _=>rfl)))) ar)))),
  (bD (bg vG (ai (bT (m:=1) (caps:=[0]) (bV (ag 1)) (aL 0) (bW (aw kB (aw dt (ag 0) (aD 0)) (ag 1))) (aw dt (ag 0) (aD 1))) av)))⟩
theorem A8:bq ["work","goods"] ["work","goods"] (aC i4):=⟨rfl,rfl,rfl,by decide +kernel,rfl,by decide +kernel,by decide +kernel⟩
theorem AL{a:Addr}{fd:FuncData}(F:Fun K "change_of" "change_of" i4 a fd)(hm:mg "change_of" =some (.ref a))(hpt:P.given.tree=none)(B2:bS P w K mg base ca 35 "amount_of" ["good","parts"] d4):cB P w K mg base ca 36 "change_of" ["work","goods"] iY a fd:=by
 obtain⟨Mp,Ld,ui,i6,t8,ug⟩:=B2
 refine⟨bH F A8 rfl λcdv A outer s H E hr=> ?_,hm,F.kp,F.binds λ_ _ _ _ _ _ us hl=>match us,hl with | [_,_],_=>rfl⟩
 have hu:=hr.units
 have hdp:=cj hr (by decide)
 exact⟨_,(aI (bB (cM (own:=["good"]) (cap:=["work"]) (caps:=[0]) rfl ⟨rfl,by decide +kernel,by decide +kernel,by decide +kernel,⟨rfl,Or.inl rfl,rfl,trivial⟩,by decide +kernel⟩ (bU (pv 1)) (λ_ _ _=>(aO (i:=0) (show ((["good"]:List Str)++(["work"]:List Str)).Nodup from by decide +kernel) rfl (Or.inl rfl))) (λ_ _ _=>cD) (λ_ _ _=>(aR oO (aT ui (hr.mono (by decide)) rfl i6 t8 ug .nil bx (ah (pv 0) (ah (dq cO (pv 1) aE (λ_ _=>rfl)) ar))) (aT ui (hr.mono (by decide)) rfl i6 t8 ug .nil bx (ah (pv 0) (ah (dq cO (pv 1) aE (λ_ _=>rfl)) ar)))))))),
  (bD (bT (m:=1) (caps:=[0]) (bV (ag 1)) (aL 0) cC (aw oh (bf (n:=2) (f:=d4) (ai (ag 0) (ai (aw dt (ag 1) (aD 2)) av))) (bf (n:=2) (f:=d4) (ai (ag 0) (ai (aw dt (ag 1) (aD 1)) av))))))⟩
theorem z5:bq ["self","goods","works"] ["self","goods","works"] (aC iX):=⟨rfl,rfl,rfl,by decide +kernel,rfl,by decide +kernel,by decide +kernel⟩
theorem zE{a:Addr}{fd:FuncData}(F:Fun K "__init__" "Yard.__init__" iX a fd)(hk:Mk K (ca 0) a)(hm:mg "Yard" =some (.ref (ca 0)))(hpt:P.given.tree=none)(n_list:mg "list" =none)(cl_Yard:Cls K (ca 0))(na_Yard_held_goods:fm K (ca 0) "held_goods")(na_Yard_held_works:fm K (ca 0) "held_works")(na_Yard_held_changes:fm K (ca 0) "held_changes")(yJ:bS P w K mg base ca 35 "check_many" ["goods","works"] hZ)(xV:bS P w K mg base ca 37 "check_goods" ["goods"] gi)(yr:bS P w K mg base ca 38 "check_works" ["works","goods"] gn)(BQ:bS P w K mg base ca 35 "copy_work" ["work"] jc)(B0:bS P w K mg base ca 36 "change_of" ["work","goods"] iY):FG P w K mg base ca 39 (ca 0) "Yard" ["self","goods","works"] gO:=by
 obtain⟨LQ,Kn,zd,jB,Bc,zc⟩:=yJ
 obtain⟨Kp,J0,yw,iI,xZ,yx⟩:=xV
 obtain⟨Kt,Jg,yq,iK,yf,yg⟩:=yr
 obtain⟨Mq,LS,BV,kv,BZ,BB⟩:=BQ
 obtain⟨Mv,LA,Bz,kh,Bu,BO⟩:=B0
 refine⟨a,fd,bH F z5 rfl λcdv A outer s H E hr=> ?_,hk,hm,F.binds λ_ _ _ _ _ _ us hl=>match us,hl with | [_,_,_],_=>rfl⟩
 have hu:=hr.units
 have hdp:=cj hr (by decide)
 exact⟨_,(ay (cQ (aT zd (hr.mono (by decide)) rfl jB Bc zc .nil bx (ah (pv 1) (ah (pv 2) ar))))
 (ay (cQ (aT yw (hr.mono (by decide)) rfl iI xZ yx .nil bx (ah (pv 1) ar)))
 (ay (cQ (aT yq (hr.mono (by decide)) rfl iK yf yg .nil bx (ah (pv 2) (ah (pv 1) ar))))
 (ay (Bg (pv 0) (gL gZ rfl n_list Boot.«list» (ah (pv 1) ar)) rfl)
 (ay (Bg (pv 0) (cM (own:=["work"]) (cap:=[]) (caps:=[]) rfl ⟨rfl,by decide +kernel,by decide +kernel,by decide +kernel,trivial,by decide +kernel⟩ (bU (pv 2)) (λ_ _ _=>(aO (i:=0) (show ((["work"]:List Str)++([]:List Str)).Nodup from by decide +kernel) rfl (Or.inl rfl))) (λ_ _ _=>cD) (λ_ _ _=>(aT BV (hr.mono (by decide)) rfl kv BZ BB .nil bx (ah (pv 0) ar)))) rfl)
 (aI (Bg (pv 0) (cM (own:=["work"]) (cap:=["goods"]) (caps:=[1]) rfl ⟨rfl,by decide +kernel,by decide +kernel,by decide +kernel,⟨rfl,Or.inl rfl,rfl,trivial⟩,by decide +kernel⟩ (bU (pv 2)) (λ_ _ _=>(aO (i:=0) (show ((["work"]:List Str)++(["goods"]:List Str)).Nodup from by decide +kernel) rfl (Or.inl rfl))) (λ_ _ _=>cD) (λ_ _ _=>(aT Bz (hr.mono (by decide)) rfl kh Bu BO .nil bx (ah (pv 0) (ah (pv 1) ar))))) rfl))))))),
  (aJ (cP (bf (n:=2) (f:=hZ) (ai (ag 1) (ai (ag 2) av))))
 (aJ (cP (bf (n:=1) (f:=gi) (ai (ag 1) av)))
 (aJ (cP (bf (n:=2) (f:=gn) (ai (ag 2) (ai (ag 1) av))))
 (aJ (wx (c:=0) (f:="held_goods") cl_Yard na_Yard_held_goods (ag 0) (bg oz (ai (ag 1) av)))
 (aJ (wx (c:=0) (f:="held_works") cl_Yard na_Yard_held_works (ag 0) (bT (m:=1) (caps:=[]) (bV (ag 2)) (aL 0) cC (bf (n:=1) (f:=jc) (ai (ag 0) av))))
 (wx (c:=0) (f:="held_changes") cl_Yard na_Yard_held_changes (ag 0) (bT (m:=1) (caps:=[1]) (bV (ag 2)) (aL 0) cC (bf (n:=2) (f:=iY) (ai (ag 0) (ai (ag 1) av))))))))))⟩
theorem Br:bq ["_law_script","_law_k"] ["_law_script","_law_k"] (aC jU):=⟨rfl,rfl,rfl,by decide +kernel,rfl,by decide +kernel,by decide +kernel⟩
theorem By{a:Addr}{fd:FuncData}(F:Fun K "_law_cell" "_law_cell" jU a fd)(hm:mg "_law_cell" =some (.ref a))(hpt:P.given.tree=none)(n_len:mg "len" =none):cB P w K mg base ca 35 "_law_cell" ["_law_script","_law_k"] da a fd:=by
 refine⟨bH F Br rfl λcdv A outer s H E hr=> ?_,hm,F.kp,F.binds λ_ _ _ _ _ _ us hl=>match us,hl with | [_,_],_=>rfl⟩
 have hu:=hr.units
 have hdp:=cj hr (by decide)
 exact⟨_,(ay (dH (bM o9 (pv 1) (bc cX rfl n_len Boot.«len» (ah (pv 0) ar)) (bY _))
 (aI (bB (dq cO (pv 0) (pv 1) (λ_ _=>rfl))))
 cI)
 (aI (bB aE))),
  (aJ (dI (bW (aw oW (ag 1) (bg eC (ai (ag 0) av))))
 (bD (aw dt (ag 0) (ag 1)))
 cH)
 (bD (aD 0)))⟩
theorem ue:bq ["_law_cell_here","_law_turn","_law_many","_law_blent"] ["_law_cell_here","_law_turn","_law_many"] (aC jL):=⟨rfl,rfl,rfl,by decide +kernel,rfl,by decide +kernel,by decide +kernel⟩
theorem Bw{a:Addr}{fd:FuncData}(F:Fun K "_law_pick" "_law_pick" jL a fd)(hm:mg "_law_pick" =some (.ref a))(hpt:P.given.tree=none):cB P w K mg base ca 35 "_law_pick" ["_law_cell_here","_law_turn","_law_many"] aK a fd:=by
 refine⟨bH F ue rfl λcdv A outer s H E hr=> ?_,hm,F.kp,F.binds λ_ _ _ _ _ _ us hl=>match us,hl with | [_,_,_],_=>rfl⟩
 have hu:=hr.units
 have hdp:=cj hr (by decide)
 exact⟨_,(ay (bo (i:=3) ue.nd rfl (Or.inl rfl) (aR gy (aR gR (aR cN (aR gy (pv 0) aE) aE) (aR cN aE (aR gR aE (pv 1)))) aE))
 (aI (bB (aR gy (aR (oo hdp hpt ⟨_,_,rfl,rfl,rfl,rfl,rfl⟩) (aR gy (aR gR (pv 3) aE) aE) aE) (pv 2))))),
  (aJ (aX (aw iJ (aw fG (aw bZ (aw iJ (ag 0) (aD 2147483647)) (aD 7)) (aw bZ (aD 48271) (aw fG (aD 7919) (ag 1)))) (aD 2147483647)))
 (bD (aw iJ (aw lU (aw iJ (aw fG (ag 3) (aD 16807)) (aD 2147483647)) (aD 8)) (ag 2))))⟩
theorem fZ:bq ["_law_cell_here","_law_many","_law_letters","_law_word","_law_k","_law_spot","_law_first"] ["_law_cell_here","_law_many"] (aC jb):=⟨rfl,rfl,rfl,by decide +kernel,rfl,by decide +kernel,by decide +kernel⟩
theorem AZ{a:Addr}{fd:FuncData}(F:Fun K "_law_names" "_law_names" jb a fd)(hm:mg "_law_names" =some (.ref a))(hpt:P.given.tree=none)(n_range:mg "range" =none)(n_len:mg "len" =none)(fJ:bS P w K mg base ca 35 "_law_pick" ["_law_cell_here","_law_turn","_law_many"] aK):cB P w K mg base ca 36 "_law_names" ["_law_cell_here","_law_many"] df a fd:=by
 obtain⟨nC,mG,ck,bI,cb,cf⟩:=fJ
 refine⟨bH F fZ rfl λcdv A outer s H E hr=> ?_,hm,F.kp,F.binds λ_ _ _ _ _ _ us hl=>match us,hl with | [_,_],_=>rfl⟩
 have hu:=hr.units
 have hdp:=cj hr (by decide)
 exact⟨_,(ay (bo (i:=2) fZ.nd rfl (Or.inr rfl) vK)
 (ay (bo (i:=3) fZ.nd rfl (Or.inr rfl) vK)
 (ay (dY PassesOwn.never rfl (dB rfl n_range (ah (aT ck (hr.mono (by decide)) rfl bI cb cf .nil bx (ah (pv 0) (ah aE (ah aE ar)))) ar)) (aO (i:=4) fZ.nd rfl (Or.inl rfl))
 (aI (bo (i:=3) fZ.nd rfl (Or.inr rfl) (aR cN (pv 3) (dq cO (pv 2) (aT ck (hr.mono (by decide)) rfl bI cb cf .nil bx (ah (pv 0) (ah (aR cN aE (pv 4)) (ah aE ar)))) (λ_ _=>rfl))))))
 (ay (bo (i:=5) fZ.nd rfl (Or.inr rfl) (aT ck (hr.mono (by decide)) rfl bI cb cf .nil bx (ah (pv 0) (ah aE (ah (aR cN (bc cX rfl n_len Boot.«len» (ah (pv 3) ar)) aE) ar)))))
 (ay (bo (i:=6) fZ.nd rfl (Or.inr rfl) (aT ck (hr.mono (by decide)) rfl bI cb cf .nil bx (ah (pv 0) (ah aE (ah aE ar)))))
 (aI (bB (cM (own:=["_law_k"]) (cap:=["_law_first","_law_letters","_law_spot","_law_word"]) (caps:=[6,2,5,3]) rfl ⟨rfl,by decide +kernel,by decide +kernel,by decide +kernel,⟨rfl,Or.inl rfl,rfl,⟨rfl,Or.inl rfl,rfl,⟨rfl,Or.inl rfl,rfl,⟨rfl,Or.inl rfl,rfl,trivial⟩⟩⟩⟩,by decide +kernel⟩ (dB rfl n_range (ah (pv 1) ar)) (λ_ _ _=>(aO (i:=0) (show ((["_law_k"]:List Str)++(["_law_first","_law_letters","_law_spot","_law_word"]:List Str)).Nodup from by decide +kernel) rfl (Or.inl rfl))) (λ_ _ _=>cD) (λ_ _ _=>(aR cN (aR cN (uL Fh (pv 4) pW (tD (pv 3))) (dq cO (pv 2) (aR gy (aR cN (pv 1) (aR gR aE (pv 0))) aE) (λ_ _=>rfl))) (uL Fh (pv 4) (tD (pv 3)) pW))))))))))),
  (aJ (aX (u4 ("abcdefghijklmnopqrstuvwxyz" :Str)))
 (aJ (aX (u4 ("" :Str)))
 (aJ (d5 (eT (ai (bf (n:=3) (f:=aK) (ai (ag 0) (ai (aD 1) (ai (aD 8) av)))) av)) (aL 4)
 (aX (aw bZ (ag 3) (aw dt (ag 2) (bf (n:=3) (f:=aK) (ai (ag 0) (ai (aw bZ (aD 2) (ag 4)) (ai (aD 26) av))))))))
 (aJ (aX (bf (n:=3) (f:=aK) (ai (ag 0) (ai (aD 10) (ai (aw bZ (bg eC (ai (ag 3) av)) (aD 1)) av)))))
 (aJ (aX (bf (n:=3) (f:=aK) (ai (ag 0) (ai (aD 11) (ai (aD 26) av)))))
 (bD (bT (m:=1) (caps:=[6,2,5,3]) (eT (ai (ag 1) av)) (aL 0) cC (aw bZ (aw bZ (En (ag 4) mN (sZ (ag 3))) (aw dt (ag 2) (aw iJ (aw bZ (ag 1) (aw fG (aD 5) (ag 0))) (aD 26)))) (En (ag 4) (sZ (ag 3)) mN)))))))))⟩
theorem eZ:bq ["_law_cell_here","_law_many","_law_wide","_law_made","_law_rest","_law_span","_law_g","_law_number"] ["_law_cell_here","_law_many","_law_wide"] (aC jZ):=⟨rfl,rfl,rfl,by decide +kernel,rfl,by decide +kernel,by decide +kernel⟩
theorem BG{a:Addr}{fd:FuncData}(F:Fun K "_law_move" "_law_move" jZ a fd)(hm:mg "_law_move" =some (.ref a))(hpt:P.given.tree=none)(n_int:mg "int" =none)(n_range:mg "range" =none)(fJ:bS P w K mg base ca 35 "_law_pick" ["_law_cell_here","_law_turn","_law_many"] aK):cB P w K mg base ca 36 "_law_move" ["_law_cell_here","_law_many","_law_wide"] jW a fd:=by
 obtain⟨nC,mG,ck,bI,cb,cf⟩:=fJ
 refine⟨bH F eZ rfl λcdv A outer s H E hr=> ?_,hm,F.kp,F.binds λ_ _ _ _ _ _ us hl=>match us,hl with | [_,_,_],_=>rfl⟩
 have hu:=hr.units
 have hdp:=cj hr (by decide)
 exact⟨_,(ay (bo (i:=3) eZ.nd rfl (Or.inl rfl) (fE ar))
 (ay (bo (i:=4) eZ.nd rfl (Or.inl rfl) (aR (oo hdp hpt ⟨_,_,rfl,rfl,rfl,rfl,rfl⟩) (pv 0) aE))
 (ay (bo (i:=5) eZ.nd rfl (Or.inl rfl) (dq cO (fE (ah aE (ah (aR cN (aR gR aE (aR Ei aE aE)) aE) ar))) (gL rG rfl n_int Boot.«int» (ah (pv 2) ar)) (λ_ _=>rfl)))
 (ay (dY PassesOwn.never rfl (dB rfl n_range (ah (pv 1) ar)) (aO (i:=6) eZ.nd rfl (Or.inl rfl))
 (ay (bo (i:=7) eZ.nd rfl (Or.inl rfl) (aR oO (aT ck (hr.mono (by decide)) rfl bI cb cf .nil bx (ah (pv 0) (ah (aR cN aE (pv 6)) (ah aE ar)))) aE))
 (ay (dH (lG (pv 2))
 (aI (bo (i:=7) eZ.nd rfl (Or.inl rfl) (aR oO (aR cN (aR gR (pv 7) (aR gy (pv 0) (aR Ei aE aE))) (aT ck (hr.mono (by decide)) rfl bI cb cf .nil bx (ah (pv 0) (ah (aR cN aE (pv 6)) (ah aE ar))))) aE)))
 cI)
 (ay (dH (PW.pt (pw_and (bM (m4 hu) (aR gy (pv 0) aE) aE (bY _)) (pw_and1 (bM mI (pv 4) aE (bY _)))))
 (ay (bo (i:=7) eZ.nd rfl (Or.inl rfl) (aR oO (aR gy (pv 4) (pv 5)) (aR (oo hdp hpt ⟨_,_,rfl,rfl,rfl,rfl,rfl⟩) (pv 5) aE)))
 (aI (bo (i:=4) eZ.nd rfl (Or.inl rfl) (aR (oo hdp hpt ⟨_,_,rfl,rfl,rfl,rfl,rfl⟩) (pv 4) (pv 5)))))
 cI)
 (aI (cQ (jk PySem.F.plainAttrs_list PySem.F.slot_list_append PySem.F.type_list_append dS (pv 3) (ah (pv 7) ar))))))))
 (aI (bB (pv 3))))))),
  (aJ (aX (jJ av))
 (aJ (aX (aw lU (ag 0) (aD 2)))
 (aJ (aX (aw dt (pI (ai (aD 7) (ai (aw bZ (aw fG (aD 2) (aw EK (aD 10) (aD 12))) (aD 1)) av))) (bg uY (ai (ag 2) av))))
 (aJ (d5 (eT (ai (ag 1) av)) (aL 6)
 (aJ (aX (aw oh (bf (n:=3) (f:=aK) (ai (ag 0) (ai (aw bZ (aD 20) (ag 6)) (ai (aD 7) av)))) (aD 3)))
 (aJ (dI (nr (ag 2))
 (aX (aw oh (aw bZ (aw fG (ag 7) (aw iJ (ag 0) (aw EK (aD 10) (aD 12)))) (bf (n:=3) (f:=aK) (ai (ag 0) (ai (aw bZ (aD 30) (ag 6)) (ai (aD 2000) av))))) (aD 1000)))
 cH)
 (aJ (dI (Ap (bW (aw kB (aw iJ (ag 0) (aD 2)) (aD 1))) (bW (aw mC (ag 4) (aD 0))))
 (aJ (aX (aw oh (aw iJ (ag 4) (ag 5)) (aw lU (ag 5) (aD 2))))
 (aX (aw lU (ag 4) (ag 5))))
 cH)
 (cP (gX (ag 3) (ag 7)))))))
 (bD (ag 3))))))⟩
theorem d3:bq ["_law_script","_law_begin","_law_many","_law_head","_law_moves_here","_law_wide","_law_k","_law_found","_law_way","_law_left_here"] ["_law_script","_law_begin","_law_many"] (aC i5):=⟨rfl,rfl,rfl,by decide +kernel,rfl,by decide +kernel,by decide +kernel⟩
theorem AD{a:Addr}{fd:FuncData}(F:Fun K "_law_moves" "_law_moves" i5 a fd)(hm:mg "_law_moves" =some (.ref a))(hpt:P.given.tree=none)(n_int:mg "int" =none)(n_range:mg "range" =none)(n_len:mg "len" =none)(n_sum:mg "sum" =none)(n_list:mg "list" =none)(qm:bS P w K mg base ca 35 "_law_cell" ["_law_script","_law_k"] da)(fJ:bS P w K mg base ca 35 "_law_pick" ["_law_cell_here","_law_turn","_law_many"] aK)(Dx:bS P w K mg base ca 36 "_law_move" ["_law_cell_here","_law_many","_law_wide"] jW):cB P w K mg base ca 37 "_law_moves" ["_law_script","_law_begin","_law_many"] fL a fd:=by
 obtain⟨DS,Bv,nj,gG,nN,ny⟩:=qm
 obtain⟨nC,mG,ck,bI,cb,cf⟩:=fJ
 obtain⟨MN,Mu,Ds,lD,Dl,DI⟩:=Dx
 refine⟨bH F d3 rfl λcdv A outer s H E hr=> ?_,hm,F.kp,F.binds λ_ _ _ _ _ _ us hl=>match us,hl with | [_,_,_],_=>rfl⟩
 have hu:=hr.units
 have hdp:=cj hr (by decide)
 exact⟨_,(ay (bo (i:=3) d3.nd rfl (Or.inr rfl) (aT nj (hr.mono (by decide)) rfl gG nN ny .nil bx (ah (pv 0) (ah (pv 1) ar))))
 (ay (bo (i:=4) d3.nd rfl (Or.inr rfl) (fE ar))
 (ay (bo (i:=5) d3.nd rfl (Or.inl rfl) (sN (m4 hu) (aT ck (hr.mono (by decide)) rfl bI cb cf .nil bx (ah (pv 3) (ah aE (ah aE ar)))) aE (bY _)))
 (ay (dY PassesOwn.never rfl (dB rfl n_range (ah (aR gy (aT ck (hr.mono (by decide)) rfl bI cb cf .nil bx (ah (pv 3) (ah aE (ah aE ar)))) (aR oO aE (aR gR aE (gL rG rfl n_int Boot.«int» (ah (pv 5) ar))))) ar)) (aO (i:=6) d3.nd rfl (Or.inr rfl))
 (aI (cQ (jk PySem.F.plainAttrs_list PySem.F.slot_list_append PySem.F.type_list_append dS (pv 4) (ah (aT Ds (hr.mono (by decide)) rfl lD Dl DI .nil bx (ah (aR cN (aT nj (hr.mono (by decide)) rfl gG nN ny .nil bx (ah (pv 0) (ah (aR cN (aR cN (pv 1) aE) (pv 6)) ar))) (aR gR aE (pv 6))) (ah (pv 2) (ah (pv 5) ar)))) ar)))))
 (ay (bo (i:=7) d3.nd rfl (Or.inl rfl) (fE ar))
 (ay (dY PassesOwn.never rfl (dB rfl n_range (ah (aR (oo hdp hpt ⟨_,_,rfl,rfl,rfl,rfl,rfl⟩) (aT ck (hr.mono (by decide)) rfl bI cb cf .nil bx (ah (pv 3) (ah aE (ah aE ar)))) (aR cN aE (gL rG rfl n_int Boot.«int» (ah (pv 5) ar)))) ar)) (aO (i:=6) d3.nd rfl (Or.inr rfl))
 (ay (bo (i:=8) d3.nd rfl (Or.inr rfl) (cM (own:=["_law_at"]) (cap:=["_law_head","_law_k"]) (caps:=[3,6]) rfl ⟨rfl,by decide +kernel,by decide +kernel,by decide +kernel,⟨rfl,Or.inl rfl,rfl,⟨rfl,Or.inl rfl,rfl,trivial⟩⟩,by decide +kernel⟩ (dB rfl n_range (ah (bc cX rfl n_len Boot.«len» (ah (pv 4) ar)) ar)) (λ_ _ _=>(aO (i:=0) (show ((["_law_at"]:List Str)++(["_law_head","_law_k"]:List Str)).Nodup from by decide +kernel) rfl (Or.inl rfl))) (λ_ _ _=>cD) (λ_ _ _=>(aR gy (aT ck (hr.mono (by decide)) rfl bI cb cf .nil bx (ah (pv 1) (ah (aR cN (aR cN aE (aR gR aE (pv 2))) (pv 0)) (ah aE ar)))) aE))))
 (ay (gH (i:=9) (own:=["_law_g"]) (cap:=["_law_moves_here","_law_way"]) (caps:=[4,8]) rfl ⟨rfl,by decide +kernel,by decide +kernel,by decide +kernel,⟨rfl,Or.inl rfl,rfl,⟨rfl,Or.inl rfl,rfl,trivial⟩⟩,by decide +kernel⟩ (dB rfl n_range (ah (pv 2) ar)) (λ_ _ _=>(aO (i:=0) (show ((["_law_g"]:List Str)++(["_law_moves_here","_law_way"]:List Str)).Nodup from by decide +kernel) rfl (Or.inr rfl))) (λ_ _ _=>cD) (λ_ _ _=>(bc (o3 rfl) rfl n_sum Boot.«sum» (ah (cM (own:=["_law_at"]) (cap:=["_law_g","_law_moves_here","_law_way"]) (caps:=[0,1,2]) rfl ⟨rfl,by decide +kernel,by decide +kernel,by decide +kernel,⟨rfl,Or.inl rfl,rfl,⟨rfl,Or.inl rfl,rfl,⟨rfl,Or.inl rfl,rfl,trivial⟩⟩⟩,by decide +kernel⟩ (dB rfl n_range (ah (bc cX rfl n_len Boot.«len» (ah (pv 1) ar)) ar)) (λ_ _ _=>(aO (i:=0) (show ((["_law_at"]:List Str)++(["_law_g","_law_moves_here","_law_way"]:List Str)).Nodup from by decide +kernel) rfl (Or.inl rfl))) (λ_ _ _=>cD) (λ_ _ _=>(aR gR (dq cO (pv 3) (pv 0) (λ_ _=>rfl)) (dq cO (dq cO (pv 2) (pv 0) (λ_ _=>rfl)) (pv 1) (λ_ _=>rfl))))) ar))) d3.nd rfl (Or.inl rfl) rfl)
 (ay (cQ (jk PySem.F.plainAttrs_list PySem.F.slot_list_append PySem.F.type_list_append dS (pv 4) (ah (cM (own:=["_law_number"]) (cap:=[]) (caps:=[]) rfl ⟨rfl,by decide +kernel,by decide +kernel,by decide +kernel,trivial,by decide +kernel⟩ (bU (pv 9)) (λ_ _ _=>(aO (i:=0) (show ((["_law_number"]:List Str)++([]:List Str)).Nodup from by decide +kernel) rfl (Or.inl rfl))) (λ_ _ _=>cD) (λ_ _ _=>(vJ rW (pv 0)))) ar)))
 (aI (cQ (jk PySem.F.plainAttrs_list PySem.F.slot_list_append PySem.F.type_list_append dS (pv 7) (ah (aR cN (pv 8) (fE (ah aE ar))) ar))))))))
 (ay (dH (PW.pt (pw_and (bM (m4 hu) (aT ck (hr.mono (by decide)) rfl bI cb cf .nil bx (ah (pv 3) (ah aE (ah aE ar)))) aE (bY _)) (pw_and1 (bM o9 (bc cX rfl n_len Boot.«len» (ah (pv 4) ar)) aE (bY _)))))
 (ay (cQ (jk PySem.F.plainAttrs_list PySem.F.slot_list_insert PySem.F.type_list_insert Kg (pv 4) (ah aE (ah (cM (own:=["_law_g"]) (cap:=[]) (caps:=[]) rfl ⟨rfl,by decide +kernel,by decide +kernel,by decide +kernel,trivial,by decide +kernel⟩ (dB rfl n_range (ah (pv 2) ar)) (λ_ _ _=>(aO (i:=0) (show ((["_law_g"]:List Str)++([]:List Str)).Nodup from by decide +kernel) rfl (Or.inl rfl))) (λ_ _ _=>cD) (λ_ _ _=>aE)) ar))))
 (aI (bo (i:=7) d3.nd rfl (Or.inl rfl) (aR cN (cM (own:=["_law_way"]) (cap:=[]) (caps:=[]) rfl ⟨rfl,by decide +kernel,by decide +kernel,by decide +kernel,trivial,by decide +kernel⟩ (bU (pv 7)) (λ_ _ _=>(aO (i:=0) (show ((["_law_way"]:List Str)++([]:List Str)).Nodup from by decide +kernel) rfl (Or.inl rfl))) (λ_ _ _=>cD) (λ_ _ _=>(aR cN (fE (ah aE ar)) (pv 0)))) (fE (ah (fE (ah aE ar)) ar))))))
 cI)
 (ay (dH (PW.pt (pw_and (bM (m4 hu) (aT ck (hr.mono (by decide)) rfl bI cb cf .nil bx (ah (pv 3) (ah aE (ah aE ar)))) aE (bY _)) (pw_and1 (HZ o9 o9 aE (bc cX rfl n_len Boot.«len» (ah (pv 4) ar)) aE))))
 (aI (cQ (jk PySem.F.plainAttrs_list PySem.F.slot_list_append PySem.F.type_list_append dS (pv 4) (ah (gL gZ rfl n_list Boot.«list» (ah (dq cO (pv 4) (vJ rW aE) (λ_ _=>rfl)) ar)) ar))))
 cI)
 (aI (bB (rF (ah (pv 4) (ah (cM (own:=["_law_way"]) (cap:=["_law_moves_here"]) (caps:=[4]) rfl ⟨rfl,by decide +kernel,by decide +kernel,by decide +kernel,⟨rfl,Or.inl rfl,rfl,trivial⟩,by decide +kernel⟩ (bU (pv 7)) (λ_ _ _=>(aO (i:=0) (show ((["_law_way"]:List Str)++(["_law_moves_here"]:List Str)).Nodup from by decide +kernel) rfl (Or.inl rfl))) (λ_ _ _=>cD) (λ_ _ _=>(aR cN (pv 0) (cM (own:=["_law_k"]) (cap:=[]) (caps:=[]) rfl ⟨rfl,by decide +kernel,by decide +kernel,by decide +kernel,trivial,by decide +kernel⟩ (dB rfl n_range (ah (aR oO (bc cX rfl n_len Boot.«len» (ah (pv 1) ar)) (bc cX rfl n_len Boot.«len» (ah (pv 0) ar))) ar)) (λ_ _ _=>(aO (i:=0) (show ((["_law_k"]:List Str)++([]:List Str)).Nodup from by decide +kernel) rfl (Or.inl rfl))) (λ_ _ _=>cD) (λ_ _ _=>aE))))) ar))))))))))))),
  (aJ (aX (bf (n:=2) (f:=da) (ai (ag 0) (ai (ag 1) av))))
 (aJ (aX (jJ av))
 (aJ (aX (aw kB (bf (n:=3) (f:=aK) (ai (ag 3) (ai (aD 41) (ai (aD 6) av)))) (aD 0)))
 (aJ (d5 (eT (ai (aw iJ (bf (n:=3) (f:=aK) (ai (ag 3) (ai (aD 40) (ai (aD 5) av)))) (aw oh (aD 5) (aw fG (aD 2) (bg uY (ai (ag 5) av))))) av)) (aL 6)
 (cP (gX (ag 4) (pQ (kI (n:=3) (f:=jW) (ai (aw bZ (bf (n:=2) (f:=da) (ai (ag 0) (ai (aw bZ (aw bZ (ag 1) (aD 1)) (ag 6)) av))) (aw fG (aD 13) (ag 6))) (ai (ag 2) (ai (ag 5) av))))))))
 (aJ (aX (jJ av))
 (aJ (d5 (eT (ai (aw lU (bf (n:=3) (f:=aK) (ai (ag 3) (ai (aD 42) (ai (aD 3) av)))) (aw bZ (aD 1) (bg uY (ai (ag 5) av)))) av)) (aL 6)
 (aJ (aX (bT (m:=1) (caps:=[3,6]) (eT (ai (bg eC (ai (ag 4) av)) av)) (aL 0) cC (aw iJ (bf (n:=3) (f:=aK) (ai (ag 1) (ai (aw bZ (aw bZ (aD 50) (aw fG (aD 7) (ag 2))) (ag 0)) (ai (aD 4) av)))) (aD 3))))
 (aJ (aX (bT (m:=1) (caps:=[4,8]) (eT (ai (ag 2) av)) (aL 0) cC (bg vG (ai (bT (m:=1) (caps:=[0,1,2]) (eT (ai (bg eC (ai (ag 1) av)) av)) (aL 0) cC (aw fG (aw dt (ag 3) (ag 0)) (aw dt (aw dt (ag 2) (ag 0)) (ag 1)))) av))))
 (aJ (cP (gX (ag 4) (bT (m:=1) (caps:=[]) (bV (ag 9)) (aL 0) cC (vk sL (ag 0)))))
 (cP (gX (ag 7) (aw bZ (ag 8) (pI (ai (aD 1) av)))))))))
 (aJ (dI (Ap (bW (aw kB (bf (n:=3) (f:=aK) (ai (ag 3) (ai (aD 43) (ai (aD 5) av)))) (aD 0))) (bW (aw oW (bg eC (ai (ag 4) av)) (aD 6))))
 (aJ (cP (Kc (ag 4) (bT (m:=1) (caps:=[]) (eT (ai (ag 2) av)) (aL 0) cC (aD 0))))
 (aX (J9 (bT (m:=1) (caps:=[]) (bV (ag 7)) (aL 0) cC (aw bZ (pI (ai (aD 0) av)) (ag 0))) (pI (ai (pI (ai (aD 1) av)) av)))))
 cH)
 (aJ (dI (Ap (bW (aw kB (bf (n:=3) (f:=aK) (ai (ag 3) (ai (aD 44) (ai (aD 5) av)))) (aD 0))) (bW (z6 oW oW (aD 0) (bg eC (ai (ag 4) av)) (aD 6))))
 (cP (gX (ag 4) (bg oz (ai (aw dt (ag 4) (vk sL (aD 1))) av))))
 cH)
 (bD (rO (ai (ag 4) (ai (qN (m:=1) (caps:=[4]) (bV (ag 7)) (aL 0) cC (aw bZ (ag 0) (bT (m:=1) (caps:=[]) (eT (ai (aw oh (bg eC (ai (ag 1) av)) (bg eC (ai (ag 0) av))) av)) (aL 0) cC (aD 0)))) av))))))))))))⟩
theorem d0:bq ["_law_moves_here","_law_stuff","_law_called","_law_cell_here","_law_made","_law_k","_law_move_here","_law_uses","_law_makes","_law_g","_law_number","_law_more"] ["_law_moves_here","_law_stuff","_law_called","_law_cell_here"] (aC iW):=⟨rfl,rfl,rfl,by decide +kernel,rfl,by decide +kernel,by decide +kernel⟩
theorem Ae{a:Addr}{fd:FuncData}(F:Fun K "_law_works" "_law_works" iW a fd)(hm:mg "_law_works" =some (.ref a))(hpt:P.given.tree=none)(n_enumerate:mg "enumerate" =none)(n_max:mg "max" =none)(fJ:bS P w K mg base ca 35 "_law_pick" ["_law_cell_here","_law_turn","_law_many"] aK):cB P w K mg base ca 36 "_law_works" ["_law_moves_here","_law_stuff","_law_called","_law_cell_here"] fM a fd:=by
 obtain⟨nC,mG,ck,bI,cb,cf⟩:=fJ
 refine⟨bH F d0 rfl λcdv A outer s H E hr=> ?_,hm,F.kp,F.binds λ_ _ _ _ _ _ us hl=>match us,hl with | [_,_,_,_],_=>rfl⟩
 have hu:=hr.units
 have hdp:=cj hr (by decide)
 exact⟨_,(ay (bo (i:=4) d0.nd rfl (Or.inl rfl) (fE ar))
 (ay (dY PassesOwn.never rfl (nV rfl n_enumerate (ah (pv 0) ar)) (iN rfl (cq (aO (i:=5) d0.nd rfl (Or.inl rfl)) (cq (aO (i:=6) d0.nd rfl (Or.inl rfl)) gs)))
 (ay (bo (i:=7) d0.nd rfl (Or.inl rfl) (fE ar))
 (ay (bo (i:=8) d0.nd rfl (Or.inl rfl) (fE ar))
 (ay (dY PassesOwn.never rfl (nV rfl n_enumerate (ah (pv 6) ar)) (iN rfl (cq (aO (i:=9) d0.nd rfl (Or.inl rfl)) (cq (aO (i:=10) d0.nd rfl (Or.inl rfl)) gs)))
 (ay (bo (i:=11) d0.nd rfl (Or.inl rfl) (aR gR (aR (oo hdp hpt ⟨_,_,rfl,rfl,rfl,rfl,rfl⟩) (aT ck (hr.mono (by decide)) rfl bI cb cf .nil bx (ah (aR cN (pv 3) (pv 5)) (ah (aR cN aE (pv 9)) (ah aE ar)))) aE) (aR cN aE (aT ck (hr.mono (by decide)) rfl bI cb cf .nil bx (ah (aR cN (pv 3) (pv 5)) (ah (aR cN aE (pv 9)) (ah aE ar)))))))
 (ay (dH (bM mI (aR cN (pv 11) (bc (oX rfl) rfl n_max Boot.«max» (ah aE (ah (vJ rW (pv 10)) ar)))) aE (bY _))
 (aI (cQ (jk PySem.F.plainAttrs_list PySem.F.slot_list_append PySem.F.type_list_append dS (pv 7) (ah (rF (ah (dq cO (pv 1) (pv 9) (λ_ _=>rfl)) (ah (aR cN (pv 11) (bc (oX rfl) rfl n_max Boot.«max» (ah aE (ah (vJ rW (pv 10)) ar)))) ar))) ar))))
 cI)
 (aI (dH (bM mI (aR cN (pv 11) (bc (oX rfl) rfl n_max Boot.«max» (ah aE (ah (pv 10) ar)))) aE (bY _))
 (aI (cQ (jk PySem.F.plainAttrs_list PySem.F.slot_list_append PySem.F.type_list_append dS (pv 8) (ah (rF (ah (dq cO (pv 1) (pv 9) (λ_ _=>rfl)) (ah (aR cN (pv 11) (bc (oX rfl) rfl n_max Boot.«max» (ah aE (ah (pv 10) ar)))) ar))) ar))))
 cI)))))
 (ay (dH (bM (m4 hu) (aT ck (hr.mono (by decide)) rfl bI cb cf .nil bx (ah (aR cN (pv 3) (pv 5)) (ah aE (ah aE ar)))) aE (bY _))
 (aI (bo (i:=7) d0.nd rfl (Or.inl rfl) (JR (pv 7) pW pW (tD (vJ rW aE)))))
 cI)
 (aI (cQ (jk PySem.F.plainAttrs_list PySem.F.slot_list_append PySem.F.type_list_append dS (pv 4) (ah (rF (ah (dq cO (pv 2) (pv 5) (λ_ _=>rfl)) (ah (pv 7) (ah (pv 8) ar)))) ar)))))))))
 (aI (bB (pv 4))))),
  (aJ (aX (jJ av))
 (aJ (d5 (gY (ai (ag 0) av)) (gu (cx (aL 5) (cx (aL 6) gv)))
 (aJ (aX (jJ av))
 (aJ (aX (jJ av))
 (aJ (d5 (gY (ai (ag 6) av)) (gu (cx (aL 9) (cx (aL 10) gv)))
 (aJ (aX (aw fG (aw lU (bf (n:=3) (f:=aK) (ai (aw bZ (ag 3) (ag 5)) (ai (aw bZ (aD 70) (ag 9)) (ai (aD 4) av)))) (aD 3)) (aw bZ (aD 1) (bf (n:=3) (f:=aK) (ai (aw bZ (ag 3) (ag 5)) (ai (aw bZ (aD 80) (ag 9)) (ai (aD 9) av)))))))
 (aJ (dI (bW (aw mC (aw bZ (ag 11) (bg sW (ai (aD 0) (ai (vk sL (ag 10)) av)))) (aD 0)))
 (cP (gX (ag 7) (rO (ai (aw dt (ag 1) (ag 9)) (ai (aw bZ (ag 11) (bg sW (ai (aD 0) (ai (vk sL (ag 10)) av)))) av)))))
 cH)
 (dI (bW (aw mC (aw bZ (ag 11) (bg sW (ai (aD 0) (ai (ag 10) av)))) (aD 0)))
 (cP (gX (ag 8) (rO (ai (aw dt (ag 1) (ag 9)) (ai (aw bZ (ag 11) (bg sW (ai (aD 0) (ai (ag 10) av)))) av)))))
 cH))))
 (aJ (dI (bW (aw kB (bf (n:=3) (f:=aK) (ai (aw bZ (ag 3) (ag 5)) (ai (aD 90) (ai (aD 2) av)))) (aD 1)))
 (aX (JQ (ag 7) mN mN (sZ (vk sL (aD 1)))))
 cH)
 (cP (gX (ag 4) (rO (ai (aw dt (ag 2) (ag 5)) (ai (IP (ag 7)) (ai (pQ (ag 8)) av)))))))))))
 (bD (pQ (ag 4)))))⟩
theorem BU:bq ["_law_moves_here","_law_way","_law_many"] ["_law_moves_here","_law_way","_law_many"] (aC jV):=⟨rfl,rfl,rfl,by decide +kernel,rfl,by decide +kernel,by decide +kernel⟩
theorem BW{a:Addr}{fd:FuncData}(F:Fun K "_law_left" "_law_left" jV a fd)(hm:mg "_law_left" =some (.ref a))(hpt:P.given.tree=none)(n_range:mg "range" =none)(n_len:mg "len" =none)(n_sum:mg "sum" =none):cB P w K mg base ca 35 "_law_left" ["_law_moves_here","_law_way","_law_many"] j3 a fd:=by
 refine⟨bH F BU rfl λcdv A outer s H E hr=> ?_,hm,F.kp,F.binds λ_ _ _ _ _ _ us hl=>match us,hl with | [_,_,_],_=>rfl⟩
 have hu:=hr.units
 have hdp:=cj hr (by decide)
 exact⟨_,(aI (bB (cM (own:=["_law_g"]) (cap:=["_law_moves_here","_law_way"]) (caps:=[0,1]) rfl ⟨rfl,by decide +kernel,by decide +kernel,by decide +kernel,⟨rfl,Or.inl rfl,rfl,⟨rfl,Or.inl rfl,rfl,trivial⟩⟩,by decide +kernel⟩ (dB rfl n_range (ah (pv 2) ar)) (λ_ _ _=>(aO (i:=0) (show ((["_law_g"]:List Str)++(["_law_moves_here","_law_way"]:List Str)).Nodup from by decide +kernel) rfl (Or.inr rfl))) (λ_ _ _=>cD) (λ_ _ _=>(bc (o3 rfl) rfl n_sum Boot.«sum» (ah (cM (own:=["_law_k"]) (cap:=["_law_g","_law_moves_here","_law_way"]) (caps:=[0,1,2]) rfl ⟨rfl,by decide +kernel,by decide +kernel,by decide +kernel,⟨rfl,Or.inl rfl,rfl,⟨rfl,Or.inl rfl,rfl,⟨rfl,Or.inl rfl,rfl,trivial⟩⟩⟩,by decide +kernel⟩ (dB rfl n_range (ah (bc cX rfl n_len Boot.«len» (ah (pv 1) ar)) ar)) (λ_ _ _=>(aO (i:=0) (show ((["_law_k"]:List Str)++(["_law_g","_law_moves_here","_law_way"]:List Str)).Nodup from by decide +kernel) rfl (Or.inl rfl))) (λ_ _ _=>cD) (λ_ _ _=>(aR gR (dq cO (pv 3) (pv 0) (λ_ _=>rfl)) (dq cO (dq cO (pv 2) (pv 0) (λ_ _=>rfl)) (pv 1) (λ_ _=>rfl))))) ar)))))),
  (bD (qN (m:=1) (caps:=[0,1]) (eT (ai (ag 2) av)) (aL 0) cC (bg vG (ai (bT (m:=1) (caps:=[0,1,2]) (eT (ai (bg eC (ai (ag 1) av)) av)) (aL 0) cC (aw fG (aw dt (ag 3) (ag 0)) (aw dt (aw dt (ag 2) (ag 0)) (ag 1)))) av))))⟩
theorem fB:bq ["_law_numbers_here","_law_found","_law_number","_law_other","_law_rest"] ["_law_numbers_here"] (aC gW):=⟨rfl,rfl,rfl,by decide +kernel,rfl,by decide +kernel,by decide +kernel⟩
theorem yu{a:Addr}{fd:FuncData}(F:Fun K "_law_common" "_law_common" gW a fd)(hm:mg "_law_common" =some (.ref a))(hpt:P.given.tree=none)(n_abs:mg "abs" =none):cB P w K mg base ca 35 "_law_common" ["_law_numbers_here"] jF a fd:=by
 refine⟨bH F fB rfl λcdv A outer s H E hr=> ?_,hm,F.kp,F.binds λ_ _ _ _ _ _ us hl=>match us,hl with | [_],_=>rfl⟩
 have hu:=hr.units
 have hdp:=cj hr (by decide)
 exact⟨_,(ay (bo (i:=1) fB.nd rfl (Or.inl rfl) aE)
 (ay (dY PassesOwn.never rfl (bU (pv 0)) (aO (i:=2) fB.nd rfl (Or.inl rfl))
 (ay (bo (i:=3) fB.nd rfl (Or.inl rfl) (bc uD rfl n_abs Boot.«abs» (ah (pv 2) ar)))
 (aI (Aj PassesOwn.never (bM mI (pv 3) aE (bY _))
 (ay (bo (i:=4) fB.nd rfl (Or.inl rfl) (aR gy (pv 1) (pv 3)))
 (ay (bo (i:=1) fB.nd rfl (Or.inl rfl) (pv 3))
 (aI (bo (i:=3) fB.nd rfl (Or.inl rfl) (pv 4)))))))))
 (aI (bB (pv 1))))),
  (aJ (aX (aD 0))
 (aJ (d5 (bV (ag 0)) (aL 2)
 (aJ (aX (bg yL (ai (ag 2) av)))
 (yM (bW (aw mC (ag 3) (aD 0)))
 (aJ (aX (aw iJ (ag 1) (ag 3)))
 (aJ (aX (ag 3))
 (aX (ag 4)))))))
 (bD (ag 1))))⟩
theorem iR:bq ["_law_numbers_here","_law_mask","_law_at","_law_number"] ["_law_numbers_here"] (aC hJ):=⟨rfl,rfl,rfl,by decide +kernel,rfl,by decide +kernel,by decide +kernel⟩
theorem yj{a:Addr}{fd:FuncData}(F:Fun K "_law_places" "_law_places" hJ a fd)(hm:mg "_law_places" =some (.ref a))(hpt:P.given.tree=none)(n_enumerate:mg "enumerate" =none):cB P w K mg base ca 35 "_law_places" ["_law_numbers_here"] jn a fd:=by
 refine⟨bH F iR rfl λcdv A outer s H E hr=> ?_,hm,F.kp,F.binds λ_ _ _ _ _ _ us hl=>match us,hl with | [_],_=>rfl⟩
 have hu:=hr.units
 have hdp:=cj hr (by decide)
 exact⟨_,(ay (bo (i:=1) iR.nd rfl (Or.inl rfl) aE)
 (ay (dY PassesOwn.never rfl (nV rfl n_enumerate (ah (pv 0) ar)) (iN rfl (cq (aO (i:=2) iR.nd rfl (Or.inl rfl)) (cq (aO (i:=3) iR.nd rfl (Or.inl rfl)) gs)))
 (aI (dH (bM mI (pv 3) aE (bY _))
 (aI (bo (i:=1) iR.nd rfl (Or.inl rfl) (aR D9 (pv 1) (aR LU aE (pv 2)))))
 cI)))
 (aI (bB (pv 1))))),
  (aJ (aX (aD 0))
 (aJ (d5 (gY (ai (ag 0) av)) (gu (cx (aL 2) (cx (aL 3) gv)))
 (dI (bW (aw mC (ag 3) (aD 0)))
 (aX (aw yZ (ag 1) (aw Me (aD 1) (ag 2))))
 cH))
 (bD (ag 1))))⟩
theorem wH:bq ["_law_found","_law_many"] ["_law_found","_law_many"] (aC gw):=⟨rfl,rfl,rfl,by decide +kernel,rfl,by decide +kernel,by decide +kernel⟩
theorem vZ{a:Addr}{fd:FuncData}(F:Fun K "_law_numbers" "_law_numbers" gw a fd)(hm:mg "_law_numbers" =some (.ref a))(hpt:P.given.tree=none)(n_isinstance:mg "isinstance" =none)(n_list:mg "list" =none)(n_len:mg "len" =none)(n_int:mg "int" =none)(n_bool:mg "bool" =none)(n_all:mg "all" =none):cB P w K mg base ca 35 "_law_numbers" ["_law_found","_law_many"] fC a fd:=by
 refine⟨bH F wH rfl λcdv A outer s H E hr=> ?_,hm,F.kp,F.binds λ_ _ _ _ _ _ us hl=>match us,hl with | [_,_],_=>rfl⟩
 have hu:=hr.units
 have hdp:=cj hr (by decide)
 exact⟨_,(ay (dH (PW.pt (pw_or (pL (lG (bc lV rfl n_isinstance Boot.«isinstance» (ah (pv 0) (ah (nS (v:=.ty "list") rfl n_list Boot.«list» rfl) ar))))) (pw_or1 (bM (wO hu) (bc cX rfl n_len Boot.«len» (ah (pv 0) ar)) (pv 1) (bY _)))))
 (aI (bB nO))
 cI)
 (aI (bB (bc (rS rfl) rfl n_all Boot.«all» (ah (cM (own:=["_law_one"]) (cap:=[]) (caps:=[]) rfl ⟨rfl,by decide +kernel,by decide +kernel,by decide +kernel,trivial,by decide +kernel⟩ (bU (pv 0)) (λ_ _ _=>(aO (i:=0) (show ((["_law_one"]:List Str)++([]:List Str)).Nodup from by decide +kernel) rfl (Or.inl rfl))) (λ_ _ _=>cD) (λ_ _ _=>(E4 (bc lV rfl n_isinstance Boot.«isinstance» (ah (pv 0) (ah (nS (v:=.ty "int") rfl n_int Boot.«int» rfl) ar))) (Ek (FQ (bc lV rfl n_isinstance Boot.«isinstance» (ah (pv 0) (ah (nS (v:=.ty "bool") rfl n_bool Boot.«bool» rfl) ar)))))))) ar))))),
  (aJ (dI (vz (p7 (nr (pM ty_list (ag 0)))) (bW (aw tP (bg eC (ai (ag 0) av)) (ag 1))))
 (bD (nA false))
 cH)
 (bD (bg Bb (ai (bT (m:=1) (caps:=[]) (bV (ag 0)) (aL 0) cC (CS (pM ty_int (ag 0)) (C0 (pM ty_bool (ag 0))))) av))))⟩
theorem kx:bq ["_law_told","_law_many","_law_one","_law_masks","_law_mask"] ["_law_told","_law_many"] (aC hE):=⟨rfl,rfl,rfl,by decide +kernel,rfl,by decide +kernel,by decide +kernel⟩
theorem yp{a:Addr}{fd:FuncData}(F:Fun K "_law_lonely" "_law_lonely" hE a fd)(hm:mg "_law_lonely" =some (.ref a))(hpt:P.given.tree=none)(n_isinstance:mg "isinstance" =none)(n_list:mg "list" =none)(n_all:mg "all" =none)(n_min:mg "min" =none)(n_len:mg "len" =none)(n_sorted:mg "sorted" =none)(ya:bS P w K mg base ca 35 "_law_numbers" ["_law_found","_law_many"] fC)(AW:bS P w K mg base ca 35 "_law_common" ["_law_numbers_here"] jF)(AX:bS P w K mg base ca 35 "_law_places" ["_law_numbers_here"] jn):cB P w K mg base ca 36 "_law_lonely" ["_law_told","_law_many"] fQ a fd:=by
 obtain⟨Ku,JP,yy,iE,yn,yt⟩:=ya
 obtain⟨LF,Kr,Be,jI,A2,AU⟩:=AW
 obtain⟨KI,Km,zQ,jw,Bl,zo⟩:=AX
 refine⟨bH F kx rfl λcdv A outer s H E hr=> ?_,hm,F.kp,F.binds λ_ _ _ _ _ _ us hl=>match us,hl with | [_,_],_=>rfl⟩
 have hu:=hr.units
 have hdp:=cj hr (by decide)
 exact⟨_,(ay (dH (PW.pt (pw_or (pL (lG (bc lV rfl n_isinstance Boot.«isinstance» (ah (pv 0) (ah (nS (v:=.ty "list") rfl n_list Boot.«list» rfl) ar))))) (pw_or1 (pL (lG (bc (rS rfl) rfl n_all Boot.«all» (ah (cM (own:=["_law_one"]) (cap:=["_law_many"]) (caps:=[1]) rfl ⟨rfl,by decide +kernel,by decide +kernel,by decide +kernel,⟨rfl,Or.inl rfl,rfl,trivial⟩,by decide +kernel⟩ (bU (pv 0)) (λ_ _ _=>(aO (i:=0) (show ((["_law_one"]:List Str)++(["_law_many"]:List Str)).Nodup from by decide +kernel) rfl (Or.inl rfl))) (λ_ _ _=>cD) (λ_ _ _=>(aT yy (hr.mono (by decide)) rfl iE yn yt .nil bx (ah (pv 0) (ah (pv 1) ar))))) ar)))))))
 (aI (bB nO))
 cI)
 (ay (bo (i:=3) kx.nd rfl (Or.inl rfl) (fE ar))
 (ay (dY PassesOwn.never rfl (bU (pv 0)) (aO (i:=2) kx.nd rfl (Or.inl rfl))
 (ay (dH (PW.pt (pw_or (bM o9 (JM rfl rfl n_min Boot.«min» (pv 2) aE) aE (bY _)) (pw_or1 (bM (wO hu) (aT Be (hr.mono (by decide)) rfl jI A2 AU .nil bx (ah (pv 2) ar)) aE (bY _)))))
 (aI (bB nO))
 cI)
 (aI (cQ (jk PySem.F.plainAttrs_list PySem.F.slot_list_append PySem.F.type_list_append dS (pv 3) (ah (aT zQ (hr.mono (by decide)) rfl jw Bl zo .nil bx (ah (pv 2) ar)) ar))))))
 (ay (dY PassesOwn.never rfl (bU (pv 3)) (aO (i:=4) kx.nd rfl (Or.inr rfl))
 (aI (dH (bM (wO hu) (bc cX rfl n_len Boot.«len» (ah (cM (own:=["_law_low"]) (cap:=["_law_mask"]) (caps:=[4]) rfl ⟨rfl,by decide +kernel,by decide +kernel,by decide +kernel,⟨rfl,Or.inl rfl,rfl,trivial⟩,by decide +kernel⟩ (bU (pv 3)) (λ_ _ _=>(aO (i:=0) (show ((["_law_low"]:List Str)++(["_law_mask"]:List Str)).Nodup from by decide +kernel) rfl (Or.inl rfl))) (λ_ _ _=>(nY (bM (m4 hu) (aR LR (pv 0) (pv 1)) (pv 0) (bY _)))) (λ_ _ _=>(pv 0))) ar)) aE (bY _))
 (aI (bB nO))
 cI)))
 (aI (bB (sN (m4 hu) (bc (sm hu) rfl n_sorted Boot.«sorted» (ah (pv 0) ar)) (pv 0) (bY _)))))))),
  (aJ (dI (vz (p7 (nr (pM ty_list (ag 0)))) (p7 (nr (bg Bb (ai (bT (m:=1) (caps:=[1]) (bV (ag 0)) (aL 0) cC (bf (n:=2) (f:=fC) (ai (ag 0) (ai (ag 1) av)))) av)))))
 (bD (nA false))
 cH)
 (aJ (aX (jJ av))
 (aJ (d5 (bV (ag 0)) (aL 2)
 (aJ (dI (vz (bW (aw oW (Jd (ag 2) (aD 0)) (aD 0))) (bW (aw tP (bf (n:=1) (f:=jF) (ai (ag 2) av)) (aD 1))))
 (bD (nA false))
 cH)
 (cP (gX (ag 3) (bf (n:=1) (f:=jn) (ai (ag 2) av))))))
 (aJ (d5 (bV (ag 3)) (aL 4)
 (dI (bW (aw tP (bg eC (ai (bT (m:=1) (caps:=[4]) (bV (ag 3)) (aL 0) (bW (aw kB (aw Kk (ag 0) (ag 1)) (ag 0))) (ag 0)) av)) (aD 1)))
 (bD (nA false))
 cH))
 (bD (aw kB (GU (ag 0)) (ag 0)))))))⟩
theorem iL:bq ["_law_script","_law_begin","_law_head","_law_many","_law_moves_here","_law_known","_law_stuff","_law_yard","_law_told","_law_way","_law_kept_so"] ["_law_script"] (aC nE):=⟨rfl,rfl,rfl,by decide +kernel,rfl,by decide +kernel,by decide +kernel⟩
theorem Kv{a:Addr}{fd:FuncData}(F:Fun K "law" "law" nE a fd)(hm:mg "law" =some (.ref a))(hpt:P.given.tree=none)(n_len:mg "len" =none)(n_range:mg "range" =none)(n_list:mg "list" =none)(qm:bS P w K mg base ca 35 "_law_cell" ["_law_script","_law_k"] da)(fJ:bS P w K mg base ca 35 "_law_pick" ["_law_cell_here","_law_turn","_law_many"] aK)(Cd:bS P w K mg base ca 37 "_law_moves" ["_law_script","_law_begin","_law_many"] fL)(Bp:bS P w K mg base ca 36 "_law_names" ["_law_cell_here","_law_many"] df)(D_Yard_init:FG P w K mg base ca 39 (ca 0) "Yard" ["self","goods","works"] gO)(B9:bS P w K mg base ca 36 "_law_works" ["_law_moves_here","_law_stuff","_law_called","_law_cell_here"] fM)(L5:bS P w K mg base ca 41 "ways" ["yard"] lF)(zO:bS P w K mg base ca 36 "_law_lonely" ["_law_told","_law_many"] fQ)(DA:bS P w K mg base ca 35 "_law_left" ["_law_moves_here","_law_way","_law_many"] j3):cB P w K mg base ca 42 "law" ["_law_script"] yH a fd:=by
 obtain⟨DS,Bv,nj,gG,nN,ny⟩:=qm
 obtain⟨nC,mG,ck,bI,cb,cf⟩:=fJ
 obtain⟨Mx,Mb,BY,j8,Bq,B4⟩:=Cd
 obtain⟨Mo,KS,uf,i3,t7,t5⟩:=Bp
 obtain⟨a_Yard_init,fd_Yard_init,G_Yard_init,k_Yard_init,kr,b_Yard_init⟩:=D_Yard_init
 obtain⟨Mn,K4,B6,j9,Bt,BA⟩:=B9
 obtain⟨OL,N4,E8,pN,Fz,Fg⟩:=L5
 obtain⟨Lp,Ko,Az,jA,AB,Ac⟩:=zO
 obtain⟨MS,Mw,DE,lg,DW,D2⟩:=DA
 refine⟨bH F iL rfl λcdv A outer s H E hr=> ?_,hm,F.kp,F.binds λ_ _ _ _ _ _ us hl=>match us,hl with | [_],_=>rfl⟩
 have hu:=hr.units
 have hdp:=cj hr (by decide)
 exact⟨_,(ay (dY PassesOwn.never rfl (bU (fE (ah aE (ah aE ar)))) (aO (i:=1) iL.nd rfl (Or.inl rfl))
 (ay (bo (i:=2) iL.nd rfl (Or.inl rfl) (aT nj (hr.mono (by decide)) rfl gG nN ny .nil bx (ah (pv 0) (ah (pv 1) ar))))
 (ay (bo (i:=3) iL.nd rfl (Or.inl rfl) (aR cN aE (aT ck (hr.mono (by decide)) rfl bI cb cf .nil bx (ah (pv 2) (ah aE (ah aE ar))))))
 (ay (Fi (aT BY (hr.mono (by decide)) rfl j8 Bq B4 .nil bx (ah (pv 0) (ah (pv 1) (ah (pv 3) ar)))) (iN rfl (cq (aO (i:=4) iL.nd rfl (Or.inl rfl)) (cq (aO (i:=5) iL.nd rfl (Or.inl rfl)) gs))))
 (ay (bo (i:=6) iL.nd rfl (Or.inl rfl) (aT uf (hr.mono (by decide)) rfl i3 t7 t5 .nil bx (ah (aR cN (pv 2) aE) (ah (pv 3) ar))))
 (ay (bo (i:=7) iL.nd rfl (Or.inl rfl) (JG k_Yard_init G_Yard_init (hr.mono (by decide)) rfl kr b_Yard_init .nil bx (ah (pv 6) (ah (aT B6 (hr.mono (by decide)) rfl j9 Bt BA .nil bx (ah (pv 4) (ah (pv 6) (ah (aT uf (hr.mono (by decide)) rfl i3 t7 t5 .nil bx (ah (pv 2) (ah (bc cX rfl n_len Boot.«len» (ah (pv 4) ar)) ar))) (ah (pv 2) ar))))) ar))))
 (ay (bo (i:=8) iL.nd rfl (Or.inl rfl) (aT E8 (hr.mono (by decide)) rfl pN Fz Fg .nil bx (ah (pv 7) ar)))
 (ay (dH (pL (lG (aT Az (hr.mono (by decide)) rfl jA AB Ac .nil bx (ah (pv 8) (ah (bc cX rfl n_len Boot.«len» (ah (pv 4) ar)) ar)))))
 (aI (bB nO))
 cI)
 (ay (dY PassesOwn.never rfl (bU (pv 8)) (aO (i:=9) iL.nd rfl (Or.inl rfl))
 (aI (dH (bM (wO hu) (aT DE (hr.mono (by decide)) rfl lg DW D2 .nil bx (ah (pv 4) (ah (pv 9) (ah (pv 3) ar)))) (cM (own:=["_law_g"]) (cap:=[]) (caps:=[]) rfl ⟨rfl,by decide +kernel,by decide +kernel,by decide +kernel,trivial,by decide +kernel⟩ (dB rfl n_range (ah (pv 3) ar)) (λ_ _ _=>(aO (i:=0) (show ((["_law_g"]:List Str)++([]:List Str)).Nodup from by decide +kernel) rfl (Or.inl rfl))) (λ_ _ _=>cD) (λ_ _ _=>aE)) (bY _))
 (aI (bB nO))
 cI)))
 (ay (gH (i:=10) (own:=["_law_way"]) (cap:=[]) (caps:=[]) rfl ⟨rfl,by decide +kernel,by decide +kernel,by decide +kernel,trivial,by decide +kernel⟩ (bU (pv 8)) (λ_ _ _=>(aO (i:=0) (show ((["_law_way"]:List Str)++([]:List Str)).Nodup from by decide +kernel) rfl (Or.inl rfl))) (λ_ _ _=>cD) (λ_ _ _=>(gL gZ rfl n_list Boot.«list» (ah (pv 0) ar))) iL.nd rfl (Or.inl rfl) rfl)
 (ay (dY PassesOwn.never rfl (bU (pv 8)) (aO (i:=9) iL.nd rfl (Or.inl rfl))
 (aI (cQ (jk PySem.F.plainAttrs_list PySem.F.slot_list_append PySem.F.type_list_append dS (pv 9) (ah aE ar)))))
 (ay (cQ (KY PySem.F.plainAttrs_list PySem.F.slot_list_clear PySem.F.type_list_clear GD (pv 8)))
 (aI (dH (bM (wO hu) (aT E8 (hr.mono (by decide)) rfl pN Fz Fg .nil bx (ah (pv 7) ar)) (pv 10) (bY _))
 (aI (bB nO))
 cI))))))))))))))
 (aI (bB nO))),
  (aJ (d5 (bV (pI (ai (aD 0) (ai (aD 5) av)))) (aL 1)
 (aJ (aX (bf (n:=2) (f:=da) (ai (ag 0) (ai (ag 1) av))))
 (aJ (aX (aw bZ (aD 1) (bf (n:=3) (f:=aK) (ai (ag 2) (ai (aD 45) (ai (aD 4) av))))))
 (aJ (yP (Ki (kI (n:=3) (f:=fL) (ai (ag 0) (ai (ag 1) (ai (ag 3) av))))) (gu (cx (aL 4) (cx (aL 5) gv))))
 (aJ (aX (bf (n:=2) (f:=df) (ai (aw bZ (ag 2) (aD 1)) (ai (ag 3) av))))
 (aJ (aX (Jx (c:=0) (n:=2) (f:=gO) (ai (ag 6) (ai (bf (n:=4) (f:=fM) (ai (ag 4) (ai (ag 6) (ai (bf (n:=2) (f:=df) (ai (ag 2) (ai (bg eC (ai (ag 4) av)) av))) (ai (ag 2) av))))) av))))
 (aJ (aX (kI (n:=1) (f:=lF) (ai (ag 7) av)))
 (aJ (dI (p7 (nr (ot (n:=2) (f:=fQ) (ai (ag 8) (ai (bg eC (ai (ag 4) av)) av)))))
 (bD (nA false))
 cH)
 (aJ (d5 (bV (ag 8)) (aL 9)
 (dI (bW (aw tP (pQ (zH (n:=3) (f:=j3) (ai (ag 4) (ai (ag 9) (ai (ag 3) av))))) (bT (m:=1) (caps:=[]) (eT (ai (ag 3) av)) (aL 0) cC (aD 0))))
 (bD (nA false))
 cH))
 (aJ (aX (bT (m:=1) (caps:=[]) (bV (ag 8)) (aL 0) cC (bg oz (ai (ag 0) av))))
 (aJ (d5 (bV (ag 8)) (aL 9)
 (cP (gX (ag 9) (aD 1))))
 (aJ (cP (HY (ag 8)))
 (dI (bW (aw tP (pQ (kI (n:=1) (f:=lF) (ai (ag 7) av))) (ag 10)))
 (bD (nA false))
 cH)))))))))))))
 (bD (nA true)))⟩
end
end Lk21
set_option maxRecDepth 100000
set_option maxHeartbeats 4000000
namespace Lk21
open PySem PySem.Spec PyProof.Rows L2 M
theorem vU(ns:List Int)(k:Nat):∃c,da [vI ns,.int (k:Int)] []=.ok (.int c,[])/\(k<ns.length->c=nth ns k):=by
 by_cases h:k<ns.length
 ·refine⟨nth ns k,eH (s:=⟨[some (vI ns),some (.int (k:Int))],[]⟩) ?_,λ_=>rfl⟩
  have hk:((k:Int)<(ns.length:Int)):=by omega
  simp[gG,hk,tQ h]
 ·refine⟨0,eH (s:=⟨[some (vI ns),some (.int (k:Int))],[]⟩) ?_,λz=>absurd z h⟩
  have hk:¬((k:Int)<(ns.length:Int)):=by omega
  simp[gG,hk]
def azB(x:Str):Bool:= !decide (x.cps.toList<("a" :Str).cps.toList)&& !decide (("z" :Str).cps.toList<x.cps.toList)
theorem Bj(O:au)(i j:Str):qf O (.str i) (.str j)=.ok (.bl (!decide (j.cps.toList<i.cps.toList))):=rfl
theorem LB{s:S}{i:Nat}{x:Str}(h:s.r[i]? =some (some (.str x))):lJ qf qf (aq (.str ("a" :Str))) (aa i) (aq (.str ("z" :Str))) s=.ok (.bl (azB x),s):=by
 rw[xw,aA,aj,af h,aj]
 dsimp only
 rw[Bj,aj]
 unfold azB
 cases (!decide (x.cps.toList<("a" :Str).cps.toList)) with
 | false=>rfl
 | true=>
  dsimp only
  rw[aA,aj]
  dsimp only
  rw[Bj,aj]
  rfl
def nmB(z:Str):Bool:=decide (1<=z.length)&&decide (z.length<=8)&&z.cps.toList.all λc=>azB ⟨#[c]⟩
theorem len_list(z:Str):z.cps.toList.length=z.length:=by unfold Str.length;simp
theorem ES{z:Str}(h:z.length<=1000000):kL [.str z] []=.ok (.bl (nmB z),[]):=by
 have hlen:aW bL (ae (aa 0) ak) ⟨[some (.str z)],[]⟩=.ok (.int (z.length:Int),⟨[some (.str z)],[]⟩):=by
  rw[i8,aY,af (i:=0) rfl,aj,aF,aj,aj]
  dsimp only
  rw[Ai (pG h),aj]
 have ht:orT (bj (ao ltD (aW bL (ae (aa 0) ak)) (aq (.int 1)))) (bj (ao gtD (aW bL (ae (aa 0) ak)) (aq (.int 8)))) ⟨[some (.str z)],[]⟩=.ok (decide ((z.length:Int)<1)||decide ((8:Int)<(z.length:Int)),⟨[some (.str z)],[]⟩):=by
  rw[zI,g6,eM,hlen,aj,aA,aj]
  dsimp only
  rw[lW,aj,aj]
  dsimp only
  rw[aj]
  dsimp only
  rw[jO hlen]
  cases decide ((z.length:Int)<1) <;> rfl
 have hc:=dJ (l:=z.cps.toList) (item:=λc=>.str ⟨#[c]⟩) (out:=λc=>.bl (azB ⟨#[c]⟩)) (caps:=[]) (im:=Ed (aa 0)) (e:=lJ qf qf (aq (.str ("a" :Str))) (aa 0) (aq (.str ("z" :Str)))) (k:=none) (s:=⟨[some (.str z)],[]⟩) (by
  rw[IG,af (i:=0) rfl,aj];rfl) trivial (by rw[len_list];exact pG h) (λc _=>LB rfl)
 rw[show z.cps.toList.map (λc=>D.bl (azB ⟨#[c]⟩))=(z.cps.toList.map λc=>azB ⟨#[c]⟩).map D.bl by rw[List.map_map];rfl] at hc
 refine eH (s:=⟨[some (.str z)],[]⟩) ?_
 show mQ ⟨[some (.str z)],[]⟩=_
 rw[mQ]
 by_cases h1:z.length<1\/8<z.length
 ·rw[show nmB z=false by
   unfold nmB
   rcases h1 with q | q
   ·rw[decide_eq_false (by omega:¬1<=z.length),Bool.false_and,Bool.false_and]
   ·rw[decide_eq_false (by omega:¬z.length<=8),Bool.and_false,Bool.false_and]]
  refine yT (Eq.trans (Iw (s':=⟨[some (.str z)],[]⟩) ?_) (bR (aA _ _)))
  rw[ht]
  rcases h1 with q | q
  ·rw[decide_eq_true (show (z.length:Int)<1 by omega),Bool.true_or]
  ·rw[decide_eq_true (show (8:Int)<(z.length:Int) by omega),Bool.or_true]
 ·refine Eq.trans (dX (Eq.trans (nJ (s':=⟨[some (.str z)],[]⟩) ?_) rfl)) (bR ?_)
  ·rw[ht,decide_eq_false (show ¬(z.length:Int)<1 by omega),decide_eq_false (show ¬(8:Int)<(z.length:Int) by omega),Bool.or_false]
  ·rw[i8,aY,hc,aj,aF,aj,aj]
   dsimp only
   rw[uu,aj]
   unfold nmB
   rw[decide_eq_true (by omega:1<=z.length),decide_eq_true (by omega:z.length<=8),Bool.true_and,Bool.true_and,List.all_map]
   rfl
abbrev ABC:Str:="abcdefghijklmnopqrstuvwxyz"
theorem KN:sg ABC=(List.range 26).map (97 + ·):=by decide
def mkS(l:List Nat):Str:=⟨l.toArray⟩
theorem gC(l:List Nat):sg (mkS l)=l:=by simp[sg,mkS]
theorem jr(l:List Nat):(mkS l).length=l.length:=by rw[<- vC,gC]
def azL(l:List Nat):Prop:=∀c∈l,97<=c/\c<=122
theorem J6(c:Nat):azB ⟨#[c]⟩=(decide (97<=c)&&decide (c<=122)):=by
 unfold azB
 rw[show ("a" :Str).cps.toList=[97] by decide,show ("z" :Str).cps.toList=[122] by decide]
 show (!decide ([c] < [97])&& !decide ([122] < [c]))=_
 rw[StrLaws.lt_cons_cons,StrLaws.lt_cons_cons,StrLaws.lt_nil_nil,Bool.and_false,Bool.or_false,Bool.and_false,Bool.or_false]
 congr 1
 ·rw[Bool.eq_iff_iff];simp
 ·rw[Bool.eq_iff_iff];simp
structure o8(z:Str):Prop where
 lo:1<=z.length
 hi:z.length<=8
 az:azL (sg z)
theorem o8.nm{z:Str}(h:o8 z):nmB z=true:=by
 unfold nmB
 rw[decide_eq_true h.lo,decide_eq_true h.hi,Bool.true_and,Bool.true_and,List.all_eq_true]
 intro c hc
 have:=h.az c hc
 rw[J6,decide_eq_true this.1,decide_eq_true this.2];rfl
theorem Fn{O:au}{i:Int}(h0:0<=i)(h1:i<26):ixD O (.str ABC) (.int i)=.ok (.str (mkS [97+i.toNat])):=by
 have hl:i.toNat<ABC.cps.toList.length:=by rw[show ABC.cps.toList.length=26 by decide];omega
 have ha:=qi hl
 rw[show ((i.toNat:Nat):Int)=i by omega] at ha
 have hv:ABC.cps.toList[i.toNat]=97+i.toNat:=by
  have:=KN
  rw[List.getElem_of_eq this]
  simp
 rw[hv] at ha
 show (if ABC.length<=16777216 then (match atI ABC.cps.toList i with
  | some c=>Res.ok (D.str ⟨#[c]⟩)
  | none=>.bad) else .bad)=_
 rw[if_pos (by decide),ha]
 rfl
theorem mD{n:Nat}{pre rest:List D}{d:D}(h:(List.range n).map (λ(i:Nat)=>D.int (i:Int))=pre++d::rest):d=.int (pre.length:Int)/\pre.length<n:=by
 have h1:((List.range n).map (λ(i:Nat)=>D.int (i:Int)))[pre.length]? =some d:=by rw[h];simp
 have h2:pre.length<n:=by
  have:=congrArg List.length h
  simp at this
  omega
 rw[List.getElem?_map,List.getElem?_range h2] at h1
 exact⟨by simpa using h1.symm,h2⟩
def qj(q:Int)(k:Nat):Nat:=97+((q+3*(k:Int)+1)%26).toNat
def nmK(wd:List Nat)(at_:Nat)(q:Int)(B:Bool)(k:Nat):List Nat:=
 if B then (if k=0 then wd else if k=1 then wd.take (wd.length-1) else wd++[qj q k]) else wd.take at_++[qj q k]++wd.drop (at_+1)
theorem Cu{wd:List Nat}{at_ k:Nat}{q:Int}{B:Bool}(h:at_<wd.length):(nmK wd at_ q B k).length=if B then (if k=0 then wd.length else if k=1 then wd.length-1 else wd.length+1) else wd.length:=by
 unfold nmK
 cases B with
 | false=>simp;omega
 | true=>
  by_cases h0:k=0
  ·simp[h0]
  ·by_cases h1:k=1
   ·simp[h1]
   ·simp[h0,h1]
theorem OH{wd:List Nat}{at_ i j:Nat}{q:Int}{B:Bool}(h:at_<wd.length)(h2:2<=wd.length)(hij:i<j)(hj:j<8):nmK wd at_ q B i≠nmK wd at_ q B j:=by
 intro e
 have hs:qj q i≠qj q j:=by unfold qj;omega
 cases B with
 | false=>
  unfold nmK at e
  simp only[if_neg Bool.false_ne_true] at e
  have hl:(wd.take at_).length=at_:=by rw[List.length_take];omega
  have key:∀x:Nat,(wd.take at_++[x]++wd.drop (at_+1))[at_]? =some x:=λx=>by
   rw[List.append_assoc,List.getElem?_append_right (by omega),hl,Nat.sub_self];rfl
  have e1:(wd.take at_++[qj q i]++wd.drop (at_+1))[at_]? =(wd.take at_++[qj q j]++wd.drop (at_+1))[at_]? :=by rw[e]
  rw[key,key] at e1
  have e1:qj q i=qj q j:=by simpa using e1
  exact hs e1
 | true=>
  have hl:=congrArg List.length e
  rw[Cu h,Cu h] at hl
  simp only[if_true] at hl
  by_cases h0:i=0
  ·subst h0
   rw[if_pos rfl,if_neg (by omega)] at hl
   split at hl <;> omega
  ·rw[if_neg h0,if_neg (show ¬j=0 by omega)] at hl
   by_cases h1:i=1
   ·rw[if_pos h1,if_neg (by omega)] at hl;omega
   ·unfold nmK at e
    rw[if_pos rfl,if_pos rfl,if_neg h0,if_neg h1,if_neg (show ¬j=0 by omega),if_neg (show ¬j=1 by omega)] at e
    have:=List.append_cancel_left e
    simp at this
    exact hs this
abbrev sD(l:List Str):D:=.lst (l.map D.str)
theorem rq{O:au}{a b:Str}(h:a.length+b.length<=1000000):bz O (.str a) (.str b)=.ok (.str (a++b)):=if_pos (pG h)
abbrev pD(p:Str×Int):D:=.tup [.str p.1,.int p.2]
abbrev psD(l:List (Str×Int)):D:=.lst (l.map pD)
structure Wk where
 nm:Str
 us:List (Str×Int)
 ms:List (Str×Int)
abbrev wD(w:Wk):D:=.tup [.str w.nm,psD w.us,psD w.ms]
abbrev wsD(l:List Wk):D:=.lst (l.map wD)
@[simp] theorem dA (l:List Str):aM (l.map D.str)=true:=by
 induction l with
 | nil=>rfl
 | cons a l ih=>simp[aM,cK,ih]
@[simp] theorem gE (l:List (Str×Int)):aM (l.map pD)=true:=by
 induction l with
 | nil=>rfl
 | cons a l ih=>simp[aM,cK,ih]
@[simp] theorem lC (l:List Wk):aM (l.map wD)=true:=by
 induction l with
 | nil=>rfl
 | cons a l ih=>simp[aM,cK,ih]
theorem pb(O:au)(l:List Str):bA O (l.map D.str)=l.map D.str:=by
 induction l with
 | nil=>unfold bA;rfl
 | cons a l ih=>rw[List.map_cons];unfold bA;rw[ih];unfold res;rfl
theorem Cf(z:Str)(l:List Str):aM [.str z,.lst (l.map D.str)]=true:=by
 show (true&&(aM (l.map D.str)&&true))=true
 rw[dA];rfl
theorem G1(z:Str)(l m:List Str):aM [.str z,.lst (l.map D.str),.lst (m.map D.str)]=true:=by
 show (true&&(aM (l.map D.str)&&(aM (m.map D.str)&&true)))=true
 rw[dA,dA];rfl
theorem Ho{O:au}{k:Nat}{l:List Str}(h:O[k]? =some (.lst (l.map D.str)))(z:Str)(g:List Str):bA O (bA O [.str z,.lst (g.map D.str),.ptr k])=[.str z,.lst (g.map D.str),.lst (l.map D.str)]:=by
 have h1:bA O [.str z,.lst (g.map D.str),.ptr k]=[.str z,.lst (g.map D.str),.lst (l.map D.str)]:=by
  simp only[bA,res,pb,h]
 rw[h1]
 simp only[bA,res,pb]
theorem IK{O:au}{k:Nat}{l:List Str}(h:O[k]? =some (.lst (l.map D.str)))(z:Str):bA O (bA O [.str z,.ptr k])=[.str z,.lst (l.map D.str)]:=by
 have h1:bA O [.str z,.ptr k]=[.str z,.lst (l.map D.str)]:=by
  simp only[bA,res,pb,h]
 rw[h1]
 simp only[bA,res,pb]
theorem mU{α:Type}(f:α->D)(l:List α):dU (l.map f)=l.zipIdx.map λp=>.tup [.int (p.2:Int),f p.1]:=by
 unfold dU
 rw[List.mapIdx_eq_zipIdx_map,List.zipIdx_map,List.map_map]
 rfl
theorem oK{α:Type}{g:α×Nat->D}{l:List α}{pre rest:List D}{d:D}(h:l.zipIdx.map g=pre++d::rest):∃(hl:pre.length<l.length),d=g (l[pre.length],pre.length):=by
 have hl:pre.length<l.length:=by
  have:=congrArg List.length h
  simp at this
  omega
 have h1:(l.zipIdx.map g)[pre.length]? =some d:=by rw[h];simp
 rw[List.getElem?_map,List.getElem?_eq_getElem (by simpa using hl)] at h1
 refine⟨hl, ?_⟩
 simpa using h1.symm
theorem sI{α:Type}{g:α->D}{l:List α}{pre rest:List D}{d:D}(h:l.map g=pre++d::rest):∃(hl:pre.length<l.length),d=g (l[pre.length]):=by
 have hl:pre.length<l.length:=by
  have:=congrArg List.length h
  simp at this
  omega
 have h1:(l.map g)[pre.length]? =some d:=by rw[h];simp
 rw[List.getElem?_map,List.getElem?_eq_getElem hl] at h1
 exact⟨hl,by simpa using h1.symm⟩
theorem kS{n:Nat}{m:SM}{ds:List D}{O:au}{s:S}(h:m ⟨ds.map some++List.replicate (n-ds.length) none,O⟩=.next s):runM n m ds O=.ok (.non,s.o):=by
 unfold runM;rw[h]
theorem Cr{O:au}(z:Str)(l:List Str):inD O (.str z) (sD l)=.ok (.bl (l.any (· == z))):=by
 unfold inD inB
 dsimp only
 rw[pY]
 dsimp only
 rw[qs]
theorem Du{O:au}(z:Str)(l:List Str):rK O (.str z) (sD l)=.ok (.bl (!l.any (· == z))):=by
 unfold rK inB
 dsimp only
 rw[pY]
 dsimp only
 rw[qs]
theorem KZ{z:Str}{l:List Str}(h:z∈l):l.any (· == z)=true:=List.any_eq_true.mpr ⟨z,h,by simp⟩
theorem C4{z:Str}{l:List Str}(h:z∉l):l.any (· == z)=false:=by
 rw[List.any_eq_false]
 intro y hy e
 have:y=z:=by simpa using e
 exact h (this▸hy)
theorem j1{l:List Str}(h:l.Nodup){i:Nat}(hi:i<l.length):l[i]∉l.take i:=by
 intro hm
 obtain⟨j,hj,e⟩:=List.getElem_of_mem hm
 rw[List.length_take] at hj
 rw[List.getElem_take] at e
 exact List.pairwise_iff_getElem.mp h j i (by omega) hi (by omega) e
theorem IW{goods:List Str}{works:List Wk}(h1:goods.length<=10)(h2:works.length<=10):hZ [sD goods,wsD works] []=.ok (.non,[]):=by
 refine kS (s:=⟨[some (sD goods),some (wsD works)],[]⟩) ?_
 show jB ⟨[some (sD goods),some (wsD works)],[]⟩=_
 rw[jB]
 have hl:∀(i:Nat) (ds:List D),[some (sD goods),some (wsD works)][i]? =some (some (.lst ds))->aW bL (ae (aa i) ak) ⟨[some (sD goods),some (wsD works)],[]⟩=.ok (.int (ds.length:Int),⟨[some (sD goods),some (wsD works)],[]⟩):=λi ds h=>by
  rw[i8,aY,af h,aj,aF,aj,aj]
  dsimp only
  rw[gN,aj]
 refine Eq.trans (dX (Eq.trans (nJ (by rw[jO (hl 0 _ rfl),List.length_map,decide_eq_false (by omega)])) rfl)) ?_
 exact Eq.trans (nJ (by rw[jO (hl 1 _ rfl),List.length_map,decide_eq_false (by omega)])) rfl
theorem C3{z:Str}{l:List Str}(hz:o8 z)(hl:z∉l):eG [.str z,sD l] []=.ok (.non,[]):=by
 refine kS (s:=⟨[some (.str z),some (sD l)],[]⟩) ?_
 show fR ⟨[some (.str z),some (sD l)],[]⟩=_
 rw[fR]
 have h1:aQ 1 kL (ae (aa 0) ak) ⟨[some (.str z),some (sD l)],[]⟩=.ok (.bl true,⟨[some (.str z),some (sD l)],[]⟩):=dw (ds:=[.str z]) (by rw[aY,af (i:=0) rfl];rfl) (by simp) rfl (by rw[ES (by have:=hz.hi;omega),hz.nm]) (by simp)
 refine Eq.trans (dX (Eq.trans (nJ (s':=⟨[some (.str z),some (sD l)],[]⟩) ?_) rfl)) (Eq.trans (nJ (s':=⟨[some (.str z),some (sD l)],[]⟩) ?_) rfl)
 ·rw[wR,g6,h1];rfl
 ·rw[g6,eM,af (i:=0) rfl,aj,af (i:=1) rfl,aj]
  dsimp only
  rw[Cr,C4 hl];rfl
theorem Hh{goods:List Str}(h:∀z∈goods,o8 z)(nd:goods.Nodup):∃O,gi [sD goods] []=.ok (.non,O):=by
 obtain⟨s',el,y1,y2,hs'⟩:=dW (ok:=okC (dU (goods.map D.str)) none) (g:=dG (ba (aB 1) (ba (aB 2) dO)) 2) (body:=jh)
  (λ_ s=>∃y1 y2,s=⟨[some (sD goods),y1,y2],[]⟩) (λ_ _ _=>trivial) (dU (goods.map D.str)) [] (by
   rintro pre d rest ed s ⟨y1,y2,rfl⟩
   rw[List.nil_append,mU] at ed
   obtain⟨hl,rfl⟩:=oK ed
   refine⟨⟨[some (sD goods),some (.int (pre.length:Int)),some (.str (goods[pre.length]))],[]⟩,⟨[some (sD goods),some (.int (pre.length:Int)),some (.str (goods[pre.length]))],[]⟩,by rw[lZ];rfl,.inl ?_,_,_,rfl⟩
   rw[jh]
   refine cF (dw (ds:=[.str (goods[pre.length]),sD (goods.take pre.length)]) (d:=.non) ?_ (Cf _ _) rfl (C3 (h _ (List.getElem_mem _)) (j1 nd hl)) (by simp))
   rw[aY,af (i:=2) rfl,aj,aY,KU,af (i:=0) rfl,aj,FF,aj,C1,af (i:=1) rfl,aj]
   dsimp only
   rw[aj]
   dsimp only
   rw[pY]
   dsimp only
   unfold M.cutD
   rw[HT.HF,HT.Jq,List.length_map,show min pre.length goods.length=pre.length by omega,List.drop_zero,Nat.sub_zero,<- List.map_take]
   rfl) ⟨[some (sD goods),none,none],[]⟩ ⟨_,_,rfl⟩
 have hf:=dg (im:=dk (ae (aa 0) ak)) (g:=dG (ba (aB 1) (ba (aB 2) dO)) 2) (body:=jh) (s:=⟨[some (sD goods),none,none],[]⟩) (ds:=dU (goods.map D.str)) (k:=none) (s1:=⟨[some (sD goods),none,none],[]⟩) (by
  rw[ky,aY,af (i:=0) rfl,aj,aF,aj,aj])
 rw[el,hs'] at hf
 exact⟨_,kS (s:=⟨[some (sD goods),y1,y2],[]⟩) (by
  show iI ⟨[some (sD goods),none,none],[]⟩=_
  rw[iI,hf])⟩
theorem Jk{z:Str}{goods l:List Str}(h1:z∈goods)(h2:z∉l):ik [.str z,sD goods,sD l] []=.ok (.non,[]):=by
 refine kS (s:=⟨[some (.str z),some (sD goods),some (sD l)],[]⟩) ?_
 show jt ⟨[some (.str z),some (sD goods),some (sD l)],[]⟩=_
 rw[jt]
 refine Eq.trans (dX (Eq.trans (nJ (s':=⟨[some (.str z),some (sD goods),some (sD l)],[]⟩) ?_) rfl)) (Eq.trans (nJ (s':=⟨[some (.str z),some (sD goods),some (sD l)],[]⟩) ?_) rfl)
 ·rw[g6,eM,af (i:=0) rfl,aj,af (i:=1) rfl,aj]
  dsimp only
  rw[Du,KZ h1];rfl
 ·rw[g6,eM,af (i:=0) rfl,aj,af (i:=2) rfl,aj]
  dsimp only
  rw[Cr,C4 h2];rfl
theorem C9(i:Int):jT [.int i] []=.ok (.bl true,[]):=by
 refine eH (s:=⟨[some (.int i)],[]⟩) ?_
 simp[ni]
theorem ED{i:Int}(h:1<=i):fO [.int i] []=.ok (.non,[]):=by
 refine kS (s:=⟨[some (.int i)],[]⟩) ?_
 show ib ⟨[some (.int i)],[]⟩=_
 rw[ib]
 refine Eq.trans (nJ (s':=⟨[some (.int i)],[]⟩) ?_) rfl
 have h1:aQ 1 jT (ae (aa 0) ak) ⟨[some (.int i)],[]⟩=.ok (.bl true,⟨[some (.int i)],[]⟩):=dw (ds:=[.int i]) (by rw[aY,af (i:=0) rfl];rfl) (by simp) rfl (C9 i) (by simp)
 rw[zI,wR,g6,h1,aj,aj]
 dsimp only
 rw[aj]
 dsimp only
 rw[if_neg (by decide),g6,eM,af (i:=0) rfl,aj,aA,aj]
 dsimp only
 rw[lW,decide_eq_false (by omega)];rfl
theorem AF{n:Nat}{f:FM}{ma:AM}{s s':S}{ds rs:List D}{d:D}{O:au}(h:ma s=.ok (ds,s'))(hr:bA s'.o (bA s'.o ds)=rs)(hp:aM rs=true)(hl:ds.length=n)(hf:f rs []=.ok (d,O))(hd:nP d=true):iy n f ma s=.ok (d,s'):=by
 unfold iy
 rw[h,aj]
 dsimp only
 rw[hr,if_pos ⟨hp,hl⟩,hf]
 dsimp only
 rw[if_pos hd]
structure j6(goods:List Str)(l:List (Str×Int)):Prop where
 mem:∀p∈l,p.1∈goods
 pos:∀p∈l,1<=p.2
 nd:(l.map (·.1)).Nodup
theorem Aq{goods:List Str}{l:List (Str×Int)}(h:j6 goods l)(hl:l.length<=1000):∃O,d8 [psD l,sD goods] []=.ok (.non,O):=by
 have e2:setM 2 (jm ak) ⟨[some (psD l),some (sD goods),none,none,none],[]⟩=.next ⟨[some (psD l),some (sD goods),some (.ptr 0),none,none],[.lst []]⟩:=by simp
 obtain⟨s',el,y3,y4,hs'⟩:=dW (ok:=okC (l.map pD) none) (g:=dG (ba (aB 3) (ba (aB 4) dO)) 2) (body:=jj)
  (λpre s=>∃y3 y4,s=⟨[some (psD l),some (sD goods),some (.ptr 0),y3,y4],[.lst (((l.map (·.1)).take pre.length).map D.str)]⟩) (λ_ _ _=>trivial) (l.map pD) [] (by
   rintro pre d rest ed s ⟨y3,y4,rfl⟩
   rw[List.nil_append] at ed
   obtain⟨hlt,rfl⟩:=sI ed
   have hm:l[pre.length]∈l:=List.getElem_mem _
   have hout:(l[pre.length]).1∉(l.map (·.1)).take pre.length:=by
    have:=j1 h.nd (i:=pre.length) (by simpa using hlt)
    simpa using this
   generalize hx:l[pre.length]=x at hm hout
   refine⟨⟨[some (psD l),some (sD goods),some (.ptr 0),some (.str x.1),some (.int x.2)],[.lst (((l.map (·.1)).take pre.length).map D.str)]⟩,⟨[some (psD l),some (sD goods),some (.ptr 0),some (.str x.1),some (.int x.2)],[.lst (((l.map (·.1)).take (pre.length+1)).map D.str)]⟩,by rw[lZ];rfl,.inl ?_,some (.str x.1),some (.int x.2),by rw[List.length_append,List.length_singleton]⟩
   rw[jj]
   have k1:=cF (AF (n:=3) (f:=ik) (ma:=ae (aa 3) (ae (aa 1) (ae (aa 2) ak))) (s:=⟨[some (psD l),some (sD goods),some (.ptr 0),some (.str x.1),some (.int x.2)],[.lst (((l.map (·.1)).take pre.length).map D.str)]⟩) (s':=⟨[some (psD l),some (sD goods),some (.ptr 0),some (.str x.1),some (.int x.2)],[.lst (((l.map (·.1)).take pre.length).map D.str)]⟩) (ds:=[.str x.1,sD goods,.ptr 0]) (rs:=[.str x.1,sD goods,sD ((l.map (·.1)).take pre.length)]) (by
    rw[aY,af (i:=3) rfl,aj,aY,af (i:=1) rfl,aj,aY,af (i:=2) rfl];rfl) (Ho rfl _ _) (G1 _ _ _) rfl (Jk (h.mem x hm) hout) (by rfl))
   have k2:=cF (dw (n:=1) (f:=fO) (ma:=ae (aa 4) ak) (s:=⟨[some (psD l),some (sD goods),some (.ptr 0),some (.str x.1),some (.int x.2)],[.lst (((l.map (·.1)).take pre.length).map D.str)]⟩) (s':=⟨[some (psD l),some (sD goods),some (.ptr 0),some (.str x.1),some (.int x.2)],[.lst (((l.map (·.1)).take pre.length).map D.str)]⟩) (ds:=[.int x.2]) (by rw[aY,af (i:=4) rfl];rfl) (by simp) rfl (ED (h.pos x hm)) (by simp))
   refine Eq.trans (dX k1) (Eq.trans (dX k2) ?_)
   refine Eq.trans (cF (wF (mo:=aa 2) (me:=aa 3) (k:=0) (d:=.str x.1) (af rfl) rfl (af rfl) rfl (by simp;omega))) ?_
   have ht:(l.map (·.1)).take (pre.length+1)=(l.map (·.1)).take pre.length++[x.1]:=by
    rw[List.take_add_one,List.getElem?_map,List.getElem?_eq_getElem hlt,hx];rfl
   rw[ht,List.map_append]
   rfl) ⟨[some (psD l),some (sD goods),some (.ptr 0),none,none],[.lst []]⟩ ⟨_,_,rfl⟩
 have hf:=dg (im:=listI (aa 0)) (g:=dG (ba (aB 3) (ba (aB 4) dO)) 2) (body:=jj) (s:=⟨[some (psD l),some (sD goods),some (.ptr 0),none,none],[.lst []]⟩) (ds:=l.map pD) (k:=none) (s1:=⟨[some (psD l),some (sD goods),some (.ptr 0),none,none],[.lst []]⟩) (by rw[di,af (i:=0) rfl];rfl)
 rw[el] at hf
 exact⟨_,kS (s:=s') (by
  show gj ⟨[some (psD l),some (sD goods),none,none,none],[]⟩=_
  rw[gj,dX e2]
  exact hf)⟩
@[simp] theorem Ge (g h i:GM) (a b c:D) (s:S):dG (ba g (ba h (ba i dO))) 3 (.tup [a,b,c]) s=(g a s).bind λs1=>(h b s1).bind λs2=>i c s2:=by
 show (g a s).bind (λs1=>(h b s1).bind λs2=>(i c s2).bind λs3=>.ok s3)=_
 congr 1
 funext s1
 congr 1
 funext s2
 cases i c s2 <;> rfl
structure wQ(goods:List Str)(ws:List Wk):Prop where
 nm:∀w∈ws,o8 w.nm
 nd:(ws.map (·.nm)).Nodup
 us:∀w∈ws,j6 goods w.us/\w.us.length<=100
 ms:∀w∈ws,j6 goods w.ms/\w.ms.length<=100
theorem Gr{goods:List Str}{ws:List Wk}(h:wQ goods ws)(hl:ws.length<=1000):∃O,gn [wsD ws,sD goods] []=.ok (.non,O):=by
 have e2:setM 2 (jm ak) ⟨[some (wsD ws),some (sD goods),none,none,none,none],[]⟩=.next ⟨[some (wsD ws),some (sD goods),some (.ptr 0),none,none,none],[.lst []]⟩:=by simp
 obtain⟨s',el,y3,y4,y5,hs'⟩:=dW (ok:=okC (ws.map wD) none) (g:=dG (ba (aB 3) (ba (aB 4) (ba (aB 5) dO))) 3) (body:=ji)
  (λpre s=>∃y3 y4 y5,s=⟨[some (wsD ws),some (sD goods),some (.ptr 0),y3,y4,y5],[.lst (((ws.map (·.nm)).take pre.length).map D.str)]⟩) (λ_ _ _=>trivial) (ws.map wD) [] (by
   rintro pre d rest ed s ⟨y3,y4,y5,rfl⟩
   rw[List.nil_append] at ed
   obtain⟨hlt,rfl⟩:=sI ed
   have hm:ws[pre.length]∈ws:=List.getElem_mem _
   have hout:(ws[pre.length]).nm∉(ws.map (·.nm)).take pre.length:=by
    have:=j1 h.nd (i:=pre.length) (by simpa using hlt)
    simpa using this
   generalize hx:ws[pre.length]=x at hm hout
   refine⟨⟨[some (wsD ws),some (sD goods),some (.ptr 0),some (.str x.nm),some (psD x.us),some (psD x.ms)],[.lst (((ws.map (·.nm)).take pre.length).map D.str)]⟩,⟨[some (wsD ws),some (sD goods),some (.ptr 0),some (.str x.nm),some (psD x.us),some (psD x.ms)],[.lst (((ws.map (·.nm)).take (pre.length+1)).map D.str)]⟩,by rw[Ge];rfl,.inl ?_,some (.str x.nm),some (psD x.us),some (psD x.ms),by rw[List.length_append,List.length_singleton]⟩
   rw[ji]
   obtain⟨O1,p1⟩:=Aq (h.us x hm).1 (by have:=(h.us x hm).2;omega)
   obtain⟨O2,p2⟩:=Aq (h.ms x hm).1 (by have:=(h.ms x hm).2;omega)
   have k1:=cF (AF (n:=2) (f:=eG) (ma:=ae (aa 3) (ae (aa 2) ak)) (s:=⟨[some (wsD ws),some (sD goods),some (.ptr 0),some (.str x.nm),some (psD x.us),some (psD x.ms)],[.lst (((ws.map (·.nm)).take pre.length).map D.str)]⟩) (s':=⟨[some (wsD ws),some (sD goods),some (.ptr 0),some (.str x.nm),some (psD x.us),some (psD x.ms)],[.lst (((ws.map (·.nm)).take pre.length).map D.str)]⟩) (ds:=[.str x.nm,.ptr 0]) (by
    rw[aY,af (i:=3) rfl,aj,aY,af (i:=2) rfl];rfl) (IK rfl _) (Cf _ _) rfl (C3 (h.nm x hm) hout) (by rfl))
   have pur:∀l:List (Str×Int),aM [.lst (l.map pD),.lst (goods.map D.str)]=true:=λl=>by
    show (aM (l.map pD)&&(aM (goods.map D.str)&&true))=true
    rw[dA,gE];rfl
   have k2:=cF (dw (n:=2) (f:=d8) (ma:=ae (aa 4) (ae (aa 1) ak)) (s:=⟨[some (wsD ws),some (sD goods),some (.ptr 0),some (.str x.nm),some (psD x.us),some (psD x.ms)],[.lst (((ws.map (·.nm)).take pre.length).map D.str)]⟩) (s':=⟨[some (wsD ws),some (sD goods),some (.ptr 0),some (.str x.nm),some (psD x.us),some (psD x.ms)],[.lst (((ws.map (·.nm)).take pre.length).map D.str)]⟩) (ds:=[psD x.us,sD goods]) (by rw[aY,af (i:=4) rfl,aj,aY,af (i:=1) rfl];rfl) (pur _) rfl p1 (by simp))
   have k3:=cF (dw (n:=2) (f:=d8) (ma:=ae (aa 5) (ae (aa 1) ak)) (s:=⟨[some (wsD ws),some (sD goods),some (.ptr 0),some (.str x.nm),some (psD x.us),some (psD x.ms)],[.lst (((ws.map (·.nm)).take pre.length).map D.str)]⟩) (s':=⟨[some (wsD ws),some (sD goods),some (.ptr 0),some (.str x.nm),some (psD x.us),some (psD x.ms)],[.lst (((ws.map (·.nm)).take pre.length).map D.str)]⟩) (ds:=[psD x.ms,sD goods]) (by rw[aY,af (i:=5) rfl,aj,aY,af (i:=1) rfl];rfl) (pur _) rfl p2 (by simp))
   refine Eq.trans (dX k1) (Eq.trans (dX k2) (Eq.trans (dX k3) ?_))
   refine Eq.trans (cF (wF (mo:=aa 2) (me:=aa 3) (k:=0) (d:=.str x.nm) (af rfl) rfl (af rfl) rfl (by simp;omega))) ?_
   have ht:(ws.map (·.nm)).take (pre.length+1)=(ws.map (·.nm)).take pre.length++[x.nm]:=by
    rw[List.take_add_one,List.getElem?_map,List.getElem?_eq_getElem hlt,hx];rfl
   rw[ht,List.map_append]
   rfl) ⟨[some (wsD ws),some (sD goods),some (.ptr 0),none,none,none],[.lst []]⟩ ⟨_,_,_,rfl⟩
 have hf:=dg (im:=listI (aa 0)) (g:=dG (ba (aB 3) (ba (aB 4) (ba (aB 5) dO))) 3) (body:=ji) (s:=⟨[some (wsD ws),some (sD goods),some (.ptr 0),none,none,none],[.lst []]⟩) (ds:=ws.map wD) (k:=none) (s1:=⟨[some (wsD ws),some (sD goods),some (.ptr 0),none,none,none],[.lst []]⟩) (by rw[di,af (i:=0) rfl];rfl)
 rw[el] at hf
 exact⟨_,kS (s:=s') (by
  show iK ⟨[some (wsD ws),some (sD goods),none,none,none,none],[]⟩=_
  rw[iK,dX e2]
  exact hf)⟩
theorem IT(w:Wk):jc [wD w] []=.ok (wD w,[]):=by
 refine eH (s:=⟨[some (wD w)],[]⟩) ?_
 show kv ⟨[some (wD w)],[]⟩=_
 rw[kv]
 refine bR ?_
 have i0:∀(k:Int) (d:D),ixD [] (wD w) (.int k)=.ok d->ao ixD (aa 0) (aq (.int k)) ⟨[some (wD w)],[]⟩=.ok (d,⟨[some (wD w)],[]⟩):=λk d h=>by
  rw[eM,af (i:=0) rfl,aj,aA,aj]
  dsimp only
  rw[h];rfl
 rw[Cs,aY,i0 0 (.str w.nm) rfl,aj,aY,i8,aY,i0 1 (psD w.us) rfl,aj,aF,aj,aj]
 dsimp only
 rw[o4,aj,aj,aY,i8,aY,i0 2 (psD w.ms) rfl,aj,aF,aj,aj]
 dsimp only
 rw[o4,aj,aj,aF,aj,aj,aj,aj]
 rfl
def sumOf(g:Str)(l:List (Str×Int)):Int:=((l.filter λp=>decide (p.1=g)).map (·.2)).sum
def chg(w:Wk)(g:Str):Int:=sumOf g w.ms-sumOf g w.us
theorem Cn{g:Str}{l:List (Str×Int)}(hl:l.length<=1000):d4 [.str g,psD l] []=.ok (.int (sumOf g l),[]):=by
 have hc:=vX (l:=l) (item:=pD) (p:=λp=>decide (p.1=g)) (out:=λp=>.int p.2) (caps:=[0]) (im:=listI (aa 1)) (c:=bj (ao eqD (ao ixD (aa 0) (aq (.int 0))) (aa 1))) (e:=ao ixD (aa 0) (aq (.int 1))) (k:=none) (s:=⟨[some (.str g),some (psD l)],[]⟩) (by rw[di,af (i:=1) rfl];rfl) trivial (by omega) (λp _=>by
  rw[g6,eM,eM,af (i:=0) rfl,aj,aA,aj]
  dsimp only
  rw[show ixD [] (pD p) (.int 0)=.ok (.str p.1) from rfl,aj,aj]
  dsimp only
  rw[af (i:=1) rfl,aj]
  dsimp only
  rw[Kj];rfl) (λp _ _=>by
  rw[eM,af (i:=0) rfl,aj,aA,aj]
  rfl)
 rw[show (l.filter λp=>decide (p.1=g)).map (λp=>D.int p.2)=((l.filter λp=>decide (p.1=g)).map (·.2)).map D.int by rw[List.map_map];rfl] at hc
 refine eH (s:=⟨[some (.str g),some (psD l)],[]⟩) ?_
 show i6 ⟨[some (.str g),some (psD l)],[]⟩=_
 rw[i6]
 refine bR ?_
 rw[i8,aY,hc,aj,aF,aj,aj]
 dsimp only
 rw[oU,aj]
 rfl
theorem IJ{w:Wk}{goods:List Str}(h1:w.us.length<=1000)(h2:w.ms.length<=1000)(hg:goods.length<=1000):iY [wD w,sD goods] []=.ok (vI (goods.map (chg w)),[]):=by
 have hc:=dJ (l:=goods) (item:=D.str) (out:=λg=>.int (chg w g)) (caps:=[0]) (im:=listI (aa 1)) (e:=ao jq (aQ 2 d4 (ae (aa 0) (ae (ao ixD (aa 1) (aq (.int 2))) ak))) (aQ 2 d4 (ae (aa 0) (ae (ao ixD (aa 1) (aq (.int 1))) ak)))) (k:=none) (s:=⟨[some (wD w),some (sD goods)],[]⟩) (by rw[di,af (i:=1) rfl];rfl) trivial (by omega) (λg _=>by
  have pur:∀l:List (Str×Int),aM [.str g,.lst (l.map pD)]=true:=λl=>by
   show (true&&(aM (l.map pD)&&true))=true
   rw[gE];rfl
  have c2:aQ 2 d4 (ae (aa 0) (ae (ao ixD (aa 1) (aq (.int 2))) ak)) ⟨some (.str g)::[0].map (λi=>([some (wD w),some (sD goods)][i]?).getD none),[]⟩=.ok (.int (sumOf g w.ms),⟨some (.str g)::[0].map (λi=>([some (wD w),some (sD goods)][i]?).getD none),[]⟩):=dw (ds:=[.str g,psD w.ms]) (by
   rw[aY,af (i:=0) rfl,aj,aY,eM,af (i:=1) rfl,aj,aA,aj];rfl) (pur _) rfl (Cn h2) (by simp)
  have c1:aQ 2 d4 (ae (aa 0) (ae (ao ixD (aa 1) (aq (.int 1))) ak)) ⟨some (.str g)::[0].map (λi=>([some (wD w),some (sD goods)][i]?).getD none),[]⟩=.ok (.int (sumOf g w.us),⟨some (.str g)::[0].map (λi=>([some (wD w),some (sD goods)][i]?).getD none),[]⟩):=dw (ds:=[.str g,psD w.us]) (by
   rw[aY,af (i:=0) rfl,aj,aY,eM,af (i:=1) rfl,aj,aA,aj];rfl) (pur _) rfl (Cn h1) (by simp)
  rw[eM,c2,aj]
  dsimp only
  rw[c1,aj]
  rfl)
 rw[show goods.map (λg=>D.int (chg w g))=(goods.map (chg w)).map D.int by rw[List.map_map];rfl] at hc
 refine eH (s:=⟨[some (wD w),some (sD goods)],[]⟩) ?_
 show kh ⟨[some (wD w),some (sD goods)],[]⟩=_
 rw[kh]
 exact bR hc
abbrev FN:List Str:=["held_goods","held_works","held_changes"]
abbrev yDs(goods:List Str)(ws:List Wk):List D:=[sD goods,wsD ws,vII (ws.map λw=>goods.map (chg w))]
abbrev yD(goods:List Str)(ws:List Wk):D:=.obj 0 FN (yDs goods ws)
theorem pX(goods:List Str)(ws:List Wk):aM (yDs goods ws)=true:=by
 show (aM (goods.map D.str)&&(aM (ws.map wD)&&(aM ((ws.map λw=>goods.map (chg w)).map vI)&&true)))=true
 rw[dA,lC,mW];rfl
theorem vS{c:Nat}{f:Str}{mo mv:EM}{s s1 s2:S}{d:D}{k:Nat}{ns:List Str}{ds:List D}(hv:mv s=.ok (d,s1))(ho:mo s1=.ok (.ptr k,s2))(hc:s2.o[k]? =some (.ins c ns ds))(hf:f∉ns)(hl:ns.length<1000):qA c f mo mv s=.next ⟨s2.r,s2.o.set k (.ins c (ns++[f]) (ds++[d]))⟩:=by
 rw[HC,hv,ki]
 dsimp only
 rw[ho,ki]
 dsimp only
 rw[hc]
 dsimp only
 rw[if_pos ⟨rfl,hf,hl⟩]
theorem JJ{goods:List Str}{ws:List Wk}(hg:∀z∈goods,o8 z)(nd:goods.Nodup)(hw:wQ goods ws)(h1:goods.length<=10)(h2:ws.length<=10):gO [.ptr 0,sD goods,wsD ws] [.ins 0 [] []]=.ok (.non,[.ins 0 FN (yDs goods ws)]):=by
 obtain⟨O1,k1⟩:=Hh hg nd
 obtain⟨O2,k2⟩:=Gr hw (by omega)
 refine kS (s:=⟨[some (.ptr 0),some (sD goods),some (wsD ws)],[.ins 0 FN (yDs goods ws)]⟩) ?_
 show kr ⟨[some (.ptr 0),some (sD goods),some (wsD ws)],[.ins 0 [] []]⟩=_
 rw[kr]
 have pg:aM [.lst (goods.map D.str)]=true:=by
  show (aM (goods.map D.str)&&true)=true
  rw[dA];rfl
 have pgw:aM [.lst (goods.map D.str),.lst (ws.map wD)]=true:=by
  show (aM (goods.map D.str)&&(aM (ws.map wD)&&true))=true
  rw[dA,lC];rfl
 have pwg:aM [.lst (ws.map wD),.lst (goods.map D.str)]=true:=by
  show (aM (ws.map wD)&&(aM (goods.map D.str)&&true))=true
  rw[dA,lC];rfl
 have e1:=cF (dw (n:=2) (f:=hZ) (ma:=ae (aa 1) (ae (aa 2) ak)) (s:=⟨[some (.ptr 0),some (sD goods),some (wsD ws)],[.ins 0 [] []]⟩) (s':=⟨[some (.ptr 0),some (sD goods),some (wsD ws)],[.ins 0 [] []]⟩) (ds:=[sD goods,wsD ws]) (by rw[aY,af (i:=1) rfl,aj,aY,af (i:=2) rfl];rfl) pgw rfl (IW h1 h2) (by simp))
 have e2:=cF (dw (n:=1) (f:=gi) (ma:=ae (aa 1) ak) (s:=⟨[some (.ptr 0),some (sD goods),some (wsD ws)],[.ins 0 [] []]⟩) (s':=⟨[some (.ptr 0),some (sD goods),some (wsD ws)],[.ins 0 [] []]⟩) (ds:=[sD goods]) (by rw[aY,af (i:=1) rfl];rfl) pg rfl k1 (by simp))
 have e3:=cF (dw (n:=2) (f:=gn) (ma:=ae (aa 2) (ae (aa 1) ak)) (s:=⟨[some (.ptr 0),some (sD goods),some (wsD ws)],[.ins 0 [] []]⟩) (s':=⟨[some (.ptr 0),some (sD goods),some (wsD ws)],[.ins 0 [] []]⟩) (ds:=[wsD ws,sD goods]) (by rw[aY,af (i:=2) rfl,aj,aY,af (i:=1) rfl];rfl) pwg rfl k2 (by simp))
 have e4:=vS (c:=0) (f:="held_goods") (mo:=aa 0) (mv:=aW iB (ae (aa 1) ak)) (s:=⟨[some (.ptr 0),some (sD goods),some (wsD ws)],[.ins 0 [] []]⟩) (s1:=⟨[some (.ptr 0),some (sD goods),some (wsD ws)],[.ins 0 [] []]⟩) (s2:=⟨[some (.ptr 0),some (sD goods),some (wsD ws)],[.ins 0 [] []]⟩) (d:=sD goods) (k:=0) (ns:=[]) (ds:=[]) (by
  rw[i8,aY,af (i:=1) rfl,aj,aF,aj,aj]
  dsimp only
  rw[o4,aj]) (af rfl) rfl (by simp) (by simp)
 have cw:=dJ (l:=ws) (item:=wD) (out:=wD) (caps:=[]) (im:=listI (aa 2)) (e:=aQ 1 jc (ae (aa 0) ak)) (k:=none) (s:=⟨[some (.ptr 0),some (sD goods),some (wsD ws)],[.ins 0 ["held_goods"] [sD goods]]⟩) (by rw[di,af (i:=2) rfl];rfl) trivial (by omega) (λw _=>dw (ds:=[wD w]) (by rw[aY,af (i:=0) rfl];rfl) (by
  show ((true&&(aM (w.us.map pD)&&(aM (w.ms.map pD)&&true)))&&true)=true
  rw[gE,gE];rfl) rfl (IT w) (by
  show (true&&(aM (w.us.map pD)&&(aM (w.ms.map pD)&&true)))=true
  rw[gE,gE];rfl))
 have e5:=vS (c:=0) (f:="held_works") (mo:=aa 0) (k:=0) (ns:=["held_goods"]) (ds:=[sD goods]) cw (af rfl) rfl (by decide) (by simp)
 have cc:=dJ (l:=ws) (item:=wD) (out:=λw=>vI (goods.map (chg w))) (caps:=[1]) (im:=listI (aa 2)) (e:=aQ 2 iY (ae (aa 0) (ae (aa 1) ak))) (k:=none) (s:=⟨[some (.ptr 0),some (sD goods),some (wsD ws)],[.ins 0 ["held_goods","held_works"] [sD goods,wsD ws]]⟩) (by rw[di,af (i:=2) rfl];rfl) trivial (by omega) (λw hwm=>dw (ds:=[wD w,sD goods]) (by rw[aY,af (i:=0) rfl,aj,aY,af (i:=1) rfl];rfl) (by
  show ((true&&(aM (w.us.map pD)&&(aM (w.ms.map pD)&&true)))&&(aM (goods.map D.str)&&true))=true
  rw[gE,gE,dA];rfl) rfl (IJ (by have:=(hw.us w hwm).2;omega) (by have:=(hw.ms w hwm).2;omega) (by omega)) (by generalize goods.map (chg w)=r;simp))
 rw[show ws.map (λw=>vI (goods.map (chg w)))=(ws.map λw=>goods.map (chg w)).map vI by rw[List.map_map];rfl] at cc
 have e6:=vS (c:=0) (f:="held_changes") (mo:=aa 0) (k:=0) (ns:=["held_goods","held_works"]) (ds:=[sD goods,wsD ws]) cc (af rfl) rfl (by decide) (by simp)
 refine Eq.trans (dX e1) (Eq.trans (dX e2) (Eq.trans (dX e3) (Eq.trans (dX e4) (Eq.trans (dX e5) e6))))
structure Pt(goods:List Str)(i:Nat)(l:List (Str×Int)):Prop where
 mem:∀p∈l,p.1∈goods.take i
 pos:∀p∈l,1<=p.2
 nd:(l.map (·.1)).Nodup
 len:l.length<=i
theorem Pt.same{goods:List Str}{i:Nat}{l:List (Str×Int)}(h:Pt goods i l):Pt goods (i+1) l:=
 ⟨λp hp=>List.mem_of_mem_take (i:=i) (by rw[List.take_take,Nat.min_eq_left (Nat.le_succ i)];exact h.mem p hp),h.pos,h.nd,Nat.le_succ_of_le h.len⟩
theorem Pt.more{goods:List Str}(nd:goods.Nodup){i:Nat}(hi:i<goods.length){l:List (Str×Int)}(h:Pt goods i l){a:Int}(ha:1<=a):Pt goods (i+1) (l++[(goods[i],a)]):=by
 have hs:=h.same
 refine⟨λp hp=> ?_,λp hp=> ?_, ?_,by rw[List.length_append,List.length_singleton];have:=h.len;omega⟩
 ·rcases List.mem_append.mp hp with q | q
  ·exact hs.mem p q
  ·rw[List.mem_singleton.mp q,show goods.take (i+1)=goods.take i++[goods[i]] by rw[List.take_add_one,List.getElem?_eq_getElem hi];rfl]
   exact List.mem_append_right _ (List.mem_singleton.mpr rfl)
 ·rcases List.mem_append.mp hp with q | q
  ·exact h.pos p q
  ·rw[List.mem_singleton.mp q];exact ha
 ·rw[List.map_append]
  refine List.nodup_append.mpr ⟨h.nd,by simp,λx hx y hy=> ?_⟩
  obtain⟨p,hp,rfl⟩:=List.mem_map.mp hx
  have:y=goods[i]:=by simpa using hy
  subst this
  intro e
  exact j1 nd hi (e▸h.mem p hp)
theorem Pt.parts{goods:List Str}{i:Nat}{l:List (Str×Int)}(h:Pt goods i l):j6 goods l:=⟨λp hp=>List.mem_of_mem_take (h.mem p hp),h.pos,h.nd⟩
theorem j6.rev{goods:List Str}{l:List (Str×Int)}(h:j6 goods l):j6 goods l.reverse:=
 ⟨λp hp=>h.mem p (List.mem_reverse.mp hp),λp hp=>h.pos p (List.mem_reverse.mp hp),by rw[List.map_reverse];exact List.pairwise_reverse.mpr (h.nd.imp λe=>e.symm)⟩
def bN(c t m:Int):Int:=(c%2147483647+7)*(48271+7919*t)%2147483647*16807%2147483647/8%m
theorem jH{c t m:Int}(hm:0<m):0<=bN c t m:=Int.emod_nonneg _ (by omega)
theorem mf{c t m:Int}(hm:0<m):bN c t m<m:=Int.emod_lt_of_pos _ hm
theorem sM(c t:Int){m:Nat}(hm:0<m):∃r:Nat,bN c t (m:Int)=(r:Int)/\r<m:=⟨(bN c t (m:Int)).toNat,by have:=jH (c:=c) (t:=t) (m:=(m:Int)) (by omega);omega,by have:=jH (c:=c) (t:=t) (m:=(m:Int)) (by omega);have:=mf (c:=c) (t:=t) (m:=(m:Int)) (by omega);omega⟩
theorem II{c t m:Int}(hm:0<m):aK [.int c,.int t,.int m] []=.ok (.int (bN c t m),[]):=by
 have h0:0<=c%2147483647:=Int.emod_nonneg _ (by decide)
 have h1:c%2147483647<2147483647:=Int.emod_lt_of_pos _ (by decide)
 refine fg (R:=[some (.int c),some (.int t),some (.int m),some (.int ((c%2147483647+7)*(48271+7919*t)%2147483647))]) ?_
 show bI ⟨[some (.int c),some (.int t),some (.int m),none],[]⟩=_
 rw[bI]
 refine aU (bE (aN (aN (aN (aN (af rfl) (aA _ _) (fv (by decide))) (aA _ _) (bX _ _)) (aN (aA _ _) (aN (aA _ _) (af rfl) (dQ (fq (.inl (by decide))))) (bX _ _)) (dQ (fq (.inl (by omega))))) (aA _ _) (fv (by decide))) rfl) ?_
 exact bR (aN (aN (aN (aN (af rfl) (aA _ _) (dQ (fq (.inr (by decide))))) (aA _ _) (fv (by decide))) (aA _ _) (ud (by decide) (by decide))) (af rfl) (fv hm))
theorem fT{s:S}{ma mb mc:EM}{c t m:Int}(h1:ma s=.ok (.int c,s))(h2:mb s=.ok (.int t,s))(h3:mc s=.ok (.int m,s))(hm:0<m):aQ 3 aK (ae ma (ae mb (ae mc ak))) s=.ok (.int (bN c t m),s):=iV (aG h1 (aG h2 (aG h3 (aF _)))) (II hm) rfl rfl rfl
def sgP(fi:Int)(k:Nat):Nat:=97+((fi+5*(k:Int))%26).toNat
def nmP(wd:List Nat)(sp:Nat)(fi:Int)(k:Nat):List Nat:=wd.take sp++[sgP fi k]++wd.drop sp
theorem K2(fi:Int)(k:Nat):97<=sgP fi k/\sgP fi k<=122:=by unfold sgP;omega
theorem Hk{wd:List Nat}{sp k:Nat}{fi:Int}(h:sp<=wd.length)(h7:wd.length<=7)(haz:azL wd):o8 (mkS (nmP wd sp fi k)):=by
 have hl:(nmP wd sp fi k).length=wd.length+1:=by unfold nmP;simp;omega
 refine⟨by rw[jr,hl];omega,by rw[jr,hl];omega, ?_⟩
 rw[gC]
 intro c hc
 unfold nmP at hc
 rcases List.mem_append.mp hc with z | z
 ·rcases List.mem_append.mp z with y | y
  ·exact haz c (List.mem_of_mem_take y)
  ·rw[List.mem_singleton.mp y];exact K2 fi k
 ·exact haz c (List.mem_of_mem_drop z)
theorem L9{wd:List Nat}{sp i j:Nat}{fi:Int}(h:sp<=wd.length)(hij:i<j)(hj:j<26):nmP wd sp fi i≠nmP wd sp fi j:=by
 intro e
 have hs:sgP fi i≠sgP fi j:=by unfold sgP;omega
 have hl:(wd.take sp).length=sp:=by rw[List.length_take];omega
 have key:∀x:Nat,(wd.take sp++[x]++wd.drop sp)[sp]? =some x:=λx=>by
  rw[List.append_assoc,List.getElem?_append_right (by omega),hl,Nat.sub_self];rfl
 have e1:(nmP wd sp fi i)[sp]? =(nmP wd sp fi j)[sp]? :=by rw[e]
 unfold nmP at e1
 rw[key,key] at e1
 have e1:sgP fi i=sgP fi j:=by simpa using e1
 exact hs e1
theorem names_nodup{wd:List Nat}{sp n:Nat}{fi:Int}(h:sp<=wd.length)(hn:n<=26):((List.range n).map λk=>mkS (nmP wd sp fi k)).Nodup:=by
 unfold List.Nodup
 rw[List.pairwise_map]
 refine List.Pairwise.imp_of_mem ?_ (List.pairwise_lt_range (n:=n))
 intro i j _ hj hij e
 have:=congrArg sg e
 rw[gC,gC] at this
 exact L9 h hij (by have:=List.mem_range.mp hj;omega) this
theorem Ib{me:EM}{ml mh:OM}{s s1 s2 s3:S}{z y:Str}{lo hi:Option Int}(h:me s=.ok (.str z,s1))(hl:ml s1=.ok (lo,s2))(hh:mh s2=.ok (hi,s3))(hz:z.length<=1000000)(hy:lE z lo hi=y):slS me ml mh s=.ok (.str y,s3):=by
 rw[K0,h,aj]
 dsimp only
 rw[hl,aj]
 dsimp only
 rw[hh,aj]
 dsimp only
 rw[if_pos (by omega),hy]
abbrev naR(c:Int)(n:Nat)(wd:List Nat)(x4 x5 x6:Option D):List (Option D):=[some (.int c),some (.int (n:Int)),some (.str ABC),some (.str (mkS wd)),x4,x5,x6]
theorem Dm{c:Int}{n k:Nat}{wd:List Nat}(hl:wd.length<=1000):∃r,iH ⟨naR c n wd (some (.int (k:Int))) none none,[]⟩=.next ⟨naR c n (wd++[r]) (some (.int (k:Int))) none none,[]⟩/\97<=r/\r<=122:=by
 have p0:=jH (c:=c) (t:=2+(k:Int)) (m:=26) (by decide)
 have p1:=mf (c:=c) (t:=2+(k:Int)) (m:=26) (by decide)
 refine⟨97+(bN c (2+(k:Int)) 26).toNat, ?_,by omega,by omega⟩
 rw[iH]
 refine bE (aN (af rfl) (aN (af rfl) (fT (af rfl) (aN (aA _ _) (af rfl) (bX _ _)) (aA _ _) (by decide)) (Fn p0 p1)) ?_) rfl
 rw[rq (by rw[jr,jr];simp;omega)]
 rw[show mkS wd++mkS [97+(bN c (2+(k:Int)) 26).toNat]=mkS (wd++[97+(bN c (2+(k:Int)) 26).toNat]) from rD (by rw[zy,gC,gC,gC])]
theorem zD(c:Int){n:Nat}(hn:n<=20):∃zs O,df [.int c,.int (n:Int)] []=.ok (sD zs,O)/\zs.length=n/\(∀z∈zs,o8 z)/\zs.Nodup:=by
 obtain⟨sz,hsz,sz8⟩:=sM c 1 (m:=8) (by decide)
 have hsz:bN c 1 8=(sz:Int):=hsz
 obtain⟨s',el,wd,x4,hwl,haz,hs'⟩:=dW (ok:=okC (dZ 0 (sz:Int)) none) (g:=aB 4) (body:=iH)
  (λpre s=>∃(wd:List Nat) (x4:Option D),wd.length=pre.length/\azL wd/\s=⟨naR c n wd x4 none none,[]⟩) (λ_ _ _=>trivial) (dZ 0 (sz:Int)) [] (by
   rintro pre d rest ed s ⟨wd,x4,h1,h2,rfl⟩
   rw[List.nil_append,eS] at ed
   obtain⟨rfl,hlt⟩:=mD ed
   obtain⟨r,eb,r1,r2⟩:=Dm (c:=c) (n:=n) (k:=pre.length) (wd:=wd) (by omega)
   refine⟨_,_,rfl,.inl eb,wd++[r],_,by simp[h1],λz hz=> ?_,rfl⟩
   rcases List.mem_append.mp hz with q | q
   ·exact h2 z q
   ·rw[List.mem_singleton.mp q];exact⟨r1,r2⟩) ⟨naR c n [] none none none,[]⟩ ⟨[],none,rfl,(λ_ h=>by cases h),rfl⟩
 rw[List.nil_append,gx] at hwl
 have hwl:wd.length=sz:=by omega
 have hf:eR (cY (ae (aQ 3 aK (ae (aa 0) (ae (aq (.int 1)) (ae (aq (.int 8)) ak)))) ak)) (aB 4) iH ⟨naR c n [] none none none,[]⟩=.next ⟨naR c n wd x4 none none,[]⟩:=by
  refine(dg (ds:=dZ 0 (sz:Int)) (k:=none) (s1:=⟨naR c n [] none none none,[]⟩) (ee (n:=sz) ?_ (by omega))).trans (el.trans (by rw[hs']))
  rw[<- hsz]
  exact aG (fT (af rfl) (aA _ _) (aA _ _) (by decide)) (aF _)
 obtain⟨sp,hsp,sp1⟩:=sM c 10 (m:=wd.length+1) (by omega)
 have e5:setM 5 (aQ 3 aK (ae (aa 0) (ae (aq (.int 10)) (ae (ao bz (aW bL (ae (aa 3) ak)) (aq (.int 1))) ak)))) ⟨naR c n wd x4 none none,[]⟩=.next ⟨naR c n wd x4 (some (.int (sp:Int))) none,[]⟩:=by
  rw[<- hsp]
  refine bE (fT (af rfl) (aA _ _) (aN (d6 (aG (af rfl) (aF _)) (Ai (by rw[jr];omega))) (aA _ _) ?_) (by omega)) rfl
  rw[bX,jr];rfl
 have e6:setM 6 (aQ 3 aK (ae (aa 0) (ae (aq (.int 11)) (ae (aq (.int 26)) ak)))) ⟨naR c n wd x4 (some (.int (sp:Int))) none,[]⟩=.next ⟨naR c n wd x4 (some (.int (sp:Int))) (some (.int (bN c 11 26))),[]⟩:=bE (fT (af rfl) (aA _ _) (aA _ _) (by decide)) rfl
 generalize bN c 11 26=fi at e6
 have hwk:(mkS wd).length=wd.length:=jr wd
 have ec:=dJ (l:=List.range n) (item:=λi:Nat=>D.int (i:Int)) (out:=λk=>.str (mkS (nmP wd sp fi k))) (caps:=[6,2,5,3]) (im:=cY (ae (aa 1) ak)) (e:=ao bz (ao bz (slS (aa 4) iM (part (aa 3))) (ao ixD (aa 2) (ao gh (ao bz (aa 1) (ao dE (aq (.int 5)) (aa 0))) (aq (.int 26))))) (slS (aa 4) (part (aa 3)) iM)) (k:=none) (s:=⟨naR c n wd x4 (some (.int (sp:Int))) (some (.int fi)),[]⟩) (by
  rw[<- eS]
  exact ee (aG (af rfl) (aF _)) (by omega)) trivial (by simp;omega) (λk hk=>by
   have p1:lE (mkS wd) none (some (sp:Int))=mkS (wd.take sp):=rD (by rw[JB (by omega),gC,gC])
   have p2:lE (mkS wd) (some (sp:Int)) none=mkS (wd.drop sp):=rD (by rw[JH (by omega),gC,gC])
   refine aN (aN (Ib (af rfl) (qc _) (Ax (af rfl)) (by omega) p1) (aN (af rfl) (aN (aN (af rfl) (aN (aA _ _) (af rfl) (dQ (fq (.inl (by decide))))) (bX _ _)) (aA _ _) (fv (by decide))) (Fn (by omega) (by omega))) (d:=.str (mkS (wd.take sp++[sgP fi k]))) ?_) (Ib (af rfl) (Ax (af rfl)) (qc _) (by omega) p2) ?_
   ·rw[rq (by rw[jr,jr];simp;omega)]
    exact congrArg (λz=>Res.ok (D.str z)) (rD (by rw[zy,gC,gC,gC];rfl))
   ·rw[rq (by rw[jr,jr];simp;omega)]
    exact congrArg (λz=>Res.ok (D.str z)) (rD (by rw[zy,gC,gC,gC];rfl)))
 refine⟨(List.range n).map λk=>mkS (nmP wd sp fi k),[], ?_,by simp,λz hz=> ?_,names_nodup (by omega) (by omega)⟩
 ·refine fg (R:=naR c n wd x4 (some (.int (sp:Int))) (some (.int fi))) ?_
  show i3 ⟨[some (.int c),some (.int (n:Int)),none,none,none,none,none],[]⟩=_
  rw[i3]
  rw[show (List.range n).map (λk=>D.str (mkS (nmP wd sp fi k)))=((List.range n).map λk=>mkS (nmP wd sp fi k)).map D.str by rw[List.map_map];rfl] at ec
  exact aU (bE (aA _ _) rfl) (aU (bE (R':=naR c n [] none none none) (aA _ _) rfl) (aU hf (aU e5 (aU e6 (bR ec)))))
 ·obtain⟨k,_,rfl⟩:=List.mem_map.mp hz
  exact Hk (by omega) (by omega) haz
theorem xm{O:au}:uU O (.int 10) (.int 12)=.ok (.int 1000000000000):=Ha (by decide) (by decide) (by decide)
theorem qS{O:au}{i j:Int}(h:0<j):gQ O (.int i) (.int j)=.ok (.int (i/j)):=by
 rw[r9 (by omega),u0 h]
abbrev moR(c:Int)(n:Nat)(w:Bool)(rest span:Int)(x6 x7:Option D):List (Option D):=[some (.int c),some (.int (n:Int)),some (.bl w),some (.ptr 0),some (.int rest),some (.int span),x6,x7]
theorem E2{c:Int}{n k:Nat}{w:Bool}{rest span:Int}{l:List Int}{x7:Option D}(hs:7<=span)(hs2:span<=2000000000001)(hl:l.length<=1000):
 ∃(v rest':Int),lI ⟨moR c n w rest span (some (.int (k:Int))) x7,[.lst (l.map D.int)]⟩=.next ⟨moR c n w rest' span (some (.int (k:Int))) (some (.int v)),[.lst ((l++[v]).map D.int)]⟩/\Sz 50 v:=by
 have p0:=jH (c:=c) (t:=20+(k:Int)) (m:=7) (by decide)
 have p1:=mf (c:=c) (t:=20+(k:Int)) (m:=7) (by decide)
 have q0:=jH (c:=c) (t:=30+(k:Int)) (m:=2000) (by decide)
 have q1:=mf (c:=c) (t:=30+(k:Int)) (m:=2000) (by decide)
 have e7:setM 7 (ao jq (aQ 3 aK (ae (aa 0) (ae (ao bz (aq (.int 20)) (aa 6)) (ae (aq (.int 7)) ak)))) (aq (.int 3))) ⟨moR c n w rest span (some (.int (k:Int))) x7,[.lst (l.map D.int)]⟩=.next ⟨moR c n w rest span (some (.int (k:Int))) (some (.int (bN c (20+(k:Int)) 7-3))),[.lst (l.map D.int)]⟩:=bE (aN (fT (af rfl) (aN (aA _ _) (af rfl) (bX _ _)) (aA _ _) (by decide)) (aA _ _) (ow _ _)) rfl
 generalize bN c (20+(k:Int)) 7=p at e7 p0 p1
 have m0:0<=c%1000000000000:=Int.emod_nonneg _ (by decide)
 have m1:c%1000000000000<1000000000000:=Int.emod_lt_of_pos _ (by decide)
 have e8:∃v,ifS (bj (aa 2)) (setM 7 (ao jq (ao bz (ao dE (aa 7) (ao gh (aa 0) (ao uU (aq (.int 10)) (aq (.int 12))))) (aQ 3 aK (ae (aa 0) (ae (ao bz (aq (.int 30)) (aa 6)) (ae (aq (.int 2000)) ak))))) (aq (.int 1000)))) cL ⟨moR c n w rest span (some (.int (k:Int))) (some (.int (p-3))),[.lst (l.map D.int)]⟩=.next ⟨moR c n w rest span (some (.int (k:Int))) (some (.int v)),[.lst (l.map D.int)]⟩/\Sz 50 v:=by
  cases w with
  | true=>
   refine⟨(p-3)*(c%1000000000000)+bN c (30+(k:Int)) 2000-1000,mw (ft (af rfl)) rfl (bE (aN (aN (aN (af rfl) (aN (af rfl) (aN (aA _ _) (aA _ _) xm) (fv (by decide))) (dQ (fq (.inl (by omega))))) (fT (af rfl) (aN (aA _ _) (af rfl) (bX _ _)) (aA _ _) (by decide)) (bX _ _)) (aA _ _) (ow _ _)) rfl), ?_⟩
   generalize bN c (30+(k:Int)) 2000=q at q0 q1
   generalize c%1000000000000=m at m0 m1
   have hp:p=0\/p=1\/p=2\/p=3\/p=4\/p=5\/p=6:=by omega
   unfold Sz
   rcases hp with rfl | rfl | rfl | rfl | rfl | rfl | rfl <;> omega
  | false=>exact⟨p-3,gJ (ft (af rfl)) rfl (dy _),by unfold Sz;omega⟩
 obtain⟨v,e8,zv⟩:=e8
 have e9:∃v' rest',ifS (p9 (bj (ao eqD (ao gh (aa 0) (aq (.int 2))) (aq (.int 1)))) (bj (ao gtD (aa 4) (aq (.int 0))))) (aP (setM 7 (ao jq (ao gh (aa 4) (aa 5)) (ao gQ (aa 5) (aq (.int 2))))) (setM 4 (ao gQ (aa 4) (aa 5)))) cL ⟨moR c n w rest span (some (.int (k:Int))) (some (.int v)),[.lst (l.map D.int)]⟩=.next ⟨moR c n w rest' span (some (.int (k:Int))) (some (.int v')),[.lst (l.map D.int)]⟩/\Sz 50 v':=by
  have t1:bj (ao eqD (ao gh (aa 0) (aq (.int 2))) (aq (.int 1))) ⟨moR c n w rest span (some (.int (k:Int))) (some (.int v)),[.lst (l.map D.int)]⟩=.ok (decide (c%2=1),⟨moR c n w rest span (some (.int (k:Int))) (some (.int v)),[.lst (l.map D.int)]⟩):=eq_test (aN (af rfl) (aA _ _) (fv (by decide)))
  have t2:bj (ao gtD (aa 4) (aq (.int 0))) ⟨moR c n w rest span (some (.int (k:Int))) (some (.int v)),[.lst (l.map D.int)]⟩=.ok (decide (0<rest),⟨moR c n w rest span (some (.int (k:Int))) (some (.int v)),[.lst (l.map D.int)]⟩):=jO (af rfl)
  have ta:=wa t1 t2
  cases hb:(decide (c%2=1)&&decide (0<rest)) with
  | true=>
   refine⟨rest%span-span/2,rest/span,mw ta hb (aU (bE (aN (aN (af rfl) (af rfl) (fv (by omega))) (aN (af rfl) (aA _ _) (qS (by decide))) (ow _ _)) rfl) (bE (aN (af rfl) (af rfl) (qS (by omega))) rfl)), ?_⟩
   have r0:0<=rest%span:=Int.emod_nonneg _ (by omega)
   have r1:rest%span<span:=Int.emod_lt_of_pos _ (by omega)
   unfold Sz
   omega
  | false=>exact⟨v,rest,gJ ta hb (dy _),zv⟩
 obtain⟨v',rest',e9,zv'⟩:=e9
 refine⟨v',rest', ?_,zv'⟩
 rw[lI]
 refine aU e7 (aU e8 (aU e9 (cF (kZ (af rfl) rfl (af rfl) rfl (by simp;omega) ?_))))
 rw[List.map_append];rfl
theorem JD(c:Int){n:Nat}(w:Bool)(hn:n<=100):∃l:List Int,jW [.int c,.int (n:Int),.bl w] []=.ok (.ptr 0,[.lst (l.map D.int)])/\l.length=n/\SzL 50 l:=by
 obtain⟨span,hsp,s0,s1⟩:∃span:Int,(if w=true then 2000000000001 else 7)=span/\7<=span/\span<=2000000000001:=⟨_,rfl,by split <;> decide,by split <;> decide⟩
 have e5:setM 5 (ao ixD (kF (ae (aq (.int 7)) (ae (ao bz (ao dE (aq (.int 2)) (ao uU (aq (.int 10)) (aq (.int 12)))) (aq (.int 1))) ak))) (aW intOf (ae (aa 2) ak))) ⟨[some (.int c),some (.int (n:Int)),some (.bl w),some (.ptr 0),some (.int (c/2)),none,none,none],[.lst []]⟩=.next ⟨moR c n w (c/2) span none none,[.lst []]⟩:=by
  refine bE (aN (tq (aG (aA _ _) (aG (aN (aN (aA _ _) (aN (aA _ _) (aA _ _) xm) (dQ (fq (.inl (by decide))))) (aA _ _) (bX _ _)) (aF _))) (by simp)) (d6 (aG (af rfl) (aF _)) (uR _)) ?_) rfl
  subst hsp
  cases w <;> rfl
 obtain⟨s',el,l,rest,x6,x7,hl,hz,hs'⟩:=dW (ok:=okC (dZ 0 (n:Int)) none) (g:=aB 6) (body:=lI)
  (λpre s=>∃(l:List Int) (rest:Int) (x6 x7:Option D),l.length=pre.length/\SzL 50 l/\s=⟨moR c n w rest span x6 x7,[.lst (l.map D.int)]⟩) (λ_ _ _=>trivial) (dZ 0 (n:Int)) [] (by
   rintro pre d rest ed s ⟨l,r,x6,x7,h1,h2,rfl⟩
   rw[List.nil_append,eS] at ed
   obtain⟨rfl,hlt⟩:=mD ed
   obtain⟨v,r',eb,zv⟩:=E2 (c:=c) (n:=n) (k:=pre.length) (w:=w) (rest:=r) (span:=span) (l:=l) (x7:=x7) s0 s1 (by omega)
   refine⟨_,_,rfl,.inl eb,l++[v],r',_,_,by simp[h1],λz hz=> ?_,rfl⟩
   rcases List.mem_append.mp hz with q | q
   ·exact h2 z q
   ·rw[List.mem_singleton.mp q];exact zv) ⟨moR c n w (c/2) span none none,[.lst []]⟩ ⟨[],_,none,none,rfl,(λ_ h=>by cases h),rfl⟩
 rw[List.nil_append,gx] at hl
 refine⟨l, ?_,by omega,hz⟩
 refine fg (R:=moR c n w rest span x6 x7) ?_
 show lD ⟨[some (.int c),some (.int (n:Int)),some (.bl w),none,none,none,none,none],[]⟩=_
 rw[lD]
 refine aU (bE (oa (aF _) (by simp) rfl rfl) rfl) (aU (bE (aN (af rfl) (aA _ _) (qS (by decide))) rfl) (aU e5 (aU ?_ (bR (af rfl)))))
 exact(dg (ds:=dZ 0 (n:Int)) (k:=none) (s1:=⟨moR c n w (c/2) span none none,[.lst []]⟩) (ee (n:=n) (aG (af rfl) (aF _)) (by omega))).trans (el.trans (by rw[hs']))
theorem w9:∀(a b:List Int),a.length=b.length->((List.range b.length).map λk=>nth a k*nth b k).sum=aH a b
 | [],[],_=>rfl
 | x::a,y::b,h=>by
  have ih:=w9 a b (by simpa using h)
  rw[List.length_cons,List.range_succ_eq_map,List.map_cons,List.map_map,List.sum_cons]
  show x*y+((List.range b.length).map λk=>nth a k*nth b k).sum=(x*y::List.zipWith (· * ·) a b).sum
  rw[ih,List.sum_cons]
  rfl
theorem K8{ma mb:EM}{s s1:S}{R:List (Option D)}{O O':au}{x y:D}{a b:List D}{k:Nat}(h1:ma s=.ok (x,s1))(h2:mb s1=.ok (y,⟨R,O⟩))(ha:lsD O x=some a)(hb:lsD O y=some b)(hl:a.length+b.length<=1000000)(hk:O.length=k)(hO:O++[.lst (a++b)]=O'):AN ma mb s=.ok (.ptr k,⟨R,O'⟩):=by
 unfold AN
 rw[h1,aj]
 dsimp only
 rw[h2,aj]
 dsimp only
 rw[ha,hb]
 dsimp only
 rw[if_pos (by omega),hk,hO]
def gK(A:List (List Int))(way:List Int)(n:Nat):List Int:=(List.range n).map λg=>((List.range A.length).map λk=>nth way k*nth (A.getD k []) g).sum
theorem FC(n:Nat)(f:Nat->Int):((List.range n).map f).sum=aV n f:=by
 induction n with
 | zero=>rfl
 | succ n ih=>rw[List.range_succ,List.map_append,List.sum_append,ih];simp[aV]
theorem zb{A:List (List Int)}{way:List Int}{n g:Nat}(hg:g<n):nth (gK A way n) g=dF way A g:=by
 unfold gK dF
 rw[<- FC]
 unfold nth
 rw[List.getD_eq_getElem?_getD,List.getElem?_map,List.getElem?_range hg]
 rfl
theorem qe(A:List (List Int))(way:List Int)(n:Nat):(gK A way n).length=n:=by unfold gK;simp
theorem HG{A:List (List Int)}{way:List Int}{n c:Nat}(ha:A.length<=1000)(lw:way.length=A.length)(zw:SzL 2 way)(zA:fH c A):SzL (c+12) (gK A way n):=λx hx=>by
 unfold gK at hx
 obtain⟨g,_,rfl⟩:=List.mem_map.mp hx
 have l1:way.length=(A.map (nth · g)).length:=by simp[lw]
 have:=w9 way (A.map (nth · g)) l1
 rw[show (A.map (nth · g)).length=A.length by simp] at this
 rw[show (List.range A.length).map (λk=>nth way k*nth (A.getD k []) g)=(List.range A.length).map (λk=>nth way k*nth (A.map (nth · g)) k) from List.map_congr_left λk _=>by rw[pe],this]
 refine(sf (b:=c) (c:=2) zw (λz hz=> ?_) (by omega)).mono (by omega)
 obtain⟨l,hl,rfl⟩:=List.mem_map.mp hz
 exact(zA l hl).nth _
theorem E9{A:List (List Int)}{way:List Int}{n c ia iw i2:Nat}{s:S}{dm:D}(h4:s.r[ia]? =some (some dm))(h8:s.r[iw]? =some (some (vI way)))(h2:s.r[i2]? =some (some (.int (n:Int))))(ix:∀k,k<A.length->ixD s.o dm (.int (k:Int))=.ok (vI (A.getD k [])))(ln:bL s.o [dm]=.ok (.int (A.length:Int)))(hn:n<=1000)(ha:A.length<=1000)(la:∀l∈A,l.length=n)(lw:way.length=A.length)(zw:SzL 2 way)(zA:fH c A)(hc:c<=60000000):
 bF 1 [ia,iw] (cY (ae (aa i2) ak)) (aB 0) bK (aW oG (ae (bF 1 [0,1,2] (cY (ae (aW bL (ae (aa 1) ak)) ak)) (aB 0) bK (ao dE (ao ixD (aa 3) (aa 0)) (ao ixD (ao ixD (aa 2) (aa 0)) (aa 1)))) ak)) s=.ok (vI (gK A way n),s):=by
 have inner:∀g,g<n->aW oG (ae (bF 1 [0,1,2] (cY (ae (aW bL (ae (aa 1) ak)) ak)) (aB 0) bK (ao dE (ao ixD (aa 3) (aa 0)) (ao ixD (ao ixD (aa 2) (aa 0)) (aa 1)))) ak) ⟨[some (.int (g:Int)),some dm,some (vI way)],s.o⟩=.ok (.int ((List.range A.length).map λk=>nth way k*nth (A.getD k []) g).sum,⟨[some (.int (g:Int)),some dm,some (vI way)],s.o⟩):=λg hg=>by
  have e:=dJ (l:=List.range A.length) (item:=λi:Nat=>D.int (i:Int)) (out:=λk=>.int (nth way k*nth (A.getD k []) g)) (caps:=[0,1,2]) (im:=cY (ae (aW bL (ae (aa 1) ak)) ak)) (e:=ao dE (ao ixD (aa 3) (aa 0)) (ao ixD (ao ixD (aa 2) (aa 0)) (aa 1))) (k:=none) (s:=⟨[some (.int (g:Int)),some dm,some (vI way)],s.o⟩) (by
   rw[<- eS]
   exact ee (aG (d6 (aG (af rfl) (aF _)) ln) (aF _)) (by omega)) trivial (by simp;omega) (λk hk=>by
    have hk':=List.mem_range.mp hk
    have hm:A.getD k []∈A:=getD_mem hk'
    exact aN (aN (af rfl) (af rfl) (tQ (by omega))) (aN (aN (af rfl) (af rfl) (ix k hk')) (af rfl) (tQ (by rw[la _ hm];exact hg))) (dQ (sj (m:=2) (n:=c) (by decide) hc (zw.nth _) ((zA _ hm).nth _))))
  rw[show (List.range A.length).map (λk=>D.int (nth way k*nth (A.getD k []) g))=((List.range A.length).map λk=>nth way k*nth (A.getD k []) g).map D.int by rw[List.map_map];rfl] at e
  exact d6 (aG e (aF _)) (oU _ _)
 have e:=dJ (l:=List.range n) (item:=λi:Nat=>D.int (i:Int)) (out:=λg=>.int ((List.range A.length).map λk=>nth way k*nth (A.getD k []) g).sum) (caps:=[ia,iw]) (im:=cY (ae (aa i2) ak)) (e:=aW oG (ae (bF 1 [0,1,2] (cY (ae (aW bL (ae (aa 1) ak)) ak)) (aB 0) bK (ao dE (ao ixD (aa 3) (aa 0)) (ao ixD (ao ixD (aa 2) (aa 0)) (aa 1)))) ak)) (k:=none) (s:=s) (by
  rw[<- eS]
  exact ee (aG (af h2) (aF _)) (by omega)) trivial (by simp;omega) (λg hg=>by
   rw[show [ia,iw].map (λi=>(s.r[i]?).getD none)=[some dm,some (vI way)] by simp[h4,h8]]
   exact inner g (List.mem_range.mp hg))
 rw[show (List.range n).map (λg=>D.int ((List.range A.length).map λk=>nth way k*nth (A.getD k []) g).sum)=(gK A way n).map D.int by unfold gK;rw[List.map_map];rfl] at e
 exact e
theorem Hi{w:List Int}{A:List (List Int)}{m:List Int}{g:Nat}(h:w.length<=A.length):dF w (A++[m]) g=dF w A g:=by
 unfold dF
 rw[List.length_append,List.length_singleton]
 show aV A.length _+_=_
 dsimp only
 rw[iq h,Int.zero_mul,Int.add_zero]
 exact bJ λj hj=>by rw[List.getD_eq_getElem?_getD,List.getElem?_append_left hj,<- List.getD_eq_getElem?_getD]
theorem xo(a:Int)(w:List Int)(z:List Int)(A:List (List Int))(g:Nat):dF (a::w) (z::A) g=a*nth z g+dF w A g:=by
 unfold dF
 rw[List.length_cons,FT]
 rfl
theorem Hr{w v:List Int}{A:List (List Int)}{g:Nat}(h:∀j,nth v j=nth w j):dF v A g=dF w A g:=by
 unfold dF
 exact bJ λj _=>by rw[h j]
theorem JN(w:List Int)(m j:Nat):nth (w++List.replicate m 0) j=nth w j:=by
 unfold nth
 rw[List.getD_eq_getElem?_getD,List.getD_eq_getElem?_getD]
 rcases Nat.lt_or_ge j w.length with h | h
 ·rw[List.getElem?_append_left h]
 ·rw[List.getElem?_append_right h,List.getElem?_eq_none h,List.getElem?_replicate]
  split <;> rfl
structure MZ(n:Nat)(A:List (List Int))(w:List Int):Prop where
 le:w.length<=A.length
 lo:∀t∈w,0<=t/\t<=2
 bal:∀g,g<n->dF w A g=0
structure MvI(n c:Nat)(A W:List (List Int)):Prop where
 len:∀l∈A,l.length=n
 sz:fH c A
 ws:∀w∈W,MZ n A w
theorem MvI.more{n c c':Nat}{A W:List (List Int)}{m:List Int}(h:MvI n c A W)(hm:m.length=n)(zm:SzL c' m)(hc:c<=c'):MvI n c' (A++[m]) W:=
 ⟨λl hl=>by
  rcases List.mem_append.mp hl with q | q
  ·exact h.len l q
  ·rw[List.mem_singleton.mp q];exact hm,λl hl=>by
  rcases List.mem_append.mp hl with q | q
  ·exact(h.sz l q).mono hc
  ·rw[List.mem_singleton.mp q];exact zm,λw hw=>⟨by have:=(h.ws w hw).le;simp;omega,(h.ws w hw).lo,λg hg=>by rw[Hi (h.ws w hw).le];exact(h.ws w hw).bal g hg⟩⟩
theorem MvI.close{n c:Nat}{A W:List (List Int)}{way:List Int}(h:MvI n c A W)(lw:way.length=A.length)(w0:∀t∈way,0<=t/\t<=2)(ha:A.length<=1000):MvI n (c+12) (A++[(gK A way n).map (- ·)]) (W++[way++[1]]):=by
 have zw:SzL 2 way:=λt ht=>by have:=w0 t ht;unfold Sz;omega
 have base:=h.more (m:=(gK A way n).map (- ·)) (c':=c+12) (by rw[List.length_map,qe]) (λx hx=>by
  obtain⟨y,hy,rfl⟩:=List.mem_map.mp hx
  exact(HG ha lw zw h.sz y hy).neg) (by omega)
 refine⟨base.len,base.sz,λw hw=> ?_⟩
 rcases List.mem_append.mp hw with q | q
 ·exact base.ws w q
 ·rw[List.mem_singleton.mp q]
  refine⟨by simp[lw],λt ht=> ?_,λg hg=> ?_⟩
  ·rcases List.mem_append.mp ht with z | z
   ·exact w0 t z
   ·rw[List.mem_singleton.mp z];decide
  ·rw[qK lw,kP (f:=(- ·)) (by simp),zb hg]
   omega
theorem MvI.zero{n c:Nat}{A W:List (List Int)}(h:MvI n c A W):MvI n c (List.replicate n 0::A) (W.map (0:: ·)++[[1]]):=by
 have z0:∀g,nth (List.replicate n (0:Int)) g=0:=λg=>by
  unfold nth
  rw[List.getD_eq_getElem?_getD,List.getElem?_replicate]
  split <;> rfl
 refine⟨λl hl=> ?_,λl hl=> ?_,λw hw=> ?_⟩
 ·rcases List.mem_cons.mp hl with rfl | q
  ·simp
  ·exact h.len l q
 ·rcases List.mem_cons.mp hl with rfl | q
  ·intro x hx
   rw[(List.mem_replicate.mp hx).2]
   exact Sz.zero _
  ·exact h.sz l q
 ·rcases List.mem_append.mp hw with q | q
  ·obtain⟨v,hv,rfl⟩:=List.mem_map.mp q
   have hv':=h.ws v hv
   refine⟨by have:=hv'.le;simp;omega,λt ht=> ?_,λg hg=> ?_⟩
   ·rcases List.mem_cons.mp ht with rfl | z
    ·decide
    ·exact hv'.lo t z
   ·rw[xo,Int.zero_mul,hv'.bal g hg];rfl
  ·rw[List.mem_singleton.mp q]
   refine⟨by simp,λt ht=>by rw[List.mem_singleton.mp ht];decide,λg hg=> ?_⟩
   rw[xo,z0,Int.mul_zero]
   unfold dF
   rw[eO λj _=> ?_]
   ·rfl
   ·rw[iq (by simp),Int.zero_mul]
abbrev mvR(ns:List Int)(b n:Nat)(hd:Int)(w:Bool)(x6 x7 x8 x9:Option D):List (Option D):=[some (vI ns),some (.int (b:Int)),some (.int (n:Int)),some (.int hd),some (.ptr 0),some (.bl w),x6,x7,x8,x9]
theorem GW{ns:List Int}{b n k:Nat}{hd:Int}{w:Bool}{A:List (List Int)}{O:au}{x7 x8 x9:Option D}(hn:n<=100)(hO:O[0]? =some (.lst (A.map vI)))(al:A.length<=1000):
 ∃l O',iQ ⟨mvR ns b n hd w (some (.int (k:Int))) x7 x8 x9,O⟩=.next ⟨mvR ns b n hd w (some (.int (k:Int))) x7 x8 x9,O'⟩/\O'[0]? =some (.lst ((A++[l]).map vI))/\l.length=n/\SzL 50 l:=by
 obtain⟨c,ec,_⟩:=vU ns (b+1+k)
 have hc:aQ 2 da (ae (aa 0) (ae (ao bz (ao bz (aa 1) (aq (.int 1))) (aa 6)) ak)) ⟨mvR ns b n hd w (some (.int (k:Int))) x7 x8 x9,O⟩=.ok (.int c,⟨mvR ns b n hd w (some (.int (k:Int))) x7 x8 x9,O⟩):=by
  refine iV (O1:=[]) (aG (af rfl) (aG (aN (aN (af rfl) (aA _ _) (bX _ _)) (af rfl) (bX _ _)) (aF _))) ?_ (by simp) rfl rfl
  rw[show (b:Int)+1+(k:Int)=((b+1+k:Nat):Int) by omega]
  exact ec
 obtain⟨l,em,ll,lz⟩:=JD (c+13*(k:Int)) w hn
 have e8:gc 3 jW (ae (ao bz (aQ 2 da (ae (aa 0) (ae (ao bz (ao bz (aa 1) (aq (.int 1))) (aa 6)) ak))) (ao dE (aq (.int 13)) (aa 6))) (ae (aa 2) (ae (aa 5) ak))) ⟨mvR ns b n hd w (some (.int (k:Int))) x7 x8 x9,O⟩=.ok (.ptr O.length,⟨mvR ns b n hd w (some (.int (k:Int))) x7 x8 x9,O++[.lst (l.map D.int)]⟩):=by
  refine mj (aG (aN hc (aN (aA _ _) (af rfl) (dQ (fq (.inl (by decide))))) (bX _ _)) (aG (af rfl) (aG (af rfl) (aF _)))) em rfl rfl (jM _ _) ?_
  simp only[List.map_cons,List.map_nil,nW,mO]
 have hk0:O.length≠0:=by have:=mJ hO;omega
 have c8:(O++[Cell.lst (l.map D.int)])[O.length]? =some (.lst (l.map D.int)):=jl
 have g8:(O++[Cell.lst (l.map D.int)])[0]? =some (.lst (A.map vI)):=eN hO
 generalize O++[Cell.lst (l.map D.int)]=O1 at e8 c8 g8
 generalize O.length=kk at e8 c8 hk0
 refine⟨l,(O1.set kk .dead).set 0 (.lst (A.map vI++[vI l])), ?_,(by rw[List.map_append];exact eY (c':=.lst (A.map vI)) (by rw[cg hk0];exact g8)),ll,lz⟩
 rw[iQ]
 exact cF (kZ (af rfl) hO (qv e8 c8 rfl) (by rw[cg hk0];exact g8) (by simp;omega) rfl)
theorem G2{O:au}{k:Nat}{A:List (List Int)}(h:O[k]? =some (.lst (A.map vI))){i:Nat}(hi:i<A.length):ixD O (.ptr k) (.int (i:Int))=.ok (vI (A.getD i [])):=by
 refine Fe h ?_
 rw[qi (by simpa using hi)]
 simp[List.getD_eq_getElem?_getD,hi]
theorem HI{ns:List Int}{b n k kf c:Nat}{hd:Int}{w:Bool}{A W:List (List Int)}{O:au}{x8 x9:Option D}(hn:n<=100)(al:A.length<=100)(wl:W.length<=100)(hc:c<=1000)(h:MvI n c A W)(hO:O[0]? =some (.lst (A.map vI)))(hF:O[kf]? =some (.lst (W.map vI)))(k0:kf≠0):
 ∃m v O' y8 y9,iG ⟨mvR ns b n hd w (some (.int (k:Int))) (some (.ptr kf)) x8 x9,O⟩=.next ⟨mvR ns b n hd w (some (.int (k:Int))) (some (.ptr kf)) y8 y9,O'⟩/\MvI n (c+12) (A++[m]) (W++[v])/\O'[0]? =some (.lst ((A++[m]).map vI))/\O'[kf]? =some (.lst ((W++[v]).map vI)):=by
 have ln:bL O [.ptr 0]=.ok (.int (A.length:Int)):=by rw[qy hO,List.length_map]
 have ew:=dJ (l:=List.range A.length) (item:=λi:Nat=>D.int (i:Int)) (out:=λi=>.int (bN hd (50+7*(k:Int)+(i:Int)) 4%3)) (caps:=[3,6]) (im:=cY (ae (aW bL (ae (aa 4) ak)) ak)) (e:=ao gh (aQ 3 aK (ae (aa 1) (ae (ao bz (ao bz (aq (.int 50)) (ao dE (aq (.int 7)) (aa 2))) (aa 0)) (ae (aq (.int 4)) ak)))) (aq (.int 3))) (k:=none) (s:=⟨mvR ns b n hd w (some (.int (k:Int))) (some (.ptr kf)) x8 x9,O⟩) (by
  rw[<- eS]
  exact ee (aG (d6 (aG (af rfl) (aF _)) ln) (aF _)) (by omega)) trivial (by simp;omega) (λi _=>aN (fT (af rfl) (aN (aN (aA _ _) (aN (aA _ _) (af rfl) (dQ (fq (.inl (by decide))))) (bX _ _)) (af rfl) (bX _ _)) (aA _ _) (by decide)) (aA _ _) (fv (by decide)))
 rw[show (List.range A.length).map (λi:Nat=>D.int (bN hd (50+7*(k:Int)+(i:Int)) 4%3))=((List.range A.length).map λi:Nat=>bN hd (50+7*(k:Int)+(i:Int)) 4%3).map D.int by rw[List.map_map];rfl] at ew
 have lw:((List.range A.length).map λi:Nat=>bN hd (50+7*(k:Int)+(i:Int)) 4%3).length=A.length:=by simp
 have w0:∀t∈(List.range A.length).map (λi:Nat=>bN hd (50+7*(k:Int)+(i:Int)) 4%3),0<=t/\t<=2:=λt ht=>by
  obtain⟨i,_,rfl⟩:=List.mem_map.mp ht
  have h1:=Int.emod_nonneg (bN hd (50+7*(k:Int)+(i:Int)) 4) (show (3:Int)≠0 by decide)
  have h2:=Int.emod_lt_of_pos (bN hd (50+7*(k:Int)+(i:Int)) 4) (show (0:Int)<3 by decide)
  exact⟨h1,by omega⟩
 generalize (List.range A.length).map (λi:Nat=>bN hd (50+7*(k:Int)+(i:Int)) 4%3)=way at ew lw w0
 have zw:SzL 2 way:=λt ht=>by have:=w0 t ht;unfold Sz;omega
 have el:=E9 (A:=A) (way:=way) (n:=n) (c:=c) (ia:=4) (iw:=8) (i2:=2) (s:=⟨mvR ns b n hd w (some (.int (k:Int))) (some (.ptr kf)) (some (vI way)) x9,O⟩) (dm:=.ptr 0) rfl rfl rfl (λi hi=>G2 hO hi) ln (by omega) (by omega) h.len lw zw h.sz (by omega)
 have cl:=h.close lw w0 (by omega)
 have ll:=qe A way n
 generalize gK A way n=lf at el cl ll
 have en:=dJ (l:=lf) (item:=D.int) (out:=λx=>.int (-x)) (caps:=[]) (im:=listI (aa 9)) (e:=unM lH (aa 0)) (k:=none) (s:=⟨mvR ns b n hd w (some (.int (k:Int))) (some (.ptr kf)) (some (vI way)) (some (vI lf)),O⟩) (by rw[di,af (i:=9) rfl,aj];rfl) trivial (by omega) (λx _=>wb (af rfl) (qL _))
 rw[show lf.map (λx=>D.int (-x))=(lf.map (- ·)).map D.int by rw[List.map_map];rfl] at en
 have gF:(O.set 0 (.lst (A.map vI++[vI (lf.map (- ·))])))[kf]? =some (.lst (W.map vI)):=by rw[cg (λz=>k0 z.symm)];exact hF
 have g0:(O.set 0 (.lst (A.map vI++[vI (lf.map (- ·))])))[0]? =some (.lst ((A++[lf.map (- ·)]).map vI)):=by rw[List.map_append];exact eY hO
 have ea:cR (gP (aa 4) (bF 1 [] (listI (aa 9)) (aB 0) bK (unM lH (aa 0)))) ⟨mvR ns b n hd w (some (.int (k:Int))) (some (.ptr kf)) (some (vI way)) (some (vI lf)),O⟩=.next ⟨mvR ns b n hd w (some (.int (k:Int))) (some (.ptr kf)) (some (vI way)) (some (vI lf)),O.set 0 (.lst (A.map vI++[vI (lf.map (- ·))]))⟩:=cF (kZ (af rfl) hO en hO (by simp;omega) rfl)
 generalize O.set 0 (.lst (A.map vI++[vI (lf.map (- ·))]))=O1 at ea gF g0
 have ef:cR (gP (aa 7) (ao bz (aa 8) (kF (ae (aq (.int 1)) ak)))) ⟨mvR ns b n hd w (some (.int (k:Int))) (some (.ptr kf)) (some (vI way)) (some (vI lf)),O1⟩=.next ⟨mvR ns b n hd w (some (.int (k:Int))) (some (.ptr kf)) (some (vI way)) (some (vI lf)),O1.set kf (.lst (W.map vI++[vI (way++[1])]))⟩:=by
  refine cF (kZ (af rfl) gF (aN (af rfl) (tq (aG (aA _ _) (aF _)) (by simp)) (d:=vI (way++[1])) ?_) gF (by simp;omega) rfl)
  rw[uJ (by simp;omega)]
  exact congrArg (λz=>Res.ok (D.lst z)) (by rw[List.map_append];rfl)
 refine⟨lf.map (- ·),way++[1],O1.set kf (.lst (W.map vI++[vI (way++[1])])),some (vI way),some (vI lf), ?_,cl,by rw[cg k0];exact g0,by rw[List.map_append];exact eY gF⟩
 rw[iG]
 exact aU (bE (R':=mvR ns b n hd w (some (.int (k:Int))) (some (.ptr kf)) (some (vI way)) x9) ew rfl) (aU (bE (R':=mvR ns b n hd w (some (.int (k:Int))) (some (.ptr kf)) (some (vI way)) (some (vI lf))) el rfl) (aU ea ef))
theorem Fw{R:List (Option D)}{O:au}{i k:Nat}{ds:List D}(hR:R[i]? =some (some (.ptr k)))(hO:O[k]? =some (.lst ds)):bj (lJ ltD ltD (aq (.int 0)) (aW bL (ae (aa i) ak)) (aq (.int 6))) ⟨R,O⟩=.ok (decide (0<ds.length)&&decide (ds.length<6),⟨R,O⟩):=by
 have el:aW bL (ae (aa i) ak) ⟨R,O⟩=.ok (.int (ds.length:Int),⟨R,O⟩):=d6 (aG (af hR) (aF _)) (qy hO)
 have e:lJ ltD ltD (aq (.int 0)) (aW bL (ae (aa i) ak)) (aq (.int 6)) ⟨R,O⟩=.ok (.bl (decide (0<ds.length)&&decide (ds.length<6)),⟨R,O⟩):=by
  rw[xw,aA,aj]
  dsimp only
  rw[el,aj]
  dsimp only
  rw[lW,aj]
  by_cases h:0<ds.length
  ·rw[decide_eq_true (show (0:Int)<(ds.length:Int) by omega),decide_eq_true h]
   dsimp only
   rw[aA,aj]
   dsimp only
   rw[lW,aj,Bool.true_and]
   congr 3
   exact decide_eq_decide.mpr (by omega)
  ·rw[decide_eq_false (show ¬(0:Int)<(ds.length:Int) by omega),decide_eq_false h]
   rfl
 exact ft e
theorem He(ns:List Int)(b:Nat){n:Nat}(hn:n<=100):∃(A W:List (List Int)) (O:au) (kf:Nat),fL [vI ns,.int (b:Int),.int (n:Int)] []=.ok (.tup [.ptr 0,.ptr kf],O)/\O[0]? =some (.lst (A.map vI))/\O[kf]? =some (.lst (W.map vI))/\kf≠0/\MvI n 90 A W/\A.length<=6/\∀w∈W,w.length=A.length:=by
 obtain⟨hd,eh,_⟩:=vU ns b
 have e3:setM 3 (aQ 2 da (ae (aa 0) (ae (aa 1) ak))) ⟨[some (vI ns),some (.int (b:Int)),some (.int (n:Int)),none,none,none,none,none,none,none],[]⟩=.next ⟨[some (vI ns),some (.int (b:Int)),some (.int (n:Int)),some (.int hd),none,none,none,none,none,none],[]⟩:=bE (iV (aG (af rfl) (aG (af rfl) (aF _))) eh (by simp) rfl rfl) rfl
 have e5:setM 5 (ao eqD (aQ 3 aK (ae (aa 3) (ae (aq (.int 41)) (ae (aq (.int 6)) ak)))) (aq (.int 0))) ⟨[some (vI ns),some (.int (b:Int)),some (.int (n:Int)),some (.int hd),some (.ptr 0),none,none,none,none,none],[.lst []]⟩=.next ⟨mvR ns b n hd (decide (bN hd 41 6=0)) none none none none,[.lst []]⟩:=bE (aN (fT (af rfl) (aA _ _) (aA _ _) (by decide)) (aA _ _) (nU _ _)) rfl
 generalize decide (bN hd 41 6=0)=w at e5
 obtain⟨cnt,hcnt,c4⟩:∃cnt:Nat,bN hd 40 5%(5-2*(if w=true then 1 else 0))=(cnt:Int)/\cnt<=4:=by
  have h0:(0:Int)<5-2*(if w=true then 1 else 0):=by split <;> decide
  have h6:(5:Int)-2*(if w=true then 1 else 0)<=5:=by split <;> decide
  generalize (5:Int)-2*(if w=true then 1 else 0)=m at h0 h6
  have r0:=Int.emod_nonneg (bN hd 40 5) (show m≠0 by omega)
  have r1:=Int.emod_lt_of_pos (bN hd 40 5) h0
  exact⟨(bN hd 40 5%m).toNat,by omega,by omega⟩
 obtain⟨s1,el1,A1,O1,x6,hl1,hm1,hO1,hs1⟩:=dW (ok:=okC (dZ 0 (cnt:Int)) none) (g:=aB 6) (body:=iQ)
  (λpre s=>∃(A:List (List Int)) (O:au) (x6:Option D),A.length=pre.length/\(∀l∈A,l.length=n/\SzL 50 l)/\O[0]? =some (.lst (A.map vI))/\s=⟨mvR ns b n hd w x6 none none none,O⟩) (λ_ _ _=>trivial) (dZ 0 (cnt:Int)) [] (by
   rintro pre d rest ed s ⟨A,O,x6,h1,h2,h3,rfl⟩
   rw[List.nil_append,eS] at ed
   obtain⟨rfl,hlt⟩:=mD ed
   obtain⟨l,O',eb,h3',ll,lz⟩:=GW (ns:=ns) (b:=b) (k:=pre.length) (hd:=hd) (w:=w) (x7:=none) (x8:=none) (x9:=none) hn h3 (by omega)
   refine⟨_,_,rfl,.inl eb,A++[l],O',_,by simp[h1],λz hz=> ?_,h3',rfl⟩
   rcases List.mem_append.mp hz with q | q
   ·exact h2 z q
   ·rw[List.mem_singleton.mp q];exact⟨ll,lz⟩) ⟨mvR ns b n hd w none none none none,[.lst []]⟩ ⟨[],[.lst []],none,rfl,(λ_ h=>by cases h),rfl,rfl⟩
 rw[List.nil_append,gx] at hl1
 have hl1:A1.length=cnt:=by omega
 have hf1:eR (cY (ae (ao gh (aQ 3 aK (ae (aa 3) (ae (aq (.int 40)) (ae (aq (.int 5)) ak)))) (ao jq (aq (.int 5)) (ao dE (aq (.int 2)) (aW intOf (ae (aa 5) ak))))) ak)) (aB 6) iQ ⟨mvR ns b n hd w none none none none,[.lst []]⟩=.next ⟨mvR ns b n hd w x6 none none none,O1⟩:=by
  refine(dg (ds:=dZ 0 (cnt:Int)) (k:=none) (s1:=⟨mvR ns b n hd w none none none none,[.lst []]⟩) (ee (n:=cnt) ?_ (by omega))).trans (el1.trans (by rw[hs1]))
  rw[<- hcnt]
  refine aG (aN (fT (af rfl) (aA _ _) (aA _ _) (by decide)) (aN (aA _ _) (aN (aA _ _) (d6 (aG (af rfl) (aF _)) (uR _)) (dQ (fq (.inl (by decide))))) (ow _ _)) (fv ?_)) (aF _)
  split <;> decide
 have e7:setM 7 (jm ak) ⟨mvR ns b n hd w x6 none none none,O1⟩=.next ⟨mvR ns b n hd w x6 (some (.ptr O1.length)) none none,O1++[.lst []]⟩:=bE (oa (aF _) (by simp) rfl rfl) rfl
 have k0:O1.length≠0:=by have:=mJ hO1;omega
 have g0:(O1++[Cell.lst []])[0]? =some (.lst (A1.map vI)):=eN hO1
 have gF:(O1++[Cell.lst []])[O1.length]? =some (.lst (([]:List (List Int)).map vI)):=jl
 generalize O1++[Cell.lst []]=O2 at e7 g0 gF
 generalize O1.length=kf at e7 gF k0
 obtain⟨cnt2,hcnt2,c2⟩:∃cnt2:Nat,bN hd 42 3/(1+(if w=true then 1 else 0))=(cnt2:Int)/\cnt2<=2:=by
  have p0:=jH (c:=hd) (t:=42) (m:=3) (by decide)
  have p1:=mf (c:=hd) (t:=42) (m:=3) (by decide)
  cases w with
  | true=>exact⟨(bN hd 42 3/(1+1)).toNat,by simp;omega,by omega⟩
  | false=>exact⟨(bN hd 42 3/(1+0)).toNat,by simp;omega,by omega⟩
 obtain⟨s3,el3,A3,W3,O3,y6,y8,y9,la3,lw3,mv3,hO3,hF3,hs3⟩:=dW (ok:=okC (dZ 0 (cnt2:Int)) none) (g:=aB 6) (body:=iG)
  (λpre s=>∃(A W:List (List Int)) (O:au) (x6 x8 x9:Option D),A.length=cnt+pre.length/\W.length=pre.length/\MvI n (50+12*pre.length) A W/\O[0]? =some (.lst (A.map vI))/\O[kf]? =some (.lst (W.map vI))/\s=⟨mvR ns b n hd w x6 (some (.ptr kf)) x8 x9,O⟩) (λ_ _ _=>trivial) (dZ 0 (cnt2:Int)) [] (by
   rintro pre d rest ed s ⟨A,W,O,x6,x8,x9,h1,h2,h3,h4,h5,rfl⟩
   rw[List.nil_append,eS] at ed
   obtain⟨rfl,hlt⟩:=mD ed
   obtain⟨m,v,O',y8,y9,eb,mv,h4',h5'⟩:=HI (ns:=ns) (b:=b) (k:=pre.length) (hd:=hd) (w:=w) (x8:=x8) (x9:=x9) hn (by omega) (by omega) (by omega) h3 h4 h5 k0
   refine⟨_,_,rfl,.inl eb,A++[m],W++[v],O',_,_,_,by simp[h1];omega,by simp[h2], ?_,h4',h5',rfl⟩
   rw[List.length_append,List.length_singleton]
   exact mv) ⟨mvR ns b n hd w x6 (some (.ptr kf)) none none,O2⟩ ⟨A1,[],O2,_,_,_,by simp[hl1],rfl,⟨λl hl=>(hm1 l hl).1,λl hl=>(hm1 l hl).2,λ_ h=>by cases h⟩,g0,gF,rfl⟩
 rw[List.nil_append,gx] at la3 lw3 mv3
 have mv3:MvI n 90 A3 W3:=⟨mv3.len,λl hl=>(mv3.sz l hl).mono (by omega),mv3.ws⟩
 have hf3:eR (cY (ae (ao gQ (aQ 3 aK (ae (aa 3) (ae (aq (.int 42)) (ae (aq (.int 3)) ak)))) (ao bz (aq (.int 1)) (aW intOf (ae (aa 5) ak)))) ak)) (aB 6) iG ⟨mvR ns b n hd w x6 (some (.ptr kf)) none none,O2⟩=.next ⟨mvR ns b n hd w y6 (some (.ptr kf)) y8 y9,O3⟩:=by
  refine(dg (ds:=dZ 0 (cnt2:Int)) (k:=none) (s1:=⟨mvR ns b n hd w x6 (some (.ptr kf)) none none,O2⟩) (ee (n:=cnt2) ?_ (by omega))).trans (el3.trans (by rw[hs3]))
  rw[<- hcnt2]
  refine aG (aN (fT (af rfl) (aA _ _) (aA _ _) (by decide)) (aN (aA _ _) (d6 (aG (af rfl) (aF _)) (uR _)) (bX _ _)) (qS ?_)) (aF _)
  split <;> decide
 have a3:A3.length<=6:=by omega
 have w3:W3.length<=3:=by omega
 have pk:∀(t:Int) (x7 x8 x9:Option D) (O:au),bj (ao eqD (aQ 3 aK (ae (aa 3) (ae (aq (.int t)) (ae (aq (.int 5)) ak)))) (aq (.int 0))) ⟨mvR ns b n hd w y6 x7 x8 x9,O⟩=.ok (decide (bN hd t 5=0),⟨mvR ns b n hd w y6 x7 x8 x9,O⟩):=λt x7 x8 x9 O=>eq_test (fT (af rfl) (aA _ _) (aA _ _) (by decide))
 have st4:∃(A W:List (List Int)) (O:au) (kg:Nat),ifS (p9 (bj (ao eqD (aQ 3 aK (ae (aa 3) (ae (aq (.int 43)) (ae (aq (.int 5)) ak)))) (aq (.int 0)))) (bj (ao ltD (aW bL (ae (aa 4) ak)) (aq (.int 6))))) (aP (cR (tS (aa 4) (bF 1 [] (cY (ae (aa 2) ak)) (aB 0) bK (aq (.int 0))))) (setM 7 (AN (bF 1 [] (listI (aa 7)) (aB 0) bK (ao bz (kF (ae (aq (.int 0)) ak)) (aa 0))) (kF (ae (kF (ae (aq (.int 1)) ak)) ak))))) cL ⟨mvR ns b n hd w y6 (some (.ptr kf)) y8 y9,O3⟩=.next ⟨mvR ns b n hd w y6 (some (.ptr kg)) y8 y9,O⟩/\MvI n 90 A W/\A.length<=6/\W.length<=4/\O[0]? =some (.lst (A.map vI))/\O[kg]? =some (.lst (W.map vI))/\kg≠0:=by
  have t2:bj (ao ltD (aW bL (ae (aa 4) ak)) (aq (.int 6))) ⟨mvR ns b n hd w y6 (some (.ptr kf)) y8 y9,O3⟩=.ok (decide (((A3.map vI).length:Int)<6),⟨mvR ns b n hd w y6 (some (.ptr kf)) y8 y9,O3⟩):=ft (aN (d6 (aG (af rfl) (aF _)) (qy hO3)) (aA _ _) (lW _ _))
  have ta:=wa (pk 43 (some (.ptr kf)) y8 y9 O3) t2
  cases hb:(decide (bN hd 43 5=0)&&decide (((A3.map vI).length:Int)<6)) with
  | false=>exact⟨A3,W3,O3,kf,gJ ta hb (dy _),mv3,a3,by omega,hO3,hF3,k0⟩
  | true=>
   have hlt:A3.length<6:=by
    have:=(Bool.and_eq_true _ _▸hb).2
    rw[List.length_map] at this
    have:=of_decide_eq_true this
    omega
   have ez:=dJ (l:=List.range n) (item:=λi:Nat=>D.int (i:Int)) (out:=λ_=>.int 0) (caps:=[]) (im:=cY (ae (aa 2) ak)) (e:=aq (.int 0)) (k:=none) (s:=⟨mvR ns b n hd w y6 (some (.ptr kf)) y8 y9,O3⟩) (by
    rw[<- eS]
    exact ee (aG (af rfl) (aF _)) (by omega)) trivial (by simp;omega) (λ_ _=>aA _ _)
   rw[show (List.range n).map (λ_=>D.int 0)=(List.replicate n (0:Int)).map D.int by rw[List.map_replicate];simp[List.map_const']] at ez
   have ei:cR (tS (aa 4) (bF 1 [] (cY (ae (aa 2) ak)) (aB 0) bK (aq (.int 0)))) ⟨mvR ns b n hd w y6 (some (.ptr kf)) y8 y9,O3⟩=.next ⟨mvR ns b n hd w y6 (some (.ptr kf)) y8 y9,O3.set 0 (.lst (vI (List.replicate n (0:Int))::A3.map vI))⟩:=cF (Mg (af rfl) hO3 ez hO3 (by simp;omega) rfl)
   have h0:(O3.set 0 (.lst (vI (List.replicate n (0:Int))::A3.map vI)))[0]? =some (.lst ((List.replicate n 0::A3).map vI)):=eY hO3
   have hF:(O3.set 0 (.lst (vI (List.replicate n (0:Int))::A3.map vI)))[kf]? =some (.lst (W3.map vI)):=by rw[cg (λz=>k0 z.symm)];exact hF3
   generalize O3.set 0 (.lst (vI (List.replicate n (0:Int))::A3.map vI))=O4 at ei h0 hF
   have ew:=dJ (l:=W3) (item:=vI) (out:=λv=>vI (0::v)) (caps:=[]) (im:=listI (aa 7)) (e:=ao bz (kF (ae (aq (.int 0)) ak)) (aa 0)) (k:=some kf) (s:=⟨mvR ns b n hd w y6 (some (.ptr kf)) y8 y9,O4⟩) (jG (af rfl) hF) hF (by omega) (λv hv=>by
    refine aN (tq (aG (aA _ _) (aF _)) (by simp)) (af rfl) ?_
    rw[uJ (by have:=(mv3.ws v hv).le;simp;omega)]
    rfl)
   have O4l:=mJ h0
   refine⟨List.replicate n 0::A3,W3.map (0:: ·)++[[1]],O4++[.lst ((W3.map (0:: ·)++[[1]]).map vI)],O4.length,mw ta hb (aU ei (bE (K8 (a:=W3.map λv=>vI (0::v)) (b:=[vI [1]]) ew (tq (aG (tq (aG (aA _ _) (aF _)) (by simp)) (aF _)) (by simp)) rfl rfl (by simp;omega) rfl ?_) rfl)),mv3.zero,by simp;omega,by simp;omega,eN h0,jl,by omega⟩
   rw[List.map_append,List.map_map]
   rfl
 obtain⟨A4,W4,O4,kg,e4',mv4,a4,w4,h40,h4F,kg0⟩:=st4
 have st5:∃(A:List (List Int)) (O:au),ifS (p9 (bj (ao eqD (aQ 3 aK (ae (aa 3) (ae (aq (.int 44)) (ae (aq (.int 5)) ak)))) (aq (.int 0)))) (bj (lJ ltD ltD (aq (.int 0)) (aW bL (ae (aa 4) ak)) (aq (.int 6))))) (cR (gP (aa 4) (aW iB (ae (ao ixD (aa 4) (unM lH (aq (.int 1)))) ak)))) cL ⟨mvR ns b n hd w y6 (some (.ptr kg)) y8 y9,O4⟩=.next ⟨mvR ns b n hd w y6 (some (.ptr kg)) y8 y9,O⟩/\MvI n 90 A W4/\A.length<=6/\O[0]? =some (.lst (A.map vI))/\O[kg]? =some (.lst (W4.map vI)):=by
  have ta:=wa (pk 44 (some (.ptr kg)) y8 y9 O4) (Fw (i:=4) (R:=mvR ns b n hd w y6 (some (.ptr kg)) y8 y9) rfl h40)
  cases hb:(decide (bN hd 44 5=0)&&(decide (0<(A4.map vI).length)&&decide ((A4.map vI).length<6))) with
  | false=>exact⟨A4,O4,gJ ta hb (dy _),mv4,a4,h40,h4F⟩
  | true=>
   have hlt:0<A4.length/\A4.length<6:=by
    have h1:=(Bool.and_eq_true _ _▸hb).2
    have h2:=Bool.and_eq_true _ _▸h1
    rw[List.length_map] at h2
    exact⟨of_decide_eq_true h2.1,of_decide_eq_true h2.2⟩
   obtain⟨A',m,rfl⟩:∃A' m,A4=A'++[m]:=⟨A4.dropLast,A4.getLast (by intro z;rw[z] at hlt;simp at hlt),(List.dropLast_concat_getLast _).symm⟩
   have hm:m∈A'++[m]:=by simp
   have ex:ixD O4 (.ptr 0) (.int (-1))=.ok (vI m):=by
    refine Fe h40 ?_
    rw[List.map_append]
    unfold atI
    have hx:ixN (A'.map vI++[m].map vI).length (-1)=some A'.length:=by
     have hl:(A'.map vI++[m].map vI).length=A'.length+1:=by simp
     rw[hl]
     unfold ixN
     rw[if_neg (by decide),if_pos (by omega)]
     congr 1
     omega
    rw[hx]
    simp
   have eL:aW iB (ae (ao ixD (aa 4) (unM lH (aq (.int 1)))) ak) ⟨mvR ns b n hd w y6 (some (.ptr kg)) y8 y9,O4⟩=.ok (vI m,⟨mvR ns b n hd w y6 (some (.ptr kg)) y8 y9,O4⟩):=d6 (aG (aN (af rfl) (wb (aA _ _) (qL _)) ex) (aF _)) (o4 _)
   refine⟨A'++[m]++[m],O4.set 0 (.lst ((A'++[m]).map vI++[vI m])),mw ta hb (cF (kZ (af rfl) h40 eL h40 (by rw[List.length_map];omega) rfl)),mv4.more (mv4.len m hm) (mv4.sz m hm) (Nat.le_refl _),by have:=hlt.2;simp at this ⊢;omega,(by have q:(A'++[m]++[m]).map vI=(A'++[m]).map vI++[vI m]:=List.map_append;rw[q];exact eY h40),by rw[cg (λz=>kg0 z.symm)];exact h4F⟩
 obtain⟨A5,O5,e5',mv5,a5,h50,h5F⟩:=st5
 have ep:=zG (l:=W4) (item:=vI) (out:=λv=>vI (v++List.replicate (A5.length-v.length) 0)) (caps:=[4]) (im:=listI (aa 7)) (e:=ao bz (aa 0) (bF 1 [] (cY (ae (ao jq (aW bL (ae (aa 1) ak)) (aW bL (ae (aa 0) ak))) ak)) (aB 0) bK (aq (.int 0)))) (k:=some kg) (s:=⟨mvR ns b n hd w y6 (some (.ptr kg)) y8 y9,O5⟩) (jG (af rfl) h5F) h5F (by omega) (λv hv=>by
  have le:=(mv5.ws v hv).le
  have ez:=dJ (l:=List.range (A5.length-v.length)) (item:=λi:Nat=>D.int (i:Int)) (out:=λ_=>.int 0) (caps:=[]) (im:=cY (ae (ao jq (aW bL (ae (aa 1) ak)) (aW bL (ae (aa 0) ak))) ak)) (e:=aq (.int 0)) (k:=none) (s:=⟨[some (vI v),some (.ptr 0)],O5⟩) (by
   rw[<- eS]
   refine ee (aG (aN (d6 (aG (af rfl) (aF _)) (qy h50)) (d6 (aG (af rfl) (aF _)) (gN _)) ?_) (aF _)) (by omega)
   rw[ow,List.length_map,List.length_map]
   congr 2
   omega) trivial (by simp;omega) (λ_ _=>aA _ _)
  rw[show (List.range (A5.length-v.length)).map (λ_=>D.int 0)=(List.replicate (A5.length-v.length) (0:Int)).map D.int by rw[List.map_replicate];simp[List.map_const']] at ez
  refine aN (af rfl) ez ?_
  rw[uJ (by simp;omega)]
  exact congrArg (λz=>Res.ok (D.lst z)) List.map_append.symm)
 have O5l:=mJ h50
 refine⟨A5,W4.map λv=>v++List.replicate (A5.length-v.length) 0,O5++[.lst ((W4.map λv=>v++List.replicate (A5.length-v.length) 0).map vI)],O5.length, ?_,eN h50,jl,by omega,⟨mv5.len,mv5.sz,λv hv=> ?_⟩,a5,λv hv=> ?_⟩
 ·refine fg (R:=mvR ns b n hd w y6 (some (.ptr kg)) y8 y9) ?_
  show j8 ⟨[some (vI ns),some (.int (b:Int)),some (.int (n:Int)),none,none,none,none,none,none,none],[]⟩=_
  rw[j8]
  rw[show W4.map (λv=>vI (v++List.replicate (A5.length-v.length) 0))=(W4.map λv=>v++List.replicate (A5.length-v.length) 0).map vI by rw[List.map_map];rfl] at ep
  exact aU e3 (aU (bE (oa (aF _) (by simp) rfl rfl) rfl) (aU e5 (aU hf1 (aU e7 (aU hf3 (aU e4' (aU e5' (bR (yF (aG (af rfl) (aG ep (aF _))) (by simp))))))))))
 ·obtain⟨u,hu,rfl⟩:=List.mem_map.mp hv
  have:=mv5.ws u hu
  refine⟨by have:=this.le;simp;omega,λt ht=> ?_,λg hg=>by rw[Hr (JN u _)];exact this.bal g hg⟩
  rcases List.mem_append.mp ht with q | q
  ·exact this.lo t q
  ·rw[(List.mem_replicate.mp q).2];decide
 ·obtain⟨u,hu,rfl⟩:=List.mem_map.mp hv
  have:=(mv5.ws u hu).le
  simp;omega
theorem mot(a b:Int):fX [.int a,.int b] []=.ok (.int (Int.gcd a b:Nat),[]):=Fd a b
theorem DD(ns:List Int):kT [vI ns] []=.ok (.int (cG ns:Nat),[]):=by
 obtain⟨s',e,c,x,h1,h2⟩:=dW (ok:=okC (ns.map D.int) none) (g:=aB 2) (body:=my)
  (λpre s=>∃(ms:List Int) (x:Option D),pre=ms.map D.int/\s=⟨[some (vI ns),some (.int (ms.foldl (λc n=>Nat.gcd c n.natAbs) 0:Nat)),x],[]⟩) (λ_ _ _=>trivial) (ns.map D.int) [] (by
   rintro pre d rest e s ⟨ms,x,rfl,rfl⟩
   have hd:d∈ns.map D.int:=by rw[List.nil_append] at e;rw[e];simp
   obtain⟨m,_,rfl⟩:=List.mem_map.mp hd
   refine⟨_,_,rfl,.inl ?_,ms++[m],some (.int m),by simp,rfl⟩
   simp[my,mot,Int.gcd]) ⟨[some (vI ns),some (.int 0),none],[]⟩ ⟨[],none,rfl,rfl⟩
 rw[List.nil_append] at h1
 have hc:c=ns:=(List.map_inj_right (λa b h=>by cases h;rfl)).mp h1.symm
 subst hc
 have hf:=dg (im:=listI (aa 0)) (g:=aB 2) (body:=my) (s:=⟨[some (vI c),some (.int 0),none],[]⟩) (ds:=c.map D.int) (k:=none) (s1:=⟨[some (vI c),some (.int 0),none],[]⟩) (by simp)
 rw[e] at hf
 have q:=eH (n:=3) (m:=kO) (ds:=[vI c]) (O:=[]) (d:=.int (cG c:Nat)) (s:=s') (by
  show kO ⟨[some (vI c),none,none],[]⟩=_
  rw[kO,CQ]
  rw[show setM 1 (aq (.int 0)) ⟨[some (vI c),none,none],[]⟩=.next ⟨[some (vI c),some (.int 0),none],[]⟩ by simp]
  rw[xO,CQ,hf,xO,h2]
  simp[cG])
 rw[h2] at q
 exact q
theorem Lw{a b:List Int}(hl:a.length<=1000000)(hm:∀p∈a.zip b,IntMulOk p.1 p.2):dM [vI a,vI b] []=.ok (.int (aH a b),[]):=by
 have hz:(a.zip b).length<=1000000:=by rw[List.length_zip];omega
 have hc:=FP (l:=a.zip b) (f:=λp=>.int p.1) (g:=λp=>.int p.2) (out:=λp=>.int (p.1*p.2)) (caps:=[]) (im:=rJ (ae (aa 0) (ae (aa 1) ak))) (e:=ao dE (aa 0) (aa 1)) (k:=none) (s:=⟨[some (vI a),some (vI b)],[]⟩) (by simp[xE]) trivial (by omega) (λp hp=>by
  simp[dQ (hm p hp)])
 rw[show (a.zip b).map (λp=>D.int (p.1*p.2))=(List.zipWith (· * ·) a b).map D.int by rw[<- Jn];simp] at hc
 refine eH (s:=⟨[some (vI a),some (vI b)],[]⟩) ?_
 show fF ⟨[some (vI a),some (vI b)],[]⟩=_
 rw[fF]
 refine bR ?_
 rw[i8,aY,hc,aj,aF,aj,aj]
 dsimp only
 rw[oU,aj]
 rfl
theorem Ef(ns:List Int)(hl:ns.length<=1000000):om [vI ns] []=.ok (.ptr 0,[.lst ((low ns).map D.int)]):=by
 have e1:setM 1 (aQ 1 kT (ae (aa 0) ak)) ⟨[some (vI ns),none],[]⟩=.next ⟨[some (vI ns),some (.int (cG ns:Nat))],[]⟩:=bE (dw (aG (af rfl) (aF _)) (tM _) rfl (DD ns) (by simp)) rfl
 by_cases h:cG ns=0
 ·refine fg (R:=[some (vI ns),some (.int (cG ns:Nat))]) ?_
  show kE ⟨[some (vI ns),none],[]⟩=_
  rw[kE]
  refine aU e1 (yT (mw (eq_test (af rfl)) (decide_eq_true (by omega)) (bR (Kb (af rfl) (Ep _ _) rfl ?_))))
  rw[show low ns=ns by unfold low;rw[if_pos h]]
  rfl
 ·have hc:=zG (l:=ns) (item:=D.int) (out:=λn=>.int (n/(cG ns:Int))) (caps:=[1]) (im:=listI (aa 0)) (e:=ao gQ (aa 0) (aa 1)) (k:=none) (s:=⟨[some (vI ns),some (.int (cG ns:Nat))],[]⟩) (by simp) trivial (by omega) (λa _=>by
   simp[r9 (show (cG ns:Int)≠0 by omega),u0 (show (0:Int)<cG ns by omega)])
  refine fg (R:=[some (vI ns),some (.int (cG ns:Nat))]) ?_
  show kE ⟨[some (vI ns),none],[]⟩=_
  rw[kE]
  refine aU e1 (aU (gJ (eq_test (af rfl)) (decide_eq_false (by omega)) (dy _)) (bR (hc.trans ?_)))
  rw[show (low ns).map D.int=ns.map λn=>.int (n/(cG ns:Int)) by unfold low;rw[if_neg h,List.map_map];rfl]
  rfl
theorem Ey{one other:List Int}{v w:Int}(hl:one.length<=1000000)(h1:∀a∈one,IntMulOk a w)(h2:∀b∈other,IntMulOk b v):lO [vI one,.int v,vI other,.int w] []=.ok (.ptr 0,[.lst ((dh one v other w).map D.int)]):=by
 have hz:(one.zip other).length<=1000000:=by rw[List.length_zip];omega
 have hc:=FP (l:=one.zip other) (f:=λp=>.int p.1) (g:=λp=>.int p.2) (out:=λp=>.int (p.1*w-p.2*v)) (caps:=[1,3]) (im:=rJ (ae (aa 0) (ae (aa 2) ak))) (e:=ao jq (ao dE (aa 0) (aa 3)) (ao dE (aa 1) (aa 2))) (k:=none) (s:=⟨[some (vI one),some (.int v),some (vI other),some (.int w),none],[]⟩) (by simp[xE]) trivial (by omega) (λp hp=>by
  have hp':=List.of_mem_zip hp
  simp[dQ (h1 p.1 hp'.1),dQ (h2 p.2 hp'.2)])
 rw[show (one.zip other).map (λp=>D.int (p.1*w-p.2*v))=(kC one v other w).map D.int by rw[kC,<- zip_map];simp] at hc
 have hll:(kC one v other w).length<=1000000:=by unfold kC;rw[List.length_zipWith];omega
 refine fg (R:=[some (vI one),some (.int v),some (vI other),some (.int w),some (vI (kC one v other w))]) ?_
 show oH ⟨[some (vI one),some (.int v),some (vI other),some (.int w),none],[]⟩=_
 rw[oH]
 exact aU (tm hc) (bR (mj (aG (af rfl) (aF _)) (Ef _ hll) (tM _) rfl (jM _ _) (by
  simp only[List.map_cons,List.map_nil,List.nil_append,nW,mO]
  rfl)))
theorem yQ{O:au}(a b:Nat):orD O (.int (a:Int)) (.int (b:Int))=.ok (.int ((a|||b:Nat):Int)):=by
 have e:Builtin.bitOr (a:Int) (b:Int)=((a|||b:Nat):Int):=by
  unfold Builtin.bitOr Builtin.bitAnd Builtin.bitNot
  rw[decide_eq_false (show ¬(0:Int)<= -(a:Int)-1 by omega),decide_eq_false (show ¬(0:Int)<= -(b:Int)-1 by omega)]
  dsimp only
  rw[show (-(-(a:Int)-1)-1).toNat=a by omega,show (-(-(b:Int)-1)-1).toNat=b by omega]
  omega
 show Res.ok (D.int (Builtin.bitOr (a:Int) (b:Int)))=_
 rw[e]
theorem Hv(a b:Nat):j2 [.int (a:Int),.int (b:Int)] []=.ok (.bl (decide (a|||b=b)),[]):=by
 refine fg (R:=[some (.int (a:Int)),some (.int (b:Int))]) ?_
 show lu ⟨[some (.int (a:Int)),some (.int (b:Int))],[]⟩=_
 rw[lu]
 refine bR (aN (aN (af rfl) (af rfl) (yQ a b)) (af rfl) ?_)
 rw[nU]
 congr 3
 rw[eq_iff_iff]
 omega
abbrev vN(l:List Nat):D:=.lst (l.map λx:Nat=>D.int (x:Int))
theorem Ji(l:List Nat):aM (l.map λx:Nat=>D.int (x:Int))=true:=by
 induction l with
 | nil=>simp
 | cons a l ih=>simp[ih]
theorem G4{a b:Nat}{pl:List Nat}(hl:pl.length<=1000):eW [.int (a:Int),.int (b:Int),vN pl] []=.ok (.bl ((pl.filter λx=>decide (x|||(a|||b)=a|||b)).length == 2),[]):=by
 have hc:=vX (l:=pl) (item:=λx:Nat=>D.int (x:Int)) (out:=λx:Nat=>D.int (x:Int)) (p:=λx=>decide (x|||(a|||b)=a|||b)) (caps:=[3]) (im:=listI (aa 2)) (c:=bj (aQ 2 j2 (ae (aa 0) (ae (aa 1) ak)))) (e:=aa 0) (k:=none) (s:=⟨[some (.int (a:Int)),some (.int (b:Int)),some (vN pl),some (.int ((a|||b:Nat):Int))],[]⟩) (by
  rw[di,af (i:=2) rfl,aj];rfl) trivial (by omega) (λx _=>ft (iV (aG (af rfl) (aG (af rfl) (aF _))) (Hv x (a|||b)) (by simp) rfl (by simp))) (λx _ _=>af rfl)
 refine fg (R:=[some (.int (a:Int)),some (.int (b:Int)),some (vN pl),some (.int ((a|||b:Nat):Int))]) ?_
 show gb ⟨[some (.int (a:Int)),some (.int (b:Int)),some (vN pl),none],[]⟩=_
 rw[gb]
 refine aU (bE (aN (af rfl) (af rfl) (yQ a b)) rfl) (bR (aN (d6 (aG hc (aF _)) (gN _)) (aA _ _) ?_))
 rw[nU,List.length_map]
 congr 2
 rw[Bool.eq_iff_iff,decide_eq_true_eq,beq_iff_eq]
 omega
theorem Em{x:List Int}:i9 [vI x] []=.ok (.int (dc x:Nat),[]):=by
 have go:∀(l:List Int) (b:Nat) (z:Option D),∃z',cS (okC (x.map D.int) none) (aB 2) mZ (l.map D.int) ⟨[some (vI x),some (.int (b:Int)),z],[]⟩=.next ⟨[some (vI x),some (.int ((l.foldl (λb y=>b*2+if 0<y then 1 else 0) b:Nat):Int)),z'],[]⟩:=by
  intro l
  induction l with
  | nil=>intro b z;exact⟨z,by rw[List.map_nil,cS,if_pos (show okC (x.map D.int) none _ from trivial)];rfl⟩
  | cons y l ih=>
   intro b z
   obtain⟨z',e⟩:=ih (b*2+if 0<y then 1 else 0) (some (.int y))
   refine⟨z', ?_⟩
   rw[List.map_cons,List.foldl_cons]
   refine Eq.trans (iA (s1:=⟨[some (vI x),some (.int (b:Int)),some (.int y)],[]⟩) (s2:=⟨[some (vI x),some (.int ((b*2+if 0<y then 1 else 0:Nat):Int)),some (.int y)],[]⟩) trivial rfl ?_) e
   rw[mZ]
   refine aU (bE (R':=[some (vI x),some (.int ((b:Int)*2)),some (.int y)]) (aN (af rfl) (aA _ _) (dQ (fq (.inr (by decide))))) rfl) ?_
   by_cases hy:0<y
   ·refine mw (jO (af rfl)) (decide_eq_true hy) (bE (d:=.int ((b*2+if 0<y then 1 else 0:Nat):Int)) (R:=[some (vI x),some (.int ((b:Int)*2)),some (.int y)]) (aN (af rfl) (aA _ _) ?_) rfl)
    rw[bX,if_pos hy]
    congr 2
   ·refine gJ (jO (af rfl)) (decide_eq_false hy) ((dy _).trans ?_)
    rw[if_neg hy,show ((b*2+0:Nat):Int)=(b:Int)*2 by omega]
 obtain⟨z',e⟩:=go x 0 none
 refine fg (R:=[some (vI x),some (.int (dc x:Nat)),z']) ?_
 show kj ⟨[some (vI x),none,none],[]⟩=_
 rw[kj]
 refine aU (bE (R':=[some (vI x),some (.int ((0:Nat):Int)),none]) (aA _ _) rfl) (aU ?_ (bR (af rfl)))
 exact(dg (im:=listI (aa 0)) (ds:=x.map D.int) (k:=none) (s1:=⟨[some (vI x),some (.int ((0:Nat):Int)),none],[]⟩) (by rw[di,af (i:=0) rfl,aj];rfl)).trans e
theorem tj{α:Type}{O:au}{f:α->D}{l:List α}{i:Nat}{a:α}(h:l[i]? =some a):ixD O (.lst (l.map f)) (.int (i:Int))=.ok (f a):=by
 have hi:i<l.length:=by
  by_cases z:i<l.length
  ·exact z
  ·rw[List.getElem?_eq_none (by omega)] at h;cases h
 refine nR ?_
 rw[qi (by simpa using hi)]
 rw[List.getElem?_eq_getElem hi] at h
 cases h
 simp
structure Wrk(n:Nat)(L:List (Nat×List Int))(row:List Int)(b:Nat):Prop where
 len:∀p∈L,p.2.length=n
 nn:∀p∈L,∀i,0<=nth p.2 i
 few:L.length<64
 rl:row.length=n
 n7:n<=1000
 sz:fH b (L.map (·.2))
 rz:SzL b row
 bb:2*b+20<=60000000
theorem Wrk.dz{n:Nat}{L:List (Nat×List Int)}{row:List Int}{b:Nat}(h:Wrk n L row b){p:Nat×List Int}(hp:p∈L):Sz (b+b+10) (aH row p.2):=sf h.rz (h.sz _ (List.mem_map_of_mem hp)) (by rw[h.rl];exact h.n7)
theorem MR{n:Nat}{L:List (Nat×List Int)}{row:List Int}{b:Nat}(h:Wrk n L row b){p q:Nat×List Int}(hp:p∈L)(hq:q∈L):(((L.map λx=>dc x.2).filter λx=>decide (x|||(dc p.2|||dc q.2)=dc p.2|||dc q.2)).length == 2)=nbB n (L.map (·.2)) p.2 q.2:=by
 unfold nbB
 rw[List.filter_map,List.length_map,List.filter_map,List.length_map]
 congr 2
 refine List.filter_congr λx hx=> ?_
 show decide (dc x.2|||(dc p.2|||dc q.2)=dc p.2|||dc q.2)=subB n x.2 p.2 q.2
 exact bits_sub (h.len x hx) (h.len p hp) (h.len q hq) (h.nn x hx) (h.nn p hp) (h.nn q hq)
structure Iv(L T:List (Nat×List Int))(t:Nat)(O:au):Prop where
 told:O[t]? =some (.lst (bP T))
 l:Sto O L
 s:Sto O T
 tn:∀p∈T,p.1≠t
 ln:∀p∈L,p.1≠t
abbrev mR(L:List (Nat×List Int))(row:List Int)(t:Nat)(ab bl:List Nat)(x7 x8:Option D):List (Option D):=[some (.lst (bP L)),some (vI row),some (.lst (L.map λp=>.int (aH row p.2))),some (vN (L.map λp=>dc p.2)),some (.ptr t),some (vN ab),some (vN bl),x7,x8]
theorem zJ{n:Nat}{L:List (Nat×List Int)}{row:List Int}{b t:Nat}{ab bl:List Nat}(h:Wrk n L row b){qh:(Nat×List Int)×Nat}(hh:L[qh.2]? =some qh.1)(K:List D):∀(Bs:List ((Nat×List Int)×Nat)) (T:List (Nat×List Int)) (O:au) (x8:Option D),(∀q∈Bs,L[q.2]? =some q.1)->T.length+Bs.length<=100000->Iv L T t O->
 ∃T' O' y8,cS (okC K none) (aB 8) fI (Bs.map λq=>D.int (q.2:Int)) ⟨mR L row t ab bl (some (.int (qh.2:Int))) x8,O⟩=.next ⟨mR L row t ab bl (some (.int (qh.2:Int))) y8,O'⟩/\Iv L T' t O'/\T'.length<=T.length+Bs.length/\
  T'.map (·.2)=T.map (·.2)++((Bs.filter λq=>nbB n (L.map (·.2)) qh.1.2 q.1.2).map λq=>dh q.1.2 (aH row q.1.2) qh.1.2 (aH row qh.1.2))
 | [],T,O,x8,_,_,iv=>⟨T,O,x8,by rw[List.map_nil,cS,if_pos (show okC K none _ from trivial)],iv,by simp,by simp⟩
 | q::Bs,T,O,x8,hb,hl,iv=>by
  have hq:=hb q List.mem_cons_self
  have mh:qh.1∈L:=List.mem_of_getElem? hh
  have mq:q.1∈L:=List.mem_of_getElem? hq
  have hb':=λz hz=>hb z (List.mem_cons_of_mem _ hz)
  rw[List.length_cons] at hl
  have tst:bj (aQ 3 eW (ae (ao ixD (aa 3) (aa 7)) (ae (ao ixD (aa 3) (aa 8)) (ae (aa 3) ak)))) ⟨mR L row t ab bl (some (.int (qh.2:Int))) (some (.int (q.2:Int))),O⟩=.ok (nbB n (L.map (·.2)) qh.1.2 q.1.2,⟨mR L row t ab bl (some (.int (qh.2:Int))) (some (.int (q.2:Int))),O⟩):=by
   rw[<- MR h mh mq]
   refine ft (iV (aG (aN (af rfl) (af rfl) (tj (f:=λx:Nat=>D.int (x:Int)) (l:=L.map λp=>dc p.2) (a:=dc qh.1.2) (by rw[List.getElem?_map,hh];rfl))) (aG (aN (af rfl) (af rfl) (tj (f:=λx:Nat=>D.int (x:Int)) (l:=L.map λp=>dc p.2) (a:=dc q.1.2) (by rw[List.getElem?_map,hq];rfl))) (aG (af rfl) (aF _)))) (G4 (by rw[List.length_map];have:=h.few;omega)) ?_ rfl (by simp))
   rw[fK,fK,fK,DR,w8,w8,mV,Ji];rfl
  rw[List.map_cons]
  cases hn:nbB n (L.map (·.2)) qh.1.2 q.1.2 with
  | false=>
   obtain⟨T',O',y8,e,a1,a2,a3⟩:=zJ h hh K Bs T O (some (.int (q.2:Int))) hb' (by omega) iv
   refine⟨T',O',y8, ?_,a1,by rw[List.length_cons];omega,by rw[a3,List.filter_cons_of_neg (by rw[hn];decide)]⟩
   refine Eq.trans (iA (s1:=⟨mR L row t ab bl (some (.int (qh.2:Int))) (some (.int (q.2:Int))),O⟩) (s2:=⟨mR L row t ab bl (some (.int (qh.2:Int))) (some (.int (q.2:Int))),O⟩) trivial rfl ?_) e
   rw[fI]
   exact gJ tst hn (dy _)
  | true=>
   have zq:=h.sz _ (List.mem_map_of_mem (f:=(·.2)) mq)
   have zh:=h.sz _ (List.mem_map_of_mem (f:=(·.2)) mh)
   have off:=Ey (one:=q.1.2) (other:=qh.1.2) (v:=aH row q.1.2) (w:=aH row qh.1.2) (by rw[h.len _ mq];have:=h.n7;omega) (λa ha=>sj (by have:=h.bb;omega) (by have:=h.bb;omega) (zq a ha) (h.dz mh)) (λa ha=>sj (by have:=h.bb;omega) (by have:=h.bb;omega) (zh a ha) (h.dz mq))
   have call:qo 4 lO (ae (ao ixD (aa 0) (aa 8)) (ae (ao ixD (aa 2) (aa 8)) (ae (ao ixD (aa 0) (aa 7)) (ae (ao ixD (aa 2) (aa 7)) ak)))) ⟨mR L row t ab bl (some (.int (qh.2:Int))) (some (.int (q.2:Int))),O⟩=.ok (.ptr O.length,⟨mR L row t ab bl (some (.int (qh.2:Int))) (some (.int (q.2:Int))),O++[.lst ((dh q.1.2 (aH row q.1.2) qh.1.2 (aH row qh.1.2)).map D.int)]⟩):=by
    refine CT (aG (aN (af rfl) (af rfl) (tj (f:=λp:Nat×List Int=>D.ptr p.1) hq)) (aG (aN (af rfl) (af rfl) (tj (f:=λp:Nat×List Int=>D.int (aH row p.2)) hq)) (aG (aN (af rfl) (af rfl) (tj (f:=λp:Nat×List Int=>D.ptr p.1) hh)) (aG (aN (af rfl) (af rfl) (tj (f:=λp:Nat×List Int=>D.int (aH row p.2)) hh)) (aF _))))) (rs:=[vI q.1.2,.int (aH row q.1.2),vI qh.1.2,.int (aH row qh.1.2)]) ?_ off (by simp) rfl rfl ?_ (jM _ _) ?_
    ·simp only[dC,ju,kW (iv.l _ mq),kW (iv.l _ mh),pT,iZ,m9]
    ·simp[sO,sP]
    ·simp
   have iv':Iv L (T++[(O.length,dh q.1.2 (aH row q.1.2) qh.1.2 (aH row qh.1.2))]) t ((O++[Cell.lst ((dh q.1.2 (aH row q.1.2) qh.1.2 (aH row qh.1.2)).map D.int)]).set t (Cell.lst (bP T++[D.ptr O.length]))):=by
    have tl:=mJ iv.told
    have told':(O++[Cell.lst ((dh q.1.2 (aH row q.1.2) qh.1.2 (aH row qh.1.2)).map D.int)])[t]? =some (.lst (bP T)):=eN iv.told
    refine⟨by rw[eY told'];simp[bP],(iv.l.app _).set iv.ln _,λp hp=> ?_,λp hp=> ?_,iv.ln⟩
    ·rcases List.mem_append.mp hp with hp | hp
     ·exact((iv.s.app _).set iv.tn _) p hp
     ·rw[List.mem_singleton.mp hp]
      dsimp only
      rw[cg (by omega)]
      simp
    ·rcases List.mem_append.mp hp with hp | hp
     ·exact iv.tn p hp
     ·rw[List.mem_singleton.mp hp];dsimp only;omega
   obtain⟨T',O',y8,e,a1,a2,a3⟩:=zJ h hh K Bs (T++[(O.length,dh q.1.2 (aH row q.1.2) qh.1.2 (aH row qh.1.2))]) _ (some (.int (q.2:Int))) hb' (by rw[List.length_append,List.length_singleton];omega) iv'
   refine⟨T',O',y8, ?_,a1,by rw[List.length_append,List.length_singleton] at a2;rw[List.length_cons];omega,by rw[a3,List.filter_cons_of_pos (p:=λq:(Nat×List Int)×Nat=>nbB n (L.map (·.2)) qh.1.2 q.1.2) (a:=q) (l:=Bs) hn,List.map_append,List.map_cons,List.append_assoc];rfl⟩
   refine Eq.trans (iA (s1:=⟨mR L row t ab bl (some (.int (qh.2:Int))) (some (.int (q.2:Int))),O⟩) (s2:=⟨mR L row t ab bl (some (.int (qh.2:Int))) (some (.int (q.2:Int))),(O++[Cell.lst ((dh q.1.2 (aH row q.1.2) qh.1.2 (aH row qh.1.2)).map D.int)]).set t (Cell.lst (bP T++[D.ptr O.length]))⟩) trivial rfl ?_) e
   rw[fI]
   exact mw tst hn (cF (kZ (af rfl) iv.told call (eN iv.told) (by rw[List.length_map];omega) rfl))
theorem Cv{n:Nat}{L:List (Nat×List Int)}{row:List Int}{b t:Nat}{ab:List Nat}{Bs:List ((Nat×List Int)×Nat)}(h:Wrk n L row b)(hB:∀q∈Bs,L[q.2]? =some q.1)(hBl:Bs.length<=64)(K:List D):∀(As:List ((Nat×List Int)×Nat)) (T:List (Nat×List Int)) (O:au) (x7 x8:Option D),(∀q∈As,L[q.2]? =some q.1)->T.length+As.length*64<=10000->Iv L T t O->
 ∃T' O' y7 y8,cS (okC K none) (aB 7) iu (As.map λq=>D.int (q.2:Int)) ⟨mR L row t ab (Bs.map (·.2)) x7 x8,O⟩=.next ⟨mR L row t ab (Bs.map (·.2)) y7 y8,O'⟩/\Iv L T' t O'/\
  T'.map (·.2)=T.map (·.2)++As.flatMap λa=>(Bs.filter λq=>nbB n (L.map (·.2)) a.1.2 q.1.2).map λq=>dh q.1.2 (aH row q.1.2) a.1.2 (aH row a.1.2)
 | [],T,O,x7,x8,_,_,iv=>⟨T,O,x7,x8,by rw[List.map_nil,cS,if_pos (show okC K none _ from trivial)],iv,by simp⟩
 | a::As,T,O,x7,x8,hA,hl,iv=>by
  rw[List.length_cons] at hl
  obtain⟨T1,O1,y8,e1,i1,l1,m1⟩:=zJ (ab:=ab) (bl:=Bs.map (·.2)) h (hA a List.mem_cons_self) ((Bs.map (·.2)).map λx:Nat=>D.int (x:Int)) Bs T O x8 hB (by omega) iv
  obtain⟨T2,O2,z7,z8,e2,i2,m2⟩:=Cv (ab:=ab) h hB hBl K As T1 O1 (some (.int (a.2:Int))) y8 (λq hq=>hA q (List.mem_cons_of_mem _ hq)) (by omega) i1
  refine⟨T2,O2,z7,z8, ?_,i2,by rw[m2,m1,List.flatMap_cons,List.append_assoc]⟩
  rw[List.map_cons]
  refine Eq.trans (iA (s1:=⟨mR L row t ab (Bs.map (·.2)) (some (.int (a.2:Int))) x8,O⟩) (s2:=⟨mR L row t ab (Bs.map (·.2)) (some (.int (a.2:Int))) y8,O1⟩) trivial rfl ?_) e2
  rw[iu]
  refine(dg (im:=listI (aa 6)) (ds:=(Bs.map (·.2)).map λx:Nat=>D.int (x:Int)) (k:=none) (s1:=⟨mR L row t ab (Bs.map (·.2)) (some (.int (a.2:Int))) x8,O⟩) (by rw[di,af (i:=6) rfl,aj];rfl)).trans ?_
  rw[List.map_map] at e1 ⊢
  exact e1
theorem IX {α:Type} {caps:List Nat} {im:IM} {c:TM} {e:EM} {s:S} {k:Option Nat} {l:List α} {p:α->Bool} {out:α->D} {f g:α->D} (him:im s=.ok ((l.map (λa=>D.tup [f a,g a]),k),s)) (hok:okC (l.map (λa=>D.tup [f a,g a])) k s.o) (hl:l.length<=16777216)
 (hc:∀a∈l,c ⟨some (f a)::some (g a)::caps.map (λi=>(s.r[i]?).getD none),s.o⟩=.ok (p a,⟨some (f a)::some (g a)::caps.map (λi=>(s.r[i]?).getD none),s.o⟩))
 (he:∀a∈l,p a=true->e ⟨some (f a)::some (g a)::caps.map (λi=>(s.r[i]?).getD none),s.o⟩=.ok (out a,⟨some (f a)::some (g a)::caps.map (λi=>(s.r[i]?).getD none),s.o⟩)):
 nL 2 caps im (dG (ba (aB 0) (ba (aB 1) dO)) 2) c e s=.ok (.ptr s.o.length,⟨s.r,s.o++[.lst ((l.filter p).map out)]⟩):=by
 rw[Ao,Bn him hok hl hc he,aj]
theorem GS{α:Type}(f g:α->D):∀l:List α,oI (l.map f) (l.map g)=l.map λa=>.tup [f a,g a]:=λl=>by
 unfold oI
 rw[List.zipWith_map,List.zipWith_self]
theorem zK{α:Type}(p:α->Bool)(l:List α):(l.zipIdx.filter λq=>p q.1).map (·.1)=l.filter p:=by
 have h:(l.zipIdx.map (·.1))=l:=by simp
 conv=>rhs;rw[<- h,List.filter_map]
 rfl
theorem Jl{n:Nat}{L:List (Nat×List Int)}{row:List Int}{b:Nat}{O:au}(h:Wrk n L row b)(hs:Sto O L):∃L' O',fk [.lst (bP L),vI row] O=.ok (.lst (bP L'),O')/\L'.map (·.2)=dP n (L.map (·.2)) row/\Sto O' L':=by
 have few:=h.few
 have dz:∀p∈L,dM [vI row,vI p.2] []=.ok (.int (aH row p.2),[]):=λp hp=>Lw (by rw[h.rl];have:=h.n7;omega) λq hq=>sj (by have:=h.bb;omega) (by have:=h.bb;omega) (h.rz _ (List.of_mem_zip hq).1) (h.sz _ (List.mem_map_of_mem hp) _ (List.of_mem_zip hq).2)
 have v2:=dJ (l:=L) (item:=λp=>.ptr p.1) (out:=λp=>.int (aH row p.2)) (caps:=[1]) (im:=listI (aa 0)) (e:=iy 2 dM (ae (aa 1) (ae (aa 0) ak))) (k:=none) (s:=⟨[some (.lst (bP L)),some (vI row),none,none,none,none,none,none,none],O⟩) (by rw[di,af (i:=0) rfl,aj];rfl) trivial (by omega)
  (λp hp=>wy (aG (af rfl) (aG (af rfl) (aF _))) (rs:=[vI row,vI p.2]) (by simp only[dC,ju,kW (hs p hp),iZ,m9]) (dz p hp) (by simp) rfl rfl)
 have v3:=dJ (l:=L) (item:=λp=>.ptr p.1) (out:=λp=>.int (dc p.2:Nat)) (caps:=[]) (im:=listI (aa 0)) (e:=iy 1 i9 (ae (aa 0) ak)) (k:=none) (s:=⟨[some (.lst (bP L)),some (vI row),some (.lst (L.map λp=>.int (aH row p.2))),none,none,none,none,none,none],O⟩) (by rw[di,af (i:=0) rfl,aj];rfl) trivial (by omega)
  (λp hp=>wy (aG (af rfl) (aF _)) (rs:=[vI p.2]) (by simp only[dC,ju,kW (hs p hp),iZ,m9]) Em (by simp) rfl rfl)
 rw[show (L.map λp=>D.int (dc p.2:Nat))=(L.map λp=>dc p.2).map (λx:Nat=>D.int (x:Int)) by rw[List.map_map];rfl] at v3
 have v4:=IX (l:=L) (f:=λp=>.ptr p.1) (g:=λp=>.int (aH row p.2)) (p:=λp=>decide (aH row p.2=0)) (out:=λp=>.ptr p.1) (caps:=[]) (im:=rJ (ae (aa 0) (ae (aa 2) ak))) (c:=bj (ao eqD (aa 1) (aq (.int 0)))) (e:=aa 0) (k:=none) (s:=⟨[some (.lst (bP L)),some (vI row),some (.lst (L.map λp=>.int (aH row p.2))),some (vN (L.map λp=>dc p.2)),none,none,none,none,none],O⟩) (by
  rw[JZ,aY,af (i:=0) rfl,aj]
  dsimp only
  rw[aY,af (i:=2) rfl,aj]
  dsimp only
  rw[aF,aj,aj,aj]
  dsimp only
  rw[GS]) trivial (by omega) (λp _=>ft (aN (af rfl) (aA _ _) (nU _ _))) (λp _ _=>af rfl)
 have enum:∀(R:List (Option D)) (P:au),R[2]? =some (some (.lst (L.map λp=>.int (aH row p.2))))->dk (ae (aa 2) ak) ⟨R,P⟩=.ok ((L.zipIdx.map λq=>D.tup [.int (q.2:Int),.int (aH row q.1.2)],none),⟨R,P⟩):=λR P hR=>by
  rw[ky,aY,af (i:=2) hR,aj]
  dsimp only
  rw[aF,aj,aj]
  dsimp only
  rw[show dU (L.map λp=>D.int (aH row p.2))=L.zipIdx.map λq=>D.tup [.int (q.2:Int),.int (aH row q.1.2)] by
   unfold dU
   rw[List.mapIdx_eq_zipIdx_map,List.zipIdx_map,List.map_map]
   rfl]
 have zl:L.zipIdx.length=L.length:=by simp
 have vn:∀Z:List ((Nat×List Int)×Nat),(Z.map λq=>D.int (q.2:Int))=(Z.map (·.2)).map λx:Nat=>D.int (x:Int):=λZ=>by rw[List.map_map];rfl
 have v5:=Cw (l:=L.zipIdx) (f:=λq=>.int (q.2:Int)) (g:=λq=>.int (aH row q.1.2)) (p:=λq=>decide (0<aH row q.1.2)) (out:=λq=>.int (q.2:Int)) (caps:=[]) (im:=dk (ae (aa 2) ak)) (c:=bj (ao gtD (aa 1) (aq (.int 0)))) (e:=aa 0) (k:=none) (s:=⟨[some (.lst (bP L)),some (vI row),some (.lst (L.map λp=>.int (aH row p.2))),some (vN (L.map λp=>dc p.2)),some (.ptr O.length),none,none,none,none],O++[.lst ((L.filter λp=>decide (aH row p.2=0)).map λp=>.ptr p.1)]⟩) (enum _ _ rfl) trivial (by omega) (λq _=>ft (aN (af rfl) (aA _ _) (CO _ _))) (λq _ _=>af rfl)
 generalize hA:(L.zipIdx.filter λq=>decide (0<aH row q.1.2))=As at v5
 rw[vn] at v5
 have v6:=Cw (l:=L.zipIdx) (f:=λq=>.int (q.2:Int)) (g:=λq=>.int (aH row q.1.2)) (p:=λq=>decide (aH row q.1.2<0)) (out:=λq=>.int (q.2:Int)) (caps:=[]) (im:=dk (ae (aa 2) ak)) (c:=bj (ao ltD (aa 1) (aq (.int 0)))) (e:=aa 0) (k:=none) (s:=⟨[some (.lst (bP L)),some (vI row),some (.lst (L.map λp=>.int (aH row p.2))),some (vN (L.map λp=>dc p.2)),some (.ptr O.length),some (vN (As.map (·.2))),none,none,none],O++[.lst ((L.filter λp=>decide (aH row p.2=0)).map λp=>.ptr p.1)]⟩) (enum _ _ rfl) trivial (by omega) (λq _=>ft (aN (af rfl) (aA _ _) (lW _ _))) (λq _ _=>af rfl)
 generalize hB:(L.zipIdx.filter λq=>decide (aH row q.1.2<0))=Bs at v6
 rw[vn] at v6
 have at_:∀q∈L.zipIdx,L[q.2]? =some q.1:=λq hq=>List.mem_zipIdx_iff_getElem?.mp hq
 have mA:∀q∈As,L[q.2]? =some q.1:=λq hq=>at_ q (by rw[<- hA] at hq;exact(List.mem_filter.mp hq).1)
 have mB:∀q∈Bs,L[q.2]? =some q.1:=λq hq=>at_ q (by rw[<- hB] at hq;exact(List.mem_filter.mp hq).1)
 have lA:As.length<=L.length:=by rw[<- hA,<- zl];exact List.length_filter_le _ _
 have lB:Bs.length<=L.length:=by rw[<- hB,<- zl];exact List.length_filter_le _ _
 have sub:∀p∈L.filter (λp=>decide (aH row p.2=0)),p∈L:=λp hp=>(List.mem_filter.mp hp).1
 have lT:(L.filter λp=>decide (aH row p.2=0)).length<=L.length:=List.length_filter_le _ _
 have iv:Iv L (L.filter λp=>decide (aH row p.2=0)) O.length (O++[.lst ((L.filter λp=>decide (aH row p.2=0)).map λp=>.ptr p.1)]):=⟨by simp,hs.app _,λp hp=>(hs.app _) p (sub p hp),λp hp=>Nat.ne_of_lt (hs.lt (sub p hp)),λp hp=>Nat.ne_of_lt (hs.lt hp)⟩
 obtain⟨T',O',y7,y8,e7,i7,m7⟩:=Cv (ab:=As.map (·.2)) h mB (by omega) ((As.map (·.2)).map λx:Nat=>D.int (x:Int)) As _ _ none none mA (by omega) iv
 refine⟨T',O'.set O.length .dead, ?_, ?_,i7.s.set i7.tn _⟩
 ·refine fg (R:=mR L row O.length (As.map (·.2)) (Bs.map (·.2)) y7 y8) ?_
  show fo ⟨[some (.lst (bP L)),some (vI row),none,none,none,none,none,none,none],O⟩=_
  rw[fo]
  refine aU (bE v2 rfl) (aU (bE v3 rfl) (aU (bE v4 rfl) (aU (bE v5 rfl) (aU (bE v6 rfl) (aU ?_ (bR (qv (af rfl) i7.told rfl)))))))
  refine(dg (im:=listI (aa 5)) (ds:=(As.map (·.2)).map λx:Nat=>D.int (x:Int)) (k:=none) (s1:=⟨mR L row O.length (As.map (·.2)) (Bs.map (·.2)) none none,O++[.lst ((L.filter λp=>decide (aH row p.2=0)).map λp=>.ptr p.1)]⟩) (by rw[di,af (i:=5) rfl,aj];rfl)).trans ?_
  rw[<- vn]
  exact e7
 ·rw[m7]
  unfold dP
  rw[List.filter_map,List.filter_map,List.filter_map]
  have eA:=zK (λp:Nat×List Int=>decide (0<aH row p.2)) L
  have eB:=zK (λp:Nat×List Int=>decide (aH row p.2<0)) L
  rw[hA] at eA
  rw[hB] at eB
  show _=(L.filter λp=>decide (aH row p.2=0)).map (·.2)++((L.filter λp:Nat×List Int=>decide (0<aH row p.2)).map (·.2)).flatMap λh=>(((L.filter λp:Nat×List Int=>decide (aH row p.2<0)).map (·.2)).filter λw=>nbB n (L.map (·.2)) h w).map λw=>dh w (aH row w) h (aH row h)
  rw[<- eA,<- eB]
  congr 1
  rw[List.flatMap_map,List.flatMap_map]
  refine congrArg (λF=>As.flatMap F) (funext λa=> ?_)
  rw[List.map_map,List.filter_map,List.map_map]
  rfl
theorem Eo {α:Type} {l:List α} {item:α->D} {f:α->List Int} {T:α->Nat->Prop} {caps:List Nat} {im:IM} {e:EM} {k:Option Nat} {R:List (Option D)} {O:au} (I:au->Prop) (hI:∀O E,I O->I (O++E)) (h0:I O) (him:im ⟨R,O⟩=.ok ((l.map item,k),⟨R,O⟩)) (hok:∀O,I O->okC (l.map item) k O) (hl:l.length<=1000000)
 (he:∀a∈l,∀O,I O->∃q E,e ⟨some (item a)::caps.map (λi=>(R[i]?).getD none),O⟩=.ok (.ptr q,⟨some (item a)::caps.map (λi=>(R[i]?).getD none),O++E⟩)/\(O++E)[q]? =some (.lst ((f a).map D.int))/\(T a q\/O.length<=q)):
 ∃(L:List (Nat×List Int)) (E:au),bF 1 caps im (aB 0) bK e ⟨R,O⟩=.ok (.lst (bP L),⟨R,O++E⟩)/\L.map (·.2)=l.map f/\Sto (O++E) L:=by
 obtain⟨L,E,x',e1,e2,e3,e4⟩:=vy (ok:=okC (l.map item) k) (e:=e) (cap:=caps.map (λi=>(R[i]?).getD none)) (T:=T) I hI hok l [] none O h0 (by simp;omega) he
 refine⟨L,E, ?_,e2,e3⟩
 rw[oR,uE,him,aj]
 dsimp only
 rw[show qO 1 caps R=none::caps.map (λi=>(R[i]?).getD none) from rfl,e1,aj,aj]
 rfl
theorem Kl{n a:Nat}(ha:a<n)(hn:n<=1000000):pK [.int (a:Int),.int (n:Int)] []=.ok (.ptr 0,[.lst ((fu n a).map D.int)]):=by
 have h1:=tm (i:=2) (Eq.trans (MT (fin:=rj) (mk:=aa 1) (s:=⟨[some (.int (a:Int)),some (.int (n:Int)),none],[]⟩) (n:=n) (by simp) hn) (CW _ _))
 have h2:m5 (aq (.int 1)) (zU (aa 2) (aa 0)) ⟨[some (.int (a:Int)),some (.int (n:Int)),some (.ptr 0)],[.lst ((List.replicate n (0:Int)).map D.int)]⟩=.next ⟨[some (.int (a:Int)),some (.int (n:Int)),some (.ptr 0)],[.lst ((fu n a).map D.int)]⟩:=by
  rw[C5,aA,aj,HB (k:=0) (a:=a) (ds:=(List.replicate n (0:Int)).map D.int) (s1:=⟨[some (.int (a:Int)),some (.int (n:Int)),some (.ptr 0)],[.lst ((List.replicate n (0:Int)).map D.int)]⟩) (s2:=⟨[some (.int (a:Int)),some (.int (n:Int)),some (.ptr 0)],[.lst ((List.replicate n (0:Int)).map D.int)]⟩) (by simp) (by simp) rfl (by simpa using ha)]
  simp[fu,List.map_set]
 refine fg (R:=[some (.int (a:Int)),some (.int (n:Int)),some (.ptr 0)]) ?_
 show sG ⟨[some (.int (a:Int)),some (.int (n:Int)),none],[]⟩=_
 rw[sG,dX h1]
 exact aU h2 (bR (af rfl))
theorem GG{n:Nat}(hn:n<=1000)(O:au):∃L E,p6 [.int (n:Int)] O=.ok (.lst (bP L),O++E)/\L.map (·.2)=dj n/\Sto (O++E) L:=by
 obtain⟨L,E,e,h1,h2⟩:=Eo (l:=List.range n) (item:=λi:Nat=>D.int (i:Int)) (f:=fu n) (T:=λ_ _=>False) (caps:=[0]) (im:=cY (ae (aa 0) ak)) (e:=gc 2 pK (ae (aa 0) (ae (aa 1) ak))) (k:=none) (R:=[some (.int (n:Int))]) (O:=O) (λ_=>True) (λ_ _ _=>trivial) trivial (by
  rw[ee (n:=n) (s1:=⟨[some (.int (n:Int))],O⟩) (aG (af rfl) (aF _)) (by omega),eS]) (λ_ _=>trivial) (by rw[List.length_range];omega) (λa ha P _=>
  ⟨P.length,[.lst ((fu n a).map D.int)],mj (aG (af rfl) (aG (af rfl) (aF _))) (Kl (List.mem_range.mp ha) (by omega)) (by simp) rfl (jM _ _) (by simp),by simp,.inr (Nat.le_refl _)⟩)
 refine⟨L,E, ?_,h1,h2⟩
 refine fg (R:=[some (.int (n:Int))]) ?_
 show pU ⟨[some (.int (n:Int))],O⟩=_
 rw[pU]
 exact bR e
theorem vd{O:au}:∀{L:List (Nat×List Int)},Sto O L->keyed O (bP L)=some (L.map λp=>(.ptr p.1,p.2))
 | [],_=>rfl
 | p::L,h=>by
  have e:=vd (L:=L) λq hq=>h q (List.mem_cons_of_mem _ hq)
  have c:mH O (.ptr p.1)=some p.2:=by
   unfold mH
   rw[nX (h p List.mem_cons_self)]
   exact nv _
  show keyed O (.ptr p.1::bP L)=_
  unfold keyed
  rw[c,e]
  rfl
theorem Ew(L:List (Nat×List Int)):(d7 (L.map λp=>(D.ptr p.1,p.2))).map (·.1)=bP (d7 L):=by
 rw[kN (g:=λp:Nat×List Int=>(D.ptr p.1,p.2)) λ_=>rfl,List.map_map]
 rfl
theorem uT{O:au}{L:List (Nat×List Int)}{fin:S->List D->Res (D×S)}{me:EM}{s s1:S}{d:D}(he:me s=.ok (d,s1))(hd:lsD s1.o d=some (bP L))(hs:Sto s1.o L)(hl:L.length<64)(nd:(L.map (·.2)).Nodup):lj fin me s=fin s1 (bP (d7 L)):=by
 unfold lj
 rw[he,aj]
 dsimp only
 rw[hd]
 dsimp only
 rw[vd hs]
 dsimp only
 rw[if_pos ⟨by rw[List.length_map];exact hl,by rw[List.map_map];exact nd⟩,Ew]
def mx(V:List (List Int)):List (List Int):=(d7 (V.map λx=>((),x))).map (·.2)
theorem xG(L:List (Nat×List Int)):(d7 L).map (·.2)=mx (L.map (·.2)):=by
 unfold mx
 rw[List.map_map,show ((λx:List Int=>((),x))∘λx:Nat×List Int=>x.2)=λp:Nat×List Int=>((),p.2) from rfl,kN (g:=λp:Nat×List Int=>((),p.2)) λ_=>rfl,List.map_map]
 rfl
theorem EC(n:Nat):fH 1 (dj n):=λx hx=>by
 unfold dj at hx
 obtain⟨a,_,rfl⟩:=List.mem_map.mp hx
 exact C2 n a
structure AA(n:Nat)(rows:List (List Int)):Prop where
 len:∀r∈rows,r.length=n
 sz:fH 200 rows
 cnt:rows.length<=5
 n7:n<=7
theorem big:sS 200 5 1<=8000:=by decide
theorem yW{n:Nat}{rows:List (List Int)}(h:AA n rows){rs:List (List Int)}(hr:∀r∈rs,r∈rows)(hl:rs.length<=5):fH 8000 (rs.foldl (dP n) (dj n)):=by
 refine(AO rs 1 _ (λr hr'=>⟨h.sz r (hr r hr'),by rw[h.len r (hr r hr')];have:=h.n7;omega⟩) (EC n)).mono ?_
 exact Nat.le_trans (xB 200 rs.length 5 1 hl) big
theorem Jz{n:Nat}{rows:List (List Int)}(h:AA n rows):∃k O Ls,rQ [vII rows,.int (n:Int)] []=.ok (.ptr k,O)/\O[k]? =some (.lst (bP Ls))/\Sto O Ls/\(∀p∈Ls,p.1≠k)/\Ls=d7 Ls/\Ls.map (·.2)=mx (oB rows n):=by
 have n7:=h.n7
 obtain⟨L0,E0,e0,m0,s0⟩:=GG (n:=n) (by omega) []
 rw[List.nil_append] at e0 s0
 obtain⟨s',el,rs,L,O,x3,hpre,hs',sto,ml⟩:=dW (ok:=okC (rows.map vI) none) (g:=aB 3) (body:=uz)
  (λpre s=>∃(rs:List (List Int)) (L:List (Nat×List Int)) (O:au) (x3:Option D),pre=rs.map vI/\s=⟨[some (vII rows),some (.int (n:Int)),some (.lst (bP L)),x3],O⟩/\Sto O L/\L.map (·.2)=rs.foldl (dP n) (dj n)) (λ_ _ _=>trivial) (rows.map vI) [] (by
   rintro pre d rest ed s ⟨rs,L,O,x3,rfl,rfl,sto,ml⟩
   rw[List.nil_append] at ed
   obtain⟨l1,l2,e1,e2,e3⟩:=List.map_eq_append_iff.mp ed
   cases l2 with
   | nil=>cases e3
   | cons r l2=>
    rw[List.map_cons] at e3
    injection e3 with e3 e4
    subst e3
    have e5:l1=rs:=(List.map_inj_right (λa b h=>by
     have:a.map D.int=b.map D.int:=by injection h
     exact(List.map_inj_right (λx y q=>by cases q;rfl)).mp this)).mp e2
    subst e5
    have inR:∀q∈l1,q∈rows:=λq hq=>by rw[e1];exact List.mem_append_left _ hq
    have rR:r∈rows:=by rw[e1];simp
    have k:jo n l1 (oB l1 n):=rh λq hq=>h.len q (inR q hq)
    have cl:l1.length<=5:=by have:=h.cnt;rw[e1,List.length_append] at this;omega
    have mem:∀p∈L,cT n l1 p.2:=λp hp=>(k.all p.2).mp (by
     show p.2∈l1.foldl (dP n) (dj n)
     rw[<- ml];exact List.mem_map_of_mem hp)
    have wk:Wrk n L r 8000:=⟨λp hp=>(mem p hp).fit.len,λp hp=>(mem p hp).fit.nn,by
     have:=k.few n7
     have e:L.length=(oB l1 n).length:=by show _=(l1.foldl (dP n) (dj n)).length;rw[<- ml,List.length_map]
     omega,h.len r rR,by omega,by rw[ml];exact yW h inR cl,(h.sz r rR).mono (by decide),by decide⟩
    obtain⟨L',O',e6,m6,s6⟩:=Jl wk sto
    refine⟨⟨[some (vII rows),some (.int (n:Int)),some (.lst (bP L)),some (vI r)],O⟩,⟨[some (vII rows),some (.int (n:Int)),some (.lst (bP L')),some (vI r)],O'⟩,rfl,.inl ?_,l1++[r],L',O',_,by simp,rfl,s6,by rw[m6,ml,List.foldl_append];rfl⟩
    rw[uz]
    exact bE (Co (aG (af rfl) (aG (af rfl) (aF _))) e6 rfl) rfl) ⟨[some (vII rows),some (.int (n:Int)),some (.lst (bP L0)),none],E0⟩ ⟨[],L0,E0,none,rfl,rfl,s0,m0⟩
 rw[List.nil_append] at hpre
 have e5:rows=rs:=(List.map_inj_right (λa b h=>by
  have:a.map D.int=b.map D.int:=by injection h
  exact(List.map_inj_right (λx y q=>by cases q;rfl)).mp this)).mp hpre
 subst e5
 subst hs'
 have k:jo n rows (oB rows n):=rh h.len
 have ml':L.map (·.2)=oB rows n:=ml
 have nd:(L.map (·.2)).Nodup:=by rw[ml'];exact k.nd
 have few:L.length<64:=by have:=k.few n7;rw[<- ml',List.length_map] at this;exact this
 have so:lj rj (aa 2) ⟨[some (vII rows),some (.int (n:Int)),some (.lst (bP L)),x3],O⟩=.ok (.ptr O.length,⟨[some (vII rows),some (.int (n:Int)),some (.lst (bP L)),x3],O++[.lst (bP (d7 L))]⟩):=(uT (O:=O) (fin:=rj) (af rfl) rfl sto few nd).trans (CW _ _)
 have mem:∀p∈d7 L,p∈L:=λp hp=>(gD L).mem_iff.mp hp
 refine⟨O.length,O++[.lst (bP (d7 L))],d7 L, ?_,by simp,λp hp=>(sto.app _) p (mem p hp),λp hp=>Nat.ne_of_lt (sto.lt (mem p hp)), ?_,by rw[xG,ml']⟩
 ·refine fg (R:=[some (vII rows),some (.int (n:Int)),some (.lst (bP L)),x3]) ?_
  show sv ⟨[some (vII rows),some (.int (n:Int)),none,none],[]⟩=_
  rw[sv]
  refine aU (bE (Co (aG (af rfl) (aF _)) e0 rfl) rfl) (aU ?_ (bR so))
  exact(dg (im:=listI (aa 0)) (ds:=rows.map vI) (k:=none) (s1:=⟨[some (vII rows),some (.int (n:Int)),some (.lst (bP L0)),none],E0⟩) (by rw[di,af (i:=0) rfl,aj];rfl)).trans el
 ·refine uy (gD _).symm ?_ (nH L) (nH _)
  exact((gD L).map (·.2)).nodup_iff.mpr nd
theorem Ij(A:List (List Int)){d:D}(h:cK d=true):aM [vII A,d]=true:=by
 rw[fK,fK,mV,mW,h]
 rfl
theorem rN{O:au}:∀{L:List (Nat×List Int)},Sto O L->bA O (bP L)=(L.map (·.2)).map vI
 | [],_=>by simp
 | p::L,h=>by
  have e:=rN (L:=L) λq hq=>h q (List.mem_cons_of_mem _ hq)
  have hp:=h p List.mem_cons_self
  show bA O (.ptr p.1::bP L)=_
  rw[dC,e,kW hp]
  rfl
theorem Gp{O:au}{k:Nat}{L:List (Nat×List Int)}(hk:O[k]? =some (.lst (bP L)))(h:Sto O L):res O (res O (.ptr k))=vII (L.map (·.2)):=by
 rw[kW hk,iZ,rN h]
theorem Hm{O:au}{L:List (Nat×List Int)}(h:Sto O L)(A:List (List Int)):eqD O (.lst (bP L)) (vII A)=.ok (.bl (decide (L.map (·.2)=A))):=by
 have e:eqB O (.lst (bP L)) (vII A)=eqB O (vII (L.map (·.2))) (vII A):=by
  show fS O _ _=fS O _ _
  unfold fS
  rw[iZ,rN h]
  have q:res O (vII (L.map (·.2)))=vII (L.map (·.2)):=by rw[iZ,tL]
  rw[q,q]
 unfold eqD
 rw[e,CA]
theorem CP(n:Nat):∀L:List (Nat×List Int),fD n (bP L)=bP (L.map λp=>(n+p.1,p.2))
 | []=>by simp[fD]
 | p::L=>by
  show fD n (.ptr p.1::bP L)=_
  unfold fD
  rw[CP n L,jM]
  rfl
theorem zp{O S:au}{L:List (Nat×List Int)}(h:Sto O L):Sto (S++O.map (shC S.length)) (L.map λp=>(S.length+p.1,p.2)):=λq hq=>by
 obtain⟨p,hp,rfl⟩:=List.mem_map.mp hq
 dsimp only
 rw[List.getElem?_append_right (by omega),Nat.add_sub_cancel_left,List.getElem?_map,h p hp]
 simp
theorem wB{O S:au}{k:Nat}{L:List (Nat×List Int)}(h:O[k]? =some (.lst (bP L))):(S++O.map (shC S.length))[S.length+k]? =some (.lst (bP (L.map λp=>(S.length+p.1,p.2)))):=by
 rw[List.getElem?_append_right (by omega),Nat.add_sub_cancel_left,List.getElem?_map,h]
 simp only[Option.map_some,nW,CP]
theorem Dg{O:au}{k:Nat}{r:List Int}(h:O[k]? =some (.lst (r.map D.int))):iB O [.ptr k]=.ok (vI r):=by
 unfold iB
 simp only[nX h]
theorem CG {body:SM} {g:GM} (mk:Option D->au->S) (hmk:∀x O,(mk x O).o=O) {d:Nat} {L:List (Nat×List Int)} (hd:∀p∈L,p.1≠d)
 (hg:∀y x O,g (.ptr y) (mk x O)=.ok (mk (some (.ptr y)) O)) (hb:∀y O xs,O[y]? =some (.lst xs)->xs.length<=1000000->body (mk (some (.ptr y)) O)=.next (mk (some (.ptr y)) (O.set y (.lst (xs++[.int 1]))))):
 ∀(rest:List (Nat×List Int)) (m:Nat) (x:Option D) (O:au),(∀p∈rest,p∈L)->m+rest.length<=1000->O[d]? =some (.lst (bP L))->(∀p∈L,∃xs,O[p.1]? =some (.lst xs)/\xs.length<=1000+m)->
 ∃x' O',cS (okC (bP L) (some d)) g body (bP rest) (mk x O)=.next (mk x' O')/\O'[d]? =some (.lst (bP L))
 | [],m,x,O,_,_,h,_=>⟨x,O,by show cS _ _ _ [] _=_;rw[cS,if_pos (by rw[hmk];exact h)],h⟩
 | p::rest,m,x,O,hsub,hm,h,hc=>by
  have hp:=hsub p List.mem_cons_self
  obtain⟨xs,h1,h2⟩:=hc p hp
  rw[List.length_cons] at hm
  obtain⟨x',O',e,h3⟩:=CG mk hmk hd hg hb rest (m+1) (some (.ptr p.1)) (O.set p.1 (.lst (xs++[.int 1]))) (λq hq=>hsub q (List.mem_cons_of_mem _ hq)) (by omega) (by rw[cg (hd p hp)];exact h) (λq hq=>by
   obtain⟨ys,g1,g2⟩:=hc q hq
   by_cases he:p.1=q.1
   ·rw[<- he,eY h1]
    exact⟨_,rfl,by simp;omega⟩
   ·rw[cg he]
    exact⟨ys,g1,by omega⟩)
  refine⟨x',O', ?_,h3⟩
  show cS _ _ _ (.ptr p.1::bP rest) _=_
  rw[cS,if_pos (by rw[hmk];exact h),hg,ki,hb _ _ _ h1 (by omega)]
  exact e
theorem xt:∀(n:Nat) (a b:Int) (L z x:Option D) (O:au),0<=a->0<=b->b.natAbs<n->∃y,iU (bj (ao gtD (aa 3) (aq (.int 0)))) jR n ⟨[L,some (.int a),z,some (.int b),x],O⟩=.next ⟨[L,some (.int (Nat.gcd a.natAbs b.natAbs:Nat)),z,some (.int 0),y],O⟩
 | 0,_,_,_,_,_,_,_,_,h=>by omega
 | n+1,a,b,L,z,x,O,ha,hb,hn=>by
  have t:bj (ao gtD (aa 3) (aq (.int 0))) ⟨[L,some (.int a),z,some (.int b),x],O⟩=.ok (decide (0<b),⟨[L,some (.int a),z,some (.int b),x],O⟩):=jO (af rfl)
  rw[iU,t,ki]
  by_cases h:b=0
  ·subst h
   refine⟨x, ?_⟩
   have e:((Nat.gcd a.natAbs (0:Int).natAbs:Nat):Int)=a:=by
    rw[Int.natAbs_zero,Nat.gcd_zero_right]
    omega
   rw[e]
   rfl
  ·have hb':0<b:=by omega
   have h1:0<=a%b:=Int.emod_nonneg a h
   have h2:a%b<b:=Int.emod_lt_of_pos a hb'
   obtain⟨y,e⟩:=xt n b (a%b) L z (some (.int (a%b))) O hb h1 (by omega)
   refine⟨y, ?_⟩
   have eb:jR ⟨[L,some (.int a),z,some (.int b),x],O⟩=.next ⟨[L,some (.int b),z,some (.int (a%b)),some (.int (a%b))],O⟩:=by
    rw[jR]
    exact aU (bE (aN (af rfl) (af rfl) (fv hb')) rfl) (aU (bE (af rfl) rfl) (bE (af rfl) rfl))
   rw[decide_eq_true hb',if_pos rfl,eb]
   dsimp only
   rw[e]
   have e2:(a%b).natAbs=a.natAbs%b.natAbs:=by
    have:((a%b).natAbs:Int)=((a.natAbs%b.natAbs:Nat):Int):=by
     rw[Int.natAbs_of_nonneg h1,Int.natCast_emod,Int.natAbs_of_nonneg ha,Int.natAbs_of_nonneg hb]
    omega
   rw[e2,show Nat.gcd a.natAbs b.natAbs=Nat.gcd b.natAbs (a.natAbs%b.natAbs) by rw[Nat.gcd_comm a.natAbs,Nat.gcd_rec b.natAbs,Nat.gcd_comm]]
theorem L7(ns:List Int):jF [vI ns] []=.ok (.int (cG ns:Nat),[]):=by
 obtain⟨s',e,c,x,y,z,h1,h2⟩:=dW (ok:=okC (ns.map D.int) none) (g:=aB 2) (body:=jY)
  (λpre s=>∃(ms:List Int) (x y z:Option D),pre=ms.map D.int/\s=⟨[some (vI ns),some (.int (ms.foldl (λc n=>Nat.gcd c n.natAbs) 0:Nat)),x,y,z],[]⟩) (λ_ _ _=>trivial) (ns.map D.int) [] (by
   rintro pre d rest e s ⟨ms,x,y,z,rfl,rfl⟩
   have hd:d∈ns.map D.int:=by rw[List.nil_append] at e;rw[e];simp
   obtain⟨m,_,rfl⟩:=List.mem_map.mp hd
   obtain⟨w,ew⟩:=xt ((m.natAbs:Int).natAbs+1) (ms.foldl (λc n=>Nat.gcd c n.natAbs) 0:Nat) (m.natAbs:Int) (some (vI ns)) (some (.int m)) z [] (by omega) (by omega) (by omega)
   refine⟨⟨[some (vI ns),some (.int (ms.foldl (λc n=>Nat.gcd c n.natAbs) 0:Nat)),some (.int m),y,z],[]⟩,⟨[some (vI ns),some (.int (Nat.gcd (ms.foldl (λc n=>Nat.gcd c n.natAbs) 0) m.natAbs:Nat)),some (.int m),some (.int 0),w],[]⟩,rfl,.inl ?_,ms++[m],some (.int m),some (.int 0),w,by simp,by rw[List.foldl_append];rfl⟩
   rw[jY]
   exact aU (bE (R:=[some (vI ns),some (.int (ms.foldl (λc n=>Nat.gcd c n.natAbs) 0:Nat)),some (.int m),y,z]) (O:=[]) (d6 (aG (af rfl) (aF _)) (Ia _)) rfl) (by exact ew)) ⟨[some (vI ns),some (.int 0),none,none,none],[]⟩ ⟨[],none,none,none,rfl,rfl⟩
 rw[List.nil_append] at h1
 have hc:c=ns:=(List.map_inj_right (λa b h=>by cases h;rfl)).mp h1.symm
 subst hc
 have hf:=dg (im:=listI (aa 0)) (g:=aB 2) (body:=jY) (s:=⟨[some (vI c),some (.int 0),none,none,none],[]⟩) (ds:=c.map D.int) (k:=none) (s1:=⟨[some (vI c),some (.int 0),none,none,none],[]⟩) (by simp)
 rw[e,h2] at hf
 refine fg (R:=[some (vI c),some (.int (cG c:Nat)),x,y,z]) ?_
 show jI ⟨[some (vI c),none,none,none,none],[]⟩=_
 rw[jI]
 exact aU (bE (R':=[some (vI c),some (.int 0),none,none,none]) (aA _ _) rfl) (aU hf (bR (af rfl)))
theorem D1{ts:List Int}{m:Nat}(h:ts.length=m)(hl:m<=1000):fC [vI ts,.int (m:Int)] []=.ok (.bl true,[]):=by
 have hc:=dJ (l:=ts) (item:=D.int) (out:=λ_=>.bl true) (caps:=[]) (im:=listI (aa 0)) (e:=Bi (unM (iC "int") (aa 0)) (zj (unM (iC "bool") (aa 0)))) (k:=none) (s:=⟨[some (vI ts),some (.int (m:Int))],[]⟩) (by simp) trivial (by omega) (λx _=>by simp)
 rw[show ts.map (λ_=>D.bl true)=(ts.map λ_=>true).map D.bl by rw[List.map_map];rfl] at hc
 refine fg (R:=[some (vI ts),some (.int (m:Int))]) ?_
 show iE ⟨[some (vI ts),some (.int (m:Int))],[]⟩=_
 rw[iE]
 refine aU (gJ (p:=(!true)|| !decide ((ts.length:Int)=(m:Int))) (HL (yG (ft (wb (af rfl) (Ce _ _)))) (ft (aN (d6 (aG (af rfl) (aF _)) (by rw[gN,List.length_map])) (af rfl) (wC _ _)))) (by simp[h]) (dy _)) (bR (d6 (aG hc (aF _)) ?_))
 rw[uu]
 simp
theorem IZ{x:List Int}{s:S}{me md:EM}{d:D}{e:D}(hm:me s=.ok (d,s))(hd:md s=.ok (e,s))(hl:lsD s.o d=some (x.map D.int))(h0:0<x.length)(hn:∀a∈x,0<=a):∃m,yC me md s=.ok (.int m,s)/\0<=m:=by
 cases x with
 | nil=>exact absurd h0 (by simp)
 | cons a x=>
  refine⟨pE a x, ?_,hn _ (uO x a)⟩
  unfold yC
  rw[hm,aj]
  dsimp only
  rw[hd,aj]
  dsimp only
  have c:mH s.o d=some (a::x):=by
   unfold mH
   rw[hl]
   exact nv _
  rw[c]
theorem Fp{n:Nat}{R:List (List Int)}{x:List Int}(f:Fit n R x):∀a∈x,0<=a:=λa ha=>by
 obtain⟨i,hi,rfl⟩:=List.getElem_of_mem ha
 have:=f.nn i
 unfold nth at this
 simpa[List.getD_eq_getElem?_getD,List.getElem?_eq_getElem hi] using this
theorem J8{A:List (List Int)}{way:List Int}{n:Nat}(hn:n<=1000)(ha:A.length<=1000)(la:∀l∈A,l.length=n)(lw:way.length=A.length)(zw:SzL 8000 way)(zA:fH 90 A):j3 [vII A,vI way,.int (n:Int)] []=.ok (.ptr 0,[.lst ((gK A way n).map D.int)]):=by
 have inner:∀g,g<n->aW oG (ae (bF 1 [0,1,2] (cY (ae (aW bL (ae (aa 1) ak)) ak)) (aB 0) bK (ao dE (ao ixD (aa 3) (aa 0)) (ao ixD (ao ixD (aa 2) (aa 0)) (aa 1)))) ak) ⟨[some (.int (g:Int)),some (vII A),some (vI way)],[]⟩=.ok (.int ((List.range A.length).map λk=>nth way k*nth (A.getD k []) g).sum,⟨[some (.int (g:Int)),some (vII A),some (vI way)],[]⟩):=λg hg=>by
  have e:=dJ (l:=List.range A.length) (item:=λi:Nat=>D.int (i:Int)) (out:=λk=>.int (nth way k*nth (A.getD k []) g)) (caps:=[0,1,2]) (im:=cY (ae (aW bL (ae (aa 1) ak)) ak)) (e:=ao dE (ao ixD (aa 3) (aa 0)) (ao ixD (ao ixD (aa 2) (aa 0)) (aa 1))) (k:=none) (s:=⟨[some (.int (g:Int)),some (vII A),some (vI way)],[]⟩) (by
   rw[<- eS]
   refine ee (aG (d6 (aG (af rfl) (aF _)) ?_) (aF _)) (by omega)
   rw[gN,List.length_map]) trivial (by simp;omega) (λk hk=>by
    have hk':=List.mem_range.mp hk
    have hm:A.getD k []∈A:=getD_mem hk'
    exact aN (aN (af rfl) (af rfl) (tQ (by omega))) (aN (aN (af rfl) (af rfl) (LK hk')) (af rfl) (tQ (by rw[la _ hm];exact hg))) (dQ (sj (m:=8000) (n:=90) (by decide) (by decide) (zw.nth _) ((zA _ hm).nth _))))
  rw[show (List.range A.length).map (λk=>D.int (nth way k*nth (A.getD k []) g))=((List.range A.length).map λk=>nth way k*nth (A.getD k []) g).map D.int by rw[List.map_map];rfl] at e
  exact d6 (aG e (aF _)) (oU _ _)
 have e:=zG (l:=List.range n) (item:=λi:Nat=>D.int (i:Int)) (out:=λg=>.int ((List.range A.length).map λk=>nth way k*nth (A.getD k []) g).sum) (caps:=[0,1]) (im:=cY (ae (aa 2) ak)) (e:=aW oG (ae (bF 1 [0,1,2] (cY (ae (aW bL (ae (aa 1) ak)) ak)) (aB 0) bK (ao dE (ao ixD (aa 3) (aa 0)) (ao ixD (ao ixD (aa 2) (aa 0)) (aa 1)))) ak)) (k:=none) (s:=⟨[some (vII A),some (vI way),some (.int (n:Int))],[]⟩) (by
  rw[<- eS]
  exact ee (aG (af rfl) (aF _)) (by omega)) trivial (by simp;omega) (λg hg=>inner g (List.mem_range.mp hg))
 rw[show (List.range n).map (λg=>D.int ((List.range A.length).map λk=>nth way k*nth (A.getD k []) g).sum)=(gK A way n).map D.int by unfold gK;rw[List.map_map];rfl] at e
 refine fg (R:=[some (vII A),some (vI way),some (.int (n:Int))]) ?_
 show lg ⟨[some (vII A),some (vI way),some (.int (n:Int))],[]⟩=_
 rw[lg]
 exact bR e
theorem Gb{O:au}(a b:Nat):yB O (.int (a:Int)) (.int (b:Int))=.ok (.int ((a&&&b:Nat):Int)):=by
 have e:Builtin.bitAnd (a:Int) (b:Int)=((a&&&b:Nat):Int):=by
  unfold Builtin.bitAnd
  rw[decide_eq_true (show (0:Int)<=(a:Int) by omega),decide_eq_true (show (0:Int)<=(b:Int) by omega)]
  dsimp only
  rw[Int.toNat_natCast,Int.toNat_natCast]
 show Res.ok (D.int (Builtin.bitAnd (a:Int) (b:Int)))=_
 rw[e]
theorem IQ{O:au}{i:Nat}(h:i<=1000):Ec O (.int 1) (.int (i:Int))=.ok (.int ((2^i:Nat):Int)):=by
 have:Ec O (.int 1) (.int (i:Int))=.ok (.int (1*2^((i:Int)).toNat)):=if_pos ⟨by omega,by omega,by decide⟩
 rw[this,Int.one_mul,Int.toNat_natCast,Int.natCast_pow]
 rfl
def sY:List Int->Nat->Nat->Nat
 | [],_,m=>m
 | a::x,i,m=>sY x (i+1) (if 0<a then m|||2^i else m)
def cE(x:List Int):Nat:=sY x 0 0
theorem xS:∀(x:List Int) (i m j:Nat),(sY x i m).testBit j=(m.testBit j||(decide (i<=j)&&decide (0<nth x (j-i))))
 | [],i,m,j=>by
  have:nth ([]:List Int) (j-i)=0:=rfl
  unfold sY
  rw[this];simp
 | a::x,i,m,j=>by
  unfold sY
  rw[xS x (i+1) _ j]
  rcases Nat.lt_trichotomy j i with h | h | h
  ·have h1:decide (i+1<=j)=false:=decide_eq_false (by omega)
   have h2:decide (i<=j)=false:=decide_eq_false (by omega)
   rw[h1,h2]
   split
   ·rw[Nat.testBit_or,Nat.testBit_two_pow,decide_eq_false (show ¬i=j by omega)];simp
   ·simp
  ·subst h
   have h1:decide (j+1<=j)=false:=decide_eq_false (by omega)
   have h2:nth (a::x) (j-j)=a:=by rw[Nat.sub_self];rfl
   rw[h1,h2]
   split
   ·rename_i q
    rw[Nat.testBit_or,Nat.testBit_two_pow];simp[q]
   ·rename_i q
    simp[q]
  ·have h1:decide (i+1<=j)=true:=decide_eq_true (by omega)
   have h2:decide (i<=j)=true:=decide_eq_true (by omega)
   have h3:nth (a::x) (j-i)=nth x (j-(i+1)):=by
    rw[show j-i=(j-(i+1))+1 by omega];rfl
   rw[h1,h2,h3]
   split
   ·rw[Nat.testBit_or,Nat.testBit_two_pow,decide_eq_false (show ¬i=j by omega)];simp
   ·rfl
theorem xg(x:List Int)(j:Nat):(cE x).testBit j=decide (0<nth x j):=by
 unfold cE
 rw[xS]
 simp
theorem xl(L:D):∀(x:List Int) (i m:Nat) (x2 x3:Option D),i+x.length<=1000->∃y2 y3,cS (okC (dU [L]) none) (dG (ba (aB 2) (ba (aB 3) dO)) 2) hU ((x.zipIdx i).map λp=>.tup [.int (p.2:Int),.int p.1]) ⟨[some L,some (.int (m:Int)),x2,x3],[]⟩=.next ⟨[some L,some (.int (sY x i m:Int)),y2,y3],[]⟩
 | [],i,m,x2,x3,_=>⟨x2,x3,by rw[List.zipIdx_nil,List.map_nil,cS,if_pos (show okC (dU [L]) none _ from trivial)];rfl⟩
 | a::x,i,m,x2,x3,h=>by
  have t:bj (ao gtD (aa 3) (aq (.int 0))) ⟨[some L,some (.int (m:Int)),some (.int (i:Int)),some (.int a)],[]⟩=.ok (decide (0<a),⟨[some L,some (.int (m:Int)),some (.int (i:Int)),some (.int a)],[]⟩):=jO (af rfl)
  have hb:hU ⟨[some L,some (.int (m:Int)),some (.int (i:Int)),some (.int a)],[]⟩=.next ⟨[some L,some (.int ((if 0<a then m|||2^i else m:Nat):Int)),some (.int (i:Int)),some (.int a)],[]⟩:=by
   rw[hU]
   by_cases ha:0<a
   ·rw[if_pos ha]
    exact mw t (decide_eq_true ha) (bE (aN (af rfl) (aN (aA _ _) (af rfl) (IQ (by simp at h;omega))) (yQ _ _)) rfl)
   ·rw[if_neg ha]
    exact gJ t (decide_eq_false ha) (dy _)
  obtain⟨y2,y3,e⟩:=xl L x (i+1) (if 0<a then m|||2^i else m) (some (.int (i:Int))) (some (.int a)) (by simp at h;omega)
  refine⟨y2,y3, ?_⟩
  rw[List.zipIdx_cons,List.map_cons]
  exact(iA (s1:=⟨[some L,some (.int (m:Int)),some (.int (i:Int)),some (.int a)],[]⟩) trivial (by rw[lZ];rfl) hb).trans e
theorem DY{x:List Int}(h:x.length<=1000):jn [vI x] []=.ok (.int (cE x:Int),[]):=by
 obtain⟨y2,y3,e⟩:=xl (vI x) x 0 0 none none (by omega)
 have hf:=dg (im:=dk (ae (aa 0) ak)) (g:=dG (ba (aB 2) (ba (aB 3) dO)) 2) (body:=hU) (s:=⟨[some (vI x),some (.int 0),none,none],[]⟩) (ds:=(x.zipIdx 0).map λp=>.tup [.int (p.2:Int),.int p.1]) (k:=none) (s1:=⟨[some (vI x),some (.int 0),none,none],[]⟩) (by simp[D6])
 refine fg (R:=[some (vI x),some (.int (cE x:Int)),y2,y3]) ?_
 show jw ⟨[some (vI x),none,none,none],[]⟩=_
 rw[jw]
 exact aU (bE (R':=[some (vI x),some (.int 0),none,none]) (aA _ _) rfl) (aU (hf.trans e) (bR (af rfl)))
theorem Gv{n:Nat}{R:List (List Int)}{x y:List Int}(lx:cT n R x)(ly:cT n R y):cE x&&&cE y=cE x↔x=y:=by
 constructor
 ·intro h
  have:Sub x y:=λi hi=>by
   have p:0<nth x i:=by have:=lx.fit.nn i;omega
   have b:(cE x&&&cE y).testBit i=(cE x).testBit i:=by rw[h]
   rw[Nat.testBit_and,xg,xg,decide_eq_true p] at b
   have:0<nth y i:=by simpa using b
   omega
  exact(ly.same lx this).symm
 ·rintro rfl
  exact Nat.and_self _
theorem va{O:au}:∀L:List (List Int),keyed O (L.map vI)=some (L.map λx=>(vI x,x))
 | []=>rfl
 | x::L=>by
  have c:mH O (vI x)=some x:=by
   unfold mH
   show mS (x.map D.int)=some x
   exact nv _
  show keyed O (vI x::L.map vI)=_
  unfold keyed
  rw[c,va L]
  rfl
theorem EL{L:List (List Int)}{fin:S->List D->Res (D×S)}{me:EM}{s s1:S}(he:me s=.ok (vII L,s1))(hl:L.length<64)(nd:L.Nodup):lj fin me s=fin s1 ((mx L).map vI):=by
 unfold lj
 rw[he,aj]
 dsimp only
 rw[show lsD s1.o (vII L)=some (L.map vI) from rfl]
 dsimp only
 rw[va]
 dsimp only
 rw[if_pos ⟨by rw[List.length_map];exact hl,by rw[List.map_map,show ((λx:D×List Int=>x.2)∘λx=>(vI x,x))=id from rfl,List.map_id];exact nd⟩]
 congr 1
 unfold mx
 rw[show L.map (λx=>(vI x,x))=(L.map λx=>((),x)).map (λp:Unit×List Int=>(vI p.2,p.2)) by rw[List.map_map];rfl,kN (g:=λp:Unit×List Int=>(vI p.2,p.2)) (λ_=>rfl),List.map_map,List.map_map]
 rfl
theorem Fj{y:List Int}:∀{L:List (List Int)},L.Nodup->y∈L->(L.filter (· == y)).length=1
 | [],_,h=>by cases h
 | a::L,nd,h=>by
  obtain⟨n1,n2⟩:=List.nodup_cons.mp nd
  by_cases e:a=y
  ·subst e
   rw[List.filter_cons_of_pos (by simp),List.filter_eq_nil_iff.mpr λx hx z=>n1 (by rw[<- beq_iff_eq.mp z];exact hx)]
   rfl
  ·rw[List.filter_cons_of_neg (by simpa using e)]
   exact Fj n2 ((List.mem_cons.mp h).resolve_left λz=>e z.symm)
theorem Ga{n:Nat}{R:List (List Int)}{Ls:List (List Int)}(h:∀x∈Ls,cT n R x)(nd:Ls.Nodup){y:List Int}(hy:y∈Ls):(Ls.filter λx=>decide (cE x&&&cE y=cE x)).length=1:=by
 rw[List.filter_congr (q:=λx=>x == y) λx hx=>by
  rw[Bool.eq_iff_iff,decide_eq_true_iff,Gv (h x hx) (h y hy),beq_iff_eq]]
 exact Fj nd hy
theorem Er{n:Nat}{R Ls:List (List Int)}(h:∀x∈Ls,cT n R x)(nd:Ls.Nodup)(few:Ls.length<64)(so:mx Ls=Ls)(n7:n<=7):∃O,fQ [vII Ls,.int (n:Int)] []=.ok (.bl true,O):=by
 have hc:=dJ (l:=Ls) (item:=vI) (out:=λ_=>.bl true) (caps:=[1]) (im:=listI (aa 0)) (e:=aQ 2 fC (ae (aa 0) (ae (aa 1) ak))) (k:=none) (s:=⟨[some (vII Ls),some (.int (n:Int)),none,none,none],[]⟩) (by simp) trivial (by omega) (λr hr=>dw (aG (af rfl) (aG (af rfl) (aF _))) (by simp) rfl (D1 (h r hr).fit.len (by omega)) (by simp))
 rw[show Ls.map (λ_=>D.bl true)=(Ls.map λ_=>true).map D.bl by simp] at hc
 have e1:ifS (orT (mX (bj (unM (iC "list") (aa 0)))) (mX (bj (aW vR (ae (bF 1 [1] (listI (aa 0)) (aB 0) bK (aQ 2 fC (ae (aa 0) (ae (aa 1) ak)))) ak))))) (cv (aq (.bl false))) cL ⟨[some (vII Ls),some (.int (n:Int)),none,none,none],[]⟩=.next ⟨[some (vII Ls),some (.int (n:Int)),none,none,none],[]⟩:=by
  refine gJ (p:=(!true)||(!((Ls.map λ_=>true).all id))) (HL (yG (ft (wb (af rfl) (Ce _ _)))) (yG (ft (d6 (aG hc (aF _)) (uu _ _))))) ?_ (dy _)
  simp
 obtain⟨s',el,M,x2,hM,hs'⟩:=dW (ok:=okC (Ls.map vI) none) (g:=aB 2) (body:=jN)
  (λpre s=>∃(M:List (List Int)) (x2:Option D),pre=M.map vI/\s=⟨[some (vII Ls),some (.int (n:Int)),x2,some (.ptr 0),none],[.lst (M.map λx=>.int (cE x:Int))]⟩) (λ_ _ _=>trivial) (Ls.map vI) [] (by
   rintro pre d rest ed s ⟨M,x2,rfl,rfl⟩
   rw[List.nil_append] at ed
   obtain⟨hlt,rfl⟩:=sI ed
   rw[List.length_map] at hlt
   have hx:Ls[M.length]∈Ls:=List.getElem_mem hlt
   have hlen:(M.map vI).length=M.length:=List.length_map _
   generalize hxx:Ls[(M.map vI).length]'(by rw[hlen];exact hlt)=x
   have hx:x∈Ls:=by rw[<- hxx];exact List.getElem_mem _
   have lx:=h x hx
   have x0:0<x.length:=by
    obtain⟨i,hi⟩:=lx.fit.nz
    have:=lx.fit.lt hi
    rw[lx.fit.len];omega
   obtain⟨mm,em,m0⟩:=IZ (x:=x) (s:=⟨[some (vII Ls),some (.int (n:Int)),some (vI x),some (.ptr 0),none],[.lst (M.map λx=>.int (cE x:Int))]⟩) (me:=aa 2) (md:=aq (.int 0)) (af rfl) (aA _ _) pY x0 (Fp lx.fit)
   have Ml:M.length<Ls.length:=hlt
   refine⟨⟨[some (vII Ls),some (.int (n:Int)),some (vI x),some (.ptr 0),none],[.lst (M.map λx=>.int (cE x:Int))]⟩,⟨[some (vII Ls),some (.int (n:Int)),some (vI x),some (.ptr 0),none],[.lst ((M++[x]).map λx=>.int (cE x:Int))]⟩,rfl,.inl ?_,M++[x],some (vI x),by simp,rfl⟩
   rw[jN]
   refine aU (gJ (p:=decide (mm<0)|| !decide (((cG x:Nat):Int)=1)) (HL (ft (aN em (aA _ _) (lW _ _))) (ft (aN (dw (aG (af rfl) (aF _)) (tM _) rfl (L7 x) (by simp)) (aA _ _) (wC _ _)))) ?_ (dy _)) (cF (kZ (af rfl) rfl (iV (aG (af rfl) (aF _)) (DY (by rw[lx.fit.len];omega)) (tM _) rfl rfl) rfl (by simp;omega) ?_))
   ·rw[lx.one,decide_eq_false (by omega)];rfl
   ·rw[List.map_append];rfl) ⟨[some (vII Ls),some (.int (n:Int)),none,some (.ptr 0),none],[.lst []]⟩ ⟨[],none,rfl,rfl⟩
 rw[List.nil_append] at hM
 have hM:M=Ls:=((List.map_inj_right (λa b h=>by
  have:a.map D.int=b.map D.int:=by injection h
  exact(List.map_inj_right (λx y q=>by cases q;rfl)).mp this)).mp hM).symm
 subst hM
 have hf1:=dg (im:=listI (aa 0)) (g:=aB 2) (body:=jN) (s:=⟨[some (vII M),some (.int (n:Int)),none,some (.ptr 0),none],[.lst []]⟩) (ds:=M.map vI) (k:=none) (s1:=⟨[some (vII M),some (.int (n:Int)),none,some (.ptr 0),none],[.lst []]⟩) (by simp)
 rw[el,hs'] at hf1
 obtain⟨s2,el2,x4,hs2⟩:=rk (ok:=okC (M.map λx=>D.int (cE x:Int)) (some 0)) (g:=aB 4) (body:=jK)
  (λs=>∃x4,s=⟨[some (vII M),some (.int (n:Int)),x2,some (.ptr 0),x4],[.lst (M.map λx=>.int (cE x:Int))]⟩) (by rintro _ ⟨_,rfl⟩;rfl) (M.map λx=>D.int (cE x:Int)) (by
   rintro d hd s ⟨x4,rfl⟩
   obtain⟨y,hy,rfl⟩:=List.mem_map.mp hd
   refine⟨⟨[some (vII M),some (.int (n:Int)),x2,some (.ptr 0),some (.int (cE y:Int))],[.lst (M.map λx=>.int (cE x:Int))]⟩,⟨[some (vII M),some (.int (n:Int)),x2,some (.ptr 0),some (.int (cE y:Int))],[.lst (M.map λx=>.int (cE x:Int))]⟩,rfl,.inl ?_,some (.int (cE y:Int)),rfl⟩
   have e:=vX (l:=M) (item:=λx=>D.int (cE x:Int)) (out:=λx=>D.int (cE x:Int)) (p:=λx=>decide (cE x&&&cE y=cE x)) (caps:=[4]) (im:=listI (aa 3)) (c:=bj (ao eqD (ao yB (aa 0) (aa 1)) (aa 0))) (e:=aa 0) (k:=some 0) (s:=⟨[some (vII M),some (.int (n:Int)),x2,some (.ptr 0),some (.int (cE y:Int))],[.lst (M.map λx=>.int (cE x:Int))]⟩) (jG (af rfl) rfl) rfl (by omega) (λx _=>by
    refine ft (aN (aN (af rfl) (af rfl) (Gb _ _)) (af rfl) ?_)
    rw[nU]
    congr 3
    exact propext ⟨λq=>Int.ofNat.inj q,λq=>congrArg Int.ofNat q⟩) (λ_ _ _=>af rfl)
   rw[jK]
   refine gJ (ft (aN (d6 (aG e (aF _)) (gN _)) (aA _ _) (wC _ _))) ?_ (dy _)
   rw[List.length_map,Ga h nd hy];rfl) ⟨[some (vII M),some (.int (n:Int)),x2,some (.ptr 0),none],[.lst (M.map λx=>.int (cE x:Int))]⟩ ⟨none,rfl⟩
 have hf2:=dg (im:=listI (aa 3)) (g:=aB 4) (body:=jK) (s:=⟨[some (vII M),some (.int (n:Int)),x2,some (.ptr 0),none],[.lst (M.map λx=>.int (cE x:Int))]⟩) (ds:=M.map λx=>D.int (cE x:Int)) (k:=some 0) (s1:=⟨[some (vII M),some (.int (n:Int)),x2,some (.ptr 0),none],[.lst (M.map λx=>.int (cE x:Int))]⟩) (jG (af rfl) rfl)
 rw[el2,hs2] at hf2
 refine Cq ⟨⟨[some (vII M),some (.int (n:Int)),x2,some (.ptr 0),x4],[.lst (M.map λx=>.int (cE x:Int))]⟩, ?_⟩
 show jA ⟨[some (vII M),some (.int (n:Int)),none,none,none],[]⟩=_
 rw[jA]
 have es:lj uG (aa 0) ⟨[some (vII M),some (.int (n:Int)),x2,some (.ptr 0),x4],[.lst (M.map λx=>.int (cE x:Int))]⟩=.ok (vII M,⟨[some (vII M),some (.int (n:Int)),x2,some (.ptr 0),x4],[.lst (M.map λx=>.int (cE x:Int))]⟩):=by
  rw[EL (af rfl) few nd,so];rfl
 refine aU e1 (aU (bE (oa (aF _) (by simp) rfl rfl) rfl) (aU hf1 (aU hf2 (bR (aN es (af rfl) ?_)))))
 rw[JI,decide_eq_true rfl]
theorem Fl{m1 m2:EM}{s s1 s2:S}{i j:Int}(h1:m1 s=.ok (.int i,s1))(h2:m2 s1=.ok (.int j,s2)):aW nK (ae m1 (ae m2 ak)) s=.ok (.int (max i j),s2):=by
 refine d6 (aG h1 (aG h2 (aF _))) ?_
 show Res.ok (D.int (if j>i then j else i))=_
 congr 2
 split <;> omega
def pz(l:List (Str×Int))(g:Str)(a:Int):List (Str×Int):=if 0<a then l++[(g,a)] else l
theorem o7(h:Str)(l r:List (Str×Int)):sumOf h (l++r)=sumOf h l+sumOf h r:=by
 unfold sumOf
 rw[List.filter_append,List.map_append,List.sum_append]
theorem Fs(h:Str)(l:List (Str×Int)):sumOf h l.reverse=sumOf h l:=by
 induction l with
 | nil=>rfl
 | cons p l ih=>
  rw[List.reverse_cons,o7,ih,show p::l=[p]++l from rfl,o7,Int.add_comm]
theorem wX(h g:Str)(a:Int):sumOf h [(g,a)]=if g=h then a else 0:=by
 unfold sumOf
 by_cases e:g=h
 ·rw[if_pos e,List.filter_cons_of_pos (by simpa using e)];simp
 ·rw[if_neg e,List.filter_cons_of_neg (by simpa using e)];rfl
theorem FA{h:Str}{l:List (Str×Int)}(e:∀p∈l,p.1≠h):sumOf h l=0:=by
 unfold sumOf
 rw[List.filter_eq_nil_iff.mpr (λp hp=>by simpa using e p hp)]
 rfl
theorem Cm{goods:List Str}(nd:goods.Nodup){i:Nat}(hi:i<goods.length){l:List (Str×Int)}(h:Pt goods i l)(a:Int):Pt goods (i+1) (pz l goods[i] a):=by
 unfold pz
 split
 ·exact h.more nd hi (by omega)
 ·exact h.same
theorem xD{goods:List Str}(nd:goods.Nodup){i:Nat}(hi:i<goods.length){l:List (Str×Int)}(h:Pt goods i l){a:Int}(ha:0<=a):sumOf goods[i] (pz l goods[i] a)=a:=by
 have z:sumOf goods[i] l=0:=FA λp hp e=>by
  have:=h.mem p hp
  rw[e] at this
  exact j1 nd hi this
 unfold pz
 split
 ·rw[o7,z,wX,if_pos rfl,Int.zero_add]
 ·rw[z];omega
theorem u9{goods:List Str}(nd:goods.Nodup){i j:Nat}(hi:i<goods.length)(hj:j<i)(l:List (Str×Int))(a:Int):sumOf (goods[j]'(by omega)) (pz l goods[i] a)=sumOf (goods[j]'(by omega)) l:=by
 have ne:goods[i]≠goods[j]'(by omega):=λe=>by
  have:goods[j]'(by omega)∈goods.take i:=List.mem_of_getElem? (i:=j) (by rw[List.getElem?_take_of_lt hj,List.getElem?_eq_getElem (by omega)])
  exact j1 nd hi (by rw[e];exact this)
 unfold pz
 split
 ·rw[o7,wX,if_neg ne,Int.add_zero]
 ·rfl
structure WkI(goods:List Str)(mv:List Int)(i:Nat)(us ms:List (Str×Int)):Prop where
 u:Pt goods i us
 m:Pt goods i ms
 s:∀j,(hj:j<goods.length)->j<i->sumOf goods[j] ms-sumOf goods[j] us=nth mv j
abbrev woR(A:List (List Int))(goods zs:List Str)(c:Int)(x5 x6 x7 x8 x9 x10 x11:Option D):List (Option D):=[some (vII A),some (sD goods),some (sD zs),some (.int c),some (.ptr 0),x5,x6,x7,x8,x9,x10,x11]
theorem DL{O:au}{l:List Str}{i:Nat}(h:i<l.length):ixD O (sD l) (.int (i:Int))=.ok (.str l[i]):=by
 refine nR ?_
 rw[qi (by simpa using h)]
 simp
theorem AE{R:List (Option D)}{O:au}{goods:List Str}{kk slot i:Nat}{l:List (Str×Int)}{me:EM}{a:Int}(hi:i<goods.length)(h1:R[1]? =some (some (sD goods)))(h9:R[9]? =some (some (.int (i:Int))))(hs:R[slot]? =some (some (.ptr kk)))(hO:O[kk]? =some (.lst (l.map pD)))(hl:l.length<=1000)(he:me ⟨R,O⟩=.ok (.int a,⟨R,O⟩)):
 ∃O',ifS (bj (ao gtD me (aq (.int 0)))) (cR (gP (aa slot) (qx (ae (ao ixD (aa 1) (aa 9)) (ae me ak))))) cL ⟨R,O⟩=.next ⟨R,O'⟩/\O'[kk]? =some (.lst ((pz l goods[i] a).map pD))/\∀q,q≠kk->O'[q]? =O[q]? :=by
 have t:=jO (j:=0) he
 unfold pz
 by_cases h:0<a
 ·rw[if_pos h]
  refine⟨O.set kk (.lst (l.map pD++[pD (goods[i],a)])),mw t (decide_eq_true h) (cF (kZ (af hs) hO (yF (aG (aN (af h1) (af h9) (DL hi)) (aG he (aF _))) (by simp)) hO (by simp;omega) rfl)),by rw[eY hO,List.map_append];rfl,λq hq=>cg λz=>hq z.symm⟩
 ·rw[if_neg h]
  exact⟨O,gJ t (decide_eq_false h) (dy _),hO,λ_ _=>rfl⟩
theorem JW{A:List (List Int)}{goods zs:List Str}{c v:Int}{k i ku km:Nat}{mv:List Int}{us ms:List (Str×Int)}{O:au}{x11:Option D}(nd:goods.Nodup)(hi:i<goods.length)(hg:goods.length<=100)(hv:nth mv i=v)(hne:ku≠km)(h:WkI goods mv i us ms)(hu:O[ku]? =some (.lst (us.map pD)))(hm:O[km]? =some (.lst (ms.map pD))):
 ∃us' ms' O' y11,iO ⟨woR A goods zs c (some (.int (k:Int))) (some (vI mv)) (some (.ptr ku)) (some (.ptr km)) (some (.int (i:Int))) (some (.int v)) x11,O⟩=.next ⟨woR A goods zs c (some (.int (k:Int))) (some (vI mv)) (some (.ptr ku)) (some (.ptr km)) (some (.int (i:Int))) (some (.int v)) y11,O'⟩/\WkI goods mv (i+1) us' ms'/\O'[ku]? =some (.lst (us'.map pD))/\O'[km]? =some (.lst (ms'.map pD))/\∀q,q≠ku->q≠km->O'[q]? =O[q]? :=by
 have p0:=jH (c:=c+(k:Int)) (t:=70+(i:Int)) (m:=4) (by decide)
 have q0:=jH (c:=c+(k:Int)) (t:=80+(i:Int)) (m:=9) (by decide)
 have p1:=mf (c:=c+(k:Int)) (t:=70+(i:Int)) (m:=4) (by decide)
 have e11:setM 11 (ao dE (ao gQ (aQ 3 aK (ae (ao bz (aa 3) (aa 5)) (ae (ao bz (aq (.int 70)) (aa 9)) (ae (aq (.int 4)) ak)))) (aq (.int 3))) (ao bz (aq (.int 1)) (aQ 3 aK (ae (ao bz (aa 3) (aa 5)) (ae (ao bz (aq (.int 80)) (aa 9)) (ae (aq (.int 9)) ak)))))) ⟨woR A goods zs c (some (.int (k:Int))) (some (vI mv)) (some (.ptr ku)) (some (.ptr km)) (some (.int (i:Int))) (some (.int v)) x11,O⟩=.next ⟨woR A goods zs c (some (.int (k:Int))) (some (vI mv)) (some (.ptr ku)) (some (.ptr km)) (some (.int (i:Int))) (some (.int v)) (some (.int (bN (c+(k:Int)) (70+(i:Int)) 4/3*(1+bN (c+(k:Int)) (80+(i:Int)) 9)))),O⟩:=
  bE (aN (aN (fT (aN (af rfl) (af rfl) (bX _ _)) (aN (aA _ _) (af rfl) (bX _ _)) (aA _ _) (by decide)) (aA _ _) (ud (by decide) (by decide))) (aN (aA _ _) (fT (aN (af rfl) (af rfl) (bX _ _)) (aN (aA _ _) (af rfl) (bX _ _)) (aA _ _) (by decide)) (bX _ _)) (dQ (fq (.inl (by omega))))) rfl
 have m0:0<=bN (c+(k:Int)) (70+(i:Int)) 4/3*(1+bN (c+(k:Int)) (80+(i:Int)) 9):=Int.mul_nonneg (by omega) (by omega)
 generalize bN (c+(k:Int)) (70+(i:Int)) 4/3*(1+bN (c+(k:Int)) (80+(i:Int)) 9)=m at e11 m0
 have ul:=h.u.len
 have ml:=h.m.len
 obtain⟨O1,e1,g1,k1⟩:=AE (R:=woR A goods zs c (some (.int (k:Int))) (some (vI mv)) (some (.ptr ku)) (some (.ptr km)) (some (.int (i:Int))) (some (.int v)) (some (.int m))) (slot:=7) (me:=ao bz (aa 11) (aW nK (ae (aq (.int 0)) (ae (unM lH (aa 10)) ak)))) (a:=m+max 0 (-v)) hi rfl rfl rfl hu (by omega) (aN (af rfl) (Fl (aA _ _) (wb (af rfl) (qL _))) (bX _ _))
 obtain⟨O2,e2,g2,k2⟩:=AE (R:=woR A goods zs c (some (.int (k:Int))) (some (vI mv)) (some (.ptr ku)) (some (.ptr km)) (some (.int (i:Int))) (some (.int v)) (some (.int m))) (O:=O1) (slot:=8) (me:=ao bz (aa 11) (aW nK (ae (aq (.int 0)) (ae (aa 10) ak)))) (a:=m+max 0 v) (l:=ms) hi rfl rfl rfl (by rw[k1 _ hne.symm];exact hm) (by omega) (aN (af rfl) (Fl (aA _ _) (af rfl)) (bX _ _))
 refine⟨pz us goods[i] (m+max 0 (-v)),pz ms goods[i] (m+max 0 v),O2,some (.int m), ?_,⟨Cm nd hi h.u _,Cm nd hi h.m _,λj hj hlt=> ?_⟩,by rw[k2 _ hne];exact g1,g2,λq h1 h2=>by rw[k2 q h2,k1 q h1]⟩
 ·rw[iO]
  exact aU e11 (aU e1 e2)
 ·by_cases e:j=i
  ·subst e
   rw[xD nd hi h.m (by omega),xD nd hi h.u (by omega),hv]
   omega
  ·rw[u9 nd hi (by omega),u9 nd hi (by omega)]
   exact h.s j hj (by omega)
theorem G7{m:EM}{s:S}{R:List (Option D)}{O:au}{k:Nat}{ds:List D}(h:m s=.ok (.ptr k,⟨R,O⟩))(hc:O[k]? =some (.lst ds)):AY m s=.ok (.lst ds,⟨R,O.set k .dead⟩):=by
 rw[CH,h,aj]
 dsimp only
 rw[lS hc]
theorem GQ{m:EM}{s s1:S}{ds:List D}(h:m s=.ok (.lst ds,s1)):AY m s=.ok (.lst ds,s1):=by
 rw[CH,h,aj]
 rfl
structure Dd(goods:List Str)(w:Wk):Prop where
 us:j6 goods w.us/\w.us.length<=100
 ms:j6 goods w.ms/\w.ms.length<=100
theorem HR{A:List (List Int)}{goods zs:List Str}{c:Int}{k:Nat}{mv:List Int}{W:List Wk}{O:au}{x7 x8 x9 x10 x11:Option D}(nd:goods.Nodup)(hg:goods.length<=100)(hk:k<zs.length)(hl:mv.length=goods.length)(wl:W.length<=1000)(hO:O[0]? =some (.lst (W.map wD))):
 ∃w O' y7 y8 y9 y10 y11,iF ⟨woR A goods zs c (some (.int (k:Int))) (some (vI mv)) x7 x8 x9 x10 x11,O⟩=.next ⟨woR A goods zs c (some (.int (k:Int))) (some (vI mv)) y7 y8 y9 y10 y11,O'⟩/\O'[0]? =some (.lst ((W++[w]).map wD))/\w.nm=zs[k]/\Dd goods w/\goods.map (chg w)=mv:=by
 have o0:0<O.length:=mJ hO
 have e7:setM 7 (jm ak) ⟨woR A goods zs c (some (.int (k:Int))) (some (vI mv)) x7 x8 x9 x10 x11,O⟩=.next ⟨woR A goods zs c (some (.int (k:Int))) (some (vI mv)) (some (.ptr O.length)) x8 x9 x10 x11,O++[.lst []]⟩:=bE (oa (aF _) (by simp) rfl rfl) rfl
 have e8:setM 8 (jm ak) ⟨woR A goods zs c (some (.int (k:Int))) (some (vI mv)) (some (.ptr O.length)) x8 x9 x10 x11,O++[.lst []]⟩=.next ⟨woR A goods zs c (some (.int (k:Int))) (some (vI mv)) (some (.ptr O.length)) (some (.ptr (O.length+1))) x9 x10 x11,O++[.lst []]++[.lst []]⟩:=bE (oa (aF _) (by simp) (by simp) rfl) rfl
 have cu:(O++[Cell.lst []]++[Cell.lst []])[O.length]? =some (.lst (([]:List (Str×Int)).map pD)):=eN jl
 have cm:(O++[Cell.lst []]++[Cell.lst []])[O.length+1]? =some (.lst (([]:List (Str×Int)).map pD)):=by
  have:=jl (O:=O++[Cell.lst []]) (c:=Cell.lst [])
  rw[List.length_append] at this
  exact this
 have c0:(O++[Cell.lst []]++[Cell.lst []])[0]? =some (.lst (W.map wD)):=eN (eN hO)
 generalize O++[Cell.lst []]++[Cell.lst []]=O1 at e8 cu cm c0
 obtain⟨ku,hku⟩:∃ku,O.length=ku:=⟨_,rfl⟩
 rw[hku] at e7 e8 cu cm o0
 have hne:ku≠ku+1:=by omega
 obtain⟨s',el,us,ms,O2,x9',x10',x11',hw,hu,hm,h0,hs'⟩:=dW (ok:=okC (dU (mv.map D.int)) none) (g:=dG (ba (aB 9) (ba (aB 10) dO)) 2) (body:=iO)
  (λpre s=>∃(us ms:List (Str×Int)) (O2:au) (x9 x10 x11:Option D),WkI goods mv pre.length us ms/\O2[ku]? =some (.lst (us.map pD))/\O2[ku+1]? =some (.lst (ms.map pD))/\O2[0]? =some (.lst (W.map wD))/\s=⟨woR A goods zs c (some (.int (k:Int))) (some (vI mv)) (some (.ptr ku)) (some (.ptr (ku+1))) x9 x10 x11,O2⟩) (λ_ _ _=>trivial) (dU (mv.map D.int)) [] (by
   rintro pre d rest ed s ⟨us,ms,O2,x9,x10,x11,h1,h2,h3,h4,rfl⟩
   rw[List.nil_append,mU] at ed
   obtain⟨hlt,rfl⟩:=oK ed
   obtain⟨us',ms',O3,y11,eb,h1',h2',h3',h4'⟩:=JW (A:=A) (goods:=goods) (zs:=zs) (c:=c) (v:=mv[pre.length]) (k:=k) (i:=pre.length) (ku:=ku) (km:=ku+1) (mv:=mv) (us:=us) (ms:=ms) (O:=O2) (x11:=x11) nd (by omega) hg (by
    unfold nth
    rw[List.getD_eq_getElem?_getD,List.getElem?_eq_getElem hlt];rfl) hne h1 h2 h3
   refine⟨_,_,by rw[lZ];rfl,.inl eb,us',ms',O3,_,_,_, ?_,h2',h3',by rw[h4' 0 (by omega) (by omega)];exact h4,rfl⟩
   rw[List.length_append,List.length_singleton];exact h1') ⟨woR A goods zs c (some (.int (k:Int))) (some (vI mv)) (some (.ptr ku)) (some (.ptr (ku+1))) x9 x10 x11,O1⟩ ⟨[],[],O1,x9,x10,x11,⟨⟨by simp,by simp,by simp,by simp⟩,⟨by simp,by simp,by simp,by simp⟩,λj _ h=>absurd h (by simp)⟩,cu,cm,c0,rfl⟩
 rw[List.nil_append,show (dU (mv.map D.int)).length=goods.length by rw[mU];simp[hl]] at hw
 have hf:eR (dk (ae (aa 6) ak)) (dG (ba (aB 9) (ba (aB 10) dO)) 2) iO ⟨woR A goods zs c (some (.int (k:Int))) (some (vI mv)) (some (.ptr ku)) (some (.ptr (ku+1))) x9 x10 x11,O1⟩=.next ⟨woR A goods zs c (some (.int (k:Int))) (some (vI mv)) (some (.ptr ku)) (some (.ptr (ku+1))) x9' x10' x11',O2⟩:=by
  refine(dg (ds:=dU (mv.map D.int)) (k:=none) (s1:=⟨woR A goods zs c (some (.int (k:Int))) (some (vI mv)) (some (.ptr ku)) (some (.ptr (ku+1))) x9 x10 x11,O1⟩) ?_).trans (el.trans (by rw[hs']))
  rw[ky,aG (af rfl) (aF _),aj]
 have chgs:∀us':List (Str×Int),(∀g,sumOf g us'=sumOf g us)->goods.map (chg ⟨zs[k],us',ms⟩)=mv:=λus' hs=>by
  refine List.ext_getElem (by simp[hl]) λj h1 h2=> ?_
  have hj:j<goods.length:=by simpa using h1
  rw[List.getElem_map]
  show sumOf goods[j] ms-sumOf goods[j] us'=_
  rw[hs,hw.s j hj hj]
  unfold nth
  rw[List.getD_eq_getElem?_getD,List.getElem?_eq_getElem h2];rfl
 have ulen:=hw.u.len
 have mlen:=hw.m.len
 have t:bj (ao eqD (aQ 3 aK (ae (ao bz (aa 3) (aa 5)) (ae (aq (.int 90)) (ae (aq (.int 2)) ak)))) (aq (.int 1))) ⟨woR A goods zs c (some (.int (k:Int))) (some (vI mv)) (some (.ptr ku)) (some (.ptr (ku+1))) x9' x10' x11',O2⟩=.ok (decide (bN (c+(k:Int)) 90 2=1),⟨woR A goods zs c (some (.int (k:Int))) (some (vI mv)) (some (.ptr ku)) (some (.ptr (ku+1))) x9' x10' x11',O2⟩):=eq_test (fT (aN (af rfl) (af rfl) (bX _ _)) (aA _ _) (aA _ _) (by decide))
 generalize bN (c+(k:Int)) 90 2=p at t
 by_cases hp:p=1
 ·have er:AG uG (aa 7) iM iM (part (unM lH (aq (.int 1)))) ⟨woR A goods zs c (some (.int (k:Int))) (some (vI mv)) (some (.ptr ku)) (some (.ptr (ku+1))) x9' x10' x11',O2⟩=.ok (psD us.reverse,⟨woR A goods zs c (some (.int (k:Int))) (some (vI mv)) (some (.ptr ku)) (some (.ptr (ku+1))) x9' x10' x11',O2⟩):=by
   unfold AG
   rw[af (i:=7) rfl,aj]
   dsimp only
   rw[qc,aj]
   dsimp only
   rw[qc,aj]
   dsimp only
   rw[Ax (wb (aA _ _) (qL _)),aj]
   dsimp only
   rw[nX hu]
   dsimp only
   rw[if_neg (by decide),Gh,<- List.map_reverse]
   rfl
  refine⟨⟨zs[k],us.reverse,ms⟩,(O2.set (ku+1) .dead).set 0 (.lst (W.map wD++[wD ⟨zs[k],us.reverse,ms⟩])),some (psD us.reverse),some (.ptr (ku+1)),x9',x10',x11', ?_,(by rw[List.map_append];exact eY (c':=.lst (W.map wD)) (by rw[cg (by omega)];exact h0)),rfl,⟨⟨hw.u.parts.rev,by simp;omega⟩,⟨hw.m.parts,by show ms.length<=100;omega⟩⟩,chgs _ λg=>Fs g us⟩
  rw[iF]
  refine aU e7 (aU e8 (aU hf (aU (mw t (decide_eq_true hp) (bE (R':=woR A goods zs c (some (.int (k:Int))) (some (vI mv)) (some (psD us.reverse)) (some (.ptr (ku+1))) x9' x10' x11') er rfl)) (cF (kZ (af rfl) h0 (yF (aG (aN (af rfl) (af rfl) (DL hk)) (aG (GQ (af rfl)) (aG (qv (af rfl) hm rfl) (aF _)))) (by simp)) (by rw[cg (by omega)];exact h0) (by simp;omega) rfl)))))
 ·refine⟨⟨zs[k],us,ms⟩,((O2.set ku .dead).set (ku+1) .dead).set 0 (.lst (W.map wD++[wD ⟨zs[k],us,ms⟩])),some (.ptr ku),some (.ptr (ku+1)),x9',x10',x11', ?_,(by rw[List.map_append];exact eY (c':=.lst (W.map wD)) (by rw[cg (by omega),cg (by omega)];exact h0)),rfl,⟨⟨hw.u.parts,by show us.length<=100;omega⟩,⟨hw.m.parts,by show ms.length<=100;omega⟩⟩,chgs _ λg=>rfl⟩
  rw[iF]
  refine aU e7 (aU e8 (aU hf (aU (gJ t (decide_eq_false hp) (dy _)) (cF (kZ (af rfl) h0 (yF (aG (aN (af rfl) (af rfl) (DL hk)) (aG (G7 (af rfl) hu) (aG (qv (af rfl) (by rw[cg (by omega)];exact hm) rfl) (aF _)))) (by simp)) (by rw[cg (by omega),cg (by omega)];exact h0) (by simp;omega) rfl)))))
theorem EB{A:List (List Int)}{goods zs:List Str}(c:Int)(nd:goods.Nodup)(hg:goods.length<=100)(ha:∀l∈A,l.length=goods.length)(hz:A.length<=zs.length)(al:A.length<=100):
 ∃ws O,fM [vII A,sD goods,sD zs,.int c] []=.ok (wsD ws,O)/\ws.map (·.nm)=zs.take A.length/\(∀w∈ws,Dd goods w)/\ws.map (λw=>goods.map (chg w))=A:=by
 obtain⟨s',el,W,O,x5,x6,x7,x8,x9,x10,x11,h1,h2,h3,hO,hs'⟩:=dW (ok:=okC (dU (A.map vI)) none) (g:=dG (ba (aB 5) (ba (aB 6) dO)) 2) (body:=iF)
  (λpre s=>∃(W:List Wk) (O:au) (x5 x6 x7 x8 x9 x10 x11:Option D),W.map (·.nm)=zs.take pre.length/\(∀w∈W,Dd goods w)/\W.map (λw=>goods.map (chg w))=A.take pre.length/\O[0]? =some (.lst (W.map wD))/\s=⟨woR A goods zs c x5 x6 x7 x8 x9 x10 x11,O⟩) (λ_ _ _=>trivial) (dU (A.map vI)) [] (by
   rintro pre d rest ed s ⟨W,O,x5,x6,x7,x8,x9,x10,x11,h1,h2,h3,h4,rfl⟩
   rw[List.nil_append,mU] at ed
   obtain⟨hlt,rfl⟩:=oK ed
   have wl:W.length<=1000:=by
    have:=congrArg List.length h3
    simp at this
    omega
   obtain⟨w,O',y7,y8,y9,y10,y11,eb,h4',n1,mk,ch⟩:=HR (A:=A) (goods:=goods) (zs:=zs) (c:=c) (k:=pre.length) (mv:=A[pre.length]) (W:=W) (O:=O) (x7:=x7) (x8:=x8) (x9:=x9) (x10:=x10) (x11:=x11) nd hg (by omega) (ha _ (List.getElem_mem _)) wl h4
   refine⟨_,_,by rw[lZ];rfl,.inl eb,W++[w],O',_,_,_,_,_,_,_, ?_,λz hz'=> ?_, ?_,h4',rfl⟩
   ·rw[List.length_append,List.length_singleton,List.map_append,h1,List.map_cons,List.map_nil,n1,List.take_add_one,List.getElem?_eq_getElem (by omega)];rfl
   ·rcases List.mem_append.mp hz' with q | q
    ·exact h2 z q
    ·rw[List.mem_singleton.mp q];exact mk
   ·rw[List.length_append,List.length_singleton,List.map_append,h3,List.map_cons,List.map_nil,ch,List.take_add_one,List.getElem?_eq_getElem hlt];rfl) ⟨woR A goods zs c none none none none none none none,[.lst []]⟩ ⟨[],[.lst []],none,none,none,none,none,none,none,by simp,by simp,by simp,rfl,rfl⟩
 have len:(([]:List D)++dU (A.map vI)).length=A.length:=by rw[List.nil_append,mU];simp
 rw[len] at h1 h3
 rw[List.take_length] at h3
 refine⟨W,O.set 0 .dead, ?_,h1,h2,h3⟩
 refine fg (R:=woR A goods zs c x5 x6 x7 x8 x9 x10 x11) ?_
 show j9 ⟨[some (vII A),some (sD goods),some (sD zs),some (.int c),none,none,none,none,none,none,none,none],[]⟩=_
 rw[j9]
 refine aU (bE (R':=woR A goods zs c none none none none none none none) (oa (aF _) (by simp) rfl rfl) rfl) (aU ?_ (bR (qv (af rfl) hO rfl)))
 refine(dg (ds:=dU (A.map vI)) (k:=none) (s1:=⟨woR A goods zs c none none none none none none none,[.lst []]⟩) ?_).trans (el.trans (by rw[hs']))
 rw[ky,aG (af rfl) (aF _),aj];rfl
theorem Nz{goods:List Str}{ws:List Wk}{f:Str}{d:D}{R:List (Option D)}{O:au}{i:Nat}(h:R[i]? =some (some (yD goods ws)))(hd:pj f FN (yDs goods ws)=some d):oi 0 f (aa i) ⟨R,O⟩=.ok (d,⟨R,O⟩):=MU (af h) hd
theorem Cp(goods:List Str)(ws:List Wk):aM [yD goods ws]=true:=by
 show (aM (yDs goods ws)&&true)=true
 rw[pX];rfl
theorem ET(goods:List Str){ws:List Wk}(h:ws.length<=1000):jy [yD goods ws] []=.ok (sD (ws.map (·.nm)),[]):=by
 refine fg (R:=[some (yD goods ws)]) ?_
 show jz ⟨[some (yD goods ws)],[]⟩=_
 rw[jz]
 have e:=dJ (l:=ws) (item:=wD) (out:=λw=>.str w.nm) (caps:=[]) (im:=listI (oi 0 "held_works" (aa 0))) (e:=ao ixD (aa 0) (aq (.int 0))) (k:=none) (s:=⟨[some (yD goods ws)],[]⟩) (by rw[di,Nz (i:=0) rfl rfl,aj];rfl) trivial (by omega) (λw _=>aN (af rfl) (aA _ _) rfl)
 rw[show ws.map (λw=>D.str w.nm)=(ws.map (·.nm)).map D.str by rw[List.map_map];rfl] at e
 exact bR e
abbrev chL(goods:List Str)(ws:List Wk):List (List Int):=ws.map λw=>goods.map (chg w)
theorem EA{goods:List Str}{ws:List Wk}{f:Str}{d:D}{R:List (Option D)}{O:au}{i:Nat}(h:R[i]? =some (some (yD goods ws)))(hd:pj f FN (yDs goods ws)=some d):oi 0 f (aa i) ⟨R,O⟩=.ok (d,⟨R,O⟩):=by
 rw[CI,af h,aj]
 dsimp only
 rw[if_pos rfl,hd]
def lM(goods:List Str)(ws:List Wk)(k:Nat):List Int:=ws.map λw=>nth (goods.map (chg w)) k
theorem KQ{goods:List Str}{ws:List Wk}{k:Nat}(hk:k<goods.length)(h2:ws.length<=1000):jS [yD goods ws,.int (k:Int)] []=.ok (vI (lM goods ws k),[]):=by
 have hc:=dJ (l:=ws.map λw=>goods.map (chg w)) (item:=vI) (out:=λr=>.int (nth r k)) (caps:=[1]) (im:=listI (oi 0 "held_changes" (aa 0))) (e:=ao ixD (aa 0) (aa 1)) (k:=none) (s:=⟨[some (yD goods ws),some (.int (k:Int))],[]⟩) (by
  rw[di,EA (d:=vII (ws.map λw=>goods.map (chg w))) rfl (by rfl)];rfl) trivial (by rw[List.length_map];omega) (λr hr=>by
  obtain⟨w,_,rfl⟩:=List.mem_map.mp hr
  rw[eM,af (i:=0) rfl,aj,af (i:=1) rfl,aj]
  dsimp only
  rw[tQ (by rw[List.length_map];exact hk)];rfl)
 rw[show (ws.map λw=>goods.map (chg w)).map (λr=>D.int (nth r k))=(lM goods ws k).map D.int by unfold lM;rw[List.map_map,List.map_map];rfl] at hc
 refine eH (s:=⟨[some (yD goods ws),some (.int (k:Int))],[]⟩) ?_
 show kY ⟨[some (yD goods ws),some (.int (k:Int))],[]⟩=_
 rw[kY]
 exact bR hc
def gT(goods:List Str)(ws:List Wk):List (List Int):=(List.range goods.length).map (lM goods ws)
theorem IY{goods:List Str}{ws:List Wk}(h1:goods.length<=1000)(h2:ws.length<=1000):ko [yD goods ws] []=.ok (vII (gT goods ws),[]):=by
 have hc:=dJ (l:=List.range goods.length) (item:=λ(i:Nat)=>D.int (i:Int)) (out:=λk=>vI (lM goods ws k)) (caps:=[0]) (im:=cY (ae (aW bL (ae (oi 0 "held_goods" (aa 0)) ak)) ak)) (e:=methP 0 "row" 1 jS (aa 1) (ae (aa 0) ak)) (k:=none) (s:=⟨[some (yD goods ws)],[]⟩) (by
  rw[ee (n:=goods.length) (s1:=⟨[some (yD goods ws)],[]⟩) (by
   rw[aY,i8,aY,EA (d:=sD goods) rfl (by rfl),aj,aF,aj,aj]
   dsimp only
   rw[gN,List.length_map];rfl) (by omega),eS]) trivial (pG (by rw[List.length_range];omega)) (λk hk=>
  AJ (ns:=FN) (ds:=yDs goods ws) (args:=[.int (k:Int)]) (af rfl) (by decide) (pX _ _) (by rw[aY,af (i:=0) rfl];rfl) (by simp) rfl (KQ (List.mem_range.mp hk) h2) (by generalize lM goods ws k=r;simp))
 rw[show (List.range goods.length).map (λk=>vI (lM goods ws k))=(gT goods ws).map vI by unfold gT;rw[List.map_map];rfl] at hc
 refine eH (s:=⟨[some (yD goods ws)],[]⟩) ?_
 show kq ⟨[some (yD goods ws)],[]⟩=_
 rw[kq]
 exact bR hc
theorem JE{goods:List Str}{ws:List Wk}{k:Nat}(hk:k<goods.length){x:Int}(h:x∈lM goods ws k):∃w∈ws,∃g∈goods,x=chg w g:=by
 unfold lM at h
 obtain⟨w,hw,rfl⟩:=List.mem_map.mp h
 have hm:=wg (r:=goods.map (chg w)) (i:=k) (by rw[List.length_map];exact hk)
 obtain⟨g,hg,e⟩:=List.mem_map.mp hm
 exact⟨w,hw,g,hg,e.symm⟩
theorem wL(n:Nat):∀A:List (List Int),fD n (A.map vI)=A.map vI
 | []=>by simp[fD]
 | x::A=>by
  show fD n (vI x::A.map vI)=_
  unfold fD
  rw[wL n A]
  have:shD n (vI x)=vI x:=by unfold shD;rw[mO]
  rw[this];rfl
theorem qH(V:List (List Int)):(mx V).Perm V:=by
 unfold mx
 have:=(gD (V.map λx=>((),x))).map (·.2)
 rw[List.map_map,show ((λx:Unit×List Int=>x.2)∘λx=>((),x))=id from rfl,List.map_id] at this
 exact this
theorem GZ{O:au}{L:List (Nat×List Int)}(h:Sto O L)(A:List (List Int)):neD O (.lst (bP L)) (vII A)=.ok (.bl (!decide (L.map (·.2)=A))):=by
 have e:=Hm h A
 unfold eqD at e
 unfold neD
 cases q:eqB O (.lst (bP L)) (vII A) with
 | none=>rw[q] at e;cases e
 | some b=>
  rw[q] at e
  have:b=decide (L.map (·.2)=A):=by
   cases e
   rfl
  rw[this]
theorem Hy{goods:List Str}{ws:List Wk}(g4:goods.length<=5)(w6:ws.length<=7)(hs:fH 90 (chL goods ws)):∃d O Q,lF [yD goods ws] []=.ok (.ptr d,O)/\O[d]? =some (.lst (bP Q))/\Sto O Q/\(∀p∈Q,p.1≠d)/\Q.length<64/\(Q.map (·.2)).Nodup/\mx (Q.map (·.2))=Q.map (·.2)/\∀p∈Q,cT ws.length (gT goods ws) p.2/\SzL 8000 p.2:=by
 have lR:∀r∈gT goods ws,r.length=ws.length:=λr hr=>by
  unfold gT at hr
  obtain⟨k,_,rfl⟩:=List.mem_map.mp hr
  unfold lM;simp
 have ro:AA ws.length (gT goods ws):=⟨lR,λr hr x hx=>by
  unfold gT at hr
  obtain⟨k,hk,rfl⟩:=List.mem_map.mp hr
  obtain⟨w,hw,g,hg,rfl⟩:=JE (List.mem_range.mp hk) hx
  exact(hs (goods.map (chg w)) (List.mem_map.mpr ⟨w,hw,rfl⟩) _ (List.mem_map_of_mem hg)).mono (by decide),by unfold gT;simp;omega,w6⟩
 obtain⟨d,Op,Q,ep,hd,sQ,nQ,so,eQ⟩:=Jz ro
 have kn:=rh lR
 have lq:Q.length<64:=by
  have:=kn.few w6
  have e:=congrArg List.length eQ
  rw[List.length_map,(qH _).length_eq] at e
  omega
 have inL:∀p∈Q,p.2∈oB (gT goods ws) ws.length:=λp hp=>(qH _).mem_iff.mp (by rw[<- eQ];exact List.mem_map_of_mem hp)
 have nd:(Q.map (·.2)).Nodup:=by rw[eQ];exact(qH _).nodup_iff.mpr kn.nd
 have so2:mx (Q.map (·.2))=Q.map (·.2):=by rw[<- xG,<- so]
 have mm:(Q.map λp=>(0+p.1,p.2)).map (·.2)=Q.map (·.2):=by rw[List.map_map];rfl
 refine⟨0+d,[]++Op.map (shC 0),Q.map λp=>(0+p.1,p.2), ?_,wB (S:=[]) hd,zp (S:=[]) sQ,λp hp=> ?_,by rw[List.length_map];exact lq,by rw[mm];exact nd,by rw[mm];exact so2,λp hp=> ?_⟩
 ·refine fg (R:=[some (yD goods ws)]) ?_
  show pN ⟨[some (yD goods ws)],[]⟩=_
  rw[pN]
  refine bR (mj (aG (Ck (ns:=FN) (ds:=yDs goods ws) (args:=[]) (af rfl) (aF _) (IY (by omega) (by omega)) (by decide) (pX _ _) rfl rfl (by rw[mV,mW])) (aG (d6 (aG (Ck (ns:=FN) (ds:=yDs goods ws) (args:=[]) (af rfl) (aF _) (ET goods (by omega)) (by decide) (pX _ _) rfl rfl (dA _)) (aF _)) (by rw[gN,List.length_map,List.length_map])) (aF _))) ep (Ij _ rfl) rfl (jM _ _) rfl)
 ·obtain⟨q,hq,rfl⟩:=List.mem_map.mp hp
  have:=nQ q hq
  dsimp only
  omega
 ·obtain⟨q,hq,rfl⟩:=List.mem_map.mp hp
  exact⟨(kn.all _).mp (inL q hq),yW ro (λr hr=>hr) ro.cnt _ (inL q hq)⟩
theorem FE{goods:List Str}{ws:List Wk}{x:List Int}(lx:cT ws.length (gT goods ws) x):gK (chL goods ws) x goods.length=(List.range goods.length).map λ_=>(0:Int):=by
 refine oJ (by rw[qe];simp) λg hg=> ?_
 rw[qe] at hg
 rw[zb hg]
 have z:nth ((List.range goods.length).map λ_=>(0:Int)) g=0:=by
  unfold nth
  rw[List.getD_eq_getElem?_getD,List.getElem?_map,List.getElem?_range hg];rfl
 rw[z]
 have hr:lM goods ws g∈gT goods ws:=by unfold gT;exact List.mem_map.mpr ⟨g,List.mem_range.mpr hg,rfl⟩
 have st:=lx.fit.st _ hr
 have e:lM goods ws g=(chL goods ws).map (nth · g):=by unfold lM chL;rw[List.map_map];rfl
 rw[e] at st
 unfold dF
 rw[<- st,show (chL goods ws).length=ws.length by simp]
 exact bJ λj _=>by rw[pe,Int.mul_comm]
abbrev lR(ns:List Int)(b:Nat)(hd:Int)(n:Nat)(A W:List (List Int))(goods:List Str)(ws:List Wk)(x8 x9 x10:Option D):List (Option D):=[some (vI ns),some (.int (b:Int)),some (.int hd),some (.int (n:Int)),some (vII A),some (vII W),some (sD goods),some (yD goods ws),x8,x9,x10]
structure Dr(n:Nat)(A W:List (List Int))(goods:List Str)(ws:List Wk):Prop where
 gl:goods.length=n
 n4:n<=4
 al:A.length<=6
 mv:MvI n 90 A W
 ch:chL goods ws=A
theorem HV(ns:List Int)(b:Nat)(x2 x3 x4 x5 x6 x7 x8 x9 x10:Option D)(O:au)(m:SM)(C:Out->Prop)(hm:∀hd n A W goods ws O',Dr n A W goods ws->∃o,m ⟨lR ns b hd n A W goods ws x8 x9 x10,O'⟩=o/\C o):
 ∃o,aP (setM 2 (aQ 2 da (ae (aa 0) (ae (aa 1) ak)))) (aP (setM 3 (ao bz (aq (.int 1)) (aQ 3 aK (ae (aa 2) (ae (aq (.int 45)) (ae (aq (.int 4)) ak)))))) (aP (m5 (wm (gc 3 fL (ae (aa 0) (ae (aa 1) (ae (aa 3) ak))))) (dG (ba (aB 4) (ba (aB 5) dO)) 2)) (aP (setM 6 (aQ 2 df (ae (ao bz (aa 2) (aq (.int 1))) (ae (aa 3) ak)))) (aP (setM 7 (sU 0 2 gO (ae (aa 6) (ae (aQ 4 fM (ae (aa 4) (ae (aa 6) (ae (aQ 2 df (ae (aa 2) (ae (aW bL (ae (aa 4) ak)) ak))) (ae (aa 2) ak))))) ak)))) m)))) ⟨[some (vI ns),some (.int (b:Int)),x2,x3,x4,x5,x6,x7,x8,x9,x10],O⟩=o/\C o:=by
 obtain⟨hd,k0,_⟩:=vU ns b
 obtain⟨n0,hn,n6⟩:=sM hd 45 (m:=4) (by decide)
 have hn:bN hd 45 4=(n0:Int):=hn
 obtain⟨n,en⟩:∃n,n=1+n0:=⟨_,rfl⟩
 have e2:setM 2 (aQ 2 da (ae (aa 0) (ae (aa 1) ak))) ⟨[some (vI ns),some (.int (b:Int)),x2,x3,x4,x5,x6,x7,x8,x9,x10],O⟩=.next ⟨[some (vI ns),some (.int (b:Int)),some (.int hd),x3,x4,x5,x6,x7,x8,x9,x10],O⟩:=bE (iV (aG (af rfl) (aG (af rfl) (aF _))) k0 (by simp) rfl rfl) rfl
 have e3:setM 3 (ao bz (aq (.int 1)) (aQ 3 aK (ae (aa 2) (ae (aq (.int 45)) (ae (aq (.int 4)) ak))))) ⟨[some (vI ns),some (.int (b:Int)),some (.int hd),x3,x4,x5,x6,x7,x8,x9,x10],O⟩=.next ⟨[some (vI ns),some (.int (b:Int)),some (.int hd),some (.int (n:Int)),x4,x5,x6,x7,x8,x9,x10],O⟩:=by
  have:(n:Int)=1+bN hd 45 4:=by rw[hn,en];omega
  rw[this]
  exact bE (aN (aA _ _) (fT (af rfl) (aA _ _) (aA _ _) (by decide)) (bX _ _)) rfl
 obtain⟨A,W,Om,kf,em,hA,hW,k1,mv,al,_⟩:=He ns b (n:=n) (by omega)
 have cA:(O++Om.map (shC O.length))[O.length+0]? =some (.lst (A.map vI)):=by
  rw[List.getElem?_append_right (by omega),Nat.add_sub_cancel_left,List.getElem?_map,hA]
  simp only[Option.map_some,nW,wL]
 have cW:(O++Om.map (shC O.length))[O.length+kf]? =some (.lst (W.map vI)):=by
  rw[List.getElem?_append_right (by omega),Nat.add_sub_cancel_left,List.getElem?_map,hW]
  simp only[Option.map_some,nW,wL]
 have ec:gc 3 fL (ae (aa 0) (ae (aa 1) (ae (aa 3) ak))) ⟨[some (vI ns),some (.int (b:Int)),some (.int hd),some (.int (n:Int)),x4,x5,x6,x7,x8,x9,x10],O⟩=.ok (.tup [.ptr (O.length+0),.ptr (O.length+kf)],⟨[some (vI ns),some (.int (b:Int)),some (.int hd),some (.int (n:Int)),x4,x5,x6,x7,x8,x9,x10],O++Om.map (shC O.length)⟩):=mj (aG (af rfl) (aG (af rfl) (aG (af rfl) (aF _)))) em (by simp) rfl (by simp[shD,fD]) rfl
 generalize O++Om.map (shC O.length)=O1 at cA cW ec
 have ne:O.length+0≠O.length+kf:=by omega
 generalize O.length+0=ka at cA ec ne
 generalize O.length+kf=kw at cW ec ne
 have fz:pC [.ptr ka,.ptr kw] O1=some ([vII A,vII W],(O1.set ka .dead).set kw .dead):=by
  unfold pC
  rw[cA]
  dsimp only
  unfold pC
  rw[cg ne,cW]
  rfl
 have e4:m5 (wm (gc 3 fL (ae (aa 0) (ae (aa 1) (ae (aa 3) ak))))) (dG (ba (aB 4) (ba (aB 5) dO)) 2) ⟨[some (vI ns),some (.int (b:Int)),some (.int hd),some (.int (n:Int)),x4,x5,x6,x7,x8,x9,x10],O⟩=.next ⟨[some (vI ns),some (.int (b:Int)),some (.int hd),some (.int (n:Int)),some (vII A),some (vII W),x6,x7,x8,x9,x10],(O1.set ka .dead).set kw .dead⟩:=MG (JO ec fz) (by rw[lZ];rfl)
 generalize (O1.set ka Cell.dead).set kw Cell.dead=O2 at e4
 obtain⟨goods,Og,eg,gl,gg,gnd⟩:=zD (hd+1) (n:=n) (by omega)
 have e6:setM 6 (aQ 2 df (ae (ao bz (aa 2) (aq (.int 1))) (ae (aa 3) ak))) ⟨[some (vI ns),some (.int (b:Int)),some (.int hd),some (.int (n:Int)),some (vII A),some (vII W),x6,x7,x8,x9,x10],O2⟩=.next ⟨[some (vI ns),some (.int (b:Int)),some (.int hd),some (.int (n:Int)),some (vII A),some (vII W),some (sD goods),x7,x8,x9,x10],O2⟩:=bE (iV (aG (aN (af rfl) (aA _ _) (bX _ _)) (aG (af rfl) (aF _))) eg rfl rfl (dA _)) rfl
 obtain⟨zs,Oz,ez,zl,zg,znd⟩:=zD hd (n:=A.length) (by omega)
 obtain⟨ws,Oo,eo,wnm,wmk,wch⟩:=EB (A:=A) (goods:=goods) (zs:=zs) hd gnd (by omega) (λl hl=>by rw[mv.len l hl,gl]) (by omega) (by omega)
 have wnm':ws.map (·.nm)=zs:=by rw[wnm,List.take_of_length_le (by omega)]
 have wsl:ws.length=A.length:=by have:=congrArg List.length wch;simpa using this
 have wok:wQ goods ws:=⟨λw hw=>zg _ (by rw[<- wnm'];exact List.mem_map_of_mem hw),by rw[wnm'];exact znd,λw hw=>(wmk w hw).us,λw hw=>(wmk w hw).ms⟩
 have pws:cK (wsD ws)=true:=lC ws
 have e7:setM 7 (sU 0 2 gO (ae (aa 6) (ae (aQ 4 fM (ae (aa 4) (ae (aa 6) (ae (aQ 2 df (ae (aa 2) (ae (aW bL (ae (aa 4) ak)) ak))) (ae (aa 2) ak))))) ak))) ⟨[some (vI ns),some (.int (b:Int)),some (.int hd),some (.int (n:Int)),some (vII A),some (vII W),some (sD goods),x7,x8,x9,x10],O2⟩=.next ⟨lR ns b hd n A W goods ws x8 x9 x10,O2⟩:=by
  have ecn:aQ 2 df (ae (aa 2) (ae (aW bL (ae (aa 4) ak)) ak)) ⟨[some (vI ns),some (.int (b:Int)),some (.int hd),some (.int (n:Int)),some (vII A),some (vII W),some (sD goods),x7,x8,x9,x10],O2⟩=.ok (sD zs,⟨[some (vI ns),some (.int (b:Int)),some (.int hd),some (.int (n:Int)),some (vII A),some (vII W),some (sD goods),x7,x8,x9,x10],O2⟩):=iV (aG (af rfl) (aG (d6 (aG (af rfl) (aF _)) (by rw[gN,List.length_map])) (aF _))) ez rfl rfl (dA _)
  have pwk:aM [vII A,sD goods,sD zs,.int hd]=true:=by
   rw[fK,mV,mW]
   show (true&&(aM (goods.map D.str)&&(aM (zs.map D.str)&&(true&&true))))=true
   rw[dA,dA];rfl
  have ecw:aQ 4 fM (ae (aa 4) (ae (aa 6) (ae (aQ 2 df (ae (aa 2) (ae (aW bL (ae (aa 4) ak)) ak))) (ae (aa 2) ak)))) ⟨[some (vI ns),some (.int (b:Int)),some (.int hd),some (.int (n:Int)),some (vII A),some (vII W),some (sD goods),x7,x8,x9,x10],O2⟩=.ok (wsD ws,⟨[some (vI ns),some (.int (b:Int)),some (.int hd),some (.int (n:Int)),some (vII A),some (vII W),some (sD goods),x7,x8,x9,x10],O2⟩):=iV (aG (af rfl) (aG (af rfl) (aG ecn (aG (af rfl) (aF _))))) eo pwk rfl pws
  have pyd:aM [sD goods,wsD ws]=true:=by
   show (aM (goods.map D.str)&&(aM (ws.map wD)&&true))=true
   rw[dA,lC];rfl
  exact tm (i:=7) (s':=⟨[some (vI ns),some (.int (b:Int)),some (.int hd),some (.int (n:Int)),some (vII A),some (vII W),some (sD goods),x7,x8,x9,x10],O2⟩) (Hb (args:=[sD goods,wsD ws]) (aG (af rfl) (aG ecw (aF _))) pyd rfl (JJ gg gnd wok (by omega) (by omega)) (pX _ _))
 obtain⟨o,eo',ho⟩:=hm hd n A W goods ws O2 ⟨gl,by omega,al,mv,wch⟩
 exact⟨o,aU e2 (aU e3 (aU e4 (aU e6 (aU e7 eo')))),ho⟩
theorem EY{ns:List Int}{b n:Nat}{hd:Int}{A W:List (List Int)}{goods:List Str}{ws:List Wk}{d1 k:Nat}{x:List Int}{O:au}{x10:Option D}(dr:Dr n A W goods ws)(hk:O[k]? =some (.lst (x.map D.int)))(lx:cT ws.length (gT goods ws) x)(zx:SzL 8000 x)(wsl:ws.length=A.length):
 ∃E,pO ⟨lR ns b hd n A W goods ws (some (.ptr d1)) (some (.ptr k)) x10,O⟩=.next ⟨lR ns b hd n A W goods ws (some (.ptr d1)) (some (.ptr k)) x10,(O++E).set O.length .dead⟩:=by
 have n4:=dr.n4
 have al:=dr.al
 have lz:gK A x n=(List.range n).map λ_=>(0:Int):=by
  have:=FE lx
  rw[dr.ch,dr.gl] at this
  exact this
 have ls:=J8 (A:=A) (way:=x) (n:=n) (by omega) (by omega) dr.mv.len (by rw[lx.fit.len,wsl]) zx dr.mv.sz
 rw[lz] at ls
 have ra:bA O (bA O [vII A,.ptr k,.int (n:Int)])=[vII A,vI x,.int (n:Int)]:=by
  have q:M.res O (vII A)=vII A:=by rw[iZ,tL]
  rw[dC,dC,dC,dC,dC,q,q,kW hk,dC,ju,ju,pT,pT]
  simp only[iZ,m9]
 have pr:aM [vII A,vI x,.int (n:Int)]=true:=by
  rw[fK,mV,mW];simp
 have ec:qo 3 j3 (ae (aa 4) (ae (aa 9) (ae (aa 3) ak))) ⟨lR ns b hd n A W goods ws (some (.ptr d1)) (some (.ptr k)) x10,O⟩=.ok (.ptr O.length,⟨lR ns b hd n A W goods ws (some (.ptr d1)) (some (.ptr k)) x10,O++[Cell.lst (((List.range n).map λ_=>(0:Int)).map D.int)]⟩):=by
  refine CT (aG (af rfl) (aG (af rfl) (aG (af rfl) (aF _)))) ra ls pr rfl rfl ?_ (jM _ _) ?_
  ·show (List.all [Cell.lst (((List.range n).map λ_=>(0:Int)).map D.int)] sO)=true
   generalize (List.range n).map (λ_=>(0:Int))=zz
   simp[sO]
   intro x _;rfl
  ·simp only[List.map_cons,List.map_nil,nW,mO]
 have ez:=dJ (l:=List.range n) (item:=λi:Nat=>D.int (i:Int)) (out:=λ_=>.int 0) (caps:=[]) (im:=cY (ae (aa 3) ak)) (e:=aq (.int 0)) (k:=none) (s:=⟨lR ns b hd n A W goods ws (some (.ptr d1)) (some (.ptr k)) x10,(O++[Cell.lst (((List.range n).map λ_=>(0:Int)).map D.int)]).set O.length .dead⟩) (by
  rw[<- eS]
  exact ee (aG (af rfl) (aF _)) (by omega)) trivial (by simp;omega) (λ_ _=>aA _ _)
 rw[show (List.range n).map (λ_=>D.int 0)=((List.range n).map λ_=>(0:Int)).map D.int by rw[List.map_map];rfl] at ez
 have cz:(O++[Cell.lst (((List.range n).map λ_=>(0:Int)).map D.int)])[O.length]? =some (.lst (((List.range n).map λ_=>(0:Int)).map D.int)):=jl
 refine⟨[Cell.lst (((List.range n).map λ_=>(0:Int)).map D.int)], ?_⟩
 generalize (List.range n).map (λ_=>(0:Int))=zz at ec ez cz
 have ef:=qv ec cz rfl
 rw[pO]
 exact gJ (ft (aN ef ez (HM _ _))) (by rw[decide_eq_true rfl];rfl) (dy _)
theorem AV(ns:List Int)(b:Nat)(x2 x3 x4 x5 x6 x7 x8 x9 x10:Option D)(O0:au):∃O' y2 y3 y4 y5 y6 y7 y8 y9 y10,sT ⟨[some (vI ns),some (.int (b:Int)),x2,x3,x4,x5,x6,x7,x8,x9,x10],O0⟩=.next ⟨[some (vI ns),some (.int (b:Int)),y2,y3,y4,y5,y6,y7,y8,y9,y10],O'⟩:=by
 suffices main:∃o,sT ⟨[some (vI ns),some (.int (b:Int)),x2,x3,x4,x5,x6,x7,x8,x9,x10],O0⟩=o/\∃O' y2 y3 y4 y5 y6 y7 y8 y9 y10,o=Out.next ⟨[some (vI ns),some (.int (b:Int)),y2,y3,y4,y5,y6,y7,y8,y9,y10],O'⟩ by
  obtain⟨o,h,O',y2,y3,y4,y5,y6,y7,y8,y9,y10,rfl⟩:=main
  exact⟨O',y2,y3,y4,y5,y6,y7,y8,y9,y10,h⟩
 rw[sT]
 refine HV ns b x2 x3 x4 x5 x6 x7 x8 x9 x10 O0 _ _ λhd n A W goods ws O00 dr=> ?_
 have chA:=dr.ch
 have wsl:ws.length=A.length:=by have:=congrArg List.length chA;simpa using this
 have n4:=dr.n4
 have al:=dr.al
 have gl:=dr.gl
 obtain⟨d,Op,Q,ep,hd0,sQ,nQ,few,nd,so,lo⟩:=Hy (goods:=goods) (ws:=ws) (by omega) (by omega) (by rw[chA];exact dr.mv.sz)
 have e8:setM 8 (gc 1 lF (ae (aa 7) ak)) ⟨lR ns b hd n A W goods ws x8 x9 x10,O00⟩=.next ⟨lR ns b hd n A W goods ws (some (.ptr (O00.length+d))) x9 x10,O00++Op.map (shC O00.length)⟩:=bE (mj (aG (af rfl) (aF _)) ep (Cp _ _) rfl (jM _ _) rfl) rfl
 have hd1:=wB (S:=O00) hd0
 have sQ1:=zp (S:=O00) sQ
 have nQ1:∀p∈Q.map (λp=>(O00.length+p.1,p.2)),p.1≠O00.length+d:=λp hp=>by
  obtain⟨q,hq,rfl⟩:=List.mem_map.mp hp
  have:=nQ q hq
  dsimp only
  omega
 have mQ1:(Q.map λp=>(O00.length+p.1,p.2)).map (·.2)=Q.map (·.2):=by rw[List.map_map];rfl
 have lQ1:(Q.map λp=>(O00.length+p.1,p.2)).length=Q.length:=by simp
 have lo1:∀p∈Q.map (λp=>(O00.length+p.1,p.2)),cT ws.length (gT goods ws) p.2/\SzL 8000 p.2:=λp hp=>by
  obtain⟨q,hq,rfl⟩:=List.mem_map.mp hp
  exact lo q hq
 generalize O00++Op.map (shC O00.length)=O1 at e8 hd1 sQ1
 generalize (Q.map λp=>(O00.length+p.1,p.2))=Q1 at hd1 sQ1 nQ1 mQ1 lQ1 lo1
 generalize O00.length+d=d1 at e8 hd1 nQ1
 obtain⟨Oa,ea⟩:=Er (n:=ws.length) (R:=gT goods ws) (Ls:=Q.map (·.2)) (λx hx=>by
  obtain⟨p,hp,rfl⟩:=List.mem_map.mp hx
  exact(lo p hp).1) nd (by rw[List.length_map];exact few) so (by omega)
 have e9:ifS (mX (bj (iy 2 fQ (ae (aa 8) (ae (aW bL (ae (aa 4) ak)) ak))))) (cv (aq (.bl false))) cL ⟨lR ns b hd n A W goods ws (some (.ptr d1)) x9 x10,O1⟩=.next ⟨lR ns b hd n A W goods ws (some (.ptr d1)) x9 x10,O1⟩:=by
  have r1:bA O1 (bA O1 [.ptr d1,.int (ws.length:Int)])=[vII (Q.map (·.2)),.int (ws.length:Int)]:=by rw[dC,dC,dC,Gp hd1 sQ1,mQ1,dC,ju,ju,pT,pT]
  have c1:iy 2 fQ (ae (aa 8) (ae (aW bL (ae (aa 4) ak)) ak)) ⟨lR ns b hd n A W goods ws (some (.ptr d1)) x9 x10,O1⟩=.ok (.bl true,⟨lR ns b hd n A W goods ws (some (.ptr d1)) x9 x10,O1⟩):=wy (ds:=[.ptr d1,.int (ws.length:Int)]) (aG (af rfl) (aG (d6 (aG (af rfl) (aF _)) (by rw[gN,List.length_map,wsl])) (aF _))) r1 ea (Ij _ rfl) rfl rfl
  exact gJ (yG (ft c1)) rfl (dy _)
 obtain⟨s',el,y9,O2,hd2,sQ2,hs'⟩:=rk (ok:=okC (bP Q1) (some d1)) (g:=aB 9) (body:=pO)
  (λs=>∃x9 O,O[d1]? =some (.lst (bP Q1))/\Sto O Q1/\s=⟨lR ns b hd n A W goods ws (some (.ptr d1)) x9 x10,O⟩) (by rintro _ ⟨_,_,h,_,rfl⟩;exact h) (bP Q1) (by
   rintro y hy s ⟨x9,O,h1,h2,rfl⟩
   obtain⟨p,hp,rfl⟩:=List.mem_map.mp hy
   obtain⟨E,e⟩:=EY (ns:=ns) (b:=b) (hd:=hd) (d1:=d1) (x10:=x10) dr (h2 p hp) (lo1 p hp).1 (lo1 p hp).2 wsl
   have l1:=mJ h1
   exact⟨⟨lR ns b hd n A W goods ws (some (.ptr d1)) (some (.ptr p.1)) x10,O⟩,_,rfl,.inl e,_,_,by rw[cg (by omega)];exact eN h1,(h2.app _).set (λq hq=>by have:=h2.lt hq;omega) _,rfl⟩) ⟨lR ns b hd n A W goods ws (some (.ptr d1)) x9 x10,O1⟩ ⟨x9,O1,hd1,sQ1,rfl⟩
 have hf1:=dg (im:=listI (aa 8)) (g:=aB 9) (body:=pO) (s:=⟨lR ns b hd n A W goods ws (some (.ptr d1)) x9 x10,O1⟩) (ds:=bP Q1) (k:=some d1) (s1:=⟨lR ns b hd n A W goods ws (some (.ptr d1)) x9 x10,O1⟩) (jG (af rfl) hd1)
 rw[el,hs'] at hf1
 have e12:=dJ (l:=Q1) (item:=λp=>.ptr p.1) (out:=λp=>vI p.2) (caps:=[]) (im:=listI (aa 8)) (e:=aW iB (ae (aa 0) ak)) (k:=some d1) (s:=⟨lR ns b hd n A W goods ws (some (.ptr d1)) y9 x10,O2⟩) (jG (af rfl) hd2) hd2 (by omega) (λp hp=>d6 (aG (af rfl) (aF _)) (Dg (sQ2 p hp)))
 rw[show Q1.map (λp=>vI p.2)=(Q.map (·.2)).map vI by rw[<- mQ1,List.map_map];rfl] at e12
 obtain⟨z9,O3,eg,hd3⟩:=CG (body:=tw) (g:=aB 9) (λx O=>⟨lR ns b hd n A W goods ws (some (.ptr d1)) x (some (vII (Q.map (·.2)))),O⟩) (λ_ _=>rfl) nQ1 (λ_ _ _=>rfl) (λy O xs hy hl=>by
  rw[tw]
  exact cF (kZ (af rfl) hy (aA _ _) hy hl rfl)) Q1 0 y9 O2 (λ_ h=>h) (by omega) hd2 (λp hp=>⟨_,sQ2 p hp,by
   rw[List.length_map,(lo1 p hp).1.fit.len]
   omega⟩)
 have hf:=dg (im:=listI (aa 8)) (g:=aB 9) (body:=tw) (s:=⟨lR ns b hd n A W goods ws (some (.ptr d1)) y9 (some (vII (Q.map (·.2)))),O2⟩) (ds:=bP Q1) (k:=some d1) (s1:=⟨lR ns b hd n A W goods ws (some (.ptr d1)) y9 (some (vII (Q.map (·.2)))),O2⟩) (jG (af rfl) hd2)
 rw[eg] at hf
 have e14:cR (sR HD (aa 8)) ⟨lR ns b hd n A W goods ws (some (.ptr d1)) z9 (some (vII (Q.map (·.2)))),O3⟩=.next ⟨lR ns b hd n A W goods ws (some (.ptr d1)) z9 (some (vII (Q.map (·.2)))),O3.set d1 (.lst [])⟩:=cF (KR (af rfl) hd3 rfl rfl)
 generalize O3.set d1 (.lst [])=O4 at e14
 have hd4:=wB (S:=O4) hd0
 have sQ4:Sto ((O4++Op.map (shC O4.length)).set (O4.length+d) .dead) (Q.map λp=>(O4.length+p.1,p.2)):=(zp (S:=O4) sQ).set (λp hp=>by
  obtain⟨q,hq,rfl⟩:=List.mem_map.mp hp
  have:=nQ q hq
  dsimp only
  omega) _
 have ne:=GZ sQ4 (Q.map (·.2))
 rw[show (Q.map λp=>(O4.length+p.1,p.2)).map (·.2)=Q.map (·.2) by rw[List.map_map];rfl,decide_eq_true rfl] at ne
 have e15:ifS (bj (ao neD (oC (gc 1 lF (ae (aa 7) ak))) (aa 10))) (cv (aq (.bl false))) cL ⟨lR ns b hd n A W goods ws (some (.ptr d1)) z9 (some (vII (Q.map (·.2)))),O4⟩=.next ⟨lR ns b hd n A W goods ws (some (.ptr d1)) z9 (some (vII (Q.map (·.2)))),(O4++Op.map (shC O4.length)).set (O4.length+d) .dead⟩:=
  gJ (ft (aN (qv (mj (aG (af rfl) (aF _)) ep (Cp _ _) rfl (jM _ _) rfl) hd4 rfl) (af rfl) ne)) rfl (dy _)
 exact⟨_,aU e8 (aU e9 (aU hf1 (aU (bE (R':=lR ns b hd n A W goods ws (some (.ptr d1)) y9 (some (vII (Q.map (·.2))))) e12 rfl) (aU hf (aU e14 e15))))),_,_,_,_,_,_,_,_,_,_,rfl⟩
theorem Gi(ns:List Int)(h:ns.length<=63):∃O,yH [.lst (ns.map D.int)] []=.ok (.bl true,O):=by
 obtain⟨O1,a2,a3,a4,a5,a6,a7,a8,a9,a10,e1⟩:=AV ns 0 none none none none none none none none none []
 obtain⟨O2,b2,b3,b4,b5,b6,b7,b8,b9,b10,e2⟩:=AV ns 5 a2 a3 a4 a5 a6 a7 a8 a9 a10 O1
 refine Cq ⟨⟨[some (vI ns),some (.int 5),b2,b3,b4,b5,b6,b7,b8,b9,b10],O2⟩, ?_⟩
 show DV ⟨[some (vI ns),none,none,none,none,none,none,none,none,none,none],[]⟩=_
 rw[DV]
 refine aU ?_ (bR (aA _ _))
 refine(dg (ds:=[.int 0,.int 5]) (k:=none) (s1:=⟨[some (vI ns),none,none,none,none,none,none,none,none,none,none],[]⟩) ?_).trans ?_
 ·rw[di,tq (aG (aA _ _) (aG (aA _ _) (aF _))) (by simp),aj];rfl
 ·refine(iA (s1:=⟨[some (vI ns),some (.int 0),none,none,none,none,none,none,none,none,none],[]⟩) trivial rfl e1).trans ((iA (s1:=⟨[some (vI ns),some (.int 5),a2,a3,a4,a5,a6,a7,a8,a9,a10],O1⟩) trivial rfl e2).trans ?_)
  rw[cS,if_pos (show okC _ none _ from trivial)];rfl
end Lk21
namespace Lk21
open PySem PySem.Spec PyProof.Rows L2 M
theorem all_mk {l:PySem.W.OpenLaw} {w:World} {K:PySem.W.Frag} {h:Heap} {mg:Str->Option Value} {fa f0 f1 f2 f3 f4 f5 f6 f7 f8 f9 f10 f11 f12 f13 f14 f15 f16 f17 f18 f19 f20 f21 f22 f23 f24 f25 f26 f27 f28 f29 f30 f31 f32 f33 f34 f35 f36 f37 f38 f39 f40 C_Yard:Addr} (X:K.In h) (G:h.Ns mainGlobals mg) (hfa:mg "law" =some (.ref fa)) (hpt:l.prog.given.tree=none)
 {od0 an0 od1 an1 od2 an2 od3 an3 od4 an4 od5 an5 od6 an6 od7 an7 od8 an8 od9 an9 od10 an10 od11 an11 od12 an12 od13 an13 od14 an14 od15 an15 od16 an16 od17 an17 od18 an18 od19 an19 od20 an20 od21 an21 od22 an22 od23 an23 od24 an24 od25 an25 od26 an26 od27 an27 od28 an28 od29 an29 od30 an30 od31 an31 od32 an32 od33 an33 od34 an34 od35 an35 od36 an36 od37 an37 od38 an38 od39 an39 od40 an40:Option Addr} {sl0 sl1 sl2 sl3 sl4 sl5 sl6 sl7 sl8 sl9 sl10 sl11 sl12 sl13 sl14 sl15 sl16 sl17 sl18 sl19 sl20 sl21 sl22 sl23 sl24 sl25 sl26 sl27 sl28 sl29 sl30 sl31 sl32 sl33 sl34 sl35 sl36 sl37 sl38 sl39 sl40:Array (Option Value)} {oc0 kV0 dc0 pm0 cd0 ct0 oc1 kV1 dc1 pm1 cd1 ct1 oc2 kV2 dc2 pm2 cd2 ct2 oc3 kV3 dc3 pm3 cd3 ct3 oc4 kV4 dc4 pm4 cd4 ct4 oc5 kV5 dc5 pm5 cd5 ct5 oc6 kV6 dc6 pm6 cd6 ct6 oc7 kV7 dc7 pm7 cd7 ct7 oc8 kV8 dc8 pm8 cd8 ct8 oc9 kV9 dc9 pm9 cd9 ct9 oc10 kV10 dc10 pm10 cd10 ct10 oc11 kV11 dc11 pm11 cd11 ct11 oc12 kV12 dc12 pm12 cd12 ct12 oc13 kV13 dc13 pm13 cd13 ct13 oc14 kV14 dc14 pm14 cd14 ct14 oc15 kV15 dc15 pm15 cd15 ct15 oc16 kV16 dc16 pm16 cd16 ct16 oc17 kV17 dc17 pm17 cd17 ct17 oc18 kV18 dc18 pm18 cd18 ct18 oc19 kV19 dc19 pm19 cd19 ct19 oc20 kV20 dc20 pm20 cd20 ct20 oc21 kV21 dc21 pm21 cd21 ct21 oc22 kV22 dc22 pm22 cd22 ct22 oc23 kV23 dc23 pm23 cd23 ct23 oc24 kV24 dc24 pm24 cd24 ct24 oc25 kV25 dc25 pm25 cd25 ct25 oc26 kV26 dc26 pm26 cd26 ct26 oc27 kV27 dc27 pm27 cd27 ct27 oc28 kV28 dc28 pm28 cd28 ct28 oc29 kV29 dc29 pm29 cd29 ct29 oc30 kV30 dc30 pm30 cd30 ct30 oc31 kV31 dc31 pm31 cd31 ct31 oc32 kV32 dc32 pm32 cd32 ct32 oc33 kV33 dc33 pm33 cd33 ct33 oc34 kV34 dc34 pm34 cd34 ct34 oc35 kV35 dc35 pm35 cd35 ct35 oc36 kV36 dc36 pm36 cd36 ct36 oc37 kV37 dc37 pm37 cd37 ct37 oc38 kV38 dc38 pm38 cd38 ct38 oc39 kV39 dc39 pm39 cd39 ct39 oc40 kV40 dc40 pm40 cd40 ct40:Value} {t_MOST_LETTERS t_MOST_GOODS t_MOST_WORKS:Tok}
 (aC_Yard:PySem.W.nsIn K mainGlobals "Yard" =some (some (.ref C_Yard)))
 (g1_Yard:PySem.W.plainGet K C_Yard Str.empty=true)
 (g2_Yard:PySem.W.hasDictIn K C_Yard=true)
 (g3_Yard:PySem.W.plainOver K C_Yard=true)
 (g4_Yard:PySem.W.findIn K (.ref C_Yard) "__setattr__" =some (some (.builtin "object.__setattr__")))
 (mk_Yard:PySem.W.makesIn K C_Yard=true)
 (kC_Yard:PySem.W.keepIn K (.ref C_Yard)=true)
 (nf_Yard_held_changes:PySem.W.findIn K (.ref C_Yard) "held_changes" =some none)
 (nf_Yard_held_goods:PySem.W.findIn K (.ref C_Yard) "held_goods" =some none)
 (nf_Yard_held_works:PySem.W.findIn K (.ref C_Yard) "held_works" =some none)
 (a0:PySem.W.nsIn K mainGlobals "is_whole" =some (some (.ref f0)))
 (l0:K.lookup f0=some ⟨oc0,od0,.func (PySem.W.fnOf "is_whole" "is_whole" (br j4) (aZ j4) (aC j4) .none kV0 dc0 pm0 an0 cd0 ct0),sl0⟩)
 (c0:PySem.W.codeIn K cd0 "is_whole" =true)
 (k0:PySem.W.keepIn K (.ref f0)=true)
 (a1:PySem.W.nsIn K mainGlobals "measure_of_two" =some (some (.ref f1)))
 (l1:K.lookup f1=some ⟨oc1,od1,.func (PySem.W.fnOf "measure_of_two" "measure_of_two" (br eV) (aZ eV) (aC eV) .none kV1 dc1 pm1 an1 cd1 ct1),sl1⟩)
 (c1:PySem.W.codeIn K cd1 "measure_of_two" =true)
 (k1:PySem.W.keepIn K (.ref f1)=true)
 (a2:PySem.W.nsIn K mainGlobals "measure" =some (some (.ref f2)))
 (l2:K.lookup f2=some ⟨oc2,od2,.func (PySem.W.fnOf "measure" "measure" (br kR) (aZ kR) (aC kR) .none kV2 dc2 pm2 an2 cd2 ct2),sl2⟩)
 (c2:PySem.W.codeIn K cd2 "measure" =true)
 (k2:PySem.W.keepIn K (.ref f2)=true)
 (a3:PySem.W.nsIn K mainGlobals "lowest" =some (some (.ref f3)))
 (l3:K.lookup f3=some ⟨oc3,od3,.func (PySem.W.fnOf "lowest" "lowest" (br lN) (aZ lN) (aC lN) .none kV3 dc3 pm3 an3 cd3 ct3),sl3⟩)
 (c3:PySem.W.codeIn K cd3 "lowest" =true)
 (k3:PySem.W.keepIn K (.ref f3)=true)
 (a4:PySem.W.nsIn K mainGlobals "sum_of_products" =some (some (.ref f4)))
 (l4:K.lookup f4=some ⟨oc4,od4,.func (PySem.W.fnOf "sum_of_products" "sum_of_products" (br eK) (aZ eK) (aC eK) .none kV4 dc4 pm4 an4 cd4 ct4),sl4⟩)
 (c4:PySem.W.codeIn K cd4 "sum_of_products" =true)
 (k4:PySem.W.keepIn K (.ref f4)=true)
 (a5:PySem.W.nsIn K mainGlobals "unit" =some (some (.ref f5)))
 (l5:K.lookup f5=some ⟨oc5,od5,.func (PySem.W.fnOf "unit" "unit" (br pR) (aZ pR) (aC pR) .none kV5 dc5 pm5 an5 cd5 ct5),sl5⟩)
 (c5:PySem.W.codeIn K cd5 "unit" =true)
 (k5:PySem.W.keepIn K (.ref f5)=true)
 (a6:PySem.W.nsIn K mainGlobals "units" =some (some (.ref f6)))
 (l6:K.lookup f6=some ⟨oc6,od6,.func (PySem.W.fnOf "units" "units" (br n8) (aZ n8) (aC n8) .none kV6 dc6 pm6 an6 cd6 ct6),sl6⟩)
 (c6:PySem.W.codeIn K cd6 "units" =true)
 (k6:PySem.W.keepIn K (.ref f6)=true)
 (a7:PySem.W.nsIn K mainGlobals "offset" =some (some (.ref f7)))
 (l7:K.lookup f7=some ⟨oc7,od7,.func (PySem.W.fnOf "offset" "offset" (br lY) (aZ lY) (aC lY) .none kV7 dc7 pm7 an7 cd7 ct7),sl7⟩)
 (c7:PySem.W.codeIn K cd7 "offset" =true)
 (k7:PySem.W.keepIn K (.ref f7)=true)
 (a8:PySem.W.nsIn K mainGlobals "places_of" =some (some (.ref f8)))
 (l8:K.lookup f8=some ⟨oc8,od8,.func (PySem.W.fnOf "places_of" "places_of" (br jd) (aZ jd) (aC jd) .none kV8 dc8 pm8 an8 cd8 ct8),sl8⟩)
 (c8:PySem.W.codeIn K cd8 "places_of" =true)
 (k8:PySem.W.keepIn K (.ref f8)=true)
 (a9:PySem.W.nsIn K mainGlobals "is_among" =some (some (.ref f9)))
 (l9:K.lookup f9=some ⟨oc9,od9,.func (PySem.W.fnOf "is_among" "is_among" (br j5) (aZ j5) (aC j5) .none kV9 dc9 pm9 an9 cd9 ct9),sl9⟩)
 (c9:PySem.W.codeIn K cd9 "is_among" =true)
 (k9:PySem.W.keepIn K (.ref f9)=true)
 (a10:PySem.W.nsIn K mainGlobals "are_neighbours" =some (some (.ref f10)))
 (l10:K.lookup f10=some ⟨oc10,od10,.func (PySem.W.fnOf "are_neighbours" "are_neighbours" (br eU) (aZ eU) (aC eU) .none kV10 dc10 pm10 an10 cd10 ct10),sl10⟩)
 (c10:PySem.W.codeIn K cd10 "are_neighbours" =true)
 (k10:PySem.W.keepIn K (.ref f10)=true)
 (a11:PySem.W.nsIn K mainGlobals "lone_by_one_more" =some (some (.ref f11)))
 (l11:K.lookup f11=some ⟨oc11,od11,.func (PySem.W.fnOf "lone_by_one_more" "lone_by_one_more" (br eD) (aZ eD) (aC eD) .none kV11 dc11 pm11 an11 cd11 ct11),sl11⟩)
 (c11:PySem.W.codeIn K cd11 "lone_by_one_more" =true)
 (k11:PySem.W.keepIn K (.ref f11)=true)
 (a12:PySem.W.nsIn K mainGlobals "lone" =some (some (.ref f12)))
 (l12:K.lookup f12=some ⟨oc12,od12,.func (PySem.W.fnOf "lone" "lone" (br pZ) (aZ pZ) (aC pZ) .none kV12 dc12 pm12 an12 cd12 ct12),sl12⟩)
 (c12:PySem.W.codeIn K cd12 "lone" =true)
 (k12:PySem.W.keepIn K (.ref f12)=true)
 (a13:PySem.W.findIn K (.ref C_Yard) "row" =some (some (.ref f13)))
 (q13:PySem.W.isFn K (.ref f13)=true)
 (l13:K.lookup f13=some ⟨oc13,od13,.func (PySem.W.fnOf "row" "Yard.row" (br jX) (aZ jX) (aC jX) .none kV13 dc13 pm13 an13 cd13 ct13),sl13⟩)
 (c13:PySem.W.codeIn K cd13 "Yard.row" =true)
 (k13:PySem.W.keepIn K (.ref f13)=true)
 (a14:PySem.W.findIn K (.ref C_Yard) "rows" =some (some (.ref f14)))
 (q14:PySem.W.isFn K (.ref f14)=true)
 (l14:K.lookup f14=some ⟨oc14,od14,.func (PySem.W.fnOf "rows" "Yard.rows" (br ja) (aZ ja) (aC ja) .none kV14 dc14 pm14 an14 cd14 ct14),sl14⟩)
 (c14:PySem.W.codeIn K cd14 "Yard.rows" =true)
 (k14:PySem.W.keepIn K (.ref f14)=true)
 (a15:PySem.W.findIn K (.ref C_Yard) "names" =some (some (.ref f15)))
 (q15:PySem.W.isFn K (.ref f15)=true)
 (l15:K.lookup f15=some ⟨oc15,od15,.func (PySem.W.fnOf "names" "Yard.names" (br hX) (aZ hX) (aC hX) .none kV15 dc15 pm15 an15 cd15 ct15),sl15⟩)
 (c15:PySem.W.codeIn K cd15 "Yard.names" =true)
 (k15:PySem.W.keepIn K (.ref f15)=true)
 (a16:PySem.W.nsIn K mainGlobals "ways" =some (some (.ref f16)))
 (l16:K.lookup f16=some ⟨oc16,od16,.func (PySem.W.fnOf "ways" "ways" (br p8) (aZ p8) (aC p8) .none kV16 dc16 pm16 an16 cd16 ct16),sl16⟩)
 (c16:PySem.W.codeIn K cd16 "ways" =true)
 (k16:PySem.W.keepIn K (.ref f16)=true)
 (a17:PySem.W.nsIn K mainGlobals "is_name" =some (some (.ref f17)))
 (l17:K.lookup f17=some ⟨oc17,od17,.func (PySem.W.fnOf "is_name" "is_name" (br kU) (aZ kU) (aC kU) .none kV17 dc17 pm17 an17 cd17 ct17),sl17⟩)
 (c17:PySem.W.codeIn K cd17 "is_name" =true)
 (k17:PySem.W.keepIn K (.ref f17)=true)
 (a18:PySem.W.nsIn K mainGlobals "check_many" =some (some (.ref f18)))
 (l18:K.lookup f18=some ⟨oc18,od18,.func (PySem.W.fnOf "check_many" "check_many" (br ip) (aZ ip) (aC ip) .none kV18 dc18 pm18 an18 cd18 ct18),sl18⟩)
 (c18:PySem.W.codeIn K cd18 "check_many" =true)
 (k18:PySem.W.keepIn K (.ref f18)=true)
 (a19:PySem.W.nsIn K mainGlobals "check_name" =some (some (.ref f19)))
 (l19:K.lookup f19=some ⟨oc19,od19,.func (PySem.W.fnOf "check_name" "check_name" (br ic) (aZ ic) (aC ic) .none kV19 dc19 pm19 an19 cd19 ct19),sl19⟩)
 (c19:PySem.W.codeIn K cd19 "check_name" =true)
 (k19:PySem.W.keepIn K (.ref f19)=true)
 (a20:PySem.W.nsIn K mainGlobals "check_goods" =some (some (.ref f20)))
 (l20:K.lookup f20=some ⟨oc20,od20,.func (PySem.W.fnOf "check_goods" "check_goods" (br gr) (aZ gr) (aC gr) .none kV20 dc20 pm20 an20 cd20 ct20),sl20⟩)
 (c20:PySem.W.codeIn K cd20 "check_goods" =true)
 (k20:PySem.W.keepIn K (.ref f20)=true)
 (a21:PySem.W.nsIn K mainGlobals "check_good" =some (some (.ref f21)))
 (l21:K.lookup f21=some ⟨oc21,od21,.func (PySem.W.fnOf "check_good" "check_good" (br ig) (aZ ig) (aC ig) .none kV21 dc21 pm21 an21 cd21 ct21),sl21⟩)
 (c21:PySem.W.codeIn K cd21 "check_good" =true)
 (k21:PySem.W.keepIn K (.ref f21)=true)
 (a22:PySem.W.nsIn K mainGlobals "check_amount" =some (some (.ref f22)))
 (l22:K.lookup f22=some ⟨oc22,od22,.func (PySem.W.fnOf "check_amount" "check_amount" (br fN) (aZ fN) (aC fN) .none kV22 dc22 pm22 an22 cd22 ct22),sl22⟩)
 (c22:PySem.W.codeIn K cd22 "check_amount" =true)
 (k22:PySem.W.keepIn K (.ref f22)=true)
 (a23:PySem.W.nsIn K mainGlobals "check_parts" =some (some (.ref f23)))
 (l23:K.lookup f23=some ⟨oc23,od23,.func (PySem.W.fnOf "check_parts" "check_parts" (br gz) (aZ gz) (aC gz) .none kV23 dc23 pm23 an23 cd23 ct23),sl23⟩)
 (c23:PySem.W.codeIn K cd23 "check_parts" =true)
 (k23:PySem.W.keepIn K (.ref f23)=true)
 (a24:PySem.W.nsIn K mainGlobals "check_works" =some (some (.ref f24)))
 (l24:K.lookup f24=some ⟨oc24,od24,.func (PySem.W.fnOf "check_works" "check_works" (br gk) (aZ gk) (aC gk) .none kV24 dc24 pm24 an24 cd24 ct24),sl24⟩)
 (c24:PySem.W.codeIn K cd24 "check_works" =true)
 (k24:PySem.W.keepIn K (.ref f24)=true)
 (a25:PySem.W.nsIn K mainGlobals "copy_work" =some (some (.ref f25)))
 (l25:K.lookup f25=some ⟨oc25,od25,.func (PySem.W.fnOf "copy_work" "copy_work" (br je) (aZ je) (aC je) .none kV25 dc25 pm25 an25 cd25 ct25),sl25⟩)
 (c25:PySem.W.codeIn K cd25 "copy_work" =true)
 (k25:PySem.W.keepIn K (.ref f25)=true)
 (a26:PySem.W.nsIn K mainGlobals "amount_of" =some (some (.ref f26)))
 (l26:K.lookup f26=some ⟨oc26,od26,.func (PySem.W.fnOf "amount_of" "amount_of" (br iT) (aZ iT) (aC iT) .none kV26 dc26 pm26 an26 cd26 ct26),sl26⟩)
 (c26:PySem.W.codeIn K cd26 "amount_of" =true)
 (k26:PySem.W.keepIn K (.ref f26)=true)
 (a27:PySem.W.nsIn K mainGlobals "change_of" =some (some (.ref f27)))
 (l27:K.lookup f27=some ⟨oc27,od27,.func (PySem.W.fnOf "change_of" "change_of" (br i4) (aZ i4) (aC i4) .none kV27 dc27 pm27 an27 cd27 ct27),sl27⟩)
 (c27:PySem.W.codeIn K cd27 "change_of" =true)
 (k27:PySem.W.keepIn K (.ref f27)=true)
 (a28:PySem.W.findIn K (.ref C_Yard) "__init__" =some (some (.ref f28)))
 (q28:PySem.W.isFn K (.ref f28)=true)
 (l28:K.lookup f28=some ⟨oc28,od28,.func (PySem.W.fnOf "__init__" "Yard.__init__" (br iX) (aZ iX) (aC iX) .none kV28 dc28 pm28 an28 cd28 ct28),sl28⟩)
 (c28:PySem.W.codeIn K cd28 "Yard.__init__" =true)
 (k28:PySem.W.keepIn K (.ref f28)=true)
 (a29:PySem.W.nsIn K mainGlobals "_law_cell" =some (some (.ref f29)))
 (l29:K.lookup f29=some ⟨oc29,od29,.func (PySem.W.fnOf "_law_cell" "_law_cell" (br jU) (aZ jU) (aC jU) .none kV29 dc29 pm29 an29 cd29 ct29),sl29⟩)
 (c29:PySem.W.codeIn K cd29 "_law_cell" =true)
 (k29:PySem.W.keepIn K (.ref f29)=true)
 (a30:PySem.W.nsIn K mainGlobals "_law_pick" =some (some (.ref f30)))
 (l30:K.lookup f30=some ⟨oc30,od30,.func (PySem.W.fnOf "_law_pick" "_law_pick" (br jL) (aZ jL) (aC jL) .none kV30 dc30 pm30 an30 cd30 ct30),sl30⟩)
 (c30:PySem.W.codeIn K cd30 "_law_pick" =true)
 (k30:PySem.W.keepIn K (.ref f30)=true)
 (a31:PySem.W.nsIn K mainGlobals "_law_names" =some (some (.ref f31)))
 (l31:K.lookup f31=some ⟨oc31,od31,.func (PySem.W.fnOf "_law_names" "_law_names" (br jb) (aZ jb) (aC jb) .none kV31 dc31 pm31 an31 cd31 ct31),sl31⟩)
 (c31:PySem.W.codeIn K cd31 "_law_names" =true)
 (k31:PySem.W.keepIn K (.ref f31)=true)
 (a32:PySem.W.nsIn K mainGlobals "_law_move" =some (some (.ref f32)))
 (l32:K.lookup f32=some ⟨oc32,od32,.func (PySem.W.fnOf "_law_move" "_law_move" (br jZ) (aZ jZ) (aC jZ) .none kV32 dc32 pm32 an32 cd32 ct32),sl32⟩)
 (c32:PySem.W.codeIn K cd32 "_law_move" =true)
 (k32:PySem.W.keepIn K (.ref f32)=true)
 (a33:PySem.W.nsIn K mainGlobals "_law_moves" =some (some (.ref f33)))
 (l33:K.lookup f33=some ⟨oc33,od33,.func (PySem.W.fnOf "_law_moves" "_law_moves" (br i5) (aZ i5) (aC i5) .none kV33 dc33 pm33 an33 cd33 ct33),sl33⟩)
 (c33:PySem.W.codeIn K cd33 "_law_moves" =true)
 (k33:PySem.W.keepIn K (.ref f33)=true)
 (a34:PySem.W.nsIn K mainGlobals "_law_works" =some (some (.ref f34)))
 (l34:K.lookup f34=some ⟨oc34,od34,.func (PySem.W.fnOf "_law_works" "_law_works" (br iW) (aZ iW) (aC iW) .none kV34 dc34 pm34 an34 cd34 ct34),sl34⟩)
 (c34:PySem.W.codeIn K cd34 "_law_works" =true)
 (k34:PySem.W.keepIn K (.ref f34)=true)
 (a35:PySem.W.nsIn K mainGlobals "_law_left" =some (some (.ref f35)))
 (l35:K.lookup f35=some ⟨oc35,od35,.func (PySem.W.fnOf "_law_left" "_law_left" (br jV) (aZ jV) (aC jV) .none kV35 dc35 pm35 an35 cd35 ct35),sl35⟩)
 (c35:PySem.W.codeIn K cd35 "_law_left" =true)
 (k35:PySem.W.keepIn K (.ref f35)=true)
 (a36:PySem.W.nsIn K mainGlobals "_law_common" =some (some (.ref f36)))
 (l36:K.lookup f36=some ⟨oc36,od36,.func (PySem.W.fnOf "_law_common" "_law_common" (br gW) (aZ gW) (aC gW) .none kV36 dc36 pm36 an36 cd36 ct36),sl36⟩)
 (c36:PySem.W.codeIn K cd36 "_law_common" =true)
 (k36:PySem.W.keepIn K (.ref f36)=true)
 (a37:PySem.W.nsIn K mainGlobals "_law_places" =some (some (.ref f37)))
 (l37:K.lookup f37=some ⟨oc37,od37,.func (PySem.W.fnOf "_law_places" "_law_places" (br hJ) (aZ hJ) (aC hJ) .none kV37 dc37 pm37 an37 cd37 ct37),sl37⟩)
 (c37:PySem.W.codeIn K cd37 "_law_places" =true)
 (k37:PySem.W.keepIn K (.ref f37)=true)
 (a38:PySem.W.nsIn K mainGlobals "_law_numbers" =some (some (.ref f38)))
 (l38:K.lookup f38=some ⟨oc38,od38,.func (PySem.W.fnOf "_law_numbers" "_law_numbers" (br gw) (aZ gw) (aC gw) .none kV38 dc38 pm38 an38 cd38 ct38),sl38⟩)
 (c38:PySem.W.codeIn K cd38 "_law_numbers" =true)
 (k38:PySem.W.keepIn K (.ref f38)=true)
 (a39:PySem.W.nsIn K mainGlobals "_law_lonely" =some (some (.ref f39)))
 (l39:K.lookup f39=some ⟨oc39,od39,.func (PySem.W.fnOf "_law_lonely" "_law_lonely" (br hE) (aZ hE) (aC hE) .none kV39 dc39 pm39 an39 cd39 ct39),sl39⟩)
 (c39:PySem.W.codeIn K cd39 "_law_lonely" =true)
 (k39:PySem.W.keepIn K (.ref f39)=true)
 (a40:PySem.W.nsIn K mainGlobals "law" =some (some (.ref f40)))
 (l40:K.lookup f40=some ⟨oc40,od40,.func (PySem.W.fnOf "law" "law" (br nE) (aZ nE) (aC nE) .none kV40 dc40 pm40 an40 cd40 ct40),sl40⟩)
 (c40:PySem.W.codeIn K cd40 "law" =true)
 (k40:PySem.W.keepIn K (.ref f40)=true)
 (z_isinstance:PySem.W.nsIn K mainGlobals "isinstance" =some none)
 (z_int:PySem.W.nsIn K mainGlobals "int" =some none)
 (z_bool:PySem.W.nsIn K mainGlobals "bool" =some none)
 (z_abs:PySem.W.nsIn K mainGlobals "abs" =some none)
 (z_list:PySem.W.nsIn K mainGlobals "list" =some none)
 (z_zip:PySem.W.nsIn K mainGlobals "zip" =some none)
 (z_sum:PySem.W.nsIn K mainGlobals "sum" =some none)
 (z_range:PySem.W.nsIn K mainGlobals "range" =some none)
 (z_len:PySem.W.nsIn K mainGlobals "len" =some none)
 (z_enumerate:PySem.W.nsIn K mainGlobals "enumerate" =some none)
 (z_sorted:PySem.W.nsIn K mainGlobals "sorted" =some none)
 (z_all:PySem.W.nsIn K mainGlobals "all" =some none)
 (z_max:PySem.W.nsIn K mainGlobals "max" =some none)
 (z_min:PySem.W.nsIn K mainGlobals "min" =some none)
 (y_MOST_LETTERS:PySem.W.nsIn K mainGlobals "MOST_LETTERS" =some (some (.int 8 t_MOST_LETTERS)))
 (y_MOST_GOODS:PySem.W.nsIn K mainGlobals "MOST_GOODS" =some (some (.int 10 t_MOST_GOODS)))
 (y_MOST_WORKS:PySem.W.nsIn K mainGlobals "MOST_WORKS" =some (some (.int 10 t_MOST_WORKS))):
 ∃fd:FuncData,(∀(s:Shared) (v:Value),BindsTo s fd ⟨[v],[]⟩ [("_law_script",v)])/\∀base:Heap,K.In base->base.Ns mainGlobals mg->fV l.prog w K mg base (CXE l.prog w) 42 fa fd ["_law_script"] (spM K (caK K) 1 yH):=by
 have e:=hfa.symm.trans (PySem.W.mg_of X G a40)
 cases e
 have hC_Yard:caK K 0=C_Yard:=by show clsAt K "Yard" =_;unfold clsAt;rw[aC_Yard]
 have cl_Yard:Cls K (caK K 0):=by rw[hC_Yard];exact⟨g1_Yard,g2_Yard,g3_Yard,g4_Yard⟩
 have na_Yard_held_changes:fm K (caK K 0) "held_changes" :=by rw[hC_Yard];exact nf_Yard_held_changes
 have na_Yard_held_goods:fm K (caK K 0) "held_goods" :=by rw[hC_Yard];exact nf_Yard_held_goods
 have na_Yard_held_works:fm K (caK K 0) "held_works" :=by rw[hC_Yard];exact nf_Yard_held_works
 have F0:=bG (st:=j4) l0 c0 k0
 have F1:=bG (st:=eV) l1 c1 k1
 have F2:=bG (st:=kR) l2 c2 k2
 have F3:=bG (st:=lN) l3 c3 k3
 have F4:=bG (st:=eK) l4 c4 k4
 have F5:=bG (st:=pR) l5 c5 k5
 have F6:=bG (st:=n8) l6 c6 k6
 have F7:=bG (st:=lY) l7 c7 k7
 have F8:=bG (st:=jd) l8 c8 k8
 have F9:=bG (st:=j5) l9 c9 k9
 have F10:=bG (st:=eU) l10 c10 k10
 have F11:=bG (st:=eD) l11 c11 k11
 have F12:=bG (st:=pZ) l12 c12 k12
 have F13:=bG (st:=jX) l13 c13 k13
 have F14:=bG (st:=ja) l14 c14 k14
 have F15:=bG (st:=hX) l15 c15 k15
 have F16:=bG (st:=p8) l16 c16 k16
 have F17:=bG (st:=kU) l17 c17 k17
 have F18:=bG (st:=ip) l18 c18 k18
 have F19:=bG (st:=ic) l19 c19 k19
 have F20:=bG (st:=gr) l20 c20 k20
 have F21:=bG (st:=ig) l21 c21 k21
 have F22:=bG (st:=fN) l22 c22 k22
 have F23:=bG (st:=gz) l23 c23 k23
 have F24:=bG (st:=gk) l24 c24 k24
 have F25:=bG (st:=je) l25 c25 k25
 have F26:=bG (st:=iT) l26 c26 k26
 have F27:=bG (st:=i4) l27 c27 k27
 have F28:=bG (st:=iX) l28 c28 k28
 have F29:=bG (st:=jU) l29 c29 k29
 have F30:=bG (st:=jL) l30 c30 k30
 have F31:=bG (st:=jb) l31 c31 k31
 have F32:=bG (st:=jZ) l32 c32 k32
 have F33:=bG (st:=i5) l33 c33 k33
 have F34:=bG (st:=iW) l34 c34 k34
 have F35:=bG (st:=jV) l35 c35 k35
 have F36:=bG (st:=gW) l36 c36 k36
 have F37:=bG (st:=hJ) l37 c37 k37
 have F38:=bG (st:=gw) l38 c38 k38
 have F39:=bG (st:=hE) l39 c39 k39
 have F40:=bG (st:=nE) l40 c40 k40
 refine⟨PySem.W.fnOf "law" "law" (br nE) (aZ nE) (aC nE) .none kV40 dc40 pm40 an40 cd40 ct40,λs v=>.of_eq rfl,λbase _ _=> ?_⟩
 have E_is_whole:=B7 (P:=l.prog) (w:=w) (mg:=mg) (base:=base) (ca:=caK K) F0 (PySem.W.mg_of X G a0) hpt (PySem.W.mg_none_of X G z_isinstance) (PySem.W.mg_none_of X G z_int) (PySem.W.mg_none_of X G z_bool)
 have E_measure_of_two:=tV (P:=l.prog) (w:=w) (mg:=mg) (base:=base) (ca:=caK K) F1 (PySem.W.mg_of X G a1) hpt (PySem.W.mg_none_of X G z_abs)
 have E_measure:=Df (P:=l.prog) (w:=w) (mg:=mg) (base:=base) (ca:=caK K) F2 (PySem.W.mg_of X G a2) hpt E_measure_of_two.in
 have E_lowest:=FL (P:=l.prog) (w:=w) (mg:=mg) (base:=base) (ca:=caK K) F3 (PySem.W.mg_of X G a3) hpt (PySem.W.mg_none_of X G z_list) E_measure.in
 have E_sum_of_products:=rE (P:=l.prog) (w:=w) (mg:=mg) (base:=base) (ca:=caK K) F4 (PySem.W.mg_of X G a4) hpt (PySem.W.mg_none_of X G z_zip) (PySem.W.mg_none_of X G z_sum)
 have E_unit:=Jp (P:=l.prog) (w:=w) (mg:=mg) (base:=base) (ca:=caK K) F5 (PySem.W.mg_of X G a5) hpt
 have E_units:=GI (P:=l.prog) (w:=w) (mg:=mg) (base:=base) (ca:=caK K) F6 (PySem.W.mg_of X G a6) hpt (PySem.W.mg_none_of X G z_range) E_unit.in
 have E_offset:=E5 (P:=l.prog) (w:=w) (mg:=mg) (base:=base) (ca:=caK K) F7 (PySem.W.mg_of X G a7) hpt (PySem.W.mg_none_of X G z_zip) E_lowest.in
 have E_places_of:=Au (P:=l.prog) (w:=w) (mg:=mg) (base:=base) (ca:=caK K) F8 (PySem.W.mg_of X G a8) hpt
 have E_is_among:=BM (P:=l.prog) (w:=w) (mg:=mg) (base:=base) (ca:=caK K) F9 (PySem.W.mg_of X G a9) hpt
 have E_are_neighbours:=tW (P:=l.prog) (w:=w) (mg:=mg) (base:=base) (ca:=caK K) F10 (PySem.W.mg_of X G a10) hpt (PySem.W.mg_none_of X G z_len) E_is_among.in
 have E_lone_by_one_more:=rf (P:=l.prog) (w:=w) (mg:=mg) (base:=base) (ca:=caK K) F11 (PySem.W.mg_of X G a11) hpt (PySem.W.mg_none_of X G z_zip) (PySem.W.mg_none_of X G z_enumerate) E_sum_of_products.in E_places_of.in E_are_neighbours.in E_offset.in
 have E_lone:=J2 (P:=l.prog) (w:=w) (mg:=mg) (base:=base) (ca:=caK K) F12 (PySem.W.mg_of X G a12) hpt (PySem.W.mg_none_of X G z_sorted) E_units.in E_lone_by_one_more.in
 have E_Yard_row:=BF (P:=l.prog) (w:=w) (mg:=mg) (base:=base) (ca:=caK K) F13 (by rw[hC_Yard];exact⟨a13,q13,k13⟩) hpt cl_Yard na_Yard_held_changes
 have E_Yard_rows:=zY (P:=l.prog) (w:=w) (mg:=mg) (base:=base) (ca:=caK K) F14 (by rw[hC_Yard];exact⟨a14,q14,k14⟩) hpt (PySem.W.mg_none_of X G z_len) (PySem.W.mg_none_of X G z_range) cl_Yard na_Yard_held_goods E_Yard_row
 have E_Yard_names:=yo (P:=l.prog) (w:=w) (mg:=mg) (base:=base) (ca:=caK K) F15 (by rw[hC_Yard];exact⟨a15,q15,k15⟩) hpt cl_Yard na_Yard_held_works
 have E_ways:=JX (P:=l.prog) (w:=w) (mg:=mg) (base:=base) (ca:=caK K) F16 (PySem.W.mg_of X G a16) hpt (PySem.W.mg_none_of X G z_len) cl_Yard E_lone.in E_Yard_rows E_Yard_names
 have E_is_name:=DZ (P:=l.prog) (w:=w) (mg:=mg) (base:=base) (ca:=caK K) F17 (PySem.W.mg_of X G a17) hpt (PySem.W.mg_none_of X G z_len) (PySem.W.mg_none_of X G z_all) ⟨_,PySem.W.mg_of X G y_MOST_LETTERS⟩
 have E_check_many:=yz (P:=l.prog) (w:=w) (mg:=mg) (base:=base) (ca:=caK K) F18 (PySem.W.mg_of X G a18) hpt (PySem.W.mg_none_of X G z_len) ⟨_,PySem.W.mg_of X G y_MOST_GOODS⟩ ⟨_,PySem.W.mg_of X G y_MOST_WORKS⟩
 have E_check_name:=xW (P:=l.prog) (w:=w) (mg:=mg) (base:=base) (ca:=caK K) F19 (PySem.W.mg_of X G a19) hpt E_is_name.in
 have E_check_goods:=wq (P:=l.prog) (w:=w) (mg:=mg) (base:=base) (ca:=caK K) F20 (PySem.W.mg_of X G a20) hpt (PySem.W.mg_none_of X G z_enumerate) E_check_name.in
 have E_check_good:=ym (P:=l.prog) (w:=w) (mg:=mg) (base:=base) (ca:=caK K) F21 (PySem.W.mg_of X G a21) hpt
 have E_check_amount:=vg (P:=l.prog) (w:=w) (mg:=mg) (base:=base) (ca:=caK K) F22 (PySem.W.mg_of X G a22) hpt E_is_whole.in
 have E_check_parts:=wc (P:=l.prog) (w:=w) (mg:=mg) (base:=base) (ca:=caK K) F23 (PySem.W.mg_of X G a23) hpt E_check_good.in E_check_amount.in
 have E_check_works:=wI (P:=l.prog) (w:=w) (mg:=mg) (base:=base) (ca:=caK K) F24 (PySem.W.mg_of X G a24) hpt E_check_name.in E_check_parts.in
 have E_copy_work:=Ak (P:=l.prog) (w:=w) (mg:=mg) (base:=base) (ca:=caK K) F25 (PySem.W.mg_of X G a25) hpt (PySem.W.mg_none_of X G z_list)
 have E_amount_of:=AI (P:=l.prog) (w:=w) (mg:=mg) (base:=base) (ca:=caK K) F26 (PySem.W.mg_of X G a26) hpt (PySem.W.mg_none_of X G z_sum)
 have E_change_of:=AL (P:=l.prog) (w:=w) (mg:=mg) (base:=base) (ca:=caK K) F27 (PySem.W.mg_of X G a27) hpt E_amount_of.in
 have E_Yard_init:=zE (P:=l.prog) (w:=w) (mg:=mg) (base:=base) (ca:=caK K) F28 (by rw[hC_Yard];exact⟨mk_Yard,a28,q28,kC_Yard⟩) (by rw[hC_Yard];exact PySem.W.mg_of X G aC_Yard) hpt (PySem.W.mg_none_of X G z_list) cl_Yard na_Yard_held_goods na_Yard_held_works na_Yard_held_changes E_check_many.in E_check_goods.in E_check_works.in E_copy_work.in E_change_of.in
 have E_law_cell:=By (P:=l.prog) (w:=w) (mg:=mg) (base:=base) (ca:=caK K) F29 (PySem.W.mg_of X G a29) hpt (PySem.W.mg_none_of X G z_len)
 have E_law_pick:=Bw (P:=l.prog) (w:=w) (mg:=mg) (base:=base) (ca:=caK K) F30 (PySem.W.mg_of X G a30) hpt
 have E_law_names:=AZ (P:=l.prog) (w:=w) (mg:=mg) (base:=base) (ca:=caK K) F31 (PySem.W.mg_of X G a31) hpt (PySem.W.mg_none_of X G z_range) (PySem.W.mg_none_of X G z_len) E_law_pick.in
 have E_law_move:=BG (P:=l.prog) (w:=w) (mg:=mg) (base:=base) (ca:=caK K) F32 (PySem.W.mg_of X G a32) hpt (PySem.W.mg_none_of X G z_int) (PySem.W.mg_none_of X G z_range) E_law_pick.in
 have E_law_moves:=AD (P:=l.prog) (w:=w) (mg:=mg) (base:=base) (ca:=caK K) F33 (PySem.W.mg_of X G a33) hpt (PySem.W.mg_none_of X G z_int) (PySem.W.mg_none_of X G z_range) (PySem.W.mg_none_of X G z_len) (PySem.W.mg_none_of X G z_sum) (PySem.W.mg_none_of X G z_list) E_law_cell.in E_law_pick.in E_law_move.in
 have E_law_works:=Ae (P:=l.prog) (w:=w) (mg:=mg) (base:=base) (ca:=caK K) F34 (PySem.W.mg_of X G a34) hpt (PySem.W.mg_none_of X G z_enumerate) (PySem.W.mg_none_of X G z_max) E_law_pick.in
 have E_law_left:=BW (P:=l.prog) (w:=w) (mg:=mg) (base:=base) (ca:=caK K) F35 (PySem.W.mg_of X G a35) hpt (PySem.W.mg_none_of X G z_range) (PySem.W.mg_none_of X G z_len) (PySem.W.mg_none_of X G z_sum)
 have E_law_common:=yu (P:=l.prog) (w:=w) (mg:=mg) (base:=base) (ca:=caK K) F36 (PySem.W.mg_of X G a36) hpt (PySem.W.mg_none_of X G z_abs)
 have E_law_places:=yj (P:=l.prog) (w:=w) (mg:=mg) (base:=base) (ca:=caK K) F37 (PySem.W.mg_of X G a37) hpt (PySem.W.mg_none_of X G z_enumerate)
 have E_law_numbers:=vZ (P:=l.prog) (w:=w) (mg:=mg) (base:=base) (ca:=caK K) F38 (PySem.W.mg_of X G a38) hpt (PySem.W.mg_none_of X G z_isinstance) (PySem.W.mg_none_of X G z_list) (PySem.W.mg_none_of X G z_len) (PySem.W.mg_none_of X G z_int) (PySem.W.mg_none_of X G z_bool) (PySem.W.mg_none_of X G z_all)
 have E_law_lonely:=yp (P:=l.prog) (w:=w) (mg:=mg) (base:=base) (ca:=caK K) F39 (PySem.W.mg_of X G a39) hpt (PySem.W.mg_none_of X G z_isinstance) (PySem.W.mg_none_of X G z_list) (PySem.W.mg_none_of X G z_all) (PySem.W.mg_none_of X G z_min) (PySem.W.mg_none_of X G z_len) (PySem.W.mg_none_of X G z_sorted) E_law_numbers.in E_law_common.in E_law_places.in
 have E_law:=Kv (P:=l.prog) (w:=w) (mg:=mg) (base:=base) (ca:=caK K) F40 (PySem.W.mg_of X G a40) hpt (PySem.W.mg_none_of X G z_len) (PySem.W.mg_none_of X G z_range) (PySem.W.mg_none_of X G z_list) E_law_cell.in E_law_pick.in E_law_moves.in E_law_names.in E_Yard_init E_law_works.in E_ways.in E_law_lonely.in E_law_left.in
 exact E_law.1
end Lk21
open PySem PySem.W PyProof.Rows
theorem PySem.W.Fast.tw10839277389402228713:True:=⟨⟩
theorem PySem.W.Fast.tw4573823966786826001:True:=⟨⟩
theorem PySem.W.Fast.tw8868914869686640158:True:=⟨⟩
theorem PySem.W.Fast.tw13257373239059547244:True:=⟨⟩
theorem PySem.W.Fast.tw17979880526537667716:True:=⟨⟩
theorem PySem.W.Fast.tw15873391678744694574:True:=⟨⟩
theorem PySem.W.Fast.tw5413555460940546313:True:=⟨⟩
theorem PySem.W.Fast.tw10485320132238248320:True:=⟨⟩
theorem PySem.W.Fast.tw46518006893455202:True:=⟨⟩
theorem PySem.W.Fast.tw9203023180084959989:True:=⟨⟩
theorem PySem.W.Fast.tw11715057524530751760:True:=⟨⟩
theorem PySem.W.Fast.tw7702893928074868295:True:=⟨⟩
theorem PySem.W.Fast.tw17840859249380134481:True:=⟨⟩
theorem PySem.W.Fast.tw3774084492254615936:True:=⟨⟩
theorem PySem.W.Fast.tw3756412418024641193:True:=⟨⟩
theorem PySem.W.Fast.tw13697074357270648414:True:=⟨⟩
theorem PySem.W.Fast.tw7170059787660348142:True:=⟨⟩
theorem PySem.W.Fast.tw5468860924083479674:True:=⟨⟩
theorem PySem.W.Fast.tw9866588955420710652:True:=⟨⟩
theorem PySem.W.Fast.tw3378525582286635772:True:=⟨⟩
theorem PySem.W.Fast.tw8147026789577298942:True:=⟨⟩
theorem PySem.W.Fast.tw1682797281512755186:True:=⟨⟩
theorem PySem.W.Fast.tw18445846049079492250:True:=⟨⟩
theorem PySem.W.Fast.tw9661737905240054408:True:=⟨⟩
theorem PySem.W.Fast.tw16934750374359608049:True:=⟨⟩
theorem PySem.W.Fast.tw10672326365389996176:True:=⟨⟩
theorem PySem.W.Fast.tw6678023013132241042:True:=⟨⟩
theorem PySem.W.Fast.tw9033102961083810684:True:=⟨⟩
theorem PySem.W.Fast.tw4377477541549352147:True:=⟨⟩
theorem PySem.W.Fast.tw694599910773894994:True:=⟨⟩
theorem PySem.W.Fast.tw7443940769270983128:True:=⟨⟩
theorem PySem.W.Fast.tw117352902041935563:True:=⟨⟩
theorem PySem.W.Fast.tw10426657519285614824:True:=⟨⟩
theorem PySem.W.Fast.tw16704992095338877163:True:=⟨⟩
theorem PySem.W.Fast.tw13924593143946525943:True:=⟨⟩
theorem PySem.W.Fast.tw10693336660242687080:True:=⟨⟩
theorem PySem.W.Fast.tw9863265561147702702:True:=⟨⟩
theorem PySem.W.Fast.tw9190802125113404025:True:=⟨⟩
theorem PySem.W.Fast.tw10529705569191859862:True:=⟨⟩
theorem PySem.W.Fast.tw17556356754902417987:True:=⟨⟩
theorem PySem.W.Fast.tw3842271823491333992:True:=⟨⟩
theorem PySem.W.Fast.tw15043650134702986046:True:=⟨⟩
theorem PySem.W.Fast.tw526435136211812875:True:=⟨⟩
theorem PySem.W.Fast.tw10734048438136577306:True:=⟨⟩
theorem PySem.W.Fast.tw14912748258103851137:True:=⟨⟩
theorem PySem.W.Fast.tw11701356533005714761:True:=⟨⟩
theorem PySem.W.Fast.tw8005508164801846030:True:=⟨⟩
theorem PySem.W.Fast.tw8585974412110662027:True:=⟨⟩
theorem PySem.W.Fast.tw4930584345546189882:True:=⟨⟩
theorem PySem.W.Fast.tw17891807986898592654:True:=⟨⟩
theorem PySem.W.Fast.tw14964597290935252537:True:=⟨⟩
theorem PySem.W.Fast.tw8145041001786519167:True:=⟨⟩
theorem PySem.W.Fast.tw13461184265667544187:True:=⟨⟩
theorem PySem.W.Fast.tw5398250712021212462:True:=⟨⟩
theorem PySem.W.Fast.tw13362339958156212181:True:=⟨⟩
theorem PySem.W.Fast.tw11657404011527019546:True:=⟨⟩
theorem PySem.W.Fast.tw9825786296978708139:True:=⟨⟩
theorem PySem.W.Fast.tw8689989083473590653:True:=⟨⟩
theorem PySem.W.Fast.tw6325393782845929617:True:=⟨⟩
theorem PySem.W.Fast.tw2975998615471098677:True:=⟨⟩
set_option maxRecDepth 100000 in
set_option maxHeartbeats 0 in
theorem PySem.Challenge.cw_modeyard_k21_lone_ways_holds : PySem.Challenge.rw_modeyard_k21_lone_ways.Holds := by
 w_on;o_law;k_head;(case hw=>w_witness2)
 k_fill
 refine L2.GO (l:=PySem.Challenge.rw_modeyard_k21_lone_ways) (n:=63) (k:=42) (x:="_law_script") (sp:=λK=>M.spM K (Lk21.caK K) 1 Lk21.yH) rfl (by decide) rfl ⟨rfl,by decide,by decide⟩ (by decide +kernel) (λw h Y=>PySem.W.kIn_of Y) ?F ?S
 case F=>
  intro w mg fa h KX G hmg
  refine' Lk21.all_mk KX G hmg rfl ?aC_Yard ?g1_Yard ?g2_Yard ?g3_Yard ?g4_Yard ?mk_Yard ?kC_Yard ?nf_Yard_held_changes ?nf_Yard_held_goods ?nf_Yard_held_works ?a0 ?l0 ?c0 ?k0 ?a1 ?l1 ?c1 ?k1 ?a2 ?l2 ?c2 ?k2 ?a3 ?l3 ?c3 ?k3 ?a4 ?l4 ?c4 ?k4 ?a5 ?l5 ?c5 ?k5 ?a6 ?l6 ?c6 ?k6 ?a7 ?l7 ?c7 ?k7 ?a8 ?l8 ?c8 ?k8 ?a9 ?l9 ?c9 ?k9 ?a10 ?l10 ?c10 ?k10 ?a11 ?l11 ?c11 ?k11 ?a12 ?l12 ?c12 ?k12 ?a13 ?q13 ?l13 ?c13 ?k13 ?a14 ?q14 ?l14 ?c14 ?k14 ?a15 ?q15 ?l15 ?c15 ?k15 ?a16 ?l16 ?c16 ?k16 ?a17 ?l17 ?c17 ?k17 ?a18 ?l18 ?c18 ?k18 ?a19 ?l19 ?c19 ?k19 ?a20 ?l20 ?c20 ?k20 ?a21 ?l21 ?c21 ?k21 ?a22 ?l22 ?c22 ?k22 ?a23 ?l23 ?c23 ?k23 ?a24 ?l24 ?c24 ?k24 ?a25 ?l25 ?c25 ?k25 ?a26 ?l26 ?c26 ?k26 ?a27 ?l27 ?c27 ?k27 ?a28 ?q28 ?l28 ?c28 ?k28 ?a29 ?l29 ?c29 ?k29 ?a30 ?l30 ?c30 ?k30 ?a31 ?l31 ?c31 ?k31 ?a32 ?l32 ?c32 ?k32 ?a33 ?l33 ?c33 ?k33 ?a34 ?l34 ?c34 ?k34 ?a35 ?l35 ?c35 ?k35 ?a36 ?l36 ?c36 ?k36 ?a37 ?l37 ?c37 ?k37 ?a38 ?l38 ?c38 ?k38 ?a39 ?l39 ?c39 ?k39 ?a40 ?l40 ?c40 ?k40 ?z_isinstance ?z_int ?z_bool ?z_abs ?z_list ?z_zip ?z_sum ?z_range ?z_len ?z_enumerate ?z_sorted ?z_all ?z_max ?z_min ?y_MOST_LETTERS ?y_MOST_GOODS ?y_MOST_WORKS
  (case aC_Yard=>k_is)
  (case g1_Yard=>k_is)
  (case g2_Yard=>k_is)
  (case g3_Yard=>k_is)
  (case g4_Yard=>k_is)
  (case mk_Yard=>k_is)
  (case kC_Yard=>k_is)
  (case nf_Yard_held_changes=>k_is)
  (case nf_Yard_held_goods=>k_is)
  (case nf_Yard_held_works=>k_is)
  (case a0=>k_is)
  (case l0=>k_is)
  (case c0=>k_is)
  (case k0=>k_is)
  (case a1=>k_is)
  (case l1=>k_is)
  (case c1=>k_is)
  (case k1=>k_is)
  (case a2=>k_is)
  (case l2=>k_is)
  (case c2=>k_is)
  (case k2=>k_is)
  (case a3=>k_is)
  (case l3=>k_is)
  (case c3=>k_is)
  (case k3=>k_is)
  (case a4=>k_is)
  (case l4=>k_is)
  (case c4=>k_is)
  (case k4=>k_is)
  (case a5=>k_is)
  (case l5=>k_is)
  (case c5=>k_is)
  (case k5=>k_is)
  (case a6=>k_is)
  (case l6=>k_is)
  (case c6=>k_is)
  (case k6=>k_is)
  (case a7=>k_is)
  (case l7=>k_is)
  (case c7=>k_is)
  (case k7=>k_is)
  (case a8=>k_is)
  (case l8=>k_is)
  (case c8=>k_is)
  (case k8=>k_is)
  (case a9=>k_is)
  (case l9=>k_is)
  (case c9=>k_is)
  (case k9=>k_is)
  (case a10=>k_is)
  (case l10=>k_is)
  (case c10=>k_is)
  (case k10=>k_is)
  (case a11=>k_is)
  (case l11=>k_is)
  (case c11=>k_is)
  (case k11=>k_is)
  (case a12=>k_is)
  (case l12=>k_is)
  (case c12=>k_is)
  (case k12=>k_is)
  (case a13=>k_is)
  (case q13=>k_is)
  (case l13=>k_is)
  (case c13=>k_is)
  (case k13=>k_is)
  (case a14=>k_is)
  (case q14=>k_is)
  (case l14=>k_is)
  (case c14=>k_is)
  (case k14=>k_is)
  (case a15=>k_is)
  (case q15=>k_is)
  (case l15=>k_is)
  (case c15=>k_is)
  (case k15=>k_is)
  (case a16=>k_is)
  (case l16=>k_is)
  (case c16=>k_is)
  (case k16=>k_is)
  (case a17=>k_is)
  (case l17=>k_is)
  (case c17=>k_is)
  (case k17=>k_is)
  (case a18=>k_is)
  (case l18=>k_is)
  (case c18=>k_is)
  (case k18=>k_is)
  (case a19=>k_is)
  (case l19=>k_is)
  (case c19=>k_is)
  (case k19=>k_is)
  (case a20=>k_is)
  (case l20=>k_is)
  (case c20=>k_is)
  (case k20=>k_is)
  (case a21=>k_is)
  (case l21=>k_is)
  (case c21=>k_is)
  (case k21=>k_is)
  (case a22=>k_is)
  (case l22=>k_is)
  (case c22=>k_is)
  (case k22=>k_is)
  (case a23=>k_is)
  (case l23=>k_is)
  (case c23=>k_is)
  (case k23=>k_is)
  (case a24=>k_is)
  (case l24=>k_is)
  (case c24=>k_is)
  (case k24=>k_is)
  (case a25=>k_is)
  (case l25=>k_is)
  (case c25=>k_is)
  (case k25=>k_is)
  (case a26=>k_is)
  (case l26=>k_is)
  (case c26=>k_is)
  (case k26=>k_is)
  (case a27=>k_is)
  (case l27=>k_is)
  (case c27=>k_is)
  (case k27=>k_is)
  (case a28=>k_is)
  (case q28=>k_is)
  (case l28=>k_is)
  (case c28=>k_is)
  (case k28=>k_is)
  (case a29=>k_is)
  (case l29=>k_is)
  (case c29=>k_is)
  (case k29=>k_is)
  (case a30=>k_is)
  (case l30=>k_is)
  (case c30=>k_is)
  (case k30=>k_is)
  (case a31=>k_is)
  (case l31=>k_is)
  (case c31=>k_is)
  (case k31=>k_is)
  (case a32=>k_is)
  (case l32=>k_is)
  (case c32=>k_is)
  (case k32=>k_is)
  (case a33=>k_is)
  (case l33=>k_is)
  (case c33=>k_is)
  (case k33=>k_is)
  (case a34=>k_is)
  (case l34=>k_is)
  (case c34=>k_is)
  (case k34=>k_is)
  (case a35=>k_is)
  (case l35=>k_is)
  (case c35=>k_is)
  (case k35=>k_is)
  (case a36=>k_is)
  (case l36=>k_is)
  (case c36=>k_is)
  (case k36=>k_is)
  (case a37=>k_is)
  (case l37=>k_is)
  (case c37=>k_is)
  (case k37=>k_is)
  (case a38=>k_is)
  (case l38=>k_is)
  (case c38=>k_is)
  (case k38=>k_is)
  (case a39=>k_is)
  (case l39=>k_is)
  (case c39=>k_is)
  (case k39=>k_is)
  (case a40=>k_is)
  (case l40=>k_is)
  (case c40=>k_is)
  (case k40=>k_is)
  (case z_isinstance=>k_is)
  (case z_int=>k_is)
  (case z_bool=>k_is)
  (case z_abs=>k_is)
  (case z_list=>k_is)
  (case z_zip=>k_is)
  (case z_sum=>k_is)
  (case z_range=>k_is)
  (case z_len=>k_is)
  (case z_enumerate=>k_is)
  (case z_sorted=>k_is)
  (case z_all=>k_is)
  (case z_max=>k_is)
  (case z_min=>k_is)
  (case y_MOST_LETTERS=>k_is)
  (case y_MOST_GOODS=>k_is)
  (case y_MOST_WORKS=>k_is)
 case S=>exact λK H a ns hl _ hS=>M.LN hS (Lk21.Gi ns hl)